import PyProof.Rows.All
import Wide.All
import OpenK.AllK
import Wide.FinOn
import Lean
import PyProof.EqAt
import PyProof.EqKinds
import PyProof.TupleCall
import PyProof.ListRange
import KE.KSortAsk
import KE.KSortKey
import KE.KSortTup
import KE.KItemsList
import KE.KLam
import KE.KNestM
import PyProof.Rows.StrLen
import PyProof.Rows.Range3
import PyProof.CallStr
import PyProof.StrBlockL
import PyProof.MeetsStr
import PyProof.Rows.StrDigits
import PySem.Challenge.RW_panelplace_k46_whole_refused_changes_not
noncomputable section
set_option Elab.async false
set_option linter.all false
set_option maxRecDepth 100000
namespace L2
open PySem PySem.Spec PyProof.Rows
abbrev Key:=Sum Int Str
def zgd:Key→Value→Bool
 | .inl k,v=>Value.isInt k v
 | .inr x,v=>Value.isStrOf x v
def keyH(w:World):Key→Int
 | .inl k=>hashInt k
 | .inr x=>hashStr w x
theorem yI:∀{k:Key} {v:Value},zgd k v=true→(∃i t,k=Sum.inl i∧v=Value.int i t)∨(∃x t,k=Sum.inr x∧v=Value.str x t)
 | .inl i,v,h=>by
   obtain⟨t,e⟩:=Value.isInt_shape (k:=i) (v:=v) h
   exact .inl ⟨i,t,rfl,e⟩
 | .inr x,v,h=>by
   obtain⟨t,e⟩:=Value.isStrOf_shape (x:=x) (v:=v) h
   exact .inr ⟨x,t,rfl,e⟩
theorem zjU(i:Int)(t:Tok):zgd (.inl i) (.int i t)=true:=by simp[zgd,Value.isInt]
theorem zjR(x:Str)(t:Tok):zgd (.inr x) (.str x t)=true:=by simp[zgd,Value.isStrOf]
theorem key_ll(a b:Int):decide ((Sum.inl a:Key)=Sum.inl b)=(a==b):=by
 by_cases e:a=b
 ·subst e;simp
 ·have h:¬(Sum.inl a:Key)=Sum.inl b:=fun q=>e (Sum.inl.inj q)
  rw[decide_eq_false h]
  exact(beq_eq_false_iff_ne.mpr e).symm
theorem key_rr(a b:Str):decide ((Sum.inr a:Key)=Sum.inr b)=decide (a=b):=by
 by_cases e:a=b
 ·subst e;simp
 ·have h:¬(Sum.inr a:Key)=Sum.inr b:=fun q=>e (Sum.inr.inj q)
  rw[decide_eq_false h,decide_eq_false e]
theorem key_lr(a:Int)(b:Str):decide ((Sum.inl a:Key)=Sum.inr b)=false:=decide_eq_false (fun q=>nomatch q)
theorem key_rl(a:Str)(b:Int):decide ((Sum.inr a:Key)=Sum.inl b)=false:=decide_eq_false (fun q=>nomatch q)
def wL(prog:Program)(w:World):PySem.KeyKind prog w Key where
 is:=zgd
 hash:=keyH w
 inj:=fun v a b ha hb=>by
  rcases yI ha with⟨i,t,rfl,rfl⟩ | ⟨x,t,rfl,rfl⟩
  ·rcases yI hb with⟨j,u,rfl,e⟩ | ⟨y,u,rfl,e⟩
   ·injection e with e1 _;rw[e1]
   ·exact nomatch e
  ·rcases yI hb with⟨j,u,rfl,e⟩ | ⟨y,u,rfl,e⟩
   ·exact nomatch e
   ·injection e with e1 _;rw[e1]
 byValue:=fun k v h=>by
  rcases yI h with⟨i,t,rfl,rfl⟩ | ⟨x,t,rfl,rfl⟩ <;> rfl
 pyHash:=fun hv h=>by
  rcases yI hv with⟨i,t,rfl,rfl⟩ | ⟨x,t,rfl,rfl⟩
  ·exact wpAny_pyHash_int h
  ·exact wpAny_pyHash_str h
 eqBool:=fun hu hv h=>by
  rcases yI hu with⟨i,t,rfl,rfl⟩ | ⟨x,t,rfl,rfl⟩
  ·rcases yI hv with⟨j,u,rfl,rfl⟩ | ⟨y,u,rfl,rfl⟩
   ·rw[key_ll] at h;exact wpAny_eqBool_int h
   ·rw[key_lr] at h;exact SeqAt.EqAt.int_str i t y u _ _ _ _ h
  ·rcases yI hv with⟨j,u,rfl,rfl⟩ | ⟨y,u,rfl,rfl⟩
   ·rw[key_rl] at h;exact SeqAt.EqAt.str_int x t j u _ _ _ _ h
   ·rw[key_rr] at h;exact wpAny_eqBool_str h
 «strs» := fun k x t v h=>by
  rcases yI h with⟨i,u,rfl,e⟩ | ⟨y,u,rfl,e⟩
  ·exact nomatch e
  ·injection e with e1 _
   subst e1
   cases v <;> rfl
theorem zhc(prog:Program)(w:World)(i:Int)(t:Tok):(wL prog w).is (.inl i) (.int i t)=true:=zjU i t
theorem zhq(prog:Program)(w:World)(x:Str)(t:Tok):(wL prog w).is (.inr x) (.str x t)=true:=zjR x t
inductive V where
 | non | bl (b:Bool) | int (i:Int) | str (x:Str) | byt (b:Array UInt8) | flt (b:UInt64) | ref (a:Addr) | ty (n:String)
 deriving DecidableEq
def yb:V→Value→Prop
 | .non,u=>u=Value.none
 | .bl b,u=>u=Value.bool b
 | .int i,u=>∃t,u=Value.int i t
 | .str x,u=>∃t,u=Value.str x t
 | .byt b,u=>∃t,u=Value.bytes b t
 | .flt b,u=>∃t,u=Value.float b t
 | .ref a,u=>u=Value.ref a
 | .ty n,u=>u=Value.type n
abbrev zI:List V→List Value→Prop:=Paired yb
theorem zI.length{xs:List V}{us:List Value}(r:zI xs us):xs.length=us.length:=Paired.length r
theorem zI.get:∀{xs:List V} {us:List Value} {i:Nat} {x:V},zI xs us→xs[i]? = some x→∃u,us[i]? = some u∧yb x u
 | _,_,_,_,.nil,e=>by simp at e
 | _,_,0,_,.cons r _,e=>by simp at e;subst e;exact⟨_,rfl,r⟩
 | _,_,i+1,x,.cons _ t,e=>by
   obtain⟨u,h1,h2⟩:=zI.get (i:=i) (x:=x) t (by simpa using e)
   exact⟨u,by simpa using h1,h2⟩
theorem zI.set{x:V}{u:Value}(r:yb x u):∀{xs:List V} {us:List Value} (i:Nat),zI xs us→zI (xs.set i x) (us.set i u)
 | _,_,_,.nil=>.nil
 | _,_,0,.cons _ t=>.cons r t
 | _,_,i+1,.cons q t=>.cons q (zI.set r i t)
theorem zI.append:∀{xs ys:List V} {us ws:List Value},zI xs us→zI ys ws→zI (xs++ys) (us++ws)
 | _,_,_,_,.nil,s=>s
 | _,_,_,_,.cons r t,s=>.cons r (zI.append t s)
theorem zI.take:∀{xs:List V} {us:List Value} (n:Nat),zI xs us→zI (xs.take n) (us.take n)
 | _,_,0,_=>.nil
 | _,_,_+1,.nil=>.nil
 | _,_,n+1,.cons r t=>.cons r (zI.take n t)
theorem zI.drop:∀{xs:List V} {us:List Value} (n:Nat),zI xs us→zI (xs.drop n) (us.drop n)
 | _,_,0,r=>r
 | _,_,_+1,.nil=>.nil
 | _,_,n+1,.cons _ t=>zI.drop n t
def zc4:Option V→Option Value→Prop
 | some v,some u=>yb v u
 | none,none=>True
 | _,_=>False
def KV{κ:Type}:List (κ × V)→List (κ × Value)→Prop:=Paired fun(p:κ × V) (q:κ × Value)=>p.1=q.1∧yb p.2 q.2
def kV:Key→V
 | .inl i=>.int i
 | .inr x=>.str x
inductive HO where
 /-- a list -/
 | lst (xs:List V)
 /-- a tuple (never changes) -/
 | tup (xs:List V)
 /-- a dict whose keys are ints and texts;one whose keys are tuples of ints and texts (the empty one is both) -/
 | dK (kvs:List (Key × V)) | dT (kvs:List (List Key × V))
 /-- a set of ints: its members,its size -/
 | set (S:Int→Bool) (n:Nat)
 /-- an instance of the class at C,its dict at dx,its attributes -/
 | ins (C dx:Addr) (fs:List (Str × V))
 /-- the dict of the instance at x -/
 | own (x:Addr)
 /-- the dict of an exception -/
 | xd (fs:List (Str × V))
 /-- a bound method,f of x -/
 | met (f x:Addr)
 /-- a range object lo,lo+1,.. zc6 hi -/
 | rng (lo hi:Int)
 /-- a thing that is known to the object (the script;a dict while a loop walks it): read,never written while it is so -/
 | frz (o:Obj) (u:HO)
 /-- a code object's table -/
 | tbl (ps:Array Value)
 /-- any other thing,by what is true of its one object (a def of one's own: SetO a S n:=HO.ext fun h => ..) -/
 | ext (φ:Heap→Prop)
abbrev Hp:=Addr→Option HO
def upd(H:Hp)(a:Addr)(o:HO):Hp:=fun b=>if b=a then some o else H b
theorem ze{H:Hp}{a:Addr}{o:HO}:upd H a o a=some o:=by unfold upd;rw[if_pos rfl]
theorem zi{H:Hp}{a b:Addr}{o:HO}(h:b≠a):upd H a o b=H b:=by unfold upd;rw[if_neg h]
theorem upd_upd{H:Hp}{a:Addr}{o u:HO}:upd (upd H a o) a u=upd H a u:=by
 funext b;unfold upd;split <;> rfl
theorem yr{H:Hp}{a b:Addr}{o u:HO}(h:H a=some o)(h':H b=some u)(d:o≠u):a≠b:=by
 intro e;subst e;rw[h] at h';exact d (Option.some.inj h')
theorem zk{H:Hp}{a b:Addr}{o:HO}(h:H a=some o)(h':H b=none):a≠b:=by
 intro e;subst e;rw[h] at h';cases h'
section
variable (P:Program) (w:World)
def wy(H:Hp)(h:Heap)(a:Addr):HO→Prop
 | .lst xs=>xs.length≤sizeLine∧∃(its:List Value) (n:Nat),zI xs its∧h.get? a=some { cls:=.type "list",data:=.seq its.toArray n }
 | .tup xs=>xs.length≤sizeLine∧∃its:List Value,zI xs its∧IsTup h a its.toArray
 | .dK kvs=>kvs.length≤sizeLine∧(a==sysModules)=false∧∃vs,KV kvs vs∧h.DictOf (wL P w) a vs
 | .dT kvs=>kvs.length≤sizeLine∧(a==sysModules)=false∧∃xs:List (List Key × Addr × Value),
    Paired (fun(p:List Key × V) (q:List Key × Addr × Value)=>p.1=q.1∧H q.2.1=some (.tup (p.1.map kV))∧yb p.2 q.2.2) kvs xs ∧
    ∃o es ep,h.get? a=some o∧o.ExactDict∧o.data=.dict es ep∧es.toList=xs.map (entryOfKey (tupleKind (wL P w)))∧(xs.map (·.1)).Nodup
 | .set S n=>h.SetOf (intKind P w) a S n
 | .ins C dx fs=>H dx=some (.own a)∧fs.length≤1000∧dx≠a∧h.get? a=some (PySem.W.instObj C dx) ∧
    ∃mA,h.Ns1 dx mA∧(∀f,zc4 (fs.lookup f) (mA f))∧PySem.Within mA (fs.map (·.1))
 | .own _=>∃o,h.get? a=some o
 | .xd fs=>∃mA,h.Ns1 a mA∧∀f,zc4 (fs.lookup f) (mA f)
 | .rng lo hi=>∃t u v,h.get? a=some { cls:=.type "range",data:=.fields #[.int lo t,.int hi u,.int 1 v] }
 | .frz o u=>h.get? a=some o∧wy H h a u
 | .tbl ps=>h.get? a=some { cls:=.none,data:=.fields ps }
 | .met f x=>h.get? a=some (PySem.W.methodObj (.ref f) (.ref x))
 | .ext φ=>φ h∧(∃o,h.get? a=some o)∧∀h1 h2:Heap,φ h1→(∀o,h1.get? a=some o→h2.get? a=some o)→φ h2
def HOk(H:Hp)(h:Heap):Prop:=∀a o,H a=some o→wy P w H h a o
end
section
variable {P:Program} {w:World} {H H':Hp} {h h':Heap} {a:Addr} {o:HO}
theorem wy.lt(x:wy P w H h a o):a<h.objs.size:=by
 cases o with
 | lst xs=>obtain⟨_,_,_,_,e⟩:=x;exact Heap.lt_size e
 | tup xs=>obtain⟨_,_,_,p⟩:=x;exact p.lt
 | dK kvs=>obtain⟨_,_,_,_,o,_,_,e,_⟩:=x;exact Heap.lt_size e
 | dT kvs=>obtain⟨_,_,_,_,o,_,_,e,_⟩:=x;exact Heap.lt_size e
 | set S n=>obtain⟨o,_,_,_,e,_⟩:=x;exact Heap.lt_size e
 | ins C dx fs=>obtain⟨_,_,_,e,_⟩:=x;exact Heap.lt_size e
 | own y=>obtain⟨_,e⟩:=x;exact Heap.lt_size e
 | xd fs=>obtain⟨_,⟨_,_,_,e,_⟩,_⟩:=x;exact Heap.lt_size e
 | rng lo hi=>obtain⟨_,_,_,e⟩:=x;exact Heap.lt_size e
 | frz ob u=>obtain⟨e,_⟩:=x;exact Heap.lt_size e
 | tbl ps=>exact Heap.lt_size (show h.get? a=some _ from x)
 | met f y=>exact Heap.lt_size (show h.get? a=some _ from x)
 | ext φ=>obtain⟨_,⟨_,e⟩,_⟩:=x;exact Heap.lt_size e
theorem Paired.mapP{α β:Type}{F G:α→β→Prop}:∀{l₁:List α} {l₂:List β},Paired F l₁ l₂→(∀a b,F a b→G a b)→Paired G l₁ l₂
 | _,_,.nil,_=>.nil
 | _,_,.cons r t,f=>.cons (f _ _ r) (Paired.mapP t f)
theorem wy.stay(x:wy P w H h a o)(k:∀b u,(b=a∨H b=some (.own a))→h.get? b=some u→h'.get? b=some u)
 (ho:∀b,H b=some (.own a)→H' b=some (.own a)) (ht:∀b xs,H b=some (.tup xs)→H' b=some (.tup xs)):wy P w H' h' a o:=by
 induction o with
 | lst xs=>obtain⟨z,its,n,r,e⟩:=x;exact⟨z,its,n,r,k _ _ (.inl rfl) e⟩
 | tup xs=>obtain⟨z,its,r,ob,e,c⟩:=x;exact⟨z,its,r,ob,k _ _ (.inl rfl) e,c⟩
 | dK kvs=>obtain⟨z,y,vs,r,ob,es,ep,e,c⟩:=x;exact⟨z,y,vs,r,ob,es,ep,k _ _ (.inl rfl) e,c⟩
 | dT kvs =>
   obtain⟨z,y,xs,r,ob,es,ep,e,c⟩:=x
   exact⟨z,y,xs,Paired.mapP r fun p q z=>⟨z.1,ht _ _ z.2.1,z.2.2⟩,ob,es,ep,k _ _ (.inl rfl) e,c⟩
 | set S n=>obtain⟨ob,es,ep,t,e,c⟩:=x;exact⟨ob,es,ep,t,k _ _ (.inl rfl) e,c⟩
 | ins C dx fs =>
   obtain⟨d,z,ne,e,mA,⟨od,es,ep,e2,c⟩,r⟩:=x
   exact⟨ho _ d,z,ne,k _ _ (.inl rfl) e,mA,⟨od,es,ep,k _ _ (.inr d) e2,c⟩,r⟩
 | own y=>obtain⟨ob,e⟩:=x;exact⟨ob,k _ _ (.inl rfl) e⟩
 | xd fs=>obtain⟨mA,⟨od,es,ep,e,c⟩,r⟩:=x;exact⟨mA,⟨od,es,ep,k _ _ (.inl rfl) e,c⟩,r⟩
 | rng lo hi=>obtain⟨t,u,v,e⟩:=x;exact⟨t,u,v,k _ _ (.inl rfl) e⟩
 | frz ob u ih=>obtain⟨e,q⟩:=x;exact⟨k _ _ (.inl rfl) e,ih q⟩
 | tbl ps =>
   have e:h.get? a=some { cls:=.none,data:=.fields ps }:=x
   show h'.get? a=some { cls:=.none,data:=.fields ps }
   exact k a _ (.inl rfl) e
 | met f y =>
   have e:h.get? a=some (PySem.W.methodObj (.ref f) (.ref y)):=x
   show h'.get? a=some (PySem.W.methodObj (.ref f) (.ref y))
   exact k a _ (.inl rfl) e
 | ext φ=>obtain⟨p,⟨o,e⟩,st⟩:=x;exact⟨st _ _ p fun o q=>k _ _ (.inl rfl) q,⟨o,k _ _ (.inl rfl) e⟩,st⟩
theorem HOk.lt(x:HOk P w H h)(e:H a=some o):a<h.objs.size:=(x a o e).lt
theorem HOk.fresh(x:HOk P w H h)(e:h.objs.size≤a):H a=none:=by
 cases q:H a with
 | none=>rfl
 | some u=>exact absurd (Nat.lt_of_lt_of_le (x.lt q) e) (Nat.lt_irrefl _)
theorem HOk.kept(x:HOk P w H h)(k:∀b u,h.get? b=some u→h'.get? b=some u):HOk P w H h':=fun a o e =>
 (x a o e).stay (fun b u _ q=>k b u q) (fun _ q=>q) fun _ _ q=>q
theorem HOk.laid(x:HOk P w H h)(k:∀b u,h.get? b=some u→h'.get? b=some u)(hp:h.objs.size≤a)(new:wy P w (upd H a o) h' a o):HOk P w (upd H a o) h':=fun b u e=>by
 have hn:=x.fresh hp
 by_cases hb:b=a
 ·subst hb;rw[ze] at e;cases e;exact new
 ·rw[zi hb] at e
  exact(x b u e).stay (fun c v _ q=>k c v q) (fun c q=>by rw[zi (zk q hn)];exact q) fun c xs q=>by rw[zi (zk q hn)];exact q
end
def Rd(H:Hp)(a:Addr)(u:HO):Prop:=H a=some u∨∃o,H a=some (.frz o u)
theorem Rd.of{H:Hp}{a:Addr}{u:HO}(h:H a=some u):Rd H a u:=.inl h
theorem Rd.ok{P:Program}{w:World}{H:Hp}{h:Heap}{a:Addr}{u:HO}(r:Rd H a u)(x:HOk P w H h):wy P w H h a u:=by
 rcases r with r | ⟨o,r⟩
 ·exact x a u r
 ·obtain⟨_,q⟩:=x a _ r
  exact q
def Mut:Option HO→Prop
 | some (.lst _)=>True
 | some (.dK _)=>True
 | some (.dT _)=>True
 | some (.set _ _)=>True
 | some (.ins _ _ _)=>True
 | some (.ext _)=>True
 | _=>False
section
variable {P:Program} {w:World} {H:Hp} {h h':Heap} {x e:Addr} {o':HO}
theorem HOk.write(ok:HOk P w H h)(mu:Mut (H x))(he:e=x∨H e=some (.own x))(k:∀b u,b≠e→h.get? b=some u→h'.get? b=some u)(heo:∃u,h'.get? e=some u)
 (new:wy P w (upd H x o') h' x o'):HOk P w (upd H x o') h':=fun b u q=>by
 have nown:∀c y,H c=some (.own y)→c≠x:=fun c y r z=>by subst z;rw[r] at mu;exact mu
 have ntup:∀c xs,H c=some (.tup xs)→c≠x:=fun c xs r z=>by subst z;rw[r] at mu;exact mu
 by_cases hb:b=x
 ·subst hb;rw[ze] at q;cases q;exact new
 ·rw[zi hb] at q
  by_cases hbe:b=e
  ·have q':H b=some (.own x):=by
    rcases he with z | z
    ·exact absurd (hbe.trans z) hb
    ·rw[hbe];exact z
   rw[q] at q';cases q'
   obtain⟨v,hv⟩:=heo
   exact⟨v,by rw[hbe];exact hv⟩
  ·refine(ok b u q).stay (fun c v hc r=>k c v ?_ r) (fun c r=>by rw[zi (nown c b r)];exact r) fun c xs r=>by rw[zi (ntup c xs r)];exact r
   rcases hc with rfl | hc
   ·exact hbe
   ·rintro rfl
    rcases he with z | z
    ·exact nown c b hc z
    ·rw[hc] at z;cases z;exact hb rfl
end
structure Un (fs ex:List Addr) (H H':Hp) (h h':Heap):Prop where
 keep:∀b o,h.get? b=some o→H b=none→b∉fs→b∉ex→h'.get? b=some o
 slot:∀b o,h.get? b=some o→H b=none→b∈fs→b∉ex→∃sl,h'.get? b=some { o with slots:=sl }
 free:∀b o,h.get? b=some o→H b=none→b∉ex→H' b=none
 there:∀b o,h.get? b=some o→b∉ex→∃o',h'.get? b=some o'
 tups:∀b xs,H b=some (.tup xs)→H' b=some (.tup xs)
 frzs:∀b o u,H b=some (.frz o u)→H' b=some (.frz o u)
 tbls:∀b ps,H b=some (.tbl ps)→∃more,H' b=some (.tbl (ps++more))
section
variable {fs fs' ex ex':List Addr} {H H1 H2:Hp} {h h1 h2 h':Heap} {a x e:Addr} {o:HO}
theorem Un.any(u:Un fs ex H H1 h h1){b:Addr}{ob:Obj}(q:h.get? b=some ob)(n:H b=none)(hx:b∉ex):∃sl,h1.get? b=some { ob with slots:=sl }:=by
 by_cases hb:b∈fs
 ·exact u.slot b ob q n hb hx
 ·exact⟨ob.slots,u.keep b ob q n hb hx⟩
theorem Un.trans(a:Un fs ex H H1 h h1)(b:Un fs ex H1 H2 h1 h2):Un fs ex H H2 h h2 where
 keep:=fun c ob q n hc hx=>b.keep c ob (a.keep c ob q n hc hx) (a.free c ob q n hx) hc hx
 slot:=fun c ob q n hc hx=>by
  obtain⟨sl,e1⟩:=a.slot c ob q n hc hx
  obtain⟨sl',e2⟩:=b.slot c _ e1 (a.free c ob q n hx) hc hx
  exact⟨sl',e2⟩
 free:=fun c ob q n hx=>by
  obtain⟨o',e1⟩:=a.there c ob q hx
  exact b.free c o' e1 (a.free c ob q n hx) hx
 there:=fun c ob q hx=>by
  obtain⟨o',e1⟩:=a.there c ob q hx
  exact b.there c o' e1 hx
 tups:=fun c xs q=>b.tups c xs (a.tups c xs q)
 frzs:=fun c ob xs q=>b.frzs c ob xs (a.frzs c ob xs q)
 tbls:=fun c ps q=>by
  obtain⟨m1,e1⟩:=a.tbls c ps q
  obtain⟨m2,e2⟩:=b.tbls c _ e1
  exact⟨m1++m2,by rw[e2,Array.append_assoc]⟩
theorem Un.kept(k:∀b u,h.get? b=some u→h'.get? b=some u):Un fs ex H H h h' :=
 ⟨fun b ob q _ _ _=>k b ob q,fun b ob q _ _ _=>⟨ob.slots,k b ob q⟩,fun _ _ _ n _=>n,fun b ob q _=>⟨ob,k b ob q⟩,fun _ _ q=>q,fun _ _ _ q=>q,fun _ ps q=>⟨#[],by rw[q];simp⟩⟩
theorem Un.refl:Un fs ex H H h h:=Un.kept fun _ _ q=>q
theorem Un.laid(k:∀b u,h.get? b=some u→h'.get? b=some u)(hp:h.objs.size≤a)(hn:H a=none):Un fs ex H (upd H a o) h h' where
 keep:=fun b u q _ _ _=>k b u q
 slot:=fun b u q _ _ _=>⟨u.slots,k b u q⟩
 free:=fun b u q n _=>by rw[zi (Nat.ne_of_lt (Nat.lt_of_lt_of_le (Heap.lt_size q) hp))];exact n
 there:=fun b u q _=>⟨u,k b u q⟩
 tups:=fun b xs q=>by rw[zi (zk q hn)];exact q
 frzs:=fun b u xs q=>by rw[zi (zk q hn)];exact q
 tbls:=fun b ps q=>⟨#[],by rw[zi (zk q hn),q];simp⟩
theorem Un.write(mu:Mut (H x))(he:e=x∨H e=some (.own x))(k:∀b u,b≠e→h.get? b=some u→h'.get? b=some u)(heo:∃u,h'.get? e=some u):Un fs ex H (upd H x o) h h':=by
 have hx:∀b,H b=none→b≠x:=fun b n z=>by subst z;rw[n] at mu;exact mu
 have hb:∀b,H b=none→b≠e:=fun b n z=>by
  subst z
  rcases he with r | r
  ·exact hx b n r
  ·rw[n] at r;cases r
 have hm:∀b u,H b=some u→¬Mut (some u)→b≠x:=fun b u q nm z=>by subst z;rw[q] at mu;exact nm mu
 refine⟨fun b u q n _ _=>k b u (hb b n) q,fun b u q n _ _=>⟨u.slots,k b u (hb b n) q⟩,fun b u q n _=>by rw[zi (hx b n)];exact n,fun b u q _=>?_,
  fun b xs q=>by rw[zi (hm b _ q fun z=>z)];exact q,fun b u xs q=>by rw[zi (hm b _ q fun z=>z)];exact q,fun b ps q=>⟨#[],by rw[zi (hm b _ q fun z=>z),q];simp⟩⟩
 by_cases hbe:b=e
 ·subst hbe;exact heo
 ·exact⟨u,k b u hbe q⟩
end
def trk(h:Heap)(H:Hp):List Addr:=(List.range h.objs.size).filter fun a=>(H a).isSome
def zg8(h:Heap)(H:Hp):Heap:=PySem.W.hideAll h (trk h H)
theorem zjm(h:Heap)(H:Hp):(zg8 h H).objs.size=h.objs.size:=PySem.W.hideAll_size _ _
theorem hidT_get{h:Heap}{H:Hp}{b:Addr}{o:Obj}(e:h.get? b=some o)(n:H b=none):(zg8 h H).get? b=some o :=
 PySem.W.hideAll_get _ e fun hm=>by
  have q:(H b).isSome=true:=(List.mem_filter.mp hm).2
  rw[n] at q;simp at q
theorem of_hidT{h:Heap}{H:Hp}{b:Addr}{o:Obj}(e:(zg8 h H).get? b=some o):h.get? b=some o∧H b=none:=by
 have e':h.get? b=some o:=PySem.W.of_hideAll (trk h H) e
 refine⟨e',?_⟩
 cases q:H b with
 | none=>rfl
 | some x =>
   have hm:b∈trk h H:=List.mem_filter.mpr ⟨List.mem_range.mpr (Heap.lt_size e'),by simp[q]⟩
   have z:(zg8 h H).get? b=none:=PySem.W.hideAll_none (trk h H) hm
   rw[z] at e;cases e
def allNews(g h:Heap)(L:Addr):List (Addr × Obj):=(List.range h.objs.size).filterMap fun a=>if a=L∨(g.get? a).isSome=true then none else(h.get? a).map fun o=>(a,o)
def zbR(g h:Heap)(L d:Addr):List (Addr × Obj):=(allNews g h L).filter fun p=>decide (p.1≠d)
structure Mod (K:PySem.W.Frag) (mg:Str→Option Value) (base:Heap):Prop where
 kin:K.In base
 glob:base.Ns mainGlobals mg
 blt:∃mb,base.Ns builtinsNs mb∧∀x:Str,x ≠ "__name__" → mb x=bootBuiltins x
 nolimit:base.NoLimit
/-- the context: a def's body (or a comprehension's block) running. base: fixed through the whole law;s₀,H₀: the entry;outer: the frames whose slots others may change (a def's callers);stack: all frames that run;
 ex: iterators that were made y7 of the entry and are walked here (a comprehension's);fn: the names whose cells were made at the entry (a def: all;a comprehension's block: its own);calm: not within an except suite;pn: pins that every state bears;xe: what is wanted of an exception that leaves the code -/
structure Cx where
 prog:Program
 w:World
 K:PySem.W.Frag
 mg:Str→Option Value
 base:Heap
 A:Around
 N:List Str
 s₀:Shared
 H₀:Hp
 env:Env
 outer:List Env
 stack:List Env
 ex:List Addr
 fn:Str→Bool
 calm:Bool
 pn:List (Addr × Obj)
 xe:Value→Shared→Prop
def frs(l:List Env):List Addr:=l.filterMap (·.frame)
abbrev Cx.fs(X:Cx):List Addr:=frs X.outer
def Vis(sc:Scope)(x:Str):Prop:=sc.names.lookup x=some .local∨sc.names.lookup x=some .cell∨sc.names.lookup x=some .free
def Loc(sc:Scope)(x:Str):Prop:=sc.names.lookup x=some .local∨sc.names.lookup x=some .cell
def Look(env:Env)(h:Heap)(m:Str→Option Value)(x:Str)(u:Value):Prop :=
 (env.kindOf x=some .local∧m x=some u)∨((env.kindOf x=some .cell∨env.kindOf x=some .free)∧∃c,env.cells.lookup x=some c∧h.IsCell c (some u))
structure Cx.Ok (X:Cx):Prop where
 mod:Mod X.K X.mg X.base
 kind:X.env.scope.kind=.function
 glob:X.env.globals=mainGlobals
 blt:X.env.builtins=builtinsNs
 above:X.s₀.heap.objs.size≤X.env.locals
 inj:∀x y c,X.env.cells.lookup x=some c→X.env.cells.lookup y=some c→x=y
 has:∀x,(X.env.kindOf x=some .cell∨X.env.kindOf x=some .free)→∃c,X.env.cells.lookup x=some c
 cab:∀x c,X.fn x=true→X.env.cells.lookup x=some c→X.s₀.heap.objs.size≤c
 hd:X.calm=true→X.A.handled=none
 frames:X.A.frames=some X.stack
 stk:X.stack=X.outer∨(X.stack=X.env::X.outer∧X.env.frame=some X.env.locals)
 exf:∀b∈X.ex,b≠X.env.locals∧∀x c,X.env.cells.lookup x=some c→c≠b
 bs:∀b o,X.base.get? b=some o→X.s₀.heap.get? b=some o∧X.H₀ b=none
 bsz:X.base.objs.size≤X.s₀.heap.objs.size
 noex:∀b o,X.base.get? b=some o→b∉X.ex
 exfs:∀b∈X.ex,b∉X.fs
 funs:X.s₀.heap.FunFrames X.base X.outer
 frf:∀b∈X.fs,X.H₀ b=none
structure Inv (X:Cx) (pins:List (Addr × Obj)) (σ:List (Option V)) (H:Hp) (s:Shared):Prop where
 ok:X.Ok
 os:s.os=X.s₀.os
 bare:AllBare s.gens
 base:Un X.fs X.ex X.H₀ H X.s₀.heap s.heap
 loc:∃m,s.heap.Ns X.env.locals m∧∀(i:Nat) (x:Str) (v:V),X.N[i]? = some x→σ[i]? = some (some v)→Vis X.env.scope x→∃u,yb v u∧Look X.env s.heap m x u
 cell:∀x c,X.env.cells.lookup x=some c→∃v,s.heap.IsCell c v
 free:H X.env.locals=none
 freeC:∀x c,X.env.cells.lookup x=some c→H c=none
 pin:∀p∈X.pn++pins,s.heap.get? p.1=some p.2∧H p.1=none∧p.1≠X.env.locals∧p.1∉X.fs∧∀v,p.2.data ≠ .cell v
 hok:HOk X.prog X.w H s.heap
 len:σ.length=X.N.length
section
variable {X:Cx} {pins:List (Addr × Obj)} {σ:List (Option V)} {H H':Hp} {s:Shared} {h':Heap}
theorem Cx.Ok.nofr(ok:X.Ok){b:Addr}{o:Obj}(e:X.base.get? b=some o):b∉X.fs:=fun hb=>by
 have:=(ok.funs.mem hb).1
 rw[e] at this;cases this
theorem Inv.bs(I:Inv X pins σ H s):∀b o,X.base.get? b=some o→s.heap.get? b=some o∧H b=none:=fun b o e =>
 ⟨I.base.keep b o (I.ok.bs b o e).1 (I.ok.bs b o e).2 (I.ok.nofr e) (I.ok.noex b o e),I.base.free b o (I.ok.bs b o e).1 (I.ok.bs b o e).2 (I.ok.noex b o e)⟩
theorem Inv.bk(I:Inv X pins σ H s):∀b o,X.base.get? b=some o→s.heap.get? b=some o:=fun b o e=>(I.bs b o e).1
theorem Inv.mod(I:Inv X pins σ H s):Mod X.K X.mg X.base:=I.ok.mod
theorem Inv.kIn(I:Inv X pins σ H s):X.K.In s.heap:=I.ok.mod.kin.keeps I.bk
theorem Inv.lt(I:Inv X pins σ H s):X.env.locals<s.heap.objs.size:=let ⟨_,hn,_⟩:=I.loc;hn.lt
theorem Inv.sz(I:Inv X pins σ H s):X.s₀.heap.objs.size≤s.heap.objs.size:=Nat.le_trans I.ok.above (Nat.le_of_lt I.lt)
theorem Inv.nofs(I:Inv X pins σ H s){a:Addr}(h:s.heap.objs.size≤a):a∉X.fs:=fun hb=>by
 obtain⟨_,o,ho,_⟩:=I.ok.funs.mem hb
 exact absurd (Nat.lt_of_lt_of_le (Heap.lt_size ho) (Nat.le_trans I.sz h)) (Nat.lt_irrefl _)
theorem Inv.cne(I:Inv X pins σ H s):∀x c,X.env.cells.lookup x=some c→c≠X.env.locals:=fun x c e z=>by
 obtain⟨v,o,ho,hd⟩:=I.cell x c e
 obtain⟨m,⟨o',es,ep,ho',hd',_⟩,_⟩:=I.loc
 rw[z,ho'] at ho;cases ho;rw[hd'] at hd;cases hd
theorem Inv.funs(I:Inv X pins σ H s):s.heap.FunFrames X.base X.outer:=by
 have all:∀(l:List Env),(∀b∈frs l,b∈X.fs)→X.s₀.heap.FunFrames X.base l→s.heap.FunFrames X.base l:=by
  intro l
  induction l with
  | nil=>intro _ _;trivial
  | cons env r ih =>
    intro hs hl
    obtain⟨hk,⟨L,o,hf,hn,ho,hd⟩,hr⟩:=hl
    have hL:L∈X.fs:=hs L (by unfold frs;rw[List.filterMap_cons,hf];exact List.mem_cons_self)
    obtain⟨sl,e⟩:=I.base.slot L o ho (I.ok.frf L hL) hL fun z=>I.ok.exfs L z hL
    exact⟨hk,⟨L,_,hf,hn,e,hd⟩,ih (fun b hb=>hs b (by unfold frs;rw[List.filterMap_cons,hf];exact List.mem_cons_of_mem _ hb)) hr⟩
 exact all X.outer (fun _ hb=>hb) I.ok.funs
theorem Inv.stack(I:Inv X pins σ H s):s.heap.FunFrames X.base X.stack:=by
 rcases I.ok.stk with e | ⟨e,hf⟩
 ·rw[e];exact I.funs
 ·rw[e]
  obtain⟨m,hn,_⟩:=I.loc
  refine .cons (by rw[I.ok.kind];decide) hf hn ?_ I.funs
  exact Heap.get?_none_of_le (Nat.le_trans I.ok.bsz I.ok.above)
theorem Inv.stkSub(I:Inv X pins σ H s):∀b∈frs X.stack,b∈X.env.locals::X.fs:=fun b hb=>by
 rcases I.ok.stk with e | ⟨e,hf⟩
 ·rw[e] at hb;exact List.mem_cons_of_mem _ hb
 ·rw[e] at hb
  unfold frs at hb
  rw[List.filterMap_cons,hf] at hb
  exact hb
theorem Inv.stkFree(I:Inv X pins σ H s):∀b∈frs X.stack,H b=none:=fun b hb=>by
 rcases List.mem_cons.mp (I.stkSub b hb)with e | hb
 ·rw[e];exact I.free
 ·obtain⟨_,o,ho,_⟩:=I.ok.funs.mem hb
  exact I.base.free b o ho (I.ok.frf b hb) fun z=>I.ok.exfs b z hb
theorem Inv.step{g':Array GenState}{t':Nat}{d':Drawn}{ch:List Addr}(I:Inv X pins σ H s)
 (hch:∀b∈ch,(b∈X.ex∨X.s₀.heap.objs.size≤b)∧b≠X.env.locals∧(∀x c,X.env.cells.lookup x=some c→c≠b)∧∀p∈X.pn++pins,p.1≠b)
 (keep:∀b o,b≠X.env.locals→b∉X.fs→b∉ch→s.heap.get? b=some o→H b=none→h'.get? b=some o)
 (slot:∀b o,b≠X.env.locals→b∈X.fs→b∉ch→s.heap.get? b=some o→H b=none→∃sl,h'.get? b=some { o with slots:=sl }) (free:∀b o,b∉ch→s.heap.get? b=some o→H b=none→H' b=none)
 (there:∀b o,b∉ch→s.heap.get? b=some o→∃o',h'.get? b=some o')
 (tups:∀b xs,H b=some (.tup xs)→H' b=some (.tup xs)) (frzs:∀b o u,H b=some (.frz o u)→H' b=some (.frz o u)) (tbls:∀b ps,H b=some (.tbl ps)→∃more,H' b=some (.tbl (ps++more)))
 (ns:∀m,s.heap.Ns X.env.locals m→h'.Ns X.env.locals m) (hok:HOk X.prog X.w H' h') (hg:AllBare g') :
 Inv X pins σ H' { s with heap:=h',gens:=g',drawn:=d',toks:=t' }:=by
 have neL:∀b o,X.s₀.heap.get? b=some o→b≠X.env.locals:=fun b o e=>Nat.ne_of_lt (Nat.lt_of_lt_of_le (Heap.lt_size e) I.ok.above)
 have neC:∀b o,X.s₀.heap.get? b=some o→b∉X.ex→b∉ch:=fun b o e hx hb=>by
  rcases (hch b hb).1 with z | z
  ·exact hx z
  ·exact absurd (Nat.lt_of_lt_of_le (Heap.lt_size e) z) (Nat.lt_irrefl _)
 have cellK:∀x c,X.env.cells.lookup x=some c→∀v,s.heap.IsCell c v→h'.IsCell c v:=fun x c e v ⟨o,ho,hd⟩=>by
  have nch:c∉ch:=fun z=>(hch c z).2.2.1 x c e rfl
  by_cases hc:c∈X.fs
  ·obtain⟨sl,q⟩:=slot c o (I.cne x c e) hc nch ho (I.freeC x c e)
   exact⟨_,q,hd⟩
  ·exact⟨o,keep c o (I.cne x c e) hc nch ho (I.freeC x c e),hd⟩
 refine⟨I.ok,I.os,hg,⟨fun b o e n hb hx=>?_,fun b o e n hb hx=>?_,fun b o e n hx=>?_,fun b o e hx=>?_,fun b xs e=>tups b xs (I.base.tups b xs e),fun b o xs e=>frzs b o xs (I.base.frzs b o xs e),fun b ps e=>?_⟩,?_,fun x c e=>?_,?_,fun x c e=>?_,fun p hp=>?_,hok,I.len⟩
 ·exact keep b o (neL b o e) hb (neC b o e hx) (I.base.keep b o e n hb hx) (I.base.free b o e n hx)
 ·obtain⟨sl,e1⟩:=I.base.slot b o e n hb hx
  obtain⟨sl',e2⟩:=slot b _ (neL b o e) hb (neC b o e hx) e1 (I.base.free b o e n hx)
  exact⟨sl',e2⟩
 ·obtain⟨o',e1⟩:=I.base.there b o e hx
  exact free b o' (neC b o e hx) e1 (I.base.free b o e n hx)
 ·obtain⟨o',e1⟩:=I.base.there b o e hx
  exact there b o' (neC b o e hx) e1
 ·obtain⟨m1,e1⟩:=I.base.tbls b ps e
  obtain⟨m2,e2⟩:=tbls b _ e1
  exact⟨m1++m2,by rw[e2,Array.append_assoc]⟩
 ·obtain⟨m,hn,hl⟩:=I.loc
  refine⟨m,ns m hn,fun i x v e1 e2 e3=>?_⟩
  obtain⟨u,r,l⟩:=hl i x v e1 e2 e3
  refine⟨u,r,?_⟩
  rcases l with l | ⟨k,c,e,z⟩
  ·exact .inl l
  ·exact .inr ⟨k,c,e,cellK x c e _ z⟩
 ·obtain⟨v,z⟩:=I.cell x c e
  exact⟨v,cellK x c e v z⟩
 ·obtain⟨m,⟨o,_,_,ho,_⟩,_⟩:=I.loc
  exact free _ o (fun z=>(hch _ z).2.1 rfl) ho I.free
 ·obtain⟨v,o,ho,hd⟩:=I.cell x c e
  exact free c o (fun z=>(hch c z).2.2.1 x c e rfl) ho (I.freeC x c e)
 ·obtain⟨e,n,ne,nf,d⟩:=I.pin p hp
  have nch:p.1∉ch:=fun z=>(hch p.1 z).2.2.2 p hp rfl
  exact⟨keep p.1 p.2 ne nf nch e n,free p.1 p.2 nch e n,ne,nf,d⟩
theorem Inv.un{t':Nat}(I:Inv X pins σ H s)(u:Un X.fs [] H H' s.heap h')(hok:HOk X.prog X.w H' h'):Inv X pins σ H' { s with heap:=h',toks:=t' }:=by
 obtain⟨m,⟨o,es,ep,ho,r⟩,_⟩:=id I.loc
 obtain⟨sl,hL⟩:=u.any ho I.free (by simp)
 exact I.step (g':=s.gens) (d':=s.drawn) (ch := []) (fun _ z=>nomatch z) (fun b o _ hb _ e n=>u.keep b o e n hb (by simp)) (fun b o _ hb _ e n=>u.slot b o e n hb (by simp)) (fun b o _ e n=>u.free b o e n (by simp)) (fun b o _ e=>u.there b o e (by simp)) u.tups u.frzs u.tbls (fun m' hm=>by
  obtain⟨o',es',ep',ho',r'⟩:=hm
  rw[ho] at ho';cases ho'
  exact⟨_,es',ep',hL,r'⟩) hok I.bare
theorem Inv.call{g':Array GenState}{t':Nat}{d':Drawn}{ch:List Addr}(I:Inv X pins σ H s)(u:Un (frs X.stack) ch H H' s.heap h')(hok:HOk X.prog X.w H' h')(hg:AllBare g')
 (hch:∀b∈ch,(b∈X.ex∨X.s₀.heap.objs.size≤b)∧b≠X.env.locals∧(∀x c,X.env.cells.lookup x=some c→c≠b)∧∀p∈X.pn++pins,p.1≠b) :
 Inv X pins σ H' { s with heap:=h',gens:=g',drawn:=d',toks:=t' }:=by
 obtain⟨m,⟨o,es,ep,ho,r⟩,_⟩:=id I.loc
 obtain⟨sl,hL⟩:=u.any ho I.free fun z=>(hch _ z).2.1 rfl
 exact I.step (ch:=ch) hch (fun b o hL hb hc e n=>u.keep b o e n (fun z=>(List.mem_cons.mp (I.stkSub b z)).elim hL hb) hc) (fun b o _ _ hc e n=>u.any e n hc) (fun b o hc e n=>u.free b o e n hc) (fun b o hc e=>u.there b o e hc) u.tups u.frzs u.tbls (fun m' hm=>by
  obtain⟨o',es',ep',ho',r'⟩:=hm
  rw[ho] at ho';cases ho'
  exact⟨_,es',ep',hL,r'⟩) hok hg
theorem Inv.turned{t':Nat}{it:Addr}(I:Inv X pins σ H s)(k:∀b o,b≠it→s.heap.get? b=some o→h'.get? b=some o)(hn:H it=none)(hL:it≠X.env.locals)
 (h1:it∈X.ex∨X.s₀.heap.objs.size≤it) (h2:∀x c,X.env.cells.lookup x=some c→c≠it) (h3:∀p∈X.pn++pins,p.1≠it):Inv X pins σ H { s with heap:=h',toks:=t' }:=by
 have nit:∀b u,H b=some u→b≠it:=fun b u e z=>by rw[z,hn] at e;cases e
 refine I.step (g':=s.gens) (d':=s.drawn) (ch := [it]) (fun b hb=>?_) (fun b o _ _ hc e _=>k b o (fun z=>hc (by simp[z])) e) (fun b o _ _ hc e _=>⟨o.slots,k b o (fun z=>hc (by simp[z])) e⟩) (fun _ _ _ _ n=>n)
  (fun b o hc e=>⟨o,k b o (fun z=>hc (by simp[z])) e⟩) (fun _ _ e=>e) (fun _ _ _ e=>e) (fun b ps e=>⟨#[],by rw[e];simp⟩) (fun m hm=>?_) (fun b u e=>?_) I.bare
 ·have e:b=it:=by simpa using hb
  subst e
  exact⟨h1,hL,h2,h3⟩
 ·obtain⟨o,es,ep,ho,r⟩:=hm
  exact⟨o,es,ep,k _ o (Ne.symm hL) ho,r⟩
 ·refine(I.hok b u e).stay (fun c v hc q=>k c v ?_ q) (fun _ q=>q) fun _ _ q=>q
  rcases hc with z | z
  ·rw[z];exact nit b u e
  ·exact nit c _ z
theorem Inv.tok(I:Inv X pins σ H s)(t:Nat):Inv X pins σ H { s with toks:=t }:=I.un (h':=s.heap) (t':=t) Un.refl I.hok
theorem Inv.kept{t':Nat}(I:Inv X pins σ H s)(k:∀b u,s.heap.get? b=some u→h'.get? b=some u):Inv X pins σ H { s with heap:=h',toks:=t' }:=I.un (Un.kept k) (I.hok.kept k)
theorem Inv.laid{a:Addr}{o:HO}{t':Nat}(I:Inv X pins σ H s)(k:∀b u,s.heap.get? b=some u→h'.get? b=some u)(hp:s.heap.objs.size≤a)(new:wy X.prog X.w (upd H a o) h' a o):
 Inv X pins σ (upd H a o) { s with heap:=h',toks:=t' }:=I.un (Un.laid k hp (I.hok.fresh hp)) (I.hok.laid k hp new)
theorem Inv.write{x e:Addr}{o:HO}{t':Nat}(I:Inv X pins σ H s)(mu:Mut (H x))(he:e=x∨H e=some (.own x))(k:∀b u,b≠e→s.heap.get? b=some u→h'.get? b=some u)(heo:∃u,h'.get? e=some u)
 (new:wy X.prog X.w (upd H x o) h' x o):Inv X pins σ (upd H x o) { s with heap:=h',toks:=t' }:=I.un (Un.write mu he k heo) (I.hok.write mu he k heo new)
theorem Inv.pins_of{pins':List (Addr × Obj)}(I:Inv X pins σ H s)(h:∀p∈pins',s.heap.get? p.1=some p.2∧H p.1=none∧p.1≠X.env.locals∧p.1∉X.fs∧∀v,p.2.data ≠ .cell v):Inv X pins' σ H s :=
 ⟨I.ok,I.os,I.bare,I.base,I.loc,I.cell,I.free,I.freeC,fun p hp=>(List.mem_append.mp hp).elim (fun z=>I.pin p (List.mem_append_left _ z)) (h p),I.hok,I.len⟩
theorem zfa{N:List Str}(hN:N.Nodup){i j:Nat}{x:Str}(a:N[i]? = some x)(b:N[j]? = some x):i=j:=by
 obtain⟨h1,e1⟩:=List.getElem?_eq_some_iff.mp a
 obtain⟨h2,e2⟩:=List.getElem?_eq_some_iff.mp b
 exact(List.getElem_inj hN).mp (e1.trans e2.symm)
theorem zea{M:Model}{A:Around}{E:Value→Shared→Prop}{i:Nat}{x:Str}{v:V}{u:Value}{Q:Unit→Shared→Prop}(I:Inv X pins σ H s)(hN:X.N.Nodup)(hi:X.N[i]? = some x)(hx:Loc X.env.scope x)(r:yb v u)
 (h:∀s',Inv X pins (σ.set i (some v)) H s'→(∃a,Heap.SameBut a s.heap s'.heap∧(a=X.env.locals∨X.env.cells.lookup x=some a))→Q () s') (hf:X.fn x=true∨X.env.scope.names.lookup x=some .local:=by first | exact .inl rfl | exact .inr rfl | assumption):wpAny M A (storeName X.env x u) Q E s:=by
 obtain⟨m,hn,hl⟩:=id I.loc
 have hcls:(X.env.scope.kind == .class || (X.env.scope.kind == .module && X.env.locals != X.env.globals))=false:=by rw[I.ok.kind];rfl
 have hiσ:i<σ.length:=by rw[I.len];exact(List.getElem?_eq_some_iff.mp hi).1
 have cne:=I.cne
 have tracked:∀{a:Addr} {h':Heap},(∃o,s.heap.get? a=some o∧H a=none)→Heap.SameBut a s.heap h'→HOk X.prog X.w H h':=fun {a h'} ha hs b ob e=>by
  obtain⟨_,_,hfree⟩:=ha
  refine(I.hok b ob e).stay (fun c w' hc q=>(hs.2 c ?_).trans q) (fun _ q=>q) fun _ _ q=>q
  rintro rfl
  rcases hc with rfl | hc
  ·rw[hfree] at e;cases e
  ·rw[hfree] at hc;cases hc
 rcases hx with hk | hk
 ·refine wpAny_storeName_local hk hn (fun h' hn' hs=>?_) hcls
  obtain⟨oL,_,_,hoL,_⟩:=id hn
  refine h _ ⟨I.ok,I.os,I.bare,⟨fun b o e n hb hx=>?_,fun b o e n hb hx=>?_,I.base.free,fun b o e hx=>?_,I.base.tups,I.base.frzs,I.base.tbls⟩,⟨_,hn',fun j y v' e1 e2 e3=>?_⟩,fun y c e=>?_,I.free,I.freeC,fun p hp=>?_,tracked ⟨oL,hoL,I.free⟩ hs,by simpa using I.len⟩ ⟨_,hs,.inl rfl⟩
  ·exact(hs.2 b (Nat.ne_of_lt (Nat.lt_of_lt_of_le (Heap.lt_size e) I.ok.above))).trans (I.base.keep b o e n hb hx)
  ·obtain⟨sl,e1⟩:=I.base.slot b o e n hb hx
   exact⟨sl,(hs.2 b (Nat.ne_of_lt (Nat.lt_of_lt_of_le (Heap.lt_size e) I.ok.above))).trans e1⟩
  ·obtain⟨o',e1⟩:=I.base.there b o e hx
   exact⟨o',(hs.2 b (Nat.ne_of_lt (Nat.lt_of_lt_of_le (Heap.lt_size e) I.ok.above))).trans e1⟩
  ·by_cases hj:j=i
   ·subst hj
    rw[hi] at e1;cases e1
    rw[List.getElem?_set_self hiσ] at e2
    cases e2
    exact⟨u,r,.inl ⟨hk,by simp⟩⟩
   ·rw[List.getElem?_set_ne (Ne.symm hj)] at e2
    obtain⟨u',r',q⟩:=hl j y v' e1 e2 e3
    refine⟨u',r',?_⟩
    rcases q with⟨k,e⟩ | ⟨k,c,e,z⟩
    ·refine .inl ⟨k,?_⟩
     have:y≠x:=fun e=>hj (zfa hN e1 (e ▸ hi))
     simp[this,e]
    ·exact .inr ⟨k,c,e,z.sameBut hs (cne y c e)⟩
  ·obtain⟨w',z⟩:=I.cell y c e
   exact⟨w',z.sameBut hs (cne y c e)⟩
  ·obtain⟨e,n,ne,nf,d⟩:=I.pin p hp
   exact⟨(hs.2 p.1 ne).trans e,n,ne,nf,d⟩
 ·have hfn:X.fn x=true:=by
   rcases hf with z | z
   ·exact z
   ·rw[z] at hk;cases hk
  obtain⟨c,hc⟩:=I.ok.has x (.inl hk)
  obtain⟨w',z⟩:=I.cell x c hc
  refine wpAny_storeName_cell I.ok.kind hk hc z (fun h' hc' hs=>?_)
  obtain⟨oc,hoc,hocd⟩:=id z
  refine h { s with heap:=h' } ⟨I.ok,I.os,I.bare,⟨fun b o e n hb hx=>?_,fun b o e n hb hx=>?_,I.base.free,fun b o e hx=>?_,I.base.tups,I.base.frzs,I.base.tbls⟩,⟨m,hn.sameBut hs (Ne.symm (cne x c hc)),fun j y v' e1 e2 e3=>?_⟩,fun y c' e=>?_,I.free,I.freeC,fun p hp=>?_,tracked ⟨oc,hoc,I.freeC x c hc⟩ hs,by simpa using I.len⟩ ⟨c,hs,.inr hc⟩
  ·exact(hs.2 b (Nat.ne_of_lt (Nat.lt_of_lt_of_le (Heap.lt_size e) (I.ok.cab x c hfn hc)))).trans (I.base.keep b o e n hb hx)
  ·obtain⟨sl,e1⟩:=I.base.slot b o e n hb hx
   exact⟨sl,(hs.2 b (Nat.ne_of_lt (Nat.lt_of_lt_of_le (Heap.lt_size e) (I.ok.cab x c hfn hc)))).trans e1⟩
  ·obtain⟨o',e1⟩:=I.base.there b o e hx
   exact⟨o',(hs.2 b (Nat.ne_of_lt (Nat.lt_of_lt_of_le (Heap.lt_size e) (I.ok.cab x c hfn hc)))).trans e1⟩
  ·by_cases hj:j=i
   ·subst hj
    rw[hi] at e1;cases e1
    rw[List.getElem?_set_self hiσ] at e2
    cases e2
    exact⟨u,r,.inr ⟨.inl hk,c,hc,hc'⟩⟩
   ·rw[List.getElem?_set_ne (Ne.symm hj)] at e2
    obtain⟨u',r',q⟩:=hl j y v' e1 e2 e3
    refine⟨u',r',?_⟩
    rcases q with q | ⟨k,c',e,z'⟩
    ·exact .inl q
    ·refine .inr ⟨k,c',e,z'.sameBut hs ?_⟩
     rintro rfl
     exact hj (zfa hN e1 (I.ok.inj _ _ _ e hc ▸ hi))
  ·by_cases hcc:c'=c
   ·subst hcc;exact⟨_,hc'⟩
   ·obtain⟨w2,z2⟩:=I.cell y c' e
    exact⟨w2,z2.sameBut hs hcc⟩
  ·obtain⟨e,n,ne,nf,d⟩:=I.pin p hp
   refine⟨(hs.2 p.1 ?_).trans e,n,ne,nf,d⟩
   intro q
   rw[q,hoc] at e
   have q':oc=p.2:=Option.some.inj e
   exact d w' (by rw[← q'];exact hocd)
theorem zfi{M:Model}{A:Around}{E:Value→Shared→Prop}{i:Nat}{x:Str}{v:V}{u:Value}{Q:Unit→Shared→Prop}(I:Inv X pins σ H s)(hN:X.N.Nodup)(hi:X.N[i]? = some x)(hx:Loc X.env.scope x)(r:yb v u)
 (h:∀s',Inv X pins (σ.set i (some v)) H s'→Q () s') (hf:X.fn x=true∨X.env.scope.names.lookup x=some .local:=by first | exact .inl rfl | exact .inr rfl | assumption):wpAny M A (storeName X.env x u) Q E s :=
 zea I hN hi hx r (fun s' I' _=>h s' I') hf
theorem Inv.call'{s':Shared}{ch:List Addr}(I:Inv X pins σ H s)(ho:s'.os=s.os)(u:Un (frs X.stack) ch H H' s.heap s'.heap)(hok:HOk X.prog X.w H' s'.heap)(hg:AllBare s'.gens)
 (hch:∀b∈ch,(b∈X.ex∨X.s₀.heap.objs.size≤b)∧b≠X.env.locals∧(∀x c,X.env.cells.lookup x=some c→c≠b)∧∀p∈X.pn++pins,p.1≠b):Inv X pins σ H' s':=by
 obtain⟨h',g',d',t',o'⟩:=s'
 have e:o'=s.os:=ho
 subst e
 exact I.call (g':=g') (t':=t') (d':=d') u hok hg hch
end
abbrev XK:=Value→Option Addr→Hp→Prop
abbrev St:=List (Option V)
abbrev VK:=V→Hp→Prop
abbrev TE:=St→Hp→VK→Prop
abbrev TT:=St→Hp→(Bool→Hp→Prop)→Prop
abbrev TA:=St→Hp→(List V→Hp→Prop)→Prop
structure Ends where
 nx:St→Hp→Prop
 rt:VK
 bk:St→Hp→Prop:=fun _ _=>False
 ct:St→Hp→Prop:=fun _ _=>False
abbrev TS:=Ends→St→Hp→Prop
def EP(X:Cx)(pins:List (Addr × Obj))(σ:St)(Q:VK)(u:Value)(s':Shared):Prop:=∃v H',Inv X pins σ H' s'∧yb v u∧Q v H'
def TP(X:Cx)(pins:List (Addr × Obj))(σ:St)(Q:Bool→Hp→Prop)(b:Bool)(s':Shared):Prop:=∃H',Inv X pins σ H' s'∧Q b H'
def AP(X:Cx)(pins:List (Addr × Obj))(σ:St)(Q:List V→Hp→Prop)(us:List Value)(s':Shared):Prop:=∃vs H',Inv X pins σ H' s'∧zI vs us∧Q vs H'
def SP(X:Cx)(pins:List (Addr × Obj))(D:Ends)(f:Flow)(s':Shared):Prop :=
 match f with
 | .next=>∃σ' H',Inv X pins σ' H' s'∧D.nx σ' H'
 | .brk=>∃σ' H',Inv X pins σ' H' s'∧D.bk σ' H'
 | .cont=>∃σ' H',Inv X pins σ' H' s'∧D.ct σ' H'
 | .ret u=>∃v σ' H',Inv X pins σ' H' s'∧yb v u∧D.rt v H'
def PE(X:Cx)(e:Expr)(t:TE):Prop :=
 ∀(pins:List (Addr × Obj)) (s:Shared) (σ:St) (H:Hp) (Q:VK),Inv X pins σ H s→t σ H Q→wpAny (model X.prog X.w) X.A (eval e X.env) (EP X pins σ Q) X.xe s
def PT(X:Cx)(e:Expr)(t:TT):Prop :=
 ∀(pins:List (Addr × Obj)) (s:Shared) (σ:St) (H:Hp) (Q:Bool→Hp→Prop),Inv X pins σ H s→t σ H Q→wpAny (model X.prog X.w) X.A (isTrue e X.env (eval e X.env)) (TP X pins σ Q) X.xe s
def PW(X:Cx)(e:Expr)(t:TT):Prop :=
 ∀(whole:Sem Value) (pins:List (Addr × Obj)) (s:Shared) (σ:St) (H:Hp) (Q:Bool→Hp→Prop),Inv X pins σ H s→t σ H Q→wpAny (model X.prog X.w) X.A (isTrue e X.env whole) (TP X pins σ Q) X.xe s
theorem PW.pt{X:Cx}{e:Expr}{t:TT}(h:PW X e t):PT X e t:=h _
def PA(X:Cx)(es:List Expr)(t:TA):Prop :=
 ∀(pos:Pos) (pins:List (Addr × Obj)) (s:Shared) (σ:St) (H:Hp) (Q:List V→Hp→Prop),Inv X pins σ H s→t σ H Q→wpAny (model X.prog X.w) X.A (spliced (backTo pos (starEach es X.env))) (AP X pins σ Q) X.xe s
def PS(X:Cx)(st:Stmt)(t:TS):Prop :=
 ∀(pins:List (Addr × Obj)) (s:Shared) (σ:St) (H:Hp) (D:Ends),Inv X pins σ H s→t D σ H→wpAny (model X.prog X.w) X.A (exec st X.env) (SP X pins D) X.xe s
def PSs(X:Cx)(st:List Stmt)(t:TS):Prop :=
 ∀(pins:List (Addr × Obj)) (s:Shared) (σ:St) (H:Hp) (D:Ends),Inv X pins σ H s→t D σ H→wpAny (model X.prog X.w) X.A (execs st X.env) (SP X pins D) X.xe s
theorem thn{α:Type}{t:Sem α}{Q Q':α→Shared→Prop}{M:Model}{A:Around}{E:Value→Shared→Prop}{s:Shared}(h:wpAny M A t Q E s)(hQ:∀a s,Q a s→Q' a s):wpAny M A t Q' E s:=wpAny_mono h hQ fun _ _ x=>x
section
variable {X:Cx}
def tVar(i:Nat):TE:=fun σ H Q=>∃v,σ[i]? = some (some v)∧Q v H
def tC(v:V):TE:=fun _ H Q=>Q v H
theorem pe_var{i:Nat}{x:Str}{pos:Pos}(hN:X.N[i]? = some x)(hv:Vis X.env.scope x)(hd:(x==("__debug__" : Str))=false:=by decide)(hcd:(x==("__classdict__" : Str))=false:=by decide):PE X (.Name x pos) (tVar i):=by
 intro pins s σ H Q I h
 obtain⟨v,e,h⟩:=h
 obtain⟨m,hn,hl⟩:=I.loc
 obtain⟨u,r,l⟩:=hl i x v hN e hv
 have fin:EP X pins σ Q u s:=⟨v,H,I,r,h⟩
 rcases l with⟨hk,hm⟩ | ⟨hk,c,hc,hcell⟩
 ·exact wpAny_Name (wpAny_loadName_local I.ok.kind hk hn hm fin) hd
 ·rcases hk with hk | hk
  ·exact wpAny_Name (wpAny_loadName_cell I.ok.kind hk hc hcell fin) hd
  ·exact wpAny_Name (wpAny_loadName_free I.ok.kind hk hc hcell fin hcd) hd
theorem zh{i j pos}:PE X (.Constant (.int i) j pos) (tC (.int i)):=fun _ _ _ H _ I h=>wpAny_Constant_int ⟨.int i,H,I.tok _,⟨_,rfl⟩,h⟩
theorem wZ{b j pos}:PE X (.Constant (.bool b) j pos) (tC (.bl b)):=fun _ _ _ H _ I h=>Constant_bool ⟨.bl b,H,I,rfl,h⟩
theorem zgB{j pos}:PE X (.Constant .none j pos) (tC .non):=fun _ _ _ H _ I h=>Constant_none ⟨.non,H,I,rfl,h⟩
theorem zD{x j pos}:PE X (.Constant (.str x) j pos) (tC (.str x)):=fun _ _ _ H _ I h=>Calls.Constant_str ⟨.str x,H,I.tok _,⟨_,rfl⟩,h⟩
def Gl(X:Cx)(x:Str):Prop:=X.env.kindOf x=some .globalImplicit
theorem zc2{E:Value→Shared→Prop}{pins:List (Addr × Obj)}{s:Shared}{σ:St}{H:Hp}{x:Str}{u:Value}{pos:Pos}{Q:Value→Shared→Prop}(I:Inv X pins σ H s)(hg:Gl X x)(hm:X.mg x=some u)(h:Q u s)
 (hd:(x==("__debug__" : Str))=false:=by decide):wpAny (model X.prog X.w) X.A (eval (.Name x pos) X.env) Q E s :=
 Calls.Name_function_global I.ok.kind hg (Calls.loadGlobal_global (by rw[I.ok.glob];exact I.mod.glob.keeps I.bk) hm h) hd
theorem zcU{E:Value→Shared→Prop}{pins:List (Addr × Obj)}{s:Shared}{σ:St}{H:Hp}{x:Str}{u:Value}{pos:Pos}{Q:Value→Shared→Prop}(I:Inv X pins σ H s)(hg:Gl X x)(hm:X.mg x=none)(hv:bootBuiltins x=some u)(h:Q u s)
 (hn:x ≠ "__name__" := by decide) (hd:(x==("__debug__" : Str))=false:=by decide):wpAny (model X.prog X.w) X.A (eval (.Name x pos) X.env) Q E s:=by
 obtain⟨mb,h1,h2⟩:=I.mod.blt
 exact Calls.Name_function_global I.ok.kind hg (Calls.loadGlobal_builtin (by rw[I.ok.glob];exact I.mod.glob.keeps I.bk) hm (by rw[I.ok.blt];exact h1.keeps I.bk) ((h2 x hn).trans hv) h) hd
theorem zi6{x:Str}{v:V}{u:Value}{pos:Pos}(hg:Gl X x)(hm:X.mg x=some u)(r:yb v u)(hd:(x==("__debug__" : Str))=false:=by decide):PE X (.Name x pos) (tC v) :=
 fun _ _ _ H _ I h=>zc2 I hg hm ⟨v,H,I,r,h⟩ hd
theorem zcb{x:Str}{v:V}{u:Value}{pos:Pos}(hg:Gl X x)(hm:X.mg x=none)(hv:bootBuiltins x=some u)(r:yb v u)(hn:x ≠ "__name__" := by decide)(hd:(x==("__debug__" : Str))=false:=by decide):PE X (.Name x pos) (tC v) :=
 fun _ _ _ H _ I h=>zcU I hg hm hv ⟨v,H,I,r,h⟩ hn hd
variable {a b:Expr} {ta tb:TE} {pos:Pos}
def PC(X:Cx)(op:CmpOp)(a b:Expr)(t:TE):Prop :=
 ∀(pins:List (Addr × Obj)) (s:Shared) (σ:St) (H:Hp) (Q:VK),Inv X pins σ H s→t σ H Q →
  wpAny (model X.prog X.w) X.A (eval a X.env) (fun v s₁=>wpAny (model X.prog X.w) X.A (eval b X.env) (fun u s₂=>wpAny (model X.prog X.w) X.A (compareOp op v u) (EP X pins σ Q) X.xe s₂) X.xe s₁) X.xe s
def tB(t:TE):TT:=fun σ H Q=>t σ H fun x H1=>∃c,x=.bl c∧Q c H1
theorem pt_cmp{op:CmpOp}{t:TE}(h:PC X op a b t)(h1:behindInMarks op b=false:=by first | exact nobehind _ (by decide) (by decide) | rfl):PT X (.Compare a [op] [b] pos) (tB t):=by
 intro pins s σ H Q I hw
 refine wpAny_isTrue_Compare1 (thn (h pins s σ H _ I hw) fun v s1 h1=>thn h1 fun u s2 h2=>thn h2 fun c s3 ⟨x,H1,I1,r1,q1⟩=>?_) h1
 obtain⟨d,rfl,q⟩:=q1
 cases r1
 exact wpAny_truthy_bool ⟨H1,I1,q⟩
theorem yN{e:Expr}{t:TE}(h:PE X e t)(he:∀whole,isTrue e X.env whole=(do let v ← whole;standAt e.pos;holding [v] (truthy v)):=by intro _;rfl):PT X e (tB t):=by
 intro pins s σ H Q I hw
 refine isTrue_plain (thn (h pins s σ H _ I hw) fun v s1 ⟨x,H1,I1,r1,q1⟩=>?_) (he _)
 obtain⟨d,rfl,q⟩:=q1
 cases r1
 exact wpAny_truthy_bool ⟨H1,I1,q⟩
variable {tA tB':TT} {zbR:List Expr}
def tAnd(t u:TT):TT:=fun σ H Q=>t σ H fun c H1=>if c=true then u σ H1 Q else Q false H1
def tOr(t u:TT):TT:=fun σ H Q=>t σ H fun c H1=>if c=true then Q true H1 else u σ H1 Q
def tNot(t:TT):TT:=fun σ H Q=>t σ H fun c H1=>Q (!c) H1
theorem wQ(ha:PT X a tA):PW X (.BoolOp .And [a] pos) tA:=by
 intro wh pins s σ H Q I h
 refine isTrue_and (thn (ha pins s σ H Q I h) fun c s1 e=>?_)
 cases c with
 | true=>exact isTrue_and_nil e
 | false=>exact e
theorem zcA(ha:PT X a tA):PW X (.BoolOp .Or [a] pos) tA:=by
 intro wh pins s σ H Q I h
 refine isTrue_or (thn (ha pins s σ H Q I h) fun c s1 e=>?_)
 cases c with
 | false=>exact isTrue_or_nil e
 | true=>exact e
theorem zaN(ha:PT X a tA)(hb:PW X (.BoolOp .And (b::zbR) pos) tB'):PW X (.BoolOp .And (a::b::zbR) pos) (tAnd tA tB'):=by
 intro wh pins s σ H Q I h
 refine isTrue_and (thn (ha pins s σ H _ I h) fun c s1 ⟨H1,I1,q1⟩=>?_)
 cases c with
 | true=>exact hb wh pins s1 σ H1 Q I1 q1
 | false=>exact⟨H1,I1,q1⟩
theorem zeg(ha:PT X a tA)(hb:PW X (.BoolOp .Or (b::zbR) pos) tB'):PW X (.BoolOp .Or (a::b::zbR) pos) (tOr tA tB'):=by
 intro wh pins s σ H Q I h
 refine isTrue_or (thn (ha pins s σ H _ I h) fun c s1 ⟨H1,I1,q1⟩=>?_)
 cases c with
 | true=>exact⟨H1,I1,q1⟩
 | false=>exact hb wh pins s1 σ H1 Q I1 q1
theorem wv(ha:PT X a tA):PT X (.UnaryOp .Not a pos) (tNot tA):=by
 intro pins s σ H Q I h
 exact isTrue_not (ha pins s σ H (fun c H1=>Q (!c) H1) I h)
def tAndV(ta tb:TE):TE:=fun σ H Q=>ta σ H fun x H1=>∃c,x=.bl c∧if c=true then tb σ H1 Q else Q (.bl false) H1
def tOrV(ta tb:TE):TE:=fun σ H Q=>ta σ H fun x H1=>∃c,x=.bl c∧if c=true then Q (.bl true) H1 else tb σ H1 Q
def tNotV(ta:TE):TE:=fun σ H Q=>ta σ H fun x H1=>∃c,x=.bl c∧Q (.bl (!c)) H1
theorem zdi{op}{t:TE}(h:PE X a t):PE X (.BoolOp op [a] pos) t:=fun pins s σ H Q I hw=>BoolOp_one (h pins s σ H Q I hw)
theorem zcp(ha:PE X a ta)(hb:PE X (.BoolOp .And (b::zbR) pos) tb):PE X (.BoolOp .And (a::b::zbR) pos) (tAndV ta tb):=by
 intro pins s σ H Q I h
 refine BoolOp_and (thn (ha pins s σ H _ I h) fun v s1 ⟨x,H1,I1,r1,q1⟩=>?_)
 obtain⟨c,rfl,q1⟩:=q1
 cases r1
 refine wpAny_truthy_bool ?_
 cases c with
 | true=>exact hb pins s1 σ H1 Q I1 q1
 | false=>exact⟨.bl false,H1,I1,rfl,q1⟩
theorem pe_or(ha:PE X a ta)(hb:PE X (.BoolOp .Or (b::zbR) pos) tb):PE X (.BoolOp .Or (a::b::zbR) pos) (tOrV ta tb):=by
 intro pins s σ H Q I h
 refine BoolOp_or (thn (ha pins s σ H _ I h) fun v s1 ⟨x,H1,I1,r1,q1⟩=>?_)
 obtain⟨c,rfl,q1⟩:=q1
 cases r1
 refine wpAny_truthy_bool ?_
 cases c with
 | false=>exact hb pins s1 σ H1 Q I1 q1
 | true=>exact⟨.bl true,H1,I1,rfl,q1⟩
theorem pe_not(ha:PE X a ta):PE X (.UnaryOp .Not a pos) (tNotV ta):=by
 intro pins s σ H Q I h
 refine UnaryOp_ (thn (ha pins s σ H _ I h) fun v s1 ⟨x,H1,I1,r1,q1⟩=>?_)
 obtain⟨c,rfl,q1⟩:=q1
 cases r1
 exact not_of (wpAny_truthy_bool ⟨.bl (!c),H1,I1,rfl,q1⟩)
def tIf(t:TT)(ta tb:TE):TE:=fun σ H Q=>t σ H fun c H1=>if c=true then ta σ H1 Q else tb σ H1 Q
theorem pe_ifExp{c:Expr}(hc:PT X c tA)(ha:PE X a ta)(hb:PE X b tb):PE X (.IfExp c a b pos) (tIf tA ta tb):=by
 intro pins s σ H Q I h
 refine wpAny_IfExp (thn (hc pins s σ H _ I h) fun d s1 ⟨H1,I1,q1⟩=>?_)
 cases d with
 | true=>exact ha pins s1 σ H1 Q I1 q1
 | false=>exact hb pins s1 σ H1 Q I1 q1
end
def SqL(K:PySem.W.Frag)(H:Hp)(a:Addr)(xs:List V):Prop :=
 Rd H a (.lst xs) ∨
  ∃(o:Obj) (its:Array Value) (n:Nat),K.lookup a=some o∧o.cls=.type "list" ∧ o.dict=none∧o.data=.seq its n∧its.size≤sizeLine∧zI xs its.toList
def SqT(K:PySem.W.Frag)(H:Hp)(a:Addr)(xs:List V):Prop :=
 Rd H a (.tup xs) ∨
  ∃(o:Obj) (its:Array Value) (n:Nat),K.lookup a=some o∧o.cls=.type "tuple" ∧ o.data=.seq its n∧its.size≤sizeLine∧zI xs its.toList
def absV:Value→Option V
 | .none=>some .non
 | .bool b=>some (.bl b)
 | .int i _=>some (.int i)
 | .str x _=>some (.str x)
 | .bytes b _=>some (.byt b)
 | .float b _=>some (.flt b)
 | .ref a=>some (.ref a)
 | .type n=>some (.ty n)
 | _=>none
theorem yb.abs{x:V}{u:Value}(r:yb x u):absV u=some x:=by
 cases x with
 | non=>cases r;rfl
 | bl _=>cases r;rfl
 | int _=>obtain⟨t,rfl⟩:=r;rfl
 | str _=>obtain⟨t,rfl⟩:=r;rfl
 | byt _=>obtain⟨t,rfl⟩:=r;rfl
 | flt _=>obtain⟨t,rfl⟩:=r;rfl
 | ref _=>cases r;rfl
 | ty _=>cases r;rfl
theorem yb.inj{x y:V}{u:Value}(r:yb x u)(q:yb y u):x=y:=Option.some.inj (r.abs.symm.trans q.abs)
theorem zI.inj:∀{xs ys:List V} {us:List Value},zI xs us→zI ys us→xs=ys
 | _,_,_,.nil,.nil=>rfl
 | _,_,_,.cons r t,.cons r' t'=>by rw[r.inj r',zI.inj t t']
section
variable {X:Cx} {pins:List (Addr × Obj)} {σ:St} {H:Hp} {s:Shared} {a:Addr} {xs ys:List V}
theorem SqL.of{K:PySem.W.Frag}(h:H a=some (.lst xs)):SqL K H a xs:=.inl (.inl h)
theorem SqT.of{K:PySem.W.Frag}(h:H a=some (.tup xs)):SqT K H a xs:=.inl (.inl h)
theorem Inv.list(I:Inv X pins σ H s)(h:SqL X.K H a xs):∃its:List Value,zI xs its∧PlainL s.heap a its.toArray∧xs.length≤sizeLine:=by
 rcases h with h | ⟨o,its,n,hk,hc,hd,hs,hz,r⟩
 ·obtain⟨z,its,n,r,e⟩:=h.ok I.hok
  exact⟨its,r,⟨_,n,e,rfl,rfl,rfl⟩,z⟩
 ·refine⟨its.toList,r,⟨o,n,I.kIn a o hk,hc,hd,by simpa using hs⟩,?_⟩
  have e:=r.length
  simp only[Array.length_toList] at e
  omega
theorem Inv.tuple(I:Inv X pins σ H s)(h:SqT X.K H a xs):∃its:List Value,zI xs its∧IsTup s.heap a its.toArray∧xs.length≤sizeLine:=by
 rcases h with h | ⟨o,its,n,hk,hc,hs,hz,r⟩
 ·obtain⟨z,its,r,p⟩:=h.ok I.hok
  exact⟨its,r,p,z⟩
 ·refine⟨its.toList,r,⟨o,I.kIn a o hk,hc,n,by simpa using hs⟩,?_⟩
  have e:=r.length
  simp only[Array.length_toList] at e
  omega
theorem Inv.list_inj(I:Inv X pins σ H s)(h:SqL X.K H a xs)(h':SqL X.K H a ys):xs=ys:=by
 obtain⟨its,r,⟨o,n,e,_,_,d⟩,_⟩:=I.list h
 obtain⟨its',r',⟨o',n',e',_,_,d'⟩,_⟩:=I.list h'
 rw[e] at e';cases e'
 rw[d] at d'
 injection d' with d1 _
 have:its=its':=by simpa using congrArg Array.toList d1
 subst this
 exact r.inj r'
end
abbrev Cx.wish(X:Cx)(E:Value→Shared→Prop):Cx:={ X with xe:=E }
abbrev Cx.nox(X:Cx):Cx:=X.wish fun _ _=>False
theorem Cx.Ok.wish{X:Cx}(ok:X.Ok)(E:Value→Shared→Prop):(X.wish E).Ok :=
 ⟨ok.mod,ok.kind,ok.glob,ok.blt,ok.above,ok.inj,ok.has,ok.cab,ok.hd,ok.frames,ok.stk,ok.exf,ok.bs,ok.bsz,ok.noex,ok.exfs,ok.funs,ok.frf⟩
theorem Cx.Ok.unwish{X:Cx}{E:Value→Shared→Prop}(ok:(X.wish E).Ok):X.Ok :=
 ⟨ok.mod,ok.kind,ok.glob,ok.blt,ok.above,ok.inj,ok.has,ok.cab,ok.hd,ok.frames,ok.stk,ok.exf,ok.bs,ok.bsz,ok.noex,ok.exfs,ok.funs,ok.frf⟩
section
variable {X:Cx} {pins:List (Addr × Obj)} {σ:St} {H:Hp} {s:Shared} {E:Value→Shared→Prop}
theorem Inv.wish(I:Inv X pins σ H s)(E:Value→Shared→Prop):Inv (X.wish E) pins σ H s:=⟨I.ok.wish E,I.os,I.bare,I.base,I.loc,I.cell,I.free,I.freeC,I.pin,I.hok,I.len⟩
theorem Inv.unwish(I:Inv (X.wish E) pins σ H s):Inv X pins σ H s:=⟨I.ok.unwish,I.os,I.bare,I.base,I.loc,I.cell,I.free,I.freeC,I.pin,I.hok,I.len⟩
theorem SP.unwish{D:Ends}{f:Flow}{s':Shared}(h:SP (X.wish E) pins D f s'):SP X pins D f s':=by
 cases f with
 | next=>obtain⟨σ',H',I,q⟩:=h;exact⟨σ',H',I.unwish,q⟩
 | brk=>obtain⟨σ',H',I,q⟩:=h;exact⟨σ',H',I.unwish,q⟩
 | cont=>obtain⟨σ',H',I,q⟩:=h;exact⟨σ',H',I.unwish,q⟩
 | ret u=>obtain⟨v,σ',H',I,r,q⟩:=h;exact⟨v,σ',H',I.unwish,r,q⟩
theorem PSs.nox{st:List Stmt}{t:TS}(h:PSs X.nox st t):PSs X st t:=fun pins s σ H D I hw =>
 wpAny_mono (h pins s σ H D (I.wish _) hw) (fun _ _ q=>q.unwish) fun _ _ z=>False.elim z
end
section
variable {X:Cx} {st:Stmt} {zbR:List Stmt} {t u:TS} {e:Expr} {te:TE} {pos:Pos}
def tNext:TS:=fun D σ H=>D.nx σ H
def tSeq(t u:TS):TS:=fun D σ H=>t { D with nx:=u D } σ H
theorem zw:PSs X [] tNext:=fun _ _ σ H _ I h=>wpAny_execs_nil ⟨σ,H,I,h⟩
theorem zd(h1:PS X st t)(h2:PSs X zbR u):PSs X (st::zbR) (tSeq t u):=by
 intro pins s σ H D I h
 refine wpAny_execs_cons (thn (h1 pins s σ H { D with nx:=u D } I h) fun f s1 q=>?_)
 cases f with
 | next =>
   obtain⟨σ',H',I',q⟩:=q
   exact h2 pins s1 σ' H' D I' q
 | ret v=>exact q
 | brk=>exact q
 | cont=>exact q
theorem zg(h1:PS X st t):PSs X [st] t:=by
 intro pins s σ H D I h
 refine wpAny_execs_cons (thn (h1 pins s σ H D I h) fun f s1 q=>?_)
 cases f with
 | next=>exact wpAny_execs_nil q
 | ret v=>exact q
 | brk=>exact q
 | cont=>exact q
theorem Inv.quiet{pins:List (Addr × Obj)}{σ:St}{H:Hp}{s:Shared}(I:Inv X pins σ H s):interactive X.env=false:=by simp[interactive,I.ok.kind]
def tDrop(te:TE):TS:=fun D σ H=>te σ H fun _ H1=>D.nx σ H1
theorem zU(he:PE X e te)(hs:swapsWith e none pos.line X.env=pure false:=by rfl):PS X (.Expr e pos) (tDrop te):=by
 intro pins s σ H D I h
 exact wpAny_Expr_any (thn (he pins s σ H _ I h) fun v s1 ⟨x,H1,I1,r1,q1⟩=>⟨σ,H1,I1,q1⟩) I.quiet hs
def tRet(te:TE):TS:=fun D σ H=>te σ H D.rt
theorem zm(he:PE X e te):PS X (.Return (some e) pos) (tRet te):=by
 intro pins s σ H D I h
 exact wpAny_Return_some (thn (he pins s σ H _ I h) fun v s1 ⟨x,H1,I1,r1,q1⟩=>⟨x,σ,H1,I1,r1,q1⟩)
def tIfS(c:TT)(t u:TS):TS:=fun D σ H=>c σ H fun b H1=>if b=true then t D σ H1 else u D σ H1
theorem zC{c:Expr}{a b:List Stmt}{tc:TT}(hc:PT X c tc)(ha:PSs X a t)(hb:PSs X b u):PS X (.If c a b pos) (tIfS tc t u):=by
 intro pins s σ H D I h
 refine wpAny_If (thn (hc pins s σ H _ I h) fun d s1 ⟨H1,I1,q1⟩=>?_)
 cases d with
 | true=>exact ha pins s1 σ H1 D I1 q1
 | false=>exact hb pins s1 σ H1 D I1 q1
end
abbrev TG:=V→St→Hp→(St→Hp→Prop)→Prop
abbrev TGs:=List V→St→Hp→(St→Hp→Prop)→Prop
def PG(X:Cx)(target:Expr)(t:TG):Prop :=
 ∀(pins:List (Addr × Obj)) (s:Shared) (σ:St) (H:Hp) (v:V) (u:Value) (Q:St→Hp→Prop),Inv X pins σ H s→yb v u→t v σ H Q →
  wpAny (model X.prog X.w) X.A (assign target X.env u) (fun _ s'=>∃σ' H',Inv X pins σ' H' s'∧Q σ' H') X.xe s
def PGs(X:Cx)(ts:List Expr)(t:TGs):Prop :=
 ∀(pins:List (Addr × Obj)) (s:Shared) (σ:St) (H:Hp) (vs:List V) (us:List Value) (Q:St→Hp→Prop),Inv X pins σ H s→zI vs us→t vs σ H Q →
  wpAny (model X.prog X.w) X.A (assignInOrder ((assignEach ts X.env).map (·.2)) us) (fun _ s'=>∃σ' H',Inv X pins σ' H' s'∧Q σ' H') X.xe s
abbrev TSet:=V→V→V→Hp→(Hp→Prop)→Prop
def PSet(X:Cx)(t:TSet):Prop :=
 ∀(pins:List (Addr × Obj)) (s:Shared) (σ:St) (H:Hp) (o i v:V) (ov iv u:Value) (Q:Hp→Prop),Inv X pins σ H s→yb o ov→yb i iv→yb v u→t o i v H Q →
  wpAny (model X.prog X.w) X.A (setItem ov iv u) (fun _ s'=>∃H',Inv X pins σ H' s'∧Q H') X.xe s
section
variable {X:Cx} {pos:Pos}
def zdr(i:Nat):TG:=fun v σ H Q=>Q (σ.set i (some v)) H
theorem yR{i:Nat}{x:Str}(hN:X.N.Nodup)(hi:X.N[i]? = some x)(hx:Loc X.env.scope x)(hf:X.fn x=true∨X.env.scope.names.lookup x=some .local:=by first | exact .inl rfl | exact .inr rfl | assumption):PG X (.Name x pos) (zdr i):=by
 intro pins s σ H v u Q I r h
 exact wpAny_assign_Name (zfi I hN hi hx r (fun s' I'=>⟨_,H,I',h⟩) hf)
def gNil:TGs:=fun vs σ H Q=>vs = []∧Q σ H
def gCons(t:TG)(u:TGs):TGs:=fun vs σ H Q=>∃v r,vs=v::r∧t v σ H fun σ' H'=>u r σ' H' Q
theorem pgs_nil:PGs X [] gNil:=by
 intro pins s σ H vs us Q I r h
 obtain⟨e,h⟩:=h
 subst e
 cases r
 exact assignInOrder_nil ⟨σ,H,I,h⟩
theorem zhF{e:Expr}{es:List Expr}{t:TG}{u:TGs}(h1:PG X e t)(h2:PGs X es u)
 (hs:(assignEach (e::es) X.env).map (·.2)=assign e X.env::(assignEach es X.env).map (·.2):=by rfl):PGs X (e::es) (gCons t u):=by
 intro pins s σ H vs us Q I r h
 obtain⟨v,vr,e1,h⟩:=h
 subst e1
 cases r with
 | cons r rr =>
   rw[hs]
   refine assignInOrder_cons (thn (h1 pins s σ H _ _ _ I r h) fun _ s1 ⟨σ1,H1,I1,q1⟩=>?_)
   exact h2 pins s1 σ1 H1 _ _ Q I1 rr q1
def gTup(K:PySem.W.Frag)(n:Nat)(t:TGs):TG:=fun v σ H Q=>∃a xs,v=.ref a∧SqT K H a xs∧xs.length=n∧t xs σ H Q
theorem pg_tup{es:List Expr}{k:Nat}{t:TGs}{n:Nat}(hc:X.calm=true)(h:PGs X es t)
 (hn:(assignEach es X.env).length=n:=by rfl) (hst:(assignEach es X.env).findIdx? (·.1)=none:=by rfl):PG X (.Tuple es k pos) (gTup X.K n t):=by
 intro pins s σ H v u Q I r hw
 obtain⟨a,xs,e1,hq,hl,hw⟩:=hw
 subst e1
 cases r
 obtain⟨its,rv,ht,hz⟩:=I.tuple hq
 refine assign_Tuple_tuple (I.ok.hd hc) ht (by simp[hn,← hl,rv.length]) hst fun h' hx=>?_
 have I1:Inv X pins σ H { s with heap:=h' }:=I.kept (t':=s.toks) fun b o e=>hx b o (Nat.ne_of_lt (Heap.lt_size e)) e
 exact h pins _ σ H xs _ Q I1 (by simpa using rv) hw
def gSub(to ti:TE)(t:TSet):TG:=fun v σ H Q=>to σ H fun o H1=>ti σ H1 fun i H2=>t o i v H2 fun H3=>Q σ H3
theorem pg_sub{o i:Expr}{to ti:TE}{t:TSet}(ho:PE X o to)(hi:PE X i ti)(hs:PSet X t)
 (ha:∀v,assign (.Subscript o i pos) X.env v=(do
   let ov ← holding [v] (eval o X.env)
   let iv ← holding [v,ov] (eval i X.env)
   standAt pos
   holding [v,ov,iv] (setItem ov iv v)
   release [v,ov,iv] []):=by intro _;rfl):PG X (.Subscript o i pos) (gSub to ti t):=by
 intro pins s σ H v u Q I r h
 rw[ha]
 refine wpAny_bind (wpAny_holding (thn (ho pins s σ H _ I h) fun ov s1 ⟨x,H1,I1,r1,q1⟩=>?_))
 refine wpAny_bind (wpAny_holding (thn (hi pins s1 σ H1 _ I1 q1) fun iv s2 ⟨y,H2,I2,r2,q2⟩=>?_))
 refine wpAny_bind (wpAny_standAt (wpAny_bind (wpAny_holding (thn (hs pins s2 σ H2 x y v ov iv u _ I2 r1 r2 r q2) fun _ s3 ⟨H3,I3,q3⟩=>?_))))
 exact wpAny_release ⟨σ,H3,I3,q3⟩
def tAsg(te:TE)(g:TG):TS:=fun D σ H=>te σ H fun x H1=>g x σ H1 D.nx
theorem ps_asg{tg e:Expr}{te:TE}{g:TG}(he:PE X e te)(hg:PG X tg g)(hs:swapsWithSole [tg] e pos.line X.env=pure false:=by rfl)(hw:swappedStores [tg] e X.env=pure none:=by rfl)
 (h1:(assignEach [tg] X.env).map (·.2) = [assign tg X.env]:=by rfl):PS X (.Assign [tg] e pos) (tAsg te g):=by
 intro pins s σ H D I h
 refine wpAny_Assign_stores (thn (he pins s σ H _ I h) fun v s1 ⟨x,H1,I1,r1,q1⟩=>?_) hs hw
 rw[h1]
 exact thn (hg pins s1 σ H1 x v _ I1 r1 q1) fun _ s2 q=>q
theorem zy{i:Nat}{x:Str}{e:Expr}{te:TE}{pos':Pos}(hN:X.N.Nodup)(hi:X.N[i]? = some x)(hx:Loc X.env.scope x)(he:PE X e te)(hs:swapsWith e (some (.Name x pos')) pos.line X.env=pure false:=by rfl)(hf:X.fn x=true∨X.env.scope.names.lookup x=some .local:=by first | exact .inl rfl | exact .inr rfl | assumption):
 PS X (.Assign [.Name x pos'] e pos) (tAsg te (zdr i)):=by
 intro pins s σ H D I h
 refine wpAny_Assign_Name (thn (he pins s σ H _ I h) fun v s1 ⟨y,H1,I1,r1,q1⟩=>?_) hs
 exact zfi I1 hN hi hx r1 (fun s2 I2=>⟨_,H1,I2,q1⟩) hf
end
section
variable {X:Cx} {pos:Pos}
def tWhile(c:TT)(tb:TS):TS:=fun D σ H=>∃W:Nat→St→Hp→Prop,(∃m,W m σ H)∧∀m σ H,W m σ H →
 c σ H fun b H1=>if b=true then ∃N:St→Hp→Prop,(∀σ' H',N σ' H'→∃m',m'<m∧W m' σ' H')∧tb { D with nx:=N,ct:=N,bk:=D.nx } σ H1 else D.nx σ H1
theorem ps_while{c:Expr}{body:List Stmt}{tc:TT}{tb:TS}(hp:PassesOwn (model X.prog X.w) X.A X.env X.xe)(hc:PT X c tc)(hb:PSs X body tb):PS X (.While c body [] pos) (tWhile tc tb):=by
 intro pins s σ H D I h
 obtain⟨W,⟨m0,w0⟩,wR⟩:=h
 refine wpAny_While (codeAny_whileLoop (fun n s'=>∃σ' H',Inv X pins σ' H' s'∧W n σ' H') ?_ m0 ⟨σ,H,I,w0⟩)
 rintro n s1 ⟨σ1,H1,I1,w1⟩
 refine wpAny_passesOwn hp (thn (hc pins s1 σ1 H1 _ I1 (wR n σ1 H1 w1)) fun b s2 ⟨H2,I2,q2⟩=>?_)
 cases b with
 | true =>
   obtain⟨N,hN,q2⟩:=q2
   rw[if_pos rfl]
   refine wpAny_passesOwn hp (thn (hb pins s2 σ1 H2 _ I2 q2) fun f s3 q3=>?_)
   cases f with
   | next =>
     obtain⟨σ3,H3,I3,n3⟩:=q3
     obtain⟨m',hm,w3⟩:=hN σ3 H3 n3
     exact⟨m',hm,σ3,H3,I3,w3⟩
   | cont =>
     obtain⟨σ3,H3,I3,n3⟩:=q3
     obtain⟨m',hm,w3⟩:=hN σ3 H3 n3
     exact⟨m',hm,σ3,H3,I3,w3⟩
   | brk=>exact q3
   | ret v=>exact q3
 | false =>
   rw[if_neg Bool.false_ne_true]
   exact wpAny_execs_nil ⟨σ1,H2,I2,q2⟩
end
structure It where
 go:Nat→Hp→Prop
 yld:Nat→Hp→V→Hp→Prop
 stop:Nat→Hp→Prop
def zab(X:Cx)(pins:List (Addr × Obj))(H:Hp)(b:Addr):Prop :=
 H b=none∧b≠X.env.locals∧b∉X.fs∧(b∈X.ex∨X.s₀.heap.objs.size≤b)∧(∀x c,X.env.cells.lookup x=some c→c≠b)∧∀p∈X.pn++pins,p.1≠b
theorem Inv.fpOk{X:Cx}{pins:List (Addr × Obj)}{σ:St}{H H':Hp}{s:Shared}{b:Addr}(I:Inv X pins σ H s)(hb:s.heap.objs.size≤b)(hn:H' b=none):zab X pins H' b:=by
 refine⟨hn,Nat.ne_of_gt (Nat.lt_of_lt_of_le I.lt hb),I.nofs hb,.inr (Nat.le_trans I.sz hb),fun x c e z=>?_,fun p hp z=>?_⟩
 ·obtain⟨v,q⟩:=I.cell x c e
  exact absurd (Nat.lt_of_lt_of_le q.lt (by rw[z];exact hb)) (Nat.lt_irrefl _)
 ·exact absurd (Nat.lt_of_lt_of_le (Heap.lt_size (I.pin p hp).1) (by rw[z];exact hb)) (Nat.lt_irrefl _)
structure Turn (P:Program) (w:World) (K:PySem.W.Frag) (tg:Expr) (J:It) (fp:List Addr) (it:Addr) (tn:Nat→Heap→Prop):Prop where
 mem:it∈fp
 obj:∀i h,tn i h→∀b∈fp,∃o,h.get? b=some o∧∀v,o.data ≠ .cell v
 keep:∀i h h',tn i h→(∀b∈fp,∀o,h.get? b=some o→h'.get? b=some o)→tn i h'
 item:∀(X:Cx),X.prog=P→X.w=w→X.K=K→X.calm=true→∀(i:Nat) (pins:List (Addr × Obj)) (s:Shared) (σ:St) (H:Hp) (E:Value→Shared→Prop),Inv X pins σ H s→(∀b∈fp,zab X pins H b)→tn i s.heap→J.go i H →
  wpAny (model P w) X.A (pyNext (.ref it)) (fun r s1=>∃u,r=some u ∧
   wpAny (model P w) X.A (letOwnedTupleGo tg (.ref it) u) (fun _ s2=>∃x H',Inv X pins σ H' s2∧yb x u∧J.yld i H x H'∧tn (i+1) s2.heap∧∀b∈fp,H' b=none) E s1) E s
 done:∀(X:Cx),X.prog=P→X.w=w→X.K=K→X.calm=true→∀(i:Nat) (pins:List (Addr × Obj)) (s:Shared) (σ:St) (H:Hp) (E:Value→Shared→Prop),Inv X pins σ H s→(∀b∈fp,zab X pins H b)→tn i s.heap→J.stop i H →
  wpAny (model P w) X.A (pyNext (.ref it)) (fun r s1=>r=none∧Inv X pins σ H s1) E s
 self:∀(A:Around) (i:Nat) (s:Shared) (Q:Value→Shared→Prop) (E:Value→Shared→Prop),tn i s.heap→Q (.ref it) s→wpAny (model P w) A (pyIter (.ref it)) Q E s
abbrev TI:=St→Hp→(It→Hp→Prop)→Prop
def PIE(X:Cx)(pins:List (Addr × Obj))(σ:St)(tg:Expr)(R:It→Hp→Prop)(itv:Value)(s2:Shared):Prop :=
 ∃(it:Addr) (fp:List Addr) (tn:Nat→Heap→Prop) (J:It) (H':Hp),itv=.ref it∧Inv X pins σ H' s2∧Turn X.prog X.w X.K tg J fp it tn∧tn 0 s2.heap∧(∀b∈fp,zab X pins H' b)∧R J H'
def PI(X:Cx)(tg iter:Expr)(wi:TI):Prop :=
 ∀(pins:List (Addr × Obj)) (s:Shared) (σ:St) (H:Hp) (R:It→Hp→Prop),Inv X pins σ H s→wi σ H R →
  wpAny (model X.prog X.w) X.A (eval iter X.env) (fun v s1=>wpAny (model X.prog X.w) X.A (pyIter v) (PIE X pins σ tg R) X.xe s1) X.xe s
theorem go_of{M:Model}{A:Around}{E:Value→Shared→Prop}{s:Shared}{tg:Expr}{it:Addr}{u:Value}{o:Obj}{n:String}{vs:Array Value}{Q:Unit→Shared→Prop}(ho:s.heap.get? it=some o)(hc:o.cls=.type n)(hd:o.data=.fields vs)
 (hn : ["enumerate","zip","dict_itemiterator","dict_reverseitemiterator","odict_iterator","itertools.zip_longest","itertools.pairwise"].contains n=false) (hQ:Q () s):wpAny M A (letOwnedTupleGo tg (.ref it) u) Q E s:=by
 unfold letOwnedTupleGo
 cases tg <;> first
  | exact wpAny_pure hQ
  | (cases u <;> first
      | exact wpAny_pure hQ
      | (refine wpAny_bind (wpAny_load ho ?_)
         rw[hc,hd]
         show wpAny M A (if(["enumerate","zip","dict_itemiterator","dict_reverseitemiterator","odict_iterator","itertools.zip_longest","itertools.pairwise"].contains n && vs[0]? == some (rawInt _))=true then _ else _) Q E s
         rw[if_neg (by intro h;rw[hn,Bool.false_and] at h;cases h)]
         exact wpAny_pure hQ))
def Itl(K:PySem.W.Frag)(a:Addr):It :=
 ⟨fun i H=>∃xs x,SqL K H a xs∧xs[i]? = some x,fun i H x H'=>H'=H∧∀xs,SqL K H a xs→xs[i]? = some x,fun i H=>∃xs,SqL K H a xs∧xs.length≤i⟩
def Itr(lo:Int)(n:Nat):It:=⟨fun i _=>i<n,fun i H x H'=>H'=H∧x=.int (lo+i),fun i _=>n≤i⟩
theorem zjc{P:Program}{w:World}{K:PySem.W.Frag}{tg:Expr}(a it:Addr):Turn P w K tg (Itl K a) [it] it (fun i h=>h.IsListIter it a i) where
 mem:=by simp
 obj:=fun i h st b hb=>by
  have e:b=it:=by simpa using hb
  subst e
  obtain⟨o,e,c,d⟩:=st
  exact⟨o,e,fun v z=>by rw[d] at z;cases z⟩
 keep:=fun i h h' st k=>st.at fun o e=>k it (by simp) o e
 item:=by
  intro X hP hw hK hc i pins s σ H E I hf st hg
  subst hP hw hK
  obtain⟨xs,x,hq,hx⟩:=hg
  obtain⟨its,rv,p,hz⟩:=I.list hq
  obtain⟨u,hu,ru⟩:=rv.get hx
  obtain⟨f0,f1,f2,f3,f4,f5⟩:=hf it (by simp)
  refine wpAny_pyNext_list_item st p.isList (x:=u) (by simpa using hu) fun h' st' sb=>?_
  have I1:Inv X pins σ H { s with heap:=h' }:=I.turned (t':=s.toks) (fun b o hb e=>(sb.2 b hb).trans e) f0 f1 f3 f4 f5
  obtain⟨o,e,c,d⟩:=id st'
  exact⟨u,rfl,go_of (s:={ s with heap:=h' }) e c d (by decide) ⟨x,H,I1,ru,⟨rfl,fun ys hy=>by rw[I.list_inj hy hq];exact hx⟩,st',fun b hb=>(hf b hb).1⟩⟩
 done:=by
  intro X hP hw hK hc i pins s σ H E I hf st hg
  subst hP hw hK
  obtain⟨xs,hq,hx⟩:=hg
  obtain⟨its,rv,p,hz⟩:=I.list hq
  obtain⟨f0,f1,f2,f3,f4,f5⟩:=hf it (by simp)
  have hl:=rv.length
  exact wpAny_pyNext_list_end (I.ok.hd hc) st p.isList (by simp;omega) fun h' eb=>⟨rfl,I.turned (t':=s.toks) (fun b o hb e=>eb b o hb e) f0 f1 f3 f4 f5⟩
 self:=fun _ _ _ _ _ st h=>wpAny_pyIter_listiter st h
theorem zh9{P:Program}{w:World}{K:PySem.W.Frag}{tg:Expr}(it:Addr)(lo:Int)(n:Nat):Turn P w K tg (Itr lo n) [it] it (fun i h=>IsRangeIter h it (lo+(i:Nat)*1) ((n:Int) - (i:Nat)) 1) where
 mem:=by simp
 obj:=fun i h st b hb=>by
  have e:b=it:=by simpa using hb
  subst e
  exact⟨_,st,fun v z=>by
   have z':Data.fields _=Data.cell v:=z
   cases z'⟩
 keep:=fun i h h' st k=>k it (by simp) _ st
 item:=by
  intro X hP hw hK hc i pins s σ H E I hf st hg
  subst hP hw hK
  obtain⟨f0,f1,f2,f3,f4,f5⟩:=hf it (by simp)
  have W:=Walks.range (prog:=X.prog) (w:=X.w) (I.ok.hd hc) it lo 1 n
  refine W.item i s _ _ hg st fun v h' tk hv st' kk=>?_
  obtain⟨t,rfl⟩:=hv
  have I1:Inv X pins σ H { s with heap:=h',toks:=tk }:=I.turned (fun b o hb e=>kk b o (by simpa using hb) e) f0 f1 f3 f4 f5
  refine⟨_,rfl,go_of (s:={ s with heap:=h',toks:=tk }) (n:= "range_iterator") st' rfl rfl (by decide) ⟨.int (lo+i),H,I1,⟨t,?_⟩,⟨rfl,rfl⟩,st',fun b hb=>(hf b hb).1⟩⟩
  rw[Int.mul_one]
 done:=by
  intro X hP hw hK hc i pins s σ H E I hf st hg
  subst hP hw hK
  obtain⟨f0,f1,f2,f3,f4,f5⟩:=hf it (by simp)
  exact wpAny_pyNext_range_end (I.ok.hd hc) st (by have:n≤i:=hg;omega) fun h' eb=>⟨rfl,I.turned (t':=s.toks) (fun b o hb e=>eb b o hb e) f0 f1 f3 f4 f5⟩
 self:=fun _ _ _ _ _ st h=>wpAny_pyIter_rangeiter st h
section
variable {X:Cx} {tg:Expr}
def iList(K:PySem.W.Frag)(tl:TE):TI:=fun σ H R=>tl σ H fun x H1=>∃a,x=.ref a∧(∃xs,SqL K H1 a xs)∧R (Itl K a) H1
theorem zK{l:Expr}{tl:TE}(hl:PE X l tl):PI X tg l (iList X.K tl):=by
 intro pins s σ H R I h
 refine thn (hl pins s σ H _ I h) fun v s1 ⟨x,H1,I1,r1,q1⟩=>?_
 obtain⟨a,e,⟨xs,hq⟩,q⟩:=q1
 subst e
 cases r1
 obtain⟨its,rv,p,hz⟩:=I1.list hq
 refine wpAny_pyIter_list p.isList ?_
 refine⟨s1.heap.objs.size,[s1.heap.objs.size],_,_,H1,rfl,I1.kept (t':=s1.toks) fun b o e=>Heap.get?_push_of_some _ e,zjc a _,⟨_,Heap.get?_push_size _ rfl,rfl,rfl⟩,fun b hb=>?_,q⟩
 have e:b=s1.heap.objs.size:=by simpa using hb
 subst e
 exact I1.fpOk (Nat.le_refl _) (I1.hok.fresh (Nat.le_refl _))
theorem zhy{pins:List (Addr × Obj)}{σ:St}{H:Hp}{s:Shared}{R:It→Hp→Prop}{E:Value→Shared→Prop}{lo hi:Int}{t u v:Tok}{tk:Nat}(I:Inv X pins σ H s)(h1 : -(2 ^ 62)≤lo)(h2:lo<2 ^ 62)(h3 : -(2 ^ 62)≤hi)(h4:hi<2 ^ 62)
 (q:R (Itr lo (hi - lo).toNat) H):wpAny (model X.prog X.w) X.A (pyIter (.ref s.heap.objs.size)) (PIE X pins σ tg R) E { s with heap:=s.heap.push { cls:=.type "range",data:=.fields #[.int lo t,.int hi u,.int 1 v] },toks:=tk }:=by
 refine wpAny_pyIter_range (IsRange.new ..) (small_one h1 h2 h3 h4) ?_
 have I1:Inv X pins σ H { s with heap:=s.heap.push { cls:=.type "range",data:=.fields #[.int lo t,.int hi u,.int 1 v] },toks:=tk }:=I.kept fun b o e=>Heap.get?_push_of_some _ e
 refine⟨(s.heap.push { cls:=.type "range",data:=.fields #[.int lo t,.int hi u,.int 1 v] }).objs.size,[(s.heap.push { cls:=.type "range",data:=.fields #[.int lo t,.int hi u,.int 1 v] }).objs.size],_,_,H,rfl,
  I1.kept (t':=tk) fun b o e=>Heap.get?_push_of_some _ e,zh9 _ lo (hi - lo).toNat,?_,fun b hb=>?_,q⟩
 ·have e1:lo+((0:Nat):Int)*1=lo:=by simp
  have e2:(((hi - lo).toNat:Nat):Int) - ((0:Nat):Int)=Builtin.Range.rangeSize lo hi 1:=by rw[rangeSize_one];split <;> omega
  show IsRangeIter _ _ (lo+((0:Nat):Int)*1) ((((hi - lo).toNat:Nat):Int) - ((0:Nat):Int)) 1
  rw[e1,e2]
  exact Heap.get?_push_size _ rfl
 ·have e:b=(s.heap.push { cls:=.type "range",data:=.fields #[.int lo t,.int hi u,.int 1 v] }).objs.size:=by simpa using hb
  subst e
  exact I1.fpOk (Nat.le_refl _) (I1.hok.fresh (Nat.le_refl _))
def iRng1(ta:TA):TI:=fun σ H R=>ta σ H fun vs H1=>∃j:Int,vs = [.int j] ∧ -(2 ^ 62)≤j∧j<2 ^ 62∧R (Itr 0 j.toNat) H1
def iRng2(ta:TA):TI:=fun σ H R=>ta σ H fun vs H1=>∃i j:Int,vs = [.int i,.int j]∧(-(2 ^ 62)≤i∧i<2 ^ 62 ∧ -(2 ^ 62)≤j∧j<2 ^ 62)∧R (Itr i (j - i).toNat) H1
theorem zao{a:Expr}{ta:TA}{p pos:Pos}(hg:Gl X "range")(hm:X.mg "range" = none)(ha:PA X [a] ta)(hs:starEach [a] X.env = [(false,eval a X.env)]:=by rfl):PI X tg (.Call (.Name "range" p) [a] [] pos) (iRng1 ta):=by
 intro pins s σ H R I h
 refine Call_ (zcU I hg hm boot_range (PyProof.Rows.callWith_type1 (thn (ha pos pins s σ H _ I h) fun us s1 ⟨vs,H1,I1,r1,q1⟩=>?_) hs rfl))
 obtain⟨j,e,q1,q2,q⟩:=q1
 subst e
 cases r1 with
 | cons r rr =>
   cases rr
   obtain⟨t,rfl⟩:=r
   exact call_range_1 (zhy I1 (by omega) (by omega) q1 q2 (by simpa using q))
theorem zd7{a b:Expr}{ta:TA}{p pos:Pos}(hg:Gl X "range")(hm:X.mg "range" = none)(ha:PA X [a,b] ta)(hs:starEach [a,b] X.env = [(false,eval a X.env),(false,eval b X.env)]:=by rfl)(hs2:starEach [b] X.env = [(false,eval b X.env)]:=by rfl):
 PI X tg (.Call (.Name "range" p) [a,b] [] pos) (iRng2 ta):=by
 intro pins s σ H R I h
 refine Call_ (zcU I hg hm boot_range (PyProof.Rows.callWith_type1 (thn (ha pos pins s σ H _ I h) fun us s1 ⟨vs,H1,I1,r1,q1⟩=>?_) (by rw[hs,hs2]) (by rw[hs2];rfl)))
 obtain⟨i,j,e,⟨q1,q2,q3,q4⟩,q⟩:=q1
 subst e
 cases r1 with
 | cons r rr =>
   cases rr with
   | cons r' rr =>
     cases rr
     obtain⟨t,rfl⟩:=r
     obtain⟨t',rfl⟩:=r'
     exact call_range_2 (zhy I1 q1 q2 q3 q4 q)
def tFor(wi:TI)(g:TG)(tb:TS):TS:=fun D σ H=>wi σ H fun J H1=>∃W:Nat→Nat→St→Hp→Prop,(∃m,W 0 m σ H1)∧∀i m σ H,W i m σ H →
 (J.stop i H∧D.nx σ H)∨(J.go i H∧∃N:St→Hp→Prop,(∀σ' H',N σ' H'→∃m',m'<m∧W (i+1) m' σ' H')∧∀x H',J.yld i H x H'→g x σ H' fun σ2 H2=>tb { D with nx:=N,ct:=N,bk:=D.nx } σ2 H2)
def zg0(fp:List Addr)(h:Heap):List (Addr × Obj):=fp.filterMap fun b=>(h.get? b).map fun o=>(b,o)
theorem yC{fp:List Addr}{h:Heap}{b:Addr}{o:Obj}(hb:b∈fp)(e:h.get? b=some o):(b,o)∈zg0 fp h:=List.mem_filterMap.mpr ⟨b,hb,by rw[e];rfl⟩
theorem zjB{fp:List Addr}{h:Heap}{p:Addr × Obj}(hp:p∈zg0 fp h):p.1∈fp∧h.get? p.1=some p.2:=by
 obtain⟨b,hb,e⟩:=List.mem_filterMap.mp hp
 cases q:h.get? b with
 | none=>rw[q] at e;cases e
 | some o =>
   rw[q] at e
   have e':(b,o)=p:=Option.some.inj e
   subst e'
   exact⟨hb,q⟩
theorem Inv.pinned{pins:List (Addr × Obj)}{σ:St}{H:Hp}{s:Shared}{fp:List Addr}(I:Inv X pins σ H s)(hf:∀b∈fp,zab X pins H b)(ho:∀b∈fp,∃o,s.heap.get? b=some o∧∀v,o.data ≠ .cell v):Inv X (pins++zg0 fp s.heap) σ H s :=
 I.pins_of fun p hp=>(List.mem_append.mp hp).elim (fun z=>I.pin p (List.mem_append_right _ z)) fun z=>by
  obtain⟨hb,e⟩:=zjB z
  obtain⟨f0,f1,f2,_⟩:=hf p.1 hb
  obtain⟨o,e',d⟩:=ho p.1 hb
  rw[e] at e';cases e'
  exact⟨e,f0,f1,f2,d⟩
theorem Inv.unpinned{pins pl:List (Addr × Obj)}{σ:St}{H:Hp}{s:Shared}(I:Inv X (pins++pl) σ H s):Inv X pins σ H s:=I.pins_of fun p hp=>I.pin p (List.mem_append_right _ (List.mem_append_left _ hp))
theorem za5{iter:Expr}{body:List Stmt}{wi:TI}{g:TG}{tb:TS}{pos:Pos}(hp:PassesOwn (model X.prog X.w) X.A X.env X.xe)(hc:X.calm=true)(hi:PI X tg iter wi)(hg:PG X tg g)(hb:PSs X body tb)
 (hs:∀x,foldedSetIterable iter X.env x=pure x:=by intro _;rfl):PS X (.For tg iter body [] pos) (tFor wi g tb):=by
 intro pins s σ H D I h
 refine wpAny_For (thn (hi pins s σ H _ I h) fun v s1 h1=>thn h1 fun itv s2 h2=>?_) hs
 obtain⟨it,fp,tn,J,H2,e,I2,T,st2,f2,W,⟨m0,w0⟩,wR⟩:=h2
 subst e
 -- what stays true of the iterator's objects through the loop
 have stat:∀{H':Hp},(∀b∈fp,H' b=none)→∀b∈fp,zab X pins H' b:=fun hn b hb=>⟨hn b hb,(f2 b hb).2⟩
 refine codeAny_forLoop_any (fun n s'=>∃i σ' H',Inv X pins σ' H' s'∧tn i s'.heap∧(∀b∈fp,H' b=none)∧W i n σ' H') ?_ m0 ⟨0,σ,H2,I2,st2,fun b hb=>(f2 b hb).1,w0⟩
 rintro n s3 ⟨i,σ3,H3,I3,st3,fr3,w3⟩
 rcases wR i n σ3 H3 w3 with⟨stop,qn⟩ | ⟨go,N,hN,step⟩
 ·refine wpAny_passesOwn hp (thn (T.done X rfl rfl rfl hc i pins s3 σ3 H3 X.xe I3 (stat fr3) st3 stop) fun r s4 ⟨hr,I4⟩=>?_)
  subst hr
  exact wpAny_execs_nil ⟨σ3,H3,I4,qn⟩
 ·refine wpAny_passesOwn hp (thn (T.item X rfl rfl rfl hc i pins s3 σ3 H3 X.xe I3 (stat fr3) st3 go) fun r s4 ⟨u,hr,h4⟩=>?_)
  subst hr
  refine wpAny_passesOwn hp (thn h4 fun _ s5 ⟨x,H5,I5,r5,y5,st5,fr5⟩=>?_)
  have I5':=I5.pinned (stat fr5) (T.obj _ _ st5)
  refine wpAny_passesOwn hp (thn (hg _ s5 σ3 H5 x u _ I5' r5 (step x H5 y5)) fun _ s6 ⟨σ6,H6,I6,q6⟩=>?_)
  refine wpAny_passesOwn hp (thn (hb _ s6 σ6 H6 _ I6 q6) fun f s7 q7=>?_)
  have again:∀{σ7:St} {H7:Hp},Inv X (pins++zg0 fp s5.heap) σ7 H7 s7→N σ7 H7→∃m,m<n∧∃i σ' H',Inv X pins σ' H' s7∧tn i s7.heap∧(∀b∈fp,H' b=none)∧W i m σ' H':=fun {σ7 H7} I7 n7=>by
   obtain⟨m',hm,w7⟩:=hN σ7 H7 n7
   refine⟨m',hm,i+1,σ7,H7,I7.unpinned,T.keep _ _ _ st5 fun b hb o e=>(I7.pin (b,o) (List.mem_append_right _ (List.mem_append_right _ (yC hb e)))).1,fun b hb=>?_,w7⟩
   obtain⟨o,e,d⟩:=T.obj _ _ st5 b hb
   exact(I7.pin (b,o) (List.mem_append_right _ (List.mem_append_right _ (yC hb e)))).2.1
  cases f with
  | next=>obtain⟨σ7,H7,I7,n7⟩:=q7;exact again I7 n7
  | cont=>obtain⟨σ7,H7,I7,n7⟩:=q7;exact again I7 n7
  | brk=>obtain⟨σ7,H7,I7,q7⟩:=q7;exact⟨σ7,H7,I7.unpinned,q7⟩
  | ret v=>obtain⟨x7,σ7,H7,I7,r7,q7⟩:=q7;exact⟨x7,σ7,H7,I7.unpinned,r7,q7⟩
end
theorem zdC{K:PySem.W.Frag}{a:Addr}{xs:List V}{g:TG}{tb:TS}{D:Ends}{σ:St}{H:Hp}(Pv:Nat→St→Hp→Prop)(h0:Pv 0 σ H)(hl:∀i σ H,i≤xs.length→Pv i σ H→SqL K H a xs)
 (hs:∀i x σ H,xs[i]? = some x→Pv i σ H→g x σ H fun σ2 H2=>tb { D with nx:=Pv (i+1),ct:=Pv (i+1),bk:=D.nx } σ2 H2) (hd:∀σ H,Pv xs.length σ H→D.nx σ H) :
 ∃W:Nat→Nat→St→Hp→Prop,(∃m,W 0 m σ H)∧∀i m σ H,W i m σ H →
  ((Itl K a).stop i H∧D.nx σ H)∨((Itl K a).go i H∧∃N:St→Hp→Prop,(∀σ' H',N σ' H'→∃m',m'<m∧W (i+1) m' σ' H')∧∀x H',(Itl K a).yld i H x H'→g x σ H' fun σ2 H2=>tb { D with nx:=N,ct:=N,bk:=D.nx } σ2 H2):=by
 refine⟨fun i m σ H=>m=xs.length - i∧i≤xs.length∧Pv i σ H,⟨xs.length,by simp,Nat.zero_le _,h0⟩,?_⟩
 rintro i m σ H ⟨rfl,hi,p⟩
 have q:=hl i σ H hi p
 by_cases hlt:i<xs.length
 ·refine .inr ⟨⟨xs,xs[i],q,by simp[hlt]⟩,Pv (i+1),fun σ' H' p'=>⟨xs.length - (i+1),by omega,rfl,hlt,p'⟩,fun x H' y=>?_⟩
  obtain⟨e,y⟩:=y
  subst e
  exact hs i x σ _ (y xs q) p
 ·have e:i=xs.length:=by omega
  subst e
  exact .inl ⟨⟨xs,q,Nat.le_refl _⟩,hd σ H p⟩
theorem zal{lo:Int}{n:Nat}{g:TG}{tb:TS}{D:Ends}{σ:St}{H:Hp}(Pv:Nat→St→Hp→Prop)(h0:Pv 0 σ H)
 (hs:∀i σ H,i<n→Pv i σ H→g (.int (lo+i)) σ H fun σ2 H2=>tb { D with nx:=Pv (i+1),ct:=Pv (i+1),bk:=D.nx } σ2 H2) (hd:∀σ H,Pv n σ H→D.nx σ H) :
 ∃W:Nat→Nat→St→Hp→Prop,(∃m,W 0 m σ H)∧∀i m σ H,W i m σ H →
  ((Itr lo n).stop i H∧D.nx σ H)∨((Itr lo n).go i H∧∃N:St→Hp→Prop,(∀σ' H',N σ' H'→∃m',m'<m∧W (i+1) m' σ' H')∧∀x H',(Itr lo n).yld i H x H'→g x σ H' fun σ2 H2=>tb { D with nx:=N,ct:=N,bk:=D.nx } σ2 H2):=by
 refine⟨fun i m σ H=>m=n - i∧i≤n∧Pv i σ H,⟨n,by simp,Nat.zero_le _,h0⟩,?_⟩
 rintro i m σ H ⟨rfl,hi,p⟩
 by_cases hlt:i<n
 ·refine .inr ⟨hlt,Pv (i+1),fun σ' H' p'=>⟨n - (i+1),by omega,rfl,hlt,p'⟩,fun x H' y=>?_⟩
  obtain⟨e,y⟩:=y
  subst e y
  exact hs i σ _ hlt p
 ·have e:i=n:=by omega
  subst e
  exact .inl ⟨Nat.le_refl _,hd σ H p⟩
abbrev R2:=V→V→Hp→VK→Prop
def OpR(X:Cx)(f:Value→Value→Sem Value)(r:R2):Prop :=
 ∀(pins:List (Addr × Obj)) (s:Shared) (σ:St) (H:Hp) (x y:V) (v u:Value) (Q:VK),Inv X pins σ H s→yb x v→yb y u→r x y H Q →
  wpAny (model X.prog X.w) X.A (f v u) (EP X pins σ Q) X.xe s
def UnR(X:Cx)(f:Value→Sem Value)(r:V→Hp→VK→Prop):Prop :=
 ∀(pins:List (Addr × Obj)) (s:Shared) (σ:St) (H:Hp) (x:V) (v:Value) (Q:VK),Inv X pins σ H s→yb x v→r x H Q →
  wpAny (model X.prog X.w) X.A (f v) (EP X pins σ Q) X.xe s
def zas(X:Cx)(f:Value)(r:List V→Hp→VK→Prop):Prop :=
 ∀(pins:List (Addr × Obj)) (s:Shared) (σ:St) (H:Hp) (xs:List V) (us:List Value) (Q:VK),Inv X pins σ H s→zI xs us→r xs H Q →
  wpAny (model X.prog X.w) X.A (call f us) (EP X pins σ Q) X.xe s
def tOp(r:R2)(ta tb:TE):TE:=fun σ H Q=>ta σ H fun x H1=>tb σ H1 fun y H2=>r x y H2 Q
def tUn(r:V→Hp→VK→Prop)(ta:TE):TE:=fun σ H Q=>ta σ H fun x H1=>r x H1 Q
def rI(C:Int→Int→Prop)(g:Int→Int→V):R2:=fun x y H Q=>∃i j,x=.int i∧y=.int j∧C i j∧Q (g i j) H
def rI0(g:Int→Int→V):R2:=fun x y H Q=>∃i j,x=.int i∧y=.int j∧Q (g i j) H
def rU(g:Int→V):V→Hp→VK→Prop:=fun x H Q=>∃i,x=.int i∧Q (g i) H
section
variable {X:Cx} {a b c:Expr} {ta tb tc:TE} {pos:Pos}
theorem binT(ha:PE X a ta)(hb:PE X b tb){pins:List (Addr × Obj)}{s:Shared}{σ:St}{H:Hp}{R:V→V→Hp→Prop}(I:Inv X pins σ H s)
 (h:ta σ H fun x H1=>tb σ H1 fun y H2=>R x y H2) {Q:Value→Shared→Prop} {f:Value→Value→Sem Value}
 (hf:∀v u s2 x y H2,Inv X pins σ H2 s2→yb x v→yb y u→R x y H2→wpAny (model X.prog X.w) X.A (f v u) Q X.xe s2) :
 wpAny (model X.prog X.w) X.A (eval a X.env) (fun v s₁=>wpAny (model X.prog X.w) X.A (eval b X.env) (fun u s₂=>wpAny (model X.prog X.w) X.A (f v u) Q X.xe s₂) X.xe s₁) X.xe s:=by
 refine thn (ha pins s σ H _ I h) fun v s1 ⟨x,H1,I1,r1,q1⟩=>?_
 refine thn (hb pins s1 σ H1 _ I1 q1) fun u s2 ⟨y,H2,I2,r2,q2⟩=>?_
 exact hf v u s2 x y H2 I2 r1 r2 q2
theorem zn{op:Operator}{r:R2}(ho:OpR X (binaryOp op) r)(ha:PE X a ta)(hb:PE X b tb):PE X (.BinOp a op b pos) (tOp r ta tb):=by
 intro pins s σ H Q I h
 exact wpAny_BinOp (binT ha hb I h fun v u s2 x y H2 I2 rx ry q=>ho pins s2 σ H2 x y v u Q I2 rx ry q)
theorem ze0{op:UnaryOp}{r:V→Hp→VK→Prop}(ho:UnR X (unaryOp op) r)(ha:PE X a ta):PE X (.UnaryOp op a pos) (tUn r ta):=by
 intro pins s σ H Q I h
 exact UnaryOp_ (thn (ha pins s σ H _ I h) fun v s1 ⟨x,H1,I1,r1,q1⟩=>ho pins s1 σ H1 x v Q I1 r1 q1)
theorem opI{f:Value→Value→Sem Value}{C:Int→Int→Prop}{g:Int→Int→Int}
 (rule:∀(i j:Int) (t u:Tok) (s:Shared) (Q:Value→Shared→Prop) (E:Value→Shared→Prop),C i j→Q (.int (g i j) s.toks) { s with toks:=s.toks+1 }→wpAny (model X.prog X.w) X.A (f (.int i t) (.int j u)) Q E s) :
 OpR X f (rI C fun i j=>.int (g i j)):=by
 intro pins s σ H x y v u Q I rx ry h
 obtain⟨i,j,rfl,rfl,hc,q⟩:=h
 obtain⟨t,rfl⟩:=rx
 obtain⟨t',rfl⟩:=ry
 exact rule i j t t' s _ _ hc ⟨.int (g i j),H,I.tok _,⟨_,rfl⟩,q⟩
theorem opI0{f:Value→Value→Sem Value}{g:Int→Int→Int}
 (rule:∀(i j:Int) (t u:Tok) (s:Shared) (Q:Value→Shared→Prop) (E:Value→Shared→Prop),Q (.int (g i j) s.toks) { s with toks:=s.toks+1 }→wpAny (model X.prog X.w) X.A (f (.int i t) (.int j u)) Q E s) :
 OpR X f (rI0 fun i j=>.int (g i j)):=by
 intro pins s σ H x y v u Q I rx ry h
 obtain⟨i,j,rfl,rfl,q⟩:=h
 obtain⟨t,rfl⟩:=rx
 obtain⟨t',rfl⟩:=ry
 exact rule i j t t' s _ _ ⟨.int (g i j),H,I.tok _,⟨_,rfl⟩,q⟩
theorem opB0{f:Value→Value→Sem Value}{g:Int→Int→Bool}
 (rule:∀(i j:Int) (t u:Tok) (s:Shared) (Q:Value→Shared→Prop) (E:Value→Shared→Prop),Q (.bool (g i j)) s→wpAny (model X.prog X.w) X.A (f (.int i t) (.int j u)) Q E s) :
 OpR X f (rI0 fun i j=>.bl (g i j)):=by
 intro pins s σ H x y v u Q I rx ry h
 obtain⟨i,j,rfl,rfl,q⟩:=h
 obtain⟨t,rfl⟩:=rx
 obtain⟨t',rfl⟩:=ry
 exact rule i j t t' s _ _ ⟨.bl (g i j),H,I,rfl,q⟩
def CDiv(i j:Int):Prop:=0<j∧j<1073741824
def CPow(i j:Int):Prop:=0≤j∧j≤1000000∧i.natAbs<2 ^ 64
def CMul(i j:Int):Prop:=(-(2 ^ 64)<i∧i<2 ^ 64)∨(-(2 ^ 64)<j∧j<2 ^ 64)
theorem CMul.ok{i j:Int}(h:CMul i j):IntMulOk i j:=by
 rcases h with⟨h1,h2⟩ | ⟨h1,h2⟩
 ·exact .of_left (intBits_le_64 h1 h2)
 ·exact .of_right (intBits_le_64 h1 h2)
theorem yj:OpR X (binaryOp .Add) (rI0 fun i j=>.int (i+j)):=opI0 fun _ _ _ _ _ _ _ q=>add_int q
theorem zfp:OpR X (binaryOp .Sub) (rI0 fun i j=>.int (i - j)):=opI0 fun _ _ _ _ _ _ _ q=>sub_int q
theorem zg3:OpR X (binaryOp .Mult) (rI CMul fun i j=>.int (i*j)):=opI fun _ _ _ _ _ _ _ hc q=>mul_int q hc.ok
theorem yx:OpR X (binaryOp .FloorDiv) (rI CDiv fun i j=>.int (i/j)):=opI fun i j _ _ _ _ _ hc q=>by
 have h1:(0:Int)<j:=hc.1
 have h2:j<1073741824:=hc.2
 exact floordiv_int (by omega) (by rw[Int.fdiv_eq_ediv_of_nonneg i (by omega)];exact q) (.inl (PyProof.noPylong_small (by omega)))
theorem zZ:OpR X (binaryOp .Mod) (rI (fun _ j=>0<j) fun i j=>.int (i%j)):=opI fun i j _ _ _ _ _ hc q=>by
 have h1:(0:Int)<j:=hc
 exact mod_int' (by omega) (by rw[Int.fmod_eq_emod_of_nonneg i (by omega)];exact q)
theorem op_pow:OpR X (binaryOp .Pow) (rI CPow fun i j=>.int (i ^ j.toNat)):=opI fun _ _ _ _ _ _ _ hc q=>pow_int_small hc.1 hc.2.1 hc.2.2 q
theorem unI{f:Value→Sem Value}{g:Int→Int}
 (rule:∀(i:Int) (t:Tok) (s:Shared) (Q:Value→Shared→Prop) (E:Value→Shared→Prop),Q (.int (g i) s.toks) { s with toks:=s.toks+1 }→wpAny (model X.prog X.w) X.A (f (.int i t)) Q E s) :
 UnR X f (rU fun i=>.int (g i)):=by
 intro pins s σ H x v Q I rx h
 obtain⟨i,rfl,q⟩:=h
 obtain⟨t,rfl⟩:=rx
 exact rule i t s _ _ ⟨.int (g i),H,I.tok _,⟨_,rfl⟩,q⟩
theorem zdb:UnR X (unaryOp .USub) (rU fun i=>.int (-i)):=unI fun _ _ _ _ _ q=>neg_int q
end
def scal:V→V→Bool
 | .non,.non=>true | .non,.int _=>true | .int _,.non=>true | .non,.bl _=>true | .bl _,.non=>true | .non,.str _=>true | .str _,.non=>true
 | .int _,.int _=>true | .bl _,.bl _=>true | .str _,.str _=>true | .byt _,.byt _=>true
 | .int _,.str _=>true | .str _,.int _=>true | .bl _,.str _=>true | .str _,.bl _=>true
 | _,_=>false
def rEq:R2:=fun x y H Q=>scal x y=true∧Q (.bl (decide (x=y))) H
def rNe:R2:=fun x y H Q=>scal x y=true∧Q (.bl (!decide (x=y))) H
theorem ziZ{i j:Int}:decide (V.int i=V.int j)=(i==j):=by
 rw[Bool.eq_iff_iff]
 simp
theorem dec_bl{i j:Bool}:decide (V.bl i=V.bl j)=(i==j):=by
 rw[Bool.eq_iff_iff]
 simp
theorem zi1{i j:Str}:decide (V.str i=V.str j)=(i==j):=by
 rw[Bool.eq_iff_iff]
 simp
theorem ziN{i j:Array UInt8}:decide (V.byt i=V.byt j)=(i.toList==j.toList):=by
 rw[Bool.eq_iff_iff]
 cases i
 cases j
 simp
section
variable {X:Cx} {a b c:Expr} {ta tb tc:TE} {pos:Pos}
theorem zW{pins:List (Addr × Obj)}{σ:St}{H:Hp}{s:Shared}{Q:VK}{k k':Bool}(I:Inv X pins σ H s)(q:Q (.bl k) H)(e:k=k'):EP X pins σ Q (.bool k') s:=by
 subst e
 exact⟨.bl k,H,I,rfl,q⟩
theorem zT:OpR X (compareOp .Eq) rEq:=by
 intro pins s σ H x y v u Q I rx ry h
 obtain⟨hs,q⟩:=h
 cases x with
 | non =>
   cases rx
   cases y with
   | non=>cases ry;exact PySem.EqNone.eq_none_none (zW I q (by simp))
   | bl j=>cases ry;exact PySem.EqNone.eq_none_bool (zW I q (by simp))
   | int j=>obtain⟨t',rfl⟩:=ry;exact PySem.EqNone.eq_none_int (zW I q (by simp))
   | str j=>obtain⟨t',rfl⟩:=ry;exact PySem.EqNone.eq_none_str (zW I q (by simp))
   | _=>exact absurd (show false=true from hs) Bool.false_ne_true
 | bl i =>
   cases rx
   cases y with
   | non=>cases ry;exact PySem.EqNone.eq_bool_none (zW I q (by simp))
   | bl j=>cases ry;exact eq_bool (zW I q dec_bl)
   | str j=>obtain⟨t',rfl⟩:=ry;exact PySem.EqMixed.eq_bool_str (zW I q (by simp))
   | _=>exact absurd (show false=true from hs) Bool.false_ne_true
 | int i =>
   obtain⟨t,rfl⟩:=rx
   cases y with
   | non=>cases ry;exact PySem.EqNone.eq_int_none (zW I q (by simp))
   | int j=>obtain⟨t',rfl⟩:=ry;exact eq_int (zW I q ziZ)
   | str j=>obtain⟨t',rfl⟩:=ry;exact PySem.EqMixed.eq_int_str (zW I q (by simp))
   | _=>exact absurd (show false=true from hs) Bool.false_ne_true
 | str i =>
   obtain⟨t,rfl⟩:=rx
   cases y with
   | non=>cases ry;exact PySem.EqNone.eq_str_none (zW I q (by simp))
   | bl j=>cases ry;exact PySem.EqMixed.eq_str_bool (zW I q (by simp))
   | int j=>obtain⟨t',rfl⟩:=ry;exact PySem.EqMixed.eq_str_int (zW I q (by simp))
   | str j=>obtain⟨t',rfl⟩:=ry;exact eq_str (zW I q zi1)
   | _=>exact absurd (show false=true from hs) Bool.false_ne_true
 | byt i =>
   obtain⟨t,rfl⟩:=rx
   cases y with
   | byt j=>obtain⟨t',rfl⟩:=ry;exact PySem.W.eq_bytes (zW I q ziN)
   | _=>exact absurd (show false=true from hs) Bool.false_ne_true
 | _=>cases y <;> exact absurd (show false=true from hs) Bool.false_ne_true
theorem zbO:OpR X (compareOp .NotEq) rNe:=by
 intro pins s σ H x y v u Q I rx ry h
 obtain⟨hs,q⟩:=h
 cases x with
 | non =>
   cases rx
   cases y with
   | non=>cases ry;exact PySem.EqNone.ne_none_none (zW I q (by simp))
   | bl j=>cases ry;exact PySem.EqNone.ne_none_bool (zW I q (by simp))
   | int j=>obtain⟨t',rfl⟩:=ry;exact PySem.EqNone.ne_none_int (zW I q (by simp))
   | str j=>obtain⟨t',rfl⟩:=ry;exact PySem.EqNone.ne_none_str (zW I q (by simp))
   | _=>exact absurd (show false=true from hs) Bool.false_ne_true
 | bl i =>
   cases rx
   cases y with
   | non=>cases ry;exact PySem.EqNone.ne_bool_none (zW I q (by simp))
   | bl j=>cases ry;exact ne_bool (zW I q (congrArg not dec_bl))
   | str j=>obtain⟨t',rfl⟩:=ry;exact PySem.EqMixed.ne_bool_str (zW I q (by simp))
   | _=>exact absurd (show false=true from hs) Bool.false_ne_true
 | int i =>
   obtain⟨t,rfl⟩:=rx
   cases y with
   | non=>cases ry;exact PySem.EqNone.ne_int_none (zW I q (by simp))
   | int j=>obtain⟨t',rfl⟩:=ry;exact ne_int (zW I q (congrArg not ziZ))
   | str j=>obtain⟨t',rfl⟩:=ry;exact PySem.EqMixed.ne_int_str (zW I q (by simp))
   | _=>exact absurd (show false=true from hs) Bool.false_ne_true
 | str i =>
   obtain⟨t,rfl⟩:=rx
   cases y with
   | non=>cases ry;exact PySem.EqNone.ne_str_none (zW I q (by simp))
   | bl j=>cases ry;exact PySem.EqMixed.ne_str_bool (zW I q (by simp))
   | int j=>obtain⟨t',rfl⟩:=ry;exact PySem.EqMixed.ne_str_int (zW I q (by simp))
   | str j=>obtain⟨t',rfl⟩:=ry;exact ne_str (zW I q (congrArg not zi1))
   | _=>exact absurd (show false=true from hs) Bool.false_ne_true
 | byt i =>
   obtain⟨t,rfl⟩:=rx
   cases y with
   | byt j=>obtain⟨t',rfl⟩:=ry;exact PySem.W.ne_bytes (zW I q (congrArg not ziN))
   | _=>exact absurd (show false=true from hs) Bool.false_ne_true
 | _=>cases y <;> exact absurd (show false=true from hs) Bool.false_ne_true
theorem zeW:OpR X (compareOp .Lt) (rI0 fun i j=>.bl (decide (i<j))):=opB0 fun _ _ _ _ _ _ _ q=>lt_int q
theorem zfY:OpR X (compareOp .LtE) (rI0 fun i j=>.bl (decide (i≤j))):=opB0 fun _ _ _ _ _ _ _ q=>le_int q
theorem op_gt:OpR X (compareOp .Gt) (rI0 fun i j=>.bl (decide (j<i))):=opB0 fun _ _ _ _ _ _ _ q=>gt_int q
theorem op_ge:OpR X (compareOp .GtE) (rI0 fun i j=>.bl (decide (j≤i))):=opB0 fun _ _ _ _ _ _ _ q=>ge_int q
theorem op_isN:OpR X (compareOp .Is) (fun x y H Q=>y=.non∧Q (.bl (decide (x=.non))) H):=by
 intro pins s σ H x y v u Q I rx ry h
 obtain⟨rfl,q⟩:=h
 cases ry
 refine is_none_gen (zW I q ?_)
 cases x <;> first
  | (cases rx;rfl)
  | (obtain⟨t,rfl⟩:=rx;rfl)
theorem zt(b:Expr){op:CmpOp}(h:op ≠ .In:=by decide)(h2:op ≠ .NotIn:=by decide):behindInMarks op b=false:=by
 have e1:(op==CmpOp.In)=false:=by cases op <;> first | rfl | exact absurd rfl h
 have e2:(op==CmpOp.NotIn)=false:=by cases op <;> first | rfl | exact absurd rfl h2
 cases b <;> simp[behindInMarks,e1,e2]
theorem zac{op:CmpOp}{r:R2}(ho:OpR X (compareOp op) r)(ha:PE X a ta)(hb:PE X b tb)(hm:behindInMarks op b=false):PE X (.Compare a [op] [b] pos) (tOp r ta tb):=by
 intro pins s σ H Q I h
 exact wpAny_Compare1 (binT ha hb I h fun v u s2 x y H2 I2 rx ry q=>ho pins s2 σ H2 x y v u Q I2 rx ry q) hm
def tTest(t:TE):TT:=fun σ H Q=>t σ H fun x H'=>∃k,x=.bl k∧Q k H'
theorem zl{op:CmpOp}{r:R2}(ho:OpR X (compareOp op) r)(ha:PE X a ta)(hb:PE X b tb)(hm:behindInMarks op b=false):PT X (.Compare a [op] [b] pos) (tTest (tOp r ta tb)):=by
 intro pins s σ H Q I h
 refine wpAny_isTrue_Compare1 (thn (ha pins s σ H _ I h) fun v s1 ⟨x,H1,I1,r1,q1⟩=>thn (hb pins s1 σ H1 _ I1 q1) fun u s2 ⟨y,H2,I2,r2,q2⟩ =>
  thn (ho pins s2 σ H2 x y v u _ I2 r1 r2 q2) fun c s3 ⟨z,H3,I3,r3,k,e,q3⟩=>?_) hm
 subst e
 cases r3
 exact wpAny_truthy_bool ⟨H3,I3,q3⟩
def tChain(r r':R2)(ta tb tc:TE):TE:=fun σ H Q=>ta σ H fun x H1=>tb σ H1 fun y H2=>r x y H2 fun z H3=>∃k,z=.bl k ∧
 (if k=true then tc σ H3 fun w' H4=>r' y w' H4 Q else Q (.bl false) H3)
theorem zfq{op op':CmpOp}{r r':R2}(ho:OpR X (compareOp op) r)(ho':OpR X (compareOp op') r')(ha:PE X a ta)(hb:PE X b tb)(hc:PE X c tc)
 (hm:lastMarks [op,op'] [b,c]=false:=by with_unfolding_all rfl):PE X (.Compare a [op,op'] [b,c] pos) (tChain r r' ta tb tc):=by
 intro pins s σ H Q I h
 refine Compare_chain (thn (ha pins s σ H _ I h) fun v s1 ⟨x,H1,I1,r1,q1⟩=>chain_link (thn (hb pins s1 σ H1 _ I1 q1) fun u s2 ⟨y,H2,I2,r2,q2⟩ =>
  thn (ho pins s2 σ H2 x y v u _ I2 r1 r2 q2) fun d s3 ⟨z,H3,I3,r3,k,e,q3⟩=>?_)) hm
 subst e
 cases r3
 refine wpAny_truthy_bool ?_
 cases k with
 | false=>exact ite_ff ⟨.bl false,H3,I3,rfl,q3⟩
 | true=>exact ite_tt (chain_last (thn (hc pins s3 σ H3 _ I3 q3) fun w' s4 ⟨z',H4,I4,r4,q4⟩=>ho' pins s4 σ H4 y z' u w' Q I4 r2 r4 q4))
theorem zeX:(sizeLine:Nat)<2 ^ 63:=by rw[sizeLine_eq];decide
theorem yg:OpR X (binaryOp .Add) (fun x y H Q=>∃i j,x=.str i∧y=.str j∧i.length+j.length≤sizeLine∧Q (.str (i++j)) H):=by
 intro pins s σ H x y v u Q I rx ry h
 obtain⟨i,j,rfl,rfl,hz,q⟩:=h
 obtain⟨t,rfl⟩:=rx
 obtain⟨t',rfl⟩:=ry
 exact add_str (fun t' tk=>⟨.str (i++j),H,I.tok _,⟨_,rfl⟩,q⟩) hz
theorem zhu{x:V}{us:List Value}(r:zI [x] us):∃u,us = [u]∧yb x u:=by
 cases r with
 | cons r1 r2=>cases r2;exact⟨_,rfl,r1⟩
theorem yW:zas X (.type "int") (fun xs H Q=>(∃i,xs = [.int i]∧Q (.int i) H)∨∃k,xs = [.bl k]∧Q (.int (if k then 1 else 0)) H):=by
 intro pins s σ H xs us Q I r h
 rcases h with⟨i,rfl,q⟩ | ⟨k,rfl,q⟩
 ·obtain⟨u,rfl,t,rfl⟩:=zhu r
  exact call_int_int ⟨.int i,H,I,⟨_,rfl⟩,q⟩
 ·obtain⟨u,rfl,r1⟩:=zhu r
  cases r1
  exact call_int_bool ⟨.int (if k then 1 else 0),H,I.tok _,⟨_,rfl⟩,q⟩
def LenV(K:PySem.W.Frag)(x:V)(H:Hp)(n:Nat):Prop :=
 match x with
 | .str y=>y.length≤sizeLine∧n=y.length
 | .byt y=>y.size≤sizeLine∧n=y.size
 | .ref p=>(∃xs,SqL K H p xs∧n=xs.length)∨∃xs,SqT K H p xs∧n=xs.length
 | _=>False
theorem call_len:zas X (.builtin "len") (fun xs H Q=>∃x n,xs = [x]∧LenV X.K x H n∧Q (.int n) H):=by
 intro pins s σ H xs us Q I r h
 obtain⟨x,n,rfl,e,q⟩:=h
 obtain⟨u,rfl,rx⟩:=zhu r
 have hl:=zeX
 have hs:sizeLine=16777216:=sizeLine_eq
 cases x with
 | str y =>
   obtain⟨t,rfl⟩:=rx
   obtain⟨hy,e'⟩:y.length≤sizeLine∧n=y.length:=e
   subst e'
   exact len_str (by omega) ⟨.int _,H,I.tok _,⟨_,rfl⟩,q⟩
 | byt y =>
   obtain⟨t,rfl⟩:=rx
   obtain⟨hy,e'⟩:y.size≤sizeLine∧n=y.size:=e
   subst e'
   exact PySem.W.len_bytes (by omega) ⟨.int _,H,I.tok _,⟨_,rfl⟩,q⟩
 | ref p =>
   cases rx
   have e':(∃xs,SqL X.K H p xs∧n=xs.length)∨∃xs,SqT X.K H p xs∧n=xs.length:=e
   rcases e' with⟨xs,hx,e'⟩ | ⟨xs,hx,e'⟩
   ·subst e'
    obtain⟨its,r',pl,hz⟩:=I.list hx
    have hlen:=r'.length
    exact Calls.call_len_list pl.isList (by simp only[List.size_toArray];omega) ⟨.int xs.length,H,I.tok _,⟨_,by simp only[List.size_toArray];rw[hlen]⟩,q⟩
   ·subst e'
    obtain⟨its,r',pl,hz⟩:=I.tuple hx
    have hlen:=r'.length
    exact len_tuple pl (by simp only[List.size_toArray];omega) ⟨.int xs.length,H,I.tok _,⟨_,by simp only[List.size_toArray];rw[hlen]⟩,q⟩
 | _=>exact(show False from e).elim
end
structure ObjM (h:Heap) (x dx C:Addr) (mA:Str→Option Value):Prop where
 obj:h.get? x=some (PySem.W.instObj C dx)
 ns:h.Ns1 dx mA
 ne:dx≠x
theorem zjA{h:Heap}{dx:Addr}{mA:Str→Option Value}(n:h.Ns1 dx mA):∃od,h.get? dx=some od∧∀name,PySem.W.lookIn name od=some (mA name):=by
 obtain⟨o,es,ep,ho,hd,hk,_,hm⟩:=n
 refine⟨o,ho,fun name=>?_⟩
 have e:=hm name
 unfold nsFind findBy at e
 rw[← Array.find?_toList] at e
 unfold PySem.W.lookIn
 rw[hd]
 dsimp only
 split
 ·rename_i y q
  rw[q] at e
  exact congrArg some e
 ·rename_i q
  rw[q] at e
  have a:es.toList.any (·.refKey)=false:=by
   rw[List.any_eq_false]
   intro y hy
   obtain⟨z,t,hkey⟩:=hk y (Array.mem_toList_iff.mp hy)
   simp[DictEntry.refKey,hkey]
  have a':¬es.toList.any (·.refKey)=true:=by rw[a];exact Bool.false_ne_true
  rw[if_neg a']
  exact congrArg some e
theorem ObjM.look{h:Heap}{x dx C:Addr}{mA:Str→Option Value}(I:ObjM h x dx C mA):∃od,PySem.W.InstAt h x (PySem.W.instObj C dx) C (some od)∧∀name,PySem.W.lookIn name od=some (mA name) :=
 let ⟨od,ho,hl⟩:=zjA I.ns
 ⟨od,⟨I.obj,rfl,rfl,ho⟩,hl⟩
section
variable {prog:Program} {w:World} {A:Around} {E:Value→Shared→Prop} {s:Shared} {K:PySem.W.Frag} {x dx C f:Addr} {mA:Str→Option Value} {name:Str} {v:Value}
theorem get_map{expr:Bool}{Q:Value→Shared→Prop}(X:K.In s.heap)(I:ObjM s.heap x dx C mA)(hg:PySem.W.plainGet K C name=true)(hh:PySem.W.hasDictIn K C=true)
 (ha:PySem.W.findIn K (.ref C) name=some none) (hv:mA name=some v) (hv':PySem.W.handedIn v=true) (h:Q v { s with toks:=s.toks+1 }) :
 wpAny (model prog w) A (getAttr (.ref x) name expr) Q E s:=by
 obtain⟨od,J,hl⟩:=I.look
 exact PySem.W.get_value X J (PySem.W.plainGet_of hg).1 (PySem.W.findObj_own hh ha rfl (by rw[hl,hv])) hv' h
theorem get_meth{pl:Sem Bool}{Q:Value × List Value→Shared→Prop}(X:K.In s.heap)(I:ObjM s.heap x dx C mA)(hg:PySem.W.plainGet K C name=true)
 (hf:PySem.W.findIn K (.ref C) name=some (some (.ref f))) (ht:PySem.W.isFn K (.ref f)=true) (hv:mA name=none) (h:Q (.ref f,[.ref x]) s) :
 wpAny (model prog w) A (getMethod (.ref x) name pl) Q E s:=by
 obtain⟨od,J,hl⟩:=I.look
 exact PySem.W.method_fn X J (PySem.W.plainGet_of hg).1 (PySem.W.plainGet_of hg).2 hf (beq_iff_eq.mp ht) (by show(PySem.W.lookIn name od).map (·.isSome)=some false;rw[hl,hv];rfl) h
theorem set_map{ns:List Str}{Q:Unit→Shared→Prop}(X:K.In s.heap)(I:ObjM s.heap x dx C mA)
 (hs:PySem.W.findIn K (.ref C) "__setattr__" = some (some (.builtin "object.__setattr__"))) (hp:PySem.W.plainOver K C=true) (ht:PySem.W.takerIn K C name=some none) (hh:PySem.W.hasDictIn K C=true)
 (hw:PySem.Within mA ns) (hsz:ns.length≤sizeLine)
 (h:∀h',ObjM h' x dx C (fun y=>if y=name then some v else mA y)→Heap.SameBut dx s.heap h'→Q () { s with heap:=h',toks:=s.toks+2 }) :
 wpAny (model prog w) A (setAttr (.ref x) name v) Q E s:=by
 obtain⟨od,J,hl⟩:=I.look
 refine PySem.W.set_plain X J hs (PySem.W.osa_open (s:={ s with toks:=s.toks+1 }) (r:=none) X J hp ht fun b=>?_)
 obtain⟨cd,hc,hd'⟩:=PySem.W.any_some hh
 have hx:s.heap.get? x=some ⟨.ref C,some dx,.plain,#[]⟩:=I.obj
 refine wpAny_bind (wpAny_pure (wpAny_bind (wpAny_bind (wpAny_loadPart hx (wpAny_bind (PySem.W.Looks.here (s:={ s with toks:=s.toks+1 }) (PySem.W.looks_clsIn X hc) ?_))))))
 rw[hd']
 refine wpAny_pure (a:=some dx) (wpAny_bind (wpAny_pure (wpAny_bind ?_)))
 refine wpAny_nsSet1 (s:={ s with toks:=s.toks+1 }) I.ns fun h' hn2 hs2=>?_
 obtain⟨oD,esD,epD,hoD,hdD,hcD⟩:=hn2.count (PySem.Within.cons name v hw)
 refine wpAny_bind (wpAny_lookBehind hoD (by rw[hdD];exact pastItsLine_dict (Nat.le_trans hcD (by rw[List.length_cons];omega))) ?_)
 exact wpAny_pure (h _ ⟨(hs2.2 _ (Ne.symm I.ne)).trans I.obj,hn2,I.ne⟩ hs2)
theorem make_map{R:Result→Shared→Prop}{vs:List Value}{kw:List (Str × Value)}(X:K.In s.heap)(hm:PySem.W.makesIn K C=true)
 (hi:PySem.W.findIn K (.ref C) "__init__" = some (some (.ref f))) (hf:PySem.W.typeIn K (.ref f)=some (.type "function"))
 (h:codeAny (model prog w) (A.under (.builtin "type.__call__" ⟨.ref C::vs,kw⟩)) (.call (.ref f) ⟨.ref (s.heap.objs.size+1)::vs,kw⟩) (PySem.W.InitBack (s.heap.objs.size+1) R)
   { s with heap:=(s.heap.push PySem.W.emptyDict).push (PySem.W.instObj C s.heap.objs.size) }) :
 codeAny (model prog w) A (.call (.ref C) ⟨vs,kw⟩) R s:=by
 obtain⟨hh,g,d,t,os⟩:=s
 exact PySem.W.make_core (PySem.W.makes_of X hm) (PySem.W.looks_findIn X hi) (fun self=>PySem.W.bind_fn X self hf) (.inl rfl) h
end
def zax(f:Str)(v:V):List (Str × V)→List (Str × V)
 | [] => [(f,v)]
 | (g,x)::r=>if g=f then(g,v)::r else(g,x)::zax f v r
theorem zeh(f g:Str)(v:V):∀fs:List (Str × V),(zax f v fs).lookup g=if g=f then some v else fs.lookup g
 | []=>by
   show List.lookup g [(f,v)]=_
   by_cases h:g=f
   ·have hb:(g==f)=true:=beq_iff_eq.mpr h
    simp only[List.lookup,hb,if_pos h]
   ·have hb:(g==f)=false:=beq_eq_false_iff_ne.mpr h
    simp only[List.lookup,hb,if_neg h]
 | (k,x)::r=>by
   have ih:=zeh f g v r
   rw[show zax f v ((k,x)::r)=(if k=f then(k,v)::r else(k,x)::zax f v r)from rfl]
   by_cases hk:k=f
   ·rw[if_pos hk]
    by_cases h:g=k
    ·have hb:(g==k)=true:=beq_iff_eq.mpr h
     simp only[List.lookup,hb,if_pos (h.trans hk)]
    ·have hb:(g==k)=false:=beq_eq_false_iff_ne.mpr h
     simp only[List.lookup,hb,if_neg (fun e:g=f=>h (e.trans hk.symm))]
   ·rw[if_neg hk]
    by_cases h:g=k
    ·have hb:(g==k)=true:=beq_iff_eq.mpr h
     simp only[List.lookup,hb,if_neg (fun e:g=f=>hk (h.symm.trans e))]
    ·have hb:(g==k)=false:=beq_eq_false_iff_ne.mpr h
     simp only[List.lookup,hb]
     exact ih
theorem zdU(f:Str)(v:V):∀fs:List (Str × V),f∈(zax f v fs).map (·.1)∧∀g,g∈fs.map (·.1)→g∈(zax f v fs).map (·.1)
 | []=>⟨by simp[zax],fun g h=>by simp at h⟩
 | (k,x)::r=>by
   obtain⟨i1,i2⟩:=zdU f v r
   rw[show zax f v ((k,x)::r)=(if k=f then(k,v)::r else(k,x)::zax f v r)from rfl]
   by_cases hk:k=f
   ·rw[if_pos hk]
    subst hk
    exact⟨by simp,fun g h=>by simpa using h⟩
   ·rw[if_neg hk]
    refine⟨?_,fun g h=>?_⟩
    ·rw[List.map_cons]
     exact List.mem_cons_of_mem _ i1
    ·rw[List.map_cons] at h ⊢
     rcases List.mem_cons.mp h with e | e
     ·exact List.mem_cons.mpr (.inl e)
     ·exact List.mem_cons_of_mem _ (i2 g e)
theorem zef(f:Str)(v:V):∀fs:List (Str × V),(zax f v fs).length≤fs.length+1
 | []=>by simp[zax]
 | (k,x)::r=>by
   have ih:=zef f v r
   rw[show zax f v ((k,x)::r)=(if k=f then(k,v)::r else(k,x)::zax f v r)from rfl]
   by_cases hk:k=f
   ·rw[if_pos hk,List.length_cons,List.length_cons];omega
   ·rw[if_neg hk,List.length_cons,List.length_cons];omega
theorem zc4.some_of{v:V}{o:Option Value}(r:zc4 (some v) o):∃u,o=some u∧yb v u:=by
 cases o with
 | none=>exact(show False from r).elim
 | some u=>exact⟨u,rfl,r⟩
theorem zc4.none_of{o:Option Value}(r:zc4 none o):o=none:=by
 cases o with
 | none=>rfl
 | some u=>exact(show False from r).elim
theorem zjl{v:V}{u:Value}(r:yb v u):PySem.W.handedIn u=true:=by
 cases v with
 | non=>cases (show u=Value.none from r);rfl
 | bl b=>cases (show u=Value.bool b from r);rfl
 | int i=>obtain⟨t,e⟩:=(show ∃t,u=Value.int i t from r);cases e;rfl
 | str x=>obtain⟨t,e⟩:=(show ∃t,u=Value.str x t from r);cases e;rfl
 | byt b=>obtain⟨t,e⟩:=(show ∃t,u=Value.bytes b t from r);cases e;rfl
 | flt b=>obtain⟨t,e⟩:=(show ∃t,u=Value.float b t from r);cases e;rfl
 | ref a=>cases (show u=Value.ref a from r);rfl
 | ty n=>cases (show u=Value.type n from r);rfl
section
variable {P:Program} {w:World} {H H':Hp} {h h':Heap} {a C dx:Addr} {fs fs':List (Str × V)}
theorem zgv(hok:HOk P w H h)(e:H a=some (.ins C dx fs)):∃mA,ObjM h a dx C mA∧(∀f,zc4 (fs.lookup f) (mA f))∧PySem.Within mA (fs.map (·.1))∧fs.length≤1000∧H dx=some (.own a):=by
 obtain⟨d,z,ne,ob,mA,n,r,q⟩:=(show wy P w H h a (.ins C dx fs)from hok a _ e)
 exact⟨mA,⟨ob,n,ne⟩,r,q,z,d⟩
end
structure Cls (K:PySem.W.Frag) (C:Addr):Prop where
 pg:PySem.W.plainGet K C Str.empty=true
 hd:PySem.W.hasDictIn K C=true
 po:PySem.W.plainOver K C=true
 sa:PySem.W.findIn K (.ref C) "__setattr__" = some (some (.builtin "object.__setattr__"))
theorem Cls.get{K:PySem.W.Frag}{C:Addr}(c:Cls K C)(f:Str):PySem.W.plainGet K C f=true:=c.pg
def zbc(K:PySem.W.Frag)(C:Addr)(f:Str):Prop:=PySem.W.findIn K (.ref C) f=some none
theorem zbc.taker{K:PySem.W.Frag}{C:Addr}{f:Str}(n:zbc K C f):PySem.W.takerIn K C f=some none:=by
 unfold PySem.W.takerIn
 rw[show PySem.W.findIn K (.ref C) f=some none from n]
 rfl
structure Meth (K:PySem.W.Frag) (C:Addr) (m:Str) (f:Addr):Prop where
 at_:PySem.W.findIn K (.ref C) m=some (some (.ref f))
 fn:PySem.W.isFn K (.ref f)=true
 kp:PySem.W.keepIn K (.ref f)=true
section
variable {X:Cx} {pins:List (Addr × Obj)} {σ:St} {H:Hp} {s:Shared} {a C dx:Addr} {fs:List (Str × V)} {f:Str} {v:V} {A:Around} {E:Value→Shared→Prop}
theorem zik{b:Bool}{Q:Value→Shared→Prop}(I:Inv X pins σ H s)(e:H a=some (.ins C dx fs))(c:Cls X.K C)(n:zbc X.K C f)(l:fs.lookup f=some v)
 (h:∀u s',Inv X pins σ H s'→yb v u→Q u s'):wpAny (model X.prog X.w) A (getAttr (.ref a) f b) Q E s:=by
 obtain⟨mA,O,r,_,_,_⟩:=zgv I.hok e
 obtain⟨u,hu,ru⟩:=zc4.some_of (v:=v) (o:=mA f) (by rw[← l];exact r f)
 exact get_map I.kIn O (c.get f) c.hd n hu (zjl ru) (h u _ (I.tok _) ru)
theorem zde{m:Str}{g:Addr}{pl:Sem Bool}{Q:Value × List Value→Shared→Prop}(I:Inv X pins σ H s)(e:H a=some (.ins C dx fs))(c:Cls X.K C)(k:Meth X.K C m g)(l:fs.lookup m=none)
 (h:Q (.ref g,[.ref a]) s):wpAny (model X.prog X.w) A (getMethod (.ref a) m pl) Q E s:=by
 obtain⟨mA,O,r,_,_,_⟩:=zgv I.hok e
 have hn:mA m=none:=zc4.none_of (by rw[← l];exact r m)
 exact get_meth I.kIn O (c.get m) k.at_ k.fn hn h
theorem zio{y:V}{u:Value}{Q:Unit→Shared→Prop}(I:Inv X pins σ H s)(e:H a=some (.ins C dx fs))(c:Cls X.K C)(n:zbc X.K C f)(hl:fs.length<1000)(ry:yb y u)
 (h:∀s',Inv X pins σ (upd H a (.ins C dx (zax f y fs))) s'→Q () s'):wpAny (model X.prog X.w) A (setAttr (.ref a) f u) Q E s:=by
 obtain⟨mA,O,r,wi,_,ho⟩:=zgv I.hok e
 have hz:(fs.map (·.1)).length≤sizeLine:=by rw[List.length_map,sizeLine_eq];omega
 refine set_map I.kIn O c.sa c.po n.taker c.hd wi hz fun h' O' sb=>h _ ?_
 have hd:∃o,h'.get? dx=some o:=let ⟨o,_,_,e',_⟩:=O'.ns;⟨o,e'⟩
 refine I.write (x:=a) (e:=dx) (by rw[e];exact True.intro) (.inr ho) (fun b q hb z=>(sb.2 b hb).trans z) hd ?_
 refine⟨by rw[zi O.ne];exact ho,?_,O.ne,O'.obj,_,O'.ns,fun g=>?_,fun g hg=>?_⟩
 ·have:=zef f y fs;omega
 ·show zc4 ((zax f y fs).lookup g) (if g=f then some u else mA g)
  rw[zeh]
  by_cases q:g=f
  ·rw[if_pos q,if_pos q];exact ry
  ·rw[if_neg q,if_neg q];exact r g
 ·by_cases q:g=f
  ·rw[q];exact(zdU f y fs).1
  ·refine(zdU f y fs).2 g (wi g fun z=>hg ?_)
   show(if g=f then some u else mA g)=none
   rw[if_neg q];exact z
theorem Inv.made(I:Inv X pins σ H s):Inv X pins σ (upd (upd H s.heap.objs.size (.own (s.heap.objs.size+1))) (s.heap.objs.size+1) (.ins C s.heap.objs.size []))
 { s with heap:=(s.heap.push PySem.W.emptyDict).push (PySem.W.instObj C s.heap.objs.size) }:=by
 have e1:(s.heap.push PySem.W.emptyDict).get? s.heap.objs.size=some PySem.W.emptyDict:=Heap.get?_push_size s.heap rfl
 have e2:((s.heap.push PySem.W.emptyDict).push (PySem.W.instObj C s.heap.objs.size)).get? (s.heap.objs.size+1)=some (PySem.W.instObj C s.heap.objs.size):=by
  have:=Heap.get?_push_size (s.heap.push PySem.W.emptyDict) (o:=PySem.W.instObj C s.heap.objs.size) rfl
  rwa [Heap.size_push] at this
 have e3:(s.heap.push PySem.W.emptyDict).Ns s.heap.objs.size (fun _=>none):=⟨PySem.W.emptyDict,#[],_,e1,rfl,(fun e he=>absurd he (by simp)),fun _=>rfl⟩
 have I1:=I.laid (a:=s.heap.objs.size) (o:=.own (s.heap.objs.size+1)) (h':=s.heap.push PySem.W.emptyDict) (t':=s.toks) (fun b u q=>Heap.get?_push_of_some _ q) (Nat.le_refl _) ⟨_,e1⟩
 refine I1.laid (a:=s.heap.objs.size+1) (o:=.ins C s.heap.objs.size []) (t':=s.toks) (fun b u q=>Heap.get?_push_of_some _ q) (Nat.le_of_eq (Heap.size_push _ _)) ?_
 have ne:s.heap.objs.size≠s.heap.objs.size+1:=Nat.ne_of_lt (Nat.lt_succ_self _)
 refine⟨by rw[zi ne,ze],Nat.zero_le _,ne,e2,fun _=>none,(Heap.Ns1.of_empty e3).at fun o q=>Heap.get?_push_of_some _ q,fun _=>True.intro,fun y hy=>absurd rfl hy⟩
theorem attr_of{prog:Program}{w:World}{env:Env}{e:Expr}{f:Str}{pos:Pos}{s:Shared}{Q:Value→Shared→Prop}(hb:attributeBase e f env (eval e env)=eval e env)
 (h:wpAny (model prog w) A (eval e env) (fun o s₁=>wpAny (model prog w) A (getAttr o f true) Q E s₁) E s):wpAny (model prog w) A (eval (.Attribute e f pos) env) Q E s :=
 Attribute_any_ h (by rw[arm_eval_Attribute,hb])
end
def tFld(K:PySem.W.Frag)(ta:TE)(f:Str):TE:=fun σ H Q=>ta σ H fun x H1=>∃a C dx fs v,x=.ref a∧H1 a=some (.ins C dx fs)∧Cls K C∧zbc K C f∧fs.lookup f=some v∧Q v H1
def sFld(K:PySem.W.Frag)(ta tv:TE)(f:Str):TS:=fun D σ H=>tv σ H fun y H1=>ta σ H1 fun x H2=>∃a C dx fs,x=.ref a∧H2 a=some (.ins C dx fs)∧Cls K C∧zbc K C f∧fs.length<1000 ∧
 D.nx σ (upd H2 a (.ins C dx (zax f y fs)))
section
variable {X:Cx} {o e value:Expr} {f:Str} {pos pos' tpos:Pos} {ta tv:TE}
theorem yJ(he:PE X e ta)(hb:attributeBase e f X.env (eval e X.env)=eval e X.env):PE X (.Attribute e f pos) (tFld X.K ta f):=by
 intro pins s σ H Q I h
 refine attr_of hb (thn (he pins s σ H _ I h) fun u s1 ⟨x,H1,I1,rx,a,C,dx,fs,v,ex,ea,c,n,l,q⟩=>?_)
 subst ex
 obtain rfl:u=Value.ref a:=rx
 exact zik I1 ea c n l fun u' s2 I2 ru=>⟨v,H1,I2,ru,q⟩
theorem zcf(ha:PE X o ta)(hv:PE X value tv)(hs:swapsWith value (some (.Attribute o f pos')) pos.line X.env=pure false):PS X (.Assign [.Attribute o f pos'] value pos) (sFld X.K ta tv f):=by
 intro pins s σ H D I h
 refine plainObj_wpAny_Assign_Attribute (thn (hv pins s σ H _ I h) fun u s1 ⟨y,H1,I1,ry,q⟩=>thn (ha pins s1 σ H1 _ I1 q) fun ov s2 ⟨x,H2,I2,rx,a,C,dx,fs,ex,ea,c,n,l,q2⟩=>?_) hs
 subst ex
 obtain rfl:ov=Value.ref a:=rx
 exact zio I2 ea c n l ry fun s3 I3=>⟨σ,_,I3,q2⟩
end
section
variable {X:Cx} {pins:List (Addr × Obj)} {σ:St} {H:Hp} {s:Shared} {A:Around} {E:Value→Shared→Prop} {Q:Value→Shared→Prop} {c:Value} {b:Bool}
end
structure Room (k:Nat) (A:Around):Prop where
 hd:A.handled=none
 dp:A.depth+3*k+5<recursionLimit
 un:A.units+16*k+200<cLine
theorem Room.mono{j k:Nat}{A:Around}(r:Room k A)(h:j≤k):Room j A:=⟨r.hd,by have:=r.dp;omega,by have:=r.un;omega⟩
theorem Room.deeper{k:Nat}{A:Around}(r:Room (k+1) A)(env:Env):Room k (A.deeper env) :=
 ⟨r.hd,by have:=r.dp;show A.depth+1+3*k+5<_;omega,by have:=r.un;show A.units+3+16*k+200<_;omega⟩
theorem ziD{A:Around}{C:Addr}{us:List Value}{kw:List (Str × Value)}:(A.under (.builtin "type.__call__" ⟨.ref C::us,kw⟩)).depth=A.depth+1:=by
 first | rfl | simp[Around.under,Code.weight,Code.isCreation,Code.isGuard,Code.isCaller,Code.frames,Code.isFrame,guardIds]
theorem zit{A:Around}{C:Addr}{us:List Value}{kw:List (Str × Value)}:(A.under (.builtin "type.__call__" ⟨.ref C::us,kw⟩)).units=A.units+1:=by
 first | rfl | simp[Around.under,Code.cUnits,Code.frames,Code.isFrame]
theorem Room.make{k:Nat}{A:Around}(r:Room (k+1) A)(C:Addr)(us:List Value)(kw:List (Str × Value)):Room k (A.under (.builtin "type.__call__" ⟨.ref C::us,kw⟩)) :=
 ⟨r.hd,by have:=r.dp;rw[ziD];omega,by have:=r.un;rw[zit];omega⟩
theorem Room.depth{k:Nat}{A:Around}(r:Room k A):A.depth<recursionLimit:=by have:=r.dp;omega
theorem Room.units{k:Nat}{A:Around}(r:Room k A):A.units+64<cLine:=by have:=r.un;omega
theorem Room.units0{k:Nat}{A:Around}(r:Room k A):A.units<cLine:=by have:=r.un;omega
def tNil:TA:=fun _ H Q=>Q [] H
def tCons(ta:TE)(tr:TA):TA:=fun σ H Q=>ta σ H fun x H1=>tr σ H1 fun xs H2=>Q (x::xs) H2
section
variable {X:Cx} {e:Expr} {es:List Expr} {te:TE} {t:TA} {pos:Pos}
theorem zb:PA X [] tNil:=fun _ _ _ _ H Q I h=>Calls.spliced_nil ⟨[],H,I,.nil,h⟩
theorem za(ha:PE X e te)(hr:PA X es t)(hs:starEach (e::es) X.env=(false,eval e X.env)::starEach es X.env:=by rfl):PA X (e::es) (tCons te t):=by
 intro pos pins s σ H Q I h
 rw[hs]
 show wpAny _ _ (spliced ((false,eval e X.env)::backTo pos (starEach es X.env))) _ _ s
 refine Calls.spliced_cons (thn (ha pins s σ H _ I h) fun u s1 ⟨x,H1,I1,r1,q1⟩=>?_)
 exact thn (hr pos pins s1 σ H1 _ I1 q1) fun us s2 ⟨xs,H2,I2,r2,q2⟩=>⟨x::xs,H2,I2,.cons r1 r2,q2⟩
def tTup(t:TA):TE:=fun σ H Q=>t σ H fun xs H1=>xs.length≤sizeLine∧∀p,H1 p=none→Q (.ref p) (upd H1 p (.tup xs))
def tLst(t:TA):TE:=fun σ H Q=>t σ H fun xs H1=>xs.length≤sizeLine∧∀p,H1 p=none→Q (.ref p) (upd H1 p (.lst xs))
theorem pe_tup{x1}(h:PA X es t):PE X (.Tuple es x1 pos) (tTup t):=by
 intro pins s σ H Q I hq
 refine wpAny_Tuple_spliced (thn (h pos pins s σ H _ I hq) fun us s1 ⟨xs,H1,I1,r,z,q⟩=>⟨by rw[← r.length];exact z,?_⟩)
 have hf:H1 s1.heap.objs.size=none:=I1.hok.fresh (Nat.le_refl _)
 refine⟨.ref s1.heap.objs.size,upd H1 s1.heap.objs.size (.tup xs),I1.laid (t':=s1.toks) (fun b u e=>Heap.get?_push_of_some _ e) (Nat.le_refl _) ?_,rfl,q _ hf⟩
 exact⟨z,us,r,⟨_,Heap.get?_push_size _ rfl,rfl,_,rfl⟩⟩
theorem zP(h:PA X es t):PE X (.List es pos) (tLst t):=by
 intro pins s σ H Q I hq
 refine wpAny_List_spliced (thn (h pos pins s σ H _ I hq) fun us s1 ⟨xs,H1,I1,r,z,q⟩=>⟨by rw[← r.length];exact z,?_⟩)
 have hf:H1 s1.heap.objs.size=none:=I1.hok.fresh (Nat.le_refl _)
 refine⟨.ref s1.heap.objs.size,upd H1 s1.heap.objs.size (.lst xs),I1.laid (t':=s1.toks) (fun b u e=>Heap.get?_push_of_some _ e) (Nat.le_refl _) ?_,rfl,q _ hf⟩
 exact⟨z,us,0,r,Heap.get?_push_size _ rfl⟩
end
abbrev Sp:=List V→Hp→VK→XK→Prop
abbrev CXT:=List Env→Hp→Shared→XK→Value→Shared→Prop
structure Env0 (P:Program) (w:World) (K:PySem.W.Frag) (mg:Str→Option Value) (base:Heap) (A:Around) (outer:List Env) (s:Shared) (H:Hp):Prop where
 frames:A.frames=some outer
 mod:Mod K mg base
 bs:∀b o,base.get? b=some o→s.heap.get? b=some o∧H b=none
 bsz:base.objs.size≤s.heap.objs.size
 funs:s.heap.FunFrames base outer
 frf:∀b∈frs outer,H b=none
 hok:HOk P w H s.heap
 bare:AllBare s.gens
def CE(outer:List Env)(P:Program)(w:World)(H:Hp)(s:Shared)(Q:VK)(u:Value)(s':Shared):Prop :=
 ∃v H',s'.os=s.os∧AllBare s'.gens∧Un (frs outer) [] H H' s.heap s'.heap∧HOk P w H' s'.heap∧yb v u∧Q v H'
def CR(CX:CXT)(outer:List Env)(P:Program)(w:World)(H:Hp)(s:Shared)(Q:VK)(E:XK)(r:Result)(s':Shared):Prop :=
 match r with
 | .ok (.ret u)=>CE outer P w H s Q u s'
 | .ok _=>False
 | .error e=>CX outer H s E e s'
structure FnOk (P:Program) (w:World) (K:PySem.W.Frag) (mg:Str→Option Value) (base:Heap) (CX:CXT) (k:Nat) (f:Addr) (fd:FuncData) (ps:List Str) (sp:Sp):Prop where
 len:∀vs H Q E,sp vs H Q E→vs.length=ps.length
 run:∀(A:Around) (outer:List Env) (s:Shared) (H:Hp) (args:Args) (us:List Value) (vs:List V) (Q:VK) (E:XK),Room k A→Env0 P w K mg base A outer s H→BindsTo s fd args (ps.zip us)→zI vs us→sp vs H Q E →
  codeAny (model P w) A (.call (.ref f) args) (CR CX outer P w H s Q E) s
theorem Env0.make{P:Program}{w:World}{K:PySem.W.Frag}{mg:Str→Option Value}{base:Heap}{A:Around}{outer:List Env}{s:Shared}{H:Hp}(e:Env0 P w K mg base A outer s H)(C:Addr)(us:List Value)(kw:List (Str × Value)):
 Env0 P w K mg base (A.under (.builtin "type.__call__" ⟨.ref C::us,kw⟩)) outer s H:=⟨by first | exact e.frames | (simpa [Around.under,Code.envs,Code.isFrame,pushEnvs] using e.frames),e.mod,e.bs,e.bsz,e.funs,e.frf,e.hok,e.bare⟩
section
variable {X:Cx} {pins:List (Addr × Obj)} {σ:St} {H:Hp} {s s':Shared}
theorem Inv.env0(I:Inv X pins σ H s):Env0 X.prog X.w X.K X.mg X.base X.A X.stack s H :=
 ⟨I.ok.frames,I.ok.mod,I.bs,Nat.le_trans I.ok.bsz I.sz,I.stack,I.stkFree,I.hok,I.bare⟩
theorem Inv.after{Q:VK}{u:Value}(I:Inv X pins σ H s)(h:CE X.stack X.prog X.w H s Q u s'):EP X pins σ Q u s':=by
 obtain⟨v,H',os,bare,un,hok,r,q⟩:=h
 obtain⟨hh,g,d,t,os'⟩:=s'
 obtain rfl:os'=s.os:=os
 exact⟨v,H',I.call (h':=hh) (g':=g) (d':=d) (t':=t) (ch := []) un hok bare (fun b z=>absurd z (by simp)),r,q⟩
end
def tCall(sp:Sp)(dvs:List V)(E:XK)(t:TA):TE:=fun σ H Q=>t σ H fun vs H1=>sp (vs++dvs) H1 Q E
def tMeth(C:Addr)(m:Str)(sp:Sp)(dvs:List V)(E:XK)(ta:TE)(t:TA):TE:=fun σ H Q=>ta σ H fun x H1=>∃a dx fs,x=.ref a∧H1 a=some (.ins C dx fs)∧fs.lookup m=none ∧
 t σ H1 fun vs H2=>sp (x::(vs++dvs)) H2 Q E
def zaH(K:PySem.W.Frag)(fd:FuncData)(ps:List Str)(ds:List Value):Prop :=
 ∀(s:Shared) (us:List Value),K.In s.heap→(us++ds).length=ps.length→BindsTo s fd ⟨us,[]⟩ (ps.zip (us++ds))
theorem zaH.all{K:PySem.W.Frag}{fd:FuncData}{ps:List Str}(h:∀us:List Value,us.length=ps.length→bindArgs fd ⟨us,[]⟩=pure (ps.zip us)):zaH K fd ps []:=fun s us _ hl=>by
 rw[List.append_nil] at hl ⊢
 exact .of_eq (h us hl)
def zgn(CX:CXT)(X:Cx)(E:XK):Prop:=∀(pins:List (Addr × Obj)) (σ:St) (H:Hp) (s:Shared) (e:Value) (s':Shared),Inv X pins σ H s→CX X.stack H s E e s'→X.xe e s'
section
variable {X:Cx} {CX:CXT} {k:Nat} {f C:Addr} {fd:FuncData} {ps:List Str} {sp:Sp} {dvs:List V} {ds:List Value} {E:XK} {x m:Str} {p pos apos:Pos} {e o:Expr} {es:List Expr} {ta:TE} {t:TA}
theorem run_fn{pins:List (Addr × Obj)}{σ:St}{H:Hp}{s:Shared}{Q:VK}{us:List Value}{vs:List V}(F:FnOk X.prog X.w X.K X.mg X.base CX k f fd ps sp)(hr:Room k X.A)(hb:zaH X.K fd ps ds)(hd:zI dvs ds)(hx:zgn CX X E)
 (I:Inv X pins σ H s) (r:zI vs us) (h:sp (vs++dvs) H Q E):wpAny (model X.prog X.w) X.A (call (.ref f) us) (EP X pins σ Q) X.xe s:=by
 have r2:zI (vs++dvs) (us++ds):=r.append hd
 have hl:(us++ds).length=ps.length:=by rw[← r2.length];exact F.len _ _ _ _ h
 refine wpAny_call (codeAny_mono (F.run X.A X.stack s H ⟨us,[]⟩ (us++ds) (vs++dvs) Q E hr I.env0 (hb s us I.kIn hl) r2 h) fun r s' hq=>?_)
 cases r with
 | error e=>exact hx pins σ H s e s' I hq
 | ok fl =>
   cases fl with
   | ret u=>exact I.after hq
   | next=>exact False.elim hq
   | brk=>exact False.elim hq
   | cont=>exact False.elim hq
theorem pe_call(F:FnOk X.prog X.w X.K X.mg X.base CX k f fd ps sp)(hr:Room k X.A)(hg:Gl X x)(hm:X.mg x=some (.ref f))(hk:PySem.W.keepIn X.K (.ref f)=true)(hb:zaH X.K fd ps ds)(hd:zI dvs ds)(hx:zgn CX X E)
 (ha:PA X (e::es) t) (hdb:(x==("__debug__" : Str))=false:=by decide) (he:starEach (e::es) X.env=(false,eval e X.env)::starEach es X.env:=by rfl) (hpl:(backTo pos (starEach es X.env)).any (·.1)=false:=by rfl) :
 PE X (.Call (.Name x p) (e::es) [] pos) (tCall sp dvs E t):=by
 intro pins s σ H Q I h
 refine wpAny_Call_Name_kw (zc2 I hg hm ?_ hdb)
 refine PySem.W.callWith_K (h₀:=X.base) I.ok.mod.kin hk (thn (ha pos pins s σ H _ I h) fun us s1 ⟨vs,H1,I1,r,q⟩=>⟨I1.kIn,?_⟩) he hpl
 exact run_fn F hr hb hd hx I1 r q
theorem pe_meth0{pl:Sem Bool}(he:PE X o ta)(c:Cls X.K C)(hm:Meth X.K C m f)(F:FnOk X.prog X.w X.K X.mg X.base CX k f fd ps sp)(hr:Room k X.A)(hb:zaH X.K fd ps ds)(hd:zI dvs ds)(hx:zgn CX X E)
 (ht:eval (.Call (.Attribute o m apos) [] [] pos) X.env=(do
   let ov ← eval o X.env
   standAt apos.atName
   let (f,first) ← holding [ov] (getMethod ov m pl)
   callWith pos f first (backTo pos (starEach [] X.env)) (backToKw pos (keywordEach [] X.env))):=by rfl) :
 PE X (.Call (.Attribute o m apos) [] [] pos) (tMeth C m sp dvs E ta tNil):=by
 intro pins s σ H Q I h
 refine PySem.W.methodCall_KW (pl:=pl) (thn (he pins s σ H _ I h) fun u s1 ⟨x,H1,I1,rx,a,dx,fs,ex,ea,l,q⟩=>?_) ht
 subst ex
 obtain rfl:u=Value.ref a:=rx
 refine zde I1 ea c hm l ?_
 exact PySem.W.callWith_K0 (first := [.ref a]) I1.kIn hm.kp (run_fn (us := [.ref a]) (vs := [.ref a]) F hr hb hd hx I1 (.cons rfl .nil) q)
structure Mk (K:PySem.W.Frag) (C f:Addr):Prop where
 makes:PySem.W.makesIn K C=true
 init:PySem.W.findIn K (.ref C) "__init__" = some (some (.ref f))
 fn:PySem.W.isFn K (.ref f)=true
 kp:PySem.W.keepIn K (.ref C)=true
end
section
variable {X:Cx} {CX:CXT} {k:Nat} {f C:Addr} {fd:FuncData} {ps ks:List Str} {sp:Sp} {E:XK} {x m:Str} {p pos apos kpos:Pos} {e o:Expr} {es:List Expr} {kws:List Keyword} {te ta:TE} {t tk:TA} {nm:Option Str}
variable {g:List Value→List Value→List Value} {gV:List V→List V→List V}
end
structure FnScope (N P:List Str) (sc:Scope):Prop where
 kind:sc.kind=.function
 co:sc.isCoroutine=false
 gen:sc.isGenerator=false
 nd:N.Nodup
 pre:N.take P.length=P
 par:∀x∈P,sc.names.lookup x=some .local∨sc.names.lookup x=some .cell
 nofree:∀y∈sc.names,y.2 ≠ .free
theorem zf7{kindOf:Str→Option NameKind}{x:Str}:∀{binds:List (Str × Value)} {m:Str→Option Value},(∀v,(x,v)∉binds)→bindL kindOf binds m x=m x
 | [],_,_=>rfl
 | (n,v)::r,m,h=>by
   unfold bindL
   rw[zf7 fun w hw=>h w (List.mem_cons_of_mem _ hw)]
   split
   ·have:x≠n:=by rintro rfl;exact h v List.mem_cons_self
    simp[this]
   ·rfl
theorem zge{kindOf:Str→Option NameKind}{x:Str}:∀{binds:List (Str × Value)} {m:Str→Option Value},(∀v,(x,v)∉binds)→bindC kindOf binds m x=m x
 | [],_,_=>rfl
 | (n,v)::r,m,h=>by
   unfold bindC
   rw[zge fun w hw=>h w (List.mem_cons_of_mem _ hw)]
   split
   ·rfl
   ·have:x≠n:=by rintro rfl;exact h v List.mem_cons_self
    simp[this]
theorem zgb{kindOf:Str→Option NameKind}{x:Str}{v:Value}:∀{P:List Str} {vs:List Value} {i:Nat} {m:Str→Option Value},P.Nodup→P[i]? = some x→vs[i]? = some v→kindOf x=some .local →
 bindL kindOf (P.zip vs) m x=some v
 | [],_,_,_,_,h,_,_=>by simp at h
 | _::_,[],_,_,_,_,h,_=>by simp at h
 | p::P,w::vs,0,m,nd,h1,h2,hk=>by
   simp at h1 h2;subst h1;subst h2
   show bindL kindOf ((p,w)::P.zip vs) m p=_
   unfold bindL
   rw[zf7 fun v hv=>(List.nodup_cons.mp nd).1 (List.of_mem_zip hv).1,if_pos hk]
   simp
 | p::P,w::vs,i+1,m,nd,h1,h2,hk=>by
   show bindL kindOf ((p,w)::P.zip vs) m x=_
   unfold bindL
   exact zgb (i:=i) (List.nodup_cons.mp nd).2 (by simpa using h1) (by simpa using h2) hk
theorem zga{kindOf:Str→Option NameKind}{x:Str}{v:Value}:∀{P:List Str} {vs:List Value} {i:Nat} {m:Str→Option Value},P.Nodup→P[i]? = some x→vs[i]? = some v→kindOf x≠some .local →
 bindC kindOf (P.zip vs) m x=some v
 | [],_,_,_,_,h,_,_=>by simp at h
 | _::_,[],_,_,_,_,h,_=>by simp at h
 | p::P,w::vs,0,m,nd,h1,h2,hk=>by
   simp at h1 h2;subst h1;subst h2
   show bindC kindOf ((p,w)::P.zip vs) m p=_
   unfold bindC
   rw[zge fun v hv=>(List.nodup_cons.mp nd).1 (List.of_mem_zip hv).1,if_neg hk]
   simp
 | p::P,w::vs,i+1,m,nd,h1,h2,hk=>by
   show bindC kindOf ((p,w)::P.zip vs) m x=_
   unfold bindC
   exact zga (i:=i) (List.nodup_cons.mp nd).2 (by simpa using h1) (by simpa using h2) hk
def zdB(N:List Str)(vs:List V):St:=vs.map some++List.replicate (N.length - vs.length) none
def zb0(CX:CXT)(P:Program)(w:World)(K:PySem.W.Frag)(mg:Str→Option Value)(base:Heap)(N:List Str)(qual:Str)(scope:Scope)(f:Addr)(cd:Value)(A:Around)(outer:List Env)(s:Shared)(H:Hp)(E:XK):Cx where
 prog:=P
 w:=w
 K:=K
 mg:=mg
 base:=base
 A:=A.deeper (envOfC qual scope s.heap.objs.size f cd)
 N:=N
 s₀:=s
 H₀:=H
 env:=envOfC qual scope s.heap.objs.size f cd
 outer:=outer
 stack:=envOfC qual scope s.heap.objs.size f cd::outer
 ex := []
 calm:=true
 fn:=fun _=>true
 pn := []
 xe:=fun e s'=>wpAny (model P w) (A.deeper (envOfC qual scope s.heap.objs.size f cd)) (leaving (envOfC qual scope s.heap.objs.size f cd) e) (fun _ s''=>CX outer H s E e s'') (fun e' s''=>CX outer H s E e' s'') s'
theorem zhR{sc:Scope}{n:Nat}{x:Str}(h:sc.names.lookup x=some .cell):∃c,(cellsFrom n sc.names []).lookup x=some c:=by
 have q:=PySem.W.cellsFrom_some sc.names n [] (.inl h)
 exact Option.isSome_iff_exists.mp q
theorem zjp{CX:CXT}{P:Program}{w:World}{K:PySem.W.Frag}{mg:Str→Option Value}{base:Heap}{N ps:List Str}{qual:Str}{scope:Scope}{f:Addr}{cd:Value}{A:Around}{outer:List Env}{s s1:Shared}{H:Hp}{E:XK}{us:List Value}{vs:List V}
 (S:FnScope N ps scope) (hd:A.handled=none) (e0:Env0 P w K mg base A outer s H) (hl:vs.length=ps.length) (r:zI vs us)
 (x:InCallC s s.heap.objs.size (bindL (envOfC qual scope s.heap.objs.size f cd).kindOf (ps.zip us) fun _=>none) (cellsFrom (s.heap.objs.size+1) scope.names []) (bindC (envOfC qual scope s.heap.objs.size f cd).kindOf (ps.zip us) fun _=>none) s1) :
 Inv (zb0 CX P w K mg base N qual scope f cd A outer s H E) [] (zdB N vs) H s1:=by
 have hpl:ps.length≤N.length:=by have:=congrArg List.length S.pre;rw[List.length_take] at this;omega
 obtain⟨h1,tk,rfl,hk⟩:=x.done
 have noA:∀b:Addr,b∉(zb0 CX P w K mg base N qual scope f cd A outer s H E).ex:=fun b z=>absurd (show b∈([]:List Addr)from z) (by simp)
 refine⟨⟨e0.mod,S.kind,rfl,rfl,Nat.le_refl _,fun y z c h1 h2=>?_,fun y hy=>?_,fun y c _ h=>?_,fun _=>hd,Around.frames_deeper e0.frames,.inr ⟨rfl,rfl⟩,fun b z=>absurd z (noA b),e0.bs,e0.bsz,fun b _ _=>noA b,fun b z=>absurd z (noA b),e0.funs,e0.frf⟩,
  rfl,e0.bare,Un.kept hk,⟨_,x.toInCall.ns,fun i y v h1 h2 h3=>?_⟩,fun y c h=>⟨_,x.cell y c h⟩,e0.hok.fresh (Nat.le_refl _),fun y c h=>?_,fun p hp=>absurd (show p∈([]:List (Addr × Obj))from hp) (by simp),e0.hok.kept hk,?_⟩
 ·exact name_of_addr x.apart (PySem.mem_of_lookup h1) (PySem.mem_of_lookup h2)
 ·have hy:scope.names.lookup y=some .cell∨scope.names.lookup y=some .free:=hy
  rcases hy with hy | hy
  ·exact zhR hy
  ·exact absurd rfl (S.nofree _ (PySem.mem_of_lookup hy))
 ·exact Nat.le_of_lt (x.above y c (PySem.mem_of_lookup h))
 ·have hi:i<vs.length:=by
   unfold zdB at h2
   by_cases hi:i<vs.length
   ·exact hi
   ·rw[List.getElem?_append_right (by simpa using hi)] at h2
    rw[List.getElem?_replicate] at h2
    split at h2 <;> cases h2
  have ha:vs[i]? = some v:=by
   unfold zdB at h2
   rw[List.getElem?_append_left (by simpa using hi),List.getElem?_map] at h2
   cases e:vs[i]? with
   | none=>rw[e] at h2;cases h2
   | some a=>rw[e] at h2;cases h2;rfl
  obtain⟨u,hu,rv⟩:=r.get ha
  have hp:ps[i]? = some y:=by
   rw[← S.pre,List.getElem?_take_of_lt (by omega)];exact h1
  have ndP:ps.Nodup:=by rw[← S.pre];exact S.nd.sublist (List.take_sublist _ _)
  refine⟨u,rv,?_⟩
  rcases S.par y (List.mem_of_getElem? hp)with k | k
  ·exact .inl ⟨k,zgb ndP hp hu k⟩
  ·obtain⟨c,e⟩:=zhR (n:=s.heap.objs.size+1) k
   refine .inr ⟨.inl k,c,e,?_⟩
   have q:=x.cell y c e
   rw[zga ndP hp hu (by show scope.names.lookup y≠_;rw[k];decide)] at q
   exact q
 ·exact e0.hok.fresh (Nat.le_of_lt (x.above y c (PySem.mem_of_lookup h)))
 ·unfold zdB
  show _=N.length
  rw[List.length_append,List.length_map,List.length_replicate]
  omega
theorem fn_of{CX:CXT}{P:Program}{w:World}{K:PySem.W.Frag}{mg:Str→Option Value}{base:Heap}{k:Nat}{f:Addr}{name qual:Str}{params:Arguments}{body:List Stmt}{scope:Scope}{dV kV doc pm cdv ct oc:Value}{an od:Option Addr}
 {osl:Array (Option Value)} {N ps:List Str} {sp:Sp} (lk:K.lookup f=some ⟨oc,od,.func (PySem.W.fnOf name qual params body scope dV kV doc pm an cdv ct),osl⟩) (hcd:PySem.W.codeIn K cdv qual=true) (S:FnScope N ps scope)
 (len:∀vs H Q E,sp vs H Q E→vs.length=ps.length)
 (hbody:∀(A:Around) (outer:List Env) (s:Shared) (H:Hp) (vs:List V) (Q:VK) (E:XK),Room k (A.deeper (envOfC qual scope s.heap.objs.size f cdv))→sp vs H Q E →
   ∃t,PSs (zb0 CX P w K mg base N qual scope f cdv A outer s H E) body t∧t { nx:=fun _ H'=>Q .non H',rt:=Q } (zdB N vs) H) :
 FnOk P w K mg base CX (k+1) f (PySem.W.fnOf name qual params body scope dV kV doc pm an cdv ct) ps sp:=by
 refine⟨len,fun A outer s H args us vs Q E hr e0 hb r hsp=>?_⟩
 have hl:=len _ _ _ _ hsp
 have KX:K.In s.heap:=e0.mod.kin.keeps fun b o e=>(e0.bs b o e).1
 have lim:s.heap.NoLimit:=e0.mod.nolimit.keeps fun b o e=>(e0.bs b o e).1
 have hkind:∀y∈ps.zip us,scope.names.lookup y.1=some .local∨(scope.names.lookup y.1=some .cell∧((cellsFrom (s.heap.objs.size+1) scope.names []).lookup y.1).isSome=true):=fun⟨n,v⟩ hy=>by
  rcases S.par n (List.of_mem_zip hy).1 with q | q
  ·exact .inl q
  ·exact .inr ⟨q,PySem.W.cellsFrom_some _ _ _ (.inl q)⟩
 refine codeAny_call_function hr.depth (KX _ _ lk) rfl S.co S.gen rfl (PySem.W.codeRec_of KX hcd) (hb _ _ _ _ ?_)
 refine wpAny_newFunctionEnv_cells S.kind hkind fun env he s1 x=>?_
 subst he
 refine⟨lim.keeps x.toInCall.keep,codeAny_func ?_⟩
 obtain⟨t,ht,hq⟩:=hbody A outer s H vs Q E (hr.deeper _) hsp
 have I:Inv (zb0 CX P w K mg base N qual scope f cdv A outer s H E) [] (zdB N vs) H s1:=zjp S hr.hd e0 hl r x
 refine wpAny_mono (ht [] s1 (zdB N vs) H _ I hq) (fun fl s' hs=>?_) fun e s' hs=>hs
 have fin:∀{σ':St} {H':Hp} {v:V} {u:Value},Inv (zb0 CX P w K mg base N qual scope f cdv A outer s H E) [] σ' H' s'→yb v u→Q v H'→CE outer P w H s Q u s' :=
  fun {σ' H' v u} J rv q=>⟨v,H',J.os,J.bare,J.base,J.hok,rv,q⟩
 cases fl with
 | ret u =>
   obtain⟨v,σ',H',J,rv,q⟩:=hs
   exact fin J rv q
 | next =>
   obtain⟨σ',H',J,q⟩:=hs
   exact fin (v:=V.non) (u:=Value.none) J rfl q
 | brk =>
   obtain⟨_,_,_,q⟩:=hs
   exact False.elim q
 | cont =>
   obtain⟨_,_,_,q⟩:=hs
   exact False.elim q
section
variable {X:Cx} {x:Str} {p pos:Pos} {e:Expr} {es:List Expr} {t:TA} {id T:String} {r:List V→Hp→VK→Prop}
def tCB(r:List V→Hp→VK→Prop)(t:TA):TE:=fun σ H Q=>t σ H fun vs H1=>r vs H1 Q
theorem zo(hc:zas X (.builtin id) r)(hg:Gl X x)(hm:X.mg x=none)(hv:bootBuiltins x=some (.builtin id))(ha:PA X (e::es) t)(hn:x ≠ "__name__" := by decide)(hdb:(x==("__debug__" : Str))=false:=by decide)
 (he:starEach (e::es) X.env=(false,eval e X.env)::starEach es X.env:=by rfl) (hpl:(backTo pos (starEach es X.env)).any (·.1)=false:=by rfl):PE X (.Call (.Name x p) (e::es) [] pos) (tCB r t):=by
 intro pins s σ H Q I h
 refine wpAny_Call_Name_kw (zcU I hg hm hv ?_ hn hdb)
 exact PyProof.Rows.callWith_builtin1 (thn (ha pos pins s σ H _ I h) fun us s1 ⟨vs,H1,I1,r1,q1⟩=>hc pins s1 σ H1 vs us Q I1 r1 q1) he hpl
theorem zF(hc:zas X (.type T) r)(hg:Gl X x)(hm:X.mg x=none)(hv:bootBuiltins x=some (.type T))(ha:PA X (e::es) t)(hn:x ≠ "__name__" := by decide)(hdb:(x==("__debug__" : Str))=false:=by decide)
 (he:starEach (e::es) X.env=(false,eval e X.env)::starEach es X.env:=by rfl) (hpl:(backTo pos (starEach es X.env)).any (·.1)=false:=by rfl):PE X (.Call (.Name x p) (e::es) [] pos) (tCB r t):=by
 intro pins s σ H Q I h
 refine wpAny_Call_Name_kw (zcU I hg hm hv ?_ hn hdb)
 exact PyProof.Rows.callWith_type1 (thn (ha pos pins s σ H _ I h) fun us s1 ⟨vs,H1,I1,r1,q1⟩=>hc pins s1 σ H1 vs us Q I1 r1 q1) he hpl
end
end L2
namespace HT
open PySem PyProof.Rows
def lexLt:List Int→List Int→Bool
 | [],[]=>false
 | [],_::_=>true
 | _::_,[]=>false
 | x::xs,y::ys=>if x=y then lexLt xs ys else decide (x<y)
theorem lexLt_cons(x y:Int)(xs ys:List Int):lexLt (x::xs) (y::ys)=if x=y then lexLt xs ys else decide (x<y):=rfl
theorem lexLt_nil_nil:lexLt [] []=false:=rfl
theorem lexLt_nil_cons(y:Int)(ys:List Int):lexLt [] (y::ys)=true:=rfl
theorem lexLt_cons_nil(x:Int)(xs:List Int):lexLt (x::xs) []=false:=rfl
theorem rcLt_int(A:Around)(s:Shared)(a:Int)(t:Tok)(c:Int)(u:Tok)(prog:Program)(w:World)(E:Value→Shared→Prop)(Q:Value→Shared→Prop)(h:Q (.bool (decide (a<c))) s):
 wpAny (model prog w) A (richCompare .Lt (.int a t) (.int c u)) Q E s :=
 (PyProof.Rows.lt_int h:wpAny (model prog w) A (compareOp .Lt (.int a t) (.int c u)) Q E s)
section
open PySem.SeqAt
open PySem.AutoSeq1 (wpAny_loadPart')
open PySem.MeetsSeq PySem.MeetsSeq2 PySem.MeetsSeq3
end
section
variable {prog:Program} {w:World} {A:Around} {E:Value→Shared→Prop} {s:Shared}
def sIx(n d:Nat):Option Int→Nat
 | none=>d
 | some v=>if v<0 then(v+(n:Int)).toNat else min v.toNat n
theorem sIx_none(n d:Nat):sIx n d none=d:=rfl
theorem sIx_nat(n d k:Nat):sIx n d (some (k:Int))=min k n:=by
 show(if(k:Int)<0 then((k:Int)+(n:Int)).toNat else min (k:Int).toNat n)=min k n
 rw[if_neg (by omega),Int.toNat_natCast]
end
end HT
namespace L2
open PySem PySem.Spec PyProof.Rows
abbrev TO:=St→Hp→(Option Int→Hp→Prop)→Prop
def PO(X:Cx)(e:Option Expr)(t:TO):Prop :=
 ∀(pins:List (Addr × Obj)) (s:Shared) (σ:St) (H:Hp) (Q:Option Int→Hp→Prop),Inv X pins σ H s→t σ H Q →
  wpAny (model X.prog X.w) X.A (evalPart e X.env) (fun u s'=>∃o H',Inv X pins σ H' s'∧IsPart u o∧Q o H') X.xe s
def tNoPart:TO:=fun _ H Q=>Q none H
def tPart(t:TE):TO:=fun σ H Q=>t σ H fun x H1=>∃i,x=.int i∧Q (some i) H1
theorem zaU{ns:List Int}:∀{us:List Value},zI (ns.map V.int) us→IntsAre us ns:=by
 induction ns with
 | nil=>intro us r;rw[List.map_nil] at r;cases r;exact .nil
 | cons n ns ih =>
   intro us r
   rw[List.map_cons] at r
   cases r with
   | cons r1 r2 =>
     obtain⟨t,e⟩:=r1
     subst e
     exact .cons n t (ih r2)
section
variable {X:Cx} {e:Expr} {te:TE} {lo hi:Option Expr} {tl th:TO} {pos p2:Pos}
theorem yS:PO X none tNoPart:=by
 intro pins s σ H Q I h
 rw[evalPart_none]
 exact wpAny_pure ⟨none,H,I,.none,h⟩
theorem yD(h:PE X e te):PO X (some e) (tPart te):=by
 intro pins s σ H Q I hw
 rw[evalPart_some]
 refine thn (h pins s σ H _ I hw) fun u s1 ⟨x,H1,I1,r1,q1⟩=>?_
 obtain⟨i,rfl,q⟩:=q1
 obtain⟨t,rfl⟩:=r1
 exact⟨some i,H1,I1,.int i t,q⟩
def SlR(X:Cx)(r:V→Option Int→Option Int→Hp→VK→Prop):Prop :=
 ∀(pins:List (Addr × Obj)) (s:Shared) (σ:St) (H:Hp) (x:V) (v vl vu:Value) (lo hi:Option Int) (sl:Addr) (Q:VK),Inv X pins σ H s→yb x v→s.heap.IsSliceOf sl vl vu .none→IsPart vl lo→IsPart vu hi→r x lo hi H Q →
  ∃T id,typeLookup (.type T) "__getitem__" = pure (some (.builtin id))∧s.TypeIs v T∧wpAny (model X.prog X.w) X.A (getItem v (.ref sl)) (EP X pins σ Q) X.xe s
def tSl(r:V→Option Int→Option Int→Hp→VK→Prop)(te:TE)(tl th:TO):TE:=fun σ H Q=>te σ H fun x H1=>tl σ H1 fun l H2=>th σ H2 fun u H3=>r x l u H3 Q
theorem ym{r:V→Option Int→Option Int→Hp→VK→Prop}(hr:SlR X r)(he:PE X e te)(hl:PO X lo tl)(hu:PO X hi th):PE X (.Subscript e (.Slice lo hi none p2) pos) (tSl r te tl th):=by
 intro pins s σ H Q I h
 refine Subscript_ (thn (he pins s σ H _ I h) fun v s1 ⟨x,H1,I1,r1,q1⟩=>?_)
 refine wpAny_Slice (thn (hl pins s1 σ H1 _ I1 q1) fun vl s2 ⟨l,H2,I2,pl,q2⟩=>thn (hu pins s2 σ H2 _ I2 q2) fun vu s3 ⟨u,H3,I3,pu,q3⟩=>?_)
 rw[evalPart_none]
 refine wpAny_pure ?_
 have I4:Inv X pins σ H3 { s3 with heap:=s3.heap.push { cls:=.type "slice",data:=.fields #[vl,vu,.none] } }:=I3.kept (t':=s3.toks) fun b ob q=>Heap.get?_push_of_some _ q
 obtain⟨T,id,hT,ht,hg⟩:=hr pins { s3 with heap:=s3.heap.push { cls:=.type "slice",data:=.fields #[vl,vu,.none] } } σ H3 x v vl vu l u s3.heap.objs.size Q I4 r1 (Heap.IsSliceOf.new ..) pl pu q3
 show wpAny (model X.prog X.w) X.A (subscriptTail e (.Slice lo hi none p2) v (.ref s3.heap.objs.size)) (EP X pins σ Q) X.xe { s3 with heap:=s3.heap.push { cls:=.type "slice",data:=.fields #[vl,vu,.none] } }
 exact tail_any (ops := [.ref s3.heap.objs.size,v]) ht hT hg (by with_unfolding_all rfl)
def zeu(xs:List V)(lo hi:Option Int):List V:=(xs.drop (HT.sIx xs.length 0 lo)).take (HT.sIx xs.length xs.length hi - HT.sIx xs.length 0 lo)
theorem zhH(xs:List V)(lo hi:Option Int):(zeu xs lo hi).length≤xs.length:=by
 unfold zeu
 rw[List.length_take,List.length_drop]
 omega
end
def ixN(n:Nat)(i:Int):Option Nat:=if 0≤i then(if i<n then some i.toNat else none)else if -(n:Int)≤i then some (i+n).toNat else none
def atI{α:Type}(xs:List α)(i:Int):Option α:=(ixN xs.length i).bind fun j=>xs[j]?
theorem ziP{n:Nat}{i:Int}{j:Nat}(h:ixN n i=some j):seqIndex? i n=some j∧j<n ∧ -(n:Int)≤i∧i<n:=by
 unfold ixN at h
 by_cases h0:0≤i
 ·rw[if_pos h0] at h
  by_cases h1:i<n
  ·rw[if_pos h1] at h
   have e:i.toNat=j:=Option.some.inj h
   exact⟨by rw[seqIndex_of h0 h1,e],by omega,by omega,h1⟩
  ·rw[if_neg h1] at h;cases h
 ·rw[if_neg h0] at h
  by_cases h1 : -(n:Int)≤i
  ·rw[if_pos h1] at h
   have e:(i+n).toNat=j:=Option.some.inj h
   exact⟨by rw[seqIndex_neg (by omega) h1,e],by omega,h1,by omega⟩
  ·rw[if_neg h1] at h;cases h
theorem ziY{α:Type}{xs:List α}{i:Int}{v:α}(h:atI xs i=some v):∃j,seqIndex? i xs.length=some j∧xs[j]? = some v∧j<xs.length ∧ -(xs.length:Int)≤i∧i<xs.length:=by
 unfold atI at h
 cases e:ixN xs.length i with
 | none=>rw[e] at h;cases h
 | some j =>
   rw[e] at h
   obtain⟨h1,h2,h3,h4⟩:=ziP e
   exact⟨j,h1,h,h2,h3,h4⟩
theorem zae{α:Type}{xs:List α}{j:Nat}{v:α}(h:xs[j]? = some v):atI xs (j:Int)=some v:=by
 have hj:j<xs.length:=(List.getElem?_eq_some_iff.mp h).1
 have e:ixN xs.length (j:Int)=some j:=by
  unfold ixN
  rw[if_pos (by omega),if_pos (by omega)];simp
 unfold atI;rw[e];exact h
theorem atI_last{α:Type}(xs:List α)(v:α):atI (xs ++ [v]) (-1)=some v:=by
 have hl:(xs ++ [v]).length=xs.length+1:=by simp
 have e:ixN (xs ++ [v]).length (-1)=some xs.length:=by
  unfold ixN
  rw[hl,if_neg (by decide),if_pos (by omega)]
  congr 1
  omega
 unfold atI
 rw[e]
 show(xs ++ [v])[xs.length]? = some v
 simp
def ziX(b:Expr):Prop:=∀o i,subscripted b false o i=operate [o,i] (getItem o i)
def IxR(X:Cx)(r:R2):Prop :=
 ∀(value slice:Expr) (pins:List (Addr × Obj)) (s:Shared) (σ:St) (H:Hp) (x y:V) (v u:Value) (Q:VK),Inv X pins σ H s→yb x v→yb y u→r x y H Q →
  subscripted slice false v u=operate [v,u] (getItem v u)→wpAny (model X.prog X.w) X.A (subscriptTail value slice v u) (EP X pins σ Q) X.xe s
def MtR(X:Cx)(id:String)(r:V→List V→Hp→VK→Prop):Prop :=
 ∀(pins:List (Addr × Obj)) (s:Shared) (σ:St) (H:Hp) (x:V) (xs:List V) (v:Value) (us:List Value) (Q:VK),Inv X pins σ H s→yb x v→zI xs us→r x xs H Q →
  wpAny (model X.prog X.w) X.A (call (.builtin id) (v::us)) (EP X pins σ Q) X.xe s
section
variable {X:Cx} {a b:Expr} {ta tb:TE} {pos:Pos}
theorem yn{r:R2}(hr:IxR X r)(ha:PE X a ta)(hb:PE X b tb)(hs:ziX b):PE X (.Subscript a b pos) (tOp r ta tb):=by
 intro pins s σ H Q I h
 exact Subscript_ (binT ha hb I h fun v u s2 x y H2 I2 rx ry q=>hr a b pins s2 σ H2 x y v u Q I2 rx ry q (hs _ _))
def rIxL(K:PySem.W.Frag):R2:=fun x y H Q=>∃p xs i v,x=.ref p∧y=.int i∧SqL K H p xs∧atI xs i=some v∧Q v H
def rIxS:R2:=fun x y H Q=>∃z i c,x=.str z∧y=.int i∧z.length≤sizeLine∧atI z.cps.toList i=some c∧Q (.str ⟨#[c]⟩) H
theorem zM:IxR X (rIxL X.K):=by
 intro value slice pins s σ H x y v u Q I rx ry h hs
 obtain⟨p,xs,i,z,rfl,rfl,hq,he,q⟩:=h
 cases rx
 obtain⟨t,rfl⟩:=ry
 obtain⟨its,r,pl,hz⟩:=I.list hq
 obtain⟨j,h1,h2,h3,h4,h5⟩:=ziY he
 obtain⟨w,ew,rw'⟩:=r.get h2
 have hl:=r.length
 have hn:=zeX
 have fin:EP X pins σ Q w s:=⟨z,H,I,rw',q⟩
 by_cases h0:0≤i
 ·have hj:i.toNat=j:=by
   rw[seqIndex_of h0 h5] at h1
   exact Option.some.inj h1
  exact item_listR pl.isList h0 (by omega) (by rw[hj];simpa using ew) fin hs
 ·have hj:(i+(its.toArray.size:Int)).toNat=j:=by
   rw[seqIndex_neg (by omega) h4] at h1
   rw[List.size_toArray,← hl]
   exact Option.some.inj h1
  exact subscriptTail_builtinR (x:=w) pl.isList.typeIs slot_list_getitem.lookup
   (wpAny_getItem_list_neg (Q:=fun r s'=>r=w∧EP X pins σ Q r s') pl.isList (by omega) (by rw[List.size_toArray] <;> omega) (by omega) (by rw[hj];simpa using ew) ⟨rfl,fin⟩) hs
theorem ziq:IxR X rIxS:=by
 intro value slice pins s σ H x y v u Q I rx ry h hs
 obtain⟨z,i,c,rfl,rfl,hz,he,q⟩:=h
 obtain⟨t,rfl⟩:=rx
 obtain⟨t',rfl⟩:=ry
 obtain⟨j,h1,h2,h3,h4,h5⟩:=ziY he
 have hl:z.cps.toList.length=z.length:=by simp[Str.length]
 rw[hl] at h1 h4 h5
 have hn:=zeX
 exact tail_any (typeIs_str s z t) slot_str_getitem.lookup (getItem_str (c:=c) (by
  have e1:decide (i < -(2 ^ 63:Int))=false:=decide_eq_false (by omega)
  have e2:decide (i ≥ 2 ^ 63)=false:=decide_eq_false (by omega)
  rw[e1,e2,Bool.or_false]) (by rw[h1];simpa using h2) ⟨.str ⟨#[c]⟩,H,I.tok _,⟨_,rfl⟩,q⟩) hs
theorem zil(its:List Value)(n j:Nat)(u:Value):Obj.mapSeq (·.setIfInBounds j u) { cls:=.type "list",data:=.seq its.toArray n }={ cls:=.type "list",data:=.seq (its.set j u).toArray n }:=by
 simp[Obj.mapSeq]
theorem Inv.lst{pins:List (Addr × Obj)}{σ:St}{H:Hp}{s:Shared}{p:Addr}{xs:List V}(I:Inv X pins σ H s)(h:H p=some (.lst xs)):
 ∃(its:List Value) (n:Nat),zI xs its∧s.heap.get? p=some { cls:=.type "list",data:=.seq its.toArray n }∧xs.length≤sizeLine:=by
 obtain⟨z,its,n,r,e⟩:=I.hok p _ h
 exact⟨its,n,r,e,z⟩
theorem Inv.lstUpd{pins:List (Addr × Obj)}{σ:St}{H:Hp}{s:Shared}{p:Addr}{xs ys:List V}{its its':List Value}{n n':Nat}{f:Obj→Obj}(I:Inv X pins σ H s)(h:H p=some (.lst xs))
 (ho:s.heap.get? p=some { cls:=.type "list",data:=.seq its.toArray n }) (hf:f { cls:=.type "list",data:=.seq its.toArray n }={ cls:=.type "list",data:=.seq its'.toArray n' }) (r:zI ys its') (hz:ys.length≤sizeLine) (t:Nat) :
 Inv X pins σ (upd H p (.lst ys)) { s with heap:=s.heap.update p f,toks:=t }:=by
 have e:(s.heap.update p f).get? p=some { cls:=.type "list",data:=.seq its'.toArray n' }:=by
  rw[Heap.get?_update_self f ho (by rw[hf] <;> rfl),hf]
 refine I.write (x:=p) (e:=p) (by rw[h];trivial) (.inl rfl) (fun b u hb q=>(Heap.get?_update_other _ _ (Ne.symm hb)).trans q) ⟨_,e⟩ ?_
 exact⟨hz,its',n',r,e⟩
def rSetL:V→V→V→Hp→(Hp→Prop)→Prop:=fun o i v H Q=>∃p xs k j,o=.ref p∧i=.int k∧H p=some (.lst xs)∧ixN xs.length k=some j∧Q (upd H p (.lst (xs.set j v)))
theorem set_list:PSet X rSetL:=by
 intro pins s σ H o i v ov iv u Q I ro ri rv h
 obtain⟨p,xs,k,j,rfl,rfl,hp,hj,q⟩:=h
 cases ro
 obtain⟨t,rfl⟩:=ri
 obtain⟨its,n,r,ho,hz⟩:=I.lst hp
 obtain⟨h1,h2,h3,h4⟩:=ziP hj
 have hl:=r.length
 have hn:=zeX
 have I':Inv X pins σ (upd H p (.lst (xs.set j v))) { s with heap:=s.heap.update p (Obj.mapSeq (·.setIfInBounds j u)) } :=
  I.lstUpd hp ho (zil its n j u) (r.set rv j) (by rw[List.length_set];exact hz) s.toks
 by_cases h0:0≤k
 ·have hk:k.toNat=j:=by
   rw[seqIndex_of h0 h4] at h1
   exact Option.some.inj h1
  exact PySem.W.ki_setAt ho h0 (by omega) (by rw[List.size_toArray,← hl];exact h4) (by rw[hk];exact⟨_,I',q⟩)
 ·have hk:(k+(its.toArray.size:Int)).toNat=j:=by
   rw[seqIndex_neg (by omega) h3] at h1
   rw[List.size_toArray,← hl]
   exact Option.some.inj h1
  exact PySem.W.ki_setBack ho (by omega) (by rw[List.size_toArray,← hl];exact h3) (by omega) (by rw[hk];exact⟨_,I',q⟩)
theorem zgM(lo hi:Option Int)(n:Nat):(sliceBounds lo hi none n).1=((HT.sIx n 0 lo:Nat):Int)∧(sliceBounds lo hi none n).2.1=((HT.sIx n n hi:Nat):Int)∧(sliceBounds lo hi none n).2.2=1:=by
 refine⟨?_,?_,rfl⟩
 ·cases lo with
  | none=>simp[sliceBounds,HT.sIx]
  | some i =>
    simp only[sliceBounds,HT.sIx,Option.getD_none,show(1:Int) > 0 by decide,if_true]
    by_cases h:i<0
    ·simp only[h,if_true] <;> omega
    ·simp only[h,if_false] <;> omega
 ·cases hi with
  | none=>simp[sliceBounds,HT.sIx]
  | some i =>
    simp only[sliceBounds,HT.sIx,Option.getD_none,show(1:Int) > 0 by decide,if_true]
    by_cases h:i<0
    ·simp only[h,if_true] <;> omega
    ·simp only[h,if_false] <;> omega
theorem zfP(its:List Value)(lo hi:Option Int):slicePick its.toArray lo hi none=((its.drop (HT.sIx its.length 0 lo)).take (HT.sIx its.length its.length hi - HT.sIx its.length 0 lo)).toArray:=by
 obtain⟨h1,h2,h3⟩:=zgM lo hi its.toArray.size
 unfold slicePick
 rw[h1,h2,h3]
 simp only[sliceRange_one,pick_run,List.size_toArray] <;> rfl
def rSlL(K:PySem.W.Frag):V→Option Int→Option Int→Hp→VK→Prop:=fun x lo hi H Q=>∃a xs,x=.ref a∧SqL K H a xs∧∀p,H p=none→Q (.ref p) (upd H p (.lst (zeu xs lo hi)))
theorem we:SlR X (rSlL X.K):=by
 intro pins s σ H x v vl vu lo hi sl Q I rx hs pl pu h
 obtain⟨a,xs,rfl,hx,q⟩:=h
 cases rx
 obtain⟨its,r,ht,hz⟩:=I.list hx
 have hlen:=r.length
 refine⟨"list",_,slot_list_getitem.lookup,ht.isList.typeIs,?_⟩
 refine wpAny_getItem_list_slice ht.isList hs pl pu .none (by simp) ?_ (by rw[List.size_toArray] <;> omega)
 rw[zfP,← hlen]
 refine⟨.ref s.heap.objs.size,_,I.laid (t':=s.toks) (o:=.lst (zeu xs lo hi)) (fun b ob q=>Heap.get?_push_of_some _ q) (Nat.le_refl _) ?_,rfl,q _ (I.hok.fresh (Nat.le_refl _))⟩
 exact⟨Nat.le_trans (zhH xs lo hi) hz,_,0,(r.drop (HT.sIx xs.length 0 lo)).take (HT.sIx xs.length xs.length hi - HT.sIx xs.length 0 lo),Heap.get?_push_size _ rfl⟩
def wU:V→Bool
 | .non=>true
 | .bl _=>true
 | .int _=>true
 | .str _=>true
 | _=>false
def eqV:V→V→Bool
 | .non,.non=>true
 | .bl a,.bl b=>a==b
 | .bl a,.int b=>(if a then 1 else 0)==b
 | .int a,.bl b=>a==(if b then 1 else 0)
 | .int a,.int b=>a==b
 | .str a,.str b=>a==b
 | _,_=>false
theorem eqAt_V{A:Around}{s:Shared}{y x:V}{u v:Value}(ry:yb y u)(rx:yb x v)(fy:wU y=true)(fx:wU x=true):SeqAt.EqAt A s u v (eqV y x):=by
 cases y with
 | non =>
   cases ry
   cases x with
   | non=>cases rx;exact SeqAt.EqAt.same _
   | bl b=>cases rx;exact SeqAt.EqAt.none_bool b
   | int b=>obtain⟨t,rfl⟩:=rx;exact SeqAt.EqAt.none_int b t
   | str b=>obtain⟨t,rfl⟩:=rx;exact SeqAt.EqAt.none_str b t
   | _=>exact absurd (show false=true from fx) Bool.false_ne_true
 | bl a =>
   cases ry
   cases x with
   | non=>cases rx;exact SeqAt.EqAt.bool_none a
   | bl b=>cases rx;exact SeqAt.EqAt.bool_bool a b
   | int b=>obtain⟨t,rfl⟩:=rx;exact SeqAt.EqAt.bool_int a b t
   | str b=>obtain⟨t,rfl⟩:=rx;exact SeqAt.EqAt.bool_str a b t
   | _=>exact absurd (show false=true from fx) Bool.false_ne_true
 | int a =>
   obtain⟨t',rfl⟩:=ry
   cases x with
   | non=>cases rx;exact SeqAt.EqAt.int_none a t'
   | bl b=>cases rx;exact SeqAt.EqAt.int_bool a t' b
   | int b=>obtain⟨t,rfl⟩:=rx;exact SeqAt.EqAt.int_int a t' b t
   | str b=>obtain⟨t,rfl⟩:=rx;exact SeqAt.EqAt.int_str a t' b t
   | _=>exact absurd (show false=true from fx) Bool.false_ne_true
 | str a =>
   obtain⟨t',rfl⟩:=ry
   cases x with
   | non=>cases rx;exact SeqAt.EqAt.str_none a t'
   | bl b=>cases rx;exact SeqAt.EqAt.str_bool a t' b
   | int b=>obtain⟨t,rfl⟩:=rx;exact SeqAt.EqAt.str_int a t' b t
   | str b=>obtain⟨t,rfl⟩:=rx;exact SeqAt.EqAt.str_str a t' b t
   | _=>exact absurd (show false=true from fx) Bool.false_ne_true
 | _=>exact absurd (show false=true from fy) Bool.false_ne_true
def eqU(x:V)(u:Value):Bool:=match u with
 | .none=>eqV .non x
 | .bool b=>eqV (.bl b) x
 | .int i _=>eqV (.int i) x
 | .str z _=>eqV (.str z) x
 | _=>false
theorem zgy{x y:V}{u:Value}(r:yb y u)(f:wU y=true):eqU x u=eqV y x:=by
 cases y with
 | non=>cases r;rfl
 | bl b=>cases r;rfl
 | int i=>obtain⟨t,rfl⟩:=r;rfl
 | str z=>obtain⟨t,rfl⟩:=r;rfl
 | _=>exact absurd (show false=true from f) Bool.false_ne_true
theorem zds{x:V}:∀{xs:List V} {us:List Value},zI xs us→xs.all wU=true→us.any (eqU x)=xs.any fun y=>eqV y x
 | _,_,.nil,_=>rfl
 | y::xs,u::us,.cons r t,f=>by
   rw[List.all_cons,Bool.and_eq_true] at f
   rw[List.any_cons,List.any_cons,zgy r f.1,zds t f.2]
theorem zbu{A:Around}{s:Shared}{x:V}{v:Value}(rx:yb x v)(fx:wU x=true):∀{xs:List V} {us:List Value},zI xs us→xs.all wU=true→∀u∈us,SeqAt.EqAt A s u v (eqU x u)
 | _,_,.nil,_=>fun u hu=>by cases hu
 | y::xs,u::us,.cons r t,f=>fun u' hu=>by
   rw[List.all_cons,Bool.and_eq_true] at f
   rcases List.mem_cons.mp hu with rfl | hu
   ·rw[zgy r f.1];exact eqAt_V r rx f.1 fx
   ·exact zbu rx fx t f.2 u' hu
def inV(x:V)(xs:List V):Bool:=xs.any fun y=>eqV y x
def rIn(K:PySem.W.Frag)(neg:Bool):R2:=fun x y H Q=>∃p xs,y=.ref p∧(SqL K H p xs∨SqT K H p xs)∧wU x=true∧xs.all wU=true∧Q (.bl (if neg then !inV x xs else inV x xs)) H
theorem zbk:OpR X (compareOp .In) (rIn X.K false):=by
 intro pins s σ H x y v u Q I rx ry h
 obtain⟨p,xs,rfl,hq,fx,fs,q⟩:=h
 cases ry
 rcases hq with hq | hq
 ·obtain⟨its,r,pl,hz⟩:=I.list hq
  refine SeqAt.in_listAt (eqU x) pl.isList (fun w hw=>zbu rx fx r fs w (by simpa using hw)) ⟨.bl _,H,I,rfl,?_⟩
  rw[show its.toArray.any (eqU x)=its.any (eqU x)by simp,zds r fs]
  exact q
 ·obtain⟨its,r,pl,hz⟩:=I.tuple hq
  refine SeqAt.in_tupleAt (eqU x) pl (fun w hw=>zbu rx fx r fs w (by simpa using hw)) ⟨.bl _,H,I,rfl,?_⟩
  rw[show its.toArray.any (eqU x)=its.any (eqU x)by simp,zds r fs]
  exact q
theorem zaz:OpR X (compareOp .NotIn) (rIn X.K true):=by
 intro pins s σ H x y v u Q I rx ry h
 obtain⟨p,xs,rfl,hq,fx,fs,q⟩:=h
 cases ry
 rcases hq with hq | hq
 ·obtain⟨its,r,pl,hz⟩:=I.list hq
  refine SeqAt.notIn_listAt (eqU x) pl.isList (fun w hw=>zbu rx fx r fs w (by simpa using hw)) ⟨.bl _,H,I,rfl,?_⟩
  rw[show its.toArray.any (eqU x)=its.any (eqU x)by simp,zds r fs]
  exact q
 ·obtain⟨its,r,pl,hz⟩:=I.tuple hq
  refine SeqAt.notIn_tupleAt (eqU x) pl (fun w hw=>zbu rx fx r fs w (by simpa using hw)) ⟨.bl _,H,I,rfl,?_⟩
  rw[show its.toArray.any (eqU x)=its.any (eqU x)by simp,zds r fs]
  exact q
theorem zq:zas X (.builtin "len") (fun xs H Q=>∃p ys,xs = [.ref p]∧(SqL X.K H p ys∨SqT X.K H p ys)∧Q (.int ys.length) H):=by
 intro pins s σ H xs us Q I r h
 obtain⟨p,ys,rfl,hq,q⟩:=h
 obtain⟨u,rfl,rx⟩:=zhu r
 cases rx
 have hn:=zeX
 rcases hq with hq | hq
 ·obtain⟨its,r',pl,hz⟩:=I.list hq
  have hlen:=r'.length
  exact Calls.call_len_list pl.isList (by simp only[List.size_toArray] <;> omega) ⟨.int ys.length,H,I.tok _,⟨s.toks+1,by rw[List.size_toArray,hlen]⟩,q⟩
 ·obtain⟨its,r',pl,hz⟩:=I.tuple hq
  have hlen:=r'.length
  exact len_tuple pl (by simp only[List.size_toArray] <;> omega) ⟨.int ys.length,H,I.tok _,⟨s.toks+1,by rw[List.size_toArray,hlen]⟩,q⟩
theorem yh:zas X (.type "list") (fun xs H Q=>∃p ys,xs = [.ref p]∧(SqL X.K H p ys∨SqT X.K H p ys)∧∀l,H l=none→Q (.ref l) (upd H l (.lst ys))):=by
 intro pins s σ H xs us Q I r h
 obtain⟨p,ys,rfl,hq,q⟩:=h
 obtain⟨u,rfl,rx⟩:=zhu r
 cases rx
 have fin:∀(its:List Value),zI ys its→ys.length≤sizeLine→∀(h':Heap) (c':Nat),(∀b o',s.heap.get? b=some o'→h'.get? b=some o') →
  h'.get? s.heap.objs.size=some { cls:=.type "list",dict:=none,data:=.seq its.toArray c',slots := #[] }→EP X pins σ Q (.ref s.heap.objs.size) { s with heap:=h' }:=fun its r' hz h' c' kp e =>
  ⟨.ref s.heap.objs.size,_,I.laid (t':=s.toks) kp (Nat.le_refl _) (show wy X.prog X.w _ h' _ (.lst ys)from⟨hz,its,c',r',e⟩),rfl,q _ (I.hok.fresh (Nat.le_refl _))⟩
 rcases hq with hq | hq
 ·obtain⟨its,r',pl,hz⟩:=I.list hq
  have hlen:=r'.length
  obtain⟨o,ho,hc,n,hd⟩:=pl.isList
  exact call_list_seq p (.inl rfl) ho hc hd (fun h' c' kp e=>fin its r' hz h' c' kp e) (by simp only[List.size_toArray] <;> omega)
 ·obtain⟨its,r',pl,hz⟩:=I.tuple hq
  have hlen:=r'.length
  obtain⟨o,ho,hc,n,hd⟩:=pl
  exact call_list_seq p (.inr rfl) ho hc hd (fun h' c' kp e=>fin its r' hz h' c' kp e) (by simp only[List.size_toArray] <;> omega)
def tyV(K:PySem.W.Frag)(T:String)(x:V)(H:Hp):Prop:=match x with
 | .str _=>T= "str"
 | .int _=>T= "int"
 | .ref p=>(T= "list" ∧ ∃xs,SqL K H p xs)∨(T= "tuple" ∧ ∃o,K.lookup p=some o∧o.cls=.type "tuple" ∧ o.dict=none) ∨
    (T= "dict" ∧ ((∃kvs,H p=some (.dK kvs))∨∃kvs,H p=some (.dT kvs)))∨(T= "set" ∧ ∃S n,H p=some (.set S n))
 | _=>False
theorem zjY{pins:List (Addr × Obj)}{σ:St}{H:Hp}{s:Shared}{T:String}{x:V}{v:Value}(I:Inv X pins σ H s)(r:yb x v)(ty:tyV X.K T x H):
 s.TypeIs v T∧∀a,v=.ref a→∃ob,s.heap.get? a=some ob∧ob.dict=none:=by
 cases x with
 | str z =>
   obtain⟨t,rfl⟩:=r
   cases (show T= "str" from ty)
   exact⟨typeIs_str s z t,fun _ e=>nomatch e⟩
 | int i =>
   obtain⟨t,rfl⟩:=r
   cases (show T= "int" from ty)
   exact⟨typeIs_int s i t,fun _ e=>nomatch e⟩
 | ref p =>
   cases r
   rcases ty with⟨rfl,xs,hq⟩ | ⟨rfl,o,hk,hc,hd⟩ | ⟨rfl,hk⟩ | ⟨rfl,S,n,hk⟩
   ·obtain⟨its,_,pl,_⟩:=I.list hq
    refine⟨pl.isList.typeIs,fun a e=>?_⟩
    cases e
    obtain⟨o,n,e,c,hd,_⟩:=pl
    exact⟨o,e,hd⟩
   ·refine⟨⟨o,I.kIn p o hk,hc⟩,fun a e=>?_⟩
    cases e
    exact⟨o,I.kIn _ o hk,hd⟩
   ·have z:∃o,s.heap.get? p=some o∧o.ExactDict:=by
     rcases hk with⟨kvs,hk⟩ | ⟨kvs,hk⟩
     ·obtain⟨_,_,_,_,o,_,_,e,ex,_⟩:=I.hok p _ hk
      exact⟨o,e,ex⟩
     ·obtain⟨_,_,_,_,o,_,_,e,ex,_⟩:=I.hok p _ hk
      exact⟨o,e,ex⟩
    obtain⟨o,e,ex⟩:=z
    refine⟨⟨o,e,ex.1⟩,fun a e2=>?_⟩
    cases e2
    exact⟨o,e,ex.2.1⟩
   ·obtain⟨o,_,_,_,e,ex,_⟩:=I.hok p _ hk
    refine⟨⟨o,e,ex.1⟩,fun a e2=>?_⟩
    cases e2
    exact⟨o,e,ex.2.1⟩
 | _=>exact False.elim ty
def tBM0(K:PySem.W.Frag)(T:String)(r:V→List V→Hp→VK→Prop)(to:TE):TE:=fun σ H Q=>to σ H fun x H1=>tyV K T x H1∧r x [] H1 Q
def tBM(K:PySem.W.Frag)(T:String)(r:V→List V→Hp→VK→Prop)(to:TE)(t:TA):TE:=fun σ H Q=>to σ H fun x H1=>tyV K T x H1∧t σ H1 fun xs H2=>r x xs H2 Q
variable {o e:Expr} {es:List Expr} {to:TE} {t:TA} {name:Str} {apos cpos:Pos} {T id:String} {r:V→List V→Hp→VK→Prop}
theorem pe_bm0(pa:PlainAttrs T)(slot:Slot T name id)(hty:typeOf (.builtin id)=pure (.type "method_descriptor"))(hm:MtR X id r)(ho:PE X o to)
 (hbase:attributeBase o name X.env (eval o X.env)=eval o X.env:=by rfl) (hline:(apos.endLine==cpos.line)=true:=by rfl):PE X (.Call (.Attribute o name apos) [] [] cpos) (tBM0 X.K T r to):=by
 intro pins s σ H Q I h
 refine wpAny_Call_method0_late hbase hline (thn (ho pins s σ H _ I h) fun v s1 ⟨x,H1,I1,r1,ty,q1⟩=>?_)
 obtain⟨h1,h2⟩:=zjY I1 r1 ty
 exact⟨T,id,pa,slot,hty,h1,h2,Calls.callWith_builtin rfl (PySem.evalArgs_none (hm pins s1 σ H1 x [] v [] Q I1 r1 .nil q1))⟩
theorem za1(pa:PlainAttrs T)(slot:Slot T name id)(hty:typeOf (.builtin id)=pure (.type "method_descriptor"))(hm:MtR X id r)(ho:PE X o to)(ha:PA X (e::es) t)
 (hbase:attributeBase o name X.env (eval o X.env)=eval o X.env:=by rfl)
 (hfew:((backTo cpos (starEach (e::es) X.env)).all (fun x => !x.1) && (backToKw cpos (keywordEach [] X.env)).all (fun x=>x.1.isSome)
   && decide ((e::es).length+([]:List Keyword).length+(if([]:List Keyword).isEmpty then 0 else 1)<30))=true:=by rfl)
 (hline:(apos.endLine==cpos.line)=true:=by rfl) (hs:starEach (e::es) X.env=(false,eval e X.env)::starEach es X.env:=by rfl) (hplain:(backTo cpos (starEach es X.env)).any (·.1)=false:=by rfl) :
 PE X (.Call (.Attribute o name apos) (e::es) [] cpos) (tBM X.K T r to t):=by
 intro pins s σ H Q I h
 refine wpAny_Call_method_late hbase hfew hline rfl (thn (ho pins s σ H _ I h) fun v s1 ⟨x,H1,I1,r1,ty,q1⟩=>?_)
 obtain⟨h1,h2⟩:=zjY I1 r1 ty
 refine⟨T,id,pa,slot,hty,h1,h2,?_⟩
 have hA:=ha cpos pins s1 σ H1 _ I1 q1
 rw[hs] at hA ⊢
 refine Calls.callWith_builtin (by show(false || (backTo cpos (starEach es X.env)).any (·.1))=false;rw[hplain] <;> rfl) (Calls.evalArgs_plain ?_)
 exact thn hA fun us s2 ⟨vs,H2,I2,r2,q2⟩=>hm pins s2 σ H2 x vs v us Q I2 r1 r2 q2
/- xs.append(e),list.index on a module's tuple .. are MtR facts of 06m -/
end
def MtM(X:Cx)(id:String)(r:V→List V→Hp→VK→Prop):Prop :=
 ∀(pins:List (Addr × Obj)) (s:Shared) (σ:St) (H:Hp) (x:V) (xs:List V) (v:Value) (us:List Value) (Q:VK),Inv X pins σ H s→yb x v→zI xs us→r x xs H Q →
  wpAny (model X.prog X.w) X.A (call (.builtin id) (v::us)) (EP X pins σ Q) X.xe s
theorem zI.one:∀{x:V} {us:List Value},zI [x] us→∃u,us = [u]∧yb x u
 := by
 intro x us h
 cases h with
 | cons r q=>cases q;exact⟨_,rfl,r⟩
theorem zI.two:∀{x y:V} {us:List Value},zI [x,y] us→∃u v,us = [u,v]∧yb x u∧yb y v
 := by
 intro x y us h
 cases h with
 | cons r z=>cases z with
   | cons q z=>cases z;exact⟨_,_,rfl,r,q⟩
theorem zI.eraseIdx:∀{xs:List V} {us:List Value} (i:Nat),zI xs us→zI (xs.eraseIdx i) (us.eraseIdx i)
 | _,_,_,.nil=>.nil
 | _,_,0,.cons _ t=>t
 | _,_,i+1,.cons r t=>.cons r (zI.eraseIdx i t)
theorem zI.reverse{xs:List V}{us:List Value}(h:zI xs us):zI xs.reverse us.reverse:=by
 induction h with
 | nil=>exact .nil
 | cons r t ih=>rw[List.reverse_cons,List.reverse_cons];exact zI.append ih (.cons r .nil)
theorem zgj{α:Type}:∀(l:List α) (i:Nat),(l.eraseIdx i).length≤l.length
 | [],_=>Nat.le_refl _
 | _::_,0=>Nat.le_succ _
 | _::r,i+1=>Nat.succ_le_succ (zgj r i)
section
variable {X:Cx} {pins:List (Addr × Obj)} {σ:St} {H:Hp} {s:Shared} {l b:Addr} {xs ys zs:List V}
theorem Inv.lset{its its':List Value}{n:Nat}{f:Array Value→Array Value}{t':Nat}(I:Inv X pins σ H s)(hH:H l=some (.lst xs))
 (e:s.heap.get? l=some { cls:=.type "list",data:=.seq its.toArray n }) (hf:f its.toArray=its'.toArray) (hv:zI ys its') (hz:ys.length≤sizeLine) :
 Inv X pins σ (upd H l (.lst ys)) { s with heap:=s.heap.update l (Obj.mapSeq f),toks:=t' }:=by
 have q:=PySem.IsL.update e f
 rw[hf] at q
 refine I.write (x:=l) (e:=l) (by rw[hH];exact trivial) (.inl rfl) (fun b' u hb hu=>(Heap.get?_update_other s.heap (Obj.mapSeq f) (Ne.symm hb)).trans hu) ⟨_,q⟩ ?_
 exact⟨hz,its',_,hv,q⟩
theorem Inv.lnew{its:List Value}{t':Nat}(I:Inv X pins σ H s)(hv:zI ys its)(hz:ys.length≤sizeLine):
 Inv X pins σ (upd H s.heap.objs.size (.lst ys)) { s with heap:=s.heap.push { cls:=.type "list",data:=.seq its.toArray },toks:=t' } :=
 I.laid (fun _ _ q=>Heap.get?_push_of_some _ q) (Nat.le_refl _) ⟨hz,its,0,hv,Heap.get?_push_size _ rfl⟩
theorem Inv.fresh(I:Inv X pins σ H s):H s.heap.objs.size=none:=I.hok.fresh (Nat.le_refl _)
theorem Inv.lstM(I:Inv X pins σ H s)(hH:H l=some (.lst xs)):xs.length≤sizeLine∧∃(its:List Value) (n:Nat),zI xs its∧xs.length=its.length∧s.heap.get? l=some { cls:=.type "list",data:=.seq its.toArray n }:=by
 obtain⟨z,its,n,r,e⟩:=I.hok l _ hH
 exact⟨z,its,n,r,r.length,e⟩
end
section
variable {X:Cx}
def rAppend:V→List V→Hp→VK→Prop:=fun x vs H Q=>∃l xs y,x=.ref l∧vs = [y]∧H l=some (.lst xs)∧xs.length<sizeLine∧Q .non (upd H l (.lst (xs ++ [y])))
theorem zaO:MtM X "list.append" rAppend:=by
 intro pins s σ H x vs v us Q I rx rv h
 obtain⟨l,xs,y,rfl,rfl,hH,hz,q⟩:=h
 cases rx
 obtain⟨u,rfl,ru⟩:=rv.one
 obtain⟨z,its,n,r,hl,e⟩:=I.lstM hH
 refine call_meets F.slot_list_append ⟨_,e,rfl⟩ F.entry_list_append (F.args_list_append_2 _ _) (PySem.list_append l its.toArray n u (by rw[List.size_toArray];omega)) ⟨e,?_⟩
 refine⟨.non,_,I.lset (its':=its ++ [u]) hH e (by simp) (r.append (.cons ru .nil)) ?_,rfl,q⟩
 rw[List.length_append,List.length_singleton]
 omega
def rPopAt:V→List V→Hp→VK→Prop:=fun x vs H Q=>∃l xs i k y,x=.ref l∧vs = [.int i]∧H l=some (.lst xs) ∧ -(2 ^ 63)≤i∧i<2 ^ 63∧seqIndex? i xs.length=some k∧xs[k]? = some y∧Q y (upd H l (.lst (xs.eraseIdx k)))
theorem mt_popAt:MtM X "list.pop" rPopAt:=by
 intro pins s σ H x vs v us Q I rx rv h
 obtain⟨l,xs,i,k,y,rfl,rfl,hH,h1,h2,hk,hy,q⟩:=h
 cases rx
 obtain⟨u,rfl,ru⟩:=rv.one
 obtain⟨t,rfl⟩:=ru
 obtain⟨z,its,n,r,hl,e⟩:=I.lstM hH
 obtain⟨w,hw,rw'⟩:=r.get hy
 refine call_meets F.slot_list_pop ⟨_,e,rfl⟩ F.entry_list_pop (F.args_list_pop_2 _ _)
  (MeetsSeq.list_pop_at l its.toArray n i t k w (fitsIndex_both h1 h2) (by rw[List.size_toArray,← hl];exact hk) (by rw[← Array.getElem?_toList];exact hw) (by rw[List.size_toArray];omega)) ⟨e,?_⟩
 refine⟨y,_,I.lset (its':=its.eraseIdx k) hH e ?_ (r.eraseIdx k) ?_,rw',q⟩
 ·show its.toArray.eraseIdxIfInBounds k=(its.eraseIdx k).toArray
  rw[List.eraseIdxIfInBounds_toArray]
 ·have:=zgj xs k
  omega
def rCat:R2:=fun x y H Q=>∃l b xs zs,x=.ref l∧y=.ref b∧H l=some (.lst xs)∧H b=some (.lst zs)∧xs.length+zs.length≤sizeLine∧∀p,H p=none→Q (.ref p) (upd H p (.lst (xs++zs)))
theorem yZ:OpR X (binaryOp .Add) rCat:=by
 intro pins s σ H x y v u Q I rx ry h
 obtain⟨l,b,xs,zs,rfl,rfl,hH,hB,hz,q⟩:=h
 cases rx
 cases ry
 obtain⟨z,its,n,r,hl,e⟩:=I.lstM hH
 obtain⟨z2,its2,n2,r2,hl2,e2⟩:=I.lstM hB
 refine PySem.P.add_list e e2 ?_ (by rw[List.size_toArray,List.size_toArray];omega)
 have ea:its.toArray++its2.toArray=(its++its2).toArray:=by simp
 rw[ea]
 exact⟨.ref _,_,I.lnew (t':=s.toks) (r.append r2) (by rw[List.length_append];omega),rfl,q _ I.fresh⟩
end
section
variable {prog:Program} {w:World} {A:Around} {E:Value→Shared→Prop} {s:Shared}
end
section
variable {X:Cx}
end
end L2
namespace Att
open PySem PySem.W PySem.Calls PyProof.Rows
theorem zeB{P:Params}{h:Heap}:∀(ns:List Int) (vs:List Value),WellAll P h vs (ns.map WData.int)→IntsAre vs ns:=by
 intro ns
 induction ns with
 | nil =>
   intro vs w
   rw[List.map_nil] at w
   cases w
   exact .nil
 | cons n ns ih =>
   intro vs w
   rw[List.map_cons] at w
   cases w with
   | cons a b =>
     cases a
     exact .cons _ _ (ih _ b)
theorem zjb{l:OpenLaw}{n:Nat}(hn:l.most=some n){P:Params}{h:Heap}{args:List WData}{vals:List Value}
 (hpre:l.row.toRowW.claim.pre args=true) (hwl:WellAll P h vals args) :
 ∃a vs ns,vals = [Value.ref a]∧args = [WData.list (ns.map WData.int)]∧h.get? a=some { cls:=.type "list",data:=.seq vs.toArray }∧IntsAre vs ns∧ns.length≤n:=by
 have hsh:WShape.hasAll [] args [.list .int]=true:=(pre_splitW hpre).1
 have hc:l.pre.holds [] { args:=args }=true:=(pre_splitW hpre).2
 obtain⟨d,r,rfl,h1,h2⟩:=hasAllW_cons hsh
 obtain rfl:=hasAllW_nil h2
 obtain⟨xs,rfl,h3⟩:=hasW_list h1
 obtain⟨ns,rfl⟩:=items_int h3
 have hlen:ns.length≤n:=by
  unfold OpenLaw.pre at hc
  have h4:(WTm.not (.lt (.lit (.int (n:Int))) (.len (.arg 0)))).holds [] { args := [.list (ns.map .int)] }=true:=by
   have h4:=(holds_andW hc).1
   rw[hn] at h4
   exact h4
  have h5:=condW_of h4 (w_not (w_lt w_lit (w_len_list (w_arg rfl))))
  rw[List.length_map] at h5
  refine Nat.le_of_not_lt fun q=>?_
  have q':(n:Int)<((ns.length:Nat):Int):=by omega
  first
   | (rw[decide_eq_true q'] at h5;exact absurd h5 (by decide))
   | (simp at h5;omega)
 cases hwl with
 | cons w1 w2 =>
   cases w2
   cases w1 with
   | list ho hall=>exact⟨_,_,ns,rfl,rfl,ho,zeB ns _ hall,hlen⟩
theorem zjd(l:OpenLaw)(args:List WData):l.row.toRowW.claim.post args (.bool true) args=true :=
 postW_of (r:=l.row.toRowW) (X:=(true==true))
  (show WShape.has [] (.bool true) .bool=true by first | rfl | decide | simp[WShape.has,WShape.arms,WShape.armsAll])
  (show(WTm.eq .res (.lit (.bool true))).value [] { args:=args,res:=some (.bool true),after:=args }=some (.bool (true==true))from w_eq_bool (w_res rfl) w_lit) rfl
theorem attach_call{l:OpenLaw}{n:Nat}{q:Program}{loose:List Str}{XP:(Str→Option Value)→Heap→Prop}{YP:World→Heap→Prop}{d:DefRec}
 (hn:l.most=some n) (hdf:d.params.defaults = [])
 (call:∀(w:World) (s₀ s₁:Shared) (mg mb:Str→Option Value) (fa:Addr) (o:Obj) (pm cd doc:Value) (a:Addr) (vs:List Value) (ns:List Int),
   Ground q loose [] XP w s₀ mg mb s₁.heap→YP w s₁.heap →
   s₁.heap.get? fa=some o→o.data=.func (docDef d.name d.params d.body d.scope pm cd doc)→s₁.heap.CodeRec cd d.name→mg d.name=some (.ref fa) →
   s₁.heap.get? a=some { cls:=.type "list",data:=.seq vs.toArray }→IntsAre vs ns→ns.length≤n→s₁.gens = #[] →
   codeAny (model l.prog w) callerA (.call (.ref fa) ⟨[.ref a],[]⟩) (fun r s'=>r=.ok (.ret (.bool true))∧OldK s₁.heap s'.heap∧s'.os=s₁.os∧AllBare s'.gens) s₁) :
 WalkO q loose XP YP l.row.toRowW d [] (fun f vs=>PySem.call f vs):=by
 intro w s₀ s₁ mg mb G Y fa o pm cd doc dV kV ho hd hcd hD hmg hg args vals as hpre hlay hrd hwl hlo
 obtain rfl:dV=.none:=Dflts.none hD hdf
 obtain rfl:kV=.none:=Dflts.noKw hD
 obtain⟨a,vs,ns,rfl,rfl,hobj,hints,hlen⟩:=zjb hn hpre hwl
 refine enter_call (codeAny_mono (call w s₀ s₁ mg mb fa o pm cd doc a vs ns G Y ho (fd_plain hd) hcd hmg hobj hints hlen hg) fun r s' hq=>?_)
 obtain⟨rfl,h2,h3,h4⟩:=hq
 exact⟨.inl ⟨.bool true,.bool true,[],rfl,fun _=>rfl,.bool true,zjd l _,fun _=>⟨List.Pairwise.nil,fun _ hm=>(nomatch hm)⟩⟩,h2,h3,h4⟩
section
variable {prog:Program} {w:World} {A:Around} {E:Value→Shared→Prop} {s:Shared} {K:Frag}
def ledger(h:Heap)(L d:Addr):List (Addr × Obj):=(List.range h.objs.size).filterMap fun a=>if a=L∨a=d then none else(h.get? a).map fun o=>(a,o)
end
end Att
namespace L2
open PySem PySem.Spec PyProof.Rows
theorem zgk:∀{vs:List Value} {ns:List Int},IntsAre vs ns→zI (ns.map V.int) vs
 | _,_,.nil=>.nil
 | _,_,.cons n t h=>.cons ⟨t,rfl⟩ (zgk h)
def Only(H:Hp):Prop:=∀b,H b=none∨∃o xs,H b=some (.frz o (.lst xs))
theorem law_call{P:Program}{w:World}{K:PySem.W.Frag}{mg mb:Str→Option Value}{CX:CXT}{k:Nat}{fa a:Addr}{fd:FuncData}{x:Str}{sp:Sp}{s₁:Shared}{vs:List Value}{ns:List Int}
 (KX:K.In s₁.heap) (hns:s₁.heap.Ns mainGlobals mg) (hb:s₁.heap.Ns builtinsNs mb) (hbb:∀x:Str,x ≠ "__name__" → mb x=bootBuiltins x) (hlim:s₁.heap.NoLimit) (hg:s₁.gens = #[])
 (ha:s₁.heap.get? a=some { cls:=.type "list",data:=.seq vs.toArray }) (hi:IntsAre vs ns) (hl:ns.length≤sizeLine) (hr:Room k callerA)
 (F:∀base:Heap,K.In base→base.Ns mainGlobals mg→FnOk P w K mg base CX k fa fd [x] sp) (hbind:∀(s:Shared) (u:Value),BindsTo s fd ⟨[u],[]⟩ [(x,u)])
 (hsp:∀H:Hp,Only H→SqL K H a (ns.map V.int)→sp [.ref a] H (fun v _=>v=.bl true) fun _ _ _=>False)
 (hCX:∀H e s',CX [] H s₁ (fun _ _ _=>False) e s'→False) :
 codeAny (model P w) callerA (.call (.ref fa) ⟨[.ref a],[]⟩) (fun r s'=>r=.ok (.ret (.bool true))∧OldK s₁.heap s'.heap∧s'.os=s₁.os∧AllBare s'.gens) s₁:=by
 have rv:=zgk hi
 have lenV:=hi.length
 -- from an abstract heap in which nothing but the script may be tracked
 have core:∀H:Hp,Only H→SqL K H a (ns.map V.int)→HOk P w H s₁.heap→(∀b,H b≠none→b=a)→(H a≠none→K.lookup a=none) →
  codeAny (model P w) callerA (.call (.ref fa) ⟨[.ref a],[]⟩) (fun r s'=>r=.ok (.ret (.bool true))∧OldK s₁.heap s'.heap∧s'.os=s₁.os∧AllBare s'.gens) s₁:=by
  intro H hO hS hok hA hK
  have base_of:∀{b:Addr} {o:Obj},s₁.heap.get? b=some o→H b=none→(zg8 s₁.heap H).get? b=some o:=fun e n=>hidT_get e n
  have noA:∀{b:Addr} {o:Obj} {es:Array DictEntry} {ep:Nat},s₁.heap.get? b=some o→o.data=.dict es ep→H b=none:=fun {b o es ep} e d=>by
   cases q:H b with
   | none=>rfl
   | some u =>
     have e':b=a:=hA b (by rw[q];simp)
     subst e'
     rw[ha] at e;cases e
     have d':Data.seq vs.toArray _=Data.dict es ep:=d
     cases d'
  have nsK:∀{b:Addr} {m:Str→Option Value},s₁.heap.Ns b m→(zg8 s₁.heap H).Ns b m:=fun {b m} ⟨o,es,ep,e,d,r⟩=>⟨o,es,ep,base_of e (noA e d),d,r⟩
  have hKb:K.In (zg8 s₁.heap H):=fun b o e=>base_of (KX b o e) (by
   cases q:H b with
   | none=>rfl
   | some u =>
     have e':b=a:=hA b (by rw[q];simp)
     subst e'
     rw[hK (by rw[q];simp)] at e;cases e)
  have hM:Mod K mg (zg8 s₁.heap H):=⟨hKb,nsK hns,⟨mb,nsK hb,hbb⟩,let ⟨mc,h1,h2⟩:=hlim;⟨mc,nsK h1,h2⟩⟩
  have e0:Env0 P w K mg (zg8 s₁.heap H) callerA [] s₁ H:=⟨rfl,hM,fun b o e=>of_hidT e,Nat.le_of_eq (zjm _ _),trivial,fun b hb=>absurd (show b∈([]:List Addr)from hb) (by simp),hok,.of_eq hg⟩
  refine codeAny_mono ((F _ hKb (nsK hns)).run callerA [] s₁ H ⟨[.ref a],[]⟩ [.ref a] [.ref a] _ _ hr e0 (hbind s₁ (.ref a)) (.cons rfl .nil) (hsp H hO hS)) fun r s' h=>?_
  cases r with
  | error e=>exact(hCX H e s' h).elim
  | ok fl =>
    cases fl with
    | next=>exact False.elim h
    | brk=>exact False.elim h
    | cont=>exact False.elim h
    | ret u =>
      obtain⟨v,H',os,bare,un,hok',r',q⟩:=h
      have q':v=.bl true:=q
      subst q'
      obtain rfl:u=Value.bool true:=r'
      refine⟨rfl,OldK.of_keep fun b o e=>?_,os,bare⟩
      cases q:H b with
      | none=>exact un.keep b o e q (by intro z;exact absurd (show b∈([]:List Addr)from z) (by simp)) (by simp)
      | some u =>
        rcases hO b with z | ⟨ob,xs,z⟩
        ·rw[q] at z;cases z
        ·have z2:=un.frzs b ob _ z
         obtain⟨e1,_⟩:=hok b _ z
         obtain⟨e2,_⟩:=hok' b _ z2
         rw[e] at e1;cases e1
         exact e2
 cases hk:K.lookup a with
 | some o =>
   -- the script is one of the module's own objects
   have e:=KX a o hk
   rw[ha] at e
   cases e
   refine core (fun _=>none) (fun _=>.inl rfl) (.inr ⟨_,vs.toArray,_,hk,rfl,rfl,rfl,by rw[List.size_toArray,lenV];exact hl,by simpa using rv⟩) (fun b u z=>by have z':(none:Option HO)=some u:=z;cases z') (fun b z=>absurd rfl z) fun z=>absurd rfl z
 | none =>
   refine core (fun b=>if b=a then some (.frz { cls:=.type "list",data:=.seq vs.toArray } (.lst (ns.map V.int)))else none) (fun b=>?_) (.inl (.inr ⟨{ cls:=.type "list",data:=.seq vs.toArray },if_pos rfl⟩)) (fun b u z=>?_) (fun b z=>?_) fun _=>hk
   ·by_cases hb:b=a
    ·exact .inr ⟨_,_,if_pos hb⟩
    ·exact .inl (if_neg hb)
   ·by_cases hb:b=a
    ·have z':=(if_pos hb).symm.trans z
     cases z'
     subst hb
     exact⟨ha,by rw[List.length_map];exact hl,vs,_,rv,ha⟩
    ·have z':=(if_neg hb).symm.trans z
     cases z'
   ·by_cases hb:b=a
    ·exact hb
    ·exact absurd (if_neg hb) z
theorem walk_of{l:PySem.W.OpenLaw}{n k:Nat}{q:Program}{loose:List Str}{XP:(Str→Option Value)→Heap→Prop}{YP:World→Heap→Prop}{d:DefRec}{K:Params→PySem.W.Frag}{CX:World→CXT}{sp:World→Sp}{x:Str}
 (hn:l.most=some n) (hn2:n≤sizeLine) (hdf:d.params.defaults = []) (hr:Room k callerA)
 (hY:∀(w:World) (h:Heap),YP w h→(K w.params).In h)
 (F:∀(w:World) (mg:Str→Option Value) (fa:Addr) (h:Heap),(K w.params).In h→h.Ns mainGlobals mg→mg d.name=some (.ref fa) →
   ∃fd:FuncData,(∀(s:Shared) (u:Value),BindsTo s fd ⟨[u],[]⟩ [(x,u)]) ∧
    ∀base:Heap,(K w.params).In base→base.Ns mainGlobals mg→FnOk l.prog w (K w.params) mg base (CX w) k fa fd [x] (sp w))
 (hsp:∀(w:World) (H:Hp) (a:Addr) (ns:List Int),ns.length≤n→Only H→SqL (K w.params) H a (ns.map V.int)→sp w [.ref a] H (fun v _=>v=.bl true) fun _ _ _=>False)
 (hCX:∀(w:World) (H:Hp) (s:Shared) (e:Value) (s':Shared),CX w [] H s (fun _ _ _=>False) e s'→False) :
 PySem.W.WalkO q loose XP YP l.row.toRowW d [] (fun f vs=>PySem.call f vs):=by
 refine Att.attach_call hn hdf fun w s₀ s₁ mg mb fa o pm cd doc a vs ns G Y ho hd hcd hmg hobj hints hlen hg=>?_
 have KX:=hY w _ Y
 obtain⟨fd,hb,hF⟩:=F w mg fa _ KX G.T.g hmg
 exact law_call KX G.T.g G.T.b G.T.builtins G.T.nolimit hg hobj hints (Nat.le_trans hlen hn2) hr hF hb (fun H hO hS=>hsp w H a ns hlen hO hS) fun H e s'=>hCX w H s₁ e s'
end L2
/- THE LAST THEOREM (shape;LID,My.* are yours):
 My.Adr: a structure of the addresses that your layer names (classes,functions);My.Txt K t: a structure (Prop) of the equations over K;
 My.txt_mk:{K} {implicit addresses ..} (e1:nsIn K mainGlobals "law" = some (some (.ref f))) (e2:K.lookup f=some ⟨oc,od,.func (fnOf "law" "law" params body scope dV kV doc pm an cdv ct),sl⟩) (e3:codeIn K cdv "law" = true) .. : ∃t,My.Txt K t
(the tactic k_is has no namespace: write k_is) -/
namespace L2
open PySem PySem.Spec PyProof.Rows
def wz(s:Stmt)(j:Nat):Stmt:=match s with
 | .ClassDef _ _ _ body _ _ _ _ _ _ _=>body.getD j (.Pass ⟨0,0,0,0⟩)
 | _ => .Pass ⟨0,0,0,0⟩
def zr(s:Stmt):Arguments:=match s with
 | .FunctionDef _ a _ _ _ _ _ _ _ _=>a
 | _=>{ posonlyargs := [],args := [],vararg:=none,kwonlyargs := [],kw_defaults := [],kwarg:=none,defaults := [] }
def zp(s:Stmt):List Stmt:=match s with
 | .FunctionDef _ _ b _ _ _ _ _ _ _=>b
 | _ => []
def zc(s:Stmt):Scope:=match s with
 | .FunctionDef _ _ _ _ _ _ sc _ _ _=>sc
 | _=>{ kind:=.function,names := [],isGenerator:=false,isCoroutine:=false }
abbrev CX0:CXT:=fun _ _ _ _ _ _=>False
abbrev E0:XK:=fun _ _ _=>False
theorem pass0{X:Cx}:zgn CX0 X E0:=fun _ _ _ _ _ _ _ h=>h.elim
structure Fun (K:PySem.W.Frag) (x qual:Str) (st:Stmt) (f:Addr) (fd:FuncData):Prop where
 ex:∃(oc:Value) (od:Option Addr) (kV doc pm:Value) (an:Option Addr) (cdv ct:Value) (osl:Array (Option Value)),
  fd=PySem.W.fnOf x qual (zr st) (zp st) (zc st) .none kV doc pm an cdv ct∧K.lookup f=some ⟨oc,od,.func fd,osl⟩∧PySem.W.codeIn K cdv qual=true
 kp:PySem.W.keepIn K (.ref f)=true
section
variable {P:Program} {w:World} {K:PySem.W.Frag} {mg:Str→Option Value} {base:Heap}
theorem Fun.ok{x qual:Str}{st:Stmt}{f:Addr}{fd:FuncData}{N ps:List Str}{k:Nat}{sp:Sp}(F:Fun K x qual st f fd)(S:FnScope N ps (zc st))(len:∀vs H Q E,sp vs H Q E→vs.length=ps.length)
 (hbody:∀(cdv:Value) (A:Around) (outer:List Env) (s:Shared) (H:Hp) (vs:List V) (Q:VK) (E:XK),Room k (A.deeper (envOfC qual (zc st) s.heap.objs.size f cdv))→sp vs H Q E →
   ∃t,PSs (zb0 CX0 P w K mg base N qual (zc st) f cdv A outer s H E).nox (zp st) t∧t { nx:=fun _ H'=>Q .non H',rt:=Q } (zdB N vs) H):FnOk P w K mg base CX0 (k+1) f fd ps sp:=by
 obtain⟨oc,od,kV,doc,pm,an,cdv,ct,osl,rfl,lk,hcd⟩:=F.ex
 refine fn_of lk hcd S len fun A outer s H vs Q E hr hsp=>?_
 obtain⟨t,h,q⟩:=hbody cdv A outer s H vs Q E hr hsp
 exact⟨t,h.nox,q⟩
theorem Fun.binds{x qual:Str}{st:Stmt}{f:Addr}{fd:FuncData}{ps:List Str}(F:Fun K x qual st f fd)
 (h:∀(kV doc pm:Value) (an:Option Addr) (cdv ct:Value) (us:List Value),us.length=ps.length→bindArgs (PySem.W.fnOf x qual (zr st) (zp st) (zc st) .none kV doc pm an cdv ct) ⟨us,[]⟩=pure (ps.zip us)):zaH K fd ps []:=by
 obtain⟨oc,od,kV,doc,pm,an,cdv,ct,osl,rfl,lk,hcd⟩:=F.ex
 exact .all (h kV doc pm an cdv ct)
theorem zx{x qual:Str}{st:Stmt}{f:Addr}{oc:Value}{od an:Option Addr}{osl:Array (Option Value)}{kV doc pm cdv ct:Value}(l:K.lookup f=some ⟨oc,od,.func (PySem.W.fnOf x qual (zr st) (zp st) (zc st) .none kV doc pm an cdv ct),osl⟩)
 (c:PySem.W.codeIn K cdv qual=true) (k:PySem.W.keepIn K (.ref f)=true):Fun K x qual st f (PySem.W.fnOf x qual (zr st) (zp st) (zc st) .none kV doc pm an cdv ct):=⟨⟨oc,od,kV,doc,pm,an,cdv,ct,osl,rfl,l,c⟩,k⟩
end
theorem zfX{A:Around}{k:Nat}(hr:Room k A):A.units+1<cLine:=Nat.lt_of_le_of_lt (Nat.add_le_add_left (by decide:1≤64) _) hr.units
section
variable {X:Cx}
theorem pv(i:Nat){x:Str}{pos:Pos}(hN:X.N[i]? = some x:=by rfl)(hv:Vis X.env.scope x:=by first | exact Or.inl rfl | exact Or.inr (Or.inl rfl) | exact Or.inr (Or.inr rfl))(hd:(x==("__debug__" : Str))=false:=by decide)
 (hcd:(x==("__classdict__" : Str))=false:=by decide):PE X (.Name x pos) (tVar i):=pe_var hN hv hd hcd
end
theorem zbj{A B:Prop}(h:B):if false=true then A else B:=by
 rw[if_neg Bool.false_ne_true]
 exact h
theorem zfQ{A B:Prop}(h:A):if true=true then A else B:=by
 rw[if_pos rfl]
 exact h
def zj(H H':Hp):Prop:=∀b o,H b=some o→H' b=some o
theorem zj.refl(H:Hp):zj H H:=fun _ _ h=>h
theorem zj.trans{H H1 H2:Hp}(a:zj H H1)(b:zj H1 H2):zj H H2:=fun c o h=>b c o (a c o h)
theorem zj.free{H H':Hp}(e:zj H H'){l:Addr}(h:H' l=Option.none):H l=Option.none:=by
 cases q:H l with
 | none=>rfl
 | some o =>
   rw[e l o q] at h
   cases h
theorem zj.seq{K:PySem.W.Frag}{H H':Hp}{a:Addr}{xs:List V}(e:zj H H')(h:SqL K H a xs):SqL K H' a xs:=by
 rcases h with(h | ⟨o,h⟩) | h
 ·exact .inl (.inl (e _ _ h))
 ·exact .inl (.inr ⟨o,e _ _ h⟩)
 ·exact .inr h
theorem zcu{env:Env}:∀(l:List (Str × NameKind)) (acc:List (Str × Addr)),(∀y∈l,y.2=.free→∃c,env.cells.lookup y.1=some c)→(∀y c,acc.lookup y=some c→env.cells.lookup y=some c) →
 ∃cl,(forIn l acc fun(x:Str × NameKind) (r:List (Str × Addr))=>if(x.2==NameKind.free)=true then(do let a ← cellOf env x.1;pure (ForInStep.yield ((x.1,a)::r)))else(pure (ForInStep.yield r):Sem (ForInStep (List (Str × Addr)))))=(pure cl:Sem (List (Str × Addr))) ∧
  (∀y c,cl.lookup y=some c→env.cells.lookup y=some c)∧(∀y,((y,NameKind.free)∈l∨(acc.lookup y).isSome=true)→∃c,cl.lookup y=some c)
 | [],acc,_,ha=>⟨acc,rfl,ha,fun y h=>by
    rcases h with h | h
    ·cases h
    ·exact Option.isSome_iff_exists.mp h⟩
 | (n,k)::r,acc,h,ha=>by
   by_cases hk:k=.free
   ·subst hk
    obtain⟨c,hc⟩:=h (n,.free) List.mem_cons_self rfl
    obtain⟨cl,e,h1,h2⟩:=zcu r ((n,c)::acc) (fun y hy=>h y (List.mem_cons_of_mem _ hy)) (fun y d hd=>by
     rw[List.lookup_cons] at hd
     by_cases hy:y=n
     ·subst hy;simp at hd;subst hd;exact hc
     ·rw[beq_eq_false_iff_ne.mpr hy] at hd;exact ha y d hd)
    refine⟨cl,?_,h1,fun y hy=>h2 y ?_⟩
    ·rw[List.forIn_cons]
     have:cellOf env n=pure c:=by unfold cellOf;rw[hc]
     simp only[this]
     exact e
    ·rcases hy with hy | hy
     ·rcases List.mem_cons.mp hy with z | z
      ·have:y=n:=by injection z
       right;simp[List.lookup_cons,this]
      ·exact .inl z
     ·right
      rw[List.lookup_cons]
      split
      ·rfl
      ·exact hy
   ·obtain⟨cl,e,h1,h2⟩:=zcu r acc (fun y hy=>h y (List.mem_cons_of_mem _ hy)) ha
    refine⟨cl,?_,h1,fun y hy=>h2 y ?_⟩
    ·rw[List.forIn_cons]
     have hb:(k==NameKind.free)=false:=by simpa using hk
     simp only[hb]
     exact e
    ·rcases hy with hy | hy
     ·rcases List.mem_cons.mp hy with z | z
      ·injection z with _ z2;exact absurd z2.symm hk
      ·exact .inl z
     ·exact .inr hy
theorem zbx{env:Env}{scope:Scope}(h:∀y∈scope.names,y.2=.free→∃c,env.cells.lookup y.1=some c):
 ∃cl,closureFor scope env=pure cl∧(∀y c,cl.lookup y=some c→env.cells.lookup y=some c)∧∀y,(y,NameKind.free)∈scope.names→∃c,cl.lookup y=some c:=by
 obtain⟨cl,e,h1,h2⟩:=zcu scope.names [] h (fun y c z=>by cases z)
 refine⟨cl,?_,h1,fun y hy=>h2 y (.inl hy)⟩
 unfold closureFor
 exact(congrArg (fun(m:Sem (List (Str × Addr)))=>m >>= fun r=>pure r) e).trans rfl
theorem za9{f:Str × NameKind→Str × NameKind}(h1:∀p,(f p).1=p.1):∀{names:List (Str × NameKind)} {y:Str} {k:NameKind},(names.map f).lookup y=some k→∃k0,(y,k0)∈names∧(f (y,k0)).2=k
 | [],_,_,h=>by cases h
 | p::r,y,k,h=>by
   rw[List.map_cons] at h
   generalize hq:f p=q at h
   obtain⟨q1,q2⟩:=q
   rw[List.lookup_cons] at h
   have e1:q1=p.1:=by have:=h1 p;rw[hq] at this;exact this
   by_cases hy:y=q1
   ·have hb:(y==q1)=true:=by simp[hy]
    rw[hb] at h
    have h':q2=k:=Option.some.inj h
    refine⟨p.2,?_,?_⟩
    ·rw[hy,e1];exact List.mem_cons_self
    ·rw[hy,e1]
     have:f (p.1,p.2)=(q1,q2):=hq
     rw[this];exact h'
   ·rw[beq_eq_false_iff_ne.mpr hy] at h
    obtain⟨k0,m,e⟩:=za9 h1 (names:=r) h
    exact⟨k0,List.mem_cons_of_mem _ m,e⟩
theorem zaC{f:Str × NameKind→Str × NameKind}(h1:∀p,(f p).1=p.1):∀{names:List (Str × NameKind)} {y:Str} {k:NameKind},names.lookup y=some k→(names.map f).lookup y=some (f (y,k)).2
 | [],_,_,h=>by cases h
 | p::r,y,k,h=>by
   rw[List.map_cons]
   obtain⟨p1,p2⟩:=p
   have e1:=h1 (p1,p2)
   generalize hq:f (p1,p2)=q at e1 ⊢
   obtain⟨q1,q2⟩:=q
   have e1:q1=p1:=e1
   subst e1
   rw[List.lookup_cons] at h ⊢
   by_cases hy:y=q1
   ·have hb:(y==q1)=true:=by simp[hy]
    rw[hb] at h ⊢
    have h':p2=k:=Option.some.inj h
    subst h'
    subst hy
    show some q2=_
    rw[hq]
   ·rw[beq_eq_false_iff_ne.mpr hy] at h ⊢
    exact zaC h1 h
def rl(env:Env)(p:Str × NameKind):Str × NameKind:=if(p.2==NameKind.free && env.scope.kind == .function && env.kindOf p.1==some .cell)then(p.1,NameKind.cell)else(p.1,p.2)
theorem zfx(env:Env)(p:Str × NameKind):(rl env p).1=p.1:=by unfold rl;split <;> rfl
theorem rl_free(env:Env)(y:Str):(rl env (y,.free)).2=.cell∨(rl env (y,.free)).2=.free:=by
 unfold rl
 split
 ·exact .inl rfl
 ·exact .inr rfl
theorem zg5(env:Env)(y:Str)(k:NameKind)(h:k ≠ .free):(rl env (y,k)).2=k:=by
 unfold rl
 have hb:(k==NameKind.free)=false:=by simpa using h
 simp[hb]
theorem zaa(scope:Scope)(env:Env):(relabel scope env).names=scope.names.map (rl env):=rfl
theorem zdO{env:Env}{scope:Scope}{y:Str}(hc:∀z∈scope.names,z.2 ≠ .cell)(h:(relabel scope env).names.lookup y=some .cell∨(relabel scope env).names.lookup y=some .free):(y,NameKind.free)∈scope.names:=by
 rw[zaa] at h
 have go:∀k,(k=.cell∨k=.free)→(scope.names.map (rl env)).lookup y=some k→(y,NameKind.free)∈scope.names:=fun k hk q=>by
  obtain⟨k0,m,e⟩:=za9 (zfx env) q
  by_cases hf:k0=.free
  ·rw[hf] at m;exact m
  ·rw[zg5 env y k0 hf] at e
   rcases hk with z | z
   ·exact absurd (e.trans z) (hc _ m)
   ·exact absurd (e.trans z) hf
 rcases h with h | h
 ·exact go _ (.inl rfl) h
 ·exact go _ (.inr rfl) h
theorem zbh{env:Env}{scope:Scope}{y:Str}(h:scope.names.lookup y=some .free):(relabel scope env).names.lookup y=some .cell∨(relabel scope env).names.lookup y=some .free:=by
 rw[zaa,zaC (zfx env) h]
 rcases rl_free env y with z | z
 ·exact .inl (congrArg some z)
 ·exact .inr (congrArg some z)
def blk(X:Cx)(N:List Str)(scope:Scope)(cl:List (Str × Addr))(C:Addr)(s2:Shared)(H2:Hp)(fp:List Addr):Cx where
 prog:=X.prog
 w:=X.w
 K:=X.K
 mg:=X.mg
 base:=X.base
 A:=X.A
 N:=N
 s₀:=s2
 H₀:=H2
 env:=compEnvC scope cl C X.env
 outer:=X.stack
 stack:=X.stack
 ex:=fp
 fn:=fun _=>false
 calm:=X.calm
 pn := []
 xe:=fun _ _=>False
structure CompScope (sc:Scope) (N:List Str) (x:Str) (fr:List Str) (ix:List Nat) (scope:Scope):Prop where
 kind:scope.kind=.function
 nocell:∀y∈scope.names,y.2 ≠ .cell
 lcl:∀y∈scope.names,y.2=.local→scope.names.lookup y.1=some .local
 lx:scope.names.lookup x=some .local
 free:∀y∈scope.names,y.2=.free→sc.names.lookup y.1=some .cell∨sc.names.lookup y.1=some .free
 at':fr.map some=ix.map fun i=>N[i]?
 frk:∀y∈fr,scope.names.lookup y=some .free∧(sc.names.lookup y=some .cell∨sc.names.lookup y=some .free)
 nd:(x::fr).Nodup
def cap(ix:List Nat)(σ:St):St:=ix.map fun i=>(σ[i]?).join
section
variable {X:Cx} {pins:List (Addr × Obj)} {σ:St} {H:Hp} {s:Shared} {x:Str} {fr:List Str} {ix:List Nat} {scope:Scope} {cl:List (Str × Addr)} {fp:List Addr} {C D:Addr}
theorem blk_ok(S:CompScope X.env.scope X.N x fr ix scope)(I:Inv X pins σ H s)(hf:∀b∈fp,zab X pins H b)(hfo:∀b∈fp,b<s.heap.objs.size)(hC:s.heap.objs.size≤C)
 (h1:∀y c,cl.lookup y=some c→X.env.cells.lookup y=some c) (h2:∀y,(y,NameKind.free)∈scope.names→∃c,cl.lookup y=some c):(blk X (x::fr) scope cl C s H fp).Ok where
 mod:=I.ok.mod
 kind:=S.kind
 glob:=I.ok.glob
 blt:=I.ok.blt
 above:=hC
 inj:=fun y z c a b=>I.ok.inj y z c (h1 y c a) (h1 z c b)
 has:=fun y hy=>h2 y (zdO (env:=X.env) (scope:=scope) S.nocell hy)
 cab:=fun y c h _=>Bool.noConfusion (show false=true from h)
 hd:=I.ok.hd
 frames:=I.ok.frames
 stk:=.inl rfl
 exf:=fun b hb=>⟨fun z=>absurd (hfo b hb) (by rw[z];exact Nat.not_lt.mpr hC),fun y c e=>(hf b hb).2.2.2.2.1 y c (h1 y c e)⟩
 bs:=I.bs
 bsz:=Nat.le_trans I.ok.bsz I.sz
 noex:=fun b o e hb=>by
  rcases (hf b hb).2.2.2.1 with z | z
  ·exact I.ok.noex b o e z
  ·exact absurd (Nat.lt_of_lt_of_le (Heap.lt_size e) (Nat.le_trans I.ok.bsz z)) (Nat.lt_irrefl _)
 exfs:=fun b hb z=>by
  rcases List.mem_cons.mp (I.stkSub b z)with e | e
  ·exact(hf b hb).2.1 e
  ·exact(hf b hb).2.2.1 e
 funs:=I.stack
 frf:=I.stkFree
theorem zgw:(cap ix σ).length=ix.length:=by unfold cap;rw[List.length_map]
theorem CompScope.len(S:CompScope X.env.scope X.N x fr ix scope):fr.length=ix.length:=by have:=congrArg List.length S.at';simpa using this
theorem blk_inv{s':Shared}{pn:List (Addr × Obj)}{m:Str→Option Value}(S:CompScope X.env.scope X.N x fr ix scope)(I:Inv X pins σ H s)(hf:∀b∈fp,zab X pins H b)(hfo:∀b∈fp,b<s.heap.objs.size)(hC:s.heap.objs.size≤C)
 (h1:∀y c,cl.lookup y=some c→X.env.cells.lookup y=some c) (h2:∀y,(y,NameKind.free)∈scope.names→∃c,cl.lookup y=some c)
 (ho:s'.os=s.os) (hg:s'.gens=s.gens) (k:∀b o,s.heap.get? b=some o→s'.heap.get? b=some o) (hn:s'.heap.Ns C m)
 (hp:∀p∈pn,s'.heap.get? p.1=some p.2∧s.heap.objs.size≤p.1∧p.1≠C∧∀v,p.2.data ≠ .cell v) :
 Inv (blk X (x::fr) scope cl C s H fp) pn (none::cap ix σ) H s':=by
 obtain⟨mX,hnX,hlX⟩:=I.loc
 refine⟨blk_ok S I hf hfo hC h1 h2,ho,by rw[hg];exact I.bare,Un.kept k,⟨m,hn,fun i y v e1 e2 e3=>?_⟩,fun y c e=>?_,I.hok.fresh hC,fun y c e=>I.freeC y c (h1 y c e),fun p hp'=>?_,I.hok.kept k,by
  show(none::cap ix σ).length=(x::fr).length
  simp[zgw,S.len]⟩
 ·cases i with
  | zero=>cases e2
  | succ j =>
    have e1':fr[j]? = some y:=e1
    have e2':(cap ix σ)[j]? = some (some v):=e2
    obtain⟨f1,f2⟩:=S.frk y (List.mem_of_getElem? e1')
    unfold cap at e2'
    rw[List.getElem?_map] at e2'
    cases ei:ix[j]? with
    | none=>rw[ei] at e2';cases e2'
    | some i =>
      rw[ei] at e2'
      have e3':(σ[i]?).join=some v:=Option.some.inj e2'
      have e4:σ[i]? = some (some v):=by
       cases q:σ[i]? with
       | none=>rw[q] at e3';cases e3'
       | some w=>rw[q] at e3';have:w=some v:=e3';rw[this]
      have e5:X.N[i]? = some y:=by
       have:=congrArg (fun l=>l[j]?) S.at'
       simp only[List.getElem?_map,e1',ei] at this
       simpa using this.symm
      have vis:Vis X.env.scope y:=by
       rcases f2 with z | z
       ·exact .inr (.inl z)
       ·exact .inr (.inr z)
      obtain⟨u,r,l⟩:=hlX i y v e5 e4 vis
      refine⟨u,r,.inr ⟨zbh f1,?_⟩⟩
      rcases l with⟨z,_⟩ | ⟨_,c,ec,hc⟩
      ·rcases f2 with q | q
       ·have q':=(show X.env.scope.names.lookup y=some .local from z).symm.trans q;cases q'
       ·have q':=(show X.env.scope.names.lookup y=some .local from z).symm.trans q;cases q'
      ·obtain⟨c',hc'⟩:=h2 y (PySem.mem_of_lookup f1)
       have:c'=c:=by have:=h1 y c' hc';rw[ec] at this;exact(Option.some.inj this).symm
       subst this
       refine⟨c',hc',?_⟩
       obtain⟨o,ho',hd⟩:=hc
       exact⟨o,k _ _ ho',hd⟩
 ·obtain⟨v,o,ho',hd⟩:=I.cell y c (h1 y c e)
  exact⟨v,o,k _ _ ho',hd⟩
 ·have hp'':p∈pn:=by simpa [blk] using hp'
  obtain⟨q1,q2,q3,q4⟩:=hp p hp''
  refine⟨q1,I.hok.fresh q2,q3,fun z=>?_,q4⟩
  obtain⟨_,o,ho',_⟩:=I.stack.mem z
  exact absurd (Nat.lt_of_lt_of_le (Heap.lt_size ho') q2) (Nat.lt_irrefl _)
end
def PIf(X:Cx)(ifs:List Expr)(t:TT):Prop :=
 ∀(pins:List (Addr × Obj)) (s:Shared) (σ:St) (H:Hp) (Q:Bool→Hp→Prop),Inv X pins σ H s→t σ H Q →
  wpAny (model X.prog X.w) X.A (forIn ifs true fun c r=>if r=true then do let ok ← isTrue c X.env (eval c X.env);pure (ForInStep.yield ok)else pure (ForInStep.yield r)) (TP X pins σ Q) X.xe s
def zhM:TT:=fun _ H Q=>Q true H
theorem wf{X:Cx}:PIf X [] zhM:=fun _ _ _ H _ I h=>wpAny_tests_nil ⟨H,I,h⟩
theorem zaT{X:Cx}{c:Expr}{t:TT}(h:PT X c t):PIf X [c] t:=fun pins s σ H Q I q=>wpAny_tests_one (h pins s σ H Q I q)
def zcv(J:It)(c:St)(tc:TT)(te:TE)(H1:Hp)(fin:List V→Hp→Prop):Prop :=
 ∃W:Nat→Nat→List V→Hp→Prop,(∃m,W 0 m [] H1)∧∀i m ys H,W i m ys H →
  (J.stop i H∧ys.length≤sizeLine∧fin ys H) ∨
  (J.go i H∧ys.length<sizeLine∧∃N:List V→Hp→Prop,(∀ys' H',N ys' H'→∃m',m'<m∧W (i+1) m' ys' H')∧∀x H',J.yld i H x H'→tc (some x::c) H' fun b H2=>if b=true then te (some x::c) H2 fun y H3=>N (ys ++ [y]) H3 else N ys H2)
def tComp(ix:List Nat)(wi:TI)(tc:TT)(te:TE):TE:=fun σ H Q=>wi σ H fun J H1=>zcv J (cap ix σ) tc te H1 fun ys H2=>∀l,H2 l=none→Q (.ref l) (upd H2 l (.lst ys))
theorem zcr{prog:Program}{w:World}{A:Around}{R:Result→Shared→Prop}{s:Shared}{elt tg it0:Expr}{tests:List Expr}{scope:Scope}{pos:Pos}{it acc:Value}{env:Env}(J:Nat→Shared→Prop)
 (wR:∀n s,J n s→wpAny (model prog w) A (pyNext it) (fun r s1=>match r with
   | none=>R (.ok .next) s1
   | some v=>wpAny (model prog w) A (letOwnedTupleGo tg it v) (fun _ s2=>wpAny (model prog w) A (assign tg env v) (fun _ s3 =>
      wpAny (model prog w) A (forIn tests true fun c r=>if r=true then do let ok ← isTrue c env (eval c env);pure (ForInStep.yield ok)else pure (ForInStep.yield r)) (fun ok s4 =>
       if ok=true then wpAny (model prog w) A (eval elt env) (fun x s5 =>
        wpAny (model prog w) A (call (.builtin "list.append") [acc,x]) (fun _ s6=>∃m,m<n∧J m s6) (fun _ _=>False) s5) (fun _ _=>False) s4
       else ∃m,m<n∧J m s4) (fun _ _=>False) s3) (fun _ _=>False) s2) (fun _ _=>False) s1) (fun _ _=>False) s)
 (n:Nat) (h:J n s):codeAny (model prog w) A (.compLoop (.ListComp elt [⟨tg,it0,tests,0⟩] scope pos) 0 it acc env) R s:=by
 have up:∀{α:Type} {t:Sem α} {q q':α→Shared→Prop} {E':Value→Shared→Prop} {s:Shared},wpAny (model prog w) A t q (fun _ _=>False) s→(∀a s,q a s→q' a s)→wpAny (model prog w) A t q' E' s:=fun h k=>wpAny_mono h k fun _ _ z=>False.elim z
 refine codeAny_loop rfl J (fun n s hJ=>?_) n h
 show wpAny _ A ((compTurn (.ListComp elt [⟨tg,it0,tests,0⟩] scope pos) 0 it acc env).onRaise (fun x=>do noteFrame x env;theTreesLotGoes x)) _ _ s
 refine wpAny_noted ?_
 rw[compTurn_list]
 refine wpAny_bind (wpAny_standAt (wpAny_bind (up (wR n s hJ) fun r s1 h1=>?_)))
 cases r with
 | none=>exact wpAny_pure h1
 | some v =>
   refine wpAny_bind (up h1 fun _ s2 h2=>wpAny_bind (up h2 fun _ s3 h3=>wpAny_bind (up h3 fun ok s4 h4=>?_)))
   cases ok with
   | false=>exact wpAny_pure ⟨rfl,h4⟩
   | true =>
     exact wpAny_bind (wpAny_bind (up h4 fun x s5 h5=>wpAny_bind (up h5 fun _ s6 h6=>wpAny_pure (wpAny_pure ⟨rfl,h6⟩))))
section
variable {X:Cx} {x:Str} {fr:List Str} {ix:List Nat} {scope:Scope} {elt iter:Expr} {ifs:List Expr} {px pos:Pos} {wi:TI} {tc:TT} {te:TE}
theorem zhp{use:Option (Value→Sem Unit)}{Q:Value→Shared→Prop}{pins:List (Addr × Obj)}{s2:Shared}{σ:St}{H2:Hp}{it:Addr}{fp:List Addr}{tn:Nat→Heap→Prop}{J:It}{cl:List (Str × Addr)}(S:CompScope X.env.scope X.N x fr ix scope)(hc:X.calm=true)
 (hif:∀cl C s2 H2 fp,PIf (blk X (x::fr) scope cl C s2 H2 fp) ifs tc) (he:∀cl C s2 H2 fp,PE (blk X (x::fr) scope cl C s2 H2 fp) elt te)
 (h1:∀y c,cl.lookup y=some c→X.env.cells.lookup y=some c) (h2:∀y,(y,NameKind.free)∈scope.names→∃c,cl.lookup y=some c)
 (I2:Inv X pins σ H2 s2) (T:Turn X.prog X.w X.K (.Name x px) J fp it tn) (st2:tn 0 s2.heap) (f2:∀b∈fp,zab X pins H2 b) {fin:List V→Hp→Prop} (wc:zcv J (cap ix σ) tc te H2 fin)
 (hQ:∀(D C:Addr) (ys:List V) (H':Hp) (s':Shared) (m:Str→Option Value),Inv X pins σ (upd H' D (.lst ys)) s'→H' D=none→s'.heap.Ns C m→D≠C→s2.heap.objs.size≤C→H' C=none→fin ys H' →
   compPost (model X.prog X.w) X.A X.xe use Q (.ref D) C (.ok .next) s') :
 wpAny (model X.prog X.w) X.A (newList []) (fun acc s₃=>wpAny (model X.prog X.w) X.A (newFunctionEnv scope X.env.globals cl [] X.env.qual none .none (some X.env)) (fun cenv s₄ =>
  codeAny (model X.prog X.w) X.A (.compStart (.ListComp elt [⟨.Name x px,iter,ifs,0⟩] scope pos) 0 (.ref it) acc { cenv with scope:=relabel scope X.env }) (compPost (model X.prog X.w) X.A X.xe use Q acc cenv.locals) s₄) X.xe s₃) X.xe s2:=by
 have hfo:∀b∈fp,b<s2.heap.objs.size:=fun b hb=>by
  obtain⟨o,e,_⟩:=T.obj 0 _ st2 b hb
  exact Heap.lt_size e
 refine wpAny_newObj_type (wpAny_newFunctionEnv S.nocell (by intro y hy;simp at hy) (fun h₁ hns₁ hsb₁=>?_) S.kind)
 dsimp only at hns₁ hsb₁ ⊢
 generalize hHp:s2.heap.push { cls:=.type "list",dict:=none,data:=.seq ([]:List Value).toArray }=Hp2 at hns₁ hsb₁ ⊢
 have hCs:Hp2.objs.size=s2.heap.objs.size+1:=by rw[← hHp,Heap.size_push]
 have hDC:s2.heap.objs.size≠Hp2.objs.size:=by rw[hCs];exact Nat.ne_of_lt (Nat.lt_succ_self _)
 have hCle:s2.heap.objs.size≤Hp2.objs.size:=by rw[hCs];exact Nat.le_succ _
 have zc6:∀b,b<s2.heap.objs.size→b≠Hp2.objs.size:=fun b hb=>by rw[hCs];exact Nat.ne_of_lt (Nat.lt_succ_of_lt hb)
 have old:∀b o,s2.heap.get? b=some o→h₁.get? b=some o:=fun b o e=>hsb₁.extBut b o (zc6 b (Heap.lt_size e)) (Heap.get?_push_of_some _ (hHp ▸ Heap.get?_push_of_some _ e))
 have hacc:h₁.get? s2.heap.objs.size=some { cls:=.type "list",data:=.seq ([]:List Value).toArray 0 }:=hsb₁.extBut _ _ hDC (Heap.get?_push_of_some _ (hHp ▸ Heap.get?_push_size _ rfl))
 have st1:tn 0 h₁:=T.keep 0 _ _ st2 fun b _ o e=>old b o e
 have fpD:∀b∈fp,b≠s2.heap.objs.size:=fun b hb=>Nat.ne_of_lt (hfo b hb)
 generalize hD:s2.heap.objs.size=D at hacc hDC fpD ⊢
 have hDle:s2.heap.objs.size≤D:=Nat.le_of_eq hD
 generalize hC:Hp2.objs.size=C at hns₁ hsb₁ hDC hCle ⊢
 have oldD:∀b o,s2.heap.get? b=some o→b≠D:=fun b o e z=>absurd (Heap.lt_size e) (by rw[z,← hD];exact Nat.lt_irrefl _)
 obtain⟨W,⟨m0,w0⟩,wR⟩:=wc
 have loop:∀s₃:Shared,s₃={ s2 with heap:=h₁,toks:=s2.toks+([]:List (Str × Value)).length } →
  codeAny (model X.prog X.w) X.A (.compLoop (.ListComp elt [⟨.Name x px,iter,ifs,0⟩] scope pos) 0 (.ref it) (.ref D) (compEnvC scope cl C X.env))
   (compPost (model X.prog X.w) X.A X.xe use Q (.ref D) C) s₃:=by
  rintro s₃ rfl
  have I0:Inv (blk X (x::fr) scope cl C s2 H2 fp) [(D,{ cls:=.type "list",data:=.seq ([]:List Value).toArray 0 })] (none::cap ix σ) H2 { s2 with heap:=h₁,toks:=s2.toks+([]:List (Str × Value)).length } :=
   blk_inv S I2 f2 hfo hCle h1 h2 rfl rfl old hns₁ (fun p hp=>by
    have e:p=(D,{ cls:=.type "list",data:=.seq ([]:List Value).toArray 0 }):=by simpa using hp
    subst e
    exact⟨hacc,hDle,hDC,fun v z=>by cases z⟩)
  have stat:∀{its:Obj} {H':Hp},(∀b∈fp,H' b=none)→∀b∈fp,zab (blk X (x::fr) scope cl C s2 H2 fp) [(D,its)] H' b:=fun {its H'} hn b hb=>by
   refine⟨hn b hb,fun z=>?_,fun z=>(I0.ok.exfs b hb z),.inl hb,fun y c e=>(I0.ok.exf b hb).2 y c e,fun p hp z=>?_⟩
   ·exact(I0.ok.exf b hb).1 z
   ·have e:p=(D,its):=by simpa [blk] using hp
    subst e
    exact fpD b hb (Eq.symm z)
  refine zcr (env:=compEnvC scope cl C X.env)
   (fun n s'=>∃i ys its k v0 H',zI ys its∧Inv (blk X (x::fr) scope cl C s2 H2 fp) [(D,{ cls:=.type "list",data:=.seq its.toArray k })] (v0::cap ix σ) H' s'∧tn i s'.heap∧(∀b∈fp,H' b=none)∧W i n ys H') ?_ m0
   ⟨0,[],[],0,none,H2,.nil,I0,st1,fun b hb=>(f2 b hb).1,w0⟩
  rintro n s3 ⟨i,ys,its,k,v0,H3,rv,I3,st3,fr3,w3⟩
  rcases wR i n ys H3 w3 with⟨stop,hz,hfin⟩ | ⟨go,hz,N,hN,step⟩
  ·refine thn (T.done (blk X (x::fr) scope cl C s2 H2 fp) rfl rfl rfl hc i _ s3 _ H3 _ I3 (stat fr3) st3 stop) fun r s4 ⟨hr,I4⟩=>?_
   subst hr
   have pD:=I4.pin (D,{ cls:=.type "list",data:=.seq its.toArray k }) (by simp[blk])
   obtain⟨mC,hnC,_⟩:=I4.loc
   have hH3D:H3 D=none:=pD.2.1
   have hok':HOk X.prog X.w (upd H3 D (.lst ys)) s4.heap:=fun b u e=>by
    by_cases hb:b=D
    ·subst hb
     rw[ze] at e;cases e
     exact⟨hz,its,k,rv,pD.1⟩
    ·rw[zi hb] at e
     exact(I4.hok b u e).stay (fun c v _ q=>q) (fun c q=>by rw[zi (zk q hH3D)];exact q) fun c xs q=>by rw[zi (zk q hH3D)];exact q
   have b4:Un (frs X.stack) fp H2 H3 s2.heap s4.heap:=I4.base
   have un:Un (frs X.stack) fp H2 (upd H3 D (.lst ys)) s2.heap s4.heap :=
    ⟨b4.keep,b4.slot,fun b o q n hx=>by
     rw[zi (oldD b o q)];exact b4.free b o q n hx,b4.there,fun b xs q=>by rw[zi (zk (b4.tups b xs q) hH3D)];exact b4.tups b xs q,
     fun b o u q=>by rw[zi (zk (b4.frzs b o u q) hH3D)];exact b4.frzs b o u q,fun b ps q=>by
      obtain⟨more,e⟩:=b4.tbls b ps q
      exact⟨more,by rw[zi (zk e hH3D)];exact e⟩⟩
   have I5:Inv X pins σ (upd H3 D (.lst ys)) s4:=I2.call' (ch:=fp) I4.os un hok' I4.bare fun b hb=>by
    obtain⟨g0,g1,g2,g3,g4,g5⟩:=f2 b hb
    exact⟨g3,g1,g4,g5⟩
   exact hQ D C ys H3 s4 mC I5 hH3D hnC hDC hCle I4.free hfin
  ·refine thn (T.item (blk X (x::fr) scope cl C s2 H2 fp) rfl rfl rfl hc i _ s3 _ H3 _ I3 (stat fr3) st3 go) fun r s4 ⟨u,hr,h4⟩=>?_
   subst hr
   refine thn h4 fun _ s5 ⟨y,H5,I5,r5,y5,st5,fr5⟩=>?_
   have I5':=I5.pinned (stat fr5) (T.obj _ _ st5)
   have pg:PG (blk X (x::fr) scope cl C s2 H2 fp) (.Name x px) (zdr 0):=yR S.nd rfl (.inl (lookup_relabel_local S.lx)) (.inr (lookup_relabel_local S.lx))
   refine thn (pg _ s5 _ H5 y u (fun σ6 H6=>σ6=some y::cap ix σ∧H6=H5) I5' r5 ⟨rfl,rfl⟩) fun _ s6 ⟨σ6,H6,I6,e6,e6'⟩=>?_
   subst e6 e6'
   refine thn (hif cl C s2 H2 fp _ s6 _ _ _ I6 (step y _ y5)) fun b s7 ⟨H7,I7,q7⟩=>?_
   have again:∀{s8:Shared} {H8:Hp} {its':List Value} {k':Nat} {ys':List V},zI ys' its'→Inv (blk X (x::fr) scope cl C s2 H2 fp) [(D,{ cls:=.type "list",data:=.seq its'.toArray k' })] (some y::cap ix σ) H8 s8→(∀b∈fp,∀o,s5.heap.get? b=some o→s8.heap.get? b=some o)→(∀b∈fp,H8 b=none)→N ys' H8 →
    ∃m,m<n∧∃i ys its k v0 H',zI ys its∧Inv (blk X (x::fr) scope cl C s2 H2 fp) [(D,{ cls:=.type "list",data:=.seq its.toArray k })] (v0::cap ix σ) H' s8∧tn i s8.heap∧(∀b∈fp,H' b=none)∧W i m ys H' :=
    fun {s8 H8 its' k' ys'} rv8 I8 kp fr8 nn=>let ⟨m',hm,w8⟩:=hN ys' H8 nn;⟨m',hm,i+1,ys',its',k',some y,H8,rv8,I8,T.keep _ _ _ st5 kp,fr8,w8⟩
   cases b with
   | false =>
     rw[if_neg Bool.false_ne_true] at q7 ⊢
     refine again rv I7.unpinned (fun b hb o e=>(I7.pin (b,o) (by simp[blk];exact .inr (yC hb e))).1) (fun b hb=>?_) q7
     obtain⟨o,e,d⟩:=T.obj _ _ st5 b hb
     exact(I7.pin (b,o) (by simp[blk];exact .inr (yC hb e))).2.1
   | true =>
     rw[if_pos rfl] at q7 ⊢
     refine thn (he cl C s2 H2 fp _ s7 _ _ _ I7 q7) fun v s8 ⟨z,H8,I8,r8,q8⟩=>?_
     have pD:=I8.pin (D,{ cls:=.type "list",data:=.seq its.toArray k }) (by simp[blk])
     have hvl:ys.length=its.length:=rv.length
     refine append_at (hsz:=by show its.toArray.size≤sizeLine;rw[List.size_toArray];omega) pD.1 fun h₉ hs₉ hD₉=>?_
     have eo:({ cls:=.type "list",data:=.seq (its.toArray.push v) (k+1) }:Obj)={ cls:=.type "list",data:=.seq (its ++ [v]).toArray (k+1) }:=by rw[List.push_toArray]
     rw[eo] at hD₉
     have pn8:∀b∈fp,∀o,s5.heap.get? b=some o→s8.heap.get? b=some o∧H8 b=none:=fun b hb o e=>by
      have q:=I8.pin (b,o) (by simp[blk];exact .inr (yC hb e))
      exact⟨q.1,q.2.1⟩
     have J8:=I8.unpinned.pins_of (pins' := []) (fun p hp=>by cases hp)
     have f2D:zab (blk X (x::fr) scope cl C s2 H2 fp) [] H8 D:=⟨pD.2.1,pD.2.2.1,pD.2.2.2.1,.inr hDle,fun y c e z=>by
      obtain⟨v,o,ho,_⟩:=I2.cell y c (h1 y c e)
      exact oldD c o ho z,fun p hp=>by cases hp⟩
     have I9:Inv (blk X (x::fr) scope cl C s2 H2 fp) [] (some y::cap ix σ) H8 { s8 with heap:=h₉ }:=J8.turned (t':=s8.toks) (it:=D) (fun b o hb e=>(hs₉.2 b hb).trans e) f2D.1 f2D.2.1 f2D.2.2.2.1 f2D.2.2.2.2.1 f2D.2.2.2.2.2
     refine again (its':=its ++ [v]) (k':=k+1) (ys':=ys ++ [z]) (rv.append (.cons r8 .nil)) (I9.pins_of fun p hp=>?_) (fun b hb o e=>(hs₉.2 b (fpD b hb)).trans (pn8 b hb o e).1) (fun b hb=>?_) q8
     ·have e:p=(D,{ cls:=.type "list",data:=.seq (its ++ [v]).toArray (k+1) }):=by simpa using hp
      subst e
      exact⟨hD₉,f2D.1,f2D.2.1,f2D.2.2.1,fun v z=>by cases z⟩
     ·obtain⟨o,e,d⟩:=T.obj _ _ st5 b hb
      exact(pn8 b hb o e).2
 exact codeAny_compStart_list (loop _ rfl) (T.self X.A 0 _ _ _ st1 (loop _ rfl))
theorem ye(S:CompScope X.env.scope X.N x fr ix scope)(hc:X.calm=true)(hi:PI X (.Name x px) iter wi)(hif:∀cl C s2 H2 fp,PIf (blk X (x::fr) scope cl C s2 H2 fp) ifs tc)(he:∀cl C s2 H2 fp,PE (blk X (x::fr) scope cl C s2 H2 fp) elt te)
 (hs:∀x,foldedSetIterable iter X.env x=pure x:=by intro _;rfl):PE X (.ListComp elt [⟨.Name x px,iter,ifs,0⟩] scope pos) (tComp ix wi tc te):=by
 intro pins s σ H Q I h
 obtain⟨cl,ecl,h1,h2⟩:=zbx (env:=X.env) (scope:=scope) fun y hy hf=>I.ok.has y.1 (S.free y hy hf)
 rw[eval_ListComp]
 refine wpAny_comprehension_free (use:=none) rfl hs ecl S.kind S.lcl (thn (hi pins s σ H _ I h) fun xv s1 q1=>thn q1 fun itv s2 q2=>?_)
 obtain⟨it,fp,tn,J,H2,rfl,I2,T,st2,f2,wc⟩:=q2
 refine zhp S hc hif he h1 h2 I2 T st2 f2 wc fun D C ys H' s' m I' hD hn hDC hC hHC fin=>?_
 refine⟨m,hn,fun h' sb=>⟨.ref D,upd H' D (.lst ys),?_,rfl,fin D hD⟩⟩
 have hcf:zab X pins (upd H' D (.lst ys)) C:=by
  have z:=I2.fpOk (H':=upd H' D (.lst ys)) hC (by rw[zi (Ne.symm hDC)];exact hHC)
  exact z
 exact I'.turned (t':=s'.toks) (it:=C) (fun b o hb e=>(sb.2 b hb).trans e) hcf.1 hcf.2.1 hcf.2.2.2.1 hcf.2.2.2.2.1 hcf.2.2.2.2.2
theorem zaJ{i:Nat}{y:Str}{py spos:Pos}(S:CompScope X.env.scope X.N x fr ix scope)(hc:X.calm=true)(hN:X.N.Nodup)(hiy:X.N[i]? = some y)(hy:Loc X.env.scope y)(hi:PI X (.Name x px) iter wi)(hif:∀cl C s2 H2 fp,PIf (blk X (x::fr) scope cl C s2 H2 fp) ifs tc)(he:∀cl C s2 H2 fp,PE (blk X (x::fr) scope cl C s2 H2 fp) elt te)
 (hsw:swapsWith (.ListComp elt [⟨.Name x px,iter,ifs,0⟩] scope pos) (some (.Name y py)) spos.line X.env=pure true:=by rfl)
 (hf:X.fn y=true∨X.env.scope.names.lookup y=some .local:=by first | exact .inl rfl | exact .inr rfl | assumption)
 (hs:∀x,foldedSetIterable iter X.env x=pure x:=by intro _;rfl) :
 PS X (.Assign [.Name y py] (.ListComp elt [⟨.Name x px,iter,ifs,0⟩] scope pos) spos) (tAsg (tComp ix wi tc te) (zdr i)):=by
 intro pins s σ H Dn I h
 obtain⟨cl,ecl,h1,h2⟩:=zbx (env:=X.env) (scope:=scope) fun y hy hf=>I.ok.has y.1 (S.free y hy hf)
 rw[exec_Assign_Name_used _ _ _ _ hsw]
 refine wpAny_bind (wpAny_standAt (wpAny_bind ?_))
 show wpAny _ X.A (do let _ ← comprehension (.ListComp elt [⟨.Name x px,iter,ifs,0⟩] scope pos) scope X.env _ (newList []) false (eval iter X.env) (some (assign (.Name y py) X.env))) _ _ s
 refine wpAny_bind (thn (Q:=fun _ s'=>SP X pins Dn .next s') ?_ fun _ s' q=>wpAny_pure (wpAny_pure q))
 refine wpAny_comprehension_free (use:=some (assign (.Name y py) X.env)) rfl hs ecl S.kind S.lcl (thn (hi pins s σ H _ I h) fun xv s1 q1=>thn q1 fun itv s2 q2=>?_)
 obtain⟨it,fp,tn,J,H2,rfl,I2,T,st2,f2,wc⟩:=q2
 refine zhp S hc hif he h1 h2 I2 T st2 f2 wc fun D C ys H' s' m I' hD hn hDC hC hHC fin=>?_
 have hcf:zab X pins (upd H' D (.lst ys)) C:=I2.fpOk (H':=upd H' D (.lst ys)) hC (by rw[zi (Ne.symm hDC)];exact hHC)
 show wpAny _ X.A (assign (.Name y py) X.env (.ref D)) _ _ s'
 refine wpAny_assign_Name (zea (v:=V.ref D) I' hN hiy hy rfl (fun s'' I'' hsb=>?_) hf)
 obtain⟨a,sb,ha⟩:=hsb
 have hCa:C≠a:=fun z=>by
  rcases ha with q | q
  ·exact hcf.2.1 (z.trans q)
  ·exact hcf.2.2.2.2.1 y a q z.symm
 refine⟨m,hn.sameBut sb hCa,fun h' sb'=>⟨_,_,I''.turned (t':=s''.toks) (it:=C) (fun b o hb e=>(sb'.2 b hb).trans e) hcf.1 hcf.2.1 hcf.2.2.2.1 hcf.2.2.2.2.1 hcf.2.2.2.2.2,fin D hD⟩⟩
end
section
variable {X:Cx}
def ixV(xs:List V)(y:V):Nat:=xs.findIdx fun z=>eqV z y
theorem zhP{x:V}:∀{xs:List V} {us:List Value},zI xs us→xs.all wU=true→us.findIdx (eqU x)=xs.findIdx fun y=>eqV y x
 | _,_,.nil,_=>rfl
 | y::xs,u::us,.cons r t,f=>by
   rw[List.all_cons,Bool.and_eq_true] at f
   rw[List.findIdx_cons,List.findIdx_cons,zgy r f.1,zhP t f.2]
theorem zf3{x:V}:∀{xs:List V} {us:List Value},zI xs us→xs.all wU=true→us.countP (eqU x)=xs.countP fun y=>eqV y x
 | _,_,.nil,_=>rfl
 | y::xs,u::us,.cons r t,f=>by
   rw[List.all_cons,Bool.and_eq_true] at f
   rw[List.countP_cons,List.countP_cons,zgy r f.1,zf3 t f.2]
def rIndex(K:PySem.W.Frag):V→List V→Hp→VK→Prop:=fun x vs H Q=>∃l xs y,x=.ref l∧vs = [y]∧SqL K H l xs∧wU y=true∧xs.all wU=true∧ixV xs y<xs.length∧Q (.int (ixV xs y:Nat)) H
theorem ziu:(sizeLine:Int)<2 ^ 63 - 1:=by decide
theorem zb1:MtM X "list.index" (rIndex X.K):=by
 intro pins s σ H x vs v us Q I rx rv h
 obtain⟨l,xs,y,rfl,rfl,hH,fy,fs,hj,q⟩:=h
 cases rx
 obtain⟨u,rfl,ru⟩:=rv.one
 obtain⟨its,r,⟨⟨oc,od,dt,sl⟩,n,e,c1,c2,c3⟩,z⟩:=I.list hH
 simp only at c1 c2 c3
 subst c1 c2 c3
 have hl:=r.length
 have ef:=zhP (x:=y) r fs
 have hj':its.findIdx (eqU y)<its.length:=by rw[ef,← hl];exact hj
 refine call_meets F.slot_list_index ⟨_,e,rfl⟩ F.entry_list_index (F.args_list_index_2 _ _)
  (SeqAt.list_indexAt l its.toArray n none sl u (eqU y) (its.findIdx (eqU y)) (by simpa using hj') (by have:=ziu;omega) (by simpa using List.findIdx_getElem (w:=hj')) (fun m hm hlt=>by simpa using List.not_of_lt_findIdx hlt)) ⟨e,fun w hw=>zbu ru fy r fs w (by simpa using hw),?_⟩
 refine⟨.int (ixV xs y:Nat),H,I.tok _,⟨s.toks,?_⟩,q⟩
 rw[ef];rfl
def rCount(K:PySem.W.Frag):V→List V→Hp→VK→Prop:=fun x vs H Q=>∃l xs y,x=.ref l∧vs = [y]∧SqL K H l xs∧wU y=true∧xs.all wU=true∧Q (.int (xs.countP (fun z=>eqV z y):Nat)) H
theorem mt_count:MtM X "list.count" (rCount X.K):=by
 intro pins s σ H x vs v us Q I rx rv h
 obtain⟨l,xs,y,rfl,rfl,hH,fy,fs,q⟩:=h
 cases rx
 obtain⟨u,rfl,ru⟩:=rv.one
 obtain⟨its,r,⟨⟨oc,od,dt,sl⟩,n,e,c1,c2,c3⟩,z⟩:=I.list hH
 simp only at c1 c2 c3
 subst c1 c2 c3
 refine call_meets F.slot_list_count ⟨_,e,rfl⟩ F.entry_list_count (F.args_list_count_2 _ _)
  (SeqAt.list_countAt l its.toArray n none sl u (eqU y)) ⟨e,fun w hw=>zbu ru fy r fs w (by simpa using hw),?_⟩
 refine⟨.int (xs.countP (fun z=>eqV z y):Nat),H,I.tok _,⟨s.toks,?_⟩,q⟩
 show Value.int ((its.countP (eqU y):Nat):Int) _=_
 rw[zf3 (x:=y) r fs]
def isInt:V→Option Bool
 | .int _=>some true
 | .bl _=>some true
 | .str _=>some false
 | .non=>some false
 | _=>none
def isBool:V→Option Bool
 | .int _=>some false
 | .bl _=>some true
 | .str _=>some false
 | .non=>some false
 | _=>none
def isStr:V→Option Bool
 | .int _=>some false
 | .bl _=>some false
 | .str _=>some true
 | .non=>some false
 | _=>none
inductive IsLst (K:PySem.W.Frag) (H:Hp):V→Bool→Prop
 | yes {a:Addr} {xs:List V}:SqL K H a xs→IsLst K H (.ref a) true
 | no {a:Addr} {xs:List V}:SqT K H a xs→IsLst K H (.ref a) false
theorem zgG:zas X (.builtin "isinstance") (fun xs H Q=>∃x b,xs = [x,.ty "int"]∧isInt x=some b∧Q (.bl b) H):=by
 intro pins s σ H xs us Q I r h
 obtain⟨x,b,rfl,e,q⟩:=h
 obtain⟨u,t,rfl,ru,rt⟩:=r.two
 cases rt
 cases x with
 | int i=>obtain⟨t',rfl⟩:=ru;cases e;exact IsiPair.int_int ⟨.bl true,H,I,rfl,q⟩
 | bl i=>cases ru;cases e;exact IsiPair.bool_int ⟨.bl true,H,I,rfl,q⟩
 | str i=>obtain⟨t',rfl⟩:=ru;cases e;exact IsiPair.str_int ⟨.bl false,H,I.tok _,rfl,q⟩
 | non=>cases ru;cases e;exact IsiPair.NoneType_int ⟨.bl false,H,I.tok _,rfl,q⟩
 | _=>cases e
theorem zc9:zas X (.builtin "isinstance") (fun xs H Q=>∃x b,xs = [x,.ty "bool"]∧isBool x=some b∧Q (.bl b) H):=by
 intro pins s σ H xs us Q I r h
 obtain⟨x,b,rfl,e,q⟩:=h
 obtain⟨u,t,rfl,ru,rt⟩:=r.two
 cases rt
 cases x with
 | int i=>obtain⟨t',rfl⟩:=ru;cases e;exact IsiPair.int_bool ⟨.bl false,H,I.tok _,rfl,q⟩
 | bl i=>cases ru;cases e;exact IsiPair.bool_bool ⟨.bl true,H,I,rfl,q⟩
 | str i=>obtain⟨t',rfl⟩:=ru;cases e;exact IsiPair.str_bool ⟨.bl false,H,I.tok _,rfl,q⟩
 | non=>cases ru;cases e;exact IsiPair.NoneType_bool ⟨.bl false,H,I.tok _,rfl,q⟩
 | _=>cases e
theorem zgR:zas X (.builtin "isinstance") (fun xs H Q=>∃x b,xs = [x,.ty "str"]∧isStr x=some b∧Q (.bl b) H):=by
 intro pins s σ H xs us Q I r h
 obtain⟨x,b,rfl,e,q⟩:=h
 obtain⟨u,t,rfl,ru,rt⟩:=r.two
 cases rt
 cases x with
 | int i=>obtain⟨t',rfl⟩:=ru;cases e;exact IsiPair.int_str ⟨.bl false,H,I.tok _,rfl,q⟩
 | bl i=>cases ru;cases e;exact IsiPair.bool_str ⟨.bl false,H,I.tok _,rfl,q⟩
 | str i=>obtain⟨t',rfl⟩:=ru;cases e;exact IsiPair.str_str ⟨.bl true,H,I,rfl,q⟩
 | non=>cases ru;cases e;exact IsiPair.NoneType_str ⟨.bl false,H,I.tok _,rfl,q⟩
 | _=>cases e
theorem zbW:zas X (.builtin "isinstance") (fun xs H Q=>∃x b,xs = [x,.ty "list"]∧IsLst X.K H x b∧Q (.bl b) H):=by
 intro pins s σ H xs us Q I r h
 obtain⟨x,b,rfl,e,q⟩:=h
 obtain⟨u,t,rfl,ru,rt⟩:=r.two
 cases rt
 cases e with
 | yes hq =>
   cases ru
   obtain⟨its,r,⟨o,n,e,c1,c2,c3⟩,z⟩:=I.list hq
   exact IsiPair.list_list e c1 ⟨.bl true,H,I,rfl,q⟩
 | no hq =>
   cases ru
   obtain⟨its,r,⟨o,e,c1,n,c3⟩,z⟩:=I.tuple hq
   exact IsiPair.tuple_list e c1 ⟨.bl false,H,I.tok _,rfl,q⟩
def tRev(K:PySem.W.Frag)(te ts:TE):TE:=fun σ H Q=>te σ H fun x H1=>ts σ H1 fun y H2=>y=.int (-1)∧∃a xs,x=.ref a∧SqL K H2 a xs∧∀p,H2 p=none→Q (.ref p) (upd H2 p (.lst xs.reverse))
theorem pe_rev{e st:Expr}{te ts:TE}{p2 pos:Pos}(he:PE X e te)(hst:PE X st ts):PE X (.Subscript e (.Slice none none (some st) p2) pos) (tRev X.K te ts):=by
 intro pins s σ H Q I h
 refine Subscript_ (thn (he pins s σ H _ I h) fun v s1 ⟨x,H1,I1,r1,q1⟩=>?_)
 refine wpAny_Slice ?_
 rw[evalPart_none]
 refine wpAny_pure (wpAny_pure ?_)
 rw[evalPart_some]
 refine thn (hst pins s1 σ H1 _ I1 q1) fun u s3 ⟨y,H3,I3,r3,q3⟩=>?_
 obtain⟨rfl,a,xs,rfl,hx,q⟩:=q3
 obtain⟨t,rfl⟩:=r3
 cases r1
 have I4:Inv X pins σ H3 { s3 with heap:=s3.heap.push { cls:=.type "slice",data:=.fields #[.none,.none,.int (-1) t] } }:=I3.kept (t':=s3.toks) fun b ob q=>Heap.get?_push_of_some _ q
 obtain⟨its,r,ht,hz⟩:=I4.list hx
 have hlen:=r.length
 show wpAny (model X.prog X.w) X.A (subscriptTail e (.Slice none none (some st) p2) (.ref a) (.ref s3.heap.objs.size)) (EP X pins σ Q) X.xe { s3 with heap:=s3.heap.push { cls:=.type "slice",data:=.fields #[.none,.none,.int (-1) t] } }
 refine tail_any (ops := [.ref a,.ref s3.heap.objs.size]) ht.isList.typeIs slot_list_getitem.lookup ?_ (by with_unfolding_all rfl)
 refine wpAny_getItem_list_slice ht.isList (Heap.IsSliceOf.new ..) .none .none (.int (-1) t) (by decide) ?_ (by rw[List.size_toArray] <;> omega)
 rw[PySem.W.krv_pick]
 refine⟨.ref _,_,I4.laid (t':=s3.toks) (o:=.lst xs.reverse) (fun b ob q=>Heap.get?_push_of_some _ q) (Nat.le_refl _) ?_,rfl,q _ (I4.hok.fresh (Nat.le_refl _))⟩
 exact⟨by rw[List.length_reverse];exact hz,_,0,r.reverse,Heap.get?_push_size _ rfl⟩
end
structure Can (P:Program) (w:World) (K:PySem.W.Frag) (mg:Str→Option Value) (base:Heap) (k:Nat) (x:Str) (ps:List Str) (sp:Sp):Prop where
 ex:∃f fd,FnOk P w K mg base CX0 k f fd ps sp∧mg x=some (.ref f)∧PySem.W.keepIn K (.ref f)=true∧zaH K fd ps []
theorem Can.of{P:Program}{w:World}{K:PySem.W.Frag}{mg:Str→Option Value}{base:Heap}{k:Nat}{x:Str}{ps:List Str}{sp:Sp}{f:Addr}{fd:FuncData}{qual:Str}{st:Stmt}
 (F:Fun K x qual st f fd) (G:FnOk P w K mg base CX0 k f fd ps sp) (hm:mg x=some (.ref f)) (b:zaH K fd ps []):Can P w K mg base k x ps sp:=⟨f,fd,G,hm,F.kp,b⟩
section
variable {X:Cx} {k:Nat} {x:Str} {ps:List Str} {sp:Sp} {p pos:Pos} {e:Expr} {es:List Expr} {t:TA}
theorem zu(C:Can X.prog X.w X.K X.mg X.base k x ps sp)(hr:Room k X.A)(hg:Gl X x)(ha:PA X (e::es) t)(hdb:(x==("__debug__" : Str))=false:=by decide)(he:starEach (e::es) X.env=(false,eval e X.env)::starEach es X.env:=by rfl)
 (hpl:(backTo pos (starEach es X.env)).any (·.1)=false:=by rfl):PE X (.Call (.Name x p) (e::es) [] pos) (tCall sp [] E0 t):=by
 obtain⟨f,fd,F,hm,hk,hb⟩:=C.ex
 exact pe_call F hr hg hm hk hb .nil pass0 ha hdb he hpl
end
theorem wa{K:PySem.W.Frag}{a:Addr}{xs:List V}{c:St}{tc:TT}{te:TE}{H:Hp}{fin:List V→Hp→Prop}(Pv:Nat→List V→Hp→Prop)(h0:Pv 0 [] H)(hl:∀i ys H,i≤xs.length→Pv i ys H→SqL K H a xs∧ys.length≤i)(hz:xs.length≤sizeLine)
 (hs:∀i x ys H,xs[i]? = some x→Pv i ys H→tc (some x::c) H fun b H2=>if b=true then te (some x::c) H2 fun y H3=>Pv (i+1) (ys ++ [y]) H3 else Pv (i+1) ys H2)
 (hd:∀ys H,Pv xs.length ys H→fin ys H):zcv (Itl K a) c tc te H fin:=by
 refine⟨fun i m ys H=>m=xs.length - i∧i≤xs.length∧Pv i ys H,⟨xs.length,by simp,Nat.zero_le _,h0⟩,?_⟩
 rintro i m ys H ⟨rfl,hi,p⟩
 obtain⟨q,hy⟩:=hl i ys H hi p
 by_cases hlt:i<xs.length
 ·refine .inr ⟨⟨xs,xs[i],q,by simp[hlt]⟩,by omega,Pv (i+1),fun ys' H' p'=>⟨_,by omega,rfl,hlt,p'⟩,fun x H' y=>?_⟩
  obtain⟨e,y⟩:=y
  subst e
  exact hs i x ys _ (y xs q) p
 ·have e:i=xs.length:=by omega
  subst e
  exact .inl ⟨⟨xs,q,Nat.le_refl _⟩,by omega,hd ys H p⟩
theorem zfu{lo:Int}{n:Nat}{c:St}{tc:TT}{te:TE}{H:Hp}{fin:List V→Hp→Prop}(Pv:Nat→List V→Hp→Prop)(h0:Pv 0 [] H)(hl:∀i ys H,i≤n→Pv i ys H→ys.length≤i)(hz:n≤sizeLine)
 (hs:∀i ys H,i<n→Pv i ys H→tc (some (.int (lo+i))::c) H fun b H2=>if b=true then te (some (.int (lo+i))::c) H2 fun y H3=>Pv (i+1) (ys ++ [y]) H3 else Pv (i+1) ys H2)
 (hd:∀ys H,Pv n ys H→fin ys H):zcv (Itr lo n) c tc te H fin:=by
 refine⟨fun i m ys H=>m=n - i∧i≤n∧Pv i ys H,⟨n,by simp,Nat.zero_le _,h0⟩,?_⟩
 rintro i m ys H ⟨rfl,hi,p⟩
 have hy:=hl i ys H hi p
 by_cases hlt:i<n
 ·refine .inr ⟨hlt,by omega,Pv (i+1),fun ys' H' p'=>⟨_,by omega,rfl,hlt,p'⟩,fun x H' y=>?_⟩
  obtain⟨e,y⟩:=y
  subst e y
  exact hs i ys _ hlt p
 ·have e:i=n:=by omega
  subst e
  exact .inl ⟨Nat.le_refl _,by omega,hd ys H p⟩
theorem ya{K:PySem.W.Frag}{a:Addr}{xs:List V}{c:St}{te:TE}{H:Hp}{fin:List V→Hp→Prop}(Pv:Nat→List V→Hp→Prop)(h0:Pv 0 [] H)(hl:∀i ys H,i≤xs.length→Pv i ys H→SqL K H a xs∧ys.length≤i)(hz:xs.length≤sizeLine)
 (hs:∀i x ys H,xs[i]? = some x→Pv i ys H→te (some x::c) H fun y H3=>Pv (i+1) (ys ++ [y]) H3) (hd:∀ys H,Pv xs.length ys H→fin ys H):zcv (Itl K a) c zhM te H fin :=
 wa Pv h0 hl hz (fun i x ys H e p=>zfQ (B:=Pv (i+1) ys H) (hs i x ys H e p)) hd
theorem zem{lo:Int}{n:Nat}{c:St}{te:TE}{H:Hp}{fin:List V→Hp→Prop}(Pv:Nat→List V→Hp→Prop)(h0:Pv 0 [] H)(hl:∀i ys H,i≤n→Pv i ys H→ys.length≤i)(hz:n≤sizeLine)
 (hs:∀i ys H,i<n→Pv i ys H→te (some (.int (lo+i))::c) H fun y H3=>Pv (i+1) (ys ++ [y]) H3) (hd:∀ys H,Pv n ys H→fin ys H):zcv (Itr lo n) c zhM te H fin :=
 zfu Pv h0 hl hz (fun i ys H e p=>zfQ (B:=Pv (i+1) ys H) (hs i ys H e p)) hd
theorem zcS{X:Cx}{x:Str}{i:Int}{pos:Pos}(h:∃t,X.mg x=some (.int i t))(hg:Gl X x)(hd:(x==("__debug__" : Str))=false:=by decide):PE X (.Name x pos) (tC (.int i)):=by
 obtain⟨t,h⟩:=h
 exact zi6 hg h ⟨t,rfl⟩ hd
theorem zX{c A B:Prop} [Decidable c](h1:c→A)(h2:¬c→B):if decide c=true then A else B:=by
 by_cases h:c
 ·rw[if_pos (decide_eq_true h)];exact h1 h
 ·rw[if_neg (by rw[decide_eq_false h];exact Bool.false_ne_true)];exact h2 h
theorem wl{c A B:Prop} [Decidable c](h1:¬c→A)(h2:c→B):if(!decide c)=true then A else B:=by
 by_cases h:c
 ·rw[decide_eq_true h];exact zbj (h2 h)
 ·rw[decide_eq_false h];exact zfQ (h1 h)
theorem zfF{b:Bool}{A B:Prop}(h1:b=true→A)(h2:b=false→B):if b=true then A else B:=by
 cases b with
 | true=>exact zfQ (h1 rfl)
 | false=>exact zbj (h2 rfl)
theorem zj.new{H:Hp}{l:Addr}{o:HO}(h:H l=Option.none):zj H (upd H l o):=fun b u e=>by rw[zi (zk e h)];exact e
theorem zj.newT{H H':Hp}{l:Addr}{o:HO}(s:zj H H')(h:H' l=Option.none):zj H (upd H' l o):=s.trans (zj.new h)
theorem zj.put{H H':Hp}{l:Addr}{o:HO}(s:zj H H')(h:H l=Option.none):zj H (upd H' l o):=fun b u e=>by rw[zi (zk e h)];exact s b u e
theorem zj.seqT{K:PySem.W.Frag}{H H':Hp}{a:Addr}{xs:List V}(e:zj H H')(h:SqT K H a xs):SqT K H' a xs:=by
 rcases h with(h | ⟨o,h⟩) | h
 ·exact .inl (.inl (e _ _ h))
 ·exact .inl (.inr ⟨o,e _ _ h⟩)
 ·exact .inr h
theorem SqL.new{K:PySem.W.Frag}{H:Hp}{l:Addr}{xs:List V}:SqL K (upd H l (.lst xs)) l xs:=SqL.of ze
theorem SqT.new{K:PySem.W.Frag}{H:Hp}{l:Addr}{xs:List V}:SqT K (upd H l (.tup xs)) l xs:=SqT.of ze
theorem ze4{xs:List V}{i:Int}{v:V}(h0:0≤i)(h:xs[i.toNat]? = some v):atI xs i=some v:=by
 have:=zae h
 rwa [Int.toNat_of_nonneg h0] at this
theorem zc1{ns:List Int}{i:Nat}(h:i<ns.length):(ns.map V.int)[i]? = some (.int (ns.getD i 0)):=by
 rw[List.getElem?_map,List.getElem?_eq_getElem h,List.getD_eq_getElem?_getD,List.getElem?_eq_getElem h];rfl
theorem wB{ns:List Int}{i:Int}(h0:0≤i)(h:i<ns.length):atI (ns.map V.int) i=some (.int (ns.getD i.toNat 0)):=ze4 h0 (zc1 (by omega))
theorem zG(ns:List Int):(ns.map V.int).all wU=true:=by
 rw[List.all_map];exact List.all_eq_true.mpr fun _ _=>rfl
theorem zaE(ns:List Int)(c:Int):ixV (ns.map V.int) (.int c)=ns.idxOf c:=by
 unfold ixV
 induction ns with
 | nil=>rfl
 | cons a ns ih =>
   rw[List.map_cons,List.findIdx_cons,List.idxOf_cons,ih]
   rfl
theorem zii(ns:List Int)(c:Int):(ns.map V.int).countP (fun z=>eqV z (.int c))=ns.count c:=by
 induction ns with
 | nil=>rfl
 | cons a ns ih=>rw[List.map_cons,List.countP_cons,List.count_cons,ih];rfl
theorem zaA(ns:List Int)(c:Int):inV (.int c) (ns.map V.int)=decide (c∈ns):=by
 unfold inV
 induction ns with
 | nil=>rfl
 | cons a ns ih =>
   rw[List.map_cons,List.any_cons,ih]
   show((a==c) || _)=_
   by_cases h:a=c
   ·subst h;simp
   ·have:¬c=a:=fun e=>h e.symm
    simp[h,this]
theorem cut_from{xs:List V}{k:Int}(h:0≤k):zeu xs (some k) none=xs.drop k.toNat:=by
 obtain⟨n,rfl⟩:=Int.eq_ofNat_of_zero_le h
 unfold zeu
 rw[HT.sIx_none]
 show(xs.drop (HT.sIx xs.length 0 (some ((n:Nat):Int)))).take _=_
 rw[HT.sIx_nat,Int.toNat_natCast]
 by_cases h:n≤xs.length
 ·rw[Nat.min_eq_left h,List.take_of_length_le (by rw[List.length_drop];exact Nat.le_refl _)]
 ·rw[Nat.min_eq_right (by omega),List.drop_of_length_le (Nat.le_refl _),List.drop_of_length_le (by omega),List.take_nil]
theorem zjW{xs:List V}{k:Int}(h:0≤k):zeu xs none (some k)=xs.take k.toNat:=by
 obtain⟨n,rfl⟩:=Int.eq_ofNat_of_zero_le h
 unfold zeu
 rw[HT.sIx_none,List.drop_zero]
 show xs.take (HT.sIx xs.length xs.length (some ((n:Nat):Int)) - 0)=_
 rw[HT.sIx_nat,Int.toNat_natCast,Nat.sub_zero]
 by_cases h:n≤xs.length
 ·rw[Nat.min_eq_left h]
 ·rw[Nat.min_eq_right (by omega),List.take_of_length_le (Nat.le_refl _),List.take_of_length_le (by omega)]
theorem zaW{ns:List Int}{k:Int}(h:0≤k):zeu (ns.map V.int) (some k) none=(ns.drop k.toNat).map V.int:=by rw[cut_from h,List.map_drop]
theorem zaX{ns:List Int}{k:Int}(h:0≤k):zeu (ns.map V.int) none (some k)=(ns.take k.toNat).map V.int:=by rw[zjW h,List.map_take]
theorem zB:1000000≤sizeLine:=by decide
theorem seqIx_ok{i:Int}{n:Nat}(h0:0≤i)(h1:i<n):seqIndex? i n=some i.toNat:=by
 have e:(if i<0 then i+(n:Int)else i)=i:=if_neg (by omega)
 unfold seqIndex?
 simp only[e]
 rw[if_pos (by simp only[Bool.and_eq_true,decide_eq_true_eq];exact⟨h0,h1⟩)]
theorem zf0{α β:Type}(f:α→β):∀(l:List α) (i:Nat),(l.map f).eraseIdx i=(l.eraseIdx i).map f
 | [],_=>rfl
 | _::_,0=>rfl
 | a::l,i+1=>by
   show f a::(l.map f).eraseIdx i=f a::(l.eraseIdx i).map f
   rw[zf0 f l i]
theorem zfr{α:Type}:∀(l:List α) (i:Nat) (h:i<l.length),(l[i]::l.eraseIdx i).Perm l
 | a::l,0,_=>List.Perm.refl _
 | a::l,i+1,h=>(List.Perm.swap a (l[i]'(by simpa using h)) (l.eraseIdx i)).trans ((zfr l i (by simpa using h)).cons a)
theorem yy{ns:List Int}{i:Nat}(hi:i<ns.length):ns.take (i+1)=ns.take i ++ [ns.getD i 0]:=by
 rw[List.take_succ,List.getElem?_eq_getElem hi,List.getD_eq_getElem?_getD,List.getElem?_eq_getElem hi];rfl
theorem yA{ns:List Int}{i:Nat}{x:V}(hx:(ns.map V.int)[i]? = some x):i<ns.length∧x=.int (ns.getD i 0):=by
 have hi:i<ns.length:=by have:=(List.getElem?_eq_some_iff.mp hx).1;rwa [List.length_map] at this
 refine⟨hi,?_⟩
 rw[zc1 hi] at hx
 exact(Option.some.inj hx).symm
theorem zeL{ns:List Int}{i:Nat}(hi:i<ns.length):ns.getD i 0=ns[i]:=by rw[List.getD_eq_getElem?_getD,List.getElem?_eq_getElem hi];rfl
theorem wT{ns:List Int}{i:Nat}(hi:i<ns.length):ns.getD i 0∈ns:=by rw[zeL hi];exact List.getElem_mem hi
theorem app_ints(ns:List Int)(x:Int):ns.map V.int ++ [V.int x]=(ns ++ [x]).map V.int:=by rw[List.map_append];rfl
theorem zgU{H:Hp}{l:Addr}(ns:List Int)(x:Int):upd H l (.lst (ns.map V.int ++ [V.int x])) l=some (.lst ((ns ++ [x]).map V.int)):=ze.trans (congrArg (fun l=>some (HO.lst l)) (app_ints ns x))
def eqL:List V→List V→Bool
 | [],[]=>true
 | x::xs,y::ys=>eqV x y && eqL xs ys
 | _,_=>false
def zi3(xs ys:List V)(j:Nat):Bool:=match xs[j]?,ys[j]? with
 | some x,some y=>eqV x y
 | _,_=>false
theorem zdQ:∀{xs ys:List V},xs.length=ys.length→(List.range xs.length).all (zi3 xs ys)=eqL xs ys
 | [],[],_=>rfl
 | x::xs,y::ys,h=>by
   have h':xs.length=ys.length:=by simpa using h
   show(List.range (xs.length+1)).all _=(eqV x y && eqL xs ys)
   rw[List.range_succ_eq_map,List.all_cons,List.all_map,← zdQ h']
   rfl
theorem zgE:∀{xs ys:List V},xs.length≠ys.length→eqL xs ys=false
 | [],[],h=>absurd rfl h
 | [],_::_,_=>rfl
 | _::_,[],_=>rfl
 | x::xs,y::ys,h=>by
   show(eqV x y && eqL xs ys)=false
   rw[zgE (fun e=>h (by simp[e])),Bool.and_false]
theorem zby:∀(ns ms:List Int),eqL (ns.map V.int) (ms.map V.int)=decide (ns=ms)
 | [],[]=>rfl
 | [],_::_=>rfl
 | _::_,[]=>rfl
 | a::ns,b::ms=>by
   show((a==b) && eqL (ns.map V.int) (ms.map V.int))=_
   rw[zby ns ms]
   by_cases h:a=b
   ·subst h;simp
   ·simp[h]
theorem eqAt_j{A:Around}{s:Shared}{xs ys:List V}{us vs:List Value}(ru:zI xs us)(rv:zI ys vs)(fx:xs.all wU=true)(fy:ys.all wU=true):
 ∀j (h1:j<us.toArray.size) (h2:j<vs.toArray.size),SeqAt.EqAt A s us.toArray[j] vs.toArray[j] (zi3 xs ys j):=fun j h1 h2=>by
 have l1:=ru.length
 have l2:=rv.length
 have h1':j<us.length:=by simpa using h1
 have h2':j<vs.length:=by simpa using h2
 obtain⟨u,eu,r1⟩:=ru.get (i:=j) (x:=xs[j]) (List.getElem?_eq_getElem (by omega))
 obtain⟨v,ev,r2⟩:=rv.get (i:=j) (x:=ys[j]) (List.getElem?_eq_getElem (by omega))
 have e1:us.toArray[j]=u:=by rw[List.getElem_toArray];rw[List.getElem?_eq_getElem h1'] at eu;exact Option.some.inj eu
 have e2:vs.toArray[j]=v:=by rw[List.getElem_toArray];rw[List.getElem?_eq_getElem h2'] at ev;exact Option.some.inj ev
 rw[e1,e2]
 have ej:zi3 xs ys j=eqV xs[j] ys[j]:=by unfold zi3;rw[List.getElem?_eq_getElem (by omega),List.getElem?_eq_getElem (by omega)]
 rw[ej]
 exact eqAt_V r1 r2 (List.all_eq_true.mp fx _ (List.getElem_mem _)) (List.all_eq_true.mp fy _ (List.getElem_mem _))
section
variable {X:Cx}
def rEqL(K:PySem.W.Frag):R2:=fun x y H Q=>∃a b xs ys,x=.ref a∧y=.ref b∧SqL K H a xs∧SqL K H b ys∧xs.all wU=true∧ys.all wU=true∧Q (.bl (eqL xs ys)) H
theorem zck(hu:X.A.units<cLine):OpR X (compareOp .Eq) (rEqL X.K):=by
 intro pins s σ H x y v u Q I rx ry h
 obtain⟨a,b,xs,ys,rfl,rfl,ha,hb,fx,fy,q⟩:=h
 cases rx
 cases ry
 obtain⟨its,r1,p1,z1⟩:=I.list ha
 obtain⟨its2,r2,p2,z2⟩:=I.list hb
 have l1:=r1.length
 have l2:=r2.length
 by_cases hl:xs.length=ys.length
 ·refine SeqAt.eq_listAt p1.isList p2.isList (by simp;omega) hu (eqAt_j r1 r2 fx fy) ⟨.bl (eqL xs ys),H,I,?_,q⟩
  rw[List.size_toArray,← l1,zdQ hl]
  rfl
 ·refine SeqAt.eq_list_lengthsAt p1.isList p2.isList (by simp;omega) hu ⟨.bl (eqL xs ys),H,I,?_,q⟩
  rw[zgE hl]
  rfl
theorem zgF{ns:List Int}:∀{us:List Value},IntsAre us ns→zI (ns.map V.int) us:=by
 intro us h
 induction h with
 | nil=>exact .nil
 | cons n t _ ih=>exact .cons ⟨t,rfl⟩ ih
theorem zcG:zas X (.builtin "sorted") (fun xs H Q=>∃(a:Addr) (ns:List Int),xs = [.ref a]∧SqL X.K H a (ns.map V.int)∧ns.length<64∧∀(l:Addr) (ms:List Int),H l=none→ms.Perm ns→ms.Pairwise (·≤ ·)→Q (.ref l) (upd H l (.lst (ms.map V.int)))):=by
 intro pins s σ H xs us Q I r h
 obtain⟨a,ns,rfl,hS,hz,q⟩:=h
 obtain⟨u,rfl,ru⟩:=r.one
 cases ru
 obtain⟨its,r1,p1,z1⟩:=I.list hS
 have l1:=r1.length
 rw[List.length_map] at l1
 refine sorted_ints p1.isList (zaU r1) (by omega) fun out ns' hI hp hw=>?_
 obtain⟨e,he⟩:=sortedAll_at s.heap its out
 have hf:H (s.heap.objs.size+1)=none:=I.hok.fresh (Nat.le_succ _)
 have hv:=zgF hI
 have hlen:ns'.length<64:=by rw[hp.length_eq];exact hz
 refine⟨.ref (s.heap.objs.size+1),upd H (s.heap.objs.size+1) (.lst (ns'.map V.int)),I.laid (t':=s.toks) (fun b o e=>sortedAll_old e) (Nat.le_succ _) ⟨?_,out.toList,e,hv,?_⟩,rfl,q _ ns' hf hp hw⟩
 ·rw[List.length_map];have:=zB;omega
 ·exact he
end
section
variable {X:Cx}
theorem bools_at{bs:List Bool}{us:List Value}(r:zI (bs.map V.bl) us){i:Nat}{v:Value}(h:us[i]? = some v):v=.bool (bs.getD i false):=by
 have hl:=r.length
 rw[List.length_map] at hl
 have hi:i<bs.length:=by rw[hl];exact(List.getElem?_eq_some_iff.mp h).1
 obtain⟨u,e,ru⟩:=r.get (i:=i) (x:=.bl bs[i]) (by rw[List.getElem?_map,List.getElem?_eq_getElem hi];rfl)
 rw[e] at h
 cases h
 rw[List.getD_eq_getElem?_getD,List.getElem?_eq_getElem hi]
 exact ru
theorem zi9(bs:List Bool):(List.range bs.length).all (fun i=>bs.getD i false)=bs.all id:=by
 induction bs with
 | nil=>rfl
 | cons b bs ih =>
   rw[List.length_cons,List.range_succ_eq_map,List.all_cons,List.all_map,List.all_cons,← ih]
   rfl
theorem zfk(hc:X.calm=true):zas X (.builtin "all") (fun xs H Q=>∃(a:Addr) (bs:List Bool),xs = [.ref a]∧SqL X.K H a (bs.map V.bl)∧Q (.bl (bs.all id)) H):=by
 intro pins s σ H xs us Q I r h
 obtain⟨a,bs,rfl,hS,q⟩:=h
 obtain⟨u,rfl,ru⟩:=r.one
 cases ru
 obtain⟨its,r1,p1,z1⟩:=I.list hS
 have l1:=r1.length
 rw[List.length_map] at l1
 have hlt:a<s.heap.objs.size:=by obtain⟨o,n,e,_⟩:=p1;exact Heap.lt_size e
 refine call_all_walk (wpAny_pyIter_list p1.isList ?_)
 have I1:Inv X pins σ H { s with heap:=s.heap.push { cls:=.type "list_iterator",data:=.fields #[.ref a,.int 0 0] } }:=I.kept (t':=s.toks) fun b o e=>Heap.get?_push_of_some _ e
 refine⟨s.heap.objs.size,_,_,its.toArray.size,_,_,fun i=>bs.getD i false,rfl,Walks.list (by simpa using I.ok.hd hc) s.heap.objs.size a (Nat.ne_of_lt hlt) its.toArray,⟨⟨_,Heap.get?_push_size _ rfl,rfl,rfl⟩,p1.isList.push _⟩,?_,fun h' tk hk=>?_⟩
 ·intro i v s' Q' E' hP hQ
  have:=bools_at r1 (i:=i) (v:=v) (by simpa using hP)
  subst this
  exact wpAny_truthy_bool hQ
 ·have f:=I.fpOk (H':=H) (Nat.le_refl _) (I.hok.fresh (Nat.le_refl _))
  refine⟨.bl (bs.all id),H,I1.turned (it:=s.heap.objs.size) (fun b o hb e=>hk b o (by simpa using hb) e) f.1 f.2.1 f.2.2.2.1 f.2.2.2.2.1 f.2.2.2.2.2,?_,q⟩
  rw[List.size_toArray,← l1,zi9]
  rfl
theorem zgP(hc:X.calm=true):zas X (.type "set") (fun xs H Q=>∃(a:Addr) (ns:List Int),xs = [.ref a]∧SqL X.K H a (ns.map V.int)∧ns.length<4000 ∧
 ∀l,H l=none→Q (.ref l) (upd H l (.set (fun k=>(firstMet (fun i=>ns.getD i 0) ns.length).any (·== k)) (firstMet (fun i=>ns.getD i 0) ns.length).length))):=by
 intro pins s σ H xs us Q I r h
 obtain⟨a,ns,rfl,hS,hz,q⟩:=h
 obtain⟨u,rfl,ru⟩:=r.one
 cases ru
 obtain⟨its,r1,p1,z1⟩:=I.list hS
 have l1:=r1.length
 rw[List.length_map] at l1
 have hsb:scanBound=4096:=rfl
 refine call_set_list (ns:=ns) (I.ok.hd hc) p1.isList (by simpa using zaU r1) (by rw[List.size_toArray];omega) fun h' tk hset hk=>?_
 have esz:its.toArray.size=ns.length:=by rw[List.size_toArray];omega
 rw[esz] at hset
 refine⟨.ref s.heap.objs.size,_,I.laid (t':=tk) (o:=.set _ _) (fun b o e=>hk b o (Heap.lt_size e) e) (Nat.le_refl _) hset,rfl,q _ (I.hok.fresh (Nat.le_refl _))⟩
theorem call_len_set:zas X (.builtin "len") (fun xs H Q=>∃a S n,xs = [.ref a]∧H a=some (.set S n)∧Q (.int n) H):=by
 intro pins s σ H xs us Q I r h
 obtain⟨a,S,n,rfl,hS,q⟩:=h
 obtain⟨u,rfl,ru⟩:=r.one
 cases ru
 obtain⟨o,es,ep,t,ho,hex,hd,_,_,hsz,hf,hn⟩:=I.hok a _ hS
 have hsb:scanBound=4096:=rfl
 refine PySem.call_len_set ho hex hd hf (by omega) ⟨.int n,H,I.tok _,⟨s.toks+1,?_⟩,q⟩
 rw[hn]
end
theorem zfE(ns:List Int):firstMet (fun i=>ns.getD i 0) ns.length=ns.foldl step_dedup []:=by
 unfold firstMet
 congr 1
 refine List.ext_getElem (by simp) fun i h1 h2=>?_
 rw[List.getElem_map,List.getElem_range,List.getD_eq_getElem?_getD,List.getElem?_eq_getElem h2]
 rfl
theorem dedup_le(acc ns:List Int):(ns.foldl step_dedup acc).length≤acc.length+ns.length:=by
 induction ns generalizing acc with
 | nil=>exact Nat.le_refl _
 | cons a ns ih =>
   rw[List.foldl_cons]
   refine Nat.le_trans (ih _) ?_
   rw[step_length,List.length_cons]
   split <;> omega
theorem ziv(acc ns:List Int)(hacc:acc.Nodup):(ns.foldl step_dedup acc).length=acc.length+ns.length↔(acc++ns).Nodup:=by
 induction ns generalizing acc with
 | nil=>simpa using hacc
 | cons a ns ih =>
   rw[List.foldl_cons]
   by_cases h:acc.any (·== a)=true
   ·have e:step_dedup acc a=acc:=by unfold step_dedup;rw[if_pos h]
    rw[e]
    have hm:a∈acc:=by
     obtain⟨x,hx,hb⟩:=List.any_eq_true.mp h
     have:x=a:=by simpa using hb
     rw[← this];exact hx
    constructor
    ·intro q
     have:=dedup_le acc ns
     rw[List.length_cons] at q
     omega
    ·intro q
     rw[List.nodup_append] at q
     exact absurd rfl (q.2.2 a hm a List.mem_cons_self)
   ·have e:step_dedup acc a=acc ++ [a]:=by unfold step_dedup;rw[if_neg h]
    have hm:a∉acc:=fun hm=>h (List.any_eq_true.mpr ⟨a,hm,by simp⟩)
    have hn:(acc ++ [a]).Nodup:=by
     rw[List.nodup_append]
     exact⟨hacc,by simp,fun x hx y hy z=>hm (by rw[List.mem_singleton.mp hy] at z;rw[← z];exact hx)⟩
    rw[e]
    have:=ih (acc ++ [a]) hn
    rw[List.append_assoc,List.singleton_append] at this
    rw[← this,List.length_append,List.length_singleton,List.length_cons]
    omega
theorem zht(ns:List Int):(firstMet (fun i=>ns.getD i 0) ns.length).length=ns.length↔ns.Nodup:=by
 rw[zfE]
 have:=ziv [] ns List.nodup_nil
 simpa using this
def tMid(t:TS):TS:=fun D σ H=>∃P:St→Hp→Prop,t { D with nx:=P } σ H∧∀σ' H',P σ' H'→D.nx σ' H'
theorem zcq{X:Cx}{st:Stmt}{t:TS}(h:PS X st t):PS X st (tMid t):=by
 intro pins s σ H D I hw
 obtain⟨P,h1,h2⟩:=hw
 refine thn (h pins s σ H _ I h1) fun f s' q=>?_
 cases f with
 | next=>obtain⟨σ',H',I',q⟩:=q;exact⟨σ',H',I',h2 _ _ q⟩
 | brk=>exact q
 | cont=>exact q
 | ret u=>exact q
structure Fly (P:Program) (w:World) (outer:List Env) (H:Hp) (s:Shared) (x:Addr) (cls:Value) (H':Hp) (s':Shared):Prop where
 os:s'.os=s.os
 bare:AllBare s'.gens
 ex:∃B a0,Heap.FlyingW B outer x cls a0 s'.heap∧HOk P w H' B∧(∀b o,s.heap.get? b=some o→H b=none→b∉frs outer→B.get? b=some o)∧∀b o,s.heap.get? b=some o→b∉frs outer→∃o',B.get? b=some o'
 slot:∀b o,s.heap.get? b=some o→H b=none→b∈frs outer→∃sl,s'.heap.get? b=some { o with slots:=sl }
 free:∀b o,s.heap.get? b=some o→H b=none→H' b=none
 tups:∀b xs,H b=some (.tup xs)→H' b=some (.tup xs)
 frzs:∀b o u,H b=some (.frz o u)→H' b=some (.frz o u)
 tbls:∀b ps,H b=some (.tbl ps)→∃more,H' b=some (.tbl (ps++more))
 new:H' x=none
def CX1(P:Program)(w:World):CXT:=fun outer H s E e s'=>∃x cls H',e=.ref x∧Fly P w outer H s x cls H' s'∧E cls none H'
section
variable {P:Program} {w:World} {outer:List Env} {H H':Hp} {s s':Shared} {x:Addr} {cls:Value}
theorem wy.obj{H:Hp}{h:Heap}{a:Addr}{o:HO}(x:wy P w H h a o):∃ob,h.get? a=some ob:=by
 cases o with
 | lst xs=>obtain⟨_,_,_,_,e⟩:=x;exact⟨_,e⟩
 | tup xs=>obtain⟨_,_,_,ob,e,_⟩:=x;exact⟨ob,e⟩
 | dK kvs=>obtain⟨_,_,_,_,o,_,_,e,_⟩:=x;exact⟨o,e⟩
 | dT kvs=>obtain⟨_,_,_,_,o,_,_,e,_⟩:=x;exact⟨o,e⟩
 | set S n=>obtain⟨o,_,_,_,e,_⟩:=x;exact⟨o,e⟩
 | ins C dx fs=>obtain⟨_,_,_,e,_⟩:=x;exact⟨_,e⟩
 | own y=>obtain⟨o,e⟩:=x;exact⟨o,e⟩
 | xd fs=>obtain⟨_,⟨o,_,_,e,_⟩,_⟩:=x;exact⟨o,e⟩
 | rng lo hi=>obtain⟨_,_,_,e⟩:=x;exact⟨_,e⟩
 | frz ob u=>obtain⟨e,_⟩:=x;exact⟨_,e⟩
 | tbl ps=>exact⟨_,(show h.get? a=some _ from x)⟩
 | met f y=>exact⟨_,(show h.get? a=some _ from x)⟩
 | ext φ=>obtain⟨_,⟨o,e⟩,_⟩:=x;exact⟨o,e⟩
theorem Fly.un(f:Fly P w outer H s x cls H' s'){B h:Heap}{a0:Value}{l:List Env}(hB:HOk P w H' B)(k1:∀b o,s.heap.get? b=some o→H b=none→b∉frs outer→B.get? b=some o)(k2:∀b o,s.heap.get? b=some o→b∉frs outer→∃o',B.get? b=some o')
 (st:B.StaysIn h) (sl:∀b o,s.heap.get? b=some o→H b=none→b∈frs outer→∃q,h.get? b=some { o with slots:=q }) (nf:∀b∈frs outer,H b=none):Un (frs outer) [] H H' s.heap h where
 keep:=fun b o q n hb _=>st b o (k1 b o q n hb)
 slot:=fun b o q n hb _=>sl b o q n hb
 free:=fun b o q n _=>f.free b o q n
 there:=fun b o q _=>by
  by_cases hb:b∈frs outer
  ·obtain⟨z,e⟩:=sl b o q (nf b hb) hb
   exact⟨_,e⟩
  ·obtain⟨o',e⟩:=k2 b o q hb
   exact⟨o',st b o' e⟩
 tups:=f.tups
 frzs:=f.frzs
 tbls:=f.tbls
end
section
variable {X:Cx} {pins:List (Addr × Obj)} {σ:St} {H H':Hp} {s s':Shared} {x:Addr} {cls:Value}
theorem Inv.nodata(I:Inv X pins σ H s){b:Addr}(hb:b∈frs X.stack){o:Obj}(e:s.heap.get? b=some o):∀vs,o.data ≠ .fields vs:=by
 obtain⟨_,o',e',d⟩:=I.stack.mem hb
 rw[e] at e';cases e'
 exact d
def zbp(h:Heap)(l:List Env):Heap:=PySem.W.hideAll h (frs l)
theorem zbQ{h:Heap}{l:List Env}{b:Addr}{o:Obj}(e:h.get? b=some o)(n:b∉frs l):(zbp h l).get? b=some o:=PySem.W.hideAll_get _ e n
theorem zgV{h:Heap}{l:List Env}{b:Addr}{o:Obj}(e:(zbp h l).get? b=some o):h.get? b=some o:=PySem.W.of_hideAll _ e
theorem Inv.frameOk(I:Inv X pins σ H s):HOk X.prog X.w H (zbp s.heap X.stack):=fun a o e =>
 (I.hok a o e).stay (fun b u hb q=>zbQ q fun z=>by
   have n:=I.stkFree b z
   rcases hb with hb | hb
   ·rw[hb,e] at n;cases n
   ·rw[n] at hb;cases hb) (fun _ q=>q) fun _ _ q=>q
end
abbrev XW:=St→Value→Hp→Prop
def Fl(X:Cx)(W:XW):Prop:=∀(pins:List (Addr × Obj)) (σ:St) (H:Hp) (s:Shared) (x:Addr) (cls:Value) (H':Hp) (s':Shared),Inv X pins σ H s→Fly X.prog X.w X.stack H s x cls H' s'→W σ cls H'→X.xe (.ref x) s'
def Md(X:Cx)(W:XW):Prop:=∀(pins:List (Addr × Obj)) (σ:St) (H:Hp) (s:Shared) (x:Addr) (cls:Value) (args:List Value) (h':Heap),Inv X pins σ H s→Heap.MadeExcOf s.heap h' x cls args→W σ cls H→X.xe (.ref x) { s with heap:=h' }
section
variable {P:Program} {w:World} {K:PySem.W.Frag} {mg:Str→Option Value} {base:Heap} {N:List Str} {qual:Str} {scope:Scope} {f:Addr} {cd:Value} {A:Around} {outer:List Env} {s0:Shared} {H0:Hp} {E:XK}
theorem fly_def:Fl (zb0 (CX1 P w) P w K mg base N qual scope f cd A outer s0 H0 E) fun _ cls H'=>E cls none H':=by
 intro pins σ H s x cls H' s' I fl hE
 obtain⟨B,a0,hfl,hB,k1,k2⟩:=fl.ex
 have hst:frs (envOfC qual scope s0.heap.objs.size f cd::outer)=s0.heap.objs.size::frs outer:=rfl
 have old:∀b o,s0.heap.get? b=some o→b∉frs outer→b∉frs (envOfC qual scope s0.heap.objs.size f cd::outer):=fun b o e hb=>by
  rw[hst]
  exact fun z=>(List.mem_cons.mp z).elim (fun q=>absurd (Heap.lt_size e) (by rw[q];exact Nat.lt_irrefl _)) hb
 refine wpAny_leaves_onW (base:=B) (L:=s0.heap.objs.size) I.ok.frames rfl hfl fun h2 hfl2 up=>?_
 refine⟨x,cls,H',rfl,⟨fl.os.trans I.os,fl.bare,⟨B,a0,hfl2,hB,fun b o e n hb=>?_,fun b o e hb=>?_⟩,fun b o e n hb=>?_,fun b o e n=>?_,fun b xs e=>fl.tups b xs (I.base.tups b xs e),fun b o u e=>fl.frzs b o u (I.base.frzs b o u e),fun b ps e=>?_,fl.new⟩,hE⟩
 ·exact k1 b o (I.base.keep b o e n hb (by simp[zb0])) (I.base.free b o e n (by simp[zb0])) (old b o e hb)
 ·obtain⟨o1,e1⟩:=I.base.there b o e (by simp[zb0])
  exact k2 b o1 e1 (old b o e hb)
 ·obtain⟨sl,e1⟩:=I.base.slot b o e n hb (by simp[zb0])
  obtain⟨sl2,e2⟩:=fl.slot b _ e1 (I.base.free b o e n (by simp[zb0])) (List.mem_cons_of_mem _ hb)
  obtain⟨_,o',e',d⟩:=I.ok.funs.mem hb
  have eo:o'=o:=by
   have e'':s0.heap.get? b=some o':=e'
   rw[e] at e'';exact(Option.some.inj e'').symm
  subst eo
  obtain⟨sl3,e3⟩:=up b _ e2 d
  exact⟨sl3,e3⟩
 ·obtain⟨o1,e1⟩:=I.base.there b o e (by simp[zb0])
  exact fl.free b o1 e1 (I.base.free b o e n (by simp[zb0]))
 ·obtain⟨m1,e1⟩:=I.base.tbls b ps e
  obtain⟨m2,e2⟩:=fl.tbls b _ e1
  exact⟨m1++m2,by rw[e2,Array.append_assoc]⟩
theorem md_def:Md (zb0 (CX1 P w) P w K mg base N qual scope f cd A outer s0 H0 E) fun _ cls H'=>E cls none H':=by
 intro pins σ H s x cls args h' I mk hE
 have hst:frs (envOfC qual scope s0.heap.objs.size f cd::outer)=s0.heap.objs.size::frs outer:=rfl
 have old:∀b o,s0.heap.get? b=some o→b∉frs outer→b∉frs (envOfC qual scope s0.heap.objs.size f cd::outer):=fun b o e hb=>by
  rw[hst]
  exact fun z=>(List.mem_cons.mp z).elim (fun q=>absurd (Heap.lt_size e) (by rw[q];exact Nat.lt_irrefl _)) hb
 have hl:s.heap.FunFrames (zbp s.heap (envOfC qual scope s0.heap.objs.size f cd::outer)) (envOfC qual scope s0.heap.objs.size f cd::outer) :=
  PySem.W.funFrames_hide I.stack fun env he b hb=>List.mem_filterMap.mpr ⟨env,he,hb⟩
 have hB:HOk P w H (zbp s.heap (envOfC qual scope s0.heap.objs.size f cd::outer)):=I.frameOk
 have hx:H x=none:=by
  cases q:H x with
  | none=>rfl
  | some o =>
    obtain⟨o',e⟩:=(I.hok x o q).obj
    rw[mk.new] at e;cases e
 refine wpAny_leaves_madeW (L:=s0.heap.objs.size) (h:=s.heap) (base:=zbp s.heap (envOfC qual scope s0.heap.objs.size f cd::outer)) I.ok.frames rfl (fun b o e=>zgV e) hl mk fun h2 t hfl2 _ _ up=>?_
 refine⟨x,cls,H,rfl,⟨I.os,I.bare,⟨_,_,hfl2,hB,fun b o e n hb=>?_,fun b o e hb=>?_⟩,fun b o e n hb=>?_,fun b o e n=>I.base.free b o e n (by simp[zb0]),I.base.tups,I.base.frzs,I.base.tbls,hx⟩,hE⟩
 ·exact zbQ (I.base.keep b o e n hb (by simp[zb0])) (old b o e hb)
 ·obtain⟨o1,e1⟩:=I.base.there b o e (by simp[zb0])
  exact⟨o1,zbQ e1 (old b o e hb)⟩
 ·obtain⟨sl,e1⟩:=I.base.slot b o e n hb (by simp[zb0])
  obtain⟨_,o',e',d⟩:=I.ok.funs.mem hb
  have eo:o'=o:=by
   have e'':s0.heap.get? b=some o':=e'
   rw[e] at e'';exact(Option.some.inj e'').symm
  subst eo
  obtain⟨sl3,e3⟩:=up b _ (mk.keeps _ _ e1) d
  exact⟨sl3,e3⟩
end
abbrev TJ:=St→Hp→Str→(Str→Hp→Prop)→Prop
def PJ(X:Cx)(es:List Expr)(t:TJ):Prop :=
 ∀(pins:List (Addr × Obj)) (s:Shared) (σ:St) (H:Hp) (acc:Str) (Q:Str→Hp→Prop),Inv X pins σ H s→t σ H acc Q →
  wpAny (model X.prog X.w) X.A (joinParts acc (evalEach es X.env)) (EP X pins σ fun v H'=>∃y,v=.str y∧Q y H') X.xe s
def jNil:TJ:=fun _ H acc Q=>acc.length≤sizeLine∧Q acc H
def jCons(te:TE)(t:TJ):TJ:=fun σ H acc Q=>te σ H fun x H1=>∃y,x=.str y∧(acc++y).length≤sizeLine∧t σ H1 (acc++y) Q
def tFmt(te:TE):TE:=fun σ H Q=>te σ H fun x H1=>(∃i,x=.int i∧i.natAbs.log2<1920∧Q (.str (toString i)) H1)∨(∃y,x=.str y∧y.length≤sizeLine∧Q (.str y) H1)
def tJoin(t:TJ):TE:=fun σ H Q=>t σ H Str.empty fun y H1=>Q (.str y) H1
section
variable {X:Cx} {e v1 v2:Expr} {es:List Expr} {te:TE} {t:TJ} {pos:Pos}
theorem pj_nil:PJ X [] jNil:=fun pins s σ H acc Q I h=>joinParts_nil ⟨.str acc,H,I.tok _,⟨_,rfl⟩,acc,rfl,h.2⟩ h.1
theorem zc3(he:PE X e te)(hr:PJ X es t):PJ X (e::es) (jCons te t):=by
 intro pins s σ H acc Q I h
 show wpAny _ _ (joinParts acc (eval e X.env::evalEach es X.env)) _ _ s
 refine joinParts_cons (thn (he pins s σ H _ I h) fun u s1 ⟨x,H1,I1,r1,y,ey,hz,q⟩=>?_)
 subst ey
 obtain⟨t',rfl⟩:=r1
 exact⟨hz,hr pins s1 σ H1 _ Q I1 q⟩
theorem ziw(he:PE X e te):PE X (.FormattedValue e (-1) none pos) (tFmt te):=by
 intro pins s σ H Q I h
 refine FormattedValue_plain (thn (he pins s σ H _ I h) fun u s1 ⟨x,H1,I1,r1,q⟩=>?_)
 rcases q with⟨i,ex,hd,q⟩ | ⟨y,ex,hz,q⟩
 ·subst ex
  obtain⟨t',rfl⟩:=r1
  exact formatField_int_small hd ⟨.str (toString i),H1,I1.tok _,⟨_,rfl⟩,q⟩
 ·subst ex
  obtain⟨t',rfl⟩:=r1
  exact formatField_str (fun t2 tk=>⟨.str y,H1,I1.tok _,⟨_,rfl⟩,q⟩) hz
theorem zi0{zbR:List Expr}(h:PJ X (v1::v2::zbR) t):PE X (.JoinedStr (v1::v2::zbR) pos) (tJoin t):=by
 intro pins s σ H Q I q
 exact JoinedStr_many (thn (h pins s σ H Str.empty _ I q) fun u s1 ⟨x,H1,I1,r1,y,ey,q1⟩=>⟨x,H1,I1,r1,by subst ey;exact q1⟩)
end
theorem zgo{x y:Str}{a b:Nat}(hx:x.length≤a)(hy:y.length≤b):(x++y).length≤a+b:=by rw[strLen_append];omega
def bmV:List Value := [.type "ValueError",.type "Exception",.type "BaseException",.type "object"]
abbrev ExC(K:PySem.W.Frag)(C:Addr):Prop:=PySem.W.excIn K C bmV "ValueError.__new__" = true
def wk(K:PySem.W.Frag)(C D:Addr):Bool:=match K.lookup C with
 | some ⟨_,_,.cls cd,_⟩=>cd.mro.contains (.ref D)
 | _=>false
theorem zg7{K:PySem.W.Frag}{h:Heap}{C:Addr}(hk:K.In h)(q:ExC K C):∃tl N nm qn bs hd sn sb ab cl dd a0 a1 a2 a3 a5 mN,
 h.get? C=some (excClassObj nm qn C N bs tl hd sn sb ab cl dd a0 a1 a2 a3 a5 "ValueError.__new__")∧h.Ns N mN∧mN "__init__" = none∧OwnTail h bmV tl∧∀D,(Value.ref C::tl).contains (.ref D)=wk K C D:=by
 unfold ExC PySem.W.excIn at q
 split at q
 next dd cd sl ho =>
  split at q
  next C' tl a0 a1 a2 a3 n a5 em es =>
   simp only[Bool.and_eq_true,beq_iff_eq,Bool.not_eq_true'] at q
   obtain⟨⟨⟨⟨⟨z1,z2⟩,z3⟩,z4⟩,z5⟩,z6⟩:=q
   subst z1 z2
   have sb:∀D,(Value.ref C'::tl).contains (.ref D)=wk K C' D:=fun D=>by unfold wk;rw[ho];show _=cd.mro.contains _;rw[em]
   obtain⟨nm,bs,mro,ns,qn,hd,sn,sub,ab,cl,del⟩:=cd
   dsimp only at em z3 z5 z6
   subst em z3
   obtain⟨l⟩:=sl
   have es':l = [a0,a1,a2,a3,some (.builtin "ValueError.__new__"),a5]:=es
   subst es'
   exact⟨tl,ns,nm,qn,bs,hd,sn,sub,ab,cl,dd,a0,a1,a2,a3,a5,_,hk _ _ ho,.of_isNs (PySem.W.isNs_of_in hk z5),PySem.W.nsMap_none_of_in hk z5 z6,PySem.W.tail_of_in hk z4,sb⟩
  next=>cases q
 next=>cases q
section
variable {X:Cx}
def tRaise(C:Addr)(W:XW)(ta:TA):TS:=fun _ σ H=>ta σ H fun vs H1=>vs.length≤sizeLine∧W σ (.ref C) H1
theorem y9{x:Str}{C:Addr}{W:XW}{np cpos pos:Pos}{e:Expr}{es:List Expr}{ta:TA}(hc:X.calm=true)(md:Md X W)(hg:Gl X x)(hm:X.mg x=some (.ref C))(hx:ExC X.K C)(ha:PA X (e::es) ta)
 (hdb:(x==("__debug__" : Str))=false:=by decide) (he:starEach (e::es) X.env=(false,eval e X.env)::starEach es X.env:=by rfl) (hpl:(backTo cpos (starEach es X.env)).any (·.1)=false:=by rfl) :
 PS X (.Raise (some (.Call (.Name x np) (e::es) [] cpos)) none pos) (tRaise C W ta):=by
 intro pins s σ H D I h
 obtain⟨tl,N,nm,qn,bs,hd,sn,sb,ab,cl,dd,a0,a1,a2,a3,a5,mN,hC,hN,hni,T,_⟩:=zg7 I.mod.kin hx
 refine wpAny_Raise_call_subT (C:=C) (bm:=tl) (nm:=nm) (q:=qn) (N:=N) (bs:=bs) (hdct:=hd) (sn:=sn) (sub:=sb) (ab:=ab) (col:=cl) (dd:=dd) (k0:=a0) (k1:=a1) (k2:=a2) (k3:=a3) (k5:=a5) PySem.F.excBase_ValueError (mN:=mN) (T.hasType (by decide)) (I.ok.hd hc) (by rw[he];show(false || (backTo cpos (starEach es X.env)).any (·.1))=false;rw[hpl];rfl) hni (zc2 I hg hm ⟨rfl,?_⟩ hdb)
 have hA:=ha cpos pins s σ H _ I h
 rw[he] at hA ⊢
 refine Calls.evalArgs_plain (thn hA fun us s1 ⟨vs,H1,I1,r1,hz,q⟩=>⟨rfl,by show us.length≤sizeLine;rw[← r1.length];exact hz,I1.bk _ _ hC,hN.keeps I1.bk,T.keeps I1.bk,fun h' x mk=>?_⟩)
 exact md pins σ H1 s1 x (.ref C) us h' I1 mk q
end
structure CanX (P:Program) (w:World) (K:PySem.W.Frag) (mg:Str→Option Value) (base:Heap) (k:Nat) (x:Str) (ps:List Str) (sp:Sp):Prop where
 ex:∃f fd,FnOk P w K mg base (CX1 P w) k f fd ps sp∧mg x=some (.ref f)∧PySem.W.keepIn K (.ref f)=true∧zaH K fd ps []
theorem CanX.of{P:Program}{w:World}{K:PySem.W.Frag}{mg:Str→Option Value}{base:Heap}{k:Nat}{x:Str}{ps:List Str}{sp:Sp}{f:Addr}{fd:FuncData}{qual:Str}{st:Stmt}
 (F:Fun K x qual st f fd) (G:FnOk P w K mg base (CX1 P w) k f fd ps sp) (hm:mg x=some (.ref f)) (b:zaH K fd ps []):CanX P w K mg base k x ps sp:=⟨f,fd,G,hm,F.kp,b⟩
theorem Fun.okX{P:Program}{w:World}{K:PySem.W.Frag}{mg:Str→Option Value}{base:Heap}{x qual:Str}{st:Stmt}{f:Addr}{fd:FuncData}{N ps:List Str}{k:Nat}{sp:Sp}(F:Fun K x qual st f fd)(S:FnScope N ps (zc st))(len:∀vs H Q E,sp vs H Q E→vs.length=ps.length)
 (hbody:∀(X:Cx) (W:XW) (cdv:Value) (A:Around) (outer:List Env) (s:Shared) (H:Hp) (vs:List V) (Q:VK) (E:XK),X=zb0 (CX1 P w) P w K mg base N qual (zc st) f cdv A outer s H E→W=(fun _ cls H'=>E cls none H')→Fl X W→Md X W→Room k X.A→sp vs H Q E →
   ∃t,PSs X (zp st) t∧t { nx:=fun _ H'=>Q .non H',rt:=Q } (zdB N vs) H):FnOk P w K mg base (CX1 P w) (k+1) f fd ps sp:=by
 obtain⟨oc,od,kV,doc,pm,an,cdv,ct,osl,rfl,lk,hcd⟩:=F.ex
 refine fn_of lk hcd S len fun A outer s H vs Q E hr hsp=>?_
 exact hbody _ _ cdv A outer s H vs Q E rfl rfl fly_def md_def hr hsp
def tCallX(W:XW)(sp:Sp)(t:TA):TE:=fun σ H Q=>t σ H fun vs H1=>sp vs H1 Q fun cls _ H'=>W σ cls H'
section
variable {X:Cx} {k:Nat} {x:Str} {ps:List Str} {sp:Sp} {p pos:Pos} {e:Expr} {es:List Expr} {t:TA} {W:XW}
theorem zgI{pins:List (Addr × Obj)}{σ:St}{H:Hp}{s:Shared}{Q:VK}{us:List Value}{vs:List V}{f:Addr}{fd:FuncData}(F:FnOk X.prog X.w X.K X.mg X.base (CX1 X.prog X.w) k f fd ps sp)(hr:Room k X.A)(hb:zaH X.K fd ps [])(fl:Fl X W)
 (I:Inv X pins σ H s) (r:zI vs us) (h:sp vs H Q fun cls _ H'=>W σ cls H'):wpAny (model X.prog X.w) X.A (call (.ref f) us) (EP X pins σ Q) X.xe s:=by
 have hl:us.length=ps.length:=by rw[← r.length];exact F.len _ _ _ _ h
 have hb':=hb s us I.kIn (by rw[List.append_nil];exact hl)
 rw[List.append_nil] at hb'
 refine wpAny_call (codeAny_mono (F.run X.A X.stack s H ⟨us,[]⟩ us vs Q _ hr I.env0 hb' r h) fun r s' hq=>?_)
 cases r with
 | error e =>
   obtain⟨y,cls,H',rfl,fly,w⟩:=hq
   exact fl pins σ H s y cls H' s' I fly w
 | ok fl' =>
   cases fl' with
   | ret u=>exact I.after hq
   | next=>exact False.elim hq
   | brk=>exact False.elim hq
   | cont=>exact False.elim hq
theorem ww(C:CanX X.prog X.w X.K X.mg X.base k x ps sp)(fl:Fl X W)(hr:Room k X.A)(hg:Gl X x)(ha:PA X (e::es) t)(hdb:(x==("__debug__" : Str))=false:=by decide)(he:starEach (e::es) X.env=(false,eval e X.env)::starEach es X.env:=by rfl)
 (hpl:(backTo pos (starEach es X.env)).any (·.1)=false:=by rfl):PE X (.Call (.Name x p) (e::es) [] pos) (tCallX W sp t):=by
 obtain⟨f,fd,F,hm,hk,hb⟩:=C.ex
 intro pins s σ H Q I h
 refine wpAny_Call_Name_kw (zc2 I hg hm ?_ hdb)
 refine PySem.W.callWith_K (h₀:=X.base) I.ok.mod.kin hk (thn (ha pos pins s σ H _ I h) fun us s1 ⟨vs,H1,I1,r,q⟩=>⟨I1.kIn,?_⟩) he hpl
 exact zgI F hr hb fl I1 r q
end
def wV(x:Addr)(cls:Value):HO:=.ext fun h=>∃o,h.get? x=some o∧o.cls=cls
def zcV(X:Cx)(x:Addr):Cx:={ X with A:=X.A.mark (some (.ref x)),calm:=false,xe:=fun _ _=>False }
section
variable {X:Cx} {pins:List (Addr × Obj)} {σ:St} {H H':Hp} {s s':Shared} {x:Addr} {cls:Value}
theorem Cx.Ok.suite(ok:X.Ok):(zcV X x).Ok :=
 ⟨ok.mod,ok.kind,ok.glob,ok.blt,ok.above,ok.inj,ok.has,ok.cab,fun z=>Bool.noConfusion (show false=true from z),ok.frames,ok.stk,ok.exf,ok.bs,ok.bsz,ok.noex,ok.exfs,ok.funs,ok.frf⟩
theorem Inv.suite(I:Inv X pins σ H s):Inv (zcV X x) pins σ H s:=⟨I.ok.suite,I.os,I.bare,I.base,I.loc,I.cell,I.free,I.freeC,I.pin,I.hok,I.len⟩
theorem Inv.unsuite(ok:X.Ok)(I:Inv (zcV X x) pins σ H s):Inv X pins σ H s:=⟨ok,I.os,I.bare,I.base,I.loc,I.cell,I.free,I.freeC,I.pin,I.hok,I.len⟩
theorem Fly.inv(I:Inv X pins σ H s)(f:Fly X.prog X.w X.stack H s x cls H' s'):Inv X pins σ H' s':=by
 obtain⟨B,a0,hfl,hB,k1,k2⟩:=f.ex
 refine I.call' (ch := []) f.os (f.un (a0:=a0) (l:=X.stack) hB k1 k2 hfl.1 f.slot I.stkFree) (hB.kept hfl.1) f.bare fun b z=>nomatch z
theorem Fly.to(I:Inv X pins σ H s)(f:Fly X.prog X.w X.stack H s x cls H' s'){B h:Heap}{a0:Value}(hB:HOk X.prog X.w H' B)(k1:∀b o,s.heap.get? b=some o→H b=none→b∉frs X.stack→B.get? b=some o)
 (k2:∀b o,s.heap.get? b=some o→b∉frs X.stack→∃o',B.get? b=some o') (hfl:Heap.FlyingW B X.stack x cls a0 h) (up:s'.heap.UpToSlots h):Fly X.prog X.w X.stack H s x cls H' { s' with heap:=h } :=
 ⟨f.os,f.bare,⟨B,a0,hfl,hB,k1,k2⟩,fun b o e n hb=>by
  obtain⟨sl,e1⟩:=f.slot b o e n hb
  obtain⟨sl2,e2⟩:=up b _ e1 (show ∀vs,o.data ≠ .fields vs from I.nodata hb e)
  exact⟨sl2,e2⟩,f.free,f.tups,f.frzs,f.tbls,f.new⟩
theorem fly_land{M:Model}{E:Value→Shared→Prop}{Q:Unit→Shared→Prop}(I:Inv X pins σ H s)(f:Fly X.prog X.w X.stack H s x cls H' s')(hst:X.stack=X.env::X.outer)(hf:X.env.frame=some X.env.locals)
 (k:∀s'',Fly X.prog X.w X.stack H s x cls H' s''→Q () s''):wpAny M X.A (noteFrame (.ref x) X.env) (fun _ s2=>wpAny M X.A (setFlight (.ref x) none) Q E s2) E s':=by
 obtain⟨B,a0,hfl,hB,k1,k2⟩:=f.ex
 have hfl':=hfl
 rw[hst] at hfl'
 refine wpAny_looks_onW (base:=B) (by rw[← hst];exact I.ok.frames) hf hfl' fun h1 hh up1=>?_
 refine wpAny_landsW hh fun h2 hfl2 up2=>?_
 rw[← hst] at hfl2
 exact k _ (f.to I hB k1 k2 hfl2 (up1.trans up2))
theorem zjn{M:Model}{A:Around}{E:Value→Shared→Prop}{Q:Unit→Shared→Prop}(I:Inv X pins σ H s)(f:Fly X.prog X.w X.stack H s x cls H' s')
 (k:∀s'',Fly X.prog X.w X.stack H s x cls H' s''→Q () s''):wpAny M A (setFlight (.ref x) none) Q E s':=by
 obtain⟨B,a0,hfl,hB,k1,k2⟩:=f.ex
 exact lands_againW hfl fun h2 hfl2 up2=>k _ (f.to I hB k1 k2 hfl2 up2)
theorem Fly.there(f:Fly X.prog X.w X.stack H s x cls H' s'):∃o,s'.heap.get? x=some o∧o.cls=cls:=by
 obtain⟨B,a0,hfl,_⟩:=f.ex
 exact hfl.there
theorem Inv.track(I:Inv X pins σ H s)(hx:H x=none)(he:∃o,s.heap.get? x=some o∧o.cls=cls)(ne:x≠X.env.locals)(nc:∀y c,X.env.cells.lookup y=some c→c≠x)(np:∀p∈X.pn++pins,p.1≠x)(nb:X.s₀.heap.get? x=none):Inv X pins σ (upd H x (wV x cls)) s:=by
 obtain⟨o,eo,ec⟩:=he
 refine⟨I.ok,I.os,I.bare,⟨I.base.keep,I.base.slot,fun b ob q n hb=>?_,I.base.there,fun b xs q=>?_,fun b ob u q=>?_,fun b ps q=>?_⟩,I.loc,I.cell,?_,fun y c e=>?_,fun p hp=>?_,fun b u q=>?_,I.len⟩
 ·rw[zi (fun z=>by rw[z,nb] at q;cases q)];exact I.base.free b ob q n hb
 ·have:=I.base.tups b xs q;rw[zi (zk this hx)];exact this
 ·have:=I.base.frzs b ob u q;rw[zi (zk this hx)];exact this
 ·obtain⟨m,e⟩:=I.base.tbls b ps q
  exact⟨m,by rw[zi (zk e hx)];exact e⟩
 ·rw[zi (Ne.symm ne)];exact I.free
 ·rw[zi (nc y c e)];exact I.freeC y c e
 ·obtain⟨p1,p2,p3⟩:=I.pin p hp
  exact⟨p1,by rw[zi (np p hp)];exact p2,p3⟩
 ·by_cases hb:b=x
  ·subst hb
   rw[ze] at q;cases q
   exact⟨⟨o,eo,ec⟩,⟨o,eo⟩,fun h1 h2 ⟨o1,e1,c1⟩ k=>⟨o1,k o1 e1,c1⟩⟩
  ·rw[zi hb] at q
   exact(I.hok b u q).stay (fun c v _ z=>z) (fun c z=>by rw[zi (zk z hx)];exact z) fun c xs z=>by rw[zi (zk z hx)];exact z
theorem zeJ{M:Model}{A:Around}{E:Value→Shared→Prop}{i:Nat}{n:Str}{pos:Pos}{Q:Unit→Shared→Prop}(I:Inv X pins σ H s)(hN:X.N.Nodup)(hi:X.N[i]? = some n)(hk:X.env.scope.names.lookup n=some .local)
 (h:∀s',Inv X pins (σ.set i none) H s'→Q () s'):wpAny M A (do bindName X.env n .none;unbindBehindTheSuite X.env n pos) Q E s:=by
 obtain⟨m,hn,hl⟩:=id I.loc
 have hcls:(X.env.scope.kind == .class || (X.env.scope.kind == .module && X.env.locals != X.env.globals))=false:=by rw[I.ok.kind];rfl
 refine wpAny_nameGoes_keeps hk hn hcls fun h' v hn' hs=>?_
 obtain⟨oL,_,_,hoL,_⟩:=id hn
 have lt:∀b o,X.s₀.heap.get? b=some o→b≠X.env.locals:=fun b o e=>Nat.ne_of_lt (Nat.lt_of_lt_of_le (Heap.lt_size e) I.ok.above)
 refine h _ ⟨I.ok,I.os,I.bare,⟨fun b o e q hb hx=>(hs.2 b (lt b o e)).trans (I.base.keep b o e q hb hx),fun b o e q hb hx=>?_,I.base.free,fun b o e hx=>?_,I.base.tups,I.base.frzs,I.base.tbls⟩,⟨_,hn',fun j y w e1 e2 e3=>?_⟩,fun y c e=>?_,I.free,I.freeC,fun p hp=>?_,fun b ob e=>?_,by simpa using I.len⟩
 ·obtain⟨sl,e1⟩:=I.base.slot b o e q hb hx
  exact⟨sl,(hs.2 b (lt b o e)).trans e1⟩
 ·obtain⟨o',e1⟩:=I.base.there b o e hx
  exact⟨o',(hs.2 b (lt b o e)).trans e1⟩
 ·have hji:j≠i:=fun z=>by
   subst z
   rw[List.getElem?_set_self (by rw[I.len];exact(List.getElem?_eq_some_iff.mp hi).1)] at e2
   cases e2
  rw[List.getElem?_set_ne (Ne.symm hji)] at e2
  obtain⟨u,r,q⟩:=hl j y w e1 e2 e3
  refine⟨u,r,?_⟩
  rcases q with⟨k,e⟩ | ⟨k,c,e,z⟩
  ·refine .inl ⟨k,?_⟩
   have:y≠n:=fun e=>hji (zfa hN e1 (e ▸ hi))
   simp[this,e]
  ·exact .inr ⟨k,c,e,z.sameBut hs (I.cne y c e)⟩
 ·obtain⟨w',z⟩:=I.cell y c e
  exact⟨w',z.sameBut hs (I.cne y c e)⟩
 ·obtain⟨e,q,ne,nf,d⟩:=I.pin p hp
  exact⟨(hs.2 p.1 ne).trans e,q,ne,nf,d⟩
 ·refine(I.hok b ob e).stay (fun c w' hc q=>(hs.2 c ?_).trans q) (fun _ q=>q) fun _ _ q=>q
  rintro rfl
  have nl:=I.free
  rcases hc with hc | hc
  ·rw[hc,e] at nl;cases nl
  ·rw[nl] at hc;cases hc
end
theorem zjt{M:Model}{A:Around}{E:Value→Shared→Prop}{h:Heap}{g:Array GenState}{d:Drawn}{t:Nat}{os:OsState}{K:PySem.W.Frag}{e C D:Addr}{oe:Obj}{Q:Bool→Shared→Prop}(hk:K.In h)(xC:ExC K C)(xD:ExC K D)
 (he:h.get? e=some oe) (hcls:oe.cls=.ref C) (hq:Q (wk K C D) ⟨h,g,d,t,os⟩):wpAny M A (excMatches (.ref e) (.ref D)) Q E ⟨h,g,d,t,os⟩:=by
 obtain⟨tl,N,nm,qn,bs,hd,sn,sb,ab,cl,dd,a0,a1,a2,a3,a5,mN,hC,hN,hni,T,sub⟩:=zg7 hk xC
 obtain⟨tl',N',nm',qn',bs',hd',sn',sb',ab',cl',dd',b0,b1,b2,b3,b5,mN',hD,hN',hni',T',sub'⟩:=zg7 hk xD
 have cB:(Value.ref D::tl').contains (.type "BaseException")=true:=by rw[List.contains_cons,T'.hasType (X:= "BaseException") (b:=true) (by decide),Bool.or_true]
 have cD:=sub D
 have f:=tc_notTuple
 unfold excMatches
 repeat (first | (with_reducible refine wpAny_loadPart_at he ?_;rw[hcls]) | with_reducible refine wpAny_loadPart_at hD ?_ | (with_reducible refine wpAny_isSubtype_exc hD ?_;rw[cB]) | (with_reducible refine wpAny_isSubtype_exc hC ?_;rw[cD]) | wp_step)
 all_goals (cases hb:wk K C D <;> (rw[hb] at hq;first | exact hq | (wp_walk;exact hq)))
def PH(X:Cx)(hs:List ExceptHandler)(th:Value→TS):Prop :=
 ∀(pins:List (Addr × Obj)) (s0 s:Shared) (σ:St) (H H':Hp) (x:Addr) (cls:Value) (D:Ends),Inv X pins σ H s0→Fly X.prog X.w X.stack H s0 x cls H' s→th cls D σ H'→wpAny (model X.prog X.w) X.A (handleBy (.ref x) X.env hs) (SP X pins D) X.xe s
def thNever:Value→TS:=fun _ _ _ _=>False
theorem ph_never{X:Cx}{hs:List ExceptHandler}:PH X hs thNever:=fun _ _ _ _ _ _ _ _ _ _ _ h=>h.elim
def Ends.gone(D:Ends)(i:Nat):Ends:=⟨fun σ H=>D.nx (σ.set i none) H,D.rt,fun σ H=>D.bk (σ.set i none) H,fun σ H=>D.ct (σ.set i none) H⟩
def thAs(K:PySem.W.Frag)(Dx:Addr)(i:Nat)(ts:TS)(tr:Value→TS):Value→TS:=fun cls D σ H=>∃C,cls=.ref C∧ExC K C ∧
 if wk K C Dx=true then ∀x,H x=none→ts (D.gone i) (σ.set i (some (.ref x))) (upd H x (wV x (.ref C)))else tr cls D σ H
section
variable {X:Cx} {x n:Str} {Dx:Addr} {np hpos:Pos} {b0:Stmt} {suite:List Stmt} {zbR:List ExceptHandler} {ts:TS} {tr:Value→TS} {i:Nat}
theorem SP.back{pins:List (Addr × Obj)}{D:Ends}{y:Addr}(ok:X.Ok){f:Flow}{s:Shared}(h:SP (zcV X y) pins D f s):SP X pins D f s:=by
 cases f with
 | next=>obtain⟨σ',H',I,q⟩:=h;exact⟨σ',H',I.unsuite ok,q⟩
 | brk=>obtain⟨σ',H',I,q⟩:=h;exact⟨σ',H',I.unsuite ok,q⟩
 | cont=>obtain⟨σ',H',I,q⟩:=h;exact⟨σ',H',I.unsuite ok,q⟩
 | ret u=>obtain⟨v,σ',H',I,r,q⟩:=h;exact⟨v,σ',H',I.unsuite ok,r,q⟩
theorem ph_as(hg:Gl X x)(hm:X.mg x=some (.ref Dx))(hx:ExC X.K Dx)(hN:X.N.Nodup)(hi:X.N[i]? = some n)(hk:X.env.scope.names.lookup n=some .local)(hs:∀y,PSs (zcV X y) (b0::suite) ts)(hr:PH X zbR tr)(hex:X.ex = []:=by rfl)
 (hdb:(x==("__debug__" : Str))=false:=by decide):PH X (.ExceptHandler (some (.Name x np)) (some n) (b0::suite) hpos::zbR) (thAs X.K Dx i ts tr):=by
 intro pins s0 s σ H H' y cls D I fl h
 obtain⟨C,rfl,hC,h⟩:=h
 have I1:Inv X pins σ H' s:=fl.inv I
 obtain⟨oe,he,hcls⟩:=fl.there
 refine wpAny_handleBy_cons (codeAny_handlers_test ?_) (by intro q;cases q)
 refine zc2 (X:=zcV X y) I1.suite hg hm ?_ hdb
 refine zjt (K:=X.K) (g:=s.gens) (d:=s.drawn) (t:=s.toks) (os:=s.os) I1.kIn hC hx he hcls ?_
 cases hb:wk X.K C Dx with
 | false =>
   rw[hb,if_neg Bool.false_ne_true] at h
   exact hr pins s0 s σ H H' y (.ref C) D I fl h
 | true =>
   rw[hb,if_pos rfl] at h
   show codeAny _ _ (.handlers (.ref y) [.ExceptHandler none (some n) (b0::suite) hpos] X.env) _ s
   refine codeAny_handlers_suite_as ?_
   refine zjn I fl fun s2 fl2=>?_
   have I2:Inv X pins σ H' s2:=fl2.inv I
   have hyn:H' y=none:=fl2.new
   obtain⟨B,a0,hfl,hB,k1,k2⟩:=fl2.ex
   have nB:B.get? y=none:=hfl.2.1
   have nst:y∉frs X.stack:=fun z=>by
    obtain⟨_,o1,e1,d⟩:=hfl.2.2.1.mem z
    obtain⟨o2,vs,e2,_,d2,_⟩:=hfl.first
    rw[e1] at e2;cases e2
    exact d _ d2
   have n0:s0.heap.get? y=none:=by
    cases q:s0.heap.get? y with
    | none=>rfl
    | some o=>obtain⟨o',e⟩:=k2 y o q nst;rw[nB] at e;cases e
   have J:Inv X pins σ (upd H' y (wV y (.ref C))) s2:=by
    refine I2.track hyn fl2.there (fun z=>?_) (fun z c e q=>?_) (fun p hp q=>?_) ?_
    ·obtain⟨m,⟨o,_,_,ho,_⟩,_⟩:=I.loc
     rw[← z,n0] at ho;cases ho
    ·obtain⟨v,o,ho,_⟩:=I.cell z c e
     rw[q,n0] at ho;cases ho
    ·have:=(I.pin p hp).1
     rw[q,n0] at this;cases this
    ·cases q:X.s₀.heap.get? y with
     | none=>rfl
     | some o =>
       obtain⟨o',e⟩:=I.base.there y o q (by rw[hex];exact List.not_mem_nil)
       rw[n0] at e;cases e
   have J':Inv (zcV X y) pins σ (upd H' y (wV y (.ref C))) s2:=J.suite
   refine zfi (X:=zcV X y) J' hN hi (.inl hk) (show yb (.ref y) (.ref y)from rfl) (fun s3 I3=>?_) (.inr hk)
   refine wpAny_mono (hs y pins s3 _ _ (D.gone i) I3 (h y hyn)) (fun f s4 q4=>?_) fun _ _ z=>False.elim z
   have q5:=SP.back I.ok q4
   cases f with
   | next=>obtain⟨σ',H2,I4,q⟩:=q5;exact zeJ I4 hN hi hk fun s5 I5=>⟨_,_,I5,q⟩
   | brk=>obtain⟨σ',H2,I4,q⟩:=q5;exact zeJ I4 hN hi hk fun s5 I5=>⟨_,_,I5,q⟩
   | cont=>obtain⟨σ',H2,I4,q⟩:=q5;exact zeJ I4 hN hi hk fun s5 I5=>⟨_,_,I5,q⟩
   | ret u=>obtain⟨v,σ',H2,I4,r,q⟩:=q5;exact zeJ I4 hN hi hk fun s5 I5=>⟨v,_,_,I5,r,q⟩
abbrev _root_.L2.Cx.inTry(X:Cx)(E:Value→Shared→Prop)(pn:List (Addr × Obj)):Cx:={ X with xe:=E,pn:=pn }
def tTry(tb:XW→TS)(th:Value→TS):TS:=fun D σ H=>∃W:XW,tb W D σ H∧∀σ1 cls H1,W σ1 cls H1→th cls D σ1 H1
theorem Inv.tried{E:Value→Shared→Prop}{pins:List (Addr × Obj)}{σ:St}{H:Hp}{s:Shared}(I:Inv X pins σ H s):Inv (X.inTry E (X.pn++pins)) [] σ H s :=
 ⟨⟨I.ok.mod,I.ok.kind,I.ok.glob,I.ok.blt,I.ok.above,I.ok.inj,I.ok.has,I.ok.cab,I.ok.hd,I.ok.frames,I.ok.stk,I.ok.exf,I.ok.bs,I.ok.bsz,I.ok.noex,I.ok.exfs,I.ok.funs,I.ok.frf⟩,I.os,I.bare,I.base,I.loc,I.cell,I.free,I.freeC,fun p hp=>I.pin p (by simpa using hp),I.hok,I.len⟩
theorem Inv.untried{E:Value→Shared→Prop}{pins pins1:List (Addr × Obj)}{σ:St}{H:Hp}{s:Shared}(I:Inv (X.inTry E (X.pn++pins)) pins1 σ H s):Inv X pins σ H s :=
 ⟨⟨I.ok.mod,I.ok.kind,I.ok.glob,I.ok.blt,I.ok.above,I.ok.inj,I.ok.has,I.ok.cab,I.ok.hd,I.ok.frames,I.ok.stk,I.ok.exf,I.ok.bs,I.ok.bsz,I.ok.noex,I.ok.exfs,I.ok.funs,I.ok.frf⟩,I.os,I.bare,I.base,I.loc,I.cell,I.free,I.freeC,fun p hp=>I.pin p (List.mem_append_left _ hp),I.hok,I.len⟩
theorem ps_try{body:List Stmt}{h0:ExceptHandler}{hs:List ExceptHandler}{pos:Pos}{tb:XW→TS}{th:Value→TS}(hst:X.stack=X.env::X.outer)(hf:X.env.frame=some X.env.locals)
 (hb:∀(E:Value→Shared→Prop) (pn:List (Addr × Obj)) (W:XW),Fl (X.inTry E pn) W→PSs (X.inTry E pn) body (tb W)) (hh:PH X (h0::hs) th):PS X (.Try body (h0::hs) [] [] pos) (tTry tb th):=by
 intro pins s σ H D I h
 obtain⟨W,h1,h2⟩:=h
 refine wpAny_Try_except ?_
 refine wpAny_mono (hb (fun e s₁=>wpAny (model X.prog X.w) X.A (noteFrame e X.env) (fun _ s₂=>wpAny (model X.prog X.w) X.A (setFlight e none) (fun _ s₃=>wpAny (model X.prog X.w) X.A (handleBy e X.env (h0::hs)) (SP X pins D) X.xe s₃) X.xe s₂) X.xe s₁) (X.pn++pins) W ?_ [] s σ H D I.tried h1) (fun f s1 q=>?_) fun e s1 q=>q
 ·intro pins1 σ1 H1 s1 x cls H' s' I1 fly w1
  exact fly_land (X:=X) (pins:=pins) I1.untried fly hst hf fun s2 fly2=>hh pins s1 s2 σ1 H1 H' x cls D I1.untried fly2 (h2 σ1 cls H' w1)
 ·cases f with
  | next=>obtain⟨σ',H',I',q⟩:=q;exact wpAny_execs_nil ⟨σ',H',I'.untried,q⟩
  | brk=>obtain⟨σ',H',I',q⟩:=q;exact⟨σ',H',I'.untried,q⟩
  | cont=>obtain⟨σ',H',I',q⟩:=q;exact⟨σ',H',I'.untried,q⟩
  | ret u=>obtain⟨v,σ',H',I',r,q⟩:=q;exact⟨v,σ',H',I'.untried,r,q⟩
end
theorem zf9{M:Model}{h:Heap}{x:Addr}{o:Obj}{t:Value}(e:h.get? x=some o)(c:o.cls=t):PySem.W.Looks M h (typeOf (.ref x)) t:=by
 intro A Q E s k q
 show wpAny M A (loadHead x >>= fun o=>pure o.cls) Q E s
 unfold loadHead
 exact wpAny_bind (wpAny_loadPart (k _ _ e) (wpAny_pure (by rw[c];exact q)))
section
variable {X:Cx}
end
theorem zgl{X:Cx}:Fl X fun _ _ _=>False:=fun _ _ _ _ _ _ _ _ _ _ h=>h.elim
abbrev zf(K:PySem.W.Frag)(x:Str)(C:Addr):Prop:=PySem.W.nsIn K mainGlobals x=some (some (.ref C))
theorem zf.inj{K:PySem.W.Frag}{x:Str}{C D:Addr}(a:zf K x C)(b:zf K x D):C=D:=by
 have:=a.symm.trans b
 cases this
 rfl
theorem zco{X:Cx}{x:Str}{C:Addr}{pos:Pos}(hg:Gl X x)(hm:X.mg x=some (.ref C))(hd:(x==("__debug__" : Str))=false:=by decide):PE X (.Name x pos) (tC (.ref C)):=zi6 hg hm rfl hd
section
variable {X:Cx} {K:PySem.W.Frag}
theorem zfA(h:X.K=K):IxR X (rIxL K):=by subst h;exact zM
theorem zjo(h:X.K=K):MtM X "list.index" (rIndex K):=by subst h;exact zb1
theorem zc8(h:X.K=K):zas X (.builtin "len") (fun xs H Q=>∃p ys,xs = [.ref p]∧(SqL K H p ys∨SqT K H p ys)∧Q (.int ys.length) H):=by subst h;exact zq
theorem pi_listK{tg l:Expr}{tl:TE}(h:X.K=K)(hl:PE X l tl):PI X tg l (iList K tl):=by subst h;exact zK hl
theorem pe_bmK{o e:Expr}{es:List Expr}{to:TE}{t:TA}{name:Str}{apos cpos:Pos}{T id:String}{r:V→List V→Hp→VK→Prop}(h:X.K=K)(pa:PlainAttrs T)(slot:Slot T name id)(hty:typeOf (.builtin id)=pure (.type "method_descriptor"))(hm:MtR X id r)(ho:PE X o to)(ha:PA X (e::es) t)
 (hbase:attributeBase o name X.env (eval o X.env)=eval o X.env:=by rfl)
 (hfew:((backTo cpos (starEach (e::es) X.env)).all (fun x => !x.1) && (backToKw cpos (keywordEach [] X.env)).all (fun x=>x.1.isSome)
   && decide ((e::es).length+([]:List Keyword).length+(if([]:List Keyword).isEmpty then 0 else 1)<30))=true:=by rfl)
 (hline:(apos.endLine==cpos.line)=true:=by rfl) (hs:starEach (e::es) X.env=(false,eval e X.env)::starEach es X.env:=by rfl) (hplain:(backTo cpos (starEach es X.env)).any (·.1)=false:=by rfl) :
 PE X (.Call (.Attribute o name apos) (e::es) [] cpos) (tBM K T r to t):=by subst h;exact za1 pa slot hty hm ho ha hbase hfew hline hs hplain
end
theorem zgQ{b:Bool}{A B:Prop}(h:b=true)(k:A):if b=true then A else B:=by rw[if_pos h];exact k
section
variable {α:Type} [DecidableEq α]
def zd0(acc:List α)(v:α):List α:=if v∈acc then acc else acc ++ [v]
def met(val:Nat→α)(i:Nat):List α:=((List.range i).map val).foldl zd0 []
theorem zfB(val:Nat→α)(i:Nat):met val (i+1)=zd0 (met val i) (val i):=by
 unfold met;rw[List.range_succ,List.map_append,List.foldl_append];rfl
theorem zfm{acc:List α}{v k:α}:k∈zd0 acc v↔k∈acc∨k=v:=by
 unfold zd0
 split
 ·rename_i h
  exact⟨.inl,fun z=>z.elim id fun e=>by rw[e];exact h⟩
 ·rw[List.mem_append,List.mem_singleton]
theorem ze6(acc:List α)(v:α):(zd0 acc v).length=if decide (v∈acc)=true then acc.length else acc.length+1:=by
 unfold zd0
 by_cases h:v∈acc
 ·rw[if_pos h,decide_eq_true h,if_pos rfl]
 ·rw[if_neg h,decide_eq_false h,if_neg (by decide),List.length_append];rfl
theorem ziK(val:Nat→α):∀i,(met val i).length≤i
 | 0=>Nat.le_refl _
 | i+1=>by
   rw[zfB,ze6]
   have:=ziK val i
   split <;> omega
theorem met_list(ts:List α)(d:α):met (fun i=>ts.getD i d) ts.length=ts.foldl zd0 []:=by
 unfold met
 congr 1
 refine List.ext_getElem (by simp) fun i h1 h2=>?_
 rw[List.getElem_map,List.getElem_range,List.getD_eq_getElem?_getD,List.getElem?_eq_getElem h2]
 rfl
theorem zgr(acc ts:List α):(ts.foldl zd0 acc).length≤acc.length+ts.length:=by
 induction ts generalizing acc with
 | nil=>exact Nat.le_refl _
 | cons a ts ih =>
   rw[List.foldl_cons]
   refine Nat.le_trans (ih _) ?_
   rw[ze6,List.length_cons]
   split <;> omega
theorem zfd(acc ts:List α)(hacc:acc.Nodup):(ts.foldl zd0 acc).length=acc.length+ts.length↔(acc++ts).Nodup:=by
 induction ts generalizing acc with
 | nil=>simpa using hacc
 | cons a ts ih =>
   rw[List.foldl_cons]
   by_cases h:a∈acc
   ·have e:zd0 acc a=acc:=by unfold zd0;rw[if_pos h]
    rw[e]
    constructor
    ·intro q
     have:=zgr acc ts
     rw[List.length_cons] at q
     omega
    ·intro q
     rw[List.nodup_append] at q
     exact absurd rfl (q.2.2 a h a List.mem_cons_self)
   ·have e:zd0 acc a=acc ++ [a]:=by unfold zd0;rw[if_neg h]
    have hn:(acc ++ [a]).Nodup:=by
     rw[List.nodup_append]
     exact⟨hacc,by simp,fun x hx y hy z=>h (by rw[List.mem_singleton.mp hy] at z;rw[← z];exact hx)⟩
    rw[e]
    have:=ih (acc ++ [a]) hn
    rw[List.append_assoc,List.singleton_append] at this
    rw[← this,List.length_append,List.length_singleton,List.length_cons]
    omega
theorem zhL(ts:List α)(d:α):(met (fun i=>ts.getD i d) ts.length).length=ts.length↔ts.Nodup:=by
 rw[met_list]
 have:=zfd [] ts List.nodup_nil
 simpa using this
end
section
variable {prog:Program} {w:World} {A:Around} {R:Result→Shared→Prop} {it:Addr} {fp wr:List Addr} {G:Array GenState→Array GenState→Prop} {n:Nat} {P:Nat→Value→Prop} {St:Nat→Shared→Prop}
variable {α:Type} [DecidableEq α] {knd:KeyKind prog w α}
theorem zej{h h':Heap}{a:Addr}{S:α→Bool}{m:Nat}(x:h.SetOf knd a S m)(k:∀o,h.get? a=some o→h'.get? a=some o):h'.SetOf knd a S m:=by
 obtain⟨o,es,ep,t,ho,r⟩:=x
 exact⟨o,es,ep,t,k _ ho,r⟩
theorem zhO{h:Heap}{a:Addr}{S S':α→Bool}{m m':Nat}(x:h.SetOf knd a S m)(e:S=S')(e':m=m'):h.SetOf knd a S' m':=by subst e;subst e';exact x
theorem set_fill(W:WalksS prog w A.in1 it fp wr G n P St)(S:Addr)(hS:S∉fp)(val:Nat→α)(hv:∀i v,P i v→knd.is (val i) v=true∧v.scannable=true)(hb:n+1<scanBound):
 ∀(k i:Nat) (s:Shared),k+i=n→St i s→s.heap.SetOf knd S (fun x=>decide (x∈met val i)) (met val i).length →
  (∀s',Moved (S::wr) G s s'→s'.heap.SetOf knd S (fun x=>decide (x∈met val n)) (met val n).length→R (.ok (.ret .none)) s') →
  codeAny (model prog w) A (.builtin "set.update.loop" ⟨[.ref S,.ref it],[]⟩) R s:=by
 have hw:S∉wr:=fun z=>hS (W.sub _ z)
 intro k
 induction k with
 | zero =>
   intro i s hk st hs hR
   rw[Nat.zero_add] at hk
   subst hk
   refine codeAny_builtin F.entry_set_update_loop ?_
   rw[Around.under_plainId F.plain_set_update_loop _]
   refine wpAny_bind (W.done s _ _ st fun s' hm=>?_)
   exact wpAny_pure (hR s' (hm.mono fun b z=>List.mem_cons_of_mem _ z) (zej hs fun o e=>hm.heap S o hw e))
 | succ k ih =>
   intro i s hk st hs hR
   refine codeAny_builtin F.entry_set_update_loop ?_
   rw[Around.under_plainId F.plain_set_update_loop _]
   refine wpAny_bind (W.item i s _ _ (by omega) st fun v s' hP st' hm=>?_)
   obtain⟨kv,sv⟩:=hv i v hP
   have hs':=zej hs fun o e=>hm.heap S o hw e
   refine wpAny_bind (m:=holding [v] (setAdd S v)) (wpAny_holding ?_)
   unfold setAdd
   refine wpAny_holding (wpAny_bind (knd.pyHash kv ?_))
   refine wpAny_setAddHashed_of (knd:=knd) (s:={ s' with toks:=s'.toks+1 }) kv sv hs' (by have:=ziK val i;omega) fun h' hsb hs2=>?_
   have hs3:h'.SetOf knd S (fun x=>decide (x∈met val (i+1))) (met val (i+1)).length:=by
    refine zhO hs2 (funext fun x=>?_) ?_
    ·rw[zfB]
     by_cases h1:x∈met val i
     ·rw[decide_eq_true h1,decide_eq_true (zfm.mpr (.inl h1)),Bool.true_or]
     ·by_cases h2:x=val i
      ·rw[decide_eq_true h2,decide_eq_true (zfm.mpr (.inr h2)),Bool.or_true]
      ·rw[decide_eq_false h1,decide_eq_false h2,decide_eq_false fun z=>(zfm.mp z).elim h1 h2];rfl
    ·rw[zfB,ze6]
   refine wpAny_pure ⟨plainId_quiet F.plain_set_update_loop _,ih (i+1) _ (by omega) (W.frame _ s' _ _ st' (Nat.le_succ _) fun b hb o e=>?_) hs3 fun s'' hm''=>hR s'' ?_⟩
   ·rw[hsb.2 b fun z=>hS (by rw[← z];exact hb)];exact e
   ·refine Moved.trans W.gtrans ((hm.mono fun b z=>List.mem_cons_of_mem _ z).then_heap (Nat.le_succ _) fun b o hb e=>?_) hm''
    rw[hsb.2 b fun z=>hb (by rw[z];exact List.mem_cons_self)];exact e
end
section
variable {prog:Program} {w:World} {A:Around} {E:Value→Shared→Prop} {s:Shared} {α:Type} [DecidableEq α] {knd:KeyKind prog w α}
def Filled(knd:KeyKind prog w α)(s:Shared)(ks:List α)(s2:Shared):Prop :=
 ∃(h':Heap) (tk:Nat),s2={ s with heap:=h',toks:=tk }∧h'.SetOf knd s.heap.objs.size (fun k=>decide (k∈ks)) ks.length∧∀b o,b<s.heap.objs.size→s.heap.get? b=some o→h'.get? b=some o
set_option maxHeartbeats 3200000 in
theorem zhb{l:Addr}{items:Array Value}{val:Nat→α}{Q:Value→Shared→Prop}(hh:A.handled=none)(hl:s.heap.IsList l items)(hv:∀i v,items[i]? = some v→knd.is (val i) v=true∧v.scannable=true)(hb:items.size+1<scanBound)
 (h:∀s2,Filled knd s (met val items.size) s2→Q (.ref s.heap.objs.size) s2):wpAny (model prog w) A (call (.type "set") [.ref l]) Q E s:=by
 have hlt:l<s.heap.objs.size:=by obtain⟨o,e,_⟩:=hl;exact Heap.lt_size e
 obtain⟨c,tl,hmro⟩:=F.called_set.mro
 have hmade:=F.called_set.made
 have hsub:=F.called_set.sub
 refine wpAny_call (codeAny_of_tree ?_)
 show wpAny _ _ (callAny (.type "set") _) _ _ _
 refine wpAny_pure ⟨Code.quiet_builtin _ (by decide +kernel),codeAny_builtin F.entry_type_call ?_⟩
 rw[Around.under_plain (weight_type_call_type "set" [.ref l] []) rfl]
 have h1:=F.called_set.notType
 have h2:=F.called_set.canCreate
 have h3:=F.typeCall_set_1 (.ref l)
 repeat (any_goals (first | assumption | wp_step))
 refine codeAny_mono (code_set_new_1 (.ref l) (E:=E) (Q₁:=fun v s₁=>∃led:Bool,v=.ref s.heap.objs.size∧s₁={ s with heap:=s.heap.push { cls:=.type "set",dict:=none,data:=.set #[] 0 (.fresh 0 0 led) } }) fun led=>⟨led,rfl,rfl⟩) fun r s₁ hr=>?_
 rcases r with e | fl
 ·exact hr
 cases fl with
 | ret v =>
   obtain⟨led,rfl,rfl⟩:=hr
   generalize hob:({ cls:=.type "set",dict:=none,data:=.set #[] 0 (.fresh 0 0 led) }:Obj)=ob
   have hS:(s.heap.push ob).get? s.heap.objs.size=some ob:=Heap.get?_push_size _ (by rw[← hob];rfl)
   have hT:Shared.TypeIs { s with heap:=s.heap.push ob } (.ref s.heap.objs.size) "set" := ⟨_,hS,by rw[← hob]⟩
   have h4:=F.called_set.init.lookup
   have h5:=F.called_set.init.bind (.ref s.heap.objs.size)
   repeat (any_goals (first | assumption | wp_step))
   refine codeAny_mono (codeAny_call_builtin (R:=wants (fun r s₂=>r=.none∧Filled knd s (met val items.size) s₂) E) F.called_set.init.plain F.entry_set_init (check_set_init_1 hT ?_)) fun r₂ s₂ hr₂=>?_
   ·have hl1:(s.heap.push ob).IsList l items:=hl.push _
    obtain⟨⟨ocls,odict,odata,oslots⟩,hol,hcl,nl,hdl⟩:=id hl1
    simp only at hcl hdl
    subst hcl hdl
    have h6:=F.sub_list_set
    have h7:=F.sub_list_frozenset
    have h8:(Value.type "list" == Value.type "dict")=false:=by decide
    subst hob
    unfold Builtin.«set.__init__» noKeywords Builtin.Frozenset.updateFrom
    generalize hPI:pyIter=PI
    wp_walk
    subst hPI
    refine wpAny_pyIter_list hl1 (wpAny_bind (wpAny_runValue ?_))
    have hsz:(s.heap.push { cls:=.type "set",dict:=none,data:=.set #[] 0 (.fresh 0 0 led) }).objs.size=s.heap.objs.size+1:=Heap.size_push ..
    refine set_fill (knd:=knd) ((Walks.list (by simp[hh]) _ l (by rw[hsz];exact Nat.ne_of_lt (Nat.lt_succ_of_lt hlt)) items).toS) s.heap.objs.size ?_ val hv hb items.size 0 _ rfl ⟨⟨_,Heap.get?_push_size _ rfl,rfl,rfl⟩,hl1.push _⟩ ?_ fun s' hm hS'=>?_
    ·rw[hsz]
     simp only[List.mem_cons,List.not_mem_nil,or_false,not_or]
     exact⟨Nat.ne_of_lt (Nat.lt_succ_self _),Nat.ne_of_gt hlt⟩
    ·exact zhO ((setObjOf_fresh (knd:=knd) led).setOf (Heap.get?_push_of_some _ hS) (by unfold scanBound;omega)) rfl rfl
    ·obtain⟨h',g',d',tk',os'⟩:=s'
     have eg:g'=s.gens:=hm.gens
     have ed:d'=s.drawn:=hm.drawn
     have eo:os'=s.os:=hm.os
     subst eg ed eo
     refine wpAny_pure (show wpAny _ _ (ret Value.none) _ _ _ from wpAny_pure ⟨rfl,h',tk',rfl,hS',fun b o hb e=>?_⟩)
     refine hm.heap b o ?_ (Heap.get?_push_of_some _ (Heap.get?_push_of_some _ e))
     rw[hsz]
     simp only[List.mem_cons,List.not_mem_nil,or_false,not_or]
     exact⟨Nat.ne_of_lt hb,Nat.ne_of_lt (Nat.lt_succ_of_lt hb)⟩
   ·rcases r₂ with e | fl₂
    ·exact hr₂
    cases fl₂ with
    | ret r =>
      obtain⟨rfl,hf⟩:=hr₂
      repeat (any_goals (first | assumption | wp_step))
      exact h _ hf
    | _=>exact hr₂.elim
 | _=>exact hr.elim
end
section
variable {X:Cx}
theorem zgf:OpR X (compareOp .LtE) (fun x y H Q=>∃i j,x=.str i∧y=.str j∧Q (.bl (!decide (j.cps.toList<i.cps.toList))) H):=by
 intro pins s σ H x y v u Q I rx ry h
 obtain⟨i,j,rfl,rfl,q⟩:=h
 obtain⟨t,rfl⟩:=rx
 obtain⟨t',rfl⟩:=ry
 exact PySem.P.le_str (zW I q rfl)
def rSlS:V→Option Int→Option Int→Hp→VK→Prop:=fun x lo hi H Q=>∃z,x=.str z∧z.length≤sizeLine∧Q (.str (PySem.Txt.slice z lo hi)) H
theorem ziI{v:Value}{o:Option Int}(h:IsPart v o):∃p:Option (Int × Tok),v=partValue p∧p.map (·.1)=o:=by
 cases h with
 | none=>exact⟨none,rfl,rfl⟩
 | int i t=>exact⟨some (i,t),rfl,rfl⟩
theorem sl_str:SlR X rSlS:=by
 intro pins s σ H x v vl vu lo hi sl Q I rx hs pl pu h
 obtain⟨z,rfl,hz,q⟩:=h
 obtain⟨t,rfl⟩:=rx
 obtain⟨l,rfl,rfl⟩:=ziI pl
 obtain⟨u,rfl,rfl⟩:=ziI pu
 refine⟨"str",_,PySem.F.slot_str_getitem.lookup,typeIs_str _ _ _,wpAny_getItem_str_slice (l:=l) (u:=u) (st:=none) hs rfl (post_val_or_str ⟨Nat.le_trans (PySem.Txt.slice_le z _ _) hz,fun t' k=>?_⟩)⟩
 exact⟨.str (PySem.Txt.slice z _ _),H,I.tok _,⟨t',rfl⟩,q⟩
def Its(z:Str):It:=⟨fun i _=>i<z.length,fun i H x H'=>H'=H∧∃c,z.cps[i]? = some c∧x=.str ⟨#[c]⟩,fun i _=>i=z.length⟩
theorem zh0{P:Program}{w:World}{K:PySem.W.Frag}{tg:Expr}(it:Addr)(T:String)(z:Str)(t:Tok)
 (hT : ["enumerate","zip","dict_itemiterator","dict_reverseitemiterator","odict_iterator","itertools.zip_longest","itertools.pairwise"].contains T=false)
 (W:∀A:Around,A.handled=none→Walks P w A it [it] [it] z.cps.size (SignAt z) (fun i h=>h.IsStrIter it T z t i))
 (slf:∀(A:Around) (i:Nat) (s:Shared) (Q:Value→Shared→Prop) (E:Value→Shared→Prop),s.heap.IsStrIter it T z t i→Q (.ref it) s→wpAny (model P w) A (pyIter (.ref it)) Q E s) :
 Turn P w K tg (Its z) [it] it (fun i h=>h.IsStrIter it T z t i) where
 mem:=by simp
 obj:=fun i h st b hb=>by
  have e:b=it:=by simpa using hb
  subst e
  obtain⟨o,e,c,d⟩:=st
  exact⟨o,e,fun v z=>by rw[d] at z;cases z⟩
 keep:=fun i h h' st k=>by obtain⟨o,e,r⟩:=st;exact⟨o,k it (by simp) o e,r⟩
 item:=by
  intro X hP hw hK hc i pins s σ H E I hf st hg
  subst hP hw hK
  obtain⟨f0,f1,f2,f3,f4,f5⟩:=hf it (by simp)
  refine(W X.A (I.ok.hd hc)).item i s _ _ hg st fun v h' tk hv st' kk=>?_
  obtain⟨c,u,ec,rfl⟩:=hv
  have I1:Inv X pins σ H { s with heap:=h',toks:=tk }:=I.turned (fun b o hb e=>kk b o (by simpa using hb) e) f0 f1 f3 f4 f5
  obtain⟨o,e,c1,d⟩:=id st'
  exact⟨_,rfl,go_of (s:={ s with heap:=h',toks:=tk }) (n:=T) e c1 d hT ⟨.str ⟨#[c]⟩,H,I1,⟨u,rfl⟩,⟨rfl,c,ec,rfl⟩,st',fun b hb=>(hf b hb).1⟩⟩
 done:=by
  intro X hP hw hK hc i pins s σ H E I hf st hg
  subst hP hw hK
  obtain⟨f0,f1,f2,f3,f4,f5⟩:=hf it (by simp)
  have hg:i=z.cps.size:=hg
  subst hg
  exact(W X.A (I.ok.hd hc)).done s _ _ st fun h' tk kk=>⟨rfl,I.turned (fun b o hb e=>kk b o (by simpa using hb) e) f0 f1 f3 f4 f5⟩
 self:=fun A i s Q E st h=>slf A i s Q E st h
def iStr(tl:TE):TI:=fun σ H R=>tl σ H fun x H1=>∃z,x=.str z∧R (Its z) H1
theorem pi_str{tg l:Expr}{tl:TE}(hl:PE X l tl):PI X tg l (iStr tl):=by
 intro pins s σ H R I h
 refine thn (hl pins s σ H _ I h) fun v s1 ⟨x,H1,I1,r1,q1⟩=>?_
 obtain⟨z,e,q⟩:=q1
 subst e
 obtain⟨t,rfl⟩:=r1
 have hf:∀b ∈ [s1.heap.objs.size],zab X pins H1 b:=fun b hb=>by
  have e:b=s1.heap.objs.size:=by simpa using hb
  subst e
  exact I1.fpOk (Nat.le_refl _) (I1.hok.fresh (Nat.le_refl _))
 have hk:∀o:Obj,Inv X pins σ H1 { s1 with heap:=s1.heap.push o }:=fun o=>I1.kept (t':=s1.toks) fun b u e=>Heap.get?_push_of_some _ e
 cases ha:z.cps.all (·< 128)
 ·refine wpAny_pyIter_wide ha ⟨s1.heap.objs.size,[s1.heap.objs.size],_,_,H1,rfl,hk _,zh0 _ "str_iterator" z t (by decide) (fun A hA=>Walks.strWide hA _ z t) (fun A i s Q E st h=>wpAny_pyIter_striter_wide st h),⟨_,Heap.get?_push_size _ rfl,rfl,rfl⟩,hf,q⟩
 ·refine wpAny_pyIter_ascii ha ⟨s1.heap.objs.size,[s1.heap.objs.size],_,_,H1,rfl,hk _,zh0 _ "str_ascii_iterator" z t (by decide) (fun A hA=>Walks.strAscii hA _ z t) (fun A i s Q E st h=>wpAny_pyIter_striter_ascii st h),⟨_,Heap.get?_push_size _ rfl,rfl,rfl⟩,hf,q⟩
theorem zjh{z:Str}{c:St}{te:TE}{H:Hp}{fin:List V→Hp→Prop}(Pv:Nat→List V→Hp→Prop)(h0:Pv 0 [] H)(hl:∀i ys H,i≤z.length→Pv i ys H→ys.length≤i)(hz:z.length≤sizeLine)
 (hs:∀i d ys H,z.cps.toList[i]? = some d→Pv i ys H→te (some (.str ⟨#[d]⟩)::c) H fun y H3=>Pv (i+1) (ys ++ [y]) H3) (hd:∀ys H,Pv z.length ys H→fin ys H):zcv (Its z) c zhM te H fin:=by
 refine⟨fun i m ys H=>m=z.length - i∧i≤z.length∧Pv i ys H,⟨z.length,by simp,Nat.zero_le _,h0⟩,?_⟩
 rintro i m ys H ⟨rfl,hi,p⟩
 have hy:=hl i ys H hi p
 by_cases hlt:i<z.length
 ·refine .inr ⟨hlt,by omega,Pv (i+1),fun ys' H' p'=>⟨_,by omega,rfl,hlt,p'⟩,fun x H' y=>?_⟩
  obtain⟨e,d,ed,ex⟩:=y
  subst e ex
  exact zfQ (B:=Pv (i+1) ys H') (hs i d ys _ (by rw[Array.getElem?_toList];exact ed) p)
 ·have e:i=z.length:=by omega
  subst e
  exact .inl ⟨rfl,by omega,hd ys H p⟩
theorem strs_val{ts:List Str}{us:List Value}(r:zI (ts.map V.str) us){i:Nat}{v:Value}(h:us[i]? = some v)(d:Str):∃t,v=.str (ts.getD i d) t:=by
 have hl:=r.length
 rw[List.length_map] at hl
 have hi:i<ts.length:=by rw[hl];exact(List.getElem?_eq_some_iff.mp h).1
 obtain⟨u,e,ru⟩:=r.get (i:=i) (x:=.str ts[i]) (by rw[List.getElem?_map,List.getElem?_eq_getElem hi];rfl)
 rw[e] at h
 cases h
 obtain⟨t,rfl⟩:=ru
 exact⟨t,by rw[List.getD_eq_getElem?_getD,List.getElem?_eq_getElem hi];rfl⟩
def tLenSetS(K:PySem.W.Frag)(te:TE):TE:=fun σ H Q=>te σ H fun x H1=>∃(a:Addr) (ts:List Str),x=.ref a∧SqL K H1 a (ts.map V.str)∧ts.length<4000∧Q (.int (met (fun i=>ts.getD i "") ts.length).length) H1
theorem zid{e:Expr}{te:TE}{p p2 pos pos2:Pos}(hc:X.calm=true)(hg:Gl X "len")(hm:X.mg "len" = none)(hg2:Gl X "set")(hm2:X.mg "set" = none)(he:PE X e te)
 (h1:starEach [.Call (.Name "set" p2) [e] [] pos2] X.env = [(false,eval (.Call (.Name "set" p2) [e] [] pos2) X.env)]:=by rfl) (h2:starEach [e] X.env = [(false,eval e X.env)]:=by rfl) :
 PE X (.Call (.Name "len" p) [.Call (.Name "set" p2) [e] [] pos2] [] pos) (tLenSetS X.K te):=by
 intro pins s σ H Q I h
 refine wpAny_Call_Name_kw (zcU I hg hm PySem.boot_len ?_)
 refine PyProof.Rows.callWith_builtin1 ?_ h1 rfl
 rw[h1]
 show wpAny _ _ (spliced ((false,eval (.Call (.Name "set" p2) [e] [] pos2) X.env)::backTo pos [])) _ _ s
 refine Calls.spliced_cons ?_
 refine wpAny_Call_Name_kw (zcU I hg2 hm2 PyProof.Rows.boot_set ?_)
 refine PyProof.Rows.callWith_type1 ?_ h2 rfl
 rw[h2]
 show wpAny _ _ (spliced ((false,eval e X.env)::backTo pos2 [])) _ _ s
 refine Calls.spliced_cons (thn (he pins s σ H _ I h) fun v s1 ⟨x,H1,I1,r1,q1⟩=>?_)
 obtain⟨a,ts,rfl,hS,hz,q⟩:=q1
 cases r1
 obtain⟨its,rv,pl,hz2⟩:=I1.list hS
 have hl:=rv.length
 rw[List.length_map] at hl
 have hsb:scanBound=4096:=rfl
 refine Calls.spliced_nil ?_
 refine zhb (knd:=strKind X.prog X.w) (val:=fun i=>ts.getD i "") (I1.ok.hd hc) pl.isList (fun i v hv=>?_) (by rw[List.size_toArray];omega) fun s2 ⟨h',tk,e2,hs,hk⟩=>?_
 ·obtain⟨t,rfl⟩:=strs_val rv (i:=i) (v:=v) (by simpa using hv) ""
  exact⟨beq_self_eq_true _,rfl⟩
 subst e2
 have I2:Inv X pins σ H1 { s1 with heap:=h',toks:=tk }:=I1.kept (t':=tk) fun b o e=>hk b o (Heap.lt_size e) e
 refine Calls.spliced_nil ?_
 have esz:its.toArray.size=ts.length:=by rw[List.size_toArray];omega
 rw[esz] at hs
 obtain⟨o,es,ep,t,ho,hex,hd,_,_,hsz,hf,hn⟩:=hs
 refine PySem.call_len_set ho hex hd hf (by omega) ⟨.int (met (fun i=>ts.getD i "") ts.length).length,H1,I2.tok _,⟨tk+1,?_⟩,q⟩
 rw[hn]
theorem zeM{ts:List Str}{i:Nat}(h:i<ts.length):(ts.map V.str)[i]? = some (.str (ts.getD i "")):=by
 rw[List.getElem?_map,List.getElem?_eq_getElem h,List.getD_eq_getElem?_getD,List.getElem?_eq_getElem h];rfl
theorem zcQ{ts:List Str}{i:Int}(h0:0≤i)(h:i<ts.length):atI (ts.map V.str) i=some (.str (ts.getD i.toNat "")):=ze4 h0 (zeM (by omega))
theorem zdS(ts:List Str):(ts.map V.str).all wU=true:=by
 rw[List.all_map];exact List.all_eq_true.mpr fun _ _=>rfl
theorem zhE(ts:List Str)(c:Str):inV (.str c) (ts.map V.str)=decide (c∈ts):=by
 unfold inV
 induction ts with
 | nil=>rfl
 | cons a ts ih =>
   rw[List.map_cons,List.any_cons,ih]
   show((a==c) || _)=_
   by_cases h:a=c
   ·subst h;simp
   ·have:¬c=a:=fun e=>h e.symm
    simp[h,this]
theorem zbD{ts:List Str}{i:Nat}{x:V}(hx:(ts.map V.str)[i]? = some x):i<ts.length∧x=.str (ts.getD i ""):=by
 have hi:i<ts.length:=by have:=(List.getElem?_eq_some_iff.mp hx).1;rwa [List.length_map] at this
 refine⟨hi,?_⟩
 rw[zeM hi] at hx
 exact(Option.some.inj hx).symm
theorem yq{ts:List Str}{i:Nat}(hi:i<ts.length):ts.take (i+1)=ts.take i ++ [ts.getD i ""]:=by
 rw[List.take_succ,List.getElem?_eq_getElem hi,List.getD_eq_getElem?_getD,List.getElem?_eq_getElem hi];rfl
theorem zbr{ts:List Str}{i:Nat}(hi:i<ts.length):ts.getD i "" ∈ ts:=by
 rw[List.getD_eq_getElem?_getD,List.getElem?_eq_getElem hi];exact List.getElem_mem hi
theorem lst_appS{H:Hp}{l:Addr}(ts:List Str)(x:Str):upd H l (.lst (ts.map V.str ++ [V.str x])) l=some (.lst ((ts ++ [x]).map V.str)):=ze.trans (congrArg (fun l=>some (HO.lst l)) (by rw[List.map_append];rfl))
theorem wx(x y:Str):(x++y).length=x.length+y.length:=by
 show(x.cps++y.cps).size=x.cps.size+y.cps.size
 exact Array.size_append
abbrev abc:Str:= "abcdefghijklmnopqrstuvwxyz"
def zcD(c:Nat):Bool:=decide (97≤c) && decide (c≤122)
end
section
variable {X:Cx}
theorem zel(ns:List Int):∀i,i≤ns.length→preSum (fun i=>ns.getD i 0) i=(ns.take i).sum
 | 0,_=>by simp[preSum]
 | i+1,h=>by
   rw[yy (by omega),List.sum_append,← zel ns i (by omega)]
   simp[preSum]
theorem zh4(hc:X.calm=true):zas X (.builtin "sum") (fun xs H Q=>∃(a:Addr) (ns:List Int),xs = [.ref a]∧SqL X.K H a (ns.map V.int)∧Q (.int ns.sum) H):=by
 intro pins s σ H xs us Q I r h
 obtain⟨a,ns,rfl,hS,q⟩:=h
 obtain⟨u,rfl,ru⟩:=r.one
 cases ru
 obtain⟨its,r1,p1,z1⟩:=I.list hS
 have l1:=r1.length
 rw[List.length_map] at l1
 have hlt:a<s.heap.objs.size:=by obtain⟨o,n,e,_⟩:=p1;exact Heap.lt_size e
 refine call_sum_walkAnyS (wpAny_pyIter_list p1.isList ?_)
 have I1:Inv X pins σ H { s with heap:=s.heap.push { cls:=.type "list_iterator",data:=.fields #[.ref a,.int 0 0] } }:=I.kept (t':=s.toks) fun b o e=>Heap.get?_push_of_some _ e
 refine⟨s.heap.objs.size,_,_,_,its.toArray.size,_,_,fun i=>ns.getD i 0,rfl,(Walks.list (by simpa using I.ok.hd hc) s.heap.objs.size a (Nat.ne_of_lt hlt) its.toArray).toS,⟨⟨_,Heap.get?_push_size _ rfl,rfl,rfl⟩,p1.isList.push _⟩,?_,?_,fun s' t' hm=>?_⟩
 ·intro b hb
  rw[Heap.size_push]
  simp only[List.mem_cons,List.not_mem_nil,or_false] at hb
  rcases hb with rfl | rfl
  ·exact Nat.lt_succ_self _
  ·exact Nat.lt_succ_of_lt hlt
 ·intro i v hP
  exact IntsAre.int_at (zaU r1) i v (by simpa using hP)
 ·obtain⟨h',g',d',tk',os'⟩:=s'
  have eg:g'=s.gens:=hm.gens
  have ed:d'=s.drawn:=hm.drawn
  have eo:os'=s.os:=hm.os
  subst eg ed eo
  have f:=I.fpOk (H':=H) (Nat.le_refl _) (I.hok.fresh (Nat.le_refl _))
  have I2:=I1.turned (t':=tk') (h':=h') (it:=s.heap.objs.size) (fun b o hb e=>hm.heap b o (by simpa using hb) e) f.1 f.2.1 f.2.2.2.1 f.2.2.2.2.1 f.2.2.2.2.2
  refine⟨.int ns.sum,H,I2,⟨t',?_⟩,q⟩
  rw[List.size_toArray,← l1,zel ns _ (Nat.le_refl _),List.take_length]
end
def za7(X:Cx)(x:Str)(N:List Str)(scope:Scope)(cl:List (Str × Addr))(cx:Addr)(C:Addr)(s2:Shared)(H2:Hp)(fp:List Addr):Cx where
 prog:=X.prog
 w:=X.w
 K:=X.K
 mg:=X.mg
 base:=X.base
 A:=X.A
 N:=N
 s₀:=s2
 H₀:=H2
 env:=compEnvC scope ((x,cx)::cl) C X.env
 outer:=X.stack
 stack:=X.stack
 ex:=fp
 fn:=fun y=>y==x
 calm:=X.calm
 pn := []
 xe:=fun _ _=>False
structure CompScopeC (sc:Scope) (N:List Str) (x:Str) (fr:List Str) (ix:List Nat) (scope:Scope):Prop where
 kind:scope.kind=.function
 one:∀a acc,cellsFrom a scope.names acc=(x,a)::acc
 push:∀h:Heap,pushCells h scope.names=h.push { cls:=.type "cell",data:=.cell none }
 cells:∀y∈scope.names,y.2=.cell→y.1=x
 lcl:∀y∈scope.names,y.2=.local→scope.names.lookup y.1=some .local
 lx:scope.names.lookup x=some .cell
 free:∀y∈scope.names,y.2=.free→sc.names.lookup y.1=some .cell∨sc.names.lookup y.1=some .free
 at':fr.map some=ix.map fun i=>N[i]?
 frk:∀y∈fr,scope.names.lookup y=some .free∧(sc.names.lookup y=some .cell∨sc.names.lookup y=some .free)
 nd:(x::fr).Nodup
theorem zed{env:Env}{scope:Scope}{y:Str}(h:scope.names.lookup y=some .cell∨scope.names.lookup y=some .free):(relabel scope env).names.lookup y=some .cell∨(relabel scope env).names.lookup y=some .free:=by
 rcases h with h | h
 ·left
  rw[zaa,zaC (zfx env) h,zg5 env y .cell (by decide)]
 ·exact zbh h
theorem CompScope.under{env:Env}{sc:Scope}{N:List Str}{x:Str}{fr:List Str}{ix:List Nat}{scope:Scope}(S:CompScope sc N x fr ix scope):CompScope (relabel sc env) N x fr ix scope :=
 ⟨S.kind,S.nocell,S.lcl,S.lx,fun y hy hf=>zed (S.free y hy hf),S.at',fun y hy=>⟨(S.frk y hy).1,zed (S.frk y hy).2⟩,S.nd⟩
theorem zfR{env:Env}{scope:Scope}{x y:Str}(hc:∀z∈scope.names,z.2=.cell→z.1=x)(h:(relabel scope env).names.lookup y=some .cell∨(relabel scope env).names.lookup y=some .free):(y,NameKind.free)∈scope.names∨y=x:=by
 rw[zaa] at h
 have go:∀k,(k=.cell∨k=.free)→(scope.names.map (rl env)).lookup y=some k→(y,NameKind.free)∈scope.names∨y=x:=fun k hk q=>by
  obtain⟨k0,m,e⟩:=za9 (zfx env) q
  by_cases hf:k0=.free
  ·rw[hf] at m;exact .inl m
  ·rw[zg5 env y k0 hf] at e
   rcases hk with z | z
   ·exact .inr (hc _ m (e.trans z))
   ·exact absurd (e.trans z) hf
 rcases h with h | h
 ·exact go _ (.inl rfl) h
 ·exact go _ (.inr rfl) h
theorem zar{x y:Str}{cx c:Addr}{cl:List (Str × Addr)}(h:((x,cx)::cl).lookup y=some c):(y=x∧c=cx)∨(y≠x∧cl.lookup y=some c):=by
 rw[List.lookup_cons] at h
 by_cases hy:y=x
 ·have hb:(y==x)=true:=by simp[hy]
  rw[hb] at h
  exact .inl ⟨hy,(Option.some.inj h).symm⟩
 ·rw[beq_eq_false_iff_ne.mpr hy] at h
  exact .inr ⟨hy,h⟩
theorem ziR{x y:Str}{cx:Addr}{cl:List (Str × Addr)}(hy:y≠x):((x,cx)::cl).lookup y=cl.lookup y:=by
 rw[List.lookup_cons,beq_eq_false_iff_ne.mpr hy]
theorem look_eq{x:Str}{cx:Addr}{cl:List (Str × Addr)}:((x,cx)::cl).lookup x=some cx:=by
 rw[List.lookup_cons,beq_self_eq_true]
section
variable {X:Cx} {pins:List (Addr × Obj)} {σ:St} {H:Hp} {s:Shared} {x:Str} {fr:List Str} {ix:List Nat} {scope:Scope} {cl:List (Str × Addr)} {fp:List Addr} {C D cx:Addr}
theorem zhs(I:Inv X pins σ H s)(h1:∀y c,cl.lookup y=some c→X.env.cells.lookup y=some c){y:Str}{c:Addr}(e:cl.lookup y=some c):c<s.heap.objs.size:=by
 obtain⟨v,o,ho,_⟩:=I.cell y c (h1 y c e)
 exact Heap.lt_size ho
theorem blkC_ok(S:CompScopeC X.env.scope X.N x fr ix scope)(I:Inv X pins σ H s)(hf:∀b∈fp,zab X pins H b)(hfo:∀b∈fp,b<s.heap.objs.size)(hC:s.heap.objs.size≤C)(hcx:s.heap.objs.size≤cx)
 (h1:∀y c,cl.lookup y=some c→X.env.cells.lookup y=some c) (h2:∀y,(y,NameKind.free)∈scope.names→∃c,cl.lookup y=some c):(za7 X x (x::fr) scope cl cx C s H fp).Ok where
 mod:=I.ok.mod
 kind:=S.kind
 glob:=I.ok.glob
 blt:=I.ok.blt
 above:=hC
 inj:=fun y z c a b=>by
  rcases zar a with⟨a1,a2⟩ | ⟨a1,a2⟩
  ·rcases zar b with⟨b1,b2⟩ | ⟨b1,b2⟩
   ·exact a1.trans b1.symm
   ·exact absurd (zhs I h1 b2) (by rw[a2];exact Nat.not_lt.mpr hcx)
  ·rcases zar b with⟨b1,b2⟩ | ⟨b1,b2⟩
   ·exact absurd (zhs I h1 a2) (by rw[b2];exact Nat.not_lt.mpr hcx)
   ·exact I.ok.inj y z c (h1 y c a2) (h1 z c b2)
 has:=fun y hy=>by
  by_cases e:y=x
  ·subst e;exact⟨cx,look_eq⟩
  ·rcases zfR (env:=X.env) (scope:=scope) S.cells hy with z | z
   ·obtain⟨c,hc⟩:=h2 y z
    exact⟨c,(ziR e).trans hc⟩
   ·exact absurd z e
 cab:=fun y c h e=>by
  have hy:y=x:=by simpa [za7] using h
  rcases zar e with⟨_,z⟩ | ⟨z,_⟩
  ·rw[z];exact hcx
  ·exact absurd hy z
 hd:=I.ok.hd
 frames:=I.ok.frames
 stk:=.inl rfl
 exf:=fun b hb=>⟨fun z=>absurd (hfo b hb) (by rw[z];exact Nat.not_lt.mpr hC),fun y c e=>by
  rcases zar e with⟨_,z⟩ | ⟨_,z⟩
  ·exact fun q=>absurd (hfo b hb) (by rw[← q,z];exact Nat.not_lt.mpr hcx)
  ·exact(hf b hb).2.2.2.2.1 y c (h1 y c z)⟩
 bs:=I.bs
 bsz:=Nat.le_trans I.ok.bsz I.sz
 noex:=fun b o e hb=>by
  rcases (hf b hb).2.2.2.1 with z | z
  ·exact I.ok.noex b o e z
  ·exact absurd (Nat.lt_of_lt_of_le (Heap.lt_size e) (Nat.le_trans I.ok.bsz z)) (Nat.lt_irrefl _)
 exfs:=fun b hb z=>by
  rcases List.mem_cons.mp (I.stkSub b z)with e | e
  ·exact(hf b hb).2.1 e
  ·exact(hf b hb).2.2.1 e
 funs:=I.stack
 frf:=I.stkFree
theorem CompScopeC.len(S:CompScopeC X.env.scope X.N x fr ix scope):fr.length=ix.length:=by have:=congrArg List.length S.at';simpa using this
theorem blkC_inv{s':Shared}{pn:List (Addr × Obj)}{m:Str→Option Value}(S:CompScopeC X.env.scope X.N x fr ix scope)(I:Inv X pins σ H s)(hf:∀b∈fp,zab X pins H b)(hfo:∀b∈fp,b<s.heap.objs.size)(hC:s.heap.objs.size≤C)(hcx:s.heap.objs.size≤cx)
 (h1:∀y c,cl.lookup y=some c→X.env.cells.lookup y=some c) (h2:∀y,(y,NameKind.free)∈scope.names→∃c,cl.lookup y=some c)
 (ho:s'.os=s.os) (hg:s'.gens=s.gens) (k:∀b o,s.heap.get? b=some o→s'.heap.get? b=some o) (hn:s'.heap.Ns C m) (hcell:s'.heap.IsCell cx none)
 (hp:∀p∈pn,s'.heap.get? p.1=some p.2∧s.heap.objs.size≤p.1∧p.1≠C∧∀v,p.2.data ≠ .cell v) :
 Inv (za7 X x (x::fr) scope cl cx C s H fp) pn (none::cap ix σ) H s':=by
 obtain⟨mX,hnX,hlX⟩:=I.loc
 refine⟨blkC_ok S I hf hfo hC hcx h1 h2,ho,by rw[hg];exact I.bare,Un.kept k,⟨m,hn,fun i y v e1 e2 e3=>?_⟩,fun y c e=>?_,I.hok.fresh hC,fun y c e=>?_,fun p hp'=>?_,I.hok.kept k,by
  show(none::cap ix σ).length=(x::fr).length
  simp[zgw,S.len]⟩
 ·cases i with
  | zero=>cases e2
  | succ j =>
    have e1':fr[j]? = some y:=e1
    have e2':(cap ix σ)[j]? = some (some v):=e2
    have hmem:=List.mem_of_getElem? e1'
    have hyx:y≠x:=fun z=>(List.nodup_cons.mp S.nd).1 (by rw[← z];exact hmem)
    obtain⟨f1,f2⟩:=S.frk y hmem
    unfold cap at e2'
    rw[List.getElem?_map] at e2'
    cases ei:ix[j]? with
    | none=>rw[ei] at e2';cases e2'
    | some i =>
      rw[ei] at e2'
      have e3':(σ[i]?).join=some v:=Option.some.inj e2'
      have e4:σ[i]? = some (some v):=by
       cases q:σ[i]? with
       | none=>rw[q] at e3';cases e3'
       | some w=>rw[q] at e3';have:w=some v:=e3';rw[this]
      have e5:X.N[i]? = some y:=by
       have:=congrArg (fun l=>l[j]?) S.at'
       simp only[List.getElem?_map,e1',ei] at this
       simpa using this.symm
      have vis:Vis X.env.scope y:=by
       rcases f2 with z | z
       ·exact .inr (.inl z)
       ·exact .inr (.inr z)
      obtain⟨u,r,l⟩:=hlX i y v e5 e4 vis
      refine⟨u,r,.inr ⟨zbh f1,?_⟩⟩
      rcases l with⟨z,_⟩ | ⟨_,c,ec,hc⟩
      ·rcases f2 with q | q
       ·have q':=(show X.env.scope.names.lookup y=some .local from z).symm.trans q;cases q'
       ·have q':=(show X.env.scope.names.lookup y=some .local from z).symm.trans q;cases q'
      ·obtain⟨c',hc'⟩:=h2 y (PySem.mem_of_lookup f1)
       have:c'=c:=by have:=h1 y c' hc';rw[ec] at this;exact(Option.some.inj this).symm
       subst this
       refine⟨c',(ziR hyx).trans hc',?_⟩
       obtain⟨o,ho',hd⟩:=hc
       exact⟨o,k _ _ ho',hd⟩
 ·rcases zar e with⟨_,z⟩ | ⟨_,z⟩
  ·subst z;exact⟨none,hcell⟩
  ·obtain⟨v,o,ho',hd⟩:=I.cell y c (h1 y c z)
   exact⟨v,o,k _ _ ho',hd⟩
 ·rcases zar e with⟨_,z⟩ | ⟨_,z⟩
  ·subst z;exact I.hok.fresh hcx
  ·exact I.freeC y c (h1 y c z)
 ·have hp'':p∈pn:=by simpa [za7] using hp'
  obtain⟨q1,q2,q3,q4⟩:=hp p hp''
  refine⟨q1,I.hok.fresh q2,q3,fun z=>?_,q4⟩
  obtain⟨_,o,ho',_⟩:=I.stack.mem z
  exact absurd (Nat.lt_of_lt_of_le (Heap.lt_size ho') q2) (Nat.lt_irrefl _)
end
theorem ziA{M:Model}{A:Around}{E:Value→Shared→Prop}{s:Shared}{sc:Scope}{N:List Str}{x:Str}{fr:List Str}{ix:List Nat}{scope:Scope}{globals:Addr}{cl:List (Str × Addr)}{qual:Str}{outer:Env}{Q:Env→Shared→Prop}(S:CompScopeC sc N x fr ix scope)
 (h:Q (newEnv scope s.heap.objs.size globals ((x,s.heap.objs.size+1)::cl) qual none .none (some outer) builtinsNs) { s with heap:=(s.heap.push { cls:=.type "dict",data:=.dict #[] }).push { cls:=.type "cell",data:=.cell none } }) :
 wpAny M A (newFunctionEnv scope globals cl [] qual none .none (some outer)) Q E s:=by
 simp only[newFunctionEnv,Option.isSome_some,if_true]
 refine wpAny_bind (wpAny_alloc ?_)
 refine wpAny_bind (wpAny_layCells _ (fun name kind cells=>by cases hkc:kind==NameKind.cell <;> simp[hkc]) _ _ _ _ ?_)
 rw[S.one,S.push,show({ s with heap:=s.heap.push { cls:=.type "dict",data:=.dict #[] } }:Shared).heap.objs.size=s.heap.objs.size+1 from Heap.size_push ..]
 simp only[List.forIn_nil]
 exact wpAny_bind (wpAny_pure (wpAny_pure h))
section
variable {X:Cx} {x:Str} {fr:List Str} {ix:List Nat} {scope:Scope} {elt iter:Expr} {ifs:List Expr} {px pos:Pos} {wi:TI} {tc:TT} {te:TE}
theorem zjz{use:Option (Value→Sem Unit)}{Q:Value→Shared→Prop}{pins:List (Addr × Obj)}{s2:Shared}{σ:St}{H2:Hp}{it:Addr}{fp:List Addr}{tn:Nat→Heap→Prop}{J:It}{cl:List (Str × Addr)}(S:CompScopeC X.env.scope X.N x fr ix scope)(hc:X.calm=true)
 (hif:∀cl cx C s2 H2 fp,PIf (za7 X x (x::fr) scope cl cx C s2 H2 fp) ifs tc) (he:∀cl cx C s2 H2 fp,PE (za7 X x (x::fr) scope cl cx C s2 H2 fp) elt te)
 (h1:∀y c,cl.lookup y=some c→X.env.cells.lookup y=some c) (h2:∀y,(y,NameKind.free)∈scope.names→∃c,cl.lookup y=some c)
 (I2:Inv X pins σ H2 s2) (T:Turn X.prog X.w X.K (.Name x px) J fp it tn) (st2:tn 0 s2.heap) (f2:∀b∈fp,zab X pins H2 b) {fin:List V→Hp→Prop} (wc:zcv J (cap ix σ) tc te H2 fin)
 (hQ:∀(D C:Addr) (ys:List V) (H':Hp) (s':Shared) (m:Str→Option Value),Inv X pins σ (upd H' D (.lst ys)) s'→H' D=none→s'.heap.Ns C m→D≠C→s2.heap.objs.size≤C→H' C=none→fin ys H' →
   compPost (model X.prog X.w) X.A X.xe use Q (.ref D) C (.ok .next) s') :
 wpAny (model X.prog X.w) X.A (newList []) (fun acc s₃=>wpAny (model X.prog X.w) X.A (newFunctionEnv scope X.env.globals cl [] X.env.qual none .none (some X.env)) (fun cenv s₄ =>
  codeAny (model X.prog X.w) X.A (.compStart (.ListComp elt [⟨.Name x px,iter,ifs,0⟩] scope pos) 0 (.ref it) acc { cenv with scope:=relabel scope X.env }) (compPost (model X.prog X.w) X.A X.xe use Q acc cenv.locals) s₄) X.xe s₃) X.xe s2:=by
 have hfo:∀b∈fp,b<s2.heap.objs.size:=fun b hb=>by
  obtain⟨o,e,_⟩:=T.obj 0 _ st2 b hb
  exact Heap.lt_size e
 refine wpAny_newObj_type (ziA S ?_)
 generalize hHp:s2.heap.push { cls:=.type "list",dict:=none,data:=.seq ([]:List Value).toArray }=Hp2
 have hCs:Hp2.objs.size=s2.heap.objs.size+1:=by rw[← hHp,Heap.size_push]
 have hDC:s2.heap.objs.size≠Hp2.objs.size:=by rw[hCs];exact Nat.ne_of_lt (Nat.lt_succ_self _)
 have hCle:s2.heap.objs.size≤Hp2.objs.size:=by rw[hCs];exact Nat.le_succ _
 have hcx:s2.heap.objs.size≤Hp2.objs.size+1:=Nat.le_trans hCle (Nat.le_succ _)
 have hDcx:s2.heap.objs.size≠Hp2.objs.size+1:=by rw[hCs];exact Nat.ne_of_lt (Nat.lt_succ_of_lt (Nat.lt_succ_self _))
 have hcs:(Hp2.push { cls:=.type "dict",data:=.dict #[] }).objs.size=Hp2.objs.size+1:=Heap.size_push ..
 have hcell:((Hp2.push { cls:=.type "dict",data:=.dict #[] }).push { cls:=.type "cell",data:=.cell none }).IsCell (Hp2.objs.size+1) none:=⟨_,by rw[← hcs];exact Heap.get?_push_size _ rfl,rfl⟩
 have hns₁:((Hp2.push { cls:=.type "dict",data:=.dict #[] }).push { cls:=.type "cell",data:=.cell none }).Ns Hp2.objs.size fun _=>none:=(Heap.Ns.new Hp2 (.type "dict")).push _
 have old:∀b o,s2.heap.get? b=some o→((Hp2.push { cls:=.type "dict",data:=.dict #[] }).push { cls:=.type "cell",data:=.cell none }).get? b=some o:=fun b o e=>Heap.get?_push_of_some _ (Heap.get?_push_of_some _ (hHp ▸ Heap.get?_push_of_some _ e))
 have hacc:((Hp2.push { cls:=.type "dict",data:=.dict #[] }).push { cls:=.type "cell",data:=.cell none }).get? s2.heap.objs.size=some { cls:=.type "list",data:=.seq ([]:List Value).toArray 0 }:=Heap.get?_push_of_some _ (Heap.get?_push_of_some _ (hHp ▸ Heap.get?_push_size _ rfl))
 generalize hcxe:Hp2.objs.size+1=cx at hcell hcx hDcx ⊢
 generalize hh1:(Hp2.push { cls:=.type "dict",data:=.dict #[] }).push { cls:=.type "cell",data:=.cell none }=h₁ at hcell hns₁ old hacc ⊢
 have st1:tn 0 h₁:=T.keep 0 _ _ st2 fun b _ o e=>old b o e
 have fpD:∀b∈fp,b≠s2.heap.objs.size:=fun b hb=>Nat.ne_of_lt (hfo b hb)
 generalize hD:s2.heap.objs.size=D at hacc hDC hDcx fpD ⊢
 have hDle:s2.heap.objs.size≤D:=Nat.le_of_eq hD
 generalize hC:Hp2.objs.size=C at hns₁ hDC hCle ⊢
 have oldD:∀b o,s2.heap.get? b=some o→b≠D:=fun b o e z=>absurd (Heap.lt_size e) (by rw[z,← hD];exact Nat.lt_irrefl _)
 obtain⟨W,⟨m0,w0⟩,wR⟩:=wc
 have loop:∀s₃:Shared,s₃={ s2 with heap:=h₁ } →
  codeAny (model X.prog X.w) X.A (.compLoop (.ListComp elt [⟨.Name x px,iter,ifs,0⟩] scope pos) 0 (.ref it) (.ref D) (compEnvC scope ((x,cx)::cl) C X.env))
   (compPost (model X.prog X.w) X.A X.xe use Q (.ref D) C) s₃:=by
  rintro s₃ rfl
  have I0:Inv (za7 X x (x::fr) scope cl cx C s2 H2 fp) [(D,{ cls:=.type "list",data:=.seq ([]:List Value).toArray 0 })] (none::cap ix σ) H2 { s2 with heap:=h₁ } :=
   blkC_inv S I2 f2 hfo hCle hcx h1 h2 rfl rfl old hns₁ hcell (fun p hp=>by
    have e:p=(D,{ cls:=.type "list",data:=.seq ([]:List Value).toArray 0 }):=by simpa using hp
    subst e
    exact⟨hacc,hDle,hDC,fun v z=>by cases z⟩)
  have stat:∀{its:Obj} {H':Hp},(∀b∈fp,H' b=none)→∀b∈fp,zab (za7 X x (x::fr) scope cl cx C s2 H2 fp) [(D,its)] H' b:=fun {its H'} hn b hb=>by
   refine⟨hn b hb,fun z=>?_,fun z=>(I0.ok.exfs b hb z),.inl hb,fun y c e=>(I0.ok.exf b hb).2 y c e,fun p hp z=>?_⟩
   ·exact(I0.ok.exf b hb).1 z
   ·have e:p=(D,its):=by simpa [za7] using hp
    subst e
    exact fpD b hb (Eq.symm z)
  refine zcr (env:=compEnvC scope ((x,cx)::cl) C X.env)
   (fun n s'=>∃i ys its k v0 H',zI ys its∧Inv (za7 X x (x::fr) scope cl cx C s2 H2 fp) [(D,{ cls:=.type "list",data:=.seq its.toArray k })] (v0::cap ix σ) H' s'∧tn i s'.heap∧(∀b∈fp,H' b=none)∧W i n ys H') ?_ m0
   ⟨0,[],[],0,none,H2,.nil,I0,st1,fun b hb=>(f2 b hb).1,w0⟩
  rintro n s3 ⟨i,ys,its,k,v0,H3,rv,I3,st3,fr3,w3⟩
  rcases wR i n ys H3 w3 with⟨stop,hz,hfin⟩ | ⟨go,hz,N,hN,step⟩
  ·refine thn (T.done (za7 X x (x::fr) scope cl cx C s2 H2 fp) rfl rfl rfl hc i _ s3 _ H3 _ I3 (stat fr3) st3 stop) fun r s4 ⟨hr,I4⟩=>?_
   subst hr
   have pD:=I4.pin (D,{ cls:=.type "list",data:=.seq its.toArray k }) (by simp[za7])
   obtain⟨mC,hnC,_⟩:=I4.loc
   have hH3D:H3 D=none:=pD.2.1
   have hok':HOk X.prog X.w (upd H3 D (.lst ys)) s4.heap:=fun b u e=>by
    by_cases hb:b=D
    ·subst hb
     rw[ze] at e;cases e
     exact⟨hz,its,k,rv,pD.1⟩
    ·rw[zi hb] at e
     exact(I4.hok b u e).stay (fun c v _ q=>q) (fun c q=>by rw[zi (zk q hH3D)];exact q) fun c xs q=>by rw[zi (zk q hH3D)];exact q
   have b4:Un (frs X.stack) fp H2 H3 s2.heap s4.heap:=I4.base
   have un:Un (frs X.stack) fp H2 (upd H3 D (.lst ys)) s2.heap s4.heap :=
    ⟨b4.keep,b4.slot,fun b o q n hx=>by
     rw[zi (oldD b o q)];exact b4.free b o q n hx,b4.there,fun b xs q=>by rw[zi (zk (b4.tups b xs q) hH3D)];exact b4.tups b xs q,
     fun b o u q=>by rw[zi (zk (b4.frzs b o u q) hH3D)];exact b4.frzs b o u q,fun b ps q=>by
      obtain⟨more,e⟩:=b4.tbls b ps q
      exact⟨more,by rw[zi (zk e hH3D)];exact e⟩⟩
   have I5:Inv X pins σ (upd H3 D (.lst ys)) s4:=I2.call' (ch:=fp) I4.os un hok' I4.bare fun b hb=>by
    obtain⟨g0,g1,g2,g3,g4,g5⟩:=f2 b hb
    exact⟨g3,g1,g4,g5⟩
   exact hQ D C ys H3 s4 mC I5 hH3D hnC hDC hCle I4.free hfin
  ·refine thn (T.item (za7 X x (x::fr) scope cl cx C s2 H2 fp) rfl rfl rfl hc i _ s3 _ H3 _ I3 (stat fr3) st3 go) fun r s4 ⟨u,hr,h4⟩=>?_
   subst hr
   refine thn h4 fun _ s5 ⟨y,H5,I5,r5,y5,st5,fr5⟩=>?_
   have I5':=I5.pinned (stat fr5) (T.obj _ _ st5)
   have pg:PG (za7 X x (x::fr) scope cl cx C s2 H2 fp) (.Name x px) (zdr 0):=yR S.nd rfl (.inr (by show(relabel scope X.env).names.lookup x=some .cell;rw[zaa,zaC (zfx X.env) S.lx,zg5 X.env x .cell (by decide)])) (.inl (by simp[za7]))
   refine thn (pg _ s5 _ H5 y u (fun σ6 H6=>σ6=some y::cap ix σ∧H6=H5) I5' r5 ⟨rfl,rfl⟩) fun _ s6 ⟨σ6,H6,I6,e6,e6'⟩=>?_
   subst e6 e6'
   refine thn (hif cl cx C s2 H2 fp _ s6 _ _ _ I6 (step y _ y5)) fun b s7 ⟨H7,I7,q7⟩=>?_
   have again:∀{s8:Shared} {H8:Hp} {its':List Value} {k':Nat} {ys':List V},zI ys' its'→Inv (za7 X x (x::fr) scope cl cx C s2 H2 fp) [(D,{ cls:=.type "list",data:=.seq its'.toArray k' })] (some y::cap ix σ) H8 s8→(∀b∈fp,∀o,s5.heap.get? b=some o→s8.heap.get? b=some o)→(∀b∈fp,H8 b=none)→N ys' H8 →
    ∃m,m<n∧∃i ys its k v0 H',zI ys its∧Inv (za7 X x (x::fr) scope cl cx C s2 H2 fp) [(D,{ cls:=.type "list",data:=.seq its.toArray k })] (v0::cap ix σ) H' s8∧tn i s8.heap∧(∀b∈fp,H' b=none)∧W i m ys H' :=
    fun {s8 H8 its' k' ys'} rv8 I8 kp fr8 nn=>let ⟨m',hm,w8⟩:=hN ys' H8 nn;⟨m',hm,i+1,ys',its',k',some y,H8,rv8,I8,T.keep _ _ _ st5 kp,fr8,w8⟩
   cases b with
   | false =>
     rw[if_neg Bool.false_ne_true] at q7 ⊢
     refine again rv I7.unpinned (fun b hb o e=>(I7.pin (b,o) (by simp[za7];exact .inr (yC hb e))).1) (fun b hb=>?_) q7
     obtain⟨o,e,d⟩:=T.obj _ _ st5 b hb
     exact(I7.pin (b,o) (by simp[za7];exact .inr (yC hb e))).2.1
   | true =>
     rw[if_pos rfl] at q7 ⊢
     refine thn (he cl cx C s2 H2 fp _ s7 _ _ _ I7 q7) fun v s8 ⟨z,H8,I8,r8,q8⟩=>?_
     have pD:=I8.pin (D,{ cls:=.type "list",data:=.seq its.toArray k }) (by simp[za7])
     have hvl:ys.length=its.length:=rv.length
     refine append_at (hsz:=by show its.toArray.size≤sizeLine;rw[List.size_toArray];omega) pD.1 fun h₉ hs₉ hD₉=>?_
     have eo:({ cls:=.type "list",data:=.seq (its.toArray.push v) (k+1) }:Obj)={ cls:=.type "list",data:=.seq (its ++ [v]).toArray (k+1) }:=by rw[List.push_toArray]
     rw[eo] at hD₉
     have pn8:∀b∈fp,∀o,s5.heap.get? b=some o→s8.heap.get? b=some o∧H8 b=none:=fun b hb o e=>by
      have q:=I8.pin (b,o) (by simp[za7];exact .inr (yC hb e))
      exact⟨q.1,q.2.1⟩
     have J8:=I8.unpinned.pins_of (pins' := []) (fun p hp=>by cases hp)
     have f2D:zab (za7 X x (x::fr) scope cl cx C s2 H2 fp) [] H8 D:=⟨pD.2.1,pD.2.2.1,pD.2.2.2.1,.inr hDle,fun y c e z=>by
      rcases zar e with⟨_,q⟩ | ⟨_,q⟩
      ·exact hDcx (z.symm.trans q)
      ·obtain⟨v,o,ho,_⟩:=I2.cell y c (h1 y c q)
       exact oldD c o ho z,fun p hp=>by cases hp⟩
     have I9:Inv (za7 X x (x::fr) scope cl cx C s2 H2 fp) [] (some y::cap ix σ) H8 { s8 with heap:=h₉ }:=J8.turned (t':=s8.toks) (it:=D) (fun b o hb e=>(hs₉.2 b hb).trans e) f2D.1 f2D.2.1 f2D.2.2.2.1 f2D.2.2.2.2.1 f2D.2.2.2.2.2
     refine again (its':=its ++ [v]) (k':=k+1) (ys':=ys ++ [z]) (rv.append (.cons r8 .nil)) (I9.pins_of fun p hp=>?_) (fun b hb o e=>(hs₉.2 b (fpD b hb)).trans (pn8 b hb o e).1) (fun b hb=>?_) q8
     ·have e:p=(D,{ cls:=.type "list",data:=.seq (its ++ [v]).toArray (k+1) }):=by simpa using hp
      subst e
      exact⟨hD₉,f2D.1,f2D.2.1,f2D.2.2.1,fun v z=>by cases z⟩
     ·obtain⟨o,e,d⟩:=T.obj _ _ st5 b hb
      exact(pn8 b hb o e).2
 exact codeAny_compStart_list (loop _ rfl) (T.self X.A 0 _ _ _ st1 (loop _ rfl))
theorem pe_compC(S:CompScopeC X.env.scope X.N x fr ix scope)(hc:X.calm=true)(hi:PI X (.Name x px) iter wi)(hif:∀cl cx C s2 H2 fp,PIf (za7 X x (x::fr) scope cl cx C s2 H2 fp) ifs tc)(he:∀cl cx C s2 H2 fp,PE (za7 X x (x::fr) scope cl cx C s2 H2 fp) elt te)
 (hs:∀x,foldedSetIterable iter X.env x=pure x:=by intro _;rfl):PE X (.ListComp elt [⟨.Name x px,iter,ifs,0⟩] scope pos) (tComp ix wi tc te):=by
 intro pins s σ H Q I h
 obtain⟨cl,ecl,h1,h2⟩:=zbx (env:=X.env) (scope:=scope) fun y hy hf=>I.ok.has y.1 (S.free y hy hf)
 rw[eval_ListComp]
 refine wpAny_comprehension_free (use:=none) rfl hs ecl S.kind S.lcl (thn (hi pins s σ H _ I h) fun xv s1 q1=>thn q1 fun itv s2 q2=>?_)
 obtain⟨it,fp,tn,J,H2,rfl,I2,T,st2,f2,wc⟩:=q2
 refine zjz S hc hif he h1 h2 I2 T st2 f2 wc fun D C ys H' s' m I' hD hn hDC hC hHC fin=>?_
 refine⟨m,hn,fun h' sb=>⟨.ref D,upd H' D (.lst ys),?_,rfl,fin D hD⟩⟩
 have hcf:zab X pins (upd H' D (.lst ys)) C:=by
  have z:=I2.fpOk (H':=upd H' D (.lst ys)) hC (by rw[zi (Ne.symm hDC)];exact hHC)
  exact z
 exact I'.turned (t':=s'.toks) (it:=C) (fun b o hb e=>(sb.2 b hb).trans e) hcf.1 hcf.2.1 hcf.2.2.2.1 hcf.2.2.2.2.1 hcf.2.2.2.2.2
end
section
open PySem.SeqAt
open PySem.AutoSeq1 (wpAny_loadPart')
open PySem.MeetsSeq PySem.MeetsSeq2 PySem.MeetsSeq3
theorem lt_loop(l b:Addr)(items items2:Array Value)(n n2:Nat)(dd dd2:Option Addr)(sl sl2:Array (Option Value))(ns ms:List Int)(hi:IntsAre items.toList ns)(hj:IntsAre items2.toList ms)(k:Nat):
 ∀i:Nat,ns.length - i=k→i≤ns.length→i≤ms.length→Meets (Builtin.«list.__eq__.loop» ⟨[.ref l,.ref b,rawInt i,rawInt 0],[]⟩)
  (fun A R s=>s.heap.get? l=some { cls:=.type "list",dict:=dd,data:=.seq items n,slots:=sl }∧s.heap.get? b=some { cls:=.type "list",dict:=dd2,data:=.seq items2 n2,slots:=sl2 } ∧
    R (.ok (.ret (.bool (HT.lexLt (ns.drop i) (ms.drop i))))) s):=by
 have z1:items.size=ns.length:=by rw[← hi.length];simp
 have z2:items2.size=ms.length:=by rw[← hj.length];simp
 have stop:∀i,(i=ns.length∨i=ms.length)→i≤ns.length→i≤ms.length→HT.lexLt (ns.drop i) (ms.drop i)=decide (items.size<items2.size):=fun i h h1 h2=>by
  rw[z1,z2]
  rcases Nat.lt_or_ge i ns.length with c1 | c1
  ·have e:i=ms.length:=h.elim (fun z=>by omega) id
   rw[List.drop_of_length_le (Nat.le_of_eq e.symm),List.drop_eq_getElem_cons c1,HT.lexLt_cons_nil]
   exact(decide_eq_false (by omega)).symm
  ·rw[List.drop_of_length_le c1]
   rcases Nat.lt_or_ge i ms.length with c2 | c2
   ·rw[List.drop_eq_getElem_cons c2,HT.lexLt_nil_cons]
    exact(decide_eq_true (by omega)).symm
   ·rw[List.drop_of_length_le c2,HT.lexLt_nil_nil]
    exact(decide_eq_false (by omega)).symm
 induction k with
 | zero =>
   intro i hk h1 h2 prog w A R s h
   obtain⟨hp,g,d,tk,os⟩:=s;obtain⟨hl,hb,h⟩:=h
   rw[stop i (.inl (by omega)) h1 h2] at h
   wp_walk using wpAny_loadPart' hl,wpAny_loadPart' hb
   have hi1:items[((i:Nat):Int).toNat]? = none:=by simp;omega
   rw[hi1]
   wp_walk using wpAny_loadPart' hl,wpAny_loadPart' hb
   exact h
 | succ k ih =>
   intro i hk h1 h2 prog w A R s h
   obtain⟨hp,g,d,tk,os⟩:=s;obtain⟨hl,hb,h⟩:=h
   have hlt:i<items.size:=by omega
   have hi1:items[((i:Nat):Int).toNat]? = some items[i]:=by simp[hlt]
   wp_walk using wpAny_loadPart' hl,wpAny_loadPart' hb
   rw[hi1]
   by_cases hm:i<ms.length
   ·have hlt2:i<items2.size:=by omega
    have hi2:items2[((i:Nat):Int).toNat]? = some items2[i]:=by simp[hlt2]
    have hc:((i:Int)+1)=((i+1:Nat):Int):=by push_cast;rfl
    rw[hi2]
    obtain⟨t,et⟩:=IntsAre.int_at hi i items[i] (by simp[hlt])
    obtain⟨u,eu⟩:=IntsAre.int_at hj i items2[i] (by simp[hlt2])
    have hn':i<ns.length:=by omega
    have en:ns.getD i 0=ns[i]:=by rw[List.getD_eq_getElem?_getD,List.getElem?_eq_getElem hn'];rfl
    have em:ms.getD i 0=ms[i]:=by rw[List.getD_eq_getElem?_getD,List.getElem?_eq_getElem hm];rfl
    rw[en] at et
    rw[em] at eu
    rw[List.drop_eq_getElem_cons hn',List.drop_eq_getElem_cons hm,HT.lexLt_cons] at h
    have heq:EqAt A.in1 ⟨hp,g,d,tk,os⟩ items[i] items2[i] (ns[i]==ms[i]):=by rw[et,eu];exact SeqAt.EqAt.int_int _ _ _ _
    refine wpAny_bind (heq prog w _ _ ?_)
    cases hb':(ns[i]==ms[i])with
    | true =>
      rw[if_pos (by simpa using hb')] at h
      wp_walk
      rw[hc]
      exact⟨plainId_quiet plain_eq_loop _,codeAny_builtin entry_eq_loop (by
       rw[Around.under_plainId plain_eq_loop _]
       exact ih (i+1) (by omega) (by omega) (by omega) prog w A R _ ⟨hl,hb,h⟩)⟩
    | false =>
      rw[if_neg (by simpa using hb')] at h
      wp_walk using wpAny_loadPart' hl,wpAny_loadPart' hb
      rw[hi1,hi2]
      have hri:=HT.rcLt_int A.in1 ⟨hp,g,d,tk,os⟩ ns[i] t ms[i] u prog w
      rw[et,eu]
      wp_walk using hri
      exact h
   ·have hi2:items2[((i:Nat):Int).toNat]? = none:=by simp;omega
    rw[hi2]
    rw[stop i (.inr (by omega)) h1 h2] at h
    wp_walk using wpAny_loadPart' hl,wpAny_loadPart' hb
    exact h
theorem zgY(l b:Addr)(items items2:Array Value)(n n2:Nat)(dd dd2:Option Addr)(sl sl2:Array (Option Value))(ns ms:List Int)(hi:IntsAre items.toList ns)(hj:IntsAre items2.toList ms):
 Meets (Builtin.«list.__lt__» ⟨[.ref l,.ref b],[]⟩)
  (fun _ R s=>s.heap.get? l=some { cls:=.type "list",dict:=dd,data:=.seq items n,slots:=sl }∧s.heap.get? b=some { cls:=.type "list",dict:=dd2,data:=.seq items2 n2,slots:=sl2 } ∧
    R (.ok (.ret (.bool (HT.lexLt ns ms)))) s):=by
 intro prog w A R s h
 obtain⟨hp,g,d,tk,os⟩:=s;obtain⟨hl,hb,h⟩:=h
 have f2:=AutoSeq1.sub_list_list
 wp_walk using wpAny_loadPart' hl,wpAny_loadPart' hb
 exact⟨plainId_quiet plain_eq_loop _,codeAny_builtin entry_eq_loop (by
  rw[Around.under_plainId plain_eq_loop _]
  exact lt_loop l b items items2 n n2 dd dd2 sl sl2 ns ms hi hj _ 0 rfl (Nat.zero_le _) (Nat.zero_le _) prog w A R _ ⟨hl,hb,h⟩)⟩
end
section
variable {X:Cx}
def rLtL(K:PySem.W.Frag):R2:=fun x y H Q=>∃a b ns ms,x=.ref a∧y=.ref b∧SqL K H a (ns.map V.int)∧SqL K H b (ms.map V.int)∧Q (.bl (HT.lexLt ns ms)) H
theorem zis(hu:X.A.units<cLine):OpR X (compareOp .Lt) (rLtL X.K):=by
 intro pins s σ H x y v u Q I rx ry h
 obtain⟨a,b,ns,ms,rfl,rfl,ha,hb,q⟩:=h
 cases rx
 cases ry
 obtain⟨its,r1,p1,z1⟩:=I.list ha
 obtain⟨its2,r2,p2,z2⟩:=I.list hb
 obtain⟨⟨cls,dd,data,sl⟩,n,e,c1,c2,c3⟩:=p1
 obtain⟨⟨cls2,dd2,data2,sl2⟩,n2,e2,d1,d2,d3⟩:=p2
 simp only at c1 c2 c3 d1 d2 d3
 subst c1 c2 c3 d1 d2 d3
 have i1:IntsAre its.toArray.toList ns:=zaU r1
 have i2:IntsAre its2.toArray.toList ms:=zaU r2
 exact richCompare_meets_room (op := .Lt) ⟨_,e,rfl⟩ ⟨_,e2,rfl⟩ PySem.F.slot_list_lt PySem.F.entry_list_lt (PySem.F.args_list_lt_2 _ _) (zgY a b its.toArray its2.toArray n n2 _ _ _ _ ns ms i1 i2)
  ⟨e,e2,show Value.bool (HT.lexLt ns ms)≠Value.notImplemented∧EP X pins σ Q (.bool (HT.lexLt ns ms)) s from⟨(fun x=>nomatch x),⟨.bl (HT.lexLt ns ms),H,I,rfl,q⟩⟩⟩ hu
theorem zh1{K:PySem.W.Frag}(h:X.K=K)(hu:X.A.units<cLine):OpR X (compareOp .Lt) (rLtL K):=by subst h;exact zis hu
def rNeL(K:PySem.W.Frag):R2:=fun x y H Q=>∃a b xs ys,x=.ref a∧y=.ref b∧SqL K H a xs∧SqL K H b ys∧xs.all wU=true∧ys.all wU=true∧Q (.bl (!eqL xs ys)) H
theorem ze5(hu:X.A.units<cLine):OpR X (compareOp .NotEq) (rNeL X.K):=by
 intro pins s σ H x y v u Q I rx ry h
 obtain⟨a,b,xs,ys,rfl,rfl,ha,hb,fx,fy,q⟩:=h
 cases rx
 cases ry
 obtain⟨its,r1,p1,z1⟩:=I.list ha
 obtain⟨its2,r2,p2,z2⟩:=I.list hb
 have l1:=r1.length
 have l2:=r2.length
 by_cases hl:xs.length=ys.length
 ·refine SeqAt.RcNeAt.lists p1.isList p2.isList (by simp;omega) hu (eqAt_j r1 r2 fx fy) _ _ _ _ ⟨.bl (!eqL xs ys),H,I,?_,q⟩
  rw[List.size_toArray,← l1,zdQ hl]
  rfl
 ·refine SeqAt.RcNeAt.lists_lengths p1.isList p2.isList (by simp;omega) hu _ _ _ _ ⟨.bl (!eqL xs ys),H,I,?_,q⟩
  rw[zgE hl]
  rfl
end
structure CanM (P:Program) (w:World) (K:PySem.W.Frag) (mg:Str→Option Value) (base:Heap) (k:Nat) (C:Addr) (m:Str) (ps:List Str) (sp:Sp):Prop where
 ex:∃f fd,FnOk P w K mg base CX0 k f fd ps sp∧Meth K C m f∧zaH K fd ps []
structure CanMX (P:Program) (w:World) (K:PySem.W.Frag) (mg:Str→Option Value) (base:Heap) (k:Nat) (C:Addr) (m:Str) (ps:List Str) (sp:Sp):Prop where
 ex:∃f fd,FnOk P w K mg base (CX1 P w) k f fd ps sp∧Meth K C m f∧zaH K fd ps []
def tMethX(C:Addr)(m:Str)(W:XW)(sp:Sp)(ta:TE)(t:TA):TE:=fun σ H Q=>ta σ H fun x H1=>∃a dx fs,x=.ref a∧H1 a=some (.ins C dx fs)∧fs.lookup m=none∧t σ H1 fun vs H2=>sp (.ref a::vs) H2 Q fun cls _ H'=>W σ cls H'
section
variable {X:Cx} {k:Nat} {C:Addr} {m:Str} {ps:List Str} {sp:Sp} {apos pos:Pos} {o e:Expr} {es:List Expr} {ta:TE} {t:TA} {W:XW} {pl:Sem Bool}
theorem wX(M:CanMX X.prog X.w X.K X.mg X.base k C m ps sp)(c:Cls X.K C)(fl:Fl X W)(hr:Room k X.A)(he:PE X o ta)(ha:PA X (e::es) t)
 (hst:starEach (e::es) X.env=(false,eval e X.env)::starEach es X.env:=by rfl) (hpl:(backTo pos (starEach es X.env)).any (·.1)=false:=by rfl)
 (ht:eval (.Call (.Attribute o m apos) (e::es) [] pos) X.env=(do
   let ov ← eval o X.env
   standAt apos.atName
   let (f,first) ← holding [ov] (getMethod ov m pl)
   callWith pos f first (backTo pos (starEach (e::es) X.env)) (backToKw pos (keywordEach [] X.env))):=by rfl) :
 PE X (.Call (.Attribute o m apos) (e::es) [] pos) (tMethX C m W sp ta t):=by
 obtain⟨f,fd,F,hm,hb⟩:=M.ex
 intro pins s σ H Q I h
 refine PySem.W.methodCall_KW (pl:=pl) (thn (he pins s σ H _ I h) fun u s1 ⟨x,H1,I1,rx,a,dx,fs,ex,ea,l,q⟩=>?_) ht
 subst ex
 obtain rfl:u=Value.ref a:=rx
 refine zde I1 ea c hm l ?_
 refine PySem.W.callWith_K (first := [.ref a]) (h₀:=X.base) I.ok.mod.kin hm.kp (thn (ha pos pins s1 σ H1 _ I1 q) fun us s2 ⟨vs,H2,I2,r,q2⟩=>⟨I2.kIn,?_⟩) hst hpl
 exact zgI (us:=.ref a::us) (vs:=.ref a::vs) F hr hb fl I2 (.cons rfl r) q2
theorem zcX(M:CanMX X.prog X.w X.K X.mg X.base k C m ps sp)(c:Cls X.K C)(fl:Fl X W)(hr:Room k X.A)(he:PE X o ta)
 (ht:eval (.Call (.Attribute o m apos) [] [] pos) X.env=(do
   let ov ← eval o X.env
   standAt apos.atName
   let (f,first) ← holding [ov] (getMethod ov m pl)
   callWith pos f first (backTo pos (starEach [] X.env)) (backToKw pos (keywordEach [] X.env))):=by rfl) :
 PE X (.Call (.Attribute o m apos) [] [] pos) (tMethX C m W sp ta tNil):=by
 obtain⟨f,fd,F,hm,hb⟩:=M.ex
 intro pins s σ H Q I h
 refine PySem.W.methodCall_KW (pl:=pl) (thn (he pins s σ H _ I h) fun u s1 ⟨x,H1,I1,rx,a,dx,fs,ex,ea,l,q⟩=>?_) ht
 subst ex
 obtain rfl:u=Value.ref a:=rx
 refine zde I1 ea c hm l ?_
 exact PySem.W.callWith_K0 (first := [.ref a]) I1.kIn hm.kp (zgI (us := [.ref a]) (vs := [.ref a]) F hr hb fl I1 (.cons rfl .nil) q)
theorem zL(M:CanM X.prog X.w X.K X.mg X.base k C m ps sp)(c:Cls X.K C)(hr:Room k X.A)(he:PE X o ta)
 (ht:eval (.Call (.Attribute o m apos) [] [] pos) X.env=(do
   let ov ← eval o X.env
   standAt apos.atName
   let (f,first) ← holding [ov] (getMethod ov m pl)
   callWith pos f first (backTo pos (starEach [] X.env)) (backToKw pos (keywordEach [] X.env))):=by rfl) :
 PE X (.Call (.Attribute o m apos) [] [] pos) (tMeth C m sp [] E0 ta tNil):=by
 obtain⟨f,fd,F,hm,hb⟩:=M.ex
 exact pe_meth0 (pl:=pl) he c hm F hr hb .nil pass0 ht
structure CanK (P:Program) (w:World) (K:PySem.W.Frag) (mg:Str→Option Value) (base:Heap) (k:Nat) (x:Str) (C:Addr) (ps:List Str) (sp:Sp):Prop where
 ex:∃f fd,FnOk P w K mg base (CX1 P w) k f fd ps sp∧mg x=some (.ref C)∧Mk K C f∧zaH K fd ps []
def tMakeX(C:Addr)(W:XW)(sp:Sp)(t:TA):TE:=fun σ H Q=>t σ H fun vs H1=>∀x dx,H1 x=none→H1 dx=none→dx≠x→sp (.ref x::vs) (upd (upd H1 dx (.own x)) x (.ins C dx [])) (fun v H2=>v=.non∧Q (.ref x) H2) fun cls _ H'=>W σ cls H'
theorem zjE{pins:List (Addr × Obj)}{σ:St}{H:Hp}{s:Shared}{Q:VK}{us:List Value}{vs:List V}{f:Addr}{fd:FuncData}(M:Mk X.K C f)(F:FnOk X.prog X.w X.K X.mg X.base (CX1 X.prog X.w) k f fd ps sp)(hr:Room (k+1) X.A)(hb:zaH X.K fd ps [])(fl:Fl X W)(I:Inv X pins σ H s)(r:zI vs us)
 (h:∀x dx,H x=none→H dx=none→dx≠x→sp (.ref x::vs) (upd (upd H dx (.own x)) x (.ins C dx [])) (fun v H2=>v=.non∧Q (.ref x) H2) fun cls _ H'=>W σ cls H') :
 wpAny (model X.prog X.w) X.A (call (.ref C) us) (EP X pins σ Q) X.xe s:=by
 have hq:=h (s.heap.objs.size+1) s.heap.objs.size (I.hok.fresh (Nat.le_succ _)) (I.hok.fresh (Nat.le_refl _)) (Nat.ne_of_lt (Nat.lt_succ_self _))
 have I2:=Inv.made (C:=C) I
 have r2:zI (V.ref (s.heap.objs.size+1)::vs) (Value.ref (s.heap.objs.size+1)::us):=.cons rfl r
 have hl:(Value.ref (s.heap.objs.size+1)::us).length=ps.length:=by
  have e:=r2.length
  rw[F.len _ _ _ _ hq] at e
  exact e.symm
 have hb':=hb { s with heap:=(s.heap.push PySem.W.emptyDict).push (PySem.W.instObj C s.heap.objs.size) } (Value.ref (s.heap.objs.size+1)::us) I2.kIn (by rw[List.append_nil];exact hl)
 rw[List.append_nil] at hb'
 refine wpAny_call (make_map (f:=f) I.kIn M.makes M.init (beq_iff_eq.mp M.fn) (codeAny_mono (F.run _ X.stack _ _ ⟨Value.ref (s.heap.objs.size+1)::us,[]⟩ (Value.ref (s.heap.objs.size+1)::us) _ _ _ (hr.make C us [])
  (I2.env0.make C us []) hb' r2 hq) fun r s' hq'=>?_))
 cases r with
 | error e =>
   obtain⟨y,cls,H',rfl,fly,w⟩:=hq'
   exact fl pins σ _ _ y cls H' s' I2 fly w
 | ok fl =>
   cases fl with
   | ret u =>
     obtain⟨v,H',I3,rv,ev,q3⟩:=I2.after hq'
     subst ev
     exact⟨rv,⟨V.ref (s.heap.objs.size+1),H',I3,rfl,q3⟩⟩
   | next=>exact False.elim hq'
   | brk=>exact False.elim hq'
   | cont=>exact False.elim hq'
theorem pe_makeX{x:Str}{p:Pos}(M:CanK X.prog X.w X.K X.mg X.base k x C ps sp)(fl:Fl X W)(hr:Room (k+1) X.A)(hg:Gl X x)(ha:PA X (e::es) t)(hdb:(x==("__debug__" : Str))=false:=by decide)
 (he:starEach (e::es) X.env=(false,eval e X.env)::starEach es X.env:=by rfl) (hpl:(backTo pos (starEach es X.env)).any (·.1)=false:=by rfl):PE X (.Call (.Name x p) (e::es) [] pos) (tMakeX C W sp t):=by
 obtain⟨f,fd,F,hm,hk,hb⟩:=M.ex
 intro pins s σ H Q I h
 refine wpAny_Call_Name_kw (zc2 I hg hm ?_ hdb)
 refine PySem.W.callWith_K (h₀:=X.base) I.ok.mod.kin hk.kp (thn (ha pos pins s σ H _ I h) fun us s1 ⟨vs,H1,I1,r,q⟩=>⟨I1.kIn,?_⟩) he hpl
 exact zjE hk F hr hb fl I1 r q
theorem pe_fldK{K:PySem.W.Frag}{f:Str}(h:X.K=K)(he:PE X e ta)(hb:attributeBase e f X.env (eval e X.env)=eval e X.env):PE X (.Attribute e f pos) (tFld K ta f):=by subst h;exact yJ he hb
end
def zJ(K:PySem.W.Frag)(x:Str):Addr:=match PySem.W.nsIn K mainGlobals x with
 | some (some (.ref C))=>C
 | _=>0
theorem clsA_of{K:PySem.W.Frag}{x:Str}{C:Addr}(h:PySem.W.nsIn K mainGlobals x=some (some (.ref C))):zJ K x=C:=by unfold zJ;rw[h]
theorem CanM.of{P:Program}{w:World}{K:PySem.W.Frag}{mg:Str→Option Value}{base:Heap}{k:Nat}{C:Addr}{x m:Str}{ps:List Str}{sp:Sp}{f:Addr}{fd:FuncData}(hC:zJ K x=C)(G:FnOk P w K mg base CX0 k f fd ps sp)(hm:Meth K C m f)(b:zaH K fd ps []):CanM P w K mg base k (zJ K x) m ps sp:=by rw[hC];exact⟨f,fd,G,hm,b⟩
theorem CanMX.of{P:Program}{w:World}{K:PySem.W.Frag}{mg:Str→Option Value}{base:Heap}{k:Nat}{C:Addr}{x m:Str}{ps:List Str}{sp:Sp}{f:Addr}{fd:FuncData}(hC:zJ K x=C)(G:FnOk P w K mg base (CX1 P w) k f fd ps sp)(hm:Meth K C m f)(b:zaH K fd ps []):CanMX P w K mg base k (zJ K x) m ps sp:=by rw[hC];exact⟨f,fd,G,hm,b⟩
theorem CanK.of{P:Program}{w:World}{K:PySem.W.Frag}{mg:Str→Option Value}{base:Heap}{k:Nat}{C:Addr}{x:Str}{ps:List Str}{sp:Sp}{f:Addr}{fd:FuncData}(hC:zJ K x=C)(G:FnOk P w K mg base (CX1 P w) k f fd ps sp)(hg:mg x=some (.ref C))(hm:Mk K C f)(b:zaH K fd ps []):CanK P w K mg base k x (zJ K x) ps sp:=by rw[hC];exact⟨f,fd,G,hg,hm,b⟩
section
variable {X:Cx}
theorem zfJ(hc:X.calm=true):zas X (.builtin "max") (fun xs H Q=>∃(a:Addr) (ns:List Int),xs = [.ref a]∧SqL X.K H a (ns.map V.int)∧0<ns.length∧∀M:Int,M∈ns→(∀x∈ns,x≤M)→Q (.int M) H):=by
 intro pins s σ H xs us Q I r h
 obtain⟨a,ns,rfl,hS,hne,q⟩:=h
 obtain⟨u,rfl,ru⟩:=r.one
 cases ru
 obtain⟨its,r1,p1,z1⟩:=I.list hS
 have hi:=zaU r1
 obtain⟨xs,e⟩:=hi.allInts.items
 have hns:ns=xs.toList.map (·.1):=by
  rw[← hi.numsOf,← nums_intItems,← e]
 have hsz:0<xs.size:=by
  have h3:=hne;rw[hns,List.length_map,Array.length_toList] at h3;exact h3
 have hl:=p1.isList
 rw[e] at hl
 refine max_intList (I.ok.hd hc) hl hsz fun v h' tk hv hk=>?_
 obtain⟨t,rfl⟩:=intItems_at hv
 obtain⟨h1,h2⟩:=argBest_gt (numAt xs) (xs.size - 1)
 refine⟨.int _,H,I.kept (t':=tk) hk,⟨t,rfl⟩,q _ ?_ fun a ha=>?_⟩
 ·rw[hns,numAt_eq];exact getD_mem (by rw[List.length_map,Array.length_toList];omega)
 ·rw[hns] at ha
  obtain⟨j,hj,rfl⟩:=mem_getD ha
  rw[List.length_map,Array.length_toList] at hj
  rw[← numAt_eq];exact h2 j (by omega)
def rCatS(K:PySem.W.Frag):R2:=fun x y H Q=>∃l b xs zs,x=.ref l∧y=.ref b∧SqL K H l xs∧SqL K H b zs∧xs.length+zs.length≤sizeLine∧∀p,H p=none→Q (.ref p) (upd H p (.lst (xs++zs)))
theorem op_catS:OpR X (binaryOp .Add) (rCatS X.K):=by
 intro pins s σ H x y v u Q I rx ry h
 obtain⟨l,b,xs,zs,rfl,rfl,hH,hB,hz,q⟩:=h
 cases rx
 cases ry
 obtain⟨its,r,p1,z1⟩:=I.list hH
 obtain⟨its2,r2,p2,z2⟩:=I.list hB
 have hl:=r.length
 have hl2:=r2.length
 obtain⟨⟨cls,dd,data,sl⟩,ho,hc,n,hd⟩:=p1.isList
 obtain⟨⟨cls2,dd2,data2,sl2⟩,ho2,hc2,n2,hd2⟩:=p2.isList
 cases hc;cases hd;cases hc2;cases hd2
 refine concat_meets ⟨_,ho,rfl⟩ ⟨_,ho2,rfl⟩ noFill_list_add seq_list_add F.slot_list_add F.entry_list_add (F.args_list_add_2 _ _) (list_addW l b its.toArray its2.toArray n n2 dd dd2 sl sl2 (by rw[List.size_toArray,List.size_toArray];omega)) ⟨ho,ho2,?_⟩
 have ea:its.toArray++its2.toArray=(its++its2).toArray:=by simp
 rw[ea]
 exact⟨.ref _,_,I.lnew (t':=s.toks) (r.append r2) (by rw[List.length_append];omega),rfl,q _ I.fresh⟩
theorem zbN{K:PySem.W.Frag}(h:X.K=K)(hu:X.A.units<cLine):OpR X (compareOp .NotEq) (rNeL K):=by subst h;exact ze5 hu
end
section
variable {X:Cx}
theorem ms_index(hc:X.calm=true):MtR X "str.index" (fun x xs H Q=>∃z y,x=.str z∧xs = [.str y]∧0≤Txt.find z y∧Q (.int (Txt.find z y)) H):=by
 intro pins s σ H x xs v us Q I rx rv h
 obtain⟨z,y,rfl,rfl,h0,q⟩:=h
 obtain⟨t,rfl⟩:=rx
 obtain⟨u,rfl,ru⟩:=rv.one
 obtain⟨t2,rfl⟩:=ru
 exact index_or (I.ok.hd hc) (fun e _=>by rw[e] at h0;exact absurd h0 (by decide)) fun _ _=>⟨.int _,H,I.tok _,⟨_,rfl⟩,q⟩
end
end L2
namespace L2
open PySem PySem.Spec PyProof.Rows PySem.W PySem.Calls Builtin Builtin.ObjectAttr Builtin.Getset_descriptor
section
variable {prog:Program} {w:World} {A:Around} {s:Shared} {K:PySem.W.Frag} {x C:Addr} {E:Value→Shared→Prop}
theorem zfW{R:Result→Shared→Prop}{tp:Value}(L0:Looks (model prog w) s.heap (typeOf (.ref x)) (.ref C))(L1:Looks (model prog w) s.heap (isSubtype (.ref C) (.type "object")) true)(hR:R (.ok (.ret (.ref C))) s):
 codeAny (model prog w) A (.call (.builtin "getset_descriptor.__get__") ⟨[.builtin "object.__class__",.ref x,tp],[]⟩) R s:=by
 obtain⟨h1,g1,d1,t1,o1⟩:=s
 refine codeAny_call_builtin KF.slot_gs.plain KF.entry_gs ?_
 refine KF.slot_gs.check _ _ _ _ _ _ _ _ KF.type_class (KF.args_gs _ _ _) ?_
 unfold Builtin.«getset_descriptor.__get__»
 unfold descrGet
 rw[dga_obj]
 refine wpAny_bind ?_
 refine wpAny_pure ?_
 unfold descrGetter descrCheckInstance
 unfold descrNameAndClass isInstance
 simp only[KF.owner_class]
 repeat lk
 refine⟨Code.quiet_builtin _ (by decide +kernel),?_⟩
 refine codeAny_builtin KF.entry_class ?_
 unfold Builtin.«object.__class__»
 unfold shownTypeOf
 repeat lk
 exact hR
theorem exc_find(X:K.In s.heap)(ha:findIn K (.ref C) "__class__" = some (some (.builtin "object.__class__")))(hn:specialIn K (.builtin "object.__class__") "__get__" = some (some (.builtin "getset_descriptor.__get__")))(ht:takesIn K (.builtin "object.__class__")=some true):
 Looks (model prog w) s.heap (find (.ref x) (.ref C) "__class__") (.bind (.builtin "getset_descriptor.__get__") (.builtin "object.__class__")):=by
 have M1:=looks_findIn (M:=model prog w) X ha
 have M2:Looks (model prog w) s.heap (getOf (some (.builtin "object.__class__"))) (some (.builtin "getset_descriptor.__get__")):=looks_specialIn X hn
 have M3:=looks_takesIn (M:=model prog w) X ht
 refine M1.andThen (M2.andThen ?_)
 have M4:Looks (model prog w) s.heap (dataDescriptor? (some (.builtin "object.__class__")) (some (.builtin "getset_descriptor.__get__"))) (some (.builtin "getset_descriptor.__get__",.builtin "object.__class__")):=M3.andThen .now
 exact M4.andThen (Looks.tag .now)
theorem zgW{M:Model}{nm:Value}{Q:Unit→Shared→Prop}(LI:Looks M s.heap (isInstance (.ref x) (.type "BaseException")) true)(hQ:Q () s):wpAny M A (checkBuiltinCall "BaseException.__getattribute__" ⟨[.ref x,nm],[]⟩) Q E s:=by
 have hk:builtinKind "BaseException.__getattribute__" = some .slot:=by decide +kernel
 have hsp:splitId "BaseException.__getattribute__" = some ("BaseException","__getattribute__"):=by decide +kernel
 have hargs:=F.args_bexc_ga (.ref x) nm
 obtain⟨h1,g1,d1,t1,o1⟩:=s
 simp only[checkBuiltinCall,hk,hsp]
 refine wpAny_bind (LI.at ?_)
 repeat (first | wp_step | exact hQ)
theorem exc_ga{R:Result→Shared→Prop}{tk:Tok}(L0:Looks (model prog w) s.heap (typeOf (.ref x)) (.ref C))(F1:Looks (model prog w) s.heap (find (.ref x) (.ref C) "__class__") (.bind (.builtin "getset_descriptor.__get__") (.builtin "object.__class__")))
 (S1:Looks (model prog w) s.heap (isSubtype (.ref C) (.type "object")) true) (S2:Looks (model prog w) s.heap (isSubtype (.ref C) (.type "BaseException")) true) (hR:R (.ok (.ret (.ref C))) s) :
 codeAny (model prog w) A (.call (.builtin "BaseException.__getattribute__") ⟨[.ref x,.str "__class__" tk],[]⟩) R s:=by
 refine codeAny_call_builtin F.excAttr_ValueError.ga.plain F.entry_bexc_ga ?_
 refine zgW (L0.andThen S2) ?_
 obtain⟨h1,g1,d1,t1,o1⟩:=s
 unfold Builtin.«object.__getattribute__»
 repeat (first | with_reducible refine wpAny_bind (L0.at ?_) | with_reducible refine wpAny_bind (F1.at ?_) | wp_step)
 exact zfW (s:=⟨h1,g1,d1,t1,o1⟩) L0 S1 (wpAny_pure hR)
theorem exc_attr{Q:Option Value→Shared→Prop}(X:K.In s.heap)(he:∃o,s.heap.get? x=some o∧o.cls=.ref C)(hga:findIn K (.ref C) "__getattribute__" = some (some (.builtin "BaseException.__getattribute__")))(hgb:findIn K (.ref C) "__getattr__" = some none)
 (ha:findIn K (.ref C) "__class__" = some (some (.builtin "object.__class__"))) (hn:specialIn K (.builtin "object.__class__") "__get__" = some (some (.builtin "getset_descriptor.__get__"))) (ht:takesIn K (.builtin "object.__class__")=some true) (hm:mroIn K C (.type "object")=some true) (hm2:mroIn K C (.type "BaseException")=some true)
 (hQ:Q (some (.ref C)) { s with toks:=s.toks+1 }):wpAny (model prog w) A (getAttr? (.ref x) "__class__") Q E s:=by
 obtain⟨o,eo,ec⟩:=he
 have F1:=exc_find (s:={ s with toks:=s.toks+1 }) (x:=x) (prog:=prog) (w:=w) X ha hn ht
 obtain⟨h1,g1,d1,t1,o1⟩:=s
 have L0:=zf9 (M:=model prog w) eo ec
 have G0:=looks_findIn (M:=model prog w) X hga
 have G1:=looks_findIn (M:=model prog w) X hgb
 have S1:=looks_mroIn (M:=model prog w) X hm
 have S2:=looks_mroIn (M:=model prog w) X hm2
 unfold getAttr? getAttrBy?
 unfold getAttrBy
 refine wpAny_bind (wpAny_mkText ?_)
 refine wpAny_bind (wpAny_attempt ?_)
 refine wpAny_holding ?_
 refine wpAny_bind (L0.at ?_)
 refine wpAny_bind (G0.at ?_)
 have hx2:(onTheHeap (Value.ref C) && Value.builtin "BaseException.__getattribute__" == Value.builtin "object.__getattribute__")=false:=by
  rw[show(Value.builtin "BaseException.__getattribute__" == Value.builtin "object.__getattribute__")=false by decide +kernel]
  rfl
 dsimp only
 rw[if_neg (by rw[hx2];exact Bool.false_ne_true)]
 unfold getAttrByItsOwn hookBefore
 rw[if_pos (show onTheHeap (Value.ref C)=true from rfl)]
 refine wpAny_bind (G1.at ?_)
 unfold callGetattribute
 rw[if_neg (by simp)]
 unfold boundAndCalled
 refine wpAny_bind (wpAny_attempt (wpAny_holding ?_))
 rw[F.excAttr_ValueError.ga.bind]
 refine wpAny_bind (wpAny_pure ?_)
 dsimp only
 refine wpAny_call ?_
 refine exc_ga (s:=⟨h1,g1,d1,t1+1,o1⟩) L0 F1 S1 S2 ?_
 exact handed_on rfl (wpAny_pure hQ)
def exI(K:PySem.W.Frag)(C:Addr):Bool :=
 (findIn K (.ref C) "__getattribute__" == some (some (.builtin "BaseException.__getattribute__")) && findIn K (.ref C) "__getattr__" == some none && findIn K (.ref C) "__class__" == some (some (.builtin "object.__class__"))) &&
 (specialIn K (.builtin "object.__class__") "__get__" == some (some (.builtin "getset_descriptor.__get__")) && takesIn K (.builtin "object.__class__")==some true && mroIn K C (.type "object")==some true && mroIn K C (.type "BaseException")==some true && (clsIn K C).isSome)
theorem zjV(hi:exI K C=true):KitX K (.ref x) (.ref C) (fun h=>∃o,h.get? x=some o∧o.cls=.ref C):=by
 unfold exI at hi
 simp only[Bool.and_eq_true,beq_iff_eq] at hi
 obtain⟨⟨⟨i1,i2⟩,i3⟩,⟨⟨⟨i4,i5⟩,i6⟩,i7⟩,i8⟩:=hi
 obtain⟨cd,hcd⟩:=Option.isSome_iff_exists.mp i8
 have hob:∃a b c,K.lookup C=some ⟨a,b,.cls cd,c⟩:=by
  unfold clsIn at hcd
  split at hcd
  ·rename_i q;cases hcd;exact⟨_,_,_,q⟩
  ·cases hcd
 obtain⟨a1,a2,a3,hob⟩:=hob
 refine⟨fun M h _ ⟨o,eo,ec⟩=>zf9 eo ec,fun M h X _=>?_,fun h tp dd its n sl X e=>?_,fun X p k=>exc_attr X p i1 i2 i3 i4 i5 i6 i7 k⟩
 ·intro A' Q' E' s' k q
  unfold isType
  unfold loadHead
  exact wpAny_bind (wpAny_loadPart (k _ _ (X _ _ hob)) (wpAny_pure q))
 ·refine Bool.eq_false_iff.mpr fun q=>?_
  have ez:C=tp:=by injection beq_iff_eq.mp q
  subst ez
  have:=X _ _ hob
  rw[e] at this
  cases this
end
section
variable {X:Cx}
theorem zfG:zas X (.builtin "isinstance") (fun xs H Q=>∃x C v c b,xs = [.ref x,v]∧yb v c∧H x=some (wV x (.ref C))∧exI X.K C=true∧PySem.W.kitOne X.K (.ref C) c=some b∧Q (.bl b) H):=by
 intro pins s σ H xs us Q I r h
 obtain⟨x,C,v,c,b,rfl,rc,hx,hi,e,q⟩:=h
 obtain⟨u,t,rfl,ru,rt⟩:=r.two
 cases ru
 have no:∀z,PySem.W.kitCls X.K (.ref C) z=none→(Value.ref C==z)=false→PySem.W.kitOne X.K (.ref C) z=none:=fun z h1 h2=>by unfold PySem.W.kitOne;rw[h2];exact h1
 have ect:t=c:=by
  cases v with
  | ref a=>rw[show t=_ from rt,show c=_ from rc]
  | ty n=>rw[show t=_ from rt,show c=_ from rc]
  | non=>rw[show t=_ from rt,show c=_ from rc]
  | bl b=>rw[show t=_ from rt,show c=_ from rc]
  | int i=>obtain⟨k,rfl⟩:=rc;rw[no _ rfl rfl] at e;cases e
  | str i=>obtain⟨k,rfl⟩:=rc;rw[no _ rfl rfl] at e;cases e
  | byt i=>obtain⟨k,rfl⟩:=rc;rw[no _ rfl rfl] at e;cases e
  | flt i=>obtain⟨k,rfl⟩:=rc;rw[no _ rfl rfl] at e;cases e
 subst ect
 obtain⟨ho,_,_⟩:=I.hok x _ hx
 exact kia_one (zjV hi) I.kIn ho e (by intro q;cases q) fun tk=>⟨.bl b,H,I.tok tk,rfl,q⟩
theorem yf{K:PySem.W.Frag}(h:X.K=K):zas X (.builtin "isinstance") (fun xs H Q=>∃x C v c b,xs = [.ref x,v]∧yb v c∧H x=some (wV x (.ref C))∧exI K C=true∧PySem.W.kitOne K (.ref C) c=some b∧Q (.bl b) H):=by subst h;exact zfG
end
section
variable {X:Cx}
end
section
variable {X:Cx}
def rEqLE(K:PySem.W.Frag):R2:=fun x y H Q=>∃a b xs,x=.ref a∧y=.ref b∧SqL K H a xs∧SqL K H b []∧Q (.bl (decide (xs.length=0))) H
theorem zhw(hu:X.A.units<cLine):OpR X (compareOp .Eq) (rEqLE X.K):=by
 intro pins s σ H x y v u Q I rx ry h
 obtain⟨a,b,xs,rfl,rfl,ha,hb,q⟩:=h
 cases xs with
 | nil=>exact zck hu pins s σ H _ _ v u Q I rx ry ⟨a,b,[],[],rfl,rfl,ha,hb,rfl,rfl,q⟩
 | cons z xs =>
   cases rx
   cases ry
   obtain⟨its,r1,p1,z1⟩:=I.list ha
   obtain⟨its2,r2,p2,z2⟩:=I.list hb
   have l1:=r1.length
   have l2:=r2.length
   exact SeqAt.eq_list_lengthsAt p1.isList p2.isList (by simp at l1 l2;simp;omega) hu ⟨.bl false,H,I,rfl,q⟩
end
end L2
namespace M14
open PySem PySem.W PyProof.Rows
abbrev g(p:Array Nat)(i:Nat):Nat:=p.getD i 0
section
variable (key:Nat→Int) (N:Nat)
def R(a b:Nat):Prop:=key a<key b∨key a=key b∧a<b
structure B (p:Array Nat) (m:Nat):Prop where
 pm:p.Perm (List.range N).toArray
 tl:∀i,m≤i→i<N→g p i=i
 lo:∀i,i<m→g p i<m
 le:m≤N
def I(p:Array Nat)(m:Nat):Prop:=B N p m∧∀i j,i<j→j<m→R key (g p i) (g p j)
def E(p:Array Nat)(m:Nat):Prop:=B N p m∧∀i j,i<j→j<m→R key (g p j) (g p i)
structure D (p:Array Nat) (m b:Nat):Prop where
 bs:B N p m
 lt:b<m
 ds:∀i j,i<j→j<b→R key (g p j) (g p i)
 sp:∀i j,i<b→b≤j→j<m→key (g p j)<key (g p i)
 bk:∀i j,b≤i→i<j→j<m→key (g p i)=key (g p j)∧g p i<g p j
def ck(i j:Nat)(C:Bool→Shared→Prop)(s:Shared):Prop:=i<N∧j<N∧C (decide (key i<key j)) s
variable {key N}
theorem B.lt{p:Array Nat}{m:Nat}(b:B N p m){i:Nat}(h:i<N):g p i<N:=by
 by_cases c:i<m
 ·have:=b.lo i c;have:=b.le;omega
 ·rw[b.tl i (by omega) h];exact h
theorem R.le{a b:Nat}(h:R key a b):key a≤key b:=by
 rcases h with h | h
 ·omega
 ·omega
theorem R.of{a b:Nat}(h:key a≤key b)(l:a<b):R key a b:=by
 by_cases c:key a<key b
 ·exact .inl c
 ·exact .inr ⟨by omega,l⟩
theorem D.one{p:Array Nat}{m:Nat}(h:D key N p (m+1) m):E key N p (m+1):=by
 refine⟨h.bs,fun i j hij hj=>?_⟩
 by_cases c:j<m
 ·exact h.ds i j hij c
 ·have e:j=m:=by omega
  subst e
  exact .inl (h.sp i j hij (Nat.le_refl _) (by omega))
theorem place{p:Array Nat}{k:Nat}{Q:Nat→Shared→Prop}{s:Shared}(hk:k<N)(h:I key N p k):∀(f l r:Nat),r≤l+f→l≤r→r≤k→(∀i,i<l→key (g p i)≤key (g p k))→(∀i,r≤i→i<k→key (g p k)<key (g p i)) →
 (∀l',l'≤k→(∀i,i<l'→key (g p i)≤key (g p k))→(∀i,l'≤i→i<k→key (g p k)<key (g p i))→Q l' s)→(kas_place p k f l r).kasWp (ck key N) Q s
 | 0,l,r,e,h1,h2,a,b,q=>q l (by omega) a fun i x y=>b i (by omega) y
 | f+1,l,r,e,h1,h2,a,b,q=>by
   unfold kas_place
   by_cases c:l ≥ r
   ·rw[if_pos c]
    exact q l (by omega) a fun i x y=>b i (by omega) y
   ·rw[if_neg c]
    have h3:(l+r)/2<r:=by omega
    have h4:l≤(l+r)/2:=by omega
    generalize (l+r)/2=m at h3 h4
    refine⟨h.1.lt hk,h.1.lt (by omega),?_⟩
    by_cases d:key (g p k)<key (g p m)
    ·rw[decide_eq_true d];dsimp only;rw[if_pos rfl]
     refine place hk h f l m (by omega) h4 (by omega) a (fun i x y=>?_) q
     by_cases c2:i=m
     ·rw[c2];exact d
     ·have:=(h.2 m i (by omega) y).le
      omega
    ·rw[decide_eq_false d];dsimp only;rw[if_neg Bool.false_ne_true]
     refine place hk h f (m+1) r (by omega) (by omega) h2 (fun i x=>?_) b q
     by_cases c2:i=m
     ·rw[c2];omega
     ·have:=(h.2 i m (by omega) (by omega)).le
      omega
end
end M14
namespace L2
open PySem PySem.W PySem.Calls PyProof.Rows
section
variable {X:Cx} {pins:List (Addr × Obj)} {σ:St} {H:Hp} {s:Shared} {a kS:Addr} {A:Around} {E:Value→Shared→Prop}
structure Own (X:Cx) (pins:List (Addr × Obj)) (H:Hp) (a:Addr):Prop where
 free:H a=none
 loc:a≠X.env.locals
 new:X.s₀.heap.objs.size≤a
 cell:∀x c,X.env.cells.lookup x=some c→c≠a
 pin:∀p∈X.pn++pins,p.1≠a
 fs:a∉X.fs
theorem Inv.own(I:Inv X pins σ H s){b:Addr}(h:s.heap.objs.size≤b):Own X pins H b:=by
 refine⟨I.hok.fresh h,fun z=>?_,Nat.le_trans I.sz h,fun x c e z=>?_,fun p hp z=>?_,I.nofs h⟩
 ·have:=I.lt;rw[← z] at this;exact absurd this (Nat.not_lt.mpr h)
 ·obtain⟨v,hv⟩:=I.cell x c e
  obtain⟨o,ho,_⟩:=hv
  have:=Heap.lt_size ho
  rw[z] at this
  exact absurd this (Nat.not_lt.mpr h)
 ·have:=Heap.lt_size (I.pin p hp).1
  rw[z] at this
  exact absurd this (Nat.not_lt.mpr h)
end
end L2
namespace L2
open PySem PySem.W
section
variable {P:Program} {w:World} {A:Around} {E:Value→Shared→Prop} {s:Shared} {z TI TO T i1 i2 l1 l2:Addr} {b:Bool}
end
end L2
namespace L2
open PySem PySem.W PyProof.Rows
section
variable {X:Cx} {pins:List (Addr × Obj)} {σ:St} {H:Hp} {s:Shared} {h':Heap} {t':Nat} {ch:List Addr}
variable {A:Around} {E:Value→Shared→Prop} {z TI TO i1 i2 l1 l2 S:Addr} {xs ys:List Value} {xv yv:List V}
abbrev Prs(H:Hp)(ts:List Addr)(ps:List (V × V)):Prop:=Paired (fun t (p:V × V)=>H t=some (.tup [p.1,p.2])) ts ps
end
end L2
namespace L2
open PySem PySem.W PyProof.Rows PySem.Calls
section
variable {X:Cx} {pins:List (Addr × Obj)} {σ:St} {H:Hp} {s:Shared} {A:Around} {E:Value→Shared→Prop} {z TI TO i1 i2 l1 l2:Addr} {xs ys:List Value} {xv yv:List V}
end
end L2
namespace L2
open PySem PySem.W PyProof.Rows PySem.Calls
section
variable {X:Cx} {pins:List (Addr × Obj)} {σ:St} {H:Hp} {s:Shared} {A:Around} {E:Value→Shared→Prop} {z TI TO i1 i2 l1 l2 q:Addr} {xs ys:List Value} {xv yv:List V} {kz:List Int}
theorem Prs.length{ts:List Addr}{ps:List (V × V)}(h:Prs H ts ps):ts.length=ps.length:=by
 induction h with
 | nil=>rfl
 | cons _ _ ih=>rw[List.length_cons,List.length_cons,ih]
end
end L2
namespace L2
open PySem PySem.W PyProof.Rows PySem.Calls
section
variable {X:Cx} {pins:List (Addr × Obj)} {σ:St} {H:Hp} {s:Shared} {A:Around} {E:Value→Shared→Prop} {l1 l2:Addr} {xv yv:List V}
end
end L2
namespace L2
open PySem PySem.W PySem.Spec PyProof.Rows PySem.Calls
def ziG(H H':Hp):Prop:=(∀b u,H b=some u→(∀ps,u ≠ .tbl ps)→H' b=some u)∧∀b ps,H b=some (.tbl ps)→∃qs,H' b=some (.tbl qs)
theorem ziG.trans{H H1 H2:Hp}(a:ziG H H1)(b:ziG H1 H2):ziG H H2:=⟨fun c u e n=>b.1 c u (a.1 c u e n) n,fun c ps e=>let ⟨qs,e1⟩:=a.2 c ps e;b.2 c qs e1⟩
section
variable {X:Cx} {pins:List (Addr × Obj)} {σ:St} {H:Hp} {s:Shared} {E:Value→Shared→Prop}
end
end L2
namespace L2
open PySem PySem.W PySem.Spec PyProof.Rows PySem.Calls
section
variable {X:Cx} {ex ey:Expr} {t:TA} {c P:Addr} {y:Str} {p1 p2 p3 p4 p5 pos pos2 lpos kp:Pos} {j:Nat} {params:Arguments} {scope:Scope}
end
end L2
namespace L2
open PySem PySem.W PySem.Spec PyProof.Rows PySem.Calls
section
variable {P:Program} {w:World} {K:Frag} {mg:Str→Option Value} {base:Heap}
end
structure CompScope2 (sc:Scope) (N:List Str) (x x2:Str) (fr:List Str) (ix:List Nat) (scope:Scope):Prop where
 kind:scope.kind=.function
 nocell:∀y∈scope.names,y.2 ≠ .cell
 lcl:∀y∈scope.names,y.2=.local→scope.names.lookup y.1=some .local
 lx:scope.names.lookup x=some .local
 lx2:scope.names.lookup x2=some .local
 free:∀y∈scope.names,y.2=.free→sc.names.lookup y.1=some .cell∨sc.names.lookup y.1=some .free
 at':fr.map some=ix.map fun i=>N[i]?
 frk:∀y∈fr,scope.names.lookup y=some .free∧(sc.names.lookup y=some .cell∨sc.names.lookup y=some .free)
 nd:(x::x2::fr).Nodup
section
variable {X:Cx} {pins:List (Addr × Obj)} {σ:St} {H:Hp} {s:Shared} {x x2:Str} {fr:List Str} {ix:List Nat} {scope:Scope} {cl:List (Str × Addr)} {fp:List Addr} {C D:Addr}
theorem blk_ok2(S:CompScope2 X.env.scope X.N x x2 fr ix scope)(I:Inv X pins σ H s)(hf:∀b∈fp,zab X pins H b)(hfo:∀b∈fp,b<s.heap.objs.size)(hC:s.heap.objs.size≤C)
 (h1:∀y c,cl.lookup y=some c→X.env.cells.lookup y=some c) (h2:∀y,(y,NameKind.free)∈scope.names→∃c,cl.lookup y=some c):(blk X (x::x2::fr) scope cl C s H fp).Ok where
 mod:=I.ok.mod
 kind:=S.kind
 glob:=I.ok.glob
 blt:=I.ok.blt
 above:=hC
 inj:=fun y z c a b=>I.ok.inj y z c (h1 y c a) (h1 z c b)
 has:=fun y hy=>h2 y (zdO (env:=X.env) (scope:=scope) S.nocell hy)
 cab:=fun y c h _=>Bool.noConfusion (show false=true from h)
 hd:=I.ok.hd
 frames:=I.ok.frames
 stk:=.inl rfl
 exf:=fun b hb=>⟨fun z=>absurd (hfo b hb) (by rw[z];exact Nat.not_lt.mpr hC),fun y c e=>(hf b hb).2.2.2.2.1 y c (h1 y c e)⟩
 bs:=I.bs
 bsz:=Nat.le_trans I.ok.bsz I.sz
 noex:=fun b o e hb=>by
  rcases (hf b hb).2.2.2.1 with z | z
  ·exact I.ok.noex b o e z
  ·exact absurd (Nat.lt_of_lt_of_le (Heap.lt_size e) (Nat.le_trans I.ok.bsz z)) (Nat.lt_irrefl _)
 exfs:=fun b hb z=>by
  rcases List.mem_cons.mp (I.stkSub b z)with e | e
  ·exact(hf b hb).2.1 e
  ·exact(hf b hb).2.2.1 e
 funs:=I.stack
 frf:=I.stkFree
theorem CompScope2.len(S:CompScope2 X.env.scope X.N x x2 fr ix scope):fr.length=ix.length:=by have:=congrArg List.length S.at';simpa using this
theorem blk_inv2{s':Shared}{pn:List (Addr × Obj)}{m:Str→Option Value}(S:CompScope2 X.env.scope X.N x x2 fr ix scope)(I:Inv X pins σ H s)(hf:∀b∈fp,zab X pins H b)(hfo:∀b∈fp,b<s.heap.objs.size)(hC:s.heap.objs.size≤C)
 (h1:∀y c,cl.lookup y=some c→X.env.cells.lookup y=some c) (h2:∀y,(y,NameKind.free)∈scope.names→∃c,cl.lookup y=some c)
 (ho:s'.os=s.os) (hg:s'.gens=s.gens) (k:∀b o,s.heap.get? b=some o→s'.heap.get? b=some o) (hn:s'.heap.Ns C m)
 (hp:∀p∈pn,s'.heap.get? p.1=some p.2∧s.heap.objs.size≤p.1∧p.1≠C∧∀v,p.2.data ≠ .cell v) :
 Inv (blk X (x::x2::fr) scope cl C s H fp) pn (none::none::cap ix σ) H s':=by
 obtain⟨mX,hnX,hlX⟩:=I.loc
 refine⟨blk_ok2 S I hf hfo hC h1 h2,ho,by rw[hg];exact I.bare,Un.kept k,⟨m,hn,fun i y v e1 e2 e3=>?_⟩,fun y c e=>?_,I.hok.fresh hC,fun y c e=>I.freeC y c (h1 y c e),fun p hp'=>?_,I.hok.kept k,by
  show(none::none::cap ix σ).length=(x::x2::fr).length
  simp[zgw,S.len]⟩
 ·rcases i with _ | _ | j
  ·cases e2
  ·cases e2
  ·have e1':fr[j]? = some y:=e1
   have e2':(cap ix σ)[j]? = some (some v):=e2
   obtain⟨f1,f2⟩:=S.frk y (List.mem_of_getElem? e1')
   unfold cap at e2'
   rw[List.getElem?_map] at e2'
   cases ei:ix[j]? with
   | none=>rw[ei] at e2';cases e2'
   | some i =>
     rw[ei] at e2'
     have e3':(σ[i]?).join=some v:=Option.some.inj e2'
     have e4:σ[i]? = some (some v):=by
      cases q:σ[i]? with
      | none=>rw[q] at e3';cases e3'
      | some w=>rw[q] at e3';have:w=some v:=e3';rw[this]
     have e5:X.N[i]? = some y:=by
      have:=congrArg (fun l=>l[j]?) S.at'
      simp only[List.getElem?_map,e1',ei] at this
      simpa using this.symm
     have vis:Vis X.env.scope y:=by
      rcases f2 with z | z
      ·exact .inr (.inl z)
      ·exact .inr (.inr z)
     obtain⟨u,r,l⟩:=hlX i y v e5 e4 vis
     refine⟨u,r,.inr ⟨zbh f1,?_⟩⟩
     rcases l with⟨z,_⟩ | ⟨_,c,ec,hc⟩
     ·rcases f2 with q | q
      ·have q':=(show X.env.scope.names.lookup y=some .local from z).symm.trans q;cases q'
      ·have q':=(show X.env.scope.names.lookup y=some .local from z).symm.trans q;cases q'
     ·obtain⟨c',hc'⟩:=h2 y (PySem.mem_of_lookup f1)
      have:c'=c:=by have:=h1 y c' hc';rw[ec] at this;exact(Option.some.inj this).symm
      subst this
      refine⟨c',hc',?_⟩
      obtain⟨o,ho',hd⟩:=hc
      exact⟨o,k _ _ ho',hd⟩
 ·obtain⟨v,o,ho',hd⟩:=I.cell y c (h1 y c e)
  exact⟨v,o,k _ _ ho',hd⟩
 ·have hp'':p∈pn:=by simpa [blk] using hp'
  obtain⟨q1,q2,q3,q4⟩:=hp p hp''
  refine⟨q1,I.hok.fresh q2,q3,fun z=>?_,q4⟩
  obtain⟨_,o,ho',_⟩:=I.stack.mem z
  exact absurd (Nat.lt_of_lt_of_le (Heap.lt_size ho') q2) (Nat.lt_irrefl _)
end
def zd2(K:PySem.W.Frag)(J:It)(c:St)(tc:TT)(te:TE)(H1:Hp)(fin:List V→Hp→Prop):Prop :=
 ∃W:Nat→Nat→List V→Hp→Prop,(∃m,W 0 m [] H1)∧∀i m ys H,W i m ys H →
  (J.stop i H∧ys.length≤sizeLine∧fin ys H) ∨
  (J.go i H∧ys.length<sizeLine∧∃N:List V→Hp→Prop,(∀ys' H',N ys' H'→∃m',m'<m∧W (i+1) m' ys' H')∧∀x H',J.yld i H x H'→∃t a b,x=.ref t∧SqT K H' t [a,b]∧tc (some a::some b::c) H' fun d H2=>if d=true then te (some a::some b::c) H2 fun y H3=>N (ys ++ [y]) H3 else N ys H2)
def zjX(K:PySem.W.Frag)(ix:List Nat)(wi:TI)(tc:TT)(te:TE):TE:=fun σ H Q=>wi σ H fun J H1=>zd2 K J (cap ix σ) tc te H1 fun ys H2=>∀l,H2 l=none→Q (.ref l) (upd H2 l (.lst ys))
section
variable {X:Cx} {x x2:Str} {fr:List Str} {ix:List Nat} {scope:Scope} {elt iter:Expr} {ifs:List Expr} {px px2 tp pos:Pos} {tk:Nat} {wi:TI} {tc:TT} {te:TE}
theorem zgc{use:Option (Value→Sem Unit)}{Q:Value→Shared→Prop}{pins:List (Addr × Obj)}{s2:Shared}{σ:St}{H2:Hp}{it:Addr}{fp:List Addr}{tn:Nat→Heap→Prop}{J:It}{cl:List (Str × Addr)}(S:CompScope2 X.env.scope X.N x x2 fr ix scope)(hc:X.calm=true)
 (hif:∀cl C s2 H2 fp,PIf (blk X (x::x2::fr) scope cl C s2 H2 fp) ifs tc) (he:∀cl C s2 H2 fp,PE (blk X (x::x2::fr) scope cl C s2 H2 fp) elt te)
 (h1:∀y c,cl.lookup y=some c→X.env.cells.lookup y=some c) (h2:∀y,(y,NameKind.free)∈scope.names→∃c,cl.lookup y=some c)
 (I2:Inv X pins σ H2 s2) (T:Turn X.prog X.w X.K (.Tuple [.Name x px,.Name x2 px2] tk tp) J fp it tn) (st2:tn 0 s2.heap) (f2:∀b∈fp,zab X pins H2 b) {fin:List V→Hp→Prop} (wc:zd2 X.K J (cap ix σ) tc te H2 fin)
 (hQ:∀(D C:Addr) (ys:List V) (H':Hp) (s':Shared) (m:Str→Option Value),Inv X pins σ (upd H' D (.lst ys)) s'→H' D=none→s'.heap.Ns C m→D≠C→s2.heap.objs.size≤C→H' C=none→fin ys H' →
   compPost (model X.prog X.w) X.A X.xe use Q (.ref D) C (.ok .next) s') :
 wpAny (model X.prog X.w) X.A (newList []) (fun acc s₃=>wpAny (model X.prog X.w) X.A (newFunctionEnv scope X.env.globals cl [] X.env.qual none .none (some X.env)) (fun cenv s₄ =>
  codeAny (model X.prog X.w) X.A (.compStart (.ListComp elt [⟨.Tuple [.Name x px,.Name x2 px2] tk tp,iter,ifs,0⟩] scope pos) 0 (.ref it) acc { cenv with scope:=relabel scope X.env }) (compPost (model X.prog X.w) X.A X.xe use Q acc cenv.locals) s₄) X.xe s₃) X.xe s2:=by
 have hfo:∀b∈fp,b<s2.heap.objs.size:=fun b hb=>by
  obtain⟨o,e,_⟩:=T.obj 0 _ st2 b hb
  exact Heap.lt_size e
 refine wpAny_newObj_type (wpAny_newFunctionEnv S.nocell (by intro y hy;simp at hy) (fun h₁ hns₁ hsb₁=>?_) S.kind)
 dsimp only at hns₁ hsb₁ ⊢
 generalize hHp:s2.heap.push { cls:=.type "list",dict:=none,data:=.seq ([]:List Value).toArray }=Hp2 at hns₁ hsb₁ ⊢
 have hCs:Hp2.objs.size=s2.heap.objs.size+1:=by rw[← hHp,Heap.size_push]
 have hDC:s2.heap.objs.size≠Hp2.objs.size:=by rw[hCs];exact Nat.ne_of_lt (Nat.lt_succ_self _)
 have hCle:s2.heap.objs.size≤Hp2.objs.size:=by rw[hCs];exact Nat.le_succ _
 have zc6:∀b,b<s2.heap.objs.size→b≠Hp2.objs.size:=fun b hb=>by rw[hCs];exact Nat.ne_of_lt (Nat.lt_succ_of_lt hb)
 have old:∀b o,s2.heap.get? b=some o→h₁.get? b=some o:=fun b o e=>hsb₁.extBut b o (zc6 b (Heap.lt_size e)) (Heap.get?_push_of_some _ (hHp ▸ Heap.get?_push_of_some _ e))
 have hacc:h₁.get? s2.heap.objs.size=some { cls:=.type "list",data:=.seq ([]:List Value).toArray 0 }:=hsb₁.extBut _ _ hDC (Heap.get?_push_of_some _ (hHp ▸ Heap.get?_push_size _ rfl))
 have st1:tn 0 h₁:=T.keep 0 _ _ st2 fun b _ o e=>old b o e
 have fpD:∀b∈fp,b≠s2.heap.objs.size:=fun b hb=>Nat.ne_of_lt (hfo b hb)
 generalize hD:s2.heap.objs.size=D at hacc hDC fpD ⊢
 have hDle:s2.heap.objs.size≤D:=Nat.le_of_eq hD
 generalize hC:Hp2.objs.size=C at hns₁ hsb₁ hDC hCle ⊢
 have oldD:∀b o,s2.heap.get? b=some o→b≠D:=fun b o e z=>absurd (Heap.lt_size e) (by rw[z,← hD];exact Nat.lt_irrefl _)
 obtain⟨W,⟨m0,w0⟩,wR⟩:=wc
 have loop:∀s₃:Shared,s₃={ s2 with heap:=h₁,toks:=s2.toks+([]:List (Str × Value)).length } →
  codeAny (model X.prog X.w) X.A (.compLoop (.ListComp elt [⟨.Tuple [.Name x px,.Name x2 px2] tk tp,iter,ifs,0⟩] scope pos) 0 (.ref it) (.ref D) (compEnvC scope cl C X.env))
   (compPost (model X.prog X.w) X.A X.xe use Q (.ref D) C) s₃:=by
  rintro s₃ rfl
  have I0:Inv (blk X (x::x2::fr) scope cl C s2 H2 fp) [(D,{ cls:=.type "list",data:=.seq ([]:List Value).toArray 0 })] (none::none::cap ix σ) H2 { s2 with heap:=h₁,toks:=s2.toks+([]:List (Str × Value)).length } :=
   blk_inv2 S I2 f2 hfo hCle h1 h2 rfl rfl old hns₁ (fun p hp=>by
    have e:p=(D,{ cls:=.type "list",data:=.seq ([]:List Value).toArray 0 }):=by simpa using hp
    subst e
    exact⟨hacc,hDle,hDC,fun v z=>by cases z⟩)
  have stat:∀{its:Obj} {H':Hp},(∀b∈fp,H' b=none)→∀b∈fp,zab (blk X (x::x2::fr) scope cl C s2 H2 fp) [(D,its)] H' b:=fun {its H'} hn b hb=>by
   refine⟨hn b hb,fun z=>?_,fun z=>(I0.ok.exfs b hb z),.inl hb,fun y c e=>(I0.ok.exf b hb).2 y c e,fun p hp z=>?_⟩
   ·exact(I0.ok.exf b hb).1 z
   ·have e:p=(D,its):=by simpa [blk] using hp
    subst e
    exact fpD b hb (Eq.symm z)
  refine zcr (env:=compEnvC scope cl C X.env)
   (fun n s'=>∃i ys its k v0 v1 H',zI ys its∧Inv (blk X (x::x2::fr) scope cl C s2 H2 fp) [(D,{ cls:=.type "list",data:=.seq its.toArray k })] (v0::v1::cap ix σ) H' s'∧tn i s'.heap∧(∀b∈fp,H' b=none)∧W i n ys H') ?_ m0
   ⟨0,[],[],0,none,none,H2,.nil,I0,st1,fun b hb=>(f2 b hb).1,w0⟩
  rintro n s3 ⟨i,ys,its,k,v0,v1,H3,rv,I3,st3,fr3,w3⟩
  rcases wR i n ys H3 w3 with⟨stop,hz,hfin⟩ | ⟨go,hz,N,hN,step⟩
  ·refine thn (T.done (blk X (x::x2::fr) scope cl C s2 H2 fp) rfl rfl rfl hc i _ s3 _ H3 _ I3 (stat fr3) st3 stop) fun r s4 ⟨hr,I4⟩=>?_
   subst hr
   have pD:=I4.pin (D,{ cls:=.type "list",data:=.seq its.toArray k }) (by simp[blk])
   obtain⟨mC,hnC,_⟩:=I4.loc
   have hH3D:H3 D=none:=pD.2.1
   have hok':HOk X.prog X.w (upd H3 D (.lst ys)) s4.heap:=fun b u e=>by
    by_cases hb:b=D
    ·subst hb
     rw[ze] at e;cases e
     exact⟨hz,its,k,rv,pD.1⟩
    ·rw[zi hb] at e
     exact(I4.hok b u e).stay (fun c v _ q=>q) (fun c q=>by rw[zi (zk q hH3D)];exact q) fun c xs q=>by rw[zi (zk q hH3D)];exact q
   have b4:Un (frs X.stack) fp H2 H3 s2.heap s4.heap:=I4.base
   have un:Un (frs X.stack) fp H2 (upd H3 D (.lst ys)) s2.heap s4.heap :=
    ⟨b4.keep,b4.slot,fun b o q n hx=>by
     rw[zi (oldD b o q)];exact b4.free b o q n hx,b4.there,fun b xs q=>by rw[zi (zk (b4.tups b xs q) hH3D)];exact b4.tups b xs q,
     fun b o u q=>by rw[zi (zk (b4.frzs b o u q) hH3D)];exact b4.frzs b o u q,fun b ps q=>by
      obtain⟨more,e⟩:=b4.tbls b ps q
      exact⟨more,by rw[zi (zk e hH3D)];exact e⟩⟩
   have I5:Inv X pins σ (upd H3 D (.lst ys)) s4:=I2.call' (ch:=fp) I4.os un hok' I4.bare fun b hb=>by
    obtain⟨g0,g1,g2,g3,g4,g5⟩:=f2 b hb
    exact⟨g3,g1,g4,g5⟩
   exact hQ D C ys H3 s4 mC I5 hH3D hnC hDC hCle I4.free hfin
  ·refine thn (T.item (blk X (x::x2::fr) scope cl C s2 H2 fp) rfl rfl rfl hc i _ s3 _ H3 _ I3 (stat fr3) st3 go) fun r s4 ⟨u,hr,h4⟩=>?_
   subst hr
   refine thn h4 fun _ s5 ⟨y,H5,I5,r5,y5,st5,fr5⟩=>?_
   have I5':=I5.pinned (stat fr5) (T.obj _ _ st5)
   have pg:PG (blk X (x::x2::fr) scope cl C s2 H2 fp) (.Tuple [.Name x px,.Name x2 px2] tk tp) (gTup X.K 2 (gCons (zdr 0) (gCons (zdr 1) gNil))) :=
    pg_tup hc (zhF (yR S.nd rfl (.inl (lookup_relabel_local S.lx)) (.inr (lookup_relabel_local S.lx))) (zhF (yR S.nd rfl (.inl (lookup_relabel_local S.lx2)) (.inr (lookup_relabel_local S.lx2))) pgs_nil))
   obtain⟨t5,y1,y2,ey,ht5,q5⟩:=step y _ y5
   refine thn (pg _ s5 _ H5 y u (fun σ6 H6=>σ6=some y1::some y2::cap ix σ∧H6=H5) I5' r5 ⟨t5,_,ey,ht5,rfl,_,_,rfl,_,_,rfl,rfl,rfl,rfl⟩) fun _ s6 ⟨σ6,H6,I6,e6,e6'⟩=>?_
   subst e6 e6'
   refine thn (hif cl C s2 H2 fp _ s6 _ _ _ I6 q5) fun b s7 ⟨H7,I7,q7⟩=>?_
   have again:∀{s8:Shared} {H8:Hp} {its':List Value} {k':Nat} {ys':List V},zI ys' its'→Inv (blk X (x::x2::fr) scope cl C s2 H2 fp) [(D,{ cls:=.type "list",data:=.seq its'.toArray k' })] (some y1::some y2::cap ix σ) H8 s8→(∀b∈fp,∀o,s5.heap.get? b=some o→s8.heap.get? b=some o)→(∀b∈fp,H8 b=none)→N ys' H8 →
    ∃m,m<n∧∃i ys its k v0 v1 H',zI ys its∧Inv (blk X (x::x2::fr) scope cl C s2 H2 fp) [(D,{ cls:=.type "list",data:=.seq its.toArray k })] (v0::v1::cap ix σ) H' s8∧tn i s8.heap∧(∀b∈fp,H' b=none)∧W i m ys H' :=
    fun {s8 H8 its' k' ys'} rv8 I8 kp fr8 nn=>let ⟨m',hm,w8⟩:=hN ys' H8 nn;⟨m',hm,i+1,ys',its',k',some y1,some y2,H8,rv8,I8,T.keep _ _ _ st5 kp,fr8,w8⟩
   cases b with
   | false =>
     rw[if_neg Bool.false_ne_true] at q7 ⊢
     refine again rv I7.unpinned (fun b hb o e=>(I7.pin (b,o) (by simp[blk];exact .inr (yC hb e))).1) (fun b hb=>?_) q7
     obtain⟨o,e,d⟩:=T.obj _ _ st5 b hb
     exact(I7.pin (b,o) (by simp[blk];exact .inr (yC hb e))).2.1
   | true =>
     rw[if_pos rfl] at q7 ⊢
     refine thn (he cl C s2 H2 fp _ s7 _ _ _ I7 q7) fun v s8 ⟨z,H8,I8,r8,q8⟩=>?_
     have pD:=I8.pin (D,{ cls:=.type "list",data:=.seq its.toArray k }) (by simp[blk])
     have hvl:ys.length=its.length:=rv.length
     refine append_at (hsz:=by show its.toArray.size≤sizeLine;rw[List.size_toArray];omega) pD.1 fun h₉ hs₉ hD₉=>?_
     have eo:({ cls:=.type "list",data:=.seq (its.toArray.push v) (k+1) }:Obj)={ cls:=.type "list",data:=.seq (its ++ [v]).toArray (k+1) }:=by rw[List.push_toArray]
     rw[eo] at hD₉
     have pn8:∀b∈fp,∀o,s5.heap.get? b=some o→s8.heap.get? b=some o∧H8 b=none:=fun b hb o e=>by
      have q:=I8.pin (b,o) (by simp[blk];exact .inr (yC hb e))
      exact⟨q.1,q.2.1⟩
     have J8:=I8.unpinned.pins_of (pins' := []) (fun p hp=>by cases hp)
     have f2D:zab (blk X (x::x2::fr) scope cl C s2 H2 fp) [] H8 D:=⟨pD.2.1,pD.2.2.1,pD.2.2.2.1,.inr hDle,fun y c e z=>by
      obtain⟨v,o,ho,_⟩:=I2.cell y c (h1 y c e)
      exact oldD c o ho z,fun p hp=>by cases hp⟩
     have I9:Inv (blk X (x::x2::fr) scope cl C s2 H2 fp) [] (some y1::some y2::cap ix σ) H8 { s8 with heap:=h₉ }:=J8.turned (t':=s8.toks) (it:=D) (fun b o hb e=>(hs₉.2 b hb).trans e) f2D.1 f2D.2.1 f2D.2.2.2.1 f2D.2.2.2.2.1 f2D.2.2.2.2.2
     refine again (its':=its ++ [v]) (k':=k+1) (ys':=ys ++ [z]) (rv.append (.cons r8 .nil)) (I9.pins_of fun p hp=>?_) (fun b hb o e=>(hs₉.2 b (fpD b hb)).trans (pn8 b hb o e).1) (fun b hb=>?_) q8
     ·have e:p=(D,{ cls:=.type "list",data:=.seq (its ++ [v]).toArray (k+1) }):=by simpa using hp
      subst e
      exact⟨hD₉,f2D.1,f2D.2.1,f2D.2.2.1,fun v z=>by cases z⟩
     ·obtain⟨o,e,d⟩:=T.obj _ _ st5 b hb
      exact(pn8 b hb o e).2
 exact codeAny_compStart_list (loop _ rfl) (T.self X.A 0 _ _ _ st1 (loop _ rfl))
theorem pe_comp2(S:CompScope2 X.env.scope X.N x x2 fr ix scope)(hc:X.calm=true)(hi:PI X (.Tuple [.Name x px,.Name x2 px2] tk tp) iter wi)(hif:∀cl C s2 H2 fp,PIf (blk X (x::x2::fr) scope cl C s2 H2 fp) ifs tc)(he:∀cl C s2 H2 fp,PE (blk X (x::x2::fr) scope cl C s2 H2 fp) elt te)
 (hs:∀x,foldedSetIterable iter X.env x=pure x:=by intro _;rfl):PE X (.ListComp elt [⟨.Tuple [.Name x px,.Name x2 px2] tk tp,iter,ifs,0⟩] scope pos) (zjX X.K ix wi tc te):=by
 intro pins s σ H Q I h
 obtain⟨cl,ecl,h1,h2⟩:=zbx (env:=X.env) (scope:=scope) fun y hy hf=>I.ok.has y.1 (S.free y hy hf)
 rw[eval_ListComp]
 refine wpAny_comprehension_free (use:=none) rfl hs ecl S.kind S.lcl (thn (hi pins s σ H _ I h) fun xv s1 q1=>thn q1 fun itv s2 q2=>?_)
 obtain⟨it,fp,tn,J,H2,rfl,I2,T,st2,f2,wc⟩:=q2
 refine zgc S hc hif he h1 h2 I2 T st2 f2 wc fun D C ys H' s' m I' hD hn hDC hC hHC fin=>?_
 refine⟨m,hn,fun h' sb=>⟨.ref D,upd H' D (.lst ys),?_,rfl,fin D hD⟩⟩
 have hcf:zab X pins (upd H' D (.lst ys)) C:=by
  have z:=I2.fpOk (H':=upd H' D (.lst ys)) hC (by rw[zi (Ne.symm hDC)];exact hHC)
  exact z
 exact I'.turned (t':=s'.toks) (it:=C) (fun b o hb e=>(sb.2 b hb).trans e) hcf.1 hcf.2.1 hcf.2.2.2.1 hcf.2.2.2.2.1 hcf.2.2.2.2.2
theorem zhl{i:Nat}{y:Str}{py spos:Pos}(S:CompScope2 X.env.scope X.N x x2 fr ix scope)(hc:X.calm=true)(hN:X.N.Nodup)(hiy:X.N[i]? = some y)(hy:Loc X.env.scope y)(hi:PI X (.Tuple [.Name x px,.Name x2 px2] tk tp) iter wi)(hif:∀cl C s2 H2 fp,PIf (blk X (x::x2::fr) scope cl C s2 H2 fp) ifs tc)(he:∀cl C s2 H2 fp,PE (blk X (x::x2::fr) scope cl C s2 H2 fp) elt te)
 (hsw:swapsWith (.ListComp elt [⟨.Tuple [.Name x px,.Name x2 px2] tk tp,iter,ifs,0⟩] scope pos) (some (.Name y py)) spos.line X.env=pure true:=by rfl)
 (hf:X.fn y=true∨X.env.scope.names.lookup y=some .local:=by first | exact .inl rfl | exact .inr rfl | assumption)
 (hs:∀x,foldedSetIterable iter X.env x=pure x:=by intro _;rfl) :
 PS X (.Assign [.Name y py] (.ListComp elt [⟨.Tuple [.Name x px,.Name x2 px2] tk tp,iter,ifs,0⟩] scope pos) spos) (tAsg (zjX X.K ix wi tc te) (zdr i)):=by
 intro pins s σ H Dn I h
 obtain⟨cl,ecl,h1,h2⟩:=zbx (env:=X.env) (scope:=scope) fun y hy hf=>I.ok.has y.1 (S.free y hy hf)
 rw[exec_Assign_Name_used _ _ _ _ hsw]
 refine wpAny_bind (wpAny_standAt (wpAny_bind ?_))
 show wpAny _ X.A (do let _ ← comprehension (.ListComp elt [⟨.Tuple [.Name x px,.Name x2 px2] tk tp,iter,ifs,0⟩] scope pos) scope X.env _ (newList []) false (eval iter X.env) (some (assign (.Name y py) X.env))) _ _ s
 refine wpAny_bind (thn (Q:=fun _ s'=>SP X pins Dn .next s') ?_ fun _ s' q=>wpAny_pure (wpAny_pure q))
 refine wpAny_comprehension_free (use:=some (assign (.Name y py) X.env)) rfl hs ecl S.kind S.lcl (thn (hi pins s σ H _ I h) fun xv s1 q1=>thn q1 fun itv s2 q2=>?_)
 obtain⟨it,fp,tn,J,H2,rfl,I2,T,st2,f2,wc⟩:=q2
 refine zgc S hc hif he h1 h2 I2 T st2 f2 wc fun D C ys H' s' m I' hD hn hDC hC hHC fin=>?_
 have hcf:zab X pins (upd H' D (.lst ys)) C:=I2.fpOk (H':=upd H' D (.lst ys)) hC (by rw[zi (Ne.symm hDC)];exact hHC)
 show wpAny _ X.A (assign (.Name y py) X.env (.ref D)) _ _ s'
 refine wpAny_assign_Name (zea (v:=V.ref D) I' hN hiy hy rfl (fun s'' I'' hsb=>?_) hf)
 obtain⟨a,sb,ha⟩:=hsb
 have hCa:C≠a:=fun z=>by
  rcases ha with q | q
  ·exact hcf.2.1 (z.trans q)
  ·exact hcf.2.2.2.2.1 y a q z.symm
 refine⟨m,hn.sameBut sb hCa,fun h' sb'=>⟨_,_,I''.turned (t':=s''.toks) (it:=C) (fun b o hb e=>(sb'.2 b hb).trans e) hcf.1 hcf.2.1 hcf.2.2.2.1 hcf.2.2.2.2.1 hcf.2.2.2.2.2,fin D hD⟩⟩
end
end L2
namespace L2
open PySem PySem.W PySem.Spec PyProof.Rows PySem.Calls
section
variable {X:Cx} {pins:List (Addr × Obj)} {σ:St} {H:Hp} {s:Shared} {h':Heap} {t':Nat} {ch:List Addr}
theorem Inv.movedF(I:Inv X pins σ H s)(o:∀c∈ch,zab X pins H c)(k:∀b u,b∉ch→s.heap.get? b=some u→h'.get? b=some u):Inv X pins σ H { s with heap:=h',toks:=t' }:=by
 have nit:∀b u,H b=some u→b∉ch:=fun b u e z=>by rw[(o b z).1] at e;cases e
 have nL:X.env.locals∉ch:=fun z=>(o _ z).2.1 rfl
 refine I.step (g':=s.gens) (d':=s.drawn) (ch:=ch) (fun b hb=>⟨(o b hb).2.2.2.1,(o b hb).2.1,(o b hb).2.2.2.2.1,(o b hb).2.2.2.2.2⟩) (fun b u _ _ hc e _=>k b u hc e) (fun b u _ _ hc e _=>⟨u.slots,k b u hc e⟩)
  (fun _ _ _ _ n=>n) (fun b u hc e=>⟨u,k b u hc e⟩) (fun _ _ e=>e) (fun _ _ _ e=>e) (fun b ps e=>⟨#[],by rw[e];simp⟩) (fun m hm=>?_) (fun b u e=>?_) I.bare
 ·obtain⟨ob,es,ep,ho,r⟩:=hm
  exact⟨ob,es,ep,k _ ob nL ho,r⟩
 ·refine(I.hok b u e).stay (fun c v hc q=>k c v ?_ q) (fun _ q=>q) fun _ _ q=>q
  rcases hc with z | z
  ·rw[z];exact nit b u e
  ·exact nit c _ z
theorem Inv.movedFT{T:Addr}{v:HO}(I:Inv X pins σ H s)(o:∀c∈ch,zab X pins H c)(k:∀b u,b∉ch→s.heap.get? b=some u→h'.get? b=some u)(hT:s.heap.objs.size≤T)(new:wy X.prog X.w (upd H T v) h' T v):
 Inv X pins σ (upd H T v) { s with heap:=h',toks:=t' }:=by
 have hf:H T=none:=I.hok.fresh hT
 have nit:∀b u,H b=some u→b∉ch:=fun b u e z=>by rw[(o b z).1] at e;cases e
 have nL:X.env.locals∉ch:=fun z=>(o _ z).2.1 rfl
 have up:∀b u,H b=some u→upd H T v b=some u:=fun b u e=>by rw[zi (zk e hf)];exact e
 refine I.step (g':=s.gens) (d':=s.drawn) (ch:=ch) (fun b hb=>⟨(o b hb).2.2.2.1,(o b hb).2.1,(o b hb).2.2.2.2.1,(o b hb).2.2.2.2.2⟩) (fun b u _ _ hc e _=>k b u hc e) (fun b u _ _ hc e _=>⟨u.slots,k b u hc e⟩)
  (fun b u _ e n=>?_) (fun b u hc e=>⟨u,k b u hc e⟩) (fun b _ e=>up b _ e) (fun b _ _ e=>up b _ e) (fun b ps e=>⟨#[],by rw[up b _ e];simp⟩) (fun m hm=>?_) (fun b u e=>?_) I.bare
 ·rw[zi (fun z=>by rw[z] at e;exact absurd (Heap.lt_size e) (Nat.not_lt.mpr hT))];exact n
 ·obtain⟨ob,es,ep,ho,r⟩:=hm
  exact⟨ob,es,ep,k _ ob nL ho,r⟩
 ·by_cases hb:b=T
  ·subst hb
   rw[ze] at e
   cases e
   exact new
  ·rw[zi hb] at e
   refine(I.hok b u e).stay (fun c w hc q=>k c w ?_ q) (fun c q=>up c _ q) fun c _ q=>up c _ q
   rcases hc with z | z
   ·rw[z];exact nit b u e
   ·exact nit c _ z
end
def Itz(K:Frag)(l1 l2:Addr):It :=
 ⟨fun i H=>∃xs ys x y,SqL K H l1 xs∧SqL K H l2 ys∧xs[i]? = some x∧ys[i]? = some y,
  fun i H v H'=>∃t x y,v=.ref t∧H t=none∧H'=upd H t (.tup [x,y])∧(∀xs,SqL K H l1 xs→xs[i]? = some x)∧∀ys,SqL K H l2 ys→ys[i]? = some y,
  fun i H=>∃xs ys,SqL K H l1 xs∧SqL K H l2 ys∧(xs.length≤i∨ys.length≤i)⟩
theorem turn_zip{P:Program}{w:World}{K:Frag}{elts:List Expr}{k:Nat}{pos:Pos}{z TI TO i1 i2 l1 l2:Addr}(D:ZipApart z TI TO i1 i2 l1 l2):
 Turn P w K (.Tuple elts k pos) (Itz K l1 l2) [z,TI,TO,i1,i2] z (fun i h=>IsZip h z TI TO .none∧IsPair h TI (.ref i1) (.ref i2)∧(∃a b,IsPair h TO a b)∧h.IsListIter i1 l1 i∧h.IsListIter i2 l2 i) where
 mem:=by simp
 obj:=fun i h st b hb=>by
  obtain⟨a1,a2,⟨_,_,a3⟩,⟨o4,e4,c4,d4⟩,⟨o5,e5,c5,d5⟩⟩:=st
  simp only[List.mem_cons,List.not_mem_nil,or_false] at hb
  rcases hb with rfl | rfl | rfl | rfl | rfl
  ·exact⟨_,a1,fun v z=>by cases z⟩
  ·exact⟨_,a2,fun v z=>by cases z⟩
  ·exact⟨_,a3,fun v z=>by cases z⟩
  ·exact⟨_,e4,fun v z=>by rw[d4] at z;cases z⟩
  ·exact⟨_,e5,fun v z=>by rw[d5] at z;cases z⟩
 keep:=fun i h h' st k=>by
  obtain⟨a1,a2,⟨a,b,a3⟩,a4,a5⟩:=st
  exact⟨k _ (by simp) _ a1,k _ (by simp) _ a2,⟨a,b,k _ (by simp) _ a3⟩,a4.at fun o e=>k _ (by simp) o e,a5.at fun o e=>k _ (by simp) o e⟩
 item:=by
  intro X hP hw hK hc i pins s σ H E I hf st hg
  subst hP hw hK
  obtain⟨xs,ys,x,y,q1,q2,hx,hy⟩:=hg
  obtain⟨hz,hTI,⟨a,b,hTO⟩,h1,h2⟩:=st
  obtain⟨us,r1,p1,z1⟩:=I.list q1
  obtain⟨vs,r2,p2,z2⟩:=I.list q2
  obtain⟨u,hu,ru⟩:=r1.get hx
  obtain⟨v,hv,rv⟩:=r2.get hy
  have nTI:TI ∉ [z,TO,i1,i2]:=by simp[D.TIz,D.TITO,D.TIi1,D.TIi2]
  have ff:∀c ∈ [z,TO,i1,i2],zab X pins H c:=fun c hc=>hf c (by simp only[List.mem_cons,List.not_mem_nil,or_false] at hc ⊢;rcases hc with e | e | e | e <;> simp[e])
  refine wpAny_pyNext_zip_item D hz hTI hTO h1 h2 p1.isList p2.isList (by simpa using hu) (by simpa using hv) fun h' a1 a2 a3 a4 a5 a6 hk=>?_
  have kk:∀c o,c ∉ [z,TO,i1,i2]→s.heap.get? c=some o→h'.get? c=some o:=fun c o hc e=>hk c o (fun w=>hc (by simp[w])) (fun w=>hc (by simp[w])) (fun w=>hc (by simp[w])) (fun w=>hc (by simp[w])) e
  have I1:Inv X pins σ (upd H s.heap.objs.size (.tup [x,y])) { s with heap:=h' }:=I.movedFT (t':=s.toks) ff kk (Nat.le_refl _) ⟨by show 2≤sizeLine;decide,[u,v],.cons ru (.cons rv .nil),_,a5,rfl,_,rfl⟩
  refine⟨_,rfl,wpAny_letOwnedTupleGo_zip a1 fun h2' hz' hs'=>?_⟩
  have lt:∀c ∈ [z,TI,TO,i1,i2],c≠s.heap.objs.size:=fun c hc=>by
   have:∃o,s.heap.get? c=some o:=by
    simp only[List.mem_cons,List.not_mem_nil,or_false] at hc
    rcases hc with rfl | rfl | rfl | rfl | rfl
    ·exact⟨_,hz⟩
    ·exact⟨_,hTI⟩
    ·exact⟨_,hTO⟩
    ·obtain⟨o,e,_⟩:=h1;exact⟨o,e⟩
    ·obtain⟨o,e,_⟩:=h2;exact⟨o,e⟩
   obtain⟨o,e⟩:=this
   exact Nat.ne_of_lt (Heap.lt_size e)
  have fz:zab X pins (upd H s.heap.objs.size (.tup [x,y])) z:=by
   obtain⟨f0,f1⟩:=hf z (by simp)
   exact⟨by rw[zi (lt z (by simp))];exact f0,f1⟩
  have I2:Inv X pins σ (upd H s.heap.objs.size (.tup [x,y])) { s with heap:=h2' }:=Inv.movedF (s:={ s with heap:=h' }) (t':=s.toks) (ch := [z]) I1 (fun c hc=>by rw[List.mem_singleton.mp hc];exact fz) fun c o hc e=>hs'.extBut c o (fun w=>hc (by simp[w])) e
  refine⟨.ref s.heap.objs.size,_,I2,rfl,⟨_,x,y,rfl,I.hok.fresh (Nat.le_refl _),rfl,fun xs' q=>?_,fun ys' q=>?_⟩,⟨hz',hs'.extBut _ _ D.TIz (kk _ _ nTI hTI),⟨_,_,hs'.extBut _ _ D.TOz a2⟩,a3.extBut hs'.extBut D.i1z,a4.extBut hs'.extBut D.i2z⟩,fun c hc=>?_⟩
  ·rw[I.list_inj q q1];exact hx
  ·rw[I.list_inj q q2];exact hy
  ·rw[zi (lt c hc)];exact(hf c hc).1
 done:=by
  intro X hP hw hK hc i pins s σ H E I hf st hg
  subst hP hw hK
  obtain⟨xs,ys,q1,q2,hend⟩:=hg
  obtain⟨hz,hTI,⟨a,b,hTO⟩,h1,h2⟩:=st
  obtain⟨us,r1,p1,z1⟩:=I.list q1
  obtain⟨vs,r2,p2,z2⟩:=I.list q2
  have l1':=r1.length
  have l2':=r2.length
  have ff:∀c ∈ [z,TO,i1,i2],zab X pins H c:=fun c hc=>hf c (by simp only[List.mem_cons,List.not_mem_nil,or_false] at hc ⊢;rcases hc with e | e | e | e <;> simp[e])
  refine wpAny_pyNext_zip_end (I.ok.hd hc) D hz hTI hTO h1 h2 p1.isList p2.isList ?_ fun h' hk=>⟨rfl,I.movedF (t':=s.toks) ff fun c o hc e=>hk c o (fun w=>hc (by simp[w])) (fun w=>hc (by simp[w])) (fun w=>hc (by simp[w])) (fun w=>hc (by simp[w])) e⟩
  rcases hend with h | h
  ·exact .inl (by simp;omega)
  ·exact .inr (by simp;omega)
 self:=fun _ _ _ _ _ st h=>wpAny_pyIter_zip st.1 h
def iZip(K:Frag)(ta:TA):TI:=fun σ H R=>ta σ H fun vs H1=>∃l1 l2 xs ys,vs = [.ref l1,.ref l2]∧SqL K H1 l1 xs∧SqL K H1 l2 ys∧R (Itz K l1 l2) H1
section
variable {X:Cx} {ex ey:Expr} {t:TA} {p pos tp:Pos} {elts:List Expr} {tk:Nat}
theorem pi_zip(hg:Gl X "zip")(hm:X.mg "zip" = none)(ha:PA X [ex,ey] t)(he:starEach [ex,ey] X.env=(false,eval ex X.env)::starEach [ey] X.env:=by rfl)(hpl:(backTo pos (starEach [ey] X.env)).any (·.1)=false:=by rfl):
 PI X (.Tuple elts tk tp) (.Call (.Name "zip" p) [ex,ey] [] pos) (iZip X.K t):=by
 intro pins s σ H R I h
 refine wpAny_Call_Name_kw (zcU I hg hm boot_zip ?_ (by decide) (by decide))
 refine PyProof.Rows.callWith_type1 (thn (ha pos pins s σ H _ I h) fun us s1 hh=>?_) he hpl
 obtain⟨vs,H1,I1,r1,l1,l2,xs,ys,rfl,q1,q2,q⟩:=hh
 cases r1 with
 | cons e1 r=>cases r with
   | cons e2 r =>
     cases r
     cases e1
     cases e2
     obtain⟨us,r1,p1,_⟩:=I1.list q1
     obtain⟨ws,r2,p2,_⟩:=I1.list q2
     have b1:=p1.isList
     have b2:=p2.isList
     have t1:l1<s1.heap.objs.size:=by obtain⟨u,hu,_⟩:=b1;exact Heap.lt_size hu
     have t2:l2<s1.heap.objs.size:=by obtain⟨u,hu,_⟩:=b2;exact Heap.lt_size hu
     refine call_zip_2 b1 b2 fun h' hz hTI hTO hi1 hi2 hsz hk=>?_
     have n:∀(l:Addr) (d:Nat),l<s1.heap.objs.size→l≠s1.heap.objs.size+d:=fun l d h=>Nat.ne_of_lt (Nat.lt_of_lt_of_le h (Nat.le_add_right _ _))
     have m:∀d e:Nat,d≠e→s1.heap.objs.size+d≠s1.heap.objs.size+e:=fun d e h w=>h (Nat.add_left_cancel w)
     refine wpAny_pyIter_zip hz ?_
     refine⟨s1.heap.objs.size+4,[s1.heap.objs.size+4,s1.heap.objs.size+2,s1.heap.objs.size+3,s1.heap.objs.size+0,s1.heap.objs.size+1],_,Itz X.K l1 l2,H1,rfl,I1.kept (t':=s1.toks) hk,
      turn_zip (i1:=s1.heap.objs.size+0) (i2:=s1.heap.objs.size+1) (TI:=s1.heap.objs.size+2) (TO:=s1.heap.objs.size+3) (l1:=l1) (l2:=l2) ⟨m 2 4 (by decide),m 3 4 (by decide),m 0 4 (by decide),m 1 4 (by decide),m 2 3 (by decide),m 2 0 (by decide),m 2 1 (by decide),m 3 0 (by decide),m 3 1 (by decide),m 0 1 (by decide),n _ 4 t1,n _ 3 t1,n _ 0 t1,n _ 1 t1,n _ 4 t2,n _ 3 t2,n _ 0 t2,n _ 1 t2⟩,
      ⟨hz,hTI,⟨_,_,hTO⟩,hi1,hi2⟩,fun b hb=>?_,q⟩
     have hb':∃d,b=s1.heap.objs.size+d:=by
      simp only[List.mem_cons,List.not_mem_nil,or_false] at hb
      rcases hb with w | w | w | w | w
      ·exact⟨4,w⟩
      ·exact⟨2,w⟩
      ·exact⟨3,w⟩
      ·exact⟨0,w⟩
      ·exact⟨1,w⟩
     obtain⟨d,rfl⟩:=hb'
     exact I1.fpOk (Nat.le_add_right _ _) (I1.hok.fresh (Nat.le_add_right _ _))
end
end L2
namespace L2
open PySem PySem.W PySem.Spec PyProof.Rows
theorem zh8{K:Frag}{a:Addr}{xs:List V}{c:St}{tc:TT}{te:TE}{H:Hp}{fin:List V→Hp→Prop}(Pv:Nat→List V→Hp→Prop)(h0:Pv 0 [] H)(hl:∀i ys H,i≤xs.length→Pv i ys H→SqL K H a xs∧ys.length≤i)(hz:xs.length≤sizeLine)
 (hs:∀i x ys H,xs[i]? = some x→Pv i ys H→∃t u v,x=.ref t∧SqT K H t [u,v]∧tc (some u::some v::c) H fun b H2=>if b=true then te (some u::some v::c) H2 fun y H3=>Pv (i+1) (ys ++ [y]) H3 else Pv (i+1) ys H2) (hd:∀ys H,Pv xs.length ys H→fin ys H):zd2 K (Itl K a) c tc te H fin:=by
 refine⟨fun i m ys H=>m=xs.length - i∧i≤xs.length∧Pv i ys H,⟨xs.length,by simp,Nat.zero_le _,h0⟩,?_⟩
 rintro i m ys H ⟨rfl,hi,p⟩
 obtain⟨q,hy⟩:=hl i ys H hi p
 by_cases hlt:i<xs.length
 ·refine .inr ⟨⟨xs,xs[i],q,by simp[hlt]⟩,by omega,fun ys' H'=>Pv (i+1) ys' H',fun ys' H' p'=>⟨xs.length - (i+1),by omega,rfl,hlt,p'⟩,fun x H' y=>?_⟩
  obtain⟨e,y⟩:=y
  subst e
  exact hs i x ys _ (y xs q) p
 ·have e:i=xs.length:=by omega
  subst e
  exact .inl ⟨⟨xs,q,Nat.le_refl _⟩,by omega,hd ys H p⟩
theorem zh3{K:Frag}{a:Addr}{xs:List V}{c:St}{te:TE}{H:Hp}{fin:List V→Hp→Prop}(Pv:Nat→List V→Hp→Prop)(h0:Pv 0 [] H)(hl:∀i ys H,i≤xs.length→Pv i ys H→SqL K H a xs∧ys.length≤i)(hz:xs.length≤sizeLine)
 (hs:∀i x ys H,xs[i]? = some x→Pv i ys H→∃t u v,x=.ref t∧SqT K H t [u,v]∧te (some u::some v::c) H fun y H3=>Pv (i+1) (ys ++ [y]) H3) (hd:∀ys H,Pv xs.length ys H→fin ys H):zd2 K (Itl K a) c zhM te H fin :=
 zh8 Pv h0 hl hz (fun i x ys H e p=>let ⟨t,u,v,e1,e2,h⟩:=hs i x ys H e p;⟨t,u,v,e1,e2,zfQ (B:=Pv (i+1) ys H) h⟩) hd
end L2
namespace L2
open PySem PySem.W PySem.Spec PyProof.Rows PySem.Calls
section
variable {X:Cx} {pins:List (Addr × Obj)} {σ:St} {H:Hp} {s:Shared} {E:Value→Shared→Prop}
end
section
variable {X:Cx} {ex ey:Expr} {t:TA} {c P:Addr} {y:Str} {p1 p2 p3 p4 p5 pos pos2 lpos kp:Pos} {j:Nat} {params:Arguments} {scope:Scope}
end
theorem zjs{K:Frag}{l1 l2:Addr}{xs ys:List V}{c:St}{tc:TT}{te:TE}{H:Hp}{fin:List V→Hp→Prop}(Pv:Nat→List V→Hp→Prop)(h0:Pv 0 [] H)(hl:∀i zs H,i≤min xs.length ys.length→Pv i zs H→SqL K H l1 xs∧SqL K H l2 ys∧zs.length≤i)(hz:min xs.length ys.length≤sizeLine)
 (hs:∀i x y t zs H,xs[i]? = some x→ys[i]? = some y→H t=none→Pv i zs H→tc (some x::some y::c) (upd H t (.tup [x,y])) fun b H2=>if b=true then te (some x::some y::c) H2 fun z H3=>Pv (i+1) (zs ++ [z]) H3 else Pv (i+1) zs H2) (hd:∀zs H,Pv (min xs.length ys.length) zs H→fin zs H):zd2 K (Itz K l1 l2) c tc te H fin:=by
 refine⟨fun i m zs H=>m=min xs.length ys.length - i∧i≤min xs.length ys.length∧Pv i zs H,⟨min xs.length ys.length,by simp,Nat.zero_le _,h0⟩,?_⟩
 rintro i m zs H ⟨rfl,hi,p⟩
 obtain⟨q1,q2,hy⟩:=hl i zs H hi p
 by_cases hlt:i<min xs.length ys.length
 ·have h1:i<xs.length:=by omega
  have h2:i<ys.length:=by omega
  refine .inr ⟨⟨xs,ys,xs[i],ys[i],q1,q2,by simp[h1],by simp[h2]⟩,by omega,Pv (i+1),fun zs' H' p'=>⟨min xs.length ys.length - (i+1),by omega,rfl,hlt,p'⟩,fun v H' y=>?_⟩
  obtain⟨t,x,y,rfl,hn,rfl,e1,e2⟩:=y
  exact⟨t,x,y,rfl,.inl (.inl ze),hs i x y t zs _ (e1 xs q1) (e2 ys q2) hn p⟩
 ·have e:i=min xs.length ys.length:=by omega
  subst e
  exact .inl ⟨⟨xs,ys,q1,q2,by omega⟩,by omega,hd zs H p⟩
section
variable {X:Cx}
end
section
variable {X:Cx}
theorem ms_upper:MtR X "str.upper" (fun x xs H Q=>∃z,x=.str z∧xs = []∧z.length≤1000∧∀y:Str,y.length≤3*z.length→Q (.str y) H):=by
 intro pins s σ H x xs v us Q I rx rv h
 obtain⟨z,rfl,rfl,hz,q⟩:=h
 obtain⟨t,rfl⟩:=rx
 cases rv
 exact SCL.upper (by omega) fun hl=>⟨.str _,H,I.tok _,⟨_,rfl⟩,q _ hl⟩
end
section
variable {X:Cx} {tg:Expr}
end
theorem zhx(ts:List Str)(c:Str):ixV (ts.map V.str) (.str c)=ts.idxOf c:=by
 unfold ixV
 induction ts with
 | nil=>rfl
 | cons a ts ih =>
   rw[List.map_cons,List.findIdx_cons,List.idxOf_cons,ih]
   rfl
end L2
namespace L2
open PySem PySem.Spec PyProof.Rows PySem.Builtin PySem.Builtin.Str
theorem ziL:∀{ts:List Str} {us:List Value},zI (ts.map V.str) us→∃l:List (Str × Tok),us=strValues l∧l.map (·.1)=ts
 | [],_,h=>by cases h;exact⟨[],rfl,rfl⟩
 | x::ts,_,h=>by
   cases h with
   | cons r h =>
     obtain⟨t,rfl⟩:=r
     obtain⟨l,rfl,e⟩:=ziL h
     exact⟨(x,t)::l,rfl,by rw[List.map_cons,e]⟩
theorem zjJ{z:Str}{ts:List Str}(hz:z.length≤10)(hl:ts.length≤200)(h:∀t∈ts,t.length≤2000):tooLong (ts.toArray.foldl (·+ ·.length+z.length) 0)=false:=by
 have go:∀(l:List Str) (n:Nat),(∀t∈l,t.length≤2000)→l.foldl (·+ ·.length+z.length) n≤n+2010*l.length:=by
  intro l
  induction l with
  | nil=>intro n _;simp
  | cons t l ih =>
    intro n h
    have:=ih (n+t.length+z.length) fun u hu=>h u (List.mem_cons_of_mem _ hu)
    have h1:=h t (List.mem_cons_self ..)
    rw[List.foldl_cons,List.length_cons]
    omega
 have:=go ts 0 h
 have hln:=zB
 unfold tooLong
 rw[List.foldl_toArray]
 simp only[gt_iff_lt,decide_eq_false_iff_not]
 omega
section
variable {X:Cx}
theorem zeQ:zas X (.type "str") (fun xs H Q=>(∃i:Int,xs = [.int i]∧i.natAbs.log2<1920∧Q (.str (toString i)) H)∨∃y,xs = [.str y]∧Q (.str y) H):=by
 intro pins s σ H xs us Q I r h
 rcases h with⟨i,rfl,hd,q⟩ | ⟨y,rfl,q⟩
 ·obtain⟨u,rfl,⟨t,rfl⟩⟩:=r.one
  exact P.str_of_int hd ⟨.str _,H,I.tok _,⟨_,rfl⟩,q⟩
 ·obtain⟨u,rfl,⟨t,rfl⟩⟩:=r.one
  exact P.str_of_str ⟨.str _,H,I,⟨_,rfl⟩,q⟩
def rJoin(K:PySem.W.Frag):V→List V→Hp→VK→Prop:=fun x xs H Q=>∃(z:Str) (a:Addr) (ts:List Str),x=.str z∧xs = [.ref a]∧SqL K H a (ts.map V.str)∧z.length≤10∧ts.length≤200∧(∀t∈ts,t.length≤2000)∧Q (.str (Txt.join z ts)) H
theorem ms_join:MtR X "str.join" (rJoin X.K):=by
 intro pins s σ H x xs v us Q I rx rv h
 obtain⟨z,a,ts,rfl,rfl,hq,h1,h2,h3,q⟩:=h
 obtain⟨t,rfl⟩:=rx
 obtain⟨u,rfl,ru⟩:=rv.one
 cases ru
 obtain⟨its,rr,p,_⟩:=I.list hq
 obtain⟨l,rfl,rfl⟩:=ziL rr
 have hf:=zjJ h1 h2 h3
 exact call_meets F.slot_str_join (typeIs_str _ _ _) F.entry_str_join (F.args_str_join_2 _ _) (meets_str_join_list z t a l hf) ⟨p.isList,post_join l ⟨joinFit_length hf,fun t' k=>⟨.str _,H,I.tok _,⟨_,rfl⟩,q⟩⟩⟩
end
def tN(n:Int):Str:=Str.ofString (toString n)
theorem zfo{i:Int}(h:i.natAbs≤100000):i.natAbs.log2<1920:=by
 by_cases h0:i.natAbs=0
 ·rw[h0];decide
 ·have:i.natAbs.log2<17:=(Nat.log2_lt h0).mpr (by omega)
  omega
section
variable {X:Cx}
theorem yO:OpR X (binaryOp .Mult) (fun x y H Q=>∃i n,x=.str i∧y=.int n∧MulOk i n∧Q (.str (PySem.Txt.mul i n)) H):=by
 intro pins s σ H x y v u Q I rx ry h
 obtain⟨i,n,rfl,rfl,hz,q⟩:=h
 obtain⟨t,rfl⟩:=rx
 obtain⟨t',rfl⟩:=ry
 exact SB.mul hz (fun t' tk=>⟨.str (PySem.Txt.mul i n),H,I.tok _,⟨_,rfl⟩,q⟩)
end
theorem zch(x:Str):MulOk x 1:=⟨by decide,fun _ h=>absurd h (by simp),fun _ h=>absurd h (by simp)⟩
theorem zv(x:Str):MulOk x 0:=⟨by decide,fun h=>absurd (by decide) h,fun h=>absurd (by decide) h⟩
inductive IntEs:List Expr→List Int→Prop
 | nil:IntEs [] []
 | cons {x:Int} {k:Nat} {p:Pos} {es:List Expr} {xs:List Int} (h:IntEs es xs):IntEs (.Constant (.int x) k p::es) (x::xs)
def tIntsW(xs:List Int):TA:=fun _ H Q=>Q (xs.map V.int) H
theorem pa_intsW{X:Cx}{es:List Expr}{xs:List Int}(h:IntEs es xs):PA X es (tIntsW xs):=by
 induction h with
 | nil=>exact zb
 | @cons x k p es xs h ih=>exact(za zh ih:PA X (.Constant (.int x) k p::es) (tCons (tC (.int x)) (tIntsW xs)))
def tLstI(xs:List Int):TE:=fun _ H Q=>xs.length≤sizeLine∧∀p,H p=none→Q (.ref p) (upd H p (.lst (xs.map V.int)))
theorem pe_lstI{X:Cx}{es:List Expr}{xs:List Int}{pos:Pos}(h:IntEs es xs):PE X (.List es pos) (tLstI xs):=by
 intro pins s σ H Q I q
 refine zP (pa_intsW h) pins s σ H Q I ?_
 exact⟨by rw[List.length_map];exact q.1,q.2⟩
def zfe:List Expr→Option (List Int)
 | []=>some []
 | .Constant (.int x) _ _::es=>match zfe es with
   | some xs=>some (x::xs)
   | none=>none
 | _=>none
theorem zf8:∀{es:List Expr} {xs:List Int},zfe es=some xs→IntEs es xs
 | [],xs,h=>by
   cases h
   exact .nil
 | e::es,xs,h=>by
   unfold zfe at h
   split at h
   ·rename_i e' ;cases e'
   ·rename_i x k p es' e'
    cases e'
    split at h
    ·rename_i ys hy
     cases h
     exact .cons (zf8 hy)
    ·cases h
   ·cases h
theorem pe_lstJ{X:Cx}{es:List Expr}{xs:List Int}{pos:Pos}(h:zfe es=some xs):PE X (.List es pos) (tLstI xs):=pe_lstI (zf8 h)
theorem pss_pick{X:Cx}{i:Nat}{x:Str}{es:List Expr}{xs:List Int}{b:Expr}{tb:TE}{pos pos' p1 p2:Pos}{zbR:List Stmt}{u:TS}(hN:X.N.Nodup)(hi:X.N[i]? = some x)(hx:Loc X.env.scope x)(h:zfe es=some xs)(hb:PE X b tb)(hs:ziX b)(hf:X.fn x=true∨X.env.scope.names.lookup x=some .local)(hr:PSs X zbR u):
 PSs X (.Assign [.Name x pos'] (.Subscript (.List es p1) b p2) pos::zbR) (tSeq (tAsg (tOp (rIxL X.K) (tLstI xs) tb) (zdr i)) u):=zd (zy hN hi hx (yn zM (pe_lstJ h) hb hs) rfl hf) hr
section
variable {κ:Type} [DecidableEq κ]
def zaG(kvs:List (κ × V))(k:κ):Option V:=(kvs.find? fun kv=>decide (kv.1=k)).map (·.2)
def zbK(kvs:List (κ × V))(k:κ)(v:V):List (κ × V) :=
 if(kvs.any fun kv=>decide (kv.1=k))=true then kvs.map (fun kv=>if kv.1=k then(kv.1,v)else kv)else kvs ++ [(k,v)]
theorem wE{p:κ × V}{r:List (κ × V)}{k:κ}(e:p.1=k):zaG (p::r) k=some p.2:=by simp[zaG,List.find?_cons,e]
theorem wD{p:κ × V}{r:List (κ × V)}{k:κ}(e:¬p.1=k):zaG (p::r) k=zaG r k:=by simp[zaG,List.find?_cons,e]
theorem zcE(k:κ):∀kvs:List (κ × V),(kvs.any fun kv=>decide (kv.1=k))=(zaG kvs k).isSome
 | []=>rfl
 | p::r=>by
   rw[List.any_cons]
   by_cases e:p.1=k
   ·simp only[wE e,decide_eq_true e,Bool.true_or,Option.isSome_some]
   ·rw[wD e,decide_eq_false e,Bool.false_or];exact zcE k r
theorem zhI(k j:κ)(y:V):∀kvs:List (κ × V),zaG (kvs.map fun kv=>if kv.1=k then(kv.1,y)else kv) j=(zaG kvs j).map fun x=>if j=k then y else x
 | []=>rfl
 | p::r=>by
   have ih:=zhI k j y r
   rw[List.map_cons]
   by_cases h:p.1=k
   ·rw[if_pos h]
    by_cases e:p.1=j
    ·rw[wE (p:=(p.1,y)) e,wE e,Option.map_some,if_pos (e.symm.trans h)]
    ·rw[wD (p:=(p.1,y)) e,wD e,ih]
   ·rw[if_neg h]
    by_cases e:p.1=j
    ·rw[wE (p:=p) e,wE e,Option.map_some,if_neg (fun z=>h (e.trans z))]
    ·rw[wD (p:=p) e,wD e,ih]
theorem zfZ(k j:κ)(y:V):∀kvs:List (κ × V),zaG kvs k=none→zaG (kvs ++ [(k,y)]) j=if j=k then some y else zaG kvs j
 | [],_=>by
   by_cases e:k=j
   ·rw[if_pos e.symm];exact wE (p:=(k,y)) e
   ·rw[if_neg (fun z=>e z.symm)];exact wD (p:=(k,y)) e
 | p::r,hn=>by
   rw[List.cons_append]
   have hk:¬p.1=k:=fun z=>by rw[wE z] at hn;cases hn
   rw[wD hk] at hn
   have ih:=zfZ k j y r hn
   by_cases e:p.1=j
   ·rw[wE e,wE e,if_neg (fun z=>hk (e.trans z))]
   ·rw[wD e,wD e,ih]
theorem zdL(kvs:List (κ × V))(k j:κ)(y:V):zaG (zbK kvs k y) j=if j=k then some y else zaG kvs j:=by
 unfold zbK
 by_cases a:(kvs.any fun kv=>decide (kv.1=k))=true
 ·rw[if_pos a,zhI]
  rw[zcE] at a
  by_cases e:j=k
  ·obtain⟨x,hx⟩:=Option.isSome_iff_exists.mp a
   rw[if_pos e,e,hx,Option.map_some,if_pos rfl]
  ·rw[if_neg e]
   cases zaG kvs j with
   | none=>rfl
   | some x=>rw[Option.map_some,if_neg e]
 ·rw[if_neg a]
  refine zfZ k j y kvs ?_
  rw[zcE] at a
  cases q:zaG kvs k with
  | none=>rfl
  | some x=>rw[q] at a;exact(a rfl).elim
theorem zcR(kvs:List (κ × V))(k:κ)(v:V):(zbK kvs k v).length≤kvs.length+1:=by
 unfold zbK
 split
 ·rw[List.length_map];omega
 ·rw[List.length_append,List.length_cons,List.length_nil];omega
theorem zc4.isSome_eq{o:Option V}{u:Option Value}(r:zc4 o u):o.isSome=u.isSome:=by
 cases o with
 | none=>cases u with
   | none=>rfl
   | some _=>exact(show False from r).elim
 | some _=>cases u with
   | none=>exact(show False from r).elim
   | some _=>rfl
theorem KV.val{kvs:List (κ × V)}{vs:List (κ × Value)}(r:KV kvs vs)(k:κ):zc4 (zaG kvs k) (valueAt vs k):=by
 unfold KV at r
 induction r with
 | nil=>exact True.intro
 | @cons p q ps qs h t ih =>
   obtain⟨h1,h2⟩:=h
   by_cases e:p.1=k
   ·have e':q.1=k:=h1.symm.trans e
    have b:valueAt (q::qs) k=some q.2:=by simp[valueAt,List.find?_cons,e']
    rw[wE e,b];exact h2
   ·have e':¬q.1=k:=fun z=>e (h1.trans z)
    have b:valueAt (q::qs) k=valueAt qs k:=by simp[valueAt,List.find?_cons,e']
    rw[wD e,b];exact ih
theorem KV.any{kvs:List (κ × V)}{vs:List (κ × Value)}(r:KV kvs vs)(k:κ):(kvs.any fun kv=>decide (kv.1=k))=vs.any fun kv=>decide (kv.1=k):=by
 unfold KV at r
 induction r with
 | nil=>rfl
 | cons h t ih=>rw[List.any_cons,List.any_cons,ih,h.1]
theorem KV.repl{kvs:List (κ × V)}{vs:List (κ × Value)}(r:KV kvs vs)(k:κ){y:V}{u:Value}(ry:yb y u):
 KV (kvs.map fun kv=>if kv.1=k then(kv.1,y)else kv) (vs.map fun kv=>if kv.1=k then(kv.1,u)else kv):=by
 unfold KV at r ⊢
 induction r with
 | nil=>exact .nil
 | @cons p q ps qs h t ih =>
   rw[List.map_cons,List.map_cons]
   refine .cons ?_ ih
   obtain⟨h1,h2⟩:=h
   by_cases e:p.1=k
   ·rw[if_pos e,if_pos (h1.symm.trans e)];exact⟨h1,ry⟩
   ·rw[if_neg e,if_neg (fun z=>e (h1.trans z))];exact⟨h1,h2⟩
theorem KV.put{kvs:List (κ × V)}{vs:List (κ × Value)}(r:KV kvs vs)(k:κ){y:V}{u:Value}(ry:yb y u):KV (zbK kvs k y) (stored vs k u):=by
 unfold zbK stored
 rw[r.any k]
 by_cases e:(vs.any fun kv=>decide (kv.1=k))=true
 ·rw[if_pos e,if_pos e];exact r.repl k ry
 ·rw[if_neg e,if_neg e];exact Paired.snoc r ⟨rfl,ry⟩
theorem KV.length{kvs:List (κ × V)}{vs:List (κ × Value)}(r:KV kvs vs):kvs.length=vs.length:=Paired.length r
end
theorem zha{P:Program}{w:World}{k:Key}{u:Value}(r:yb (kV k) u):(wL P w).is k u=true:=by
 cases k with
 | inl i=>obtain⟨t,e⟩:=(show ∃t,u=Value.int i t from r);subst e;exact zhc P w i t
 | inr x=>obtain⟨t,e⟩:=(show ∃t,u=Value.str x t from r);subst e;exact zhq P w x t
theorem zf6{P:Program}{w:World}:∀{ks:List Key} {us:List Value},zI (ks.map kV) us→ItemsAre (wL P w) ks us
 | [],_,r=>by rw[List.map_nil] at r;cases r;exact .nil
 | k::ks,_,r=>by
   rw[List.map_cons] at r
   cases r with
   | cons h t=>exact .cons (zha h) (zf6 t)
abbrev KT(H:Hp):List (List Key × V)→List (List Key × Addr × Value)→Prop:=Paired fun p q=>p.1=q.1∧H q.2.1=some (.tup (p.1.map kV))∧yb p.2 q.2.2
theorem KT.val{H:Hp}{kvs:List (List Key × V)}{xs:List (List Key × Addr × Value)}(r:KT H kvs xs)(k:List Key):zc4 (zaG kvs k) ((atKey xs k).map (·.2)):=by
 induction r with
 | nil=>exact True.intro
 | @cons p q ps qs h t ih =>
   obtain⟨h1,_,h2⟩:=h
   by_cases e:p.1=k
   ·have e':q.1=k:=h1.symm.trans e
    have b:atKey (q::qs) k=some q.2:=by simp[atKey,List.find?_cons,e']
    rw[wE e,b];exact h2
   ·have e':¬q.1=k:=fun z=>e (h1.trans z)
    have b:atKey (q::qs) k=atKey qs k:=by simp[atKey,List.find?_cons,e']
    rw[wD e,b];exact ih
theorem KT.repl{H:Hp}{kvs:List (List Key × V)}{xs:List (List Key × Addr × Value)}(r:KT H kvs xs)(k:List Key){y:V}{u:Value}(ry:yb y u):
 KT H (kvs.map fun kv=>if kv.1=k then(kv.1,y)else kv) (xs.map (putAt k u)):=by
 induction r with
 | nil=>exact .nil
 | @cons p q ps qs h t ih =>
   rw[List.map_cons,List.map_cons]
   refine .cons ?_ ih
   obtain⟨h1,h2,h3⟩:=h
   unfold putAt
   by_cases e:p.1=k
   ·rw[if_pos e,if_pos (h1.symm.trans e)];exact⟨h1,h2,ry⟩
   ·rw[if_neg e,if_neg (fun z=>e (h1.trans z))];exact⟨h1,h2,h3⟩
theorem KT.put{H:Hp}{kvs:List (List Key × V)}{xs:List (List Key × Addr × Value)}(r:KT H kvs xs)(k:List Key){b:Addr}{y:V}{u:Value}(hb:H b=some (.tup (k.map kV)))(ry:yb y u):
 KT H (zbK kvs k y) (storedH xs k b u):=by
 have e:(kvs.any fun kv=>decide (kv.1=k))=(atKey xs k).isSome:=by
  rw[zcE,(r.val k).isSome_eq,Option.isSome_map]
 unfold zbK storedH
 rw[e]
 by_cases q:(atKey xs k).isSome=true
 ·rw[if_pos q,if_pos q];exact r.repl k ry
 ·rw[if_neg q,if_neg q];exact Paired.snoc r ⟨rfl,hb,ry⟩
theorem KT.keeps{H H':Hp}{kvs:List (List Key × V)}{xs:List (List Key × Addr × Value)}(r:KT H kvs xs)(ht:∀b ys,H b=some (.tup ys)→H' b=some (.tup ys)):KT H' kvs xs :=
 Paired.mapP r fun _ _ z=>⟨z.1,ht _ _ z.2.1,z.2.2⟩
section
variable {P:Program} {w:World} {H:Hp} {h:Heap} {a:Addr}
theorem rd_of{u:HO}(ok:HOk P w H h)(e:Rd H a u):wy P w H h a u:=e.ok ok
theorem zhU{kvs:List (Key × V)}(ok:HOk P w H h)(e:Rd H a (.dK kvs)):kvs.length≤sizeLine∧(a==sysModules)=false∧∃vs,KV kvs vs∧h.DictOf (wL P w) a vs :=
 show wy P w H h a (.dK kvs)from rd_of ok e
theorem dk_of{kvs:List (Key × V)}(ok:HOk P w H h)(e:H a=some (.dK kvs)):kvs.length≤sizeLine∧(a==sysModules)=false∧∃vs,KV kvs vs∧h.DictOf (wL P w) a vs:=zhU ok (.inl e)
theorem ze8{ks:List Key}(ok:HOk P w H h)(e:H a=some (.tup (ks.map kV))):(tupleKind (wL P w)).is h ks a:=by
 obtain⟨_,its,r,o,h1,h2,n,h3⟩:=(show wy P w H h a (.tup (ks.map kV))from ok a _ e)
 exact⟨o,its.toArray,n,h1,h2,h3,by simpa using zf6 r⟩
theorem zhT{kvs:List (List Key × V)}(ok:HOk P w H h)(e:Rd H a (.dT kvs)):kvs.length≤sizeLine∧(a==sysModules)=false ∧
 ∃xs,KT H kvs xs∧h.DictOfH (tupleKind (wL P w)) a xs:=by
 obtain⟨z,y,xs,r,o,es,ep,h1,h2,h3,h4,h5⟩:=(show wy P w H h a (.dT kvs)from rd_of ok e)
 refine⟨z,y,xs,r,o,es,ep,h1,h2,h3,h4,fun x hx=>?_,h5⟩
 have all:∀{l:List (List Key × V)} {m:List (List Key × Addr × Value)},KT H l m→∀x∈m,(tupleKind (wL P w)).is h x.1 x.2.1:=by
  intro l m q
  induction q with
  | nil=>intro x hx;exact nomatch hx
  | @cons p q ps qs hq t ih =>
    intro x hx
    rcases List.mem_cons.mp hx with e | hx
    ·subst e
     exact ze8 ok (by rw[← hq.1];exact hq.2.1)
    ·exact ih x hx
 exact all r x hx
theorem dt_of{kvs:List (List Key × V)}(ok:HOk P w H h)(e:H a=some (.dT kvs)):kvs.length≤sizeLine∧(a==sysModules)=false ∧
 ∃xs,KT H kvs xs∧h.DictOfH (tupleKind (wL P w)) a xs:=zhT ok (.inl e)
end
def zdm(H:Hp)(a:Addr)(y:V)(r:Option V):Prop :=
 (∃kvs k,Rd H a (.dK kvs)∧y=kV k∧r=zaG kvs k)∨∃kvs k b,Rd H a (.dT kvs)∧y=.ref b∧H b=some (.tup (k.map kV))∧r=zaG kvs k
def zhB(H:Hp)(a:Addr)(y v:V)(H':Hp):Prop :=
 (∃kvs k,H a=some (.dK kvs)∧y=kV k∧kvs.length<sizeLine∧H'=upd H a (.dK (zbK kvs k v))) ∨
 ∃kvs k b,H a=some (.dT kvs)∧y=.ref b∧H b=some (.tup (k.map kV))∧kvs.length<sizeLine∧H'=upd H a (.dT (zbK kvs k v))
theorem zdm.k{H:Hp}{a:Addr}{kvs:List (Key × V)}{k:Key}(e:H a=some (.dK kvs)):zdm H a (kV k) (zaG kvs k):=.inl ⟨kvs,k,.inl e,rfl,rfl⟩
theorem zdm.t{H:Hp}{a b:Addr}{kvs:List (List Key × V)}{k:List Key}(e:H a=some (.dT kvs))(eb:H b=some (.tup (k.map kV))):zdm H a (.ref b) (zaG kvs k):=.inr ⟨kvs,k,b,.inl e,rfl,eb,rfl⟩
theorem zhB.k{H:Hp}{a:Addr}{kvs:List (Key × V)}{k:Key}{v:V}(e:H a=some (.dK kvs))(hl:kvs.length<sizeLine):zhB H a (kV k) v (upd H a (.dK (zbK kvs k v))):=.inl ⟨kvs,k,e,rfl,hl,rfl⟩
theorem zhB.t{H:Hp}{a b:Addr}{kvs:List (List Key × V)}{k:List Key}{v:V}(e:H a=some (.dT kvs))(eb:H b=some (.tup (k.map kV)))(hl:kvs.length<sizeLine):
 zhB H a (.ref b) v (upd H a (.dT (zbK kvs k v))):=.inr ⟨kvs,k,b,e,rfl,eb,hl,rfl⟩
section
variable {X:Cx} {pins:List (Addr × Obj)} {σ:St} {H:Hp} {s:Shared} {a:Addr} {y v:V} {u r:Value} {o:Option V} {A:Around} {E:Value→Shared→Prop}
theorem Inv.big(I:Inv X pins σ H s):sysModules<s.heap.objs.size:=by
 have h:mainGlobals<s.heap.objs.size:=(I.mod.glob.keeps I.bk).lt
 exact Nat.lt_trans (by decide) h
theorem zjg{Q:Value→Shared→Prop}(hu:A.units+1<cLine)(I:Inv X pins σ H s)(g:zdm H a y (some v))(ry:yb y u)(h:∀w' s',Inv X pins σ H s'→yb v w'→Q w' s'):
 wpAny (model X.prog X.w) A (getItem (.ref a) u) Q E s:=by
 rcases g with⟨kvs,k,e,ey,l⟩ | ⟨kvs,k,b,e,ey,eb,l⟩
 ·subst ey
  obtain⟨z,hd,vs,rel,dd⟩:=zhU I.hok e
  obtain⟨w',hw,rw'⟩:=zc4.some_of (v:=v) (o:=valueAt vs k) (by rw[l];exact rel.val k)
  exact wpAny_getItem_of (zha ry) dd.mapOf hw (h w' _ (I.tok _) rw')
 ·subst ey
  cases (show u=Value.ref b from ry)
  obtain⟨z,hd,xs,rel,dd⟩:=zhT I.hok e
  obtain⟨w',hw,rw'⟩:=zc4.some_of (v:=v) (o:=(atKey xs k).map (·.2)) (by rw[l];exact rel.val k)
  obtain⟨p,hp,hp2⟩:=Option.map_eq_some_iff.mp hw
  refine wpAny_getItem_heap (tupleKind_room_in1 hu) (ze8 I.hok eb) dd hp ?_
  rw[hp2]
  exact h w' _ (I.tok _) rw'
theorem d_in{Q:Value→Shared→Prop}(hu:A.units+1<cLine)(I:Inv X pins σ H s)(g:zdm H a y o)(ry:yb y u)(h:∀s',Inv X pins σ H s'→Q (.bool o.isSome) s'):
 wpAny (model X.prog X.w) A (compareOp .In u (.ref a)) Q E s:=by
 rcases g with⟨kvs,k,e,ey,l⟩ | ⟨kvs,k,b,e,ey,eb,l⟩
 ·subst ey
  obtain⟨z,hd,vs,rel,dd⟩:=zhU I.hok e
  refine wpAny_in_of (zha ry) hd dd.mapOf ?_
  rw[← (rel.val k).isSome_eq,← l]
  exact h _ (I.tok _)
 ·subst ey
  cases (show u=Value.ref b from ry)
  obtain⟨z,hd,xs,rel,dd⟩:=zhT I.hok e
  refine wpAny_in_heap (tupleKind_room_in1 hu) (ze8 I.hok eb) hd dd ?_
  have q:=(rel.val k).isSome_eq
  rw[Option.isSome_map] at q
  rw[← q,← l]
  exact h _ (I.tok _)
theorem d_notIn{Q:Value→Shared→Prop}(hu:A.units+1<cLine)(I:Inv X pins σ H s)(g:zdm H a y o)(ry:yb y u)(h:∀s',Inv X pins σ H s'→Q (.bool (!o.isSome)) s'):
 wpAny (model X.prog X.w) A (compareOp .NotIn u (.ref a)) Q E s:=by
 rcases g with⟨kvs,k,e,ey,l⟩ | ⟨kvs,k,b,e,ey,eb,l⟩
 ·subst ey
  obtain⟨z,hd,vs,rel,dd⟩:=zhU I.hok e
  refine wpAny_notIn_of (zha ry) hd dd.mapOf ?_
  rw[← (rel.val k).isSome_eq,← l]
  exact h _ (I.tok _)
 ·subst ey
  cases (show u=Value.ref b from ry)
  obtain⟨z,hd,xs,rel,dd⟩:=zhT I.hok e
  refine wpAny_notIn_heap (tupleKind_room_in1 hu) (ze8 I.hok eb) hd dd ?_
  have q:=(rel.val k).isSome_eq
  rw[Option.isSome_map] at q
  rw[← q,← l]
  exact h _ (I.tok _)
theorem ziT{h':Heap}{t':Nat}{ob:HO}(I:Inv X pins σ H s)(mu:Mut (H a))(hs:Heap.SameBut a s.heap h')(he:∃q,h'.get? a=some q)(new:wy X.prog X.w (upd H a ob) h' a ob):
 Inv X pins σ (upd H a ob) { s with heap:=h',toks:=t' } :=
 I.write (x:=a) (e:=a) mu (.inl rfl) (fun b q hb z=>(hs.2 b hb).trans z) he new
theorem dk_new{P:Program}{w:World}{H':Hp}{h':Heap}{kvs:List (Key × V)}{vs:List (Key × Value)}(z:kvs.length≤sizeLine)(hd:(a==sysModules)=false)(rel:KV kvs vs)(dd:h'.DictOf (wL P w) a vs):
 wy P w H' h' a (.dK kvs):=⟨z,hd,vs,rel,dd⟩
theorem zjD{H':Hp}{Q:Unit→Shared→Prop}(hu:A.units+1<cLine)(I:Inv X pins σ H s)(g:zhB H a y v H')(ry:yb y u)(rv:yb v r)(h:∀s',Inv X pins σ H' s'→Q () s'):
 wpAny (model X.prog X.w) A (setItem (.ref a) u r) Q E s:=by
 rcases g with⟨kvs,k,e,ey,l,eH⟩ | ⟨kvs,k,b,e,ey,eb,l,eH⟩
 ·subst ey eH
  obtain⟨z,hd,vs,rel,dd⟩:=dk_of I.hok e
  have hz:vs.length≤sizeLine:=by rw[← rel.length];exact z
  have hl:(zbK kvs k v).length≤sizeLine:=by have:=zcR kvs k v;omega
  refine wpAny_setItem_pairs (hsz:=hz) (zha ry) dd fun h' dd' hs=>h _ ?_
  have he:∃q,h'.get? a=some q:=let ⟨q,_,_,hq,_⟩:=dd';⟨q,hq⟩
  exact ziT I (by rw[e];exact True.intro) hs he (dk_new hl hd (rel.put k rv) dd')
 ·subst ey eH
  cases (show u=Value.ref b from ry)
  obtain⟨z,hd,xs,rel,dd⟩:=dt_of I.hok e
  have hz:xs.length≤sizeLine:=by rw[← Paired.length rel];exact z
  have hl:(zbK kvs k v).length≤sizeLine:=by have:=zcR kvs k v;omega
  refine wpAny_setItem_heap (hsz:=hz) (tupleKind_room_in1 hu) (ze8 I.hok eb) dd fun h' dd' hs=>h _ ?_
  obtain⟨q,es,ep,hq,h2,h3,h4,_,h5⟩:=dd'
  refine ziT I (by rw[e];exact True.intro) hs ⟨q,hq⟩ ⟨hl,hd,_,(rel.put k eb rv).keeps fun c ys ec=>?_,q,es,ep,hq,h2,h3,h4,h5⟩
  rw[zi (yr ec e (fun z=>nomatch z))]
  exact ec
end
section
variable {X:Cx} {pins:List (Addr × Obj)} {σ:St} {H:Hp} {s:Shared} {a:Addr} {kvs:List (Key × V)} {k:Key} {u:Value} {A:Around} {E:Value→Shared→Prop}
end
def NoSl(i:Expr):Prop:=∀ov iv,subscripted i false ov iv=operate [ov,iv] (getItem ov iv)
theorem subD_of{prog:Program}{w:World}{A:Around}{E:Value→Shared→Prop}{s:Shared}{env:Env}{value slice:Expr}{pos:Pos}{T id:String}{Q:Value→Shared→Prop}
 (hl:typeLookup (.type T) "__getitem__" = pure (some (.builtin id))) (hs:NoSl slice)
 (h:wpAny (model prog w) A (eval value env) (fun o s₁=>wpAny (model prog w) A (eval slice env) (fun i s₂=>s₂.TypeIs o T∧wpAny (model prog w) A (getItem o i) Q E s₂) E s₁) E s) :
 wpAny (model prog w) A (eval (.Subscript value slice pos) env) Q E s:=by
 refine Subscript_ (wpAny_mono h (fun o s₁ h₁=>wpAny_mono h₁ (fun i s₂ h₂=>?_) fun _ _ x=>x) fun _ _ x=>x)
 obtain⟨hT,h₂⟩:=h₂
 unfold subscriptTail
 refine wpAny_bind ?_
 rw[getitemInPython_of_ne hT.not_modules]
 refine wpAny_bind (wpAny_specialOf hT hl ?_)
 have fin:wpAny (model prog w) A (subscripted slice false o i) (fun r s₃=>wpAny (model prog w) A (letTemporaryGo value o r >>= fun _=>pure r) Q E s₃) E s₂:=by
  rw[hs o i]
  exact wpAny_operating (wpAny_mono h₂ (fun r s₃ h₃=>wpAny_bind (wpAny_letTemporaryGo (wpAny_pure h₃))) fun _ _ x=>x)
 first
  | exact wpAny_pure (wpAny_bind fin)
  | exact wpAny_bind (wpAny_pure (wpAny_bind fin))
  | exact wpAny_bind fin
theorem zhd{X:Cx}{pins:List (Addr × Obj)}{σ:St}{H:Hp}{s:Shared}{a:Addr}{y:V}{o:Option V}(I:Inv X pins σ H s)(g:zdm H a y o):s.TypeIs (.ref a) "dict" := by
 rcases g with⟨kvs,k,e,_,_⟩ | ⟨kvs,k,b,e,_,_,_⟩
 ·obtain⟨_,_,vs,_,dd⟩:=zhU I.hok e
  exact dd.typeIs
 ·obtain⟨_,_,xs,_,dd⟩:=zhT I.hok e
  exact dd.typeIs
def tDGet(td ty:TE):TE:=fun σ H Q=>td σ H fun x H1=>ty σ H1 fun y H2=>∃a v,x=.ref a∧zdm H2 a y (some v)∧Q v H2
def tDIn(ty td:TE):TE:=fun σ H Q=>ty σ H fun y H1=>td σ H1 fun x H2=>∃a o,x=.ref a∧zdm H2 a y o∧Q (.bl o.isSome) H2
def tDNotIn(ty td:TE):TE:=fun σ H Q=>ty σ H fun y H1=>td σ H1 fun x H2=>∃a o,x=.ref a∧zdm H2 a y o∧Q (.bl (!o.isSome)) H2
def sDPut(td ty tv:TE):TS:=fun D σ H=>tv σ H fun v H1=>td σ H1 fun x H2=>ty σ H2 fun y H3=>∃a H4,x=.ref a∧zhB H3 a y v H4∧D.nx σ H4
section
variable {X:Cx} {o i e value:Expr} {pos pos' tpos:Pos} {td ty tv:TE}
theorem ziW(hu:X.A.units+1<cLine)(ho:PE X o td)(hi:PE X i ty)(hs:NoSl i):PE X (.Subscript o i pos) (tDGet td ty):=by
 intro pins s σ H Q I h
 refine subD_of PySem.F.slot_dict_getitem.lookup hs (thn (ho pins s σ H _ I h) fun u s1 ⟨x,H1,I1,rx,q1⟩=>thn (hi pins s1 σ H1 _ I1 q1) fun iv s2 ⟨y,H2,I2,ry,a,v,ex,g,q2⟩=>?_)
 subst ex
 obtain rfl:u=Value.ref a:=rx
 exact⟨zhd I2 g,zjg hu I2 g ry fun w' s3 I3 rw'=>⟨v,H2,I3,rw',q2⟩⟩
theorem pc_din(hu:X.A.units+1<cLine)(hi:PE X i ty)(ho:PE X o td):PC X .In i o (tDIn ty td):=by
 intro pins s σ H Q I h
 refine thn (hi pins s σ H _ I h) fun iv s1 ⟨y,H1,I1,ry,q1⟩=>thn (ho pins s1 σ H1 _ I1 q1) fun u s2 ⟨x,H2,I2,rx,a,ov,ex,g,q2⟩=>?_
 subst ex
 obtain rfl:u=Value.ref a:=rx
 exact d_in hu I2 g ry fun s3 I3=>⟨.bl ov.isSome,H2,I3,rfl,q2⟩
theorem zjK(hu:X.A.units+1<cLine)(hi:PE X i ty)(ho:PE X o td):PC X .NotIn i o (tDNotIn ty td):=by
 intro pins s σ H Q I h
 refine thn (hi pins s σ H _ I h) fun iv s1 ⟨y,H1,I1,ry,q1⟩=>thn (ho pins s1 σ H1 _ I1 q1) fun u s2 ⟨x,H2,I2,rx,a,ov,ex,g,q2⟩=>?_
 subst ex
 obtain rfl:u=Value.ref a:=rx
 exact d_notIn hu I2 g ry fun s3 I3=>⟨.bl (!ov.isSome),H2,I3,rfl,q2⟩
theorem zi5(hu:X.A.units+1<cLine)(ho:PE X o td)(hi:PE X i ty)(hv:PE X value tv)(hs:swapsWith value (some (.Subscript o i pos')) pos.line X.env=pure false):
 PS X (.Assign [.Subscript o i pos'] value pos) (sDPut td ty tv):=by
 intro pins s σ H D I h
 refine wpAny_Assign_Subscript (thn (hv pins s σ H _ I h) fun r s1 ⟨v,H1,I1,rv,q1⟩=>thn (ho pins s1 σ H1 _ I1 q1) fun u s2 ⟨x,H2,I2,rx,q2⟩=>thn (hi pins s2 σ H2 _ I2 q2) fun iv s3 ⟨y,H3,I3,ry,a,H4,ex,g,q3⟩=>?_) hs
 subst ex
 obtain rfl:u=Value.ref a:=rx
 exact zjD hu I3 g ry rv fun s4 I4=>⟨σ,H4,I4,q3⟩
end
theorem dk_empty{P:Program}{w:World}{H:Hp}(h:Heap)(hb:sysModules<h.objs.size):wy P w H (h.push { cls:=.type "dict",data:=.dict #[] }) h.objs.size (.dK []) :=
 ⟨Nat.zero_le _,beq_eq_false_iff_ne.mpr (Ne.symm (Nat.ne_of_lt hb)),[],.nil,Heap.DictOf.new h⟩
def tDNewK:TE:=fun _ H Q=>∀p,H p=none→Q (.ref p) (upd H p (.dK []))
section
variable {X:Cx} {pos:Pos}
theorem pe_dnewK:PE X (.Dict [] [] pos) tDNewK:=fun pins s σ H Q I h =>
 wpAny_Dict_empty ⟨.ref s.heap.objs.size,_,I.laid (a:=s.heap.objs.size) (o:=.dK []) (t':=s.toks) (fun _ _ q=>Heap.get?_push_of_some _ q) (Nat.le_refl _) (dk_empty s.heap I.big),rfl,h _ (I.hok.fresh (Nat.le_refl _))⟩
end
structure M1 (X:Cx) (o:Expr) (m:Str) (apos:Pos) (e:Expr) (cpos:Pos):Prop where
 base:attributeBase o m X.env (eval o X.env)=eval o X.env
 few:((backTo cpos (starEach [e] X.env)).all (fun x => !x.1) && (backToKw cpos (keywordEach [] X.env)).all (fun x=>x.1.isSome)
  && decide (([e]:List Expr).length+([]:List Keyword).length+(if([]:List Keyword).isEmpty then 0 else 1)<30))=true
 line:(apos.endLine==cpos.line)=true
 trees:backTo cpos (starEach [e] X.env) = [(false,eval e X.env)]
structure M2 (X:Cx) (o:Expr) (m:Str) (apos:Pos) (e f:Expr) (cpos:Pos):Prop where
 base:attributeBase o m X.env (eval o X.env)=eval o X.env
 few:((backTo cpos (starEach [e,f] X.env)).all (fun x => !x.1) && (backToKw cpos (keywordEach [] X.env)).all (fun x=>x.1.isSome)
  && decide (([e,f]:List Expr).length+([]:List Keyword).length+(if([]:List Keyword).isEmpty then 0 else 1)<30))=true
 line:(apos.endLine==cpos.line)=true
 trees:backTo cpos (starEach [e,f] X.env) = [(false,eval e X.env),(false,eval f X.env)]
section
variable {X:Cx} {pins:List (Addr × Obj)} {σ:St} {H:Hp} {s:Shared} {a:Addr} {y d:V} {u r:Value} {o:Option V} {A:Around} {E:Value→Shared→Prop}
end
section
variable {X:Cx} {o e f:Expr} {apos cpos:Pos} {td ty tx:TE}
end
section
variable {X:Cx} {pins:List (Addr × Obj)} {σ:St} {H:Hp} {s:Shared} {a:Addr} {kvs:List (Key × V)} {A:Around} {E:Value→Shared→Prop}
end
section
variable {X:Cx} {pins:List (Addr × Obj)} {σ:St} {H:Hp} {s:Shared} {a:Addr} {y:V} {u:Value} {A:Around} {E:Value→Shared→Prop}
end
section
variable {X:Cx}
end
section
variable {κ:Type} [DecidableEq κ]
end
end L2
namespace M1
def gap(c:Int):Int := [1,7,500,998].getD (c%4).toNat 1
def couples(c:Int)(m:Nat):List Int:=(List.range m).map fun(k:Nat)=>(c/4+(k:Int)*gap c)%999+1
theorem zep(c:Int)(m:Nat):(couples c m).length=m:=by unfold couples;simp
theorem zgK(c:Int)(m:Nat):couples c (m+1)=couples c m ++ [(c/4+(m:Int)*gap c)%999+1]:=by unfold couples;rw[List.range_succ,List.map_append];rfl
theorem zfK{c:Int}{m:Nat}{x:Int}(h:x∈couples c m):1≤x∧x≤999:=by
 obtain⟨k,_,rfl⟩:=List.mem_map.mp h
 have h1:=Int.emod_nonneg (c/4+(k:Int)*gap c) (show(999:Int)≠0 by decide)
 have h2:=Int.emod_lt_of_pos (c/4+(k:Int)*gap c) (show(0:Int)<999 by decide)
 omega
theorem zjI(c:Int):gap c=1∨gap c=7∨gap c=500∨gap c=998:=by
 have h:c%4=0∨c%4=1∨c%4=2∨c%4=3:=by omega
 unfold gap
 rcases h with h | h | h | h <;> rw[h]
 ·exact .inl rfl
 ·exact .inr (.inl rfl)
 ·exact .inr (.inr (.inl rfl))
 ·exact .inr (.inr (.inr rfl))
theorem zfU{c:Int}{m:Nat}(hm:m≤999):(couples c m).Nodup:=by
 unfold couples
 refine List.pairwise_map.mpr (List.Pairwise.imp_of_mem (fun {i j} hi hj hlt e=>?_) (List.pairwise_lt_range (n:=m)))
 have hi:=List.mem_range.mp hi
 have hj:=List.mem_range.mp hj
 rcases zjI c with g | g | g | g <;> rw[g] at e <;> omega
theorem zjy{l:List Int}(h:l.Nodup){x:Int}(hx:x∈l):l.count x=1:=by
 have h1:=List.nodup_iff_count.mp h x
 have h2:=List.count_pos_iff.mpr hx
 omega
theorem zeq:∀{ms ns:List Int},ms.Nodup→(∀x∈ms,x∈ns)→ns.length≤ms.length→ms.Perm ns
 | [],ns,_,_,hl=>by
   have:ns = []:=List.eq_nil_of_length_eq_zero (by simpa using hl)
   subst this
   exact List.Perm.refl _
 | x::ms,ns,hn,hs,hl=>by
   have hx:x∈ns:=hs x List.mem_cons_self
   rw[List.nodup_cons] at hn
   have p:=List.perm_cons_erase hx
   have ih:=zeq (ms:=ms) (ns:=ns.erase x) hn.2 (fun y hy=>(List.mem_erase_of_ne (by intro e;rw[e] at hy;exact hn.1 hy)).mpr (hs y (List.mem_cons_of_mem _ hy))) (by
    rw[List.length_erase_of_mem hx]
    simp at hl
    omega)
   exact(ih.cons x).trans p.symm
def zcF(ns:List Int):Bool:=(decide (1≤(ns.length:Int)) && decide ((ns.length:Int)≤24)) && (decide ns.Nodup && (ns.map fun n=>decide (1≤n) && decide (n≤999)).all id)
theorem zjT(ns:List Int):zcF ns=true↔(1≤ns.length∧ns.length≤24)∧ns.Nodup∧∀n∈ns,1≤n∧n≤999:=by
 unfold zcF
 simp only[Bool.and_eq_true,decide_eq_true_eq,List.all_map,List.all_eq_true,Function.comp,id]
 constructor
 ·rintro ⟨⟨h1,h2⟩,h3,h4⟩
  exact⟨⟨by omega,by omega⟩,h3,h4⟩
 ·rintro ⟨⟨h1,h2⟩,h3,h4⟩
  exact⟨⟨by omega,by omega⟩,h3,h4⟩
end M1
namespace M2
open PySem L2
def zei(z:Str):Bool:=(decide (1≤(z.length:Int)) && decide ((z.length:Int)≤8)) && (z.cps.toList.map zcD).all id
def zdw(ts:List Str):Bool:=(decide (1≤(ts.length:Int)) && decide ((ts.length:Int)≤15)) && (decide ts.Nodup && (ts.map zei).all id)
theorem zb7(z:Str):zei z=true↔(1≤z.length∧z.length≤8)∧∀c∈z.cps.toList,zcD c=true:=by
 unfold zei
 simp only[Bool.and_eq_true,decide_eq_true_eq,List.all_map,List.all_eq_true,Function.comp,id]
 constructor
 ·rintro ⟨⟨h1,h2⟩,h3⟩
  exact⟨⟨by omega,by omega⟩,h3⟩
 ·rintro ⟨⟨h1,h2⟩,h3⟩
  exact⟨⟨by omega,by omega⟩,h3⟩
theorem zf4(ts:List Str):zdw ts=true↔(1≤ts.length∧ts.length≤15)∧ts.Nodup∧∀z∈ts,(1≤z.length∧z.length≤8)∧∀c∈z.cps.toList,zcD c=true:=by
 unfold zdw
 simp only[Bool.and_eq_true,decide_eq_true_eq,List.all_map,List.all_eq_true,Function.comp,id,zb7]
 constructor
 ·rintro ⟨⟨h1,h2⟩,h3,h4⟩
  exact⟨⟨by omega,by omega⟩,h3,h4⟩
 ·rintro ⟨⟨h1,h2⟩,h3,h4⟩
  exact⟨⟨by omega,by omega⟩,h3,h4⟩
theorem le_a(c:Nat):(!decide ((⟨#[c]⟩:Str).cps.toList<("a" : Str).cps.toList))=decide (97≤c):=by
 have e:("a" : Str).cps.toList = [97]:=by decide +kernel
 rw[e]
 show(!decide ([c] < [97]))=_
 by_cases h:97≤c
 ·rw[decide_eq_true h,decide_eq_false];rfl
  simp[List.cons_lt_cons_iff];omega
 ·rw[decide_eq_false h,decide_eq_true];rfl
  simp[List.cons_lt_cons_iff];omega
theorem le_z(c:Nat):(!decide (("z" : Str).cps.toList<(⟨#[c]⟩:Str).cps.toList))=decide (c≤122):=by
 have e:("z" : Str).cps.toList = [122]:=by decide +kernel
 rw[e]
 show(!decide ([122] < [c]))=_
 by_cases h:c≤122
 ·rw[decide_eq_true h,decide_eq_false];rfl
  simp[List.cons_lt_cons_iff];omega
 ·rw[decide_eq_false h,decide_eq_true];rfl
  simp[List.cons_lt_cons_iff];omega
end M2
namespace M10
open PySem L2 M2
end M10
namespace M3
open PySem L2
def got(ms:List Int)(n:Int):List Int:=ms.filter fun m=>decide (m≤n)
def cnt(ms:List Int)(n:Int):Nat:=(got ms n).length
def sm(ms:List Int)(n:Int):Int:=(got ms n).sum
def isF(ms:List Int)(f:Int):Prop:=ms.length<2*cnt ms f∧2*cnt ms (f - 1)≤ms.length
theorem zbC{ms:List Int}{a b:Int}(h:a≤b):cnt ms a≤cnt ms b:=by
 unfold cnt got
 induction ms with
 | nil=>exact Nat.le_refl _
 | cons x ms ih =>
   rw[List.filter_cons,List.filter_cons]
   by_cases h1:x≤a
   ·rw[if_pos (decide_eq_true h1),if_pos (decide_eq_true (by omega)),List.length_cons,List.length_cons];omega
   ·rw[if_neg (by simpa using h1)]
    split
    ·rw[List.length_cons];omega
    ·exact ih
theorem zdk{ms:List Int}{f g:Int}(h1:isF ms f)(h2:isF ms g):f=g:=by
 unfold isF at h1 h2
 rcases Int.lt_trichotomy f g with h | h | h
 ·have:=zbC (ms:=ms) (show f≤g - 1 by omega);omega
 ·exact h
 ·have:=zbC (ms:=ms) (show g≤f - 1 by omega);omega
theorem zgT{ms:List Int}{n:Int}(h:∀x∈ms,n<x):cnt ms n=0:=by
 unfold cnt got
 rw[List.filter_eq_nil_iff.mpr]
 ·rfl
 ·intro x hx;have:=h x hx;simp;omega
theorem zeZ{ms:List Int}{n:Int}(h:∀x∈ms,x≤n):cnt ms n=ms.length:=by
 unfold cnt got
 rw[List.filter_eq_self.mpr]
 intro x hx;have:=h x hx;simp;omega
theorem zcC(ms:List Int)(n:Int):cnt ms n≤ms.length:=List.length_filter_le _ _
theorem zd1{ms:List Int}{f:Int}(h:isF ms f)(lo hi:Int)(hl:∀x∈ms,lo≤x∧x≤hi):lo≤f∧f≤hi:=by
 unfold isF at h
 constructor
 ·by_cases c:lo≤f
  ·exact c
  ·have:=zgT (ms:=ms) (n:=f) fun x hx=>by have:=(hl x hx).1;omega
   omega
 ·by_cases c:f≤hi
  ·exact c
  ·have:=zeZ (ms:=ms) (n:=f - 1) fun x hx=>by have:=(hl x hx).2;omega
   have:=zcC ms f
   omega
theorem zdx{ms:List Int}{i:Nat}(n:Int)(hi:i<ms.length):got (ms.take (i+1)) n=if ms.getD i 0≤n then got (ms.take i) n ++ [ms.getD i 0] else got (ms.take i) n:=by
 unfold got
 rw[yy hi,List.filter_append,List.filter_cons]
 by_cases h:ms.getD i 0≤n
 ·rw[if_pos (decide_eq_true h),if_pos h];rfl
 ·rw[if_neg (by simpa using h),if_neg h];simp
end M3
namespace L2
open PySem
inductive All2 {α β:Type} (R:α→β→Prop):List α→List β→Prop
 | nil:All2 R [] []
 | cons {a:α} {b:β} {as:List α} {bs:List β}:R a b→All2 R as bs→All2 R (a::as) (b::bs)
namespace All2
variable {α β:Type} {R S:α→β→Prop} {as as':List α} {bs bs':List β}
theorem length(h:All2 R as bs):as.length=bs.length:=by
 induction h with
 | nil=>rfl
 | cons _ _ ih=>rw[List.length_cons,List.length_cons,ih]
theorem imp(f:∀a b,R a b→S a b)(h:All2 R as bs):All2 S as bs:=by
 induction h with
 | nil=>exact .nil
 | cons r _ ih=>exact .cons (f _ _ r) ih
theorem append(h:All2 R as bs)(h':All2 R as' bs'):All2 R (as++as') (bs++bs'):=by
 induction h with
 | nil=>exact h'
 | cons r _ ih=>exact .cons r ih
theorem snoc{a:α}{b:β}(h:All2 R as bs)(r:R a b):All2 R (as ++ [a]) (bs ++ [b]):=h.append (.cons r .nil)
theorem get(h:All2 R as bs):∀{i:Nat} {b:β},bs[i]? = some b→∃a,as[i]? = some a∧R a b:=by
 induction h with
 | nil=>intro i b e;simp at e
 | cons r _ ih =>
   intro i b e
   cases i with
   | zero=>simp only[List.getElem?_cons_zero] at e ⊢;cases e;exact⟨_,rfl,r⟩
   | succ i=>simp only[List.getElem?_cons_succ] at e ⊢;exact ih e
theorem getL(h:All2 R as bs):∀{i:Nat} {a:α},as[i]? = some a→∃b,bs[i]? = some b∧R a b:=by
 induction h with
 | nil=>intro i b e;simp at e
 | cons r _ ih =>
   intro i b e
   cases i with
   | zero=>simp only[List.getElem?_cons_zero] at e ⊢;cases e;exact⟨_,rfl,r⟩
   | succ i=>simp only[List.getElem?_cons_succ] at e ⊢;exact ih e
end All2
def zdJ{α:Type}(K:PySem.W.Frag)(R:Hp→Addr→α→Prop)(H:Hp)(a:Addr)(xs:List α):Prop:=∃ls:List Addr,SqL K H a (ls.map V.ref)∧All2 (R H) ls xs
def Stays{α:Type}(R:Hp→Addr→α→Prop):Prop:=∀H H' l x,zj H H'→R H l x→R H' l x
theorem zdJ.same{α:Type}{K:PySem.W.Frag}{R:Hp→Addr→α→Prop}(st:Stays R){H H':Hp}{a:Addr}{xs:List α}(s:zj H H')(h:zdJ K R H a xs):zdJ K R H' a xs:=by
 obtain⟨ls,q,r⟩:=h
 exact⟨ls,s.seq q,r.imp fun a b=>st _ _ _ _ s⟩
def IL(K:PySem.W.Frag)(H:Hp)(l:Addr)(c:List Int):Prop:=SqL K H l (c.map V.int)
def TPl(K:PySem.W.Frag)(H:Hp)(l:Addr)(p:Int × Int):Prop:=SqT K H l [.int p.1,.int p.2]
theorem IL.stays(K:PySem.W.Frag):Stays (IL K):=fun _ _ _ _ s h=>zj.seq s h
theorem TPl.stays(K:PySem.W.Frag):Stays (TPl K):=fun _ _ _ _ s h=>s.seqT h
theorem zcZ{ls:List Addr}{i:Nat}{l:Addr}(h:ls[i]? = some l):(ls.map V.ref)[i]? = some (.ref l):=by rw[List.getElem?_map,h];rfl
theorem zay{ls:List Addr}{i:Nat}{x:V}(h:(ls.map V.ref)[i]? = some x):∃l,ls[i]? = some l∧x=.ref l:=by
 rw[List.getElem?_map] at h
 cases e:ls[i]? with
 | none=>rw[e] at h;cases h
 | some l=>rw[e] at h;cases h;exact⟨l,rfl,rfl⟩
theorem comp_got{K:PySem.W.Frag}{a:Addr}{ms:List Int}{n:Int}{c:St}{tc:TT}{te:TE}{H:Hp}{fin:List V→Hp→Prop}(hS:SqL K H a (ms.map V.int))(hz:ms.length≤1000000)
 (hc:∀x (R:Bool→Hp→Prop),R (decide (x≤n)) H→tc (some (.int x)::c) H R) (he:∀x (R:V→Hp→Prop),R (.int x) H→te (some (.int x)::c) H R) (hd:fin ((M3.got ms n).map V.int) H):zcv (Itl K a) c tc te H fin:=by
 refine wa (xs:=ms.map V.int) (fun i ys H2=>H2=H∧ys=(M3.got (ms.take i) n).map V.int) ⟨rfl,rfl⟩ ?_ (by rw[List.length_map];have:=zB;omega) ?_ ?_
 ·rintro i ys H2 hi ⟨rfl,rfl⟩
  refine⟨hS,?_⟩
  rw[List.length_map]
  have:=M3.zcC (ms.take i) n
  unfold M3.cnt at this
  rw[List.length_take] at this
  omega
 ·rintro i x ys H2 hx ⟨rfl,rfl⟩
  obtain⟨hi,rfl⟩:=yA hx
  refine hc _ _ (zX (fun h=>?_) (fun h=>?_))
  ·refine he _ _ ⟨rfl,?_⟩
   rw[M3.zdx n hi,if_pos h,List.map_append]
   rfl
  ·refine⟨rfl,?_⟩
   rw[M3.zdx n hi,if_neg h]
 ·rintro ys H2 ⟨rfl,rfl⟩
  rw[List.length_map,List.take_length]
  exact hd
theorem pe_both{X:Cx}{e:Expr}{t u:TE}(h1:PE X e t)(h2:PE X e u):PE X e (fun σ H Q=>t σ H Q∨u σ H Q):=by
 intro pins s σ H Q I h
 rcases h with h | h
 ·exact h1 pins s σ H Q I h
 ·exact h2 pins s σ H Q I h
structure Sh where
 couples:List Int
 struck:List Int
 panel:List Str
 card:Str→Option (List Int)
 taken:Nat
 shut:Bool
def wo(c:Int)(l:List Int):List Int:=l.filter fun o => !decide (o=c)
namespace Sh
structure Ok (S:Sh):Prop where
 c1:1≤S.couples.length
 c24:S.couples.length+S.struck.length≤24
 nd:S.couples.Nodup
 rng:∀c∈S.couples,1≤c∧c≤999
 p1:1≤S.panel.length
 p15:S.panel.length≤15
 pnd:S.panel.Nodup
 cd:∀j c,S.card j=some c→j∈S.panel∧c.Perm S.couples
 t200:S.taken≤200
def handed(S:Sh):List Str:=S.panel.filter fun j=>(S.card j).isSome
def cardsIn(S:Sh):List (List Int):=S.handed.map fun j=>(S.card j).getD []
def new(us:List Int)(ts:List Str):Sh:=⟨us,[],ts,fun _=>none,0,false⟩
def hand(S:Sh)(j:Str)(c:List Int):Sh:={ S with card:=fun k=>if k=j then some c else S.card k,taken:=S.taken+1 }
def refuse(S:Sh)(j:Str)(c:List Int):Option Str :=
 if S.shut=true then some "SheetSealed" else if j∈S.panel then(if c.Perm S.couples then(if 200≤S.taken then some "TooManyCards" else none)else some "BadCard")else some "UnknownJudge"
def strike(S:Sh)(c:Int):Sh:={ S with couples:=wo c S.couples,struck:=S.struck ++ [c],card:=fun j=>(S.card j).map (wo c) }
def refuseS(S:Sh)(c:Int):Option Str :=
 if S.shut=true then some "SheetSealed" else if c∈S.couples then(if S.couples.length=1 then some "LastCouple" else none)else some "UnknownCouple"
def close(S:Sh):Sh:={ S with shut:=true }
theorem Ok.new{us:List Int}{ts:List Str}(h1:M1.zcF us=true)(h2:M2.zdw ts=true):(new us ts).Ok:=by
 have g1:=h1
 unfold M1.zcF at g1
 simp only[Bool.and_eq_true,decide_eq_true_eq,List.all_map,List.all_eq_true,Function.comp,id] at g1
 obtain⟨⟨a1,a2⟩,a3,a4⟩:=g1
 obtain⟨⟨b1,b2⟩,b3,_⟩:=(M2.zf4 ts).mp h2
 exact⟨by show 1≤us.length;omega,by show us.length+0≤24;omega,a3,a4,b1,b2,b3,(fun _ _ h=>nomatch h),Nat.zero_le _⟩
theorem Ok.hand{S:Sh}(h:S.Ok){j:Str}{c:List Int}(hr:S.refuse j c=none):(S.hand j c).Ok∧j∈S.panel∧c.Perm S.couples∧S.taken<200∧S.shut=false:=by
 unfold refuse at hr
 split at hr
 ·cases hr
 rename_i h1
 split at hr
 rename_i h2
 split at hr
 rename_i h3
 split at hr
 ·cases hr
 rename_i h4
 ·refine⟨⟨h.c1,h.c24,h.nd,h.rng,h.p1,h.p15,h.pnd,fun k d e=>?_,by show S.taken+1≤200;omega⟩,h2,h3,by omega,by simpa using h1⟩
  have e:(if k=j then some c else S.card k)=some d:=e
  by_cases ek:k=j
  ·rw[if_pos ek] at e
   cases e
   subst ek
   exact⟨h2,h3⟩
  ·rw[if_neg ek] at e
   exact h.cd k d e
 ·cases hr
 ·cases hr
theorem wo_len{c:Int}{l:List Int}(nd:l.Nodup)(hc:c∈l):(wo c l).length+1=l.length:=by
 unfold wo
 have e:(l.filter fun o => !decide (o=c))=l.erase c:=by
  rw[nd.erase_eq_filter]
  refine List.filter_congr fun x _=>?_
  by_cases h:x=c
  ·subst h;simp
  ·simp[h]
 rw[e,List.length_erase_of_mem hc]
 have:=List.length_pos_of_mem hc
 omega
theorem Ok.strike{S:Sh}(h:S.Ok){c:Int}(hr:S.refuseS c=none):(S.strike c).Ok∧c∈S.couples∧2≤S.couples.length∧S.shut=false:=by
 unfold refuseS at hr
 split at hr
 ·cases hr
 rename_i h1
 split at hr
 rename_i h2
 split at hr
 ·cases hr
 rename_i h3
 ·have hl:=wo_len h.nd h2
  have h0:=h.c1
  have h24:=h.c24
  refine⟨⟨?_,?_,h.nd.filter _,fun d hd=>h.rng d (List.mem_filter.mp hd).1,h.p1,h.p15,h.pnd,fun k d e=>?_,h.t200⟩,h2,by omega,by simpa using h1⟩
  ·show 1≤(wo c S.couples).length
   omega
  ·show(wo c S.couples).length+(S.struck ++ [c]).length≤24
   rw[List.length_append,List.length_singleton]
   omega
  ·have e:(S.card k).map (wo c)=some d:=e
   cases q:S.card k with
   | none=>rw[q] at e;cases e
   | some b =>
     rw[q] at e
     cases e
     exact⟨(h.cd k b q).1,(h.cd k b q).2.filter _⟩
 ·cases hr
theorem Ok.close{S:Sh}(h:S.Ok):S.close.Ok:=⟨h.c1,h.c24,h.nd,h.rng,h.p1,h.p15,h.pnd,h.cd,h.t200⟩
end Sh
def shF(a1 a2 a3 d:Addr)(S:Sh):List (Str × V) := [("standing",.ref a1),("struck_so_far",.ref a2),("panel",.ref a3),("card_by_judge",.ref d),("taken_so_far",.int S.taken),("sealed",.bl S.shut)]
structure Shape (K:PySem.W.Frag) (H:Hp) (p:Addr) (F:Addr→Prop) (S:Sh) (dx a1 a2 a3 d:Addr) (kvs:List (Key × V)):Prop where
 ip:H p=some (.ins (zJ K "Sheet") dx (shF a1 a2 a3 d S))
 i1:H a1=some (.lst (S.couples.map V.int))
 i2:H a2=some (.lst (S.struck.map V.int))
 i3:H a3=some (.lst (S.panel.map V.str))
 i4:H d=some (.dK kvs)
 kl:kvs.length≤S.taken
 cn:∀j,S.card j=none→zaG kvs (Sum.inr j)=none
 cs:∀j c,S.card j=some c→∃l,zaG kvs (Sum.inr j)=some (.ref l)∧H l=some (.lst (c.map V.int))∧F l∧l≠a2
 fp:F p
 f1:F a1
 f2:F a2
 f3:F a3
 f4:F d
 n12:a1≠a2
 n32:a3≠a2
 fh:∀b,F b→H b≠none
structure SheetIn (K:PySem.W.Frag) (H:Hp) (p:Addr) (F:Addr→Prop) (S:Sh) (dx a1 a2 a3 d:Addr) (kvs:List (Key × V)):Prop extends Shape K H p F S dx a1 a2 a3 d kvs where
 ok:S.Ok
def zi4(K:PySem.W.Frag)(H:Hp)(p:Addr)(F:Addr→Prop)(S:Sh):Prop:=∃dx a1 a2 a3 d kvs,Shape K H p F S dx a1 a2 a3 d kvs
def zA(K:PySem.W.Frag)(H:Hp)(p:Addr)(F:Addr→Prop)(S:Sh):Prop:=∃dx a1 a2 a3 d kvs,SheetIn K H p F S dx a1 a2 a3 d kvs
theorem SheetIn.off{K:PySem.W.Frag}{H H':Hp}{p:Addr}{F:Addr→Prop}{S:Sh}{dx a1 a2 a3 d:Addr}{kvs:List (Key × V)}(h:SheetIn K H p F S dx a1 a2 a3 d kvs)(e:∀b,F b→H' b=H b):SheetIn K H' p F S dx a1 a2 a3 d kvs :=
 ⟨⟨(e _ h.fp).trans h.ip,(e _ h.f1).trans h.i1,(e _ h.f2).trans h.i2,(e _ h.f3).trans h.i3,(e _ h.f4).trans h.i4,h.kl,h.cn,
  fun j c hc=>let ⟨l,x1,x2,x3,x4⟩:=h.cs j c hc;⟨l,x1,(e _ x3).trans x2,x3,x4⟩,h.fp,h.f1,h.f2,h.f3,h.f4,h.n12,h.n32,fun b hb=>by rw[e b hb];exact h.fh b hb⟩,h.ok⟩
theorem zA.off{K:PySem.W.Frag}{H H':Hp}{p:Addr}{F:Addr→Prop}{S:Sh}(h:zA K H p F S)(e:∀b,F b→H' b=H b):zA K H' p F S:=by
 obtain⟨dx,a1,a2,a3,d,kvs,h⟩:=h
 exact⟨dx,a1,a2,a3,d,kvs,h.off e⟩
theorem zA.fh{K:PySem.W.Frag}{H:Hp}{p:Addr}{F:Addr→Prop}{S:Sh}(h:zA K H p F S):∀b,F b→H b≠none:=by
 obtain⟨dx,a1,a2,a3,d,kvs,h⟩:=h
 exact h.fh
theorem zA.ok{K:PySem.W.Frag}{H:Hp}{p:Addr}{F:Addr→Prop}{S:Sh}(h:zA K H p F S):S.Ok:=by
 obtain⟨dx,a1,a2,a3,d,kvs,h⟩:=h
 exact h.ok
theorem zA.shape{K:PySem.W.Frag}{H:Hp}{p:Addr}{F:Addr→Prop}{S:Sh}(h:zA K H p F S):zi4 K H p F S:=by
 obtain⟨dx,a1,a2,a3,d,kvs,h⟩:=h
 exact⟨dx,a1,a2,a3,d,kvs,h.toShape⟩
theorem zA.same{K:PySem.W.Frag}{H H':Hp}{p:Addr}{F:Addr→Prop}{S:Sh}(h:zA K H p F S)(s:zj H H'):zA K H' p F S:=h.off fun b hb=>by
 have:=h.fh b hb
 cases e:H b with
 | none=>exact absurd e this
 | some o=>exact s b o e
theorem zA.put{K:PySem.W.Frag}{H:Hp}{p:Addr}{F:Addr→Prop}{S:Sh}(h:zA K H p F S){l:Addr}{o:HO}(n:¬F l):zA K (upd H l o) p F S:=h.off fun b hb=>zi fun z=>n (z ▸ hb)
def zbG(F:Addr→Prop)(H:Hp)(F':Addr→Prop)(H':Hp):Prop:=∀b o,H b=some o→¬F b→H' b=some o∧¬F' b
def LQ(K:PySem.W.Frag)(F:Addr→Prop)(H:Hp)(a:Addr)(xs:List V):Prop :=
 (Rd H a (.lst xs)∧¬F a)∨∃(o:Obj) (its:Array Value) (n:Nat),K.lookup a=some o∧o.cls=.type "list" ∧ o.dict=none∧o.data=.seq its n∧its.size≤sizeLine∧zI xs its.toList
theorem LQ.sq{K:PySem.W.Frag}{F:Addr→Prop}{H:Hp}{a:Addr}{xs:List V}(h:LQ K F H a xs):SqL K H a xs:=h.imp (fun z=>z.1) id
theorem LQ.deed{K:PySem.W.Frag}{F F':Addr→Prop}{H H':Hp}{a:Addr}{xs:List V}(h:LQ K F H a xs)(d:zbG F H F' H'):LQ K F' H' a xs:=by
 rcases h with⟨r | ⟨o,r⟩,n⟩ | h
 ·exact .inl ⟨.inl (d a _ r n).1,(d a _ r n).2⟩
 ·exact .inl ⟨.inr ⟨o,(d a _ r n).1⟩,(d a _ r n).2⟩
 ·exact .inr h
theorem LQ.same{K:PySem.W.Frag}{F:Addr→Prop}{H H':Hp}{a:Addr}{xs:List V}(h:LQ K F H a xs)(s:zj H H'):LQ K F H' a xs:=by
 rcases h with⟨r | ⟨o,r⟩,n⟩ | h
 ·exact .inl ⟨.inl (s a _ r),n⟩
 ·exact .inl ⟨.inr ⟨o,s a _ r⟩,n⟩
 ·exact .inr h
theorem LQ.of{K:PySem.W.Frag}{F:Addr→Prop}{H:Hp}{a:Addr}{xs:List V}(h:H a=some (.lst xs))(n:¬F a):LQ K F H a xs:=.inl ⟨.inl h,n⟩
theorem SqL.none{K:PySem.W.Frag}{H:Hp}{a:Addr}{xs:List V}(h:SqL K H a xs):LQ K (fun _=>False) H a xs:=h.imp (fun z=>⟨z,fun w=>w⟩) id
theorem zbG.same{F:Addr→Prop}{H H':Hp}(s:zj H H'):zbG F H F H':=fun b o e n=>⟨s b o e,n⟩
theorem zbG.trans{F F1 F2:Addr→Prop}{H H1 H2:Hp}(a:zbG F H F1 H1)(b:zbG F1 H1 F2 H2):zbG F H F2 H2:=fun c o e n=>b c o (a c o e n).1 (a c o e n).2
theorem zA.apart{K:PySem.W.Frag}{H:Hp}{p:Addr}{F:Addr→Prop}{S:Sh}(h:zA K H p F S){l:Addr}(n:H l=none):¬F l:=fun z=>h.fh l z n
theorem zdI{H:Hp}{x l:Addr}{o u i:HO}(hx:H x=some i)(hl:H l=none):upd (upd H l o) x u x=some u∧upd (upd H l o) x u l=some o∧l≠x∧∀b v,H b=some v→b≠x→upd (upd H l o) x u b=some v:=by
 have n:l≠x:=fun e=>by rw[e,hx] at hl;cases hl
 exact⟨ze,by rw[zi n];exact ze,n,fun b v e nb=>by rw[zi nb,zi (zk e hl)];exact e⟩
theorem zeT(f:Str)(v x:V)(r:List (Str × V)):zax f v ((f,x)::r)=(f,v)::r:=by rw[zax,if_pos rfl]
theorem yd{f g:Str}(v x:V)(r:List (Str × V))(h:g≠f):zax f v ((g,x)::r)=(g,x)::zax f v r:=by rw[zax,if_neg h]
theorem pf1(v:V):zax "standing" v []=([("standing",v)]:List (Str × V)):=rfl
theorem pf2(u v:V):zax "struck_so_far" v [("standing",u)]=([("standing",u),("struck_so_far",v)]:List (Str × V)):=by rw[yd _ _ _ (by decide)];rfl
theorem pf3(u w v:V):zax "panel" v [("standing",u),("struck_so_far",w)]=([("standing",u),("struck_so_far",w),("panel",v)]:List (Str × V)):=by rw[yd _ _ _ (by decide),yd _ _ _ (by decide)];rfl
theorem pf4(u w y v:V):zax "card_by_judge" v [("standing",u),("struck_so_far",w),("panel",y)]=([("standing",u),("struck_so_far",w),("panel",y),("card_by_judge",v)]:List (Str × V)):=by rw[yd _ _ _ (by decide),yd _ _ _ (by decide),yd _ _ _ (by decide)];rfl
theorem pf5(u w y z v:V):zax "taken_so_far" v [("standing",u),("struck_so_far",w),("panel",y),("card_by_judge",z)]=([("standing",u),("struck_so_far",w),("panel",y),("card_by_judge",z),("taken_so_far",v)]:List (Str × V)):=by rw[yd _ _ _ (by decide),yd _ _ _ (by decide),yd _ _ _ (by decide),yd _ _ _ (by decide)];rfl
theorem pf6(u w y z t v:V):zax "sealed" v [("standing",u),("struck_so_far",w),("panel",y),("card_by_judge",z),("taken_so_far",t)]=([("standing",u),("struck_so_far",w),("panel",y),("card_by_judge",z),("taken_so_far",t),("sealed",v)]:List (Str × V)):=by rw[yd _ _ _ (by decide),yd _ _ _ (by decide),yd _ _ _ (by decide),yd _ _ _ (by decide),yd _ _ _ (by decide)];rfl
theorem zhC(a1 a2 a3 d b:Addr)(S S':Sh)(h:S'.taken=S.taken)(h2:S'.shut=S.shut):zax "standing" (.ref b) (shF a1 a2 a3 d S)=shF b a2 a3 d S':=by unfold shF;rw[zeT,h,h2]
theorem zjZ(a1 a2 a3 d:Addr)(S S':Sh)(h2:S'.shut=S.shut):zax "taken_so_far" (.int S'.taken) (shF a1 a2 a3 d S)=shF a1 a2 a3 d S':=by
 unfold shF
 rw[yd _ _ _ (by decide),yd _ _ _ (by decide),yd _ _ _ (by decide),yd _ _ _ (by decide),zeT,h2]
theorem zjN(a1 a2 a3 d:Addr)(S S':Sh)(h:S'.taken=S.taken):zax "sealed" (.bl S'.shut) (shF a1 a2 a3 d S)=shF a1 a2 a3 d S':=by
 unfold shF
 rw[yd _ _ _ (by decide),yd _ _ _ (by decide),yd _ _ _ (by decide),yd _ _ _ (by decide),yd _ _ _ (by decide),zeT,h]
theorem putK_len{kvs:List (Key × V)}{k:Key}{v u:V}(h:zaG kvs k=some u):(zbK kvs k v).length=kvs.length:=by
 unfold zbK
 have:(kvs.any fun kv=>decide (kv.1=k))=true:=by rw[zcE,h];rfl
 rw[if_pos this,List.length_map]
theorem zA.ins{K:PySem.W.Frag}{H:Hp}{p:Addr}{F:Addr→Prop}{S:Sh}(h:zA K H p F S):∃dx a1 a2 a3 d,H p=some (.ins (zJ K "Sheet") dx (shF a1 a2 a3 d S)):=by
 obtain⟨dx,a1,a2,a3,d,kvs,h⟩:=h
 exact⟨dx,a1,a2,a3,d,h.ip⟩
def Sh.rows(S:Sh):List (List Int):=S.panel.map fun j=>(S.card j).getD []
def zc5(cs:List (List Int)):List Int:=((List.range cs.length).filter fun k => !decide (cs.getD k [] = [])).map fun(k:Nat)=>(k:Int)
theorem map_getD{α:Type}(l:List α)(d:α):(List.range l.length).map (fun k=>l.getD k d)=l:=by
 refine List.ext_getElem (by simp) fun i h1 h2=>?_
 simp[h2]
theorem zd9{cs:List (List Int)}{x:Int}(h:x∈zc5 cs):0≤x∧x.toNat<cs.length∧cs.getD x.toNat [] ≠ []:=by
 obtain⟨k,hk,rfl⟩:=List.mem_map.mp h
 obtain⟨h1,h2⟩:=List.mem_filter.mp hk
 have h1:=List.mem_range.mp h1
 refine⟨by omega,by simpa using h1,fun z=>?_⟩
 have e:((k:Int)).toNat=k:=by omega
 rw[e] at z
 rw[decide_eq_true z] at h2
 exact absurd h2 (by decide)
theorem zja(cs:List (List Int)):(zc5 cs).length≤cs.length:=by
 unfold zc5
 rw[List.length_map]
 exact Nat.le_trans (List.length_filter_le _ _) (by rw[List.length_range];exact Nat.le_refl _)
theorem Sh.rows_len(S:Sh):S.rows.length=S.panel.length:=by unfold rows;simp
theorem Sh.rows_at(S:Sh){k:Nat}(h:k<S.panel.length):S.rows.getD k []=(S.card (S.panel.getD k "")).getD []:=by
 unfold rows
 rw[List.getD_eq_getElem?_getD,List.getD_eq_getElem?_getD,List.getElem?_map,List.getElem?_eq_getElem h]
 rfl
theorem Sh.Ok.full{S:Sh}(h:S.Ok){j:Str}{c:List Int}(e:S.card j=some c):c ≠ []:=fun z=>by
 have:=(h.cd j c e).2.length_eq
 have h1:=h.c1
 rw[z] at this
 simp at this
 omega
theorem Sh.into_names{S:Sh}(h:S.Ok):(zc5 S.rows).map (fun x=>S.panel.getD x.toNat "")=S.handed:=by
 unfold zc5 Sh.handed
 rw[List.map_map]
 conv=>rhs;rw[← map_getD S.panel ""]
 rw[List.filter_map,Sh.rows_len]
 have e:(List.range S.panel.length).filter (fun k => !decide (S.rows.getD k [] = []))=(List.range S.panel.length).filter ((fun j=>(S.card j).isSome) ∘ fun k=>S.panel.getD k ""):=by
  refine List.filter_congr fun k hk=>?_
  have hk:=List.mem_range.mp hk
  rw[S.rows_at hk]
  show _=(S.card (S.panel.getD k "")).isSome
  cases e:S.card (S.panel.getD k "")with
  | none=>rfl
  | some c=>rw[show(some c).getD ([]:List Int)=c from rfl,decide_eq_false (h.full e)];rfl
 rw[e]
 refine List.map_congr_left fun k _=>?_
 show S.panel.getD ((k:Int)).toNat "" = _
 rw[show((k:Int)).toNat=k by omega]
theorem Sh.into_cards{S:Sh}(h:S.Ok):(zc5 S.rows).map (fun x=>S.rows.getD x.toNat [])=S.cardsIn:=by
 unfold Sh.cardsIn
 rw[← Sh.into_names h,List.map_map]
 refine List.map_congr_left fun x hx=>?_
 have:=zd9 hx
 rw[S.rows_at (by rw[← Sh.rows_len];exact this.2.1)]
 rfl
theorem Sh.into_one{S:Sh}(h:S.Ok){x:Int}(hx:x∈zc5 S.rows):S.card (S.panel.getD x.toNat "")=some (S.rows.getD x.toNat []):=by
 have hm:=zd9 hx
 have e:=S.rows_at (k:=x.toNat) (by rw[← Sh.rows_len];exact hm.2.1)
 cases q:S.card (S.panel.getD x.toNat "")with
 | none=>rw[q] at e;exact absurd e hm.2.2
 | some c=>rw[q] at e;rw[e];rfl
theorem zfy(cs:List (List Int))(i:Nat):(((List.range (i+1)).filter fun k => !decide (cs.getD k [] = [])).map fun(k:Nat)=>(k:Int))=(((List.range i).filter fun k => !decide (cs.getD k [] = [])).map fun(k:Nat)=>(k:Int))++(if cs.getD i [] = [] then [] else [(i:Int)]):=by
 rw[List.range_succ,List.filter_append,List.map_append]
 congr 1
 by_cases h:cs.getD i [] = []
 ·rw[if_pos h,List.filter_cons,if_neg (by rw[decide_eq_true h];decide)];rfl
 ·rw[if_neg h,List.filter_cons,if_pos (by rw[decide_eq_false h];rfl)];rfl
theorem All2.at{α β:Type}{R:α→β→Prop}{as:List α}{bs:List β}(h:All2 R as bs){i:Nat}(hi:i<bs.length)(d:β):∃a,as[i]? = some a∧R a (bs.getD i d):=by
 have e:bs[i]? = some (bs.getD i d):=by rw[List.getD_eq_getElem?_getD,List.getElem?_eq_getElem hi];rfl
 exact h.get e
theorem All2.impM{α β:Type}{R S:α→β→Prop}{as:List α}{bs:List β}(h:All2 R as bs)(f:∀a∈as,∀b,R a b→S a b):All2 S as bs:=by
 induction h with
 | nil=>exact .nil
 | cons r _ ih=>exact .cons (f _ (List.mem_cons_self ..) _ r) (ih fun a ha b=>f a (List.mem_cons_of_mem _ ha) b)
theorem All2.set{α β:Type}{R:α→β→Prop}{as:List α}{bs:List β}(h:All2 R as bs){a:α}{b:β}(r:R a b):∀k,All2 R (as.set k a) (bs.set k b):=by
 induction h with
 | nil=>intro k;exact .nil
 | cons r' h' ih =>
   intro k
   cases k with
   | zero=>exact .cons r h'
   | succ k=>exact .cons r' (ih k)
def Rows(F:Addr→Prop)(H:Hp)(lc:Addr)(ls:List Addr)(cs:List (List Int)):Prop:=H lc=some (.lst (ls.map V.ref))∧¬F lc∧All2 (fun l c=>H l=some (.lst (c.map V.int))∧¬F l) ls cs
theorem Rows.len{F:Addr→Prop}{H:Hp}{lc:Addr}{ls:List Addr}{cs:List (List Int)}(h:Rows F H lc ls cs):ls.length=cs.length:=h.2.2.length
theorem Rows.refs{F:Addr→Prop}{H:Hp}{lc:Addr}{ls:List Addr}{cs:List (List Int)}(K:PySem.W.Frag)(h:Rows F H lc ls cs):zdJ K (IL K) H lc cs:=⟨ls,SqL.of h.1,h.2.2.imp fun _ _ z=>SqL.of z.1⟩
theorem Rows.deed{F F':Addr→Prop}{H H':Hp}{lc:Addr}{ls:List Addr}{cs:List (List Int)}(h:Rows F H lc ls cs)(d:zbG F H F' H'):Rows F' H' lc ls cs :=
 ⟨(d _ _ h.1 h.2.1).1,(d _ _ h.1 h.2.1).2,h.2.2.imp fun _ _ z=>d _ _ z.1 z.2⟩
theorem Rows.same{F:Addr→Prop}{H H':Hp}{lc:Addr}{ls:List Addr}{cs:List (List Int)}(h:Rows F H lc ls cs)(s:zj H H'):Rows F H' lc ls cs:=h.deed (zbG.same s)
theorem All2.memL{α β:Type}{R:α→β→Prop}{as:List α}{bs:List β}(h:All2 R as bs){a:α}(ha:a∈as):∃b,R a b:=by
 induction h with
 | nil=>cases ha
 | cons r _ ih =>
   rcases List.mem_cons.mp ha with e | e
   ·exact⟨_,e ▸ r⟩
   ·exact ih e
theorem Rows.ne{F:Addr→Prop}{H:Hp}{lc:Addr}{ls:List Addr}{cs:List (List Int)}(h:Rows F H lc ls cs){x:Addr}(hx:H x=none):lc≠x∧∀l∈ls,l≠x :=
 ⟨zk h.1 hx,fun l hl=>let ⟨_,z⟩:=h.2.2.memL hl;zk z.1 hx⟩
theorem Rows.put{F:Addr→Prop}{H:Hp}{lc:Addr}{ls:List Addr}{cs:List (List Int)}(h:Rows F H lc ls cs){x:Addr}{o:HO}(n:lc≠x∧∀l∈ls,l≠x):Rows F (upd H x o) lc ls cs :=
 ⟨by rw[zi n.1];exact h.1,h.2.1,h.2.2.impM fun l hl c z=>⟨by rw[zi (n.2 l hl)];exact z.1,z.2⟩⟩
theorem zcY{ls:List Addr}{c:List Int}(h:ls ≠ []):(HO.lst (c.map V.int)) ≠ .lst (ls.map V.ref):=fun z=>by
 injection z with z
 cases ls with
 | nil=>exact h rfl
 | cons l ls=>cases c with
   | nil=>cases z
   | cons x c=>simp at z
theorem Rows.set{F:Addr→Prop}{H:Hp}{lc:Addr}{ls:List Addr}{cs:List (List Int)}(h:Rows F H lc ls cs)(hne:ls ≠ []){m:Addr}{c:List Int}(hm:H m=some (.lst (c.map V.int)))(nm:¬F m)(k:Nat):
 Rows F (upd H lc (.lst ((ls.map V.ref).set k (.ref m)))) lc (ls.set k m) (cs.set k c):=by
 refine⟨by rw[ze,List.map_set],h.2.1,All2.set (h.2.2.imp fun l c z=>⟨?_,z.2⟩) ⟨?_,nm⟩ k⟩
 ·rw[zi (yr z.1 h.1 (zcY hne))];exact z.1
 ·rw[zi (yr hm h.1 (zcY hne))];exact hm
theorem Sh.rows_hand{S:Sh}(h:S.panel.Nodup){k:Nat}(hk:k<S.panel.length)(c:List Int):(S.hand (S.panel.getD k "") c).rows=S.rows.set k c:=by
 unfold Sh.rows
 refine List.ext_getElem (by simp;rfl) fun i h1 h2=>?_
 have hi:i<S.panel.length:=by simpa using h2
 rw[List.getElem_set]
 have e1:((S.hand (S.panel.getD k "") c).panel.map fun j=>((S.hand (S.panel.getD k "") c).card j).getD [])[i]=(if S.panel[i]=S.panel.getD k "" then some c else S.card S.panel[i]).getD []:=by
  rw[List.getElem_map]
  rfl
 rw[e1]
 have ek:S.panel.getD k "" = S.panel[k]:=by rw[List.getD_eq_getElem?_getD,List.getElem?_eq_getElem hk];rfl
 by_cases hki:k=i
 ·subst hki
  rw[if_pos ek.symm,if_pos rfl]
  rfl
 ·rw[if_neg hki,if_neg (fun z=>hki (List.getElem_inj h |>.mp (z.trans ek)).symm),List.getElem_map]
theorem ixN_ok{k:Int}{n:Nat}(h0:0≤k)(h:k.toNat<n):ixN n k=some k.toNat:=by
 unfold ixN
 rw[if_pos h0,if_pos (by omega)]
theorem Sh.rows_strike(S:Sh)(c:Int):(S.strike c).rows=S.rows.map (wo c):=by
 unfold Sh.rows
 rw[List.map_map]
 refine List.map_congr_left fun j _=>?_
 show((S.card j).map (wo c)).getD []=wo c ((S.card j).getD [])
 cases S.card j with
 | none=>rfl
 | some d=>rfl
theorem Sh.rows_le{S:Sh}(h:S.Ok){d:List Int}(hd:d∈S.rows):d.length≤24:=by
 unfold Sh.rows at hd
 obtain⟨j,_,rfl⟩:=List.mem_map.mp hd
 cases e:S.card j with
 | none=>exact Nat.zero_le _
 | some c =>
   have:=(h.cd j c e).2.length_eq
   have:=h.c24
   show c.length≤24
   omega
end L2
namespace M5
open PySem L2 M3
def key(ms:List Int):Nat→List Int
 | 0 => []
 | k+1=>(fun a:List Int=>if a = [] then [] else a ++ [-((got ms ((k:Int)+1)).length:Int),(got ms ((k:Int)+1)).sum])
    (if key ms k = []∧ms.length<2*(got ms ((k:Int)+1)).length then [(k:Int)+1] else key ms k)
def zE(cs:List (List Int))(c:Int):List Int:=cs.map fun card=>(card.idxOf c:Int)+1
def zdu(cs:List (List Int))(us:List Int):List (List Int):=us.map fun c=>key (zE cs c) us.length
def zc6(rs:List (List Int))(m:List Int):Nat:=(rs.filter fun r=>HT.lexLt r m).length
def zi8(cs:List (List Int))(us:List Int):List Int:=(zdu cs us).map fun m=>1+(zc6 (zdu cs us) m:Int)
def rows(ps us:List Int):List (Int × Int):=(List.range us.length).flatMap fun(i:Nat)=>(ps.zip us).filter fun p=>decide (p.1=(i:Int)+1)
theorem zi7(ms:List Int):∀k,(key ms k).length≤1+2*k
 | 0=>Nat.zero_le _
 | k+1=>by
   have ih:=zi7 ms k
   unfold key
   dsimp only
   have go:∀a:List Int,a.length≤1+2*k→(if a = [] then [] else a ++ [-((got ms ((k:Int)+1)).length:Int),(got ms ((k:Int)+1)).sum]).length≤1+2*(k+1):=fun a h=>by
    split
    ·simp
    ·rw[List.length_append,List.length_cons,List.length_cons,List.length_nil];omega
   refine go _ ?_
   split
   ·rw[List.length_cons,List.length_nil];omega
   ·exact ih
theorem zap(cs:List (List Int))(c:Int):(zE cs c).length=cs.length:=by unfold zE;simp
end M5
namespace M6
open PySem L2 M3 M5
abbrev Sg:=Option (Int × Int)
def sg(a:List Int)(k:Int):Sg:=if a.length<2*cnt a k then some ((cnt a k:Int),sm a k)else none
def olt:Sg→Sg→Bool
 | some _,none=>true
 | none,_=>false
 | some p,some q=>decide (q.1<p.1) || (decide (p.1=q.1) && decide (p.2<q.2))
def yw:List Sg→List Sg→Bool
 | x::xs,y::ys=>if x=y then yw xs ys else olt x y
 | _,_=>false
def zaF(a:List Int)(n:Nat):List Sg:=(List.range n).map fun(i:Nat)=>sg a ((i:Int)+1)
def y7(a b:List Int)(n:Nat):Bool:=yw (zaF a n) (zaF b n)
theorem zcK(k:Nat)(x:Sg)(xs ys:List Sg):yw (List.replicate k x++xs) (List.replicate k x++ys)=yw xs ys:=by
 induction k with
 | zero=>rfl
 | succ k ih=>rw[List.replicate_succ,List.cons_append,List.cons_append,yw,if_pos rfl];exact ih
def tl(a:List Int)(f m:Nat):List Int:=(List.range m).flatMap fun(i:Nat) => [-(cnt a ((f:Int)+i):Int),sm a ((f:Int)+i)]
theorem ziV(a:List Int)(f m:Nat):tl a f (m+1)=tl a f m ++ [-(cnt a ((f:Int)+m):Int),sm a ((f:Int)+m)]:=by
 unfold tl;rw[List.range_succ,List.flatMap_append];simp
theorem zhV{a:List Int}:∀{k:Nat},(∀j:Nat,j≤k→1≤j→2*cnt a j≤a.length)→key a k = []
 | 0,_=>rfl
 | k+1,h=>by
   have ih:=zhV (a:=a) (k:=k) fun j hj h1=>h j (by omega) h1
   have hk:=h (k+1) (Nat.le_refl _) (by omega)
   have e:((k+1:Nat):Int)=(k:Int)+1:=by omega
   rw[e] at hk
   unfold cnt at hk
   unfold key
   rw[ih,if_neg (fun z=>absurd z.2 (by omega))]
   rfl
theorem zfs{a:List Int}{f:Nat}(h1:1≤f)(hf:isF a f):∀m:Nat,key a (f+m)=(f:Int)::tl a f (m+1)
 | 0=>by
   obtain⟨g,rfl⟩:∃g,f=g+1:=⟨f - 1,by omega⟩
   have e:((g+1:Nat):Int)=(g:Int)+1:=by omega
   have hlow:key a g = []:=zhV fun j hj hj1=>by
    have:=zbC (ms:=a) (show(j:Int)≤((g+1:Nat):Int) - 1 by omega)
    have:=hf.2
    omega
   have hov:=hf.1
   rw[e] at hov
   unfold cnt at hov
   show key a (g+1)=_
   unfold key
   rw[hlow,if_pos ⟨rfl,hov⟩,ziV]
   have e0:((g+1:Nat):Int)+((0:Nat):Int)=(g:Int)+1:=by omega
   rw[e0,e]
   rfl
 | m+1=>by
   have ih:=zfs h1 hf m
   show key a ((f+m)+1)=_
   unfold key
   rw[ih,if_neg (fun z=>by cases z.1),ziV a f (m+1)]
   have e:((f+m:Nat):Int)+1=(f:Int)+((m+1:Nat):Int):=by omega
   rw[e]
   rfl
theorem ziU{a:List Int}{k:Int}(h:2*cnt a k≤a.length):sg a k=none:=by unfold sg;rw[if_neg (by omega)]
theorem ziQ{a:List Int}{k:Int}(h:a.length<2*cnt a k):sg a k=some ((cnt a k:Int),sm a k):=by unfold sg;rw[if_pos h]
theorem zgh{a:List Int}{f m:Nat}(h1:1≤f)(hf:isF a f):zaF a (f+m)=List.replicate (f - 1) none++(List.range (m+1)).map fun(i:Nat)=>some ((cnt a ((f:Int)+i):Int),sm a ((f:Int)+i)):=by
 refine List.ext_getElem ?_ fun i hi1 hi2=>?_
 ·unfold zaF;simp;omega
 ·have hi:i<f+m:=by unfold zaF at hi1;simpa using hi1
  have e1:(zaF a (f+m))[i]=sg a ((i:Int)+1):=by
   have:(zaF a (f+m))[i]? = some (sg a ((i:Int)+1)):=by
    show((List.range (f+m)).map fun(i:Nat)=>sg a ((i:Int)+1))[i]? = _
    rw[List.getElem?_map,List.getElem?_range hi]
    rfl
   rw[List.getElem?_eq_getElem hi1] at this
   exact Option.some.inj this
  rw[e1]
  by_cases c:i<f - 1
  ·rw[List.getElem_append_left (by simpa using c),List.getElem_replicate]
   refine ziU ?_
   have:=zbC (ms:=a) (show(i:Int)+1≤(f:Int) - 1 by omega)
   have:=hf.2
   omega
  ·rw[List.getElem_append_right (by simpa using c)]
   simp only[List.length_replicate,List.getElem_map,List.getElem_range]
   have e2:(f:Int)+((i - (f - 1):Nat):Int)=(i:Int)+1:=by omega
   rw[e2]
   refine ziQ ?_
   have:=zbC (ms:=a) (show(f:Int)≤(i:Int)+1 by omega)
   have:=hf.1
   omega
theorem zgm(c s c' s':Nat→Int):∀(m j:Nat),HT.lexLt ((List.range' j m).flatMap fun(i:Nat) => [-c i,s i]) ((List.range' j m).flatMap fun(i:Nat) => [-c' i,s' i])=yw ((List.range' j m).map fun(i:Nat)=>some (c i,s i)) ((List.range' j m).map fun(i:Nat)=>some (c' i,s' i))
 | 0,j=>rfl
 | m+1,j=>by
   rw[List.range'_succ,List.flatMap_cons,List.flatMap_cons,List.map_cons,List.map_cons]
   show HT.lexLt (-c j::s j::_) (-c' j::s' j::_)=_
   rw[HT.lexLt_cons,HT.lexLt_cons,yw,← zgm c s c' s' m (j+1)]
   by_cases h1:c j=c' j
   ·rw[if_pos (by rw[h1])]
    by_cases h2:s j=s' j
    ·rw[if_pos h2,if_pos (by rw[h1,h2])];rfl
    ·rw[if_neg h2,if_neg (fun z=>h2 (by injection z with z;exact(Prod.mk.inj z).2))]
     show _=(decide (c' j<c j) || (decide (c j=c' j) && decide (s j<s' j)))
     rw[decide_eq_false (show ¬c' j<c j by omega),decide_eq_true h1]
     rfl
   ·rw[if_neg (fun z=>h1 (by omega)),if_neg (fun z=>h1 (by injection z with z;exact(Prod.mk.inj z).1))]
    show _=(decide (c' j<c j) || (decide (c j=c' j) && decide (s j<s' j)))
    rw[decide_eq_false h1,Bool.false_and,Bool.or_false]
    by_cases h3:c' j<c j
    ·rw[decide_eq_true h3,decide_eq_true (by omega)]
    ·rw[decide_eq_false h3,decide_eq_false (by omega)]
theorem ziS{α:Type}(m n:Nat)(x:α):List.replicate (m+n) x=List.replicate m x++List.replicate n x:=by simp
theorem zjx{a b:List Int}{f g n:Nat}(hf1:1≤f)(hg1:1≤g)(hf:isF a f)(hg:isF b g)(hfn:f≤n)(hgn:g≤n):HT.lexLt (key a n) (key b n)=y7 a b n:=by
 obtain⟨m,rfl⟩:∃m,n=f+m:=⟨n - f,by omega⟩
 obtain⟨k,hk⟩:∃k,f+m=g+k:=⟨f+m - g,by omega⟩
 unfold y7
 rw[zfs hf1 hf m,zgh hf1 hf]
 rw[hk,zfs hg1 hg k,zgh hg1 hg,HT.lexLt_cons]
 rcases Nat.lt_trichotomy f g with h | h | h
 ·rw[if_neg (by omega),decide_eq_true (show(f:Int)<g by omega)]
  obtain⟨d,hd⟩:∃d,g - 1=(f - 1)+(d+1):=⟨g - 1 - (f - 1) - 1,by omega⟩
  rw[hd,ziS,List.append_assoc,zcK,List.range_succ_eq_map,List.map_cons,List.replicate_succ,List.cons_append,yw,if_neg (by intro z;cases z)]
  rfl
 ·subst h
  have:k=m:=by omega
  subst this
  rw[if_pos rfl,zcK]
  have:=zgm (fun i=>(cnt a ((f:Int)+i):Int)) (fun i=>sm a ((f:Int)+i)) (fun i=>(cnt b ((f:Int)+i):Int)) (fun i=>sm b ((f:Int)+i)) (k+1) 0
  rw[← List.range_eq_range'] at this
  exact this
 ·rw[if_neg (by omega),decide_eq_false (show ¬(f:Int)<g by omega)]
  obtain⟨d,hd⟩:∃d,f - 1=(g - 1)+(d+1):=⟨f - 1 - (g - 1) - 1,by omega⟩
  rw[hd,ziS,List.append_assoc,zcK,List.range_succ_eq_map (n:=k),List.map_cons,List.replicate_succ,List.cons_append,yw,if_neg (by intro z;cases z)]
  rfl
theorem exF{a:List Int}(hlo:∀x∈a,1≤x):∀n:Nat,a.length<2*cnt a n→∃f:Nat,1≤f∧f≤n∧isF a f
 | 0,h=>by
   have:=zgT (ms:=a) (n:=((0:Nat):Int)) fun x hx=>by have:=hlo x hx;omega
   omega
 | n+1,h=>by
   by_cases c:a.length<2*cnt a n
   ·obtain⟨f,h1,h2,h3⟩:=exF hlo n c
    exact⟨f,h1,by omega,h3⟩
   ·refine⟨n+1,by omega,Nat.le_refl _,h,?_⟩
    have e:((n+1:Nat):Int) - 1=(n:Int):=by omega
    rw[e]
    omega
theorem zh6{a:List Int}{n:Nat}(hne:a ≠ [])(h:∀x∈a,1≤x∧x≤n):∃f:Nat,1≤f∧f≤n∧isF a f :=
 exF (fun x hx=>(h x hx).1) n (by
  rw[zeZ fun x hx=>(h x hx).2]
  have:=List.length_pos_iff.mpr hne
  omega)
theorem zi2{a:List Int}{n k:Int}(h:∀x∈a,x≤n)(hk:n≤k):sg a k=sg a n:=by
 have e:got a k=got a n:=by
  unfold got
  exact List.filter_congr fun x hx=>by
   have:=h x hx
   rw[decide_eq_true (by omega),decide_eq_true this]
 unfold sg cnt sm
 rw[e]
theorem zf2(a:List Int)(n:Nat):zaF a (n+1)=zaF a n ++ [sg a ((n:Int)+1)]:=by unfold zaF;rw[List.range_succ,List.map_append];rfl
theorem zdv(a:List Int)(n:Nat):(zaF a n).length=n:=by unfold zaF;simp
theorem zdM:∀{xs ys:List Sg} {x y:Sg},xs.length=ys.length→(x=y∨xs≠ys)→yw (xs ++ [x]) (ys ++ [y])=yw xs ys
 | [],[],x,y,_,h=>by
   rcases h with h | h
   ·subst h;show(if x=x then false else olt x x)=false;rw[if_pos rfl]
   ·exact absurd rfl h
 | p::xs,q::ys,x,y,hl,h=>by
   rw[List.cons_append,List.cons_append,yw,yw]
   by_cases e:p=q
   ·subst e
    rw[if_pos rfl,if_pos rfl]
    exact zdM (by simpa using hl) (h.imp id fun z w=>z (by rw[w]))
   ·rw[if_neg e,if_neg e]
theorem zda{a b:List Int}{n:Nat}(h1:1≤n)(ha:∀x∈a,x≤n)(hb:∀x∈b,x≤n):∀k,y7 a b (n+k)=y7 a b n
 | 0=>rfl
 | k+1=>by
   rw[← zda h1 ha hb k]
   show yw (zaF a ((n+k)+1)) (zaF b ((n+k)+1))=_
   rw[zf2,zf2]
   refine zdM (by rw[zdv,zdv]) ?_
   by_cases e:zaF a (n+k)=zaF b (n+k)
   ·left
    have:(zaF a (n+k))[n - 1]? = (zaF b (n+k))[n - 1]? := by rw[e]
    unfold zaF at this
    rw[List.getElem?_map,List.getElem?_map,List.getElem?_range (by omega)] at this
    have this:sg a (((n - 1:Nat):Int)+1)=sg b (((n - 1:Nat):Int)+1):=Option.some.inj this
    have en:((n - 1:Nat):Int)+1=(n:Int):=by omega
    rw[en] at this
    rw[zi2 ha (by omega),zi2 hb (by omega)]
    exact this
   ·exact .inr e
theorem zjO{a b:List Int}{n m:Nat}(h1:1≤n)(hm:1≤m)(ha:∀x∈a,x≤n∧x≤m)(hb:∀x∈b,x≤n∧x≤m):y7 a b n=y7 a b m:=by
 rcases Nat.le_total n m with h | h
 ·obtain⟨k,rfl⟩:=Nat.exists_eq_add_of_le h
  exact(zda h1 (fun x hx=>(ha x hx).1) (fun x hx=>(hb x hx).1) k).symm
 ·obtain⟨k,rfl⟩:=Nat.exists_eq_add_of_le h
  exact zda hm (fun x hx=>(ha x hx).2) (fun x hx=>(hb x hx).2) k
def word:Sg→Sg→Str
 | some p,some q=>if p.1=q.1 then "sum" else "count"
 | _,_=> "half"
def zcB(a b:List Int)(n:Nat):Option (Nat × Str)→Prop
 | none=>∀k:Nat,1≤k→k≤n→sg a k=sg b k
 | some r=>1≤r.1∧r.1≤n∧(∀j:Nat,1≤j→j<r.1→sg a j=sg b j)∧sg a r.1≠sg b r.1∧r.2=word (sg a r.1) (sg b r.1)
theorem zft:∀{xs ys:List Sg} (k:Nat) (h1:k<xs.length) (h2:k<ys.length),(∀j,j<k→xs[j]? = ys[j]?)→xs[k]≠ys[k]→yw xs ys=olt xs[k] ys[k]
 | x::xs,y::ys,0,_,_,_,hne=>by rw[yw,if_neg (show ¬x=y from hne)];rfl
 | x::xs,y::ys,k+1,h1,h2,he,hne=>by
   have e:x=y:=by have:=he 0 (by omega);simpa using this
   rw[yw,if_pos e]
   exact zft k (by simpa using h1) (by simpa using h2) (fun j hj=>by have:=he (j+1) (by omega);simpa using this) (by simpa using hne)
theorem zdy:∀(xs:List Sg),yw xs xs=false
 | []=>rfl
 | x::xs=>by rw[yw,if_pos rfl];exact zdy xs
theorem zeK(a:List Int){n k:Nat}(h:k<n):(zaF a n)[k]? = some (sg a ((k:Int)+1)):=by
 unfold zaF
 rw[List.getElem?_map,List.getElem?_range h]
 rfl
theorem zim{a b:List Int}{n:Nat}(h:zcB a b n none):y7 a b n=false:=by
 have e:zaF a n=zaF b n:=by
  unfold zaF
  refine List.map_congr_left fun i hi=>?_
  have hi:=List.mem_range.mp hi
  have:=h (i+1) (by omega) (by omega)
  have ei:((i+1:Nat):Int)=(i:Int)+1:=by omega
  rw[ei] at this
  exact this
 unfold y7
 rw[e]
 exact zdy _
theorem zdp{a b:List Int}{n:Nat}{r:Nat × Str}(h:zcB a b n (some r)):y7 a b n=olt (sg a r.1) (sg b r.1):=by
 obtain⟨k,w⟩:=r
 obtain⟨a1,a2,a3,a4,a5⟩:=h
 dsimp only at a1 a2 a3 a4 a5 ⊢
 obtain⟨j,rfl⟩:∃j,k=j+1:=⟨k - 1,by omega⟩
 have ej:((j+1:Nat):Int)=(j:Int)+1:=by omega
 have l1:j<(zaF a n).length:=by rw[zdv];omega
 have l2:j<(zaF b n).length:=by rw[zdv];omega
 have g1:(zaF a n)[j]=sg a ((j+1:Nat):Int):=by
  have:=zeK a (n:=n) (k:=j) (by omega)
  rw[List.getElem?_eq_getElem l1] at this
  rw[ej];exact Option.some.inj this
 have g2:(zaF b n)[j]=sg b ((j+1:Nat):Int):=by
  have:=zeK b (n:=n) (k:=j) (by omega)
  rw[List.getElem?_eq_getElem l2] at this
  rw[ej];exact Option.some.inj this
 unfold y7
 rw[zft j l1 l2 (fun i hi=>?_) (by rw[g1,g2];exact a4),g1,g2]
 rw[zeK a (by omega),zeK b (by omega)]
 have:=a3 (i+1) (by omega) (by omega)
 have ei:((i+1:Nat):Int)=(i:Int)+1:=by omega
 rw[ei] at this
 rw[this]
end M6
namespace L2
open PySem
end L2
namespace M6
open PySem L2 M3 M5
def wg(cs:List (List Int))(us:List Int):List Int:=us.map fun c=>1+((us.filter fun d=>y7 (zE cs d) (zE cs c) us.length).length:Int)
theorem zav{cs:List (List Int)}{us:List Int}{c:Int}(hp:∀d∈cs,d.Perm us)(hc:c∈us):∀x∈zE cs c,1≤x∧x≤us.length:=fun x hx=>by
 unfold zE at hx
 obtain⟨d,hd,rfl⟩:=List.mem_map.mp hx
 have h:=hp d hd
 have:d.idxOf c<d.length:=List.idxOf_lt_length_of_mem (h.mem_iff.mpr hc)
 have:=h.length_eq
 omega
theorem zh5{cs:List (List Int)}{c:Int}(h:1≤cs.length):zE cs c ≠ []:=fun e=>by
 have:=zap cs c
 rw[e] at this
 simp at this
 omega
theorem key_cs{cs:List (List Int)}{us:List Int}{c d:Int}(hp:∀d∈cs,d.Perm us)(h1:1≤cs.length)(hc:c∈us)(hd:d∈us):HT.lexLt (key (zE cs c) us.length) (key (zE cs d) us.length)=y7 (zE cs c) (zE cs d) us.length:=by
 obtain⟨f,f1,f2,f3⟩:=zh6 (zh5 h1) (zav hp hc)
 obtain⟨g,g1,g2,g3⟩:=zh6 (zh5 h1) (zav hp hd)
 exact zjx f1 g1 f3 g3 f2 g2
theorem zdt{cs:List (List Int)}{us:List Int}(hp:∀d∈cs,d.Perm us)(h1:1≤cs.length):zi8 cs us=wg cs us:=by
 unfold zi8 wg zdu
 rw[List.map_map]
 refine List.map_congr_left fun c hc=>?_
 show 1+(M5.zc6 (us.map fun c=>key (zE cs c) us.length) (key (zE cs c) us.length):Int)=_
 unfold M5.zc6
 rw[List.filter_map,List.length_map]
 congr 3
 exact List.filter_congr fun d hd=>key_cs hp h1 hd hc
theorem zdn(cs:List (List Int))(us:List Int):(wg cs us).length=us.length:=by unfold wg;simp
def zbf(ms:List Int)(n:Nat):List (Int × Int):=(List.range n).map fun(i:Nat)=>((cnt ms ((i:Int)+1):Int),sm ms ((i:Int)+1))
theorem zeo(ms:List Int)(n:Nat):zbf ms (n+1)=zbf ms n ++ [((cnt ms ((n:Int)+1):Int),sm ms ((n:Int)+1))]:=by unfold zbf;rw[List.range_succ,List.map_append];rfl
theorem zdf(ms:List Int)(n:Nat):(zbf ms n).length=n:=by unfold zbf;simp
theorem zjF(p q:Sg):word p q=word q p:=by
 cases p with
 | none=>cases q <;> rfl
 | some p=>cases q with
   | none=>rfl
   | some q =>
     show(if p.1=q.1 then("sum" : Str)else("count" : Str))=if q.1=p.1 then("sum" : Str)else("count" : Str)
     by_cases h:p.1=q.1
     ·rw[if_pos h,if_pos h.symm]
     ·rw[if_neg h,if_neg fun z=>h z.symm]
theorem zhe{a b:List Int}{n:Nat}{r:Option (Nat × Str)}(h:zcB a b n r):zcB b a n r:=by
 cases r with
 | none=>exact fun k h1 h2=>(h k h1 h2).symm
 | some r=>exact⟨h.1,h.2.1,fun j h1 h2=>(h.2.2.1 j h1 h2).symm,fun z=>h.2.2.2.1 z.symm,by rw[zjF];exact h.2.2.2.2⟩
end M6
namespace L2
open PySem
end L2
namespace M3
open PySem L2
theorem zhJ{a b:List Int}(h:a.Perm b)(n:Int):cnt a n=cnt b n:=(h.filter _).length_eq
theorem zfg(a b:List Int)(n:Int):cnt (a++b) n=cnt a n+cnt b n:=by
 unfold cnt got
 rw[List.filter_append,List.length_append]
theorem isF_perm{a b:List Int}(h:a.Perm b){f:Int}(hf:isF a f):isF b f:=by
 unfold isF at *
 rw[← zhJ h,← zhJ h,← h.length_eq]
 exact hf
theorem zih{ns:List Int}(hs:ns.Pairwise (·≤ ·))(hne:ns ≠ []):isF ns (ns.getD (ns.length/2) 0):=by
 have hn:=List.length_pos_iff.mpr hne
 have hk:ns.length/2<ns.length:=by omega
 generalize hK:ns.length/2=k at hk ⊢
 have e:ns=ns.take k++ns.drop k:=(List.take_append_drop k ns).symm
 have ed:ns.drop k=ns.getD k 0::ns.drop (k+1):=by rw[zeL hk];exact List.drop_eq_getElem_cons hk
 generalize ns.getD k 0=f at ed ⊢
 have lt:(ns.take k).length=k:=by rw[List.length_take];omega
 rw[e] at hs
 obtain⟨h1,h2,h3⟩:=List.pairwise_append.mp hs
 rw[ed] at h2 h3
 have h4:=List.pairwise_cons.mp h2
 unfold isF
 constructor
 ·have a1:cnt (ns.take k) f=k:=by rw[zeZ fun x hx=>h3 x hx f (List.mem_cons_self ..),lt]
  have a2:1≤cnt (ns.drop k) f:=by
   rw[ed]
   unfold cnt got
   rw[List.filter_cons,if_pos (decide_eq_true (Int.le_refl f)),List.length_cons]
   omega
  have a3:cnt ns f=cnt (ns.take k) f+cnt (ns.drop k) f:=by rw[← zfg,← e]
  omega
 ·have a1:=zcC (ns.take k) (f - 1)
  have a2:cnt (ns.drop k) (f - 1)=0:=by
   refine zgT fun x hx=>?_
   rw[ed] at hx
   rcases List.mem_cons.mp hx with z | z
   ·omega
   ·have:=h4.1 x z;omega
  have a3:cnt ns (f - 1)=cnt (ns.take k) (f - 1)+cnt (ns.drop k) (f - 1):=by rw[← zfg,← e]
  omega
end M3
namespace M13
open PySem L2 M2
theorem ziH{α:Type} [DecidableEq α]:∀{l m:List α},l.Nodup→(∀x∈l,x∈m)→l.length≤m.length
 | [],_,_,_=>Nat.zero_le _
 | a::l,m,nd,h=>by
   have hn:=List.nodup_cons.mp nd
   have:=ziH (l:=l) (m:=m.erase a) hn.2 fun x hx=>(List.mem_erase_of_ne (fun e=>hn.1 (by rw[← e];exact hx))).mpr (h x (List.mem_cons_of_mem _ hx))
   have hm:=h a (List.mem_cons_self ..)
   rw[List.length_erase_of_mem hm] at this
   have:=List.length_pos_of_mem hm
   rw[List.length_cons]
   omega
def tx(l:List Nat):Str:=⟨l.toArray⟩
theorem tx_inj{a b:List Nat}(h:tx a=tx b):a=b:=by
 have:=congrArg (fun s:Str=>s.cps.toList) h
 simpa [tx] using this
theorem zdX(l:List Nat):(tx l).length=l.length:=by show l.toArray.size=_;simp
theorem tx_add(l:List Nat)(c:Nat):tx l++⟨#[c]⟩=tx (l ++ [c]):=by
 show(⟨l.toArray ++ #[c]⟩:Str)=⟨(l ++ [c]).toArray⟩
 congr 1
 simp
theorem tx_cut(b:List Nat)(c:Nat):PySem.Txt.slice (tx (b ++ [c])) none (some (-1))=tx b:=by
 have hl:(tx (b ++ [c])).length=b.length+1:=by rw[zdX];simp
 have e:Builtin.Str.strSliceIndices none (some (-1)) 1 (b.length+1)=List.range b.length:=by
  have h3:∀x:Int,x=(b.length:Int)→List.map (fun(k:Nat)=>((0:Int)+1*(k:Int)).toNat) (List.range (if(0:Int)<x then(x - 0+1 - 1)/1 else 0).toNat)=List.range b.length:=fun x hx=>by
   have e1:(if(0:Int)<x then(x - 0+1 - 1)/1 else 0).toNat=b.length:=by
    split
    ·rw[Int.ediv_one];omega
    ·omega
   rw[e1]
   conv=>rhs;rw[← List.map_id (List.range b.length)]
   refine List.map_congr_left fun k _=>?_
   show(0+1*(k:Int)).toNat=k
   omega
  exact h3 (max 0 (min (-1+((b.length+1:Nat):Int)) ((b.length+1:Nat):Int))) (by omega)
 unfold PySem.Txt.slice
 rw[hl,e,if_neg (by simp)]
 unfold tx
 congr 2
 show List.filterMap (fun i=>(b ++ [c]).toArray[i]?) (List.range b.length)=b
 have:List.filterMap (fun i=>(b ++ [c]).toArray[i]?) (List.range b.length)=(List.range b.length).map fun i=>b.getD i 0:=by
  have go:∀n,n≤b.length→List.filterMap (fun i=>(b ++ [c]).toArray[i]?) (List.range n)=(List.range n).map fun i=>b.getD i 0:=fun n=>by
   induction n with
   | zero=>intro _;rfl
   | succ n ih =>
     intro hn
     rw[List.range_succ,List.filterMap_append,List.map_append,ih (by omega)]
     congr 1
     have:(b ++ [c]).toArray[n]? = some (b.getD n 0):=by
      rw[List.getElem?_toArray,List.getElem?_append_left (by omega),List.getD_eq_getElem?_getD,List.getElem?_eq_getElem (by omega)]
      rfl
     show List.filterMap (fun i=>(b ++ [c]).toArray[i]?) [n] = [b.getD n 0]
     rw[List.filterMap_cons,this]
     rfl
  exact go _ (Nat.le_refl _)
 rw[this]
 refine List.ext_getElem (by simp) fun i h1 h2=>?_
 simp[h2]
theorem find_abc(k:Fin 26):PySem.Txt.find abc ⟨#[97+k.val]⟩=(k.val:Int):=by
 revert k
 decide +kernel
def wR(b:List Nat)(t s:Nat):Str:=tx (b ++ [97+(t+s)%26])
theorem turn_inj{b:List Nat}{t s s':Nat}(h:s<26)(h':s'<26)(e:wR b t s=wR b t s'):s=s':=by
 have:=tx_inj e
 have:=List.append_cancel_left this
 have:=(List.cons.inj this).1
 omega
theorem zgg{b:List Nat}{t:Nat}{ts:List Str}(h:∀s,s<26→wR b t s∈ts):26≤ts.length:=by
 have nd:((List.range 26).map (wR b t)).Nodup:=by
  refine List.pairwise_map.mpr (List.Pairwise.imp_of_mem (fun {i j} hi hj hlt e=>?_) (List.pairwise_lt_range (n:=26)))
  have:=turn_inj (List.mem_range.mp hi) (List.mem_range.mp hj) e
  omega
 have sub:((List.range 26).map (wR b t)) ⊆ ts:=fun x hx=>by
  obtain⟨s,hs,rfl⟩:=List.mem_map.mp hx
  exact h s (List.mem_range.mp hs)
 have:=ziH nd sub
 simpa using this
end M13
namespace M6
open PySem L2 M3 M5
def zhi(a b:List Int)(f:Int):Option Int→Prop
 | none=>∀k,f≤k→cnt a k=cnt b k∧sm a k=sm b k
 | some n=>f≤n∧n≤24∧(∀j,f≤j→j<n→cnt a j=cnt b j∧sm a j=sm b j)∧¬(cnt a n=cnt b n∧sm a n=sm b n)
theorem zbS{a:List Int}{f j:Int}(hf:isF a f)(hj:j<f):sg a j=none:=by
 refine ziU ?_
 have:=zbC (ms:=a) (show j≤f - 1 by omega)
 have:=hf.2
 omega
theorem zb2{a:List Int}{f j:Int}(hf:isF a f)(hj:f≤j):sg a j=some ((cnt a j:Int),sm a j):=by
 refine ziQ ?_
 have:=zbC (ms:=a) hj
 have:=hf.1
 omega
theorem ziJ{a b:List Int}{f g:Int}(hf:isF a f)(hg:isF b g)(h:f<g)(h1:1≤f)(h2:f≤24):zcB a b 24 (some (f.toNat,"half")):=by
 have e:((f.toNat:Nat):Int)=f:=by omega
 refine⟨by dsimp only;omega,by dsimp only;omega,fun j j1 j2=>?_,?_,?_⟩
 ·dsimp only at j2
  rw[zbS hf (by omega),zbS hg (by omega)]
 ·dsimp only
  rw[e,zb2 hf (Int.le_refl _),zbS hg h]
  exact fun z=>nomatch z
 ·dsimp only
  rw[e,zb2 hf (Int.le_refl _),zbS hg h]
  rfl
theorem part_gt{a b:List Int}{f g:Int}(hf:isF a f)(hg:isF b g)(h:g<f)(h1:1≤g)(h2:g≤24):zcB a b 24 (some (g.toNat,"half")):=zhe (ziJ hg hf h h1 h2)
theorem zjv{a b:List Int}{f:Int}(hf:isF a f)(hg:isF b f)(h:zhi a b f none):zcB a b 24 none:=fun k k1 k2=>by
 by_cases c:(k:Int)<f
 ·rw[zbS hf c,zbS hg c]
 ·obtain⟨e1,e2⟩:=h k (by omega)
  rw[zb2 hf (by omega),zb2 hg (by omega),e1,e2]
theorem zjC{a b:List Int}{f n:Int}(hf:isF a f)(hg:isF b f)(h1:1≤f)(h:zhi a b f (some n)):zcB a b 24 (some (n.toNat,if(cnt a n:Int)=cnt b n then "sum" else "count")):=by
 obtain⟨a1,a2,a3,a4⟩:=h
 have e:((n.toNat:Nat):Int)=n:=by omega
 refine⟨by dsimp only;omega,by dsimp only;omega,fun j j1 j2=>?_,?_,?_⟩
 ·dsimp only at j2
  by_cases c:(j:Int)<f
  ·rw[zbS hf c,zbS hg c]
  ·obtain⟨e1,e2⟩:=a3 j (by omega) (by omega)
   rw[zb2 hf (by omega),zb2 hg (by omega),e1,e2]
 ·dsimp only
  rw[e,zb2 hf a1,zb2 hg a1]
  intro z
  injection z with z
  injection z with z1 z2
  exact a4 ⟨by omega,z2⟩
 ·dsimp only
  rw[e,zb2 hf a1,zb2 hg a1]
  rfl
theorem ahead_lt{a b:List Int}{f g:Int}(hf:isF a f)(hg:isF b g)(h:f<g)(h1:1≤f)(h2:f≤24):y7 a b 24=true:=by
 rw[zdp (ziJ hf hg h h1 h2)]
 dsimp only
 have e:((f.toNat:Nat):Int)=f:=by omega
 rw[e,zb2 hf (Int.le_refl _),zbS hg h]
 rfl
theorem ahead_gt{a b:List Int}{f g:Int}(hf:isF a f)(hg:isF b g)(h:g<f)(h1:1≤g)(h2:g≤24):y7 a b 24=false:=by
 rw[zdp (part_gt hf hg h h1 h2)]
 dsimp only
 have e:((g.toNat:Nat):Int)=g:=by omega
 rw[e,zbS hf h]
 rfl
theorem ahead_at{a b:List Int}{f n:Int}(hf:isF a f)(hg:isF b f)(h1:1≤f)(h:zhi a b f (some n)):y7 a b 24=if(cnt a n:Int)=cnt b n then decide (sm a n<sm b n)else decide ((cnt b n:Int)<cnt a n):=by
 rw[zdp (zjC hf hg h1 h)]
 dsimp only
 have e:((n.toNat:Nat):Int)=n:=by have:=h.1;omega
 rw[e,zb2 hf h.1,zb2 hg h.1]
 show(decide ((cnt b n:Int)<cnt a n) || (decide ((cnt a n:Int)=cnt b n) && decide (sm a n<sm b n)))=_
 by_cases c:(cnt a n:Int)=cnt b n
 ·rw[if_pos c,decide_eq_true c,decide_eq_false (show ¬(cnt b n:Int)<cnt a n by omega)]
  rfl
 ·rw[if_neg c,decide_eq_false c,Bool.false_and,Bool.or_false]
theorem zif{a b:List Int}{f M:Int}(ha:∀x∈a,x≤M)(hb:∀x∈b,x≤M)(hM:f≤M)(h:∀j,f≤j→j≤M→cnt a j=cnt b j∧sm a j=sm b j):zhi a b f none:=fun k hk=>by
 by_cases c:k≤M
 ·exact h k hk c
 ·have ea:got a k=got a M:=by
   unfold got
   exact List.filter_congr fun x hx=>by have:=ha x hx;rw[decide_eq_true (by omega),decide_eq_true this]
  have eb:got b k=got b M:=by
   unfold got
   exact List.filter_congr fun x hx=>by have:=hb x hx;rw[decide_eq_true (by omega),decide_eq_true this]
  have:=h M hM (Int.le_refl _)
  unfold cnt sm at *
  rw[ea,eb]
  exact this
theorem zjH{cs:List (List Int)}{us:List Int}(hp:∀d∈cs,d.Perm us)(h1:1≤us.length)(h24:us.length≤24):wg cs us=us.map fun c=>1+(((us.map (zE cs)).filter fun r=>y7 r (zE cs c) 24).length:Int):=by
 unfold wg
 refine List.map_congr_left fun c hc=>?_
 rw[List.filter_map,List.length_map]
 congr 3
 refine List.filter_congr fun d hd=>?_
 refine zjO h1 (by omega) (fun x hx=>?_) (fun x hx=>?_)
 ·have:=zav hp hd x hx;omega
 ·have:=zav hp hc x hx;omega
end M6
namespace L2
open PySem
theorem Sh.cardsIn_perm{S:Sh}(ok:S.Ok):∀d∈S.cardsIn,d.Perm S.couples:=fun d hd=>by
 obtain⟨j,hj,rfl⟩:=List.mem_map.mp hd
 have h2:=(List.mem_filter.mp hj).2
 cases e:S.card j with
 | none=>rw[e] at h2;cases h2
 | some c=>exact(ok.cd j c e).2
theorem Sh.cardsIn_len(S:Sh):S.cardsIn.length=S.handed.length:=by unfold Sh.cardsIn;simp
def Sh.cardsWo(S:Sh)(j:Str):List (List Int):=(S.handed.filter fun i => !decide (i=j)).map fun i=>(S.card i).getD []
theorem Sh.cardsWo_perm{S:Sh}(ok:S.Ok)(j:Str):∀d∈S.cardsWo j,d.Perm S.couples:=fun d hd=>by
 obtain⟨i,hi,rfl⟩:=List.mem_map.mp hd
 exact Sh.cardsIn_perm ok _ (List.mem_map_of_mem (List.mem_filter.mp hi).1)
theorem Sh.row_some{S:Sh}(ok:S.Ok)(j:Str):(!decide ((S.card j).getD [] = []))=(S.card j).isSome:=by
 cases e:S.card j with
 | none=>rfl
 | some c=>rw[show(some c).getD ([]:List Int)=c from rfl,decide_eq_false (ok.full e)];rfl
theorem Sh.cardsIn_rows{S:Sh}(ok:S.Ok):S.cardsIn=S.rows.filter fun d => !decide (d = []):=by
 unfold Sh.cardsIn Sh.handed Sh.rows
 rw[List.filter_map]
 congr 1
 exact List.filter_congr fun j _=>(Sh.row_some ok j).symm
theorem Sh.handed_len{S:Sh}(ok:S.Ok):S.handed.length=(S.rows.filter fun d => !decide (d = [])).length:=by rw[← Sh.cardsIn_rows ok,Sh.cardsIn_len]
theorem Sh.cardsWo_len{S:Sh}{j:Str}(nd:S.panel.Nodup)(hj:j∈S.handed):(S.cardsWo j).length+1=S.handed.length:=by
 unfold Sh.cardsWo
 rw[List.length_map]
 have hn:S.handed.Nodup:=nd.filter _
 have e:(S.handed.filter fun i => !decide (i=j))=S.handed.erase j:=by
  rw[hn.erase_eq_filter]
  refine List.filter_congr fun x _=>?_
  by_cases h:x=j
  ·simp[h]
  ·simp[h]
 rw[e,List.length_erase_of_mem hj]
 have:=List.length_pos_of_mem hj
 omega
theorem zgi{K:PySem.W.Frag}{a:Addr}{ls:List Addr}{cs:List (List Int)}{c:St}{tc:TT}{te:TE}{H:Hp}{fin:List V→Hp→Prop}(hA:SqL K H a (ls.map V.ref))(hR:All2 (IL K H) ls cs)(hz:cs.length≤1000)
 (htc:∀(m:Addr) (d:List Int) (H':Hp) (Q:Bool→Hp→Prop),SqL K H' m (d.map V.int)→(∀H2,zj H' H2→Q (!decide (d = [])) H2)→tc (some (.ref m)::c) H' Q)
 (hte:∀(m:Addr) (H':Hp) (Q:VK),Q (.ref m) H'→te (some (.ref m)::c) H' Q)
 (hd:∀(ks:List Addr) (H':Hp),zj H H'→All2 (IL K H') ks (cs.filter fun d => !decide (d = []))→fin (ks.map V.ref) H'):zcv (Itl K a) c tc te H fin:=by
 have hln:=zB
 have hl:=hR.length
 refine wa (xs:=ls.map V.ref) (fun i ys H2=>∃ks:List Addr,ys=ks.map V.ref∧zj H H2∧All2 (IL K H2) ks ((cs.take i).filter fun d => !decide (d = []))) ⟨[],rfl,zj.refl _,.nil⟩ ?_ (by rw[List.length_map];omega) ?_ ?_
 ·rintro i ys H2 hi ⟨ks,rfl,s2,r2⟩
  refine⟨s2.seq hA,?_⟩
  have h3:=r2.length
  have h4:=List.length_filter_le (fun d:List Int => !decide (d = [])) (cs.take i)
  rw[List.length_take] at h4
  rw[List.length_map]
  omega
 ·rintro i x ys H2 hx ⟨ks,rfl,s2,r2⟩
  obtain⟨m,em,rfl⟩:=zay hx
  obtain⟨d,ed,rd⟩:=hR.getL em
  refine htc m d H2 _ (s2.seq rd) fun H3 s3=>?_
  have e:(cs.take (i+1)).filter (fun d => !decide (d = []))=(cs.take i).filter (fun d => !decide (d = []))++if(!decide (d = []))=true then [d] else []:=by
   rw[List.take_succ,ed,List.filter_append]
   congr 1
   show List.filter _ [d]=_
   rw[List.filter_cons]
   rfl
  refine zfF (fun hb=>?_) (fun hb=>?_)
  ·refine hte m H3 _ ⟨ks ++ [m],by rw[List.map_append];rfl,s2.trans s3,?_⟩
   rw[e,if_pos hb]
   exact(r2.imp fun _ _=>IL.stays K _ _ _ _ s3).snoc ((s2.trans s3).seq rd)
  ·refine⟨ks,rfl,s2.trans s3,?_⟩
   rw[e,if_neg (by rw[hb];exact Bool.false_ne_true),List.append_nil]
   exact r2.imp fun _ _=>IL.stays K _ _ _ _ s3
 ·rintro ys H2 ⟨ks,rfl,s2,r2⟩
  rw[List.length_map,hl,List.take_length] at r2
  exact hd ks H2 s2 r2
end L2
namespace M6
open PySem L2 M3 M5
def ziM(cs:List (List Int))(us:List Int)(c:Int):Nat:=(us.filter fun d=>y7 (zE cs d) (zE cs c) us.length).length
theorem zjM{cs:List (List Int)}{us:List Int}{i:Nat}(h:i<us.length):(wg cs us).getD i 0=1+(ziM cs us (us.getD i 0):Int):=by
 unfold wg ziM
 rw[List.getD_eq_getElem?_getD,List.getElem?_map,List.getD_eq_getElem?_getD,List.getElem?_eq_getElem h]
 rfl
end M6
namespace M6
open PySem L2 M3 M5
end M6
namespace L2
open PySem
end L2
namespace M6
open PySem L2 M3 M5
variable {cs:List (List Int)} {us:List Int} {c:Int}
end M6
namespace L2
open PySem
end L2
namespace M6
open PySem L2 M3 M5
end M6
namespace L2
open PySem
end L2
namespace M6
open PySem L2 M3 M5
def partFind(a b:List Int)(n:Nat):Option (Nat × Str):=((List.range n).find? fun(i:Nat)=>decide (sg a ((i:Int)+1)≠sg b ((i:Int)+1))).map fun(i:Nat)=>(i+1,word (sg a ((i:Int)+1)) (sg b ((i:Int)+1)))
abbrev R4:=Int × Int × Int × Str
def nb(cs:List (List Int))(us:List Int)(p q:Int × Int):Option R4:=if p.1=q.1 then none else(partFind (zE cs p.2) (zE cs q.2) us.length).map fun r=>(p.2,q.2,(r.1:Int),r.2)
end M6
namespace L2
open PySem
def F4(K:PySem.W.Frag)(H:Hp)(l:Addr)(p:M6.R4):Prop:=SqT K H l [.int p.1,.int p.2.1,.int p.2.2.1,.str p.2.2.2]
end L2
namespace M9
open PySem L2 M3 M5
end M9
namespace M6
open PySem L2 M3 M5 M9
variable {cs:List (List Int)} {us:List Int} {c d f:Int}
end M6
namespace L2
open PySem
def upC(d:List Int)(i:Nat):List Int:=d.take (i - 1) ++ [d.getD i 0,d.getD (i - 1) 0]++d.drop (i+1)
theorem upC_eq{d:List Int}{i:Nat}(h0:0<i)(hi:i<d.length):∃p q,p.length=i - 1∧d=p ++ [d.getD (i - 1) 0,d.getD i 0]++q∧upC d i=p ++ [d.getD i 0,d.getD (i - 1) 0]++q:=by
 refine⟨d.take (i - 1),d.drop (i+1),by rw[List.length_take];omega,?_,rfl⟩
 have h1:i - 1<d.length:=by omega
 have e1:d.getD (i - 1) 0=d[i - 1]:=by rw[List.getD_eq_getElem?_getD,List.getElem?_eq_getElem h1];rfl
 have e2:d.getD i 0=d[i]:=by rw[List.getD_eq_getElem?_getD,List.getElem?_eq_getElem hi];rfl
 rw[e1,e2,List.append_assoc]
 conv=>lhs;rw[← List.take_append_drop (i - 1) d]
 congr 1
 rw[List.drop_eq_getElem_cons h1]
 show d[i - 1]::d.drop (i - 1+1)=d[i - 1]::(d[i]::d.drop (i+1))
 congr 1
 have:i - 1+1=i:=by omega
 rw[this]
 exact List.drop_eq_getElem_cons hi
theorem upC_perm{d:List Int}{i:Nat}(h0:0<i)(hi:i<d.length):(upC d i).Perm d:=by
 obtain⟨p,q,_,e1,e2⟩:=upC_eq h0 hi
 rw[e2]
 conv=>rhs;rw[e1]
 refine List.Perm.append_right _ (List.Perm.append_left _ ?_)
 exact List.Perm.swap _ _ _
theorem upC_at{d:List Int}{i:Nat}(h0:0<i)(hi:i<d.length):(upC d i)[i]? = some (d.getD (i - 1) 0):=by
 obtain⟨p,q,hp,_,e2⟩:=upC_eq h0 hi
 rw[e2,List.append_assoc,List.getElem?_append_right (by omega),hp,show i - (i - 1)=1 by omega]
 rfl
def Sh.cardsUp(S:Sh)(j:Str)(d:List Int):List (List Int):=S.handed.map fun i=>if i=j then d else(S.card i).getD []
theorem Sh.cardsUp_perm{S:Sh}(ok:S.Ok){j:Str}{d:List Int}(h:d.Perm S.couples):∀e∈S.cardsUp j d,e.Perm S.couples:=fun e he=>by
 obtain⟨i,hi,rfl⟩:=List.mem_map.mp he
 by_cases c:i=j
 ·rw[if_pos c];exact h
 ·rw[if_neg c];exact Sh.cardsIn_perm ok _ (List.mem_map_of_mem hi)
theorem Sh.cardsUp_len(S:Sh)(j:Str)(d:List Int):(S.cardsUp j d).length=S.handed.length:=by unfold Sh.cardsUp;simp
end L2
namespace M6
open PySem L2 M3 M5
def Rise1(c:Int)(d d':List Int):Prop:=d'.Perm d∧d'.idxOf c≤d.idxOf c∧∀e∈d,e≠c→d.idxOf e≤d'.idxOf e
theorem Rise1.nil{c:Int}{d d':List Int}(h:Rise1 c d d'):d = []↔d' = []:=by
 constructor
 ·intro e;rw[e] at h;exact List.Perm.eq_nil h.1
 ·intro e;rw[e] at h;exact List.Perm.eq_nil h.1.symm
variable {cs cs':List (List Int)} {us:List Int} {c:Int}
theorem getD_idx{d:List Int}{e:Int}(h:e∈d):d.getD (d.idxOf e) 0=e:=by
 rw[zeL (List.idxOf_lt_length_of_mem h)];exact List.getElem_idxOf _
end M6
namespace L2
open PySem M6 M5
def Sh.more(S:Sh)(n:Nat):Sh:={ S with taken:=S.taken+n }
section
variable {S:Sh} {j:Str} {d:List Int} {k:Nat}
end
end L2
namespace M6
open PySem L2 M3 M5
section
variable {A B C:List Int} {c:Int}
end
end M6
namespace L2
open PySem
def zcj(ps us:List Int)(n:Nat):List Int:=((List.range n).filter fun k=>decide (ps.getD k 0=1)).map fun k=>us.getD k 0
theorem zdK(ps us:List Int)(n:Nat):zcj ps us (n+1)=zcj ps us n++if ps.getD n 0=1 then [us.getD n 0] else []:=by
 unfold zcj
 rw[List.range_succ,List.filter_append,List.map_append]
 congr 1
 by_cases h:ps.getD n 0=1
 ·rw[if_pos h,List.filter_cons,if_pos (by rw[decide_eq_true h])];rfl
 ·rw[if_neg h,List.filter_cons,if_neg (by rw[decide_eq_false h];decide)];rfl
theorem zhz(ps us:List Int)(n:Nat):(zcj ps us n).length≤n:=by
 unfold zcj
 rw[List.length_map]
 exact Nat.le_trans (List.length_filter_le _ _) (by rw[List.length_range];exact Nat.le_refl _)
def zc0(cs:List (List Int))(us:List Int):List Int:=zcj (M6.wg cs us) us us.length
def Sh.decide(S:Sh):List Str:=S.handed.filter fun j => !Decidable.decide (zc0 (S.cardsWo j) S.couples=zc0 S.cardsIn S.couples)
theorem Sh.cardsWo_le(S:Sh)(j:Str):(S.cardsWo j).length≤S.handed.length:=by
 unfold Sh.cardsWo
 rw[List.length_map]
 exact List.length_filter_le _ _
theorem Sh.cardsWo_ge{S:Sh}(nd:S.panel.Nodup)(j:Str):S.handed.length≤(S.cardsWo j).length+1:=by
 by_cases hj:j∈S.handed
 ·exact Nat.le_of_eq (Sh.cardsWo_len nd hj).symm
 ·unfold Sh.cardsWo
  rw[List.length_map,List.filter_eq_self.mpr]
  ·exact Nat.le_succ _
  ·intro x hx
   have:¬x=j:=fun z=>hj (z ▸ hx)
   rw[decide_eq_false this]
   rfl
end L2
namespace M6
open PySem L2 M3 M5
variable {cs:List (List Int)} {us:List Int} {c:Int}
end M6
namespace L2
open PySem
end L2
namespace M6
open PySem L2 M3 M5
def blk(f:Int→Int)(us:List Int)(i:Nat):List (Int × Int):=(us.filter fun c=>decide (f c=(i:Int)+1)).map fun c=>(f c,c)
variable {cs:List (List Int)} {us:List Int} {c:Int}
def plc(cs:List (List Int))(us:List Int)(c:Int):Int:=1+(ziM cs us c:Int)
end M6
namespace L2
open PySem
end L2
namespace L2
open PySem
end L2
namespace M6
open PySem L2 M3 M5 M9
section
variable {φ:Sg→Sg} {cs cs':List (List Int)} {us:List Int}
end
end M6
namespace M6
open PySem L2 M3 M5
section
variable {cs:List (List Int)} {us d:List Int}
end
end M6
namespace L2
open PySem
end L2
namespace M6
open PySem L2 M3 M5
def bar:Str:=Str.ofString "|"
def sl:Str:=Str.ofString "/"
def blank:Str:=Str.ofString " "
def zhk(p:Int × Int):Str:=tN p.1++sl++tN p.2
def zeC(ms:List Int)(n:Nat):List Str:=(zbf ms n).map zhk
def rowW(p c:Int)(ms:List Int)(n:Nat):List Str := [tN p,tN c] ++ [bar]++ms.map tN ++ [bar]++zeC ms n
def rowT(p c:Int)(ms:List Int)(n:Nat):Str:=Txt.join blank (rowW p c ms n)
theorem zie{n:Int}(h:n.natAbs≤990):(tN n).length≤992:=by
 have:=PyProof.Rows.len_str_of_int n
 unfold tN
 omega
theorem zf5:∀{ms:List Int},(∀x∈ms,1≤x∧x≤24)→0≤ms.sum∧ms.sum≤24*ms.length
 | [],_=>by simp
 | x::ms,h=>by
   have h1:=h x (List.mem_cons_self ..)
   have h2:=zf5 (ms:=ms) fun y hy=>h y (List.mem_cons_of_mem _ hy)
   simp only[List.sum_cons,List.length_cons]
   omega
theorem zhr{ms:List Int}(h:∀x∈ms,1≤x∧x≤24)(n:Int):0≤sm ms n∧sm ms n≤24*ms.length:=by
 have h1:=zf5 (ms:=got ms n) fun x hx=>h x (List.mem_filter.mp hx).1
 have h2:=zcC ms n
 unfold cnt at h2
 unfold sm
 omega
theorem sl_len:sl.length=1:=by decide +kernel
theorem ziF:bar.length=1:=by decide +kernel
theorem zjr(ms:List Int)(n:Nat):zeC ms (n+1)=zeC ms n ++ [tN (cnt ms ((n:Int)+1))++sl++tN (sm ms ((n:Int)+1))]:=by
 unfold zeC
 rw[zeo,List.map_append]
 rfl
theorem zf1{ms:List Int}(hl:ms.length≤15)(h:∀x∈ms,1≤x∧x≤24)(n:Int):(tN (cnt ms n)).length≤992∧(tN (sm ms n)).length≤992:=by
 have h1:=zcC ms n
 have h2:=zhr h n
 exact⟨zie (by omega),zie (by omega)⟩
theorem ladW_len(ms:List Int)(n:Nat):(zeC ms n).length=n:=by unfold zeC;rw[List.length_map,zdf]
theorem ziy{ms:List Int}(hl:ms.length≤15)(h:∀x∈ms,1≤x∧x≤24)(n:Nat):∀w∈zeC ms n,w.length≤2000:=fun w hw=>by
 induction n with
 | zero=>unfold zeC zbf at hw;simp at hw
 | succ n ih =>
   rw[zjr] at hw
   rcases List.mem_append.mp hw with z | z
   ·exact ih z
   ·rw[List.mem_singleton.mp z,wx,wx,sl_len]
    have:=zf1 hl h ((n:Int)+1)
    omega
theorem ziE{ms:List Int}(hl:ms.length≤15)(h:∀x∈ms,1≤x∧x≤24){p c:Int}(hp:p.natAbs≤990)(hc:c.natAbs≤1000)(n:Nat):∀w∈rowW p c ms n,w.length≤2000:=fun w hw=>by
 unfold rowW at hw
 simp only[List.mem_append,List.mem_cons,List.not_mem_nil,or_false,List.mem_map] at hw
 have l1:=PyProof.Rows.len_str_of_int p
 have l2:=PyProof.Rows.len_str_of_int c
 rcases hw with((((rfl | rfl) | rfl) | ⟨x,hx,rfl⟩) | rfl) | hw
 ·unfold tN;omega
 ·unfold tN;omega
 ·rw[ziF];omega
 ·have:=h x hx
  have:=zie (n:=x) (by omega)
  omega
 ·rw[ziF];omega
 ·exact ziy hl h n w hw
theorem emp_app(y:Str):Str.empty++y=y:=by
 refine PySem.Str.ext' ?_
 show(#[]:Array Nat)++y.cps=y.cps
 simp
end M6
namespace L2
open PySem
theorem zig{K:PySem.W.Frag}{a:Addr}{ls:List Addr}{rs:List (Int × Int)}{f:Int × Int→Str}{c:St}{te:TE}{H:Hp}{fin:List V→Hp→Prop}(hA:SqL K H a (ls.map V.ref))(hR:All2 (TPl K H) ls rs)(hz:rs.length≤1000)
 (hte:∀(p:Int × Int) (H':Hp) (Q:VK),p∈rs→zj H H'→(∀H2,zj H' H2→Q (.str (f p)) H2)→te (some (.int p.1)::some (.int p.2)::c) H' Q)
 (hd:∀(H':Hp),zj H H'→fin ((rs.map f).map V.str) H'):zd2 K (Itl K a) c zhM te H fin:=by
 have hln:=zB
 have hl:=hR.length
 refine zh3 (xs:=ls.map V.ref) (fun i ys H3=>zj H H3∧ys=((rs.take i).map f).map V.str) ⟨zj.refl _,rfl⟩ ?_ (by rw[List.length_map];omega) ?_ ?_
 ·rintro i ys H3 hi ⟨s3,rfl⟩
  refine⟨s3.seq hA,?_⟩
  rw[List.length_map,List.length_map,List.length_take]
  omega
 ·rintro i x ys H3 hx ⟨s3,rfl⟩
  obtain⟨p,ep,rfl⟩:=zay hx
  obtain⟨m,em,rm⟩:=hR.getL ep
  refine⟨p,.int m.1,.int m.2,rfl,s3.seqT rm,hte m H3 _ (List.mem_of_getElem? em) s3 fun H4 s4=>⟨s3.trans s4,?_⟩⟩
  rw[List.take_succ,em,List.map_append,List.map_append]
  rfl
 ·rintro ys H3 ⟨s3,rfl⟩
  rw[List.length_map,hl,List.take_length]
  exact hd H3 s3
theorem zjj{K:PySem.W.Frag}{a:Addr}{us:List Int}{f:Int→Str}{c:St}{te:TE}{H:Hp}{fin:List V→Hp→Prop}(hA:SqL K H a (us.map V.int))(hz:us.length≤1000)
 (hte:∀(x:Int) (H':Hp) (Q:VK),x∈us→zj H H'→(∀(H2:Hp),zj H' H2→Q (.str (f x)) H2)→te (some (.int x)::c) H' Q)
 (hd:∀(H':Hp),zj H H'→fin ((us.map f).map V.str) H'):zcv (Itl K a) c zhM te H fin:=by
 have hln:=zB
 refine ya (xs:=us.map V.int) (fun k ys H5=>ys=((us.take k).map f).map V.str∧zj H H5) ⟨rfl,zj.refl _⟩ ?_ (by rw[List.length_map];omega) ?_ ?_
 ·rintro k ys H5 hk ⟨rfl,s5⟩
  refine⟨s5.seq hA,?_⟩
  rw[List.length_map,List.length_map,List.length_take]
  omega
 ·rintro k x ys H5 hx ⟨rfl,s5⟩
  obtain⟨hk,rfl⟩:=yA hx
  refine hte _ H5 _ (wT hk) s5 fun H2 s2=>⟨?_,s5.trans s2⟩
  rw[yy hk,List.map_append,List.map_append]
  rfl
 ·rintro ys H5 ⟨rfl,s5⟩
  rw[List.length_map,List.take_length]
  exact hd H5 s5
end L2
namespace M6
open PySem L2 M3 M5
end M6
namespace L2
open PySem
theorem zir{K:PySem.W.Frag}{F:Addr→Prop}{a:Addr}{ls:List Addr}{cs:List (List Int)}{f:List Int→List Int}{c:St}{te:TE}{H:Hp}{fin:List V→Hp→Prop}(hA:SqL K H a (ls.map V.ref))(hR:All2 (fun l d=>H l=some (.lst (d.map V.int))) ls cs)(hz:cs.length≤1000)
 (hte:∀(m:Addr) (d:List Int) (H':Hp) (Q:VK),d∈cs→H' m=some (.lst (d.map V.int))→zj H H'→(∀(l:Addr) (H2:Hp),zj H' H2→H2 l=some (.lst ((f d).map V.int))→¬F l→Q (.ref l) H2)→te (some (.ref m)::c) H' Q)
 (hd:∀(ks:List Addr) (H':Hp),zj H H'→All2 (fun l d=>H' l=some (.lst (d.map V.int))∧¬F l) ks (cs.map f)→fin (ks.map V.ref) H'):zcv (Itl K a) c zhM te H fin:=by
 have hln:=zB
 have hl:=hR.length
 refine ya (xs:=ls.map V.ref) (fun k ys H5=>∃ks:List Addr,ys=ks.map V.ref∧zj H H5∧All2 (fun l d=>H5 l=some (.lst (d.map V.int))∧¬F l) ks ((cs.take k).map f)) ⟨[],rfl,zj.refl _,.nil⟩ ?_ (by rw[List.length_map];omega) ?_ ?_
 ·rintro k ys H5 hk ⟨ks,rfl,s5,r5⟩
  refine⟨s5.seq hA,?_⟩
  have:=r5.length
  rw[List.length_map,List.length_take] at this
  rw[List.length_map]
  omega
 ·rintro k x ys H5 hx ⟨ks,rfl,s5,r5⟩
  obtain⟨m,em,rfl⟩:=zay hx
  obtain⟨d,ed,rm⟩:=hR.getL em
  refine hte m d H5 _ (List.mem_of_getElem? ed) (s5 _ _ rm) s5 fun l H2 s2 r2 n2=>⟨ks ++ [l],by rw[List.map_append];rfl,s5.trans s2,?_⟩
  rw[List.take_succ,ed,List.map_append]
  exact(r5.imp fun _ _ z=>⟨s2 _ _ z.1,z.2⟩).snoc ⟨r2,n2⟩
 ·rintro ys H5 ⟨ks,rfl,s5,r5⟩
  rw[List.length_map,hl,List.take_length] at r5
  exact hd ks H5 s5 r5
end L2
set_option maxHeartbeats 4000000
namespace Pp
open PySem L2
def top(i:Nat):Stmt:=PySem.Challenge.pw_panelplace_k46_whole_refused_changes_not.main.body.getD i (.Pass ⟨0,0,0,0⟩)
structure Txt (K:PySem.W.Frag) (mg:Str→Option Value):Prop where
 b_all:mg "all" = none
 b_bool:mg "bool" = none
 b_int:mg "int" = none
 b_isinstance:mg "isinstance" = none
 b_len:mg "len" = none
 b_list:mg "list" = none
 b_max:mg "max" = none
 b_range:mg "range" = none
 b_set:mg "set" = none
 b_sorted:mg "sorted" = none
 b_str:mg "str" = none
 b_sum:mg "sum" = none
 b_zip:mg "zip" = none
 c_MOST_COUPLES:∃t,mg "MOST_COUPLES" = some (.int 24 t)
 c_MOST_JUDGES:∃t,mg "MOST_JUDGES" = some (.int 15 t)
 c_MOST_NUMBER:∃t,mg "MOST_NUMBER" = some (.int 999 t)
 c_MOST_SIGNS:∃t,mg "MOST_SIGNS" = some (.int 8 t)
 c_MOST_CARDS:∃t,mg "MOST_CARDS" = some (.int 200 t)
 x_PanelError:∃C,zf K "PanelError" C∧mg "PanelError" = some (.ref C)∧ExC K C
 x_BadCouples:∃C,zf K "BadCouples" C∧mg "BadCouples" = some (.ref C)∧ExC K C
 x_BadJudges:∃C,zf K "BadJudges" C∧mg "BadJudges" = some (.ref C)∧ExC K C
 x_SheetSealed:∃C,zf K "SheetSealed" C∧mg "SheetSealed" = some (.ref C)∧ExC K C
 i_SheetSealed:∀C,zf K "SheetSealed" C→exI K C=true
 s_SheetSealed_PanelError:∀C D,zf K "SheetSealed" C→zf K "PanelError" D→wk K C D=true
 k_SheetSealed_SheetSealed:∀C D,zf K "SheetSealed" C→zf K "SheetSealed" D→PySem.W.kitOne K (.ref C) (.ref D)=some true
 k_SheetSealed_UnknownJudge:∀C D,zf K "SheetSealed" C→zf K "UnknownJudge" D→PySem.W.kitOne K (.ref C) (.ref D)=some false
 k_SheetSealed_BadCard:∀C D,zf K "SheetSealed" C→zf K "BadCard" D→PySem.W.kitOne K (.ref C) (.ref D)=some false
 k_SheetSealed_TooManyCards:∀C D,zf K "SheetSealed" C→zf K "TooManyCards" D→PySem.W.kitOne K (.ref C) (.ref D)=some false
 k_SheetSealed_UnknownCouple:∀C D,zf K "SheetSealed" C→zf K "UnknownCouple" D→PySem.W.kitOne K (.ref C) (.ref D)=some false
 k_SheetSealed_LastCouple:∀C D,zf K "SheetSealed" C→zf K "LastCouple" D→PySem.W.kitOne K (.ref C) (.ref D)=some false
 k_SheetSealed_NoCard:∀C D,zf K "SheetSealed" C→zf K "NoCard" D→PySem.W.kitOne K (.ref C) (.ref D)=some false
 k_SheetSealed_TooFewCards:∀C D,zf K "SheetSealed" C→zf K "TooFewCards" D→PySem.W.kitOne K (.ref C) (.ref D)=some false
 k_SheetSealed_AtTop:∀C D,zf K "SheetSealed" C→zf K "AtTop" D→PySem.W.kitOne K (.ref C) (.ref D)=some false
 x_UnknownJudge:∃C,zf K "UnknownJudge" C∧mg "UnknownJudge" = some (.ref C)∧ExC K C
 i_UnknownJudge:∀C,zf K "UnknownJudge" C→exI K C=true
 s_UnknownJudge_PanelError:∀C D,zf K "UnknownJudge" C→zf K "PanelError" D→wk K C D=true
 k_UnknownJudge_SheetSealed:∀C D,zf K "UnknownJudge" C→zf K "SheetSealed" D→PySem.W.kitOne K (.ref C) (.ref D)=some false
 k_UnknownJudge_UnknownJudge:∀C D,zf K "UnknownJudge" C→zf K "UnknownJudge" D→PySem.W.kitOne K (.ref C) (.ref D)=some true
 k_UnknownJudge_BadCard:∀C D,zf K "UnknownJudge" C→zf K "BadCard" D→PySem.W.kitOne K (.ref C) (.ref D)=some false
 k_UnknownJudge_TooManyCards:∀C D,zf K "UnknownJudge" C→zf K "TooManyCards" D→PySem.W.kitOne K (.ref C) (.ref D)=some false
 k_UnknownJudge_UnknownCouple:∀C D,zf K "UnknownJudge" C→zf K "UnknownCouple" D→PySem.W.kitOne K (.ref C) (.ref D)=some false
 k_UnknownJudge_LastCouple:∀C D,zf K "UnknownJudge" C→zf K "LastCouple" D→PySem.W.kitOne K (.ref C) (.ref D)=some false
 k_UnknownJudge_NoCard:∀C D,zf K "UnknownJudge" C→zf K "NoCard" D→PySem.W.kitOne K (.ref C) (.ref D)=some false
 k_UnknownJudge_TooFewCards:∀C D,zf K "UnknownJudge" C→zf K "TooFewCards" D→PySem.W.kitOne K (.ref C) (.ref D)=some false
 k_UnknownJudge_AtTop:∀C D,zf K "UnknownJudge" C→zf K "AtTop" D→PySem.W.kitOne K (.ref C) (.ref D)=some false
 x_BadCard:∃C,zf K "BadCard" C∧mg "BadCard" = some (.ref C)∧ExC K C
 i_BadCard:∀C,zf K "BadCard" C→exI K C=true
 s_BadCard_PanelError:∀C D,zf K "BadCard" C→zf K "PanelError" D→wk K C D=true
 k_BadCard_SheetSealed:∀C D,zf K "BadCard" C→zf K "SheetSealed" D→PySem.W.kitOne K (.ref C) (.ref D)=some false
 k_BadCard_UnknownJudge:∀C D,zf K "BadCard" C→zf K "UnknownJudge" D→PySem.W.kitOne K (.ref C) (.ref D)=some false
 k_BadCard_BadCard:∀C D,zf K "BadCard" C→zf K "BadCard" D→PySem.W.kitOne K (.ref C) (.ref D)=some true
 k_BadCard_TooManyCards:∀C D,zf K "BadCard" C→zf K "TooManyCards" D→PySem.W.kitOne K (.ref C) (.ref D)=some false
 k_BadCard_UnknownCouple:∀C D,zf K "BadCard" C→zf K "UnknownCouple" D→PySem.W.kitOne K (.ref C) (.ref D)=some false
 k_BadCard_LastCouple:∀C D,zf K "BadCard" C→zf K "LastCouple" D→PySem.W.kitOne K (.ref C) (.ref D)=some false
 k_BadCard_NoCard:∀C D,zf K "BadCard" C→zf K "NoCard" D→PySem.W.kitOne K (.ref C) (.ref D)=some false
 k_BadCard_TooFewCards:∀C D,zf K "BadCard" C→zf K "TooFewCards" D→PySem.W.kitOne K (.ref C) (.ref D)=some false
 k_BadCard_AtTop:∀C D,zf K "BadCard" C→zf K "AtTop" D→PySem.W.kitOne K (.ref C) (.ref D)=some false
 x_TooManyCards:∃C,zf K "TooManyCards" C∧mg "TooManyCards" = some (.ref C)∧ExC K C
 i_TooManyCards:∀C,zf K "TooManyCards" C→exI K C=true
 s_TooManyCards_PanelError:∀C D,zf K "TooManyCards" C→zf K "PanelError" D→wk K C D=true
 k_TooManyCards_SheetSealed:∀C D,zf K "TooManyCards" C→zf K "SheetSealed" D→PySem.W.kitOne K (.ref C) (.ref D)=some false
 k_TooManyCards_UnknownJudge:∀C D,zf K "TooManyCards" C→zf K "UnknownJudge" D→PySem.W.kitOne K (.ref C) (.ref D)=some false
 k_TooManyCards_BadCard:∀C D,zf K "TooManyCards" C→zf K "BadCard" D→PySem.W.kitOne K (.ref C) (.ref D)=some false
 k_TooManyCards_TooManyCards:∀C D,zf K "TooManyCards" C→zf K "TooManyCards" D→PySem.W.kitOne K (.ref C) (.ref D)=some true
 k_TooManyCards_UnknownCouple:∀C D,zf K "TooManyCards" C→zf K "UnknownCouple" D→PySem.W.kitOne K (.ref C) (.ref D)=some false
 k_TooManyCards_LastCouple:∀C D,zf K "TooManyCards" C→zf K "LastCouple" D→PySem.W.kitOne K (.ref C) (.ref D)=some false
 k_TooManyCards_NoCard:∀C D,zf K "TooManyCards" C→zf K "NoCard" D→PySem.W.kitOne K (.ref C) (.ref D)=some false
 k_TooManyCards_TooFewCards:∀C D,zf K "TooManyCards" C→zf K "TooFewCards" D→PySem.W.kitOne K (.ref C) (.ref D)=some false
 k_TooManyCards_AtTop:∀C D,zf K "TooManyCards" C→zf K "AtTop" D→PySem.W.kitOne K (.ref C) (.ref D)=some false
 x_UnknownCouple:∃C,zf K "UnknownCouple" C∧mg "UnknownCouple" = some (.ref C)∧ExC K C
 i_UnknownCouple:∀C,zf K "UnknownCouple" C→exI K C=true
 s_UnknownCouple_PanelError:∀C D,zf K "UnknownCouple" C→zf K "PanelError" D→wk K C D=true
 k_UnknownCouple_SheetSealed:∀C D,zf K "UnknownCouple" C→zf K "SheetSealed" D→PySem.W.kitOne K (.ref C) (.ref D)=some false
 k_UnknownCouple_UnknownJudge:∀C D,zf K "UnknownCouple" C→zf K "UnknownJudge" D→PySem.W.kitOne K (.ref C) (.ref D)=some false
 k_UnknownCouple_BadCard:∀C D,zf K "UnknownCouple" C→zf K "BadCard" D→PySem.W.kitOne K (.ref C) (.ref D)=some false
 k_UnknownCouple_TooManyCards:∀C D,zf K "UnknownCouple" C→zf K "TooManyCards" D→PySem.W.kitOne K (.ref C) (.ref D)=some false
 k_UnknownCouple_UnknownCouple:∀C D,zf K "UnknownCouple" C→zf K "UnknownCouple" D→PySem.W.kitOne K (.ref C) (.ref D)=some true
 k_UnknownCouple_LastCouple:∀C D,zf K "UnknownCouple" C→zf K "LastCouple" D→PySem.W.kitOne K (.ref C) (.ref D)=some false
 k_UnknownCouple_NoCard:∀C D,zf K "UnknownCouple" C→zf K "NoCard" D→PySem.W.kitOne K (.ref C) (.ref D)=some false
 k_UnknownCouple_TooFewCards:∀C D,zf K "UnknownCouple" C→zf K "TooFewCards" D→PySem.W.kitOne K (.ref C) (.ref D)=some false
 k_UnknownCouple_AtTop:∀C D,zf K "UnknownCouple" C→zf K "AtTop" D→PySem.W.kitOne K (.ref C) (.ref D)=some false
 x_LastCouple:∃C,zf K "LastCouple" C∧mg "LastCouple" = some (.ref C)∧ExC K C
 i_LastCouple:∀C,zf K "LastCouple" C→exI K C=true
 s_LastCouple_PanelError:∀C D,zf K "LastCouple" C→zf K "PanelError" D→wk K C D=true
 k_LastCouple_SheetSealed:∀C D,zf K "LastCouple" C→zf K "SheetSealed" D→PySem.W.kitOne K (.ref C) (.ref D)=some false
 k_LastCouple_UnknownJudge:∀C D,zf K "LastCouple" C→zf K "UnknownJudge" D→PySem.W.kitOne K (.ref C) (.ref D)=some false
 k_LastCouple_BadCard:∀C D,zf K "LastCouple" C→zf K "BadCard" D→PySem.W.kitOne K (.ref C) (.ref D)=some false
 k_LastCouple_TooManyCards:∀C D,zf K "LastCouple" C→zf K "TooManyCards" D→PySem.W.kitOne K (.ref C) (.ref D)=some false
 k_LastCouple_UnknownCouple:∀C D,zf K "LastCouple" C→zf K "UnknownCouple" D→PySem.W.kitOne K (.ref C) (.ref D)=some false
 k_LastCouple_LastCouple:∀C D,zf K "LastCouple" C→zf K "LastCouple" D→PySem.W.kitOne K (.ref C) (.ref D)=some true
 k_LastCouple_NoCard:∀C D,zf K "LastCouple" C→zf K "NoCard" D→PySem.W.kitOne K (.ref C) (.ref D)=some false
 k_LastCouple_TooFewCards:∀C D,zf K "LastCouple" C→zf K "TooFewCards" D→PySem.W.kitOne K (.ref C) (.ref D)=some false
 k_LastCouple_AtTop:∀C D,zf K "LastCouple" C→zf K "AtTop" D→PySem.W.kitOne K (.ref C) (.ref D)=some false
 x_NoCard:∃C,zf K "NoCard" C∧mg "NoCard" = some (.ref C)∧ExC K C
 i_NoCard:∀C,zf K "NoCard" C→exI K C=true
 s_NoCard_PanelError:∀C D,zf K "NoCard" C→zf K "PanelError" D→wk K C D=true
 k_NoCard_SheetSealed:∀C D,zf K "NoCard" C→zf K "SheetSealed" D→PySem.W.kitOne K (.ref C) (.ref D)=some false
 k_NoCard_UnknownJudge:∀C D,zf K "NoCard" C→zf K "UnknownJudge" D→PySem.W.kitOne K (.ref C) (.ref D)=some false
 k_NoCard_BadCard:∀C D,zf K "NoCard" C→zf K "BadCard" D→PySem.W.kitOne K (.ref C) (.ref D)=some false
 k_NoCard_TooManyCards:∀C D,zf K "NoCard" C→zf K "TooManyCards" D→PySem.W.kitOne K (.ref C) (.ref D)=some false
 k_NoCard_UnknownCouple:∀C D,zf K "NoCard" C→zf K "UnknownCouple" D→PySem.W.kitOne K (.ref C) (.ref D)=some false
 k_NoCard_LastCouple:∀C D,zf K "NoCard" C→zf K "LastCouple" D→PySem.W.kitOne K (.ref C) (.ref D)=some false
 k_NoCard_NoCard:∀C D,zf K "NoCard" C→zf K "NoCard" D→PySem.W.kitOne K (.ref C) (.ref D)=some true
 k_NoCard_TooFewCards:∀C D,zf K "NoCard" C→zf K "TooFewCards" D→PySem.W.kitOne K (.ref C) (.ref D)=some false
 k_NoCard_AtTop:∀C D,zf K "NoCard" C→zf K "AtTop" D→PySem.W.kitOne K (.ref C) (.ref D)=some false
 x_TooFewCards:∃C,zf K "TooFewCards" C∧mg "TooFewCards" = some (.ref C)∧ExC K C
 i_TooFewCards:∀C,zf K "TooFewCards" C→exI K C=true
 s_TooFewCards_PanelError:∀C D,zf K "TooFewCards" C→zf K "PanelError" D→wk K C D=true
 k_TooFewCards_SheetSealed:∀C D,zf K "TooFewCards" C→zf K "SheetSealed" D→PySem.W.kitOne K (.ref C) (.ref D)=some false
 k_TooFewCards_UnknownJudge:∀C D,zf K "TooFewCards" C→zf K "UnknownJudge" D→PySem.W.kitOne K (.ref C) (.ref D)=some false
 k_TooFewCards_BadCard:∀C D,zf K "TooFewCards" C→zf K "BadCard" D→PySem.W.kitOne K (.ref C) (.ref D)=some false
 k_TooFewCards_TooManyCards:∀C D,zf K "TooFewCards" C→zf K "TooManyCards" D→PySem.W.kitOne K (.ref C) (.ref D)=some false
 k_TooFewCards_UnknownCouple:∀C D,zf K "TooFewCards" C→zf K "UnknownCouple" D→PySem.W.kitOne K (.ref C) (.ref D)=some false
 k_TooFewCards_LastCouple:∀C D,zf K "TooFewCards" C→zf K "LastCouple" D→PySem.W.kitOne K (.ref C) (.ref D)=some false
 k_TooFewCards_NoCard:∀C D,zf K "TooFewCards" C→zf K "NoCard" D→PySem.W.kitOne K (.ref C) (.ref D)=some false
 k_TooFewCards_TooFewCards:∀C D,zf K "TooFewCards" C→zf K "TooFewCards" D→PySem.W.kitOne K (.ref C) (.ref D)=some true
 k_TooFewCards_AtTop:∀C D,zf K "TooFewCards" C→zf K "AtTop" D→PySem.W.kitOne K (.ref C) (.ref D)=some false
 x_AtTop:∃C,zf K "AtTop" C∧mg "AtTop" = some (.ref C)∧ExC K C
 i_AtTop:∀C,zf K "AtTop" C→exI K C=true
 s_AtTop_PanelError:∀C D,zf K "AtTop" C→zf K "PanelError" D→wk K C D=true
 k_AtTop_SheetSealed:∀C D,zf K "AtTop" C→zf K "SheetSealed" D→PySem.W.kitOne K (.ref C) (.ref D)=some false
 k_AtTop_UnknownJudge:∀C D,zf K "AtTop" C→zf K "UnknownJudge" D→PySem.W.kitOne K (.ref C) (.ref D)=some false
 k_AtTop_BadCard:∀C D,zf K "AtTop" C→zf K "BadCard" D→PySem.W.kitOne K (.ref C) (.ref D)=some false
 k_AtTop_TooManyCards:∀C D,zf K "AtTop" C→zf K "TooManyCards" D→PySem.W.kitOne K (.ref C) (.ref D)=some false
 k_AtTop_UnknownCouple:∀C D,zf K "AtTop" C→zf K "UnknownCouple" D→PySem.W.kitOne K (.ref C) (.ref D)=some false
 k_AtTop_LastCouple:∀C D,zf K "AtTop" C→zf K "LastCouple" D→PySem.W.kitOne K (.ref C) (.ref D)=some false
 k_AtTop_NoCard:∀C D,zf K "AtTop" C→zf K "NoCard" D→PySem.W.kitOne K (.ref C) (.ref D)=some false
 k_AtTop_TooFewCards:∀C D,zf K "AtTop" C→zf K "TooFewCards" D→PySem.W.kitOne K (.ref C) (.ref D)=some false
 k_AtTop_AtTop:∀C D,zf K "AtTop" C→zf K "AtTop" D→PySem.W.kitOne K (.ref C) (.ref D)=some true
 cl_Sheet:Cls K (zJ K "Sheet")
 n_Sheet_standing:zbc K (zJ K "Sheet") "standing"
 n_Sheet_struck_so_far:zbc K (zJ K "Sheet") "struck_so_far"
 n_Sheet_panel:zbc K (zJ K "Sheet") "panel"
 n_Sheet_card_by_judge:zbc K (zJ K "Sheet") "card_by_judge"
 n_Sheet_taken_so_far:zbc K (zJ K "Sheet") "taken_so_far"
 n_Sheet_sealed:zbc K (zJ K "Sheet") "sealed"
abbrev wu:Stmt:=wz (top 32) 10
theorem zeU:FnScope ["self"] ["self"] (zc wu):=⟨rfl,rfl,rfl,by decide +kernel,rfl,by decide +kernel,by decide +kernel⟩
abbrev yo:Stmt:=wz (top 32) 11
theorem zdd:FnScope ["self"] ["self"] (zc yo):=⟨rfl,rfl,rfl,by decide +kernel,rfl,by decide +kernel,by decide +kernel⟩
abbrev zN:Stmt:=wz (top 32) 12
theorem zbJ:FnScope ["self"] ["self"] (zc zN):=⟨rfl,rfl,rfl,by decide +kernel,rfl,by decide +kernel,by decide +kernel⟩
abbrev zH:Stmt:=wz (top 32) 13
theorem za2:FnScope ["self","judge"] ["self","judge"] (zc zH):=⟨rfl,rfl,rfl,by decide +kernel,rfl,by decide +kernel,by decide +kernel⟩
abbrev yE:Stmt:=wz (top 32) 4
theorem zd5:FnScope ["self"] ["self"] (zc yE):=⟨rfl,rfl,rfl,by decide +kernel,rfl,by decide +kernel,by decide +kernel⟩
abbrev yY:Stmt:=wz (top 32) 5
theorem zeF:FnScope ["self"] ["self"] (zc yY):=⟨rfl,rfl,rfl,by decide +kernel,rfl,by decide +kernel,by decide +kernel⟩
abbrev y8:Stmt:=wz (top 32) 6
theorem zeH:FnScope ["self"] ["self"] (zc y8):=⟨rfl,rfl,rfl,by decide +kernel,rfl,by decide +kernel,by decide +kernel⟩
abbrev yB:Stmt:=wz (top 32) 7
theorem zes:FnScope ["self"] ["self"] (zc yB):=⟨rfl,rfl,rfl,by decide +kernel,rfl,by decide +kernel,by decide +kernel⟩
abbrev wO:Stmt:=top 14
theorem zfM:FnScope ["card","couples"] ["card","couples"] (zc wO):=⟨rfl,rfl,rfl,by decide +kernel,rfl,by decide +kernel,by decide +kernel⟩
abbrev zbo:Stmt:=top 15
theorem ziC:FnScope ["card","couple"] ["card","couple"] (zc zbo):=⟨rfl,rfl,rfl,by decide +kernel,rfl,by decide +kernel,by decide +kernel⟩
abbrev yk:Stmt:=top 16
theorem zdH:FnScope ["card","couple"] ["card","couple"] (zc yk):=⟨rfl,rfl,rfl,by decide +kernel,rfl,by decide +kernel,by decide +kernel⟩
abbrev zb5:Stmt:=top 17
theorem zdZ:FnScope ["card","couple","place","passed"] ["card","couple"] (zc zb5):=⟨rfl,rfl,rfl,by decide +kernel,rfl,by decide +kernel,by decide +kernel⟩
abbrev wt:Stmt:=top 25
theorem zeS:FnScope ["couple"] ["couple"] (zc wt):=⟨rfl,rfl,rfl,by decide +kernel,rfl,by decide +kernel,by decide +kernel⟩
abbrev yX:Stmt:=top 27
theorem zeD:FnScope ["sign"] ["sign"] (zc yX):=⟨rfl,rfl,rfl,by decide +kernel,rfl,by decide +kernel,by decide +kernel⟩
abbrev wm:Stmt:=top 28
theorem zfz:FnScope ["things","most"] ["things","most"] (zc wm):=⟨rfl,rfl,rfl,by decide +kernel,rfl,by decide +kernel,by decide +kernel⟩
abbrev wS:Stmt:=top 29
theorem zfV:FnScope ["things"] ["things"] (zc wS):=⟨rfl,rfl,rfl,by decide +kernel,rfl,by decide +kernel,by decide +kernel⟩
abbrev wq:Stmt:=top 34
theorem zfb:FnScope ["many"] ["many"] (zc wq):=⟨rfl,rfl,rfl,by decide +kernel,rfl,by decide +kernel,by decide +kernel⟩
abbrev zag:Stmt:=top 38
theorem zhm:FnScope ["marks","number"] ["marks","number"] (zc zag):=⟨rfl,rfl,rfl,by decide +kernel,rfl,by decide +kernel,by decide +kernel⟩
abbrev zau:Stmt:=top 59
theorem zgC:FnScope ["_law_found"] ["_law_found"] (zc zau):=⟨rfl,rfl,rfl,by decide +kernel,rfl,by decide +kernel,by decide +kernel⟩
abbrev zb6:Stmt:=top 60
theorem zje:FnScope ["_law_script","_law_k"] ["_law_script","_law_k"] (zc zb6):=⟨rfl,rfl,rfl,by decide +kernel,rfl,by decide +kernel,by decide +kernel⟩
abbrev zan:Stmt:=top 62
theorem zdz:FnScope ["_law_found","_law_due_here","_law_k"] ["_law_found","_law_due_here"] (zc zan):=⟨rfl,rfl,rfl,by decide +kernel,rfl,by decide +kernel,by decide +kernel⟩
abbrev zbm:Stmt:=top 64
theorem zeN:FnScope ["_law_cell","_law_place","_law_once"] ["_law_cell","_law_place"] (zc zbm):=⟨rfl,rfl,rfl,by decide +kernel,rfl,by decide +kernel,by decide +kernel⟩
abbrev zaM:Stmt:=top 65
theorem zhY:FnScope ["_law_mode","_law_cell","_law_least","_law_few","_law_most"] ["_law_mode","_law_cell","_law_least","_law_few","_law_most"] (zc zaM):=⟨rfl,rfl,rfl,by decide +kernel,rfl,by decide +kernel,by decide +kernel⟩
abbrev yQ:Stmt:=top 66
theorem zcI:FnScope ["_law_cell","_law_many_here","_law_gap"] ["_law_cell","_law_many_here"] (zc yQ):=⟨rfl,rfl,rfl,by decide +kernel,rfl,by decide +kernel,by decide +kernel⟩
abbrev wA:Stmt:=top 70
theorem zgZ:FnScope ["_law_cards","_law_couple"] ["_law_cards","_law_couple"] (zc wA):=⟨rfl,rfl,rfl,by decide +kernel,rfl,by decide +kernel,by decide +kernel⟩
abbrev zaV:Stmt:=top 71
theorem zca:FnScope ["_law_marks_here","_law_last","_law_key_here","_law_number","_law_got"] ["_law_marks_here","_law_last"] (zc zaV):=⟨rfl,rfl,rfl,by decide +kernel,rfl,by decide +kernel,by decide +kernel⟩
abbrev zaI:Stmt:=top 74
theorem zec:FnScope ["_law_card_here","_law_couples_here","_law_couple"] ["_law_card_here","_law_couples_here"] (zc zaI):=⟨rfl,rfl,rfl,by decide +kernel,rfl,by decide +kernel,by decide +kernel⟩
abbrev wn:Stmt:=top 75
theorem zaB:FnScope ["_law_card_here","_law_cell","_law_spot","_law_twin","_law_stray_here"] ["_law_card_here","_law_cell"] (zc wn):=⟨rfl,rfl,rfl,by decide +kernel,rfl,by decide +kernel,by decide +kernel⟩
abbrev yU:Stmt:=top 76
theorem zet:FnScope ["_law_name","_law_cell"] ["_law_name","_law_cell"] (zc yU):=⟨rfl,rfl,rfl,by decide +kernel,rfl,by decide +kernel,by decide +kernel⟩
abbrev yP:Stmt:=top 77
theorem zeO:FnScope ["_law_card_here","_law_couple"] ["_law_card_here","_law_couple"] (zc yP):=⟨rfl,rfl,rfl,by decide +kernel,rfl,by decide +kernel,by decide +kernel⟩
abbrev zaq:Stmt:=top 81
theorem zgD:FnScope ["_law_couples_here","_law_gone","_law_cell"] ["_law_couples_here","_law_gone","_law_cell"] (zc zaq):=⟨rfl,rfl,rfl,by decide +kernel,rfl,by decide +kernel,by decide +kernel⟩
abbrev yG:Stmt:=wz (top 32) 1
theorem zdP:FnScope ["self","judge","card"] ["self","judge","card"] (zc yG):=⟨rfl,rfl,rfl,by decide +kernel,rfl,by decide +kernel,by decide +kernel⟩
abbrev y6:Stmt:=wz (top 32) 2
theorem zcx:FnScope ["self","couple","judge"] ["self","couple"] (zc y6):=⟨rfl,rfl,rfl,by decide +kernel,rfl,by decide +kernel,by decide +kernel⟩
abbrev wM:Stmt:=wz (top 32) 3
theorem zfH:FnScope ["self"] ["self"] (zc wM):=⟨rfl,rfl,rfl,by decide +kernel,rfl,by decide +kernel,by decide +kernel⟩
abbrev yF:Stmt:=wz (top 32) 9
theorem zdW:FnScope ["self","judge"] ["self","judge"] (zc yF):=⟨rfl,rfl,rfl,by decide +kernel,rfl,by decide +kernel,by decide +kernel⟩
abbrev yz:Stmt:=top 23
theorem zex:FnScope ["couples"] ["couples"] (zc yz):=⟨rfl,rfl,rfl,by decide +kernel,rfl,by decide +kernel,by decide +kernel⟩
abbrev wF:Stmt:=top 26
theorem zg9:FnScope ["judge"] ["judge"] (zc wF):=⟨rfl,rfl,rfl,by decide +kernel,rfl,by decide +kernel,by decide +kernel⟩
abbrev zah:Stmt:=top 35
theorem zho:FnScope ["cards","couple"] ["cards","couple"] (zc zah):=⟨rfl,rfl,rfl,by decide +kernel,rfl,by decide +kernel,by decide +kernel⟩
abbrev zbl:Stmt:=top 36
theorem ziB:FnScope ["marks","number"] ["marks","number"] (zc zbl):=⟨rfl,rfl,rfl,by decide +kernel,rfl,by decide +kernel,by decide +kernel⟩
abbrev wp:Stmt:=top 37
theorem zfC:FnScope ["marks","number"] ["marks","number"] (zc wp):=⟨rfl,rfl,rfl,by decide +kernel,rfl,by decide +kernel,by decide +kernel⟩
abbrev yV:Stmt:=top 39
theorem zeI:FnScope ["marks"] ["marks"] (zc yV):=⟨rfl,rfl,rfl,by decide +kernel,rfl,by decide +kernel,by decide +kernel⟩
abbrev yc:Stmt:=top 52
theorem zcy:FnScope ["sheet","least"] ["sheet","least"] (zc yc):=⟨rfl,rfl,rfl,by decide +kernel,rfl,by decide +kernel,by decide +kernel⟩
abbrev zaL:Stmt:=top 61
theorem zek:FnScope ["_law_found","_law_due_here","_law_k"] ["_law_found","_law_due_here"] (zc zaL):=⟨rfl,rfl,rfl,by decide +kernel,rfl,by decide +kernel,by decide +kernel⟩
abbrev zat:Stmt:=top 67
theorem zQ:FnScope ["_law_cell","_law_many_here","_law_letters","_law_made","_law_left","_law_k","_law_name","_law_size","_law_j"] ["_law_cell","_law_many_here"] (zc zat):=⟨rfl,rfl,rfl,by decide +kernel,rfl,by decide +kernel,by decide +kernel⟩
abbrev zaS:Stmt:=top 68
theorem yi:FnScope ["_law_cell","_law_couples_here","_law_style","_law_pool","_law_turn","_law_left","_law_made","_law_k","_law_spot"] ["_law_cell","_law_couples_here","_law_style"] (zc zaS):=⟨rfl,rfl,rfl,by decide +kernel,rfl,by decide +kernel,by decide +kernel⟩
abbrev wb:Stmt:=top 72
theorem zdA:FnScope ["_law_cards","_law_couples_here","_law_ranks"] ["_law_cards","_law_couples_here"] (zc wb):=⟨rfl,rfl,rfl,by decide +kernel,rfl,by decide +kernel,by decide +kernel⟩
abbrev zbn:Stmt:=top 80
theorem zh7:FnScope ["_law_deed","_law_shut","_law_held","_law_into","_law_couples_here","_law_couple","_law_card_here"] ["_law_deed","_law_shut","_law_held","_law_into","_law_couples_here","_law_couple","_law_card_here"] (zc zbn):=⟨rfl,rfl,rfl,by decide +kernel,rfl,by decide +kernel,by decide +kernel⟩
abbrev yK:Stmt:=wz (top 32) 8
theorem zeP:FnScope ["self"] ["self"] (zc yK):=⟨rfl,rfl,rfl,by decide +kernel,rfl,by decide +kernel,by decide +kernel⟩
abbrev yL:Stmt:=top 24
theorem zfj:FnScope ["judges"] ["judges"] (zc yL):=⟨rfl,rfl,rfl,by decide +kernel,rfl,by decide +kernel,by decide +kernel⟩
abbrev wC:Stmt:=top 40
theorem zgS:FnScope ["marks","last"] ["marks","last"] (zc wC):=⟨rfl,rfl,rfl,by decide +kernel,rfl,by decide +kernel,by decide +kernel⟩
abbrev zaj:Stmt:=top 43
theorem zdG:FnScope ["one","other","number"] ["one","other"] (zc zaj):=⟨rfl,rfl,rfl,by decide +kernel,rfl,by decide +kernel,by decide +kernel⟩
abbrev yp:Stmt:=top 54
theorem zdR:FnScope ["sheet","judge"] ["sheet","judge"] (zc yp):=⟨rfl,rfl,rfl,by decide +kernel,rfl,by decide +kernel,by decide +kernel⟩
abbrev zak:Stmt:=top 63
theorem zdE:FnScope ["_law_found","_law_due_here","_law_k"] ["_law_found","_law_due_here"] (zc zak):=⟨rfl,rfl,rfl,by decide +kernel,rfl,by decide +kernel,by decide +kernel⟩
abbrev zaw:Stmt:=top 69
theorem zgX:FnScope ["_law_cell","_law_used","_law_couples_here","_law_style"] ["_law_cell","_law_used","_law_couples_here","_law_style"] (zc zaw):=⟨rfl,rfl,rfl,by decide +kernel,rfl,by decide +kernel,by decide +kernel⟩
abbrev wN:Stmt:=wz (top 32) 0
theorem zfO:FnScope ["self","couples","judges"] ["self","couples","judges"] (zc wN):=⟨rfl,rfl,rfl,by decide +kernel,rfl,by decide +kernel,by decide +kernel⟩
abbrev zaQ:Stmt:=top 42
theorem zen:FnScope ["one","other","number"] ["one","other"] (zc zaQ):=⟨rfl,rfl,rfl,by decide +kernel,rfl,by decide +kernel,by decide +kernel⟩
abbrev wJ:Stmt:=top 57
theorem za4:FnScope ["sheet","place","couple","marks","ladder","head","steps"] ["sheet","place","couple"] (zc wJ):=⟨rfl,rfl,rfl,by decide +kernel,rfl,by decide +kernel,by decide +kernel⟩
abbrev yu:Stmt:=top 73
theorem wY:FnScope ["_law_sheet","_law_names_here","_law_couples_here","_law_gone","_law_cards","_law_many_here","_law_shut","_law_into","_law_k","_law_count","_law_sealed"] ["_law_sheet","_law_names_here","_law_couples_here","_law_gone","_law_cards","_law_many_here","_law_shut"] (zc yu):=⟨rfl,rfl,rfl,by decide +kernel,rfl,by decide +kernel,by decide +kernel⟩
abbrev yM:Stmt:=top 45
theorem ze7:FnScope ["rows","own"] ["rows","own"] (zc yM):=⟨rfl,rfl,rfl,by decide +kernel,rfl,by decide +kernel,by decide +kernel⟩
abbrev wd:Stmt:=top 44
theorem zdN:FnScope ["cards","couples","rows"] ["cards","couples"] (zc wd):=⟨rfl,rfl,rfl,by decide +kernel,rfl,by decide +kernel,by decide +kernel⟩
abbrev zbZ:Stmt:=top 47
theorem zjQ:FnScope ["sheet"] ["sheet"] (zc zbZ):=⟨rfl,rfl,rfl,by decide +kernel,rfl,by decide +kernel,by decide +kernel⟩
abbrev zaR:Stmt:=top 49
theorem zhv:FnScope ["sheet","judge"] ["sheet","judge"] (zc zaR):=⟨rfl,rfl,rfl,by decide +kernel,rfl,by decide +kernel,by decide +kernel⟩
abbrev zaP:Stmt:=top 51
theorem zbI:FnScope ["sheet","judge","couple","card","stepped","passed","cards"] ["sheet","judge","couple"] (zc zaP):=⟨rfl,rfl,rfl,by decide +kernel,rfl,by decide +kernel,by decide +kernel⟩
abbrev wH:Stmt:=top 53
theorem zgH:FnScope ["cards","couples"] ["cards","couples"] (zc wH):=⟨rfl,rfl,rfl,by decide +kernel,rfl,by decide +kernel,by decide +kernel⟩
abbrev zb4:Stmt:=top 48
theorem zjP:FnScope ["sheet"] ["sheet"] (zc zb4):=⟨rfl,rfl,rfl,by decide +kernel,rfl,by decide +kernel,by decide +kernel⟩
abbrev zam:Stmt:=top 56
theorem zdF:FnScope ["sheet","couple","all_places"] ["sheet","couple"] (zc zam):=⟨rfl,rfl,rfl,by decide +kernel,rfl,by decide +kernel,by decide +kernel⟩
abbrev wj:Stmt:=top 82
theorem zc7:FnScope ["_law_sheet","_law_cards","_law_couples_here","_law_into"] ["_law_sheet","_law_cards","_law_couples_here"] (zc wj):=⟨rfl,rfl,rfl,by decide +kernel,rfl,by decide +kernel,by decide +kernel⟩
abbrev zai:Stmt:=top 50
theorem zee:FnScope ["sheet","now"] ["sheet"] (zc zai):=⟨rfl,rfl,rfl,by decide +kernel,rfl,by decide +kernel,by decide +kernel⟩
abbrev zb3:Stmt:=top 78
theorem zju:FnScope ["_law_sheet","_law_deed","_law_judge","_law_couple","_law_card_here"] ["_law_sheet","_law_deed","_law_judge","_law_couple","_law_card_here"] (zc zb3):=⟨rfl,rfl,rfl,by decide +kernel,rfl,by decide +kernel,by decide +kernel⟩
abbrev zaY:Stmt:=top 79
theorem yH:FnScope ["_law_sheet","_law_deed","_law_judge","_law_couple","_law_card_here","_law_told","e"] ["_law_sheet","_law_deed","_law_judge","_law_couple","_law_card_here"] (zc zaY):=⟨rfl,rfl,rfl,by decide +kernel,rfl,by decide +kernel,by decide +kernel⟩
abbrev zcw:Stmt:=top 83
theorem yt:FnScope ["_law_script","_law_mode","_law_couples_here","_law_names_here","_law_style","_law_sheet","_law_cards","_law_gone","_law_many_here","_law_shut","_law_cell","_law_deed","_law_judge","_law_who","_law_couple","_law_card_here","_law_into","_law_due_here"] ["_law_script"] (zc zcw):=⟨rfl,rfl,rfl,by decide +kernel,rfl,by decide +kernel,by decide +kernel⟩
def zbv(K:PySem.W.Frag):Sp:=fun vs H Q _=>∃(p:Addr) (F:Addr→Prop) (S:Sh),vs = [.ref p]∧zA K H p F S∧Q (.int S.taken) H
section
variable {P:Program} {w:World} {K:PySem.W.Frag} {mg:Str→Option Value} {base:Heap}
theorem zeV{f:Addr}{fd:FuncData}(F:Fun K "taken" "Sheet.taken" wu f fd)(T:Txt K mg):FnOk P w K mg base CX0 1 f fd ["self"] (zbv K):=by
 refine F.ok zeU (fun vs H Q E h=>?_) (fun cdv A outer s H vs Q E hr h=>?_)
 ·obtain⟨p,F,S,rfl,_⟩:=h
  rfl
 ·obtain⟨p,F,S,rfl,⟨dx,a1,a2,a3,d,kvs,h⟩,q⟩:=h
  refine⟨_,(zg (zm (yJ (pv 0) rfl))),?_⟩
  exact⟨_,rfl,p,_,dx,_,_,rfl,h.ip,T.cl_Sheet,T.n_Sheet_taken_so_far,rfl,q⟩
end
def zaf(K:PySem.W.Frag):Sp:=fun vs H Q _=>∃(p:Addr) (F:Addr→Prop) (S:Sh),vs = [.ref p]∧zA K H p F S∧Q (.bl S.shut) H
section
variable {P:Program} {w:World} {K:PySem.W.Frag} {mg:Str→Option Value} {base:Heap}
theorem zdh{f:Addr}{fd:FuncData}(F:Fun K "is_sealed" "Sheet.is_sealed" yo f fd)(T:Txt K mg):FnOk P w K mg base CX0 1 f fd ["self"] (zaf K):=by
 refine F.ok zdd (fun vs H Q E h=>?_) (fun cdv A outer s H vs Q E hr h=>?_)
 ·obtain⟨p,F,S,rfl,_⟩:=h
  rfl
 ·obtain⟨p,F,S,rfl,⟨dx,a1,a2,a3,d,kvs,h⟩,q⟩:=h
  refine⟨_,(zg (zm (yJ (pv 0) rfl))),?_⟩
  exact⟨_,rfl,p,_,dx,_,_,rfl,h.ip,T.cl_Sheet,T.n_Sheet_sealed,rfl,q⟩
end
def zR(K:PySem.W.Frag):Sp:=fun vs H Q E=>∃(p:Addr) (F:Addr→Prop) (S:Sh),vs = [.ref p]∧zA K H p F S∧(S.shut=true→∀C,zf K "SheetSealed" C→E (.ref C) none H)∧(S.shut=false→Q .non H)
section
variable {P:Program} {w:World} {K:PySem.W.Frag} {mg:Str→Option Value} {base:Heap}
theorem zbL{f:Addr}{fd:FuncData}(F:Fun K "refuse_if_sealed" "Sheet.refuse_if_sealed" zN f fd)(T:Txt K mg):FnOk P w K mg base (CX1 P w) 1 f fd ["self"] (zR K):=by
 obtain⟨c_SheetSealed,n_SheetSealed,m_SheetSealed,x_SheetSealed⟩:=T.x_SheetSealed
 refine F.okX zbJ (fun vs H Q E h=>?_) (fun X W cdv A outer s H vs Q E hX hW fl md hr h=>?_)
 ·obtain⟨p,F,S,rfl,_⟩:=h
  rfl
 ·obtain⟨p,F,S,rfl,⟨dx,a1,a2,a3,d,kvs,h⟩,qE,q⟩:=h
  subst hX
  refine⟨_,(zg (zC (yN (yJ (pv 0) rfl)) (zg (y9 rfl md rfl m_SheetSealed x_SheetSealed (za zD zb))) zw)),?_⟩
  refine⟨_,rfl,p,_,dx,_,_,rfl,h.ip,T.cl_Sheet,T.n_Sheet_sealed,rfl,_,rfl,zfF (fun hs=>?_) (fun hs=>q hs)⟩
  exact⟨(by show 1≤sizeLine;decide),by rw[hW];exact qE hs _ n_SheetSealed⟩
end
def zS(K:PySem.W.Frag):Sp:=fun vs H Q E=>∃(p:Addr) (F:Addr→Prop) (S:Sh) (j:Str),vs = [.ref p,.str j]∧zA K H p F S∧(j∉S.panel→∀C,zf K "UnknownJudge" C→E (.ref C) none H)∧(j∈S.panel→Q .non H)
section
variable {P:Program} {w:World} {K:PySem.W.Frag} {mg:Str→Option Value} {base:Heap}
theorem za3{f:Addr}{fd:FuncData}(F:Fun K "refuse_unknown_judge" "Sheet.refuse_unknown_judge" zH f fd)(T:Txt K mg):FnOk P w K mg base (CX1 P w) 1 f fd ["self","judge"] (zS K):=by
 obtain⟨c_UnknownJudge,n_UnknownJudge,m_UnknownJudge,x_UnknownJudge⟩:=T.x_UnknownJudge
 refine F.okX za2 (fun vs H Q E h=>?_) (fun X W cdv A outer s H vs Q E hX hW fl md hr h=>?_)
 ·obtain⟨p,F,S,j,rfl,_⟩:=h
  rfl
 ·obtain⟨p,F,S,j,rfl,⟨dx,a1,a2,a3,d,kvs,h⟩,qE,q⟩:=h
  subst hX
  refine⟨_,(zg (zC (zl zaz (pv 1) (yJ (pv 0) rfl) (by first | exact zt _ | rfl)) (zg (y9 rfl md rfl m_UnknownJudge x_UnknownJudge (za zD zb))) zw)),?_⟩
  refine⟨_,rfl,_,rfl,p,_,dx,_,_,rfl,h.ip,T.cl_Sheet,T.n_Sheet_panel,rfl,_,_,rfl,.inl (SqL.of h.i3),rfl,zdS _,_,rfl,?_⟩
  rw[zhE]
  refine wl (fun hj=>?_) (fun hj=>q hj)
  exact⟨(by show 1≤sizeLine;decide),by rw[hW];exact qE hj _ n_UnknownJudge⟩
end
def zO(K:PySem.W.Frag):Sp:=fun vs H Q _=>∃(p:Addr) (F:Addr→Prop) (S:Sh),vs = [.ref p]∧zA K H p F S∧∀(l:Addr) (H':Hp),zj H H'→H l=none→H' l=some (.lst (S.couples.map V.int))→Q (.ref l) H'
section
variable {P:Program} {w:World} {K:PySem.W.Frag} {mg:Str→Option Value} {base:Heap}
theorem zdT{f:Addr}{fd:FuncData}(F:Fun K "couples" "Sheet.couples" yE f fd)(T:Txt K mg):FnOk P w K mg base CX0 1 f fd ["self"] (zO K):=by
 refine F.ok zd5 (fun vs H Q E h=>?_) (fun cdv A outer s H vs Q E hr h=>?_)
 ·obtain⟨p,F,S,rfl,_⟩:=h
  rfl
 ·obtain⟨p,F,S,rfl,⟨dx,a1,a2,a3,d,kvs,h⟩,q⟩:=h
  refine⟨_,(zg (zm (zF yh (by rfl) T.b_list PyProof.Rows.boot_list (za (yJ (pv 0) rfl) zb)))),?_⟩
  exact⟨_,rfl,p,_,dx,_,_,rfl,h.ip,T.cl_Sheet,T.n_Sheet_standing,rfl,_,_,rfl,.inl (SqL.of h.i1),fun l hl=>q l _ (zj.new hl) hl ze⟩
end
def zba(K:PySem.W.Frag):Sp:=fun vs H Q _=>∃(p:Addr) (F:Addr→Prop) (S:Sh),vs = [.ref p]∧zA K H p F S∧∀(l:Addr) (H':Hp),zj H H'→H l=none→H' l=some (.lst (S.struck.map V.int))→Q (.ref l) H'
section
variable {P:Program} {w:World} {K:PySem.W.Frag} {mg:Str→Option Value} {base:Heap}
theorem zeE{f:Addr}{fd:FuncData}(F:Fun K "struck" "Sheet.struck" yY f fd)(T:Txt K mg):FnOk P w K mg base CX0 1 f fd ["self"] (zba K):=by
 refine F.ok zeF (fun vs H Q E h=>?_) (fun cdv A outer s H vs Q E hr h=>?_)
 ·obtain⟨p,F,S,rfl,_⟩:=h
  rfl
 ·obtain⟨p,F,S,rfl,⟨dx,a1,a2,a3,d,kvs,h⟩,q⟩:=h
  refine⟨_,(zg (zm (zF yh (by rfl) T.b_list PyProof.Rows.boot_list (za (yJ (pv 0) rfl) zb)))),?_⟩
  exact⟨_,rfl,p,_,dx,_,_,rfl,h.ip,T.cl_Sheet,T.n_Sheet_struck_so_far,rfl,_,_,rfl,.inl (SqL.of h.i2),fun l hl=>q l _ (zj.new hl) hl ze⟩
end
def zbd(K:PySem.W.Frag):Sp:=fun vs H Q _=>∃(p:Addr) (F:Addr→Prop) (S:Sh),vs = [.ref p]∧zA K H p F S∧∀(l:Addr) (H':Hp),zj H H'→H l=none→H' l=some (.lst (S.panel.map V.str))→Q (.ref l) H'
section
variable {P:Program} {w:World} {K:PySem.W.Frag} {mg:Str→Option Value} {base:Heap}
theorem zer{f:Addr}{fd:FuncData}(F:Fun K "judges" "Sheet.judges" y8 f fd)(T:Txt K mg):FnOk P w K mg base CX0 1 f fd ["self"] (zbd K):=by
 refine F.ok zeH (fun vs H Q E h=>?_) (fun cdv A outer s H vs Q E hr h=>?_)
 ·obtain⟨p,F,S,rfl,_⟩:=h
  rfl
 ·obtain⟨p,F,S,rfl,⟨dx,a1,a2,a3,d,kvs,h⟩,q⟩:=h
  refine⟨_,(zg (zm (zF yh (by rfl) T.b_list PyProof.Rows.boot_list (za (yJ (pv 0) rfl) zb)))),?_⟩
  exact⟨_,rfl,p,_,dx,_,_,rfl,h.ip,T.cl_Sheet,T.n_Sheet_panel,rfl,_,_,rfl,.inl (SqL.of h.i3),fun l hl=>q l _ (zj.new hl) hl ze⟩
end
def zY(K:PySem.W.Frag):Sp:=fun vs H Q _=>∃(p:Addr) (F:Addr→Prop) (S:Sh),vs = [.ref p]∧zi4 K H p F S∧S.panel.length≤15∧∀(l:Addr) (H':Hp),zj H H'→H l=none→H' l=some (.lst (S.handed.map V.str))→Q (.ref l) H'
section
variable {P:Program} {w:World} {K:PySem.W.Frag} {mg:Str→Option Value} {base:Heap}
theorem zey{f:Addr}{fd:FuncData}(F:Fun K "handed" "Sheet.handed" yB f fd)(T:Txt K mg):FnOk P w K mg base CX0 1 f fd ["self"] (zY K):=by
 refine F.ok zes (fun vs H Q E h=>?_) (fun cdv A outer s H vs Q E hr h=>?_)
 ·obtain⟨p,F,S,rfl,_⟩:=h
  rfl
 ·obtain⟨p,F,S,rfl,⟨dx,a1,a2,a3,d,kvs,h⟩,h15,q⟩:=h
  refine⟨_,(zg (zm (ye (show CompScope (zc yB) ["self"] "judge" ["self"] [0] _ from⟨rfl,by decide +kernel,by decide +kernel,rfl,by decide +kernel,rfl,by decide +kernel,by decide +kernel⟩) rfl (zK (yJ (pv 0) rfl)) (fun _ _ _ _ _=>(zaT (pt_cmp (pc_din (zfX hr) (pv 0) (pe_fldK (K:=K) rfl (pv 1) rfl))))) (fun _ _ _ _ _=>(pv 0))))),?_⟩
  have hln:=zB
  refine⟨_,rfl,p,_,dx,_,_,rfl,h.ip,T.cl_Sheet,T.n_Sheet_panel,rfl,a3,rfl,⟨_,SqL.of h.i3⟩,?_⟩
  refine wa (xs:=S.panel.map V.str) (fun i ys H2=>H2=H∧ys=((S.panel.take i).filter fun j=>(S.card j).isSome).map V.str) ⟨rfl,rfl⟩ ?_ (by rw[List.length_map];omega) ?_ ?_
  ·rintro i ys H2 hi ⟨rfl,rfl⟩
   refine⟨SqL.of h.i3,?_⟩
   rw[List.length_map]
   exact Nat.le_trans (List.length_filter_le _ _) (by rw[List.length_take];omega)
  ·rintro i x ys H2 hx ⟨rfl,rfl⟩
   obtain⟨hi,rfl⟩:=zbD hx
   refine⟨_,rfl,_,rfl,p,_,dx,_,_,rfl,h.ip,T.cl_Sheet,T.n_Sheet_card_by_judge,rfl,d,_,rfl,zdm.k (k:=Sum.inr (S.panel.getD i "")) h.i4,_,rfl,?_⟩
   have hv:(zaG kvs (Sum.inr (S.panel.getD i ""))).isSome=(S.card (S.panel.getD i "")).isSome:=by
    cases e:S.card (S.panel.getD i "")with
    | none=>rw[h.cn _ e];rfl
    | some c=>obtain⟨l,e1,_⟩:=h.cs _ _ e;rw[e1];rfl
   rw[hv]
   refine zfF (fun hb=>?_) (fun hb=>?_)
   ·refine⟨_,rfl,rfl,?_⟩
    rw[yq hi,List.filter_append,List.filter_cons,if_pos hb,List.map_append]
    rfl
   ·refine⟨rfl,?_⟩
    rw[yq hi,List.filter_append,List.filter_cons,if_neg (by rw[hb];exact Bool.false_ne_true)]
    simp
  ·rintro ys H2 ⟨rfl,rfl⟩ l hl
   rw[List.length_map,List.take_length]
   exact q l _ (zj.new hl) hl ze
end
def zbU(K:PySem.W.Frag):Sp:=fun vs H Q _=>∃(a b:Addr) (ns ms:List Int),vs = [.ref a,.ref b]∧SqL K H a (ns.map V.int)∧SqL K H b (ms.map V.int)∧ns.length<64∧ms.length<64∧∀H',zj H H'→Q (.bl (decide (ns.Perm ms))) H'
theorem zhh{ns ms ns' ms':List Int}(h1:ns'.Perm ns)(h2:ns'.Pairwise (·≤ ·))(h3:ms'.Perm ms)(h4:ms'.Pairwise (·≤ ·)):decide (ns'=ms')=decide (ns.Perm ms):=by
 by_cases h:ns.Perm ms
 ·rw[decide_eq_true h]
  exact decide_eq_true (List.Perm.eq_of_pairwise (fun a b _ _ x y=>Int.le_antisymm x y) h2 h4 (h1.trans (h.trans h3.symm)))
 ·rw[decide_eq_false h]
  refine decide_eq_false fun e=>h ?_
  subst e
  exact h1.symm.trans h3
section
variable {P:Program} {w:World} {K:PySem.W.Frag} {mg:Str→Option Value} {base:Heap}
theorem zfL{f:Addr}{fd:FuncData}(F:Fun K "whole_card" "whole_card" wO f fd)(T:Txt K mg):FnOk P w K mg base CX0 1 f fd ["card","couples"] (zbU K):=by
 refine F.ok zfM (fun vs H Q E h=>?_) (fun cdv A outer s H vs Q E hr h=>?_)
 ·obtain⟨a,b,ns,ms,rfl,_⟩:=h
  rfl
 ·obtain⟨a,b,ns,ms,rfl,hA,hB,hz1,hz2,q⟩:=h
  refine⟨_,(zg (zm (zac (zck hr.units0) (zo zcG (by rfl) T.b_sorted PyProof.Rows.boot_sorted (za (pv 0) zb)) (zo zcG (by rfl) T.b_sorted PyProof.Rows.boot_sorted (za (pv 1) zb)) (zt _)))),?_⟩
  refine⟨_,rfl,a,ns,rfl,hA,hz1,fun l1 ns' hl1 p1 w1=>?_⟩
  refine⟨_,rfl,b,ms,rfl,(zj.new hl1).seq hB,hz2,fun l2 ms' hl2 p2 w2=>?_⟩
  refine⟨l1,l2,_,_,rfl,rfl,(zj.new hl2).seq SqL.new,SqL.new,zG _,zG _,?_⟩
  rw[zby,zhh p1 w1 p2 w2]
  exact q _ ((zj.new hl1).newT hl2)
end
def zdo(K:PySem.W.Frag):Sp:=fun vs H Q _=>∃(a:Addr) (ns:List Int) (c:Int),vs = [.ref a,.int c]∧SqL K H a (ns.map V.int)∧c∈ns∧Q (.int ((ns.idxOf c:Nat)+1)) H
section
variable {P:Program} {w:World} {K:PySem.W.Frag} {mg:Str→Option Value} {base:Heap}
theorem zic{f:Addr}{fd:FuncData}(F:Fun K "mark_on" "mark_on" zbo f fd)(T:Txt K mg):FnOk P w K mg base CX0 1 f fd ["card","couple"] (zdo K):=by
 refine F.ok ziC (fun vs H Q E h=>?_) (fun cdv A outer s H vs Q E hr h=>?_)
 ·obtain⟨a,ns,c,rfl,_⟩:=h
  rfl
 ·obtain⟨a,ns,c,rfl,hS,hc,q⟩:=h
  refine⟨_,(zg (zm (zn yj (za1 PySem.F.plainAttrs_list PySem.F.slot_list_index PySem.F.type_list_index zb1 (pv 0) (za (pv 1) zb)) zh))),?_⟩
  refine⟨_,rfl,.inl ⟨rfl,_,hS⟩,_,rfl,a,_,_,rfl,rfl,hS,rfl,zG _,?_,_,_,rfl,rfl,?_⟩
  ·rw[zaE,List.length_map];exact List.idxOf_lt_length_iff.mpr hc
  ·rw[zaE];exact q
end
def zaD(K:PySem.W.Frag):Sp:=fun vs H Q _=>∃(a:Addr) (ns:List Int) (c:Int),vs = [.ref a,.int c]∧SqL K H a (ns.map V.int)∧ns.length≤1000∧∀l H',zj H H'→H l=none→H' l=some (.lst ((ns.filter fun o => !decide (o=c)).map V.int))→Q (.ref l) H'
section
variable {P:Program} {w:World} {K:PySem.W.Frag} {mg:Str→Option Value} {base:Heap}
theorem zdq{f:Addr}{fd:FuncData}(F:Fun K "without_couple" "without_couple" yk f fd)(T:Txt K mg):FnOk P w K mg base CX0 1 f fd ["card","couple"] (zaD K):=by
 refine F.ok zdH (fun vs H Q E h=>?_) (fun cdv A outer s H vs Q E hr h=>?_)
 ·obtain⟨a,ns,c,rfl,_⟩:=h
  rfl
 ·obtain⟨a,ns,c,rfl,hS,hz,q⟩:=h
  refine⟨_,(zg (zm (ye (show CompScope (zc yk) ["card","couple"] "other" ["couple"] [1] _ from⟨rfl,by decide +kernel,by decide +kernel,rfl,by decide +kernel,rfl,by decide +kernel,by decide +kernel⟩) rfl (zK (pv 0)) (fun _ _ _ _ _=>(zaT (zl zbO (pv 0) (pv 1) (zt _)))) (fun _ _ _ _ _=>(pv 0))))),?_⟩
  refine⟨_,rfl,a,rfl,⟨_,hS⟩,?_⟩
  refine wa (xs:=ns.map V.int) (fun i ys H2=>H2=H∧ys=((ns.take i).filter fun o => !decide (o=c)).map V.int) ⟨rfl,rfl⟩ ?_ (by rw[List.length_map];exact Nat.le_trans hz (Nat.le_trans (by decide) zB)) ?_ ?_
  ·rintro i ys H2 hi ⟨rfl,rfl⟩
   refine⟨hS,?_⟩
   rw[List.length_map]
   exact Nat.le_trans (List.length_filter_le _ _) (by rw[List.length_take];omega)
  ·rintro i x ys H2 hx ⟨rfl,rfl⟩
   obtain⟨hi,rfl⟩:=yA hx
   refine⟨_,rfl,_,rfl,rfl,_,rfl,wl (fun hne=>?_) (fun he=>?_)⟩
   ·refine⟨_,rfl,rfl,?_⟩
    have:¬ns.getD i 0=c:=fun e=>hne (by rw[e])
    rw[yy hi,List.filter_append,List.filter_cons_of_pos (by show(!decide (ns.getD i 0=c))=true;rw[decide_eq_false this];rfl),List.map_append]
    rfl
   ·refine⟨rfl,?_⟩
    have:ns.getD i 0=c:=by injection he
    rw[yy hi,List.filter_append,List.filter_cons_of_neg (by show ¬(!decide (ns.getD i 0=c))=true;rw[decide_eq_true this];decide),List.map_append]
    simp
  ·rintro ys H2 ⟨rfl,rfl⟩ l hl
   rw[List.length_map,List.take_length]
   exact q l _ (zj.new hl) hl ze
end
def zd3(K:PySem.W.Frag):Sp:=fun vs H Q E=>∃(a:Addr) (ns:List Int) (i:Nat),vs = [.ref a,.int (ns.getD i 0)]∧SqL K H a (ns.map V.int)∧ns.Nodup∧i<ns.length∧ns.length≤1000∧(∀n∈ns,1≤n∧n≤999) ∧
 (i=0→∀C,zf K "AtTop" C→E (.ref C) none H)∧(0<i→∀l H',zj H H'→H l=none→H' l=some (.lst ((ns.take (i - 1) ++ [ns.getD i 0,ns.getD (i - 1) 0]++ns.drop (i+1)).map V.int))→Q (.ref l) H')
section
variable {P:Program} {w:World} {K:PySem.W.Frag} {mg:Str→Option Value} {base:Heap}
theorem zjL{f:Addr}{fd:FuncData}(F:Fun K "one_up" "one_up" zb5 f fd)(T:Txt K mg):FnOk P w K mg base (CX1 P w) 1 f fd ["card","couple"] (zd3 K):=by
 obtain⟨c_AtTop,n_AtTop,m_AtTop,x_AtTop⟩:=T.x_AtTop
 refine F.okX zdZ (fun vs H Q E h=>?_) (fun X W cdv A outer s H vs Q E hX hW fl md hr h=>?_)
 ·obtain⟨a,ns,i,rfl,_⟩:=h
  rfl
 ·obtain⟨a,ns,i,rfl,hS,hn,hi,hz,hrg,qE,qQ⟩:=h
  subst hX
  refine⟨_,(zd (zy (i:=2) zdZ.nd rfl (Or.inl rfl) (za1 PySem.F.plainAttrs_list PySem.F.slot_list_index PySem.F.type_list_index zb1 (pv 0) (za (pv 1) zb)))
   (zd (zC (zl zT (pv 2) zh (zt _)) (zg (y9 rfl md rfl m_AtTop x_AtTop (za (zi0 (zc3 zD (zc3 (ziw (pv 1)) (zc3 zD pj_nil)))) zb))) zw)
   (zd (zy (i:=3) zdZ.nd rfl (Or.inl rfl) (yn zM (pv 0) (zn zfp (pv 2) zh) (fun _ _=>rfl)))
   (zg (zm (zn yZ (zn yZ (ym we (pv 0) yS (yD (zn zfp (pv 2) zh))) (zP (za (pv 1) (za (pv 3) zb)))) (ym we (pv 0) (yD (zn yj (pv 2) zh)) yS))))))),?_⟩
  have hix:ns.idxOf (ns.getD i 0)=i:=by rw[zeL hi];exact hn.idxOf_getElem i hi
  have hl:=zB
  have hlog:(ns.getD i 0).natAbs.log2<1920:=by
   have:=hrg _ (wT hi)
   exact(Nat.log2_lt (by omega)).mpr (Nat.lt_of_lt_of_le (show(ns.getD i 0).natAbs<2 ^ 10 by omega) (Nat.pow_le_pow_right (by decide) (by decide)))
  refine⟨_,rfl,.inl ⟨rfl,_,hS⟩,_,rfl,a,_,_,rfl,rfl,hS,rfl,zG _,by rw[zaE,hix,List.length_map];exact hi,?_⟩
  rw[zaE,hix]
  refine⟨_,rfl,rfl,_,rfl,zX (fun h0=>?_) (fun h0=>?_)⟩
  ·have h0:i=0:=by injection h0 with h0;omega
   have hL:=PyProof.Rows.int_text_len_1921 hlog
   have l1:(Str.empty++Str.ofString "couple ").length≤0+7:=zgo (by decide) (by decide)
   have l2:=zgo l1 hL
   have l3:=zgo l2 (show(Str.ofString " is the first one on the card").length≤29 by decide)
   exact⟨_,rfl,Nat.le_trans l1 (by decide),_,rfl,.inl ⟨_,rfl,hlog,_,rfl,Nat.le_trans l2 (by decide),_,rfl,Nat.le_trans l3 (by decide),Nat.le_trans l3 (by decide),(by show 1≤sizeLine;decide),by rw[hW];exact qE h0 _ n_AtTop⟩⟩
  ·have h0:0<i:=Nat.pos_of_ne_zero fun z=>h0 (by rw[z];rfl)
   refine⟨_,rfl,_,rfl,_,_,rfl,rfl,a,_,_,_,rfl,rfl,hS,wB (by omega) (by omega),?_⟩
   refine⟨_,rfl,_,rfl,_,_,rfl,rfl,_,rfl,a,_,rfl,hS,fun l1 hl1=>?_⟩
   rw[zaX (by omega),show((i:Int) - 1).toNat=i - 1 by omega]
   refine⟨_,rfl,_,rfl,(by show 2≤sizeLine;decide),fun l2 hl2=>?_⟩
   have s1:=zj.new (o:=.lst ((ns.take (i - 1)).map V.int)) hl1
   have s2:=s1.newT (o:=.lst ([ns.getD i 0,ns.getD (i - 1) 0].map V.int)) hl2
   have n12:l1≠l2:=zk ze hl2
   refine⟨l1,l2,_,[ns.getD i 0,ns.getD (i - 1) 0].map V.int,rfl,rfl,by rw[zi n12];exact ze,ze,by simp only[List.length_map,List.length_take,List.length_cons,List.length_nil];omega,fun l3 hl3=>?_⟩
   rw[← List.map_append]
   have s3:=s2.newT (o:=.lst ((ns.take (i - 1) ++ [ns.getD i 0,ns.getD (i - 1) 0]).map V.int)) hl3
   refine⟨_,rfl,_,rfl,_,_,rfl,rfl,_,rfl,a,_,rfl,s3.seq hS,fun l4 hl4=>?_⟩
   rw[zaW (by omega),show((i:Int)+1).toNat=i+1 by omega]
   have s4:=s3.newT (o:=.lst ((ns.drop (i+1)).map V.int)) hl4
   have n34:l3≠l4:=zk ze hl4
   refine⟨l3,l4,_,_,rfl,rfl,by rw[zi n34];exact ze,ze,by simp only[List.length_map,List.length_append,List.length_take,List.length_drop,List.length_cons,List.length_nil];omega,fun l5 hl5=>?_⟩
   rw[← List.map_append]
   exact qQ h0 l5 _ (s4.newT hl5) (s4.free hl5) ze
end
def zbz(K:PySem.W.Frag):Sp:=fun vs H Q _=>∃(n:Int),vs = [.int n]∧Q (.bl (decide (1≤n) && decide (n≤999))) H
section
variable {P:Program} {w:World} {K:PySem.W.Frag} {mg:Str→Option Value} {base:Heap}
theorem zfw{f:Addr}{fd:FuncData}(F:Fun K "good_number" "good_number" wt f fd)(T:Txt K mg):FnOk P w K mg base CX0 1 f fd ["couple"] (zbz K):=by
 refine F.ok zeS (fun vs H Q E h=>?_) (fun cdv A outer s H vs Q E hr h=>?_)
 ·obtain⟨n,rfl,_⟩:=h
  rfl
 ·obtain⟨n,rfl,q⟩:=h
  refine⟨_,(zg (zm (zfq zfY zfY zh (pv 0) (zcS T.c_MOST_NUMBER rfl)))),?_⟩
  refine⟨_,rfl,_,_,rfl,rfl,_,rfl,zX (fun h1=>?_) (fun h1=>?_)⟩
  ·rw[decide_eq_true h1,Bool.true_and] at q
   exact⟨_,_,rfl,rfl,q⟩
  ·rw[decide_eq_false h1,Bool.false_and] at q
   exact q
end
def za8(K:PySem.W.Frag):Sp:=fun vs H Q _=>∃(c:Nat),vs = [.str ⟨#[c]⟩]∧Q (.bl (zcD c)) H
section
variable {P:Program} {w:World} {K:PySem.W.Frag} {mg:Str→Option Value} {base:Heap}
theorem zeG{f:Addr}{fd:FuncData}(F:Fun K "small_letter" "small_letter" yX f fd)(T:Txt K mg):FnOk P w K mg base CX0 1 f fd ["sign"] (za8 K):=by
 refine F.ok zeD (fun vs H Q E h=>?_) (fun cdv A outer s H vs Q E hr h=>?_)
 ·obtain⟨c,rfl,_⟩:=h
  rfl
 ·obtain⟨c,rfl,q⟩:=h
  refine⟨_,(zg (zm (zfq zgf zgf zD (pv 0) zD))),?_⟩
  unfold zcD at q
  refine⟨_,rfl,_,_,rfl,rfl,_,rfl,?_⟩
  rw[M2.le_a]
  refine zX (fun h1=>?_) (fun h1=>?_)
  ·rw[decide_eq_true h1,Bool.true_and] at q
   refine⟨_,_,rfl,rfl,?_⟩
   rw[M2.le_z]
   exact q
  ·rw[decide_eq_false h1,Bool.false_and] at q
   exact q
end
def wG(K:PySem.W.Frag):Sp:=fun vs H Q _=>∃(x:V) (n:Nat) (m:Int),vs = [x,.int m]∧LenV K x H n∧Q (.bl (decide (1≤(n:Int)) && decide ((n:Int)≤m))) H
section
variable {P:Program} {w:World} {K:PySem.W.Frag} {mg:Str→Option Value} {base:Heap}
theorem zeY{f:Addr}{fd:FuncData}(F:Fun K "good_length" "good_length" wm f fd)(T:Txt K mg):FnOk P w K mg base CX0 1 f fd ["things","most"] (wG K):=by
 refine F.ok zfz (fun vs H Q E h=>?_) (fun cdv A outer s H vs Q E hr h=>?_)
 ·obtain⟨x,n,m,rfl,_⟩:=h
  rfl
 ·obtain⟨x,n,m,rfl,hx,q⟩:=h
  refine⟨_,(zg (zm (zfq zfY zfY zh (zo call_len (by rfl) T.b_len PySem.boot_len (za (pv 0) zb)) (pv 1)))),?_⟩
  refine⟨_,rfl,x,n,rfl,hx,_,_,rfl,rfl,_,rfl,zX (fun h1=>?_) (fun h1=>?_)⟩
  ·rw[decide_eq_true h1,Bool.true_and] at q
   exact⟨_,rfl,_,_,rfl,rfl,q⟩
  ·rw[decide_eq_false h1,Bool.false_and] at q
   exact q
end
def zaZ(K:PySem.W.Frag):Sp:=fun vs H Q _=>∃a:Addr,vs = [.ref a]∧((∃ns:List Int,SqL K H a (ns.map V.int)∧ns.length<4000∧∀H',zj H H'→Q (.bl (decide ns.Nodup)) H')∨∃ts:List Str,SqL K H a (ts.map V.str)∧ts.length<4000∧Q (.bl (decide ts.Nodup)) H)
section
variable {P:Program} {w:World} {K:PySem.W.Frag} {mg:Str→Option Value} {base:Heap}
theorem zfT{f:Addr}{fd:FuncData}(F:Fun K "all_unlike" "all_unlike" wS f fd)(T:Txt K mg):FnOk P w K mg base CX0 1 f fd ["things"] (zaZ K):=by
 refine F.ok zfV (fun vs H Q E h=>?_) (fun cdv A outer s H vs Q E hr h=>?_)
 ·obtain⟨a,rfl,_⟩:=h
  rfl
 ·obtain⟨a,rfl,h⟩:=h
  refine⟨_,(zg (zm (zac zT (pe_both (zo call_len_set (by rfl) T.b_len PySem.boot_len (za (zF (zgP rfl) (by rfl) T.b_set PyProof.Rows.boot_set (za (pv 0) zb)) zb)) (zid rfl (by rfl) T.b_len (by rfl) T.b_set (pv 0))) (zo zq (by rfl) T.b_len PySem.boot_len (za (pv 0) zb)) (zt _)))),?_⟩
  rcases h with⟨ns,hS,hz,q⟩ | ⟨ts,hS,hz,q⟩
  ·refine .inl ⟨_,rfl,a,ns,rfl,hS,hz,fun l hl=>?_⟩
   refine⟨l,_,_,rfl,ze,_,rfl,a,_,rfl,.inl ((zj.new hl).seq hS),rfl,?_⟩
   have e:decide (V.int ((PyProof.Rows.firstMet (fun i=>ns.getD i 0) ns.length).length:Int)=V.int ((ns.map V.int).length:Int))=decide ns.Nodup:=by
    rw[List.length_map]
    by_cases h:ns.Nodup
    ·rw[decide_eq_true h,(zht ns).mpr h];exact decide_eq_true rfl
    ·rw[decide_eq_false h]
     refine decide_eq_false fun z=>h ((zht ns).mp ?_)
     injection z with z
     exact Int.ofNat.inj z
   rw[e]
   exact q _ (zj.new hl)
  ·refine .inr ⟨_,rfl,a,ts,rfl,hS,hz,?_⟩
   refine⟨_,rfl,a,_,rfl,.inl hS,rfl,?_⟩
   have e:decide (V.int ((met (fun i=>ts.getD i "") ts.length).length:Int)=V.int ((ts.map V.str).length:Int))=decide ts.Nodup:=by
    rw[List.length_map]
    by_cases h:ts.Nodup
    ·rw[decide_eq_true h,(zhL ts "").mpr h];exact decide_eq_true rfl
    ·rw[decide_eq_false h]
     refine decide_eq_false fun z=>h ((zhL ts "").mp ?_)
     injection z with z
     exact Int.ofNat.inj z
   rw[e]
   exact q
end
def zbB(K:PySem.W.Frag):Sp:=fun vs H Q _=>∃(n:Int),vs = [.int n]∧Q (.int (n/2+1)) H
section
variable {P:Program} {w:World} {K:PySem.W.Frag} {mg:Str→Option Value} {base:Heap}
theorem zeR{f:Addr}{fd:FuncData}(F:Fun K "majority_of" "majority_of" wq f fd)(T:Txt K mg):FnOk P w K mg base CX0 1 f fd ["many"] (zbB K):=by
 refine F.ok zfb (fun vs H Q E h=>?_) (fun cdv A outer s H vs Q E hr h=>?_)
 ·obtain⟨n,rfl,_⟩:=h
  rfl
 ·obtain⟨n,rfl,q⟩:=h
  refine⟨_,(zg (zm (zn yj (zn yx (pv 0) zh) zh))),?_⟩
  exact⟨_,rfl,_,_,rfl,rfl,⟨by decide,by decide⟩,_,_,rfl,rfl,q⟩
end
def zbP(K:PySem.W.Frag):Sp:=fun vs H Q _=>∃(a:Addr) (ms:List Int) (n:Int),vs = [.ref a,.int n]∧SqL K H a (ms.map V.int)∧ms.length≤1000∧∀(l:Addr) (H':Hp),zj H H'→H l=none→H' l=some (.lst ((M3.got ms n).map V.int))→Q (.ref l) H'
section
variable {P:Program} {w:World} {K:PySem.W.Frag} {mg:Str→Option Value} {base:Heap}
theorem zhg{f:Addr}{fd:FuncData}(F:Fun K "granting" "granting" zag f fd)(T:Txt K mg):FnOk P w K mg base CX0 1 f fd ["marks","number"] (zbP K):=by
 refine F.ok zhm (fun vs H Q E h=>?_) (fun cdv A outer s H vs Q E hr h=>?_)
 ·obtain⟨a,ms,n,rfl,_⟩:=h
  rfl
 ·obtain⟨a,ms,n,rfl,hS,hz,q⟩:=h
  refine⟨_,(zg (zm (ye (show CompScope (zc zag) ["marks","number"] "mark" ["number"] [1] _ from⟨rfl,by decide +kernel,by decide +kernel,rfl,by decide +kernel,rfl,by decide +kernel,by decide +kernel⟩) rfl (zK (pv 0)) (fun _ _ _ _ _=>(zaT (zl zfY (pv 0) (pv 1) (zt _)))) (fun _ _ _ _ _=>(pv 0))))),?_⟩
  refine⟨_,rfl,a,rfl,⟨_,hS⟩,?_⟩
  refine wa (xs:=ms.map V.int) (fun i ys H2=>H2=H∧ys=(M3.got (ms.take i) n).map V.int) ⟨rfl,rfl⟩ ?_ (by rw[List.length_map];have:=zB;omega) ?_ ?_
  ·rintro i ys H2 hi ⟨rfl,rfl⟩
   refine⟨hS,?_⟩
   rw[List.length_map]
   have:=M3.zcC (ms.take i) n
   unfold M3.cnt at this
   rw[List.length_take] at this
   omega
  ·rintro i x ys H2 hx ⟨rfl,rfl⟩
   obtain⟨hi,rfl⟩:=yA hx
   refine⟨_,rfl,_,rfl,_,_,rfl,rfl,_,rfl,zX (fun h=>?_) (fun h=>?_)⟩
   ·refine⟨_,rfl,rfl,?_⟩
    rw[M3.zdx n hi,if_pos h,List.map_append]
    rfl
   ·refine⟨rfl,?_⟩
    rw[M3.zdx n hi,if_neg h]
  ·rintro ys H2 ⟨rfl,rfl⟩ l hl
   rw[List.length_map,List.take_length]
   exact q l _ (zj.new hl) hl ze
end
def zbi(K:PySem.W.Frag):Sp:=fun vs H Q _=>∃x b1 b2,vs = [x]∧isInt x=some b1∧isBool x=some b2∧Q (.bl (b1 && !b2)) H
section
variable {P:Program} {w:World} {K:PySem.W.Frag} {mg:Str→Option Value} {base:Heap}
theorem zgJ{f:Addr}{fd:FuncData}(F:Fun K "_law_whole" "_law_whole" zau f fd)(T:Txt K mg):FnOk P w K mg base CX0 1 f fd ["_law_found"] (zbi K):=by
 refine F.ok zgC (fun vs H Q E h=>?_) (fun cdv A outer s H vs Q E hr h=>?_)
 ·obtain⟨x,b1,b2,rfl,_⟩:=h
  rfl
 ·obtain⟨x,b1,b2,rfl,h1,h2,k⟩:=h
  refine⟨_,(zg (zm (zcp (zo zgG (by rfl) T.b_isinstance PyProof.Rows.boot_isinstance (za (pv 0) (za (zcb (v:=V.ty "int") rfl T.b_int PyProof.Rows.boot_int rfl) zb))) (zdi (pe_not (zo zc9 (by rfl) T.b_isinstance PyProof.Rows.boot_isinstance (za (pv 0) (za (zcb (v:=V.ty "bool") rfl T.b_bool PyProof.Rows.boot_bool rfl) zb)))))))),?_⟩
  refine⟨_,rfl,x,b1,rfl,h1,_,rfl,?_⟩
  cases b1 with
  | false=>exact zbj k
  | true=>exact zfQ ⟨_,rfl,x,b2,rfl,h2,_,rfl,k⟩
end
def zdY(K:PySem.W.Frag):Sp:=fun vs H Q _=>∃(a:Addr) (ns:List Int) (k:Int),vs = [.ref a,.int k]∧SqL K H a (ns.map V.int)∧0≤k∧Q (.int (ns.getD k.toNat 0)) H
section
variable {P:Program} {w:World} {K:PySem.W.Frag} {mg:Str→Option Value} {base:Heap}
theorem zjk{f:Addr}{fd:FuncData}(F:Fun K "_law_at" "_law_at" zb6 f fd)(T:Txt K mg):FnOk P w K mg base CX0 1 f fd ["_law_script","_law_k"] (zdY K):=by
 refine F.ok zje (fun vs H Q E h=>?_) (fun cdv A outer s H vs Q E hr h=>?_)
 ·obtain⟨a,ns,k,rfl,_⟩:=h
  rfl
 ·obtain⟨a,ns,k,rfl,hS,h0,q⟩:=h
  refine⟨_,(zd (zC (zl zeW (pv 1) (zo zq (by rfl) T.b_len PySem.boot_len (za (pv 0) zb)) (zt _)) (zg (zm (yn zM (pv 0) (pv 1) (fun _ _=>rfl)))) zw)
   (zg (zm zh))),?_⟩
  refine⟨_,rfl,_,rfl,a,_,rfl,.inl hS,_,_,rfl,rfl,_,rfl,zX (fun hk=>?_) (fun hk=>?_)⟩
  ·rw[List.length_map] at hk
   exact⟨_,rfl,_,rfl,a,_,k,_,rfl,rfl,hS,wB h0 hk,q⟩
  ·rw[List.length_map] at hk
   show Q (.int 0) H
   rw[List.getD_eq_getElem?_getD,List.getElem?_eq_none (by omega)] at q
   exact q
end
def zcs(K:PySem.W.Frag):Sp:=fun vs H Q _=>∃(a b:Addr) (ts us:List Str),vs = [.ref a,.ref b]∧SqL K H a (ts.map V.str)∧SqL K H b (us.map V.str)∧us.length≤1000000∧Q (.bl (decide (ts=us))) H
theorem zjf{ts us:List Str}(hl:ts.length=us.length)(h:∀j,j<us.length→ts.getD j "" = us.getD j ""):ts=us:=by
 refine List.ext_getElem hl fun j h1 h2=>?_
 have:=h j h2
 rwa [List.getD_eq_getElem?_getD,List.getD_eq_getElem?_getD,List.getElem?_eq_getElem h1,List.getElem?_eq_getElem h2] at this
section
variable {P:Program} {w:World} {K:PySem.W.Frag} {mg:Str→Option Value} {base:Heap}
theorem zg2{f:Addr}{fd:FuncData}(F:Fun K "_law_texts" "_law_texts" zan f fd)(T:Txt K mg):FnOk P w K mg base CX0 1 f fd ["_law_found","_law_due_here"] (zcs K):=by
 refine F.ok zdz (fun vs H Q E h=>?_) (fun cdv A outer s H vs Q E hr h=>?_)
 ·obtain⟨a,b,ts,us,rfl,_⟩:=h
  rfl
 ·obtain⟨a,b,ts,us,rfl,hA,hB,hz,q⟩:=h
  refine⟨_,(zd (zC (PW.pt (zeg (wv (yN (zo zbW (by rfl) T.b_isinstance PyProof.Rows.boot_isinstance (za (pv 0) (za (zcb (v:=V.ty "list") rfl T.b_list PyProof.Rows.boot_list rfl) zb))))) (zcA (zl zbO (zo zq (by rfl) T.b_len PySem.boot_len (za (pv 0) zb)) (zo zq (by rfl) T.b_len PySem.boot_len (za (pv 1) zb)) (zt _))))) (zg (zm wZ)) zw)
   (zd (za5 PassesOwn.never rfl (zao rfl T.b_range (za (zo zq (by rfl) T.b_len PySem.boot_len (za (pv 1) zb)) zb)) (yR (i:=2) zdz.nd rfl (Or.inl rfl))
     (zg (zC (PW.pt (zeg (wv (yN (zo zgR (by rfl) T.b_isinstance PyProof.Rows.boot_isinstance (za (yn zM (pv 0) (pv 2) (fun _ _=>rfl)) (za (zcb (v:=V.ty "str") rfl T.b_str PyProof.Rows.boot_str rfl) zb))))) (zcA (zl zbO (yn zM (pv 0) (pv 2) (fun _ _=>rfl)) (yn zM (pv 1) (pv 2) (fun _ _=>rfl)) (zt _))))) (zg (zm wZ)) zw)))
   (zg (zm wZ)))),?_⟩
  refine⟨_,rfl,_,_,rfl,.yes hA,_,rfl,zbj ?_⟩
  refine⟨_,rfl,a,_,rfl,.inl hA,_,rfl,b,_,rfl,.inl hB,rfl,_,rfl,?_⟩
  rw[List.length_map,List.length_map]
  refine wl (fun hne=>?_) (fun he=>?_)
  ·show Q (.bl false) H
   have:ts≠us:=fun e=>hne (by rw[e])
   rw[decide_eq_false this] at q
   exact q
  ·have hl:ts.length=us.length:=by injection he with he;exact Int.ofNat.inj he
   refine⟨_,rfl,b,_,rfl,.inl hB,_,rfl,by omega,by rw[List.length_map];omega,?_⟩
   rw[List.length_map]
   refine zal (fun i σ H2=>∃v,σ = [some (.ref a),some (.ref b),v]∧H2=H∧∀j,j<i→ts.getD j "" = us.getD j "") ⟨_,rfl,rfl,fun j hj=>by omega⟩ ?_ ?_
   ·rintro i σ H2 hi ⟨v,rfl,rfl,hj⟩
    have hi':i<us.length:=by simpa using hi
    have e1:atI (ts.map V.str) (0+(i:Int))=some (.str (ts.getD i "")):=by rw[Int.zero_add];exact zae (zeM (by omega))
    have e2:atI (us.map V.str) (0+(i:Int))=some (.str (us.getD i "")):=by rw[Int.zero_add];exact zae (zeM hi')
    refine⟨_,rfl,_,rfl,a,_,_,_,rfl,rfl,hA,e1,_,_,rfl,rfl,_,rfl,zbj ?_⟩
    refine⟨_,rfl,_,rfl,a,_,_,_,rfl,rfl,hA,e1,_,rfl,_,rfl,b,_,_,_,rfl,rfl,hB,e2,rfl,_,rfl,wl (fun hne=>?_) (fun he=>?_)⟩
    ·show Q (.bl false) _
     have:ts≠us:=fun e=>hne (by rw[e])
     rw[decide_eq_false this] at q
     exact q
    ·refine⟨_,rfl,rfl,fun j hj'=>?_⟩
     by_cases hji:j=i
     ·subst hji;injection he
     ·exact hj j (by omega)
   ·rintro σ H2 ⟨v,rfl,rfl,hj⟩
    show Q (.bl true) _
    have:ts=us:=zjf hl fun j h=>hj j (by simpa using h)
    rw[decide_eq_true this] at q
    exact q
end
def mixZ(c p:Int):Int:=(c*48271%2147483647+p+1)*69621%2147483647
def zbq(K:PySem.W.Frag):Sp:=fun vs H Q _=>∃c p,vs = [.int c,.int p]∧Q (.int (mixZ c p)) H
section
variable {P:Program} {w:World} {K:PySem.W.Frag} {mg:Str→Option Value} {base:Heap}
theorem zix{f:Addr}{fd:FuncData}(F:Fun K "_law_mix" "_law_mix" zbm f fd)(T:Txt K mg):FnOk P w K mg base CX0 1 f fd ["_law_cell","_law_place"] (zbq K):=by
 refine F.ok zeN (fun vs H Q E h=>?_) (fun cdv A outer s H vs Q E hr h=>?_)
 ·obtain⟨c,p,rfl,_⟩:=h
  rfl
 ·obtain⟨c,p,rfl,q⟩:=h
  refine⟨_,(zd (zy (i:=2) zeN.nd rfl (Or.inl rfl) (zn zZ (zn zg3 (pv 0) zh) zh))
   (zg (zm (zn zZ (zn zg3 (zn yj (zn yj (pv 2) (pv 1)) zh) zh) zh)))),?_⟩
  refine⟨_,rfl,_,_,rfl,rfl,.inr ⟨by decide,by decide⟩,_,_,rfl,rfl,(by show(0:Int)<2147483647;decide),?_⟩
  exact⟨_,rfl,_,rfl,_,_,rfl,rfl,_,_,rfl,rfl,_,_,rfl,rfl,.inr ⟨by decide,by decide⟩,_,_,rfl,rfl,(by show(0:Int)<2147483647;decide),q⟩
end
def zcP(K:PySem.W.Frag):Sp:=fun vs H Q _=>∃(md c a b d:Int),vs = [.int md,.int c,.int a,.int b,.int d]∧a≤b∧b≤d∧∀r:Int,a≤r→r≤d→Q (.int r) H
section
variable {P:Program} {w:World} {K:PySem.W.Frag} {mg:Str→Option Value} {base:Heap}
theorem zhn{f:Addr}{fd:FuncData}(F:Fun K "_law_many" "_law_many" zaM f fd)(T:Txt K mg):FnOk P w K mg base CX0 1 f fd ["_law_mode","_law_cell","_law_least","_law_few","_law_most"] (zcP K):=by
 refine F.ok zhY (fun vs H Q E h=>?_) (fun cdv A outer s H vs Q E hr h=>?_)
 ·obtain⟨md,c,a,b,d,rfl,_⟩:=h
  rfl
 ·obtain⟨md,c,a,b,d,rfl,h1,h2,q⟩:=h
  refine⟨_,(zd (zC (zl zT (pv 0) zh (zt _)) (zg (zm (pv 4))) zw)
   (zd (zC (zl zT (pv 0) zh (zt _)) (zg (zm (zn yj (pv 2) (zn zZ (pv 1) (zn zfp (zn yj (pv 4) zh) (pv 2)))))) zw)
   (zg (zm (zn yj (pv 2) (zn zZ (pv 1) (zn zfp (zn yj (pv 3) zh) (pv 2)))))))),?_⟩
  have e1:=Int.emod_nonneg c (show d+1 - a≠0 by omega)
  have e2:=Int.emod_lt_of_pos c (show 0<d+1 - a by omega)
  have e3:=Int.emod_nonneg c (show b+1 - a≠0 by omega)
  have e4:=Int.emod_lt_of_pos c (show 0<b+1 - a by omega)
  refine⟨_,rfl,rfl,_,rfl,zX (fun _=>⟨_,rfl,q d (by omega) (by omega)⟩) (fun _=>?_)⟩
  refine⟨_,rfl,rfl,_,rfl,zX (fun _=>?_) (fun _=>?_)⟩
  ·exact⟨_,rfl,_,rfl,_,rfl,_,_,rfl,rfl,_,rfl,_,_,rfl,rfl,_,_,rfl,rfl,(by show 0<d+1 - a;omega),_,_,rfl,rfl,q _ (by omega) (by omega)⟩
  ·exact⟨_,rfl,_,rfl,_,rfl,_,_,rfl,rfl,_,rfl,_,_,rfl,rfl,_,_,rfl,rfl,(by show 0<b+1 - a;omega),_,_,rfl,rfl,q _ (by omega) (by omega)⟩
end
def zbF(K:PySem.W.Frag):Sp:=fun vs H Q _=>∃c m,vs = [.int c,.int m]∧0≤m∧m≤1000∧∀l H',zj H H'→H l=none→H' l=some (.lst ((M1.couples c m.toNat).map V.int))→Q (.ref l) H'
section
variable {P:Program} {w:World} {K:PySem.W.Frag} {mg:Str→Option Value} {base:Heap}
theorem zfl{f:Addr}{fd:FuncData}(F:Fun K "_law_couples" "_law_couples" yQ f fd)(T:Txt K mg):FnOk P w K mg base CX0 1 f fd ["_law_cell","_law_many_here"] (zbF K):=by
 refine F.ok zcI (fun vs H Q E h=>?_) (fun cdv A outer s H vs Q E hr h=>?_)
 ·obtain⟨c,m,rfl,_⟩:=h
  rfl
 ·obtain⟨c,m,rfl,h0,h1,q⟩:=h
  refine⟨_,(zd (zy (i:=2) zcI.nd rfl (Or.inr rfl) (yn zM (zP (za zh (za zh (za zh (za zh zb))))) (zn zZ (pv 0) zh) (fun _ _=>rfl)))
   (zg (zm (ye (show CompScope (zc yQ) ["_law_cell","_law_many_here","_law_gap"] "_law_k" ["_law_cell","_law_gap"] [0,2] _ from⟨rfl,by decide +kernel,by decide +kernel,rfl,by decide +kernel,rfl,by decide +kernel,by decide +kernel⟩) rfl (zao rfl T.b_range (za (pv 1) zb)) (fun _ _ _ _ _=>wf) (fun _ _ _ _ _=>(zn yj (zn zZ (zn yj (zn yx (pv 1) zh) (zn zg3 (pv 0) (pv 2))) zh) zh)))))),?_⟩
  refine⟨by decide,fun p hp=>?_⟩
  have g4:0≤c%4∧c%4<4:=⟨Int.emod_nonneg _ (by decide),Int.emod_lt_of_pos _ (by decide)⟩
  have eg:atI [V.int 1,V.int 7,V.int 500,V.int 998] (c%4)=some (.int (M1.gap c)):=by
   have h:c%4=0∨c%4=1∨c%4=2∨c%4=3:=by omega
   unfold M1.gap
   rcases h with h | h | h | h <;> rw[h] <;> rfl
  refine⟨_,rfl,_,_,rfl,rfl,(by show(0:Int)<4;decide),p,_,_,_,rfl,rfl,SqL.new,eg,?_⟩
  refine⟨_,rfl,m,rfl,by omega,by omega,?_⟩
  refine zem (fun i ys H2=>H2=upd H p (.lst [V.int 1,V.int 7,V.int 500,V.int 998])∧ys=(M1.couples c i).map V.int) ⟨rfl,rfl⟩ ?_ (Nat.le_trans (by omega) zB) ?_ ?_
  ·rintro i ys H2 hi ⟨_,rfl⟩
   rw[List.length_map,M1.zep]
   exact Nat.le_refl _
  ·rintro i ys H2 hi ⟨rfl,rfl⟩
   refine⟨_,rfl,_,_,rfl,rfl,⟨by decide,by decide⟩,_,rfl,_,rfl,_,_,rfl,rfl,.inl ⟨by omega,by omega⟩,_,_,rfl,rfl,_,_,rfl,rfl,(by show(0:Int)<999;decide),_,_,rfl,rfl,rfl,?_⟩
   rw[M1.zgK,List.map_append,Int.zero_add]
   rfl
  ·rintro ys H2 ⟨rfl,rfl⟩ l hl
   exact q l _ ((zj.new hp).newT hl) (zj.free (zj.new hp) hl) ze
end
def zcc(K:PySem.W.Frag):Sp:=fun vs H Q _=>∃(a:Addr) (cs:List (List Int)) (c:Int),vs = [.ref a,.int c]∧zdJ K (IL K) H a cs∧cs.length≤1000∧(∀d∈cs,c∈d)∧∀(l:Addr) (H':Hp),zj H H'→H l=none→H' l=some (.lst ((M5.zE cs c).map V.int))→Q (.ref l) H'
section
variable {P:Program} {w:World} {K:PySem.W.Frag} {mg:Str→Option Value} {base:Heap}
theorem zgz{f:Addr}{fd:FuncData}(F:Fun K "_law_marks" "_law_marks" wA f fd)(T:Txt K mg):FnOk P w K mg base CX0 1 f fd ["_law_cards","_law_couple"] (zcc K):=by
 refine F.ok zgZ (fun vs H Q E h=>?_) (fun cdv A outer s H vs Q E hr h=>?_)
 ·obtain⟨a,cs,c,rfl,_⟩:=h
  rfl
 ·obtain⟨a,cs,c,rfl,⟨ls,hS,hR⟩,hz,hm,q⟩:=h
  refine⟨_,(zg (zm (ye (show CompScope (zc wA) ["_law_cards","_law_couple"] "_law_card_here" ["_law_couple"] [1] _ from⟨rfl,by decide +kernel,by decide +kernel,rfl,by decide +kernel,rfl,by decide +kernel,by decide +kernel⟩) rfl (zK (pv 0)) (fun _ _ _ _ _=>wf) (fun _ _ _ _ _=>(zn yj (pe_bmK (K:=K) rfl PySem.F.plainAttrs_list PySem.F.slot_list_index PySem.F.type_list_index (zjo (K:=K) rfl) (pv 0) (za (pv 1) zb)) zh))))),?_⟩
  have hl:=hR.length
  refine⟨_,rfl,a,rfl,⟨_,hS⟩,?_⟩
  refine ya (xs:=ls.map V.ref) (fun i ys H2=>H2=H∧ys=(M5.zE (cs.take i) c).map V.int) ⟨rfl,rfl⟩ ?_ (by rw[List.length_map];have:=zB;omega) ?_ ?_
  ·rintro i ys H2 hi ⟨rfl,rfl⟩
   refine⟨hS,?_⟩
   rw[List.length_map,M5.zap,List.length_take]
   omega
  ·rintro i x ys H2 hx ⟨rfl,rfl⟩
   obtain⟨l,el,rfl⟩:=zay hx
   obtain⟨d,ed,rd⟩:=hR.getL el
   have hmem:=hm d (List.mem_of_getElem? ed)
   refine⟨_,rfl,.inl ⟨rfl,_,rd⟩,_,rfl,l,_,_,rfl,rfl,rd,rfl,zG _,?_⟩
   rw[zaE,List.length_map]
   refine⟨List.idxOf_lt_length_of_mem hmem,_,_,rfl,rfl,rfl,?_⟩
   rw[List.take_succ,ed]
   unfold M5.zE
   rw[List.map_append,List.map_append]
   rfl
  ·rintro ys H2 ⟨rfl,rfl⟩ l hl'
   rw[List.length_map,hl,List.take_length]
   exact q l _ (zj.new hl') hl' ze
end
def zdj(K:PySem.W.Frag):Sp:=fun vs H Q _=>∃(a:Addr) (ms:List Int) (n:Int),vs = [.ref a,.int n]∧SqL K H a (ms.map V.int)∧ms.length≤1000∧0≤n∧n≤1000∧∀(l:Addr) (H':Hp),zj H H'→H l=none→H' l=some (.lst ((M5.key ms n.toNat).map V.int))→Q (.ref l) H'
theorem ziO(ns:List Int):eqL (ns.map V.int) []=decide (ns = []):=by cases ns <;> rfl
section
variable {P:Program} {w:World} {K:PySem.W.Frag} {mg:Str→Option Value} {base:Heap}
theorem zia{f:Addr}{fd:FuncData}(F:Fun K "_law_key" "_law_key" zaV f fd)(T:Txt K mg):FnOk P w K mg base CX0 1 f fd ["_law_marks_here","_law_last"] (zdj K):=by
 refine F.ok zca (fun vs H Q E h=>?_) (fun cdv A outer s H vs Q E hr h=>?_)
 ·obtain⟨a,ms,n,rfl,_⟩:=h
  rfl
 ·obtain⟨a,ms,n,rfl,hS,hz,n0,n1,q⟩:=h
  refine⟨_,(zd (zy (i:=2) zca.nd rfl (Or.inl rfl) (zP zb))
   (zd (za5 PassesOwn.never rfl (zd7 rfl T.b_range (za zh (za (zn yj (pv 1) zh) zb))) (yR (i:=3) zca.nd rfl (Or.inr rfl))
     (zd (zaJ (i:=4) (show CompScope (zc zaV) ["_law_marks_here","_law_last","_law_key_here","_law_number","_law_got"] "_law_mark" ["_law_number"] [3] _ from⟨rfl,by decide +kernel,by decide +kernel,rfl,by decide +kernel,rfl,by decide +kernel,by decide +kernel⟩) rfl zca.nd rfl (Or.inl rfl) (zK (pv 0)) (fun _ _ _ _ _=>(zaT (zl zfY (pv 0) (pv 1) (zt _)))) (fun _ _ _ _ _=>(pv 0)))
   (zd (zcq (zC (PW.pt (zaN (zl (zck hr.units0) (pv 2) (zP zb) (zt _)) (wQ (zl op_gt (zn zg3 zh (zo zq (by rfl) T.b_len PySem.boot_len (za (pv 4) zb))) (zo zq (by rfl) T.b_len PySem.boot_len (za (pv 0) zb)) (zt _))))) (zg (zU (za1 PySem.F.plainAttrs_list PySem.F.slot_list_append PySem.F.type_list_append zaO (pv 2) (za (pv 3) zb)))) zw))
   (zg (zcq (zC (zl (ze5 hr.units0) (pv 2) (zP zb) (zt _)) (zd (zU (za1 PySem.F.plainAttrs_list PySem.F.slot_list_append PySem.F.type_list_append zaO (pv 2) (za (ze0 zdb (zo zq (by rfl) T.b_len PySem.boot_len (za (pv 4) zb))) zb)))
   (zg (zU (za1 PySem.F.plainAttrs_list PySem.F.slot_list_append PySem.F.type_list_append zaO (pv 2) (za (zo (zh4 rfl) (by rfl) T.b_sum PyProof.Rows.boot_sum (za (pv 4) zb)) zb))))) zw))))))
   (zg (zm (pv 2))))),?_⟩
  have hln:=zB
  refine⟨by decide,fun p0 hp0=>?_⟩
  refine⟨_,rfl,_,_,rfl,rfl,_,_,rfl,⟨by decide,by decide,by omega,by omega⟩,?_⟩
  refine zal (fun i σ H2=>∃(v3 v4:Option V),σ = [some (.ref a),some (.int n),some (.ref p0),v3,v4]∧zj H H2∧H2 p0=some (.lst ((M5.key ms i).map V.int))) ⟨_,_,rfl,zj.new hp0,ze⟩ ?_ ?_
  ·rintro i σ H2 hi ⟨v3,v4,rfl,s2,e2⟩
   have hi:i<1000:=by omega
   have hkl:=M5.zi7 ms i
   have hS2:=s2.seq hS
   refine⟨_,rfl,a,rfl,⟨_,hS2⟩,?_⟩
   refine comp_got (ms:=ms) (n:=1+(i:Int)) hS2 (by omega) (fun x R h=>⟨_,rfl,_,rfl,_,_,rfl,rfl,_,rfl,h⟩) (fun x R h=>⟨_,rfl,h⟩) ?_
   intro l3 hl3
   have en:(1:Int)+(i:Int)=(i:Int)+1:=by omega
   rw[en]
   have hgl:(M3.got ms ((i:Int)+1)).length≤ms.length:=M3.zcC ms _
   have hkey:M5.key ms (i+1)=(fun a:List Int=>if a = [] then [] else a ++ [-((M3.got ms ((i:Int)+1)).length:Int),(M3.got ms ((i:Int)+1)).sum]) (if M5.key ms i = []∧ms.length<2*(M3.got ms ((i:Int)+1)).length then [(i:Int)+1] else M5.key ms i):=rfl
   generalize M3.got ms ((i:Int)+1)=g at hgl hkey ⊢
   generalize M5.key ms i=ks at hkl hkey e2 ⊢
   generalize hH3:upd H2 l3 _=H3
   have s3:zj H H3:=by rw[← hH3];exact s2.newT hl3
   have n03:p0≠l3:=zk e2 hl3
   have e3:H3 p0=some (.lst (ks.map V.int)):=by rw[← hH3,zi n03];exact e2
   have t3:H3 l3=some (.lst (g.map V.int)):=by rw[← hH3];exact ze
   have f3:H l3=none:=s2.free hl3
   refine⟨fun σ' H'=>σ' = [some (.ref a),some (.int n),some (.ref p0),some (.int ((i:Int)+1)),some (.ref l3)]∧zj H H'∧H' l3=some (.lst (g.map V.int))∧H' p0=some (.lst ((if ks = []∧ms.length<2*g.length then [(i:Int)+1] else ks).map V.int)),?_,?_⟩
   ·refine⟨_,rfl,by decide,fun p4 hp4=>?_⟩
    have s4:=s3.newT (o:=.lst []) hp4
    have n04:p0≠p4:=zk e3 hp4
    have n34:l3≠p4:=zk t3 hp4
    refine⟨p0,p4,_,_,rfl,rfl,SqL.of (by rw[zi n04];exact e3),SqL.new,zG _,rfl,_,rfl,?_⟩
    rw[ziO]
    refine zX (fun hk=>?_) (fun hk=>zbj ⟨rfl,s4,by rw[zi n34];exact t3,by rw[zi n04,if_neg (fun z=>hk z.1)];exact e3⟩)
    refine⟨_,rfl,l3,_,rfl,.inl (SqL.of (by rw[zi n34];exact t3)),_,_,rfl,rfl,.inl ⟨by decide,by decide⟩,_,rfl,a,_,rfl,.inl (s4.seq hS),_,_,rfl,rfl,_,rfl,?_⟩
    rw[List.length_map,List.length_map]
    refine zX (fun h2=>?_) (fun h2=>⟨rfl,s4,by rw[zi n34];exact t3,by rw[zi n04,if_neg (fun z=>h2 (by omega))];exact e3⟩)
    refine⟨_,rfl,.inl ⟨rfl,_,SqL.of (by rw[zi n04];exact e3)⟩,_,rfl,p0,_,_,rfl,rfl,(by rw[zi n04];exact e3),(by rw[List.length_map];omega),?_⟩
    refine⟨rfl,s4.put hp0,by rw[zi (Ne.symm n03),zi n34];exact t3,?_⟩
    rw[zgU,if_pos ⟨hk,by omega⟩,hk]
    rfl
   rintro σ' H5 ⟨rfl,s5,t5,e5⟩
   have hal:(if ks = []∧ms.length<2*g.length then [(i:Int)+1] else ks).length≤1+2*i:=by
    split
    ·rw[List.length_cons,List.length_nil];omega
    ·exact hkl
   generalize (if ks = []∧ms.length<2*g.length then [(i:Int)+1] else ks)=as at e5 hkey hal
   refine⟨fun σ' H'=>σ' = [some (.ref a),some (.int n),some (.ref p0),some (.int ((i:Int)+1)),some (.ref l3)]∧zj H H'∧H' p0=some (.lst ((if as = [] then [] else as ++ [-(g.length:Int),g.sum]).map V.int)),?_,?_⟩
   ·refine⟨_,rfl,by decide,fun p4 hp4=>?_⟩
    have s4:=s5.newT (o:=.lst []) hp4
    have n04:p0≠p4:=zk e5 hp4
    have n34:l3≠p4:=zk t5 hp4
    refine⟨p0,p4,_,_,rfl,rfl,SqL.of (by rw[zi n04];exact e5),SqL.new,zG _,rfl,_,rfl,?_⟩
    rw[ziO]
    refine wl (fun hk=>?_) (fun hk=>⟨rfl,s4,by rw[zi n04,if_pos hk];rw[hk] at e5;exact e5⟩)
    refine⟨_,rfl,.inl ⟨rfl,_,SqL.of (by rw[zi n04];exact e5)⟩,_,rfl,l3,_,rfl,.inl (SqL.of (by rw[zi n34];exact t5)),_,rfl,p0,_,_,rfl,rfl,(by rw[zi n04];exact e5),(by rw[List.length_map];omega),?_⟩
    rw[List.length_map]
    refine⟨_,rfl,.inl ⟨rfl,_,SqL.of ze⟩,_,rfl,l3,g,rfl,SqL.of (by rw[zi (Ne.symm n03),zi n34];exact t5),p0,_,_,rfl,rfl,ze,(by rw[List.length_append,List.length_map,List.length_cons,List.length_nil];omega),?_⟩
    refine⟨rfl,(s4.put hp0).put hp0,?_⟩
    rw[ze,if_neg hk,List.map_append,List.append_assoc]
    rfl
   rintro σ' H6 ⟨rfl,s6,e6⟩
   exact⟨_,_,rfl,s6,by rw[hkey];exact e6⟩
  ·rintro σ H2 ⟨v3,v4,rfl,s2,e2⟩
   have e:(n+1 - 1).toNat=n.toNat:=by omega
   rw[e] at e2
   exact⟨_,rfl,q p0 _ s2 hp0 e2⟩
end
def zcM(K:PySem.W.Frag):Sp:=fun vs H Q _=>∃(a b:Addr) (ns ms:List Int),vs = [.ref a,.ref b]∧SqL K H a (ns.map V.int)∧SqL K H b (ms.map V.int)∧ms.Nodup∧Q (.bl (decide (ns.Perm ms))) H
theorem zjS{ns ms:List Int}(hn:ms.Nodup)(h:∀x∈ms,ns.count x=1)(hl:ns.length=ms.length):ns.Perm ms :=
 (M1.zeq hn (fun x hx=>List.count_pos_iff.mp (by rw[h x hx];decide)) (Nat.le_of_eq hl)).symm
theorem zij{ns ms:List Int}(hn:ms.Nodup)(h:ns.Perm ms){x:Int}(hx:x∈ms):ns.count x=1:=by
 rw[h.count_eq]
 exact M1.zjy hn hx
section
variable {P:Program} {w:World} {K:PySem.W.Frag} {mg:Str→Option Value} {base:Heap}
theorem zhW{f:Addr}{fd:FuncData}(F:Fun K "_law_good" "_law_good" zaI f fd)(T:Txt K mg):FnOk P w K mg base CX0 1 f fd ["_law_card_here","_law_couples_here"] (zcM K):=by
 refine F.ok zec (fun vs H Q E h=>?_) (fun cdv A outer s H vs Q E hr h=>?_)
 ·obtain⟨a,b,ns,ms,rfl,_⟩:=h
  rfl
 ·obtain⟨a,b,ns,ms,rfl,hA,hB,hn,q⟩:=h
  refine⟨_,(zd (za5 PassesOwn.never rfl (zK (pv 1)) (yR (i:=2) zec.nd rfl (Or.inl rfl))
   (zg (zC (zl zbO (za1 PySem.F.plainAttrs_list PySem.F.slot_list_count PySem.F.type_list_count mt_count (pv 0) (za (pv 2) zb)) zh (zt _)) (zg (zm wZ)) zw)))
   (zg (zm (zac zT (zo zq (by rfl) T.b_len PySem.boot_len (za (pv 0) zb)) (zo zq (by rfl) T.b_len PySem.boot_len (za (pv 1) zb)) (zt _))))),?_⟩
  refine⟨_,rfl,b,rfl,⟨_,hB⟩,zdC (K:=K) (a:=b) (xs:=ms.map V.int) (fun i σ H3=>∃(v2:Option V),σ = [some (.ref a),some (.ref b),v2]∧H3=H∧∀x∈ms.take i,ns.count x=1)
   ⟨_,rfl,rfl,fun x hx=>by simp at hx⟩ (fun i σ H3 _ ⟨_,_,e,_⟩=>by rw[e];exact hB) ?_ ?_⟩
  ·rintro i x σ H3 hx ⟨v2,rfl,rfl,hc⟩
   obtain⟨hi,rfl⟩:=yA hx
   refine⟨_,rfl,.inl ⟨rfl,_,hA⟩,_,rfl,a,_,_,rfl,rfl,hA,rfl,zG _,?_⟩
   rw[zii]
   refine⟨rfl,_,rfl,wl (fun hne=>?_) (fun he=>?_)⟩
   ·show Q (.bl false) _
    have:¬ns.Perm ms:=fun p=>hne (by rw[zij hn p (wT hi)];rfl)
    rw[decide_eq_false this] at q
    exact q
   ·refine⟨_,rfl,rfl,fun x hx=>?_⟩
    rw[yy hi] at hx
    rcases List.mem_append.mp hx with h | h
    ·exact hc x h
    ·rw[List.mem_singleton.mp h]
     injection he with he
     exact Int.ofNat.inj he
  ·rintro σ H3 ⟨v2,rfl,rfl,hc⟩
   rw[List.length_map,List.take_length] at hc
   refine⟨_,rfl,a,_,rfl,.inl hA,_,rfl,b,_,rfl,.inl hB,rfl,?_⟩
   rw[List.length_map,List.length_map]
   have e:decide (V.int (ns.length:Int)=V.int (ms.length:Int))=decide (ns.Perm ms):=by
    by_cases h:ns.Perm ms
    ·rw[decide_eq_true h,h.length_eq];exact decide_eq_true rfl
    ·rw[decide_eq_false h]
     refine decide_eq_false fun z=>h (zjS hn hc ?_)
     injection z with z
     exact Int.ofNat.inj z
   rw[e]
   exact q
end
def zbw(K:PySem.W.Frag):Sp:=fun vs H Q _=>∃(a:Addr) (ns:List Int) (c:Int),vs = [.ref a,.int c]∧SqL K H a (ns.map V.int)∧ns ≠ []∧ns.length≤30∧∀(l:Addr) (H':Hp) (ms:List Int),zj H H'→H l=none→H' l=some (.lst (ms.map V.int))→ms.length≤31→Q (.ref l) H'
section
variable {P:Program} {w:World} {K:PySem.W.Frag} {mg:Str→Option Value} {base:Heap}
theorem zfv{f:Addr}{fd:FuncData}(F:Fun K "_law_spoiled" "_law_spoiled" wn f fd)(T:Txt K mg):FnOk P w K mg base CX0 1 f fd ["_law_card_here","_law_cell"] (zbw K):=by
 refine F.ok zaB (fun vs H Q E h=>?_) (fun cdv A outer s H vs Q E hr h=>?_)
 ·obtain⟨a,ns,c,rfl,_⟩:=h
  rfl
 ·obtain⟨a,ns,c,rfl,hA,hne,hz,q⟩:=h
  refine⟨_,(zd (zy (i:=2) zaB.nd rfl (Or.inl rfl) (zn zZ (zn yx (pv 1) zh) (zo zq (by rfl) T.b_len PySem.boot_len (za (pv 0) zb))))
   (zd (zy (i:=3) zaB.nd rfl (Or.inl rfl) (yn zM (pv 0) (zn zZ (zn yx (pv 1) zh) (zo zq (by rfl) T.b_len PySem.boot_len (za (pv 0) zb))) (fun _ _=>rfl)))
   (zd (zy (i:=4) zaB.nd rfl (Or.inl rfl) (yn zM (zP (za zh (za (ze0 zdb zh) (za zh (za (zn op_pow zh zh) (za (zn yj (yn zM (pv 0) (pv 2) (fun _ _=>rfl)) zh) zb)))))) (zn zZ (zn yx (pv 1) zh) zh) (fun _ _=>rfl)))
   (zd (zC (zl zT (zn zZ (pv 1) zh) zh (zt _)) (zg (zm (zn yZ (ym we (pv 0) yS (yD (pv 2))) (ym we (pv 0) (yD (zn yj (pv 2) zh)) yS)))) zw)
   (zd (zC (zl zT (zn zZ (pv 1) zh) zh (zt _)) (zg (zm (zn yZ (zn yZ (ym we (pv 0) yS (yD (pv 2))) (zP (za (pv 3) zb))) (ym we (pv 0) (yD (zn yj (pv 2) zh)) yS)))) zw)
   (zd (zC (zl zT (zn zZ (pv 1) zh) zh (zt _)) (zg (zm (zn yZ (zn yZ (ym we (pv 0) yS (yD (pv 2))) (zP (za (pv 3) zb))) (ym we (pv 0) (yD (pv 2)) yS)))) zw)
   (zd (zC (zl zT (zn zZ (pv 1) zh) zh (zt _)) (zg (zm (zn yZ (zn yZ (ym we (pv 0) yS (yD (pv 2))) (zP (za (pv 4) zb))) (ym we (pv 0) (yD (zn yj (pv 2) zh)) yS)))) zw)
   (zd (zC (zl zT (zn zZ (pv 1) zh) zh (zt _)) (zg (zm (zn yZ (zn yZ (ym we (pv 0) yS (yD (pv 2))) (zP (za (pv 4) zb))) (ym we (pv 0) (yD (pv 2)) yS)))) zw)
   (zg (zm (zP zb))))))))))),?_⟩
  have hl:=zB
  have hpos:=List.length_pos_iff.mpr hne
  have hL:((ns.map V.int).length:Int)=ns.length:=by rw[List.length_map]
  refine⟨_,rfl,_,_,rfl,rfl,⟨by decide,by decide⟩,_,rfl,a,_,rfl,.inl hA,?_⟩
  rw[hL]
  refine⟨_,_,rfl,rfl,(by show(0:Int)<ns.length;omega),?_⟩
  dsimp only
  have h0:=Int.emod_nonneg (c/6) (b:=(ns.length:Int)) (by omega)
  have h1:=Int.emod_lt_of_pos (c/6) (b:=(ns.length:Int)) (by omega)
  generalize c/6%(ns.length:Int)=sp at h0 h1 ⊢
  have g0:=Int.emod_nonneg (c/144) (b:=(ns.length:Int)) (by omega)
  have g1:=Int.emod_lt_of_pos (c/144) (b:=(ns.length:Int)) (by omega)
  refine⟨_,rfl,_,rfl,_,_,rfl,rfl,⟨by decide,by decide⟩,_,rfl,a,_,rfl,.inl hA,?_⟩
  rw[hL]
  refine⟨_,_,rfl,rfl,(by show(0:Int)<ns.length;omega),a,_,_,_,rfl,rfl,hA,wB g0 g1,?_⟩
  generalize ns.getD (c/144%(ns.length:Int)).toNat 0=twin
  refine⟨_,rfl,_,_,rfl,rfl,⟨by decide,by decide,by decide⟩,_,rfl,_,rfl,a,_,_,_,rfl,rfl,hA,wB h0 h1,_,_,rfl,rfl,(by show 5≤sizeLine;decide),fun p1 hp1=>?_⟩
  generalize hH1:upd H p1 _=H1
  have s1:zj H H1:=by rw[← hH1];exact zj.new hp1
  have t1:H1 p1=some (.lst ([0,-1,1000,10 ^ (30:Int).toNat,ns.getD sp.toNat 0+1].map V.int)):=by rw[← hH1];exact ze
  have h5:0≤c/3456%5∧c/3456%5<5:=⟨Int.emod_nonneg _ (by decide),Int.emod_lt_of_pos _ (by decide)⟩
  refine⟨_,rfl,_,_,rfl,rfl,⟨by decide,by decide⟩,_,_,rfl,rfl,(by show(0:Int)<5;decide),p1,[0,-1,1000,10 ^ (30:Int).toNat,ns.getD sp.toNat 0+1].map V.int,_,_,rfl,rfl,SqL.of t1,wB h5.1 (by simpa using h5.2),?_⟩
  generalize [0,-1,1000,10 ^ (30:Int).toNat,ns.getD sp.toNat 0+1].getD (c/3456%5).toNat 0=stray
  have hA1:=s1.seq hA
  refine⟨_,rfl,_,_,rfl,rfl,(by show(0:Int)<6;decide),rfl,_,rfl,zX (fun _=>?_) (fun _=>?_)⟩
  ·refine⟨_,rfl,_,rfl,_,rfl,a,_,rfl,hA1,fun p2 hp2=>?_⟩
   rw[zaX h0]
   have s2:=s1.newT (o:=.lst ((ns.take sp.toNat).map V.int)) hp2
   refine⟨_,rfl,_,rfl,_,_,rfl,rfl,_,rfl,a,_,rfl,s2.seq hA,fun p3 hp3=>?_⟩
   rw[zaW (by omega)]
   have s3:=s2.newT (o:=.lst ((ns.drop (sp+1).toNat).map V.int)) hp3
   have n23:p2≠p3:=zk ze hp3
   refine⟨p2,p3,_,_,rfl,rfl,by rw[zi n23];exact ze,ze,by simp only[List.length_map,List.length_take,List.length_drop];omega,fun p4 hp4=>?_⟩
   rw[← List.map_append]
   exact q p4 _ _ (s3.newT hp4) (s3.free hp4) ze (by simp only[List.length_append,List.length_take,List.length_drop];omega)
  refine⟨_,rfl,_,_,rfl,rfl,(by show(0:Int)<6;decide),rfl,_,rfl,zX (fun _=>?_) (fun _=>?_)⟩
  ·refine⟨_,rfl,_,rfl,_,rfl,a,_,rfl,hA1,fun p2 hp2=>?_⟩
   rw[zaX h0]
   have s2:=s1.newT (o:=.lst ((ns.take sp.toNat).map V.int)) hp2
   refine⟨_,rfl,(by show 1≤sizeLine;decide),fun p3 hp3=>?_⟩
   have s3:=s2.newT (o:=.lst ([twin].map V.int)) hp3
   have n23:p2≠p3:=zk ze hp3
   refine⟨p2,p3,_,[twin].map V.int,rfl,rfl,by rw[zi n23];exact ze,ze,by simp only[List.length_map,List.length_take,List.length_cons,List.length_nil];omega,fun p4 hp4=>?_⟩
   rw[← List.map_append]
   have s4:=s3.newT (o:=.lst ((ns.take sp.toNat ++ [twin]).map V.int)) hp4
   refine⟨_,rfl,_,rfl,_,_,rfl,rfl,_,rfl,a,_,rfl,s4.seq hA,fun p5 hp5=>?_⟩
   rw[zaW (by omega)]
   have s5:=s4.newT (o:=.lst ((ns.drop (sp+1).toNat).map V.int)) hp5
   have n45:p4≠p5:=zk ze hp5
   refine⟨p4,p5,_,_,rfl,rfl,by rw[zi n45];exact ze,ze,by simp only[List.length_map,List.length_append,List.length_take,List.length_drop,List.length_cons,List.length_nil];omega,fun p6 hp6=>?_⟩
   rw[← List.map_append]
   exact q p6 _ _ (s5.newT hp6) (s5.free hp6) ze (by simp only[List.length_append,List.length_take,List.length_drop,List.length_cons,List.length_nil];omega)
  refine⟨_,rfl,_,_,rfl,rfl,(by show(0:Int)<6;decide),rfl,_,rfl,zX (fun _=>?_) (fun _=>?_)⟩
  ·refine⟨_,rfl,_,rfl,_,rfl,a,_,rfl,hA1,fun p2 hp2=>?_⟩
   rw[zaX h0]
   have s2:=s1.newT (o:=.lst ((ns.take sp.toNat).map V.int)) hp2
   refine⟨_,rfl,(by show 1≤sizeLine;decide),fun p3 hp3=>?_⟩
   have s3:=s2.newT (o:=.lst ([twin].map V.int)) hp3
   have n23:p2≠p3:=zk ze hp3
   refine⟨p2,p3,_,[twin].map V.int,rfl,rfl,by rw[zi n23];exact ze,ze,by simp only[List.length_map,List.length_take,List.length_cons,List.length_nil];omega,fun p4 hp4=>?_⟩
   rw[← List.map_append]
   have s4:=s3.newT (o:=.lst ((ns.take sp.toNat ++ [twin]).map V.int)) hp4
   refine⟨_,rfl,_,rfl,_,rfl,a,_,rfl,s4.seq hA,fun p5 hp5=>?_⟩
   rw[zaW (by omega)]
   have s5:=s4.newT (o:=.lst ((ns.drop sp.toNat).map V.int)) hp5
   have n45:p4≠p5:=zk ze hp5
   refine⟨p4,p5,_,_,rfl,rfl,by rw[zi n45];exact ze,ze,by simp only[List.length_map,List.length_append,List.length_take,List.length_drop,List.length_cons,List.length_nil];omega,fun p6 hp6=>?_⟩
   rw[← List.map_append]
   exact q p6 _ _ (s5.newT hp6) (s5.free hp6) ze (by simp only[List.length_append,List.length_take,List.length_drop,List.length_cons,List.length_nil];omega)
  refine⟨_,rfl,_,_,rfl,rfl,(by show(0:Int)<6;decide),rfl,_,rfl,zX (fun _=>?_) (fun _=>?_)⟩
  ·refine⟨_,rfl,_,rfl,_,rfl,a,_,rfl,hA1,fun p2 hp2=>?_⟩
   rw[zaX h0]
   have s2:=s1.newT (o:=.lst ((ns.take sp.toNat).map V.int)) hp2
   refine⟨_,rfl,(by show 1≤sizeLine;decide),fun p3 hp3=>?_⟩
   have s3:=s2.newT (o:=.lst ([stray].map V.int)) hp3
   have n23:p2≠p3:=zk ze hp3
   refine⟨p2,p3,_,[stray].map V.int,rfl,rfl,by rw[zi n23];exact ze,ze,by simp only[List.length_map,List.length_take,List.length_cons,List.length_nil];omega,fun p4 hp4=>?_⟩
   rw[← List.map_append]
   have s4:=s3.newT (o:=.lst ((ns.take sp.toNat ++ [stray]).map V.int)) hp4
   refine⟨_,rfl,_,rfl,_,_,rfl,rfl,_,rfl,a,_,rfl,s4.seq hA,fun p5 hp5=>?_⟩
   rw[zaW (by omega)]
   have s5:=s4.newT (o:=.lst ((ns.drop (sp+1).toNat).map V.int)) hp5
   have n45:p4≠p5:=zk ze hp5
   refine⟨p4,p5,_,_,rfl,rfl,by rw[zi n45];exact ze,ze,by simp only[List.length_map,List.length_append,List.length_take,List.length_drop,List.length_cons,List.length_nil];omega,fun p6 hp6=>?_⟩
   rw[← List.map_append]
   exact q p6 _ _ (s5.newT hp6) (s5.free hp6) ze (by simp only[List.length_append,List.length_take,List.length_drop,List.length_cons,List.length_nil];omega)
  refine⟨_,rfl,_,_,rfl,rfl,(by show(0:Int)<6;decide),rfl,_,rfl,zX (fun _=>?_) (fun _=>?_)⟩
  ·refine⟨_,rfl,_,rfl,_,rfl,a,_,rfl,hA1,fun p2 hp2=>?_⟩
   rw[zaX h0]
   have s2:=s1.newT (o:=.lst ((ns.take sp.toNat).map V.int)) hp2
   refine⟨_,rfl,(by show 1≤sizeLine;decide),fun p3 hp3=>?_⟩
   have s3:=s2.newT (o:=.lst ([stray].map V.int)) hp3
   have n23:p2≠p3:=zk ze hp3
   refine⟨p2,p3,_,[stray].map V.int,rfl,rfl,by rw[zi n23];exact ze,ze,by simp only[List.length_map,List.length_take,List.length_cons,List.length_nil];omega,fun p4 hp4=>?_⟩
   rw[← List.map_append]
   have s4:=s3.newT (o:=.lst ((ns.take sp.toNat ++ [stray]).map V.int)) hp4
   refine⟨_,rfl,_,rfl,_,rfl,a,_,rfl,s4.seq hA,fun p5 hp5=>?_⟩
   rw[zaW (by omega)]
   have s5:=s4.newT (o:=.lst ((ns.drop sp.toNat).map V.int)) hp5
   have n45:p4≠p5:=zk ze hp5
   refine⟨p4,p5,_,_,rfl,rfl,by rw[zi n45];exact ze,ze,by simp only[List.length_map,List.length_append,List.length_take,List.length_drop,List.length_cons,List.length_nil];omega,fun p6 hp6=>?_⟩
   rw[← List.map_append]
   exact q p6 _ _ (s5.newT hp6) (s5.free hp6) ze (by simp only[List.length_append,List.length_take,List.length_drop,List.length_cons,List.length_nil];omega)
  exact⟨(by show 0≤sizeLine;decide),fun p2 hp2=>q p2 _ [] (s1.newT hp2) (s1.free hp2) ze (by decide)⟩
end
def zbe(K:PySem.W.Frag):Sp:=fun vs H Q _=>∃(z:Str) (c:Int),vs = [.str z,.int c]∧z.length≤20∧∀(y:Str) (H':Hp),zj H H'→y.length≤60→Q (.str y) H'
section
variable {P:Program} {w:World} {K:PySem.W.Frag} {mg:Str→Option Value} {base:Heap}
theorem zeA{f:Addr}{fd:FuncData}(F:Fun K "_law_stranger" "_law_stranger" yU f fd)(T:Txt K mg):FnOk P w K mg base CX0 1 f fd ["_law_name","_law_cell"] (zbe K):=by
 refine F.ok zet (fun vs H Q E h=>?_) (fun cdv A outer s H vs Q E hr h=>?_)
 ·obtain⟨z,c,rfl,_⟩:=h
  rfl
 ·obtain⟨z,c,rfl,hz,q⟩:=h
  refine⟨_,(zg (zm (yn zM (zP (za zD (za (zn yg (pv 0) zD) (za (ym sl_str (pv 0) yS (yD (ze0 zdb zh))) (za (pe_bm0 PySem.F.plainAttrs_str PySem.F.slot_str_upper PySem.F.type_str_upper ms_upper (pv 0)) (za (zn yg zD (pv 0)) (za (zn yg (pv 0) zD) (za zD (za zD zb))))))))) (zn zZ (pv 1) zh) (fun _ _=>rfl)))),?_⟩
  have hln:=zB
  have la:("a" : Str).length=1:=by decide +kernel
  have lb:(" " : Str).length=1:=by decide +kernel
  have ls:=PySem.Txt.slice_le z none (some (-1))
  refine⟨_,rfl,_,_,rfl,rfl,(by omega),_,rfl,_,rfl,_,rfl,z,rfl,(by omega),_,rfl,rfl,z,rfl,rfl,by omega,fun y hy=>?_⟩
  refine⟨_,rfl,_,_,rfl,rfl,(by omega),_,rfl,_,_,rfl,rfl,(by omega),(by show 8≤sizeLine;decide),fun p hp=>?_⟩
  have s1:=zj.new (o:=.lst (([Str.ofString "",z++Str.ofString "a",PySem.Txt.slice z none (some (-1)),y,Str.ofString " " ++ z,z++Str.ofString " ",Str.ofString "judge name",Str.ofString "0"]:List Str).map V.str)) hp
  have h8:0≤c%8∧c%8<8:=⟨Int.emod_nonneg _ (by decide),Int.emod_lt_of_pos _ (by decide)⟩
  refine⟨_,rfl,_,_,rfl,rfl,(by show(0:Int)<8;decide),p,_,_,_,rfl,rfl,(show SqL K _ p (([Str.ofString "",z++Str.ofString "a",PySem.Txt.slice z none (some (-1)),y,Str.ofString " " ++ z,z++Str.ofString " ",Str.ofString "judge name",Str.ofString "0"]:List Str).map V.str)from SqL.new),zcQ h8.1 (by simpa using h8.2),?_⟩
  refine q _ _ s1 ?_
  have hm:=zbr (ts:=([Str.ofString "",z++Str.ofString "a",PySem.Txt.slice z none (some (-1)),y,Str.ofString " " ++ z,z++Str.ofString " ",Str.ofString "judge name",Str.ofString "0"]:List Str)) (i:=(c%8).toNat) (by simp;omega)
  generalize ([Str.ofString "",z++Str.ofString "a",PySem.Txt.slice z none (some (-1)),y,Str.ofString " " ++ z,z++Str.ofString " ",Str.ofString "judge name",Str.ofString "0"]:List Str).getD (c%8).toNat "" = r at hm ⊢
  have l0:(Str.ofString "").length=0:=by decide +kernel
  have lj:(Str.ofString "judge name").length=10:=by decide +kernel
  have l1:(Str.ofString "0").length=1:=by decide +kernel
  have la:(Str.ofString "a").length=1:=by decide +kernel
  have lb:(Str.ofString " ").length=1:=by decide +kernel
  simp only[List.mem_cons,List.not_mem_nil,or_false] at hm
  rcases hm with h | h | h | h | h | h | h | h
  ·rw[h,l0];omega
  ·rw[h,wx];omega
  ·rw[h];omega
  ·rw[h];omega
  ·rw[h,wx];omega
  ·rw[h,wx];omega
  ·rw[h,lj];omega
  ·rw[h,l1];omega
end
def zbH(K:PySem.W.Frag):Sp:=fun vs H Q _=>∃(a:Addr) (ns:List Int) (c:Int),vs = [.ref a,.int c]∧SqL K H a (ns.map V.int)∧ns.length≤1000∧∀(l:Addr) (H':Hp),zj H H'→H l=none→H' l=some (.lst ((ns.filter fun o => !decide (o=c)).map V.int))→Q (.ref l) H'
section
variable {P:Program} {w:World} {K:PySem.W.Frag} {mg:Str→Option Value} {base:Heap}
theorem zfh{f:Addr}{fd:FuncData}(F:Fun K "_law_without" "_law_without" yP f fd)(T:Txt K mg):FnOk P w K mg base CX0 1 f fd ["_law_card_here","_law_couple"] (zbH K):=by
 refine F.ok zeO (fun vs H Q E h=>?_) (fun cdv A outer s H vs Q E hr h=>?_)
 ·obtain⟨a,ns,c,rfl,_⟩:=h
  rfl
 ·obtain⟨a,ns,c,rfl,hS,hz,q⟩:=h
  refine⟨_,(zg (zm (ye (show CompScope (zc yP) ["_law_card_here","_law_couple"] "_law_other" ["_law_couple"] [1] _ from⟨rfl,by decide +kernel,by decide +kernel,rfl,by decide +kernel,rfl,by decide +kernel,by decide +kernel⟩) rfl (zK (pv 0)) (fun _ _ _ _ _=>(zaT (zl zbO (pv 0) (pv 1) (zt _)))) (fun _ _ _ _ _=>(pv 0))))),?_⟩
  refine⟨_,rfl,a,rfl,⟨_,hS⟩,?_⟩
  refine wa (xs:=ns.map V.int) (fun i ys H2=>H2=H∧ys=((ns.take i).filter fun o => !decide (o=c)).map V.int) ⟨rfl,rfl⟩ ?_ (by rw[List.length_map];have:=zB;omega) ?_ ?_
  ·rintro i ys H2 hi ⟨rfl,rfl⟩
   refine⟨hS,?_⟩
   rw[List.length_map]
   have:=List.length_filter_le (fun o => !decide (o=c)) (ns.take i)
   rw[List.length_take] at this
   omega
  ·rintro i x ys H2 hx ⟨rfl,rfl⟩
   obtain⟨hi,rfl⟩:=yA hx
   refine⟨_,rfl,_,rfl,rfl,_,rfl,wl (fun h=>?_) (fun h=>?_)⟩
   ·have h:¬ns.getD i 0=c:=fun z=>h (by rw[z])
    refine⟨_,rfl,rfl,?_⟩
    rw[yy hi,List.filter_append,List.filter_cons_of_pos (by simpa using h),List.map_append]
    rfl
   ·have h:ns.getD i 0=c:=by injection h
    refine⟨rfl,?_⟩
    rw[yy hi,List.filter_append,List.filter_cons_of_neg (by simpa using h),List.filter_nil,List.append_nil]
  ·rintro ys H2 ⟨rfl,rfl⟩ l hl
   rw[List.length_map,List.take_length]
   exact q l _ (zj.new hl) hl ze
end
def zct(K:PySem.W.Frag):Sp:=fun vs H Q _=>∃(a b:Addr) (us gs:List Int) (c:Int),vs = [.ref a,.ref b,.int c]∧SqL K H a (us.map V.int)∧us ≠ []∧H b=some (.lst (gs.map V.int))∧gs.length≤1000∧∀(u:Int) (H':Hp),zj H H'→Q (.int u) H'
section
variable {P:Program} {w:World} {K:PySem.W.Frag} {mg:Str→Option Value} {base:Heap}
theorem zg1{f:Addr}{fd:FuncData}(F:Fun K "_law_stray" "_law_stray" zaq f fd)(T:Txt K mg):FnOk P w K mg base CX0 1 f fd ["_law_couples_here","_law_gone","_law_cell"] (zct K):=by
 refine F.ok zgD (fun vs H Q E h=>?_) (fun cdv A outer s H vs Q E hr h=>?_)
 ·obtain⟨a,b,us,gs,c,rfl,_⟩:=h
  rfl
 ·obtain⟨a,b,us,gs,c,rfl,hA,hne,hB,hz,q⟩:=h
  refine⟨_,(zd (zC (zl zT (zn zZ (pv 2) zh) zh (zt _)) (zg (zm (yn zM (zP (za zh (za (ze0 zdb zh) (za zh (za (yn zM (zn yZ (pv 1) (zP (za zh zb))) zh (fun _ _=>rfl)) zb))))) (zn zZ (zn yx (pv 2) zh) zh) (fun _ _=>rfl)))) zw)
   (zg (zm (yn zM (pv 0) (zn zZ (zn yx (pv 2) zh) (zo zq (by rfl) T.b_len PySem.boot_len (za (pv 0) zb))) (fun _ _=>rfl))))),?_⟩
  have hl:=zB
  have hpos:=List.length_pos_iff.mpr hne
  have hL:((us.map V.int).length:Int)=us.length:=by rw[List.length_map]
  refine⟨_,rfl,_,_,rfl,rfl,(by show(0:Int)<4;decide),rfl,_,rfl,zX (fun _=>?_) (fun _=>?_)⟩
  ·refine⟨_,rfl,_,rfl,(by show 1≤sizeLine;decide),fun p1 hp1=>?_⟩
   have s1:=zj.new (H:=H) (o:=.lst ([(0:Int)].map V.int)) hp1
   have nb:b≠p1:=zk hB hp1
   refine⟨b,p1,_,[(0:Int)].map V.int,rfl,rfl,by rw[zi nb];exact hB,ze,by simp only[List.length_map,List.length_cons,List.length_nil];omega,fun p2 hp2=>?_⟩
   rw[← List.map_append]
   have s2:=s1.newT (o:=.lst ((gs ++ [0]).map V.int)) hp2
   have e0:atI ((gs ++ [(0:Int)]).map V.int) 0=some (.int ((gs ++ [0]).getD (0:Int).toNat 0)):=wB (by decide) (by simp only[List.length_append,List.length_cons,List.length_nil];omega)
   refine⟨p2,_,_,_,rfl,rfl,SqL.new,e0,?_⟩
   generalize (gs ++ [(0:Int)]).getD (0:Int).toNat 0=g
   refine⟨(by show 4≤sizeLine;decide),fun p3 hp3=>?_⟩
   have s3:=s2.newT (o:=.lst ([0,-1,1000,g].map V.int)) hp3
   have h4:0≤c/4%4∧c/4%4<4:=⟨Int.emod_nonneg _ (by decide),Int.emod_lt_of_pos _ (by decide)⟩
   refine⟨_,rfl,_,_,rfl,rfl,⟨by decide,by decide⟩,_,_,rfl,rfl,(by show(0:Int)<4;decide),p3,[0,-1,1000,g].map V.int,_,_,rfl,rfl,SqL.new,wB h4.1 (by simpa using h4.2),?_⟩
   exact q _ _ s3
  ·refine⟨_,rfl,_,rfl,_,_,rfl,rfl,⟨by decide,by decide⟩,_,rfl,a,_,rfl,.inl hA,?_⟩
   rw[hL]
   have g0:=Int.emod_nonneg (c/4) (b:=(us.length:Int)) (by omega)
   have g1:=Int.emod_lt_of_pos (c/4) (b:=(us.length:Int)) (by omega)
   refine⟨_,_,rfl,rfl,(by show(0:Int)<us.length;omega),a,_,_,_,rfl,rfl,hA,wB g0 g1,?_⟩
   exact q _ _ (zj.refl _)
end
def zaK(K:PySem.W.Frag):Sp:=fun vs H Q E=>∃(p:Addr) (F:Addr→Prop) (S:Sh) (j:Str) (a:Addr) (ns:List Int),vs = [.ref p,.str j,.ref a]∧zA K H p F S∧SqL K H a (ns.map V.int)∧ns.length<64 ∧
 (∀c,S.refuse j ns=some c→∀C H',zf K c C→zj H H'→E (.ref C) none H')∧(S.refuse j ns=none→∀H' F',zA K H' p F' (S.hand j ns)→zbG F H F' H'→Q .non H')
section
variable {P:Program} {w:World} {K:PySem.W.Frag} {mg:Str→Option Value} {base:Heap}
theorem zd4{f:Addr}{fd:FuncData}(F:Fun K "hand_in" "Sheet.hand_in" yG f fd)(T:Txt K mg)(C_whole_card:Can P w K mg base 1 "whole_card" ["card","couples"] (zbU K))(C_Sheet_refuse_if_sealed:CanMX P w K mg base 1 (zJ K "Sheet") "refuse_if_sealed" ["self"] (zR K))(C_Sheet_refuse_unknown_judge:CanMX P w K mg base 1 (zJ K "Sheet") "refuse_unknown_judge" ["self","judge"] (zS K)):FnOk P w K mg base (CX1 P w) 2 f fd ["self","judge","card"] (zaK K):=by
 obtain⟨c_BadCard,n_BadCard,m_BadCard,x_BadCard⟩:=T.x_BadCard
 obtain⟨c_TooManyCards,n_TooManyCards,m_TooManyCards,x_TooManyCards⟩:=T.x_TooManyCards
 refine F.okX zdP (fun vs H Q E h=>?_) (fun X W cdv A outer s H vs Q E hX hW fl md hr h=>?_)
 ·obtain⟨p,F,S,j,a,ns,rfl,_⟩:=h
  rfl
 ·obtain⟨p,F,S,j,a,ns,rfl,hSh,hA,hz,qE,q⟩:=h
  obtain⟨dx,a1,a2,a3,d,kvs,h⟩:=id hSh
  subst hX
  refine⟨_,(zd (zU (zcX C_Sheet_refuse_if_sealed T.cl_Sheet fl (hr.mono (by decide)) (pv 0)))
   (zd (zU (wX C_Sheet_refuse_unknown_judge T.cl_Sheet fl (hr.mono (by decide)) (pv 0) (za (pv 1) zb)))
   (zd (zC (wv (yN (zu C_whole_card (hr.mono (by decide)) rfl (za (pv 2) (za (yJ (pv 0) rfl) zb))))) (zg (y9 rfl md rfl m_BadCard x_BadCard (za zD zb))) zw)
   (zd (zC (zl op_ge (yJ (pv 0) rfl) (zcS T.c_MOST_CARDS rfl) (zt _)) (zg (y9 rfl md rfl m_TooManyCards x_TooManyCards (za zD zb))) zw)
   (zd (zi5 (zfX hr) (yJ (pv 0) rfl) (pv 1) (zF yh (by rfl) T.b_list PyProof.Rows.boot_list (za (pv 2) zb)) rfl)
   (zg (zcf (pv 0) (zn yj (yJ (pv 0) rfl) zh) rfl))))))),?_⟩
  have hln:=zB
  have h24:=h.ok.c24
  refine⟨_,rfl,p,dx,_,rfl,h.ip,rfl,p,F,S,rfl,hSh,(fun hs C hC=>?_),fun hs=>?_⟩
  ·rw[hW]
   exact qE "SheetSealed" (by unfold Sh.refuse;rw[if_pos hs]) C _ hC (zj.refl _)
  refine⟨_,rfl,p,dx,_,rfl,h.ip,rfl,_,rfl,p,F,S,j,rfl,hSh,(fun hj C hC=>?_),fun hj=>?_⟩
  ·rw[hW]
   exact qE "UnknownJudge" (by unfold Sh.refuse;rw[if_neg (by rw[hs];exact Bool.false_ne_true),if_neg hj]) C _ hC (zj.refl _)
  refine⟨_,rfl,_,rfl,p,_,dx,_,_,rfl,h.ip,T.cl_Sheet,T.n_Sheet_standing,rfl,a,a1,ns,S.couples,rfl,hA,SqL.of h.i1,hz,by omega,fun H2 s2=>⟨_,rfl,?_⟩⟩
  refine wl (fun hp=>?_) (fun hp=>?_)
  ·refine⟨(by show 1≤sizeLine;decide),?_⟩
   rw[hW]
   exact qE "BadCard" (by unfold Sh.refuse;rw[if_neg (by rw[hs];exact Bool.false_ne_true),if_pos hj,if_neg hp]) _ _ n_BadCard s2
  have ip:=s2 _ _ h.ip
  have i1:=s2 _ _ h.i1
  have i2:=s2 _ _ h.i2
  have i3:=s2 _ _ h.i3
  have i4:=s2 _ _ h.i4
  refine⟨_,rfl,p,_,dx,_,_,rfl,ip,T.cl_Sheet,T.n_Sheet_taken_so_far,rfl,_,_,rfl,rfl,_,rfl,zX (fun ht=>?_) (fun ht=>?_)⟩
  ·refine⟨(by show 1≤sizeLine;decide),?_⟩
   rw[hW]
   exact qE "TooManyCards" (by unfold Sh.refuse;rw[if_neg (by rw[hs];exact Bool.false_ne_true),if_pos hj,if_pos hp,if_pos (by omega)]) _ _ n_TooManyCards s2
  have hn:S.refuse j ns=none:=by unfold Sh.refuse;rw[if_neg (by rw[hs];exact Bool.false_ne_true),if_pos hj,if_pos hp,if_neg (by omega)]
  have hk:=h.kl
  have ht2:=h.ok.t200
  refine⟨_,rfl,a,_,rfl,.inl (s2.seq hA),fun l hl=>?_⟩
  have kp:∀b o,H2 b=some o→upd H2 l (.lst (ns.map V.int)) b=some o:=fun b o e=>zj.new hl b o e
  refine⟨_,rfl,p,_,dx,_,_,rfl,kp _ _ ip,T.cl_Sheet,T.n_Sheet_card_by_judge,rfl,_,rfl,d,_,rfl,zhB.k (k:=Sum.inr j) (kp _ _ i4) (by omega),?_⟩
  have n1:a1≠p:=yr i1 ip (by intro z;cases z)
  have n2:a2≠p:=yr i2 ip (by intro z;cases z)
  have n3:a3≠p:=yr i3 ip (by intro z;cases z)
  have n4:d≠p:=yr i4 ip (by intro z;cases z)
  have m1:a1≠d:=yr i1 i4 (by intro z;cases z)
  have m2:a2≠d:=yr i2 i4 (by intro z;cases z)
  have m3:a3≠d:=yr i3 i4 (by intro z;cases z)
  have lp:l≠p:=fun z=>by rw[z,ip] at hl;cases hl
  have ld:l≠d:=fun z=>by rw[z,i4] at hl;cases hl
  have l2:l≠a2:=fun z=>by rw[z,i2] at hl;cases hl
  have ip':upd (upd H2 l (.lst (ns.map V.int))) d (.dK (zbK kvs (Sum.inr j) (.ref l))) p=some (.ins (zJ K "Sheet") dx (shF a1 a2 a3 d S)):=by rw[zi (Ne.symm n4)];exact kp _ _ ip
  refine⟨_,rfl,p,_,dx,_,_,rfl,ip',T.cl_Sheet,T.n_Sheet_taken_so_far,rfl,_,_,rfl,rfl,?_⟩
  refine⟨_,rfl,p,_,dx,_,rfl,ip',T.cl_Sheet,T.n_Sheet_taken_so_far,(by show 6<1000;decide),?_⟩
  have et:(V.int ((S.taken:Int)+1))=.int ((S.hand j ns).taken:Nat):=by show V.int _=V.int ((S.taken+1:Nat):Int);congr 1
  show _
  dsimp only
  rw[et,zjZ a1 a2 a3 d S (S.hand j ns) rfl]
  obtain⟨ok',_⟩:=h.ok.hand hn
  have up:∀b o,H2 b=some o→b≠p→b≠d→upd (upd (upd H2 l (.lst (ns.map V.int))) d (.dK (zbK kvs (Sum.inr j) (.ref l)))) p (.ins (zJ K "Sheet") dx (shF a1 a2 a3 d (S.hand j ns))) b=some o:=fun b o e nb nd=>by rw[zi nb,zi nd];exact kp b o e
  have el:upd (upd (upd H2 l (.lst (ns.map V.int))) d (.dK (zbK kvs (Sum.inr j) (.ref l)))) p (.ins (zJ K "Sheet") dx (shF a1 a2 a3 d (S.hand j ns))) l=some (.lst (ns.map V.int)):=by rw[zi lp,zi ld];exact ze
  refine q hn _ (fun b=>F b∨b=l) ⟨dx,a1,a2,a3,d,zbK kvs (Sum.inr j) (.ref l),⟨⟨ze,up _ _ i1 n1 m1,up _ _ i2 n2 m2,up _ _ i3 n3 m3,by rw[zi n4];exact ze,?_,fun k hk'=>?_,fun k c hc=>?_,.inl h.fp,.inl h.f1,.inl h.f2,.inl h.f3,.inl h.f4,h.n12,h.n32,fun b hb=>?_⟩,ok'⟩⟩ fun b o e n=>⟨up b o (s2 _ _ e) (fun z=>n (z ▸ h.fp)) (fun z=>n (z ▸ h.f4)),?_⟩
  ·have:=zcR kvs (Sum.inr j) (.ref l)
   show _≤S.taken+1
   omega
  ·have hk':(if k=j then some ns else S.card k)=none:=hk'
   rw[zdL]
   by_cases ek:k=j
   ·rw[if_pos ek] at hk';cases hk'
   ·rw[if_neg ek] at hk'
    rw[if_neg (fun z=>ek (by injection z))]
    exact h.cn k hk'
  ·have hc:(if k=j then some ns else S.card k)=some c:=hc
   rw[zdL]
   by_cases ek:k=j
   ·rw[if_pos ek] at hc
    cases hc
    rw[if_pos (by rw[ek])]
    exact⟨l,rfl,el,.inr rfl,l2⟩
   ·rw[if_neg ek] at hc
    rw[if_neg (fun z=>ek (by injection z))]
    obtain⟨l',x1,x2,x3,x4⟩:=h.cs k c hc
    exact⟨l',x1,up _ _ (s2 _ _ x2) (yr x2 h.ip (by intro z;cases z)) (yr x2 h.i4 (by intro z;cases z)),.inl x3,x4⟩
  ·by_cases hbp:b=p
   ·rw[hbp,ze];exact fun z=>nomatch z
   rw[zi hbp]
   by_cases hbd:b=d
   ·rw[hbd,ze];exact fun z=>nomatch z
   rw[zi hbd]
   rcases hb with hb | hb
   ·have:=h.fh b hb
    cases e:H b with
    | none=>exact absurd e this
    | some o=>rw[kp _ _ (s2 _ _ e)];exact fun z=>nomatch z
   ·rw[hb,ze];exact fun z=>nomatch z
  ·rintro (z | z)
   ·exact n z
   ·have:=s2 _ _ e
    rw[z,hl] at this
    cases this
end
def za6(K:PySem.W.Frag):Sp:=fun vs H Q E=>∃(p:Addr) (F:Addr→Prop) (S:Sh) (c:Int),vs = [.ref p,.int c]∧zA K H p F S ∧
 (∀x,S.refuseS c=some x→∀C,zf K x C→E (.ref C) none H)∧(S.refuseS c=none→∀H' F',zA K H' p F' (S.strike c)→zbG F H F' H'→Q .non H')
section
variable {P:Program} {w:World} {K:PySem.W.Frag} {mg:Str→Option Value} {base:Heap}
theorem zev{f:Addr}{fd:FuncData}(F:Fun K "strike" "Sheet.strike" y6 f fd)(T:Txt K mg)(C_without_couple:Can P w K mg base 1 "without_couple" ["card","couple"] (zaD K))(C_Sheet_handed:CanM P w K mg base 1 (zJ K "Sheet") "handed" ["self"] (zY K))(C_Sheet_refuse_if_sealed:CanMX P w K mg base 1 (zJ K "Sheet") "refuse_if_sealed" ["self"] (zR K)):FnOk P w K mg base (CX1 P w) 2 f fd ["self","couple"] (za6 K):=by
 obtain⟨c_UnknownCouple,n_UnknownCouple,m_UnknownCouple,x_UnknownCouple⟩:=T.x_UnknownCouple
 obtain⟨c_LastCouple,n_LastCouple,m_LastCouple,x_LastCouple⟩:=T.x_LastCouple
 refine F.okX zcx (fun vs H Q E h=>?_) (fun X W cdv A outer s H vs Q E hX hW fl md hr h=>?_)
 ·obtain⟨p,F,S,c,rfl,_⟩:=h
  rfl
 ·obtain⟨p,F,S,c,rfl,hSh,qE,q⟩:=h
  obtain⟨dx,a1,a2,a3,d,kvs,h⟩:=id hSh
  subst hX
  refine⟨_,(zd (zU (zcX C_Sheet_refuse_if_sealed T.cl_Sheet fl (hr.mono (by decide)) (pv 0)))
   (zd (zC (zl zaz (pv 1) (yJ (pv 0) rfl) (by first | exact zt _ | rfl)) (zg (y9 rfl md rfl m_UnknownCouple x_UnknownCouple (za zD zb))) zw)
   (zd (zC (zl zT (zo zq (by rfl) T.b_len PySem.boot_len (za (yJ (pv 0) rfl) zb)) zh (zt _)) (zg (y9 rfl md rfl m_LastCouple x_LastCouple (za zD zb))) zw)
   (zd (zcf (pv 0) (zu C_without_couple (hr.mono (by decide)) rfl (za (yJ (pv 0) rfl) (za (pv 1) zb))) rfl)
   (zd (zU (za1 PySem.F.plainAttrs_list PySem.F.slot_list_append PySem.F.type_list_append zaO (yJ (pv 0) rfl) (za (pv 1) zb)))
   (zg (za5 PassesOwn.leaving rfl (zK (zL C_Sheet_handed T.cl_Sheet (hr.mono (by decide)) (pv 0))) (yR (i:=2) zcx.nd rfl (Or.inl rfl))
     (zg (zi5 (zfX hr) (yJ (pv 0) rfl) (pv 2) (zu C_without_couple (hr.mono (by decide)) rfl (za (ziW (zfX hr) (yJ (pv 0) rfl) (pv 2) (fun _ _=>rfl)) (za (pv 1) zb))) rfl))))))))),?_⟩
  have hln:=zB
  have h24:=h.ok.c24
  refine⟨_,rfl,p,dx,_,rfl,h.ip,rfl,p,F,S,rfl,hSh,(fun hs C hC=>?_),fun hs=>?_⟩
  ·rw[hW]
   exact qE "SheetSealed" (by unfold Sh.refuseS;rw[if_pos hs]) C hC
  have hs':¬S.shut=true:=by rw[hs];exact Bool.false_ne_true
  refine⟨_,rfl,_,rfl,p,_,dx,_,_,rfl,h.ip,T.cl_Sheet,T.n_Sheet_standing,rfl,a1,_,rfl,.inl (SqL.of h.i1),rfl,zG _,_,rfl,?_⟩
  rw[zaA]
  refine wl (fun hc=>?_) (fun hc=>?_)
  ·refine⟨(by show 1≤sizeLine;decide),?_⟩
   rw[hW]
   exact qE "UnknownCouple" (by unfold Sh.refuseS;rw[if_neg hs',if_neg hc]) _ n_UnknownCouple
  refine⟨_,rfl,p,_,dx,_,_,rfl,h.ip,T.cl_Sheet,T.n_Sheet_standing,rfl,a1,_,rfl,.inl (SqL.of h.i1),rfl,_,rfl,?_⟩
  rw[List.length_map]
  refine zX (fun h1=>?_) (fun h1=>?_)
  ·refine⟨(by show 1≤sizeLine;decide),?_⟩
   rw[hW]
   injection h1 with h1
   exact qE "LastCouple" (by unfold Sh.refuseS;rw[if_neg hs',if_pos hc,if_pos (by omega)]) _ n_LastCouple
  have h1:S.couples.length≠1:=fun z=>h1 (by rw[z];rfl)
  have hn:S.refuseS c=none:=by unfold Sh.refuseS;rw[if_neg hs',if_pos hc,if_neg h1]
  refine⟨_,rfl,p,_,dx,_,_,rfl,h.ip,T.cl_Sheet,T.n_Sheet_standing,rfl,_,rfl,a1,S.couples,c,rfl,SqL.of h.i1,by omega,fun b1 H2 s2 f2 e2=>?_⟩
  have ip:=s2 _ _ h.ip
  have i2:=s2 _ _ h.i2
  have i3:=s2 _ _ h.i3
  have i4:=s2 _ _ h.i4
  refine⟨_,rfl,p,_,dx,_,rfl,ip,T.cl_Sheet,T.n_Sheet_standing,(by show 6<1000;decide),?_⟩
  rw[zhC a1 a2 a3 d b1 S (S.strike c) rfl rfl]
  have n2:a2≠p:=yr i2 ip (by intro z;cases z)
  have n3:a3≠p:=yr i3 ip (by intro z;cases z)
  have n4:d≠p:=yr i4 ip (by intro z;cases z)
  have n1:b1≠p:=yr e2 ip (by intro z;cases z)
  have m2:a2≠d:=yr i2 i4 (by intro z;cases z)
  have b2:b1≠a2:=fun z=>by rw[z,h.i2] at f2;cases f2
  have ni2:upd H2 p (.ins (zJ K "Sheet") dx (shF b1 a2 a3 d (S.strike c))) a2=some (.lst (S.struck.map V.int)):=by rw[zi n2];exact i2
  refine⟨_,rfl,p,_,dx,_,_,rfl,ze,T.cl_Sheet,T.n_Sheet_struck_so_far,rfl,.inl ⟨rfl,_,SqL.of ni2⟩,_,rfl,a2,_,_,rfl,rfl,ni2,(by rw[List.length_map];omega),?_⟩
  have up:∀b o,H2 b=some o→b≠p→b≠a2→upd (upd H2 p (.ins (zJ K "Sheet") dx (shF b1 a2 a3 d (S.strike c)))) a2 (.lst (S.struck.map V.int ++ [V.int c])) b=some o:=fun b o e nb nd=>by rw[zi nd,zi nb];exact e
  have up1:upd (upd H2 p (.ins (zJ K "Sheet") dx (shF b1 a2 a3 d (S.strike c)))) a2 (.lst (S.struck.map V.int ++ [V.int c])) p=some (.ins (zJ K "Sheet") dx (shF b1 a2 a3 d (S.strike c))):=by rw[zi (Ne.symm n2)];exact ze
  have up2:upd (upd H2 p (.ins (zJ K "Sheet") dx (shF b1 a2 a3 d (S.strike c)))) a2 (.lst (S.struck.map V.int ++ [V.int c])) a2=some (.lst ((S.strike c).struck.map V.int)):=zgU _ _
  generalize hH3:upd (upd H2 p _) a2 _=H3 at up up1 up2 ⊢
  have F3:∀b,(F b∨b=b1)→H3 b≠none:=fun b hb=>by
   by_cases hbp:b=p
   ·rw[hbp,up1];exact fun z=>nomatch z
   by_cases hba:b=a2
   ·rw[hba,up2];exact fun z=>nomatch z
   rcases hb with hb | hb
   ·have:=h.fh b hb
    cases e:H b with
    | none=>exact absurd e this
    | some o=>rw[up _ _ (s2 _ _ e) hbp hba];exact fun z=>nomatch z
   ·rw[hb,up _ _ e2 n1 b2];exact fun z=>nomatch z
  have D3:zbG F H (fun b=>F b∨b=b1) H3:=fun b o e n=>⟨up b o (s2 _ _ e) (fun z=>n (z ▸ h.fp)) (fun z=>n (z ▸ h.f2)),fun z=>z.elim n fun z=>by rw[z,f2] at e;cases e⟩
  have hcs:∀j cd,S.card j=some cd→∃l,zaG kvs (Sum.inr j)=some (.ref l)∧H3 l=some (.lst (cd.map V.int))∧(F l∨l=b1)∧l≠a2:=fun j cd e=>by
   obtain⟨l,x1,x2,x3,x4⟩:=h.cs j cd e
   exact⟨l,x1,up _ _ (s2 _ _ x2) (yr x2 h.ip (by intro z;cases z)) x4,.inl x3,x4⟩
  obtain⟨ok',_⟩:=h.ok.strike hn
  refine⟨_,rfl,p,dx,_,rfl,up1,rfl,p,(fun b=>F b∨b=b1),⟨wo c S.couples,S.struck ++ [c],S.panel,S.card,S.taken,S.shut⟩,rfl,⟨dx,b1,a2,a3,d,kvs,⟨up1,up _ _ e2 n1 b2,up2,up _ _ i3 n3 h.n32,up _ _ i4 n4 (Ne.symm m2),h.kl,h.cn,hcs,.inl h.fp,.inr rfl,.inl h.f2,.inl h.f3,.inl h.f4,b2,h.n32,F3⟩⟩,h.ok.p15,fun a H4 s4 f4 e4=>?_⟩
  have hhl:S.handed.length≤15:=Nat.le_trans (List.length_filter_le _ _) h.ok.p15
  refine⟨a,rfl,⟨_,SqL.of e4⟩,?_⟩
  refine zdC (xs:=S.handed.map V.str) (fun i σ H5=>∃(v:Option V) (kvs':List (Key × V)) (F':Addr→Prop),σ = [some (.ref p),some (.int c),v]∧H5 p=some (.ins (zJ K "Sheet") dx (shF b1 a2 a3 d (S.strike c)))∧H5 b1=some (.lst ((wo c S.couples).map V.int))∧H5 a2=some (.lst ((S.strike c).struck.map V.int))∧H5 a3=some (.lst (S.panel.map V.str))∧H5 d=some (.dK kvs')∧H5 a=some (.lst (S.handed.map V.str)) ∧
   kvs'.length≤S.taken∧(∀j,S.card j=none→zaG kvs' (Sum.inr j)=none)∧(∀j cd,S.card j=some cd→∃l,zaG kvs' (Sum.inr j)=some (.ref l)∧H5 l=some (.lst ((if j∈S.handed.take i then wo c cd else cd).map V.int))∧F' l∧l≠a2)∧(∀b,F b→F' b)∧F' b1∧(∀b,F' b→H5 b≠none)∧zbG F H F' H5)
   ⟨_,kvs,fun b=>F b∨b=b1,rfl,s4 _ _ up1,s4 _ _ (up _ _ e2 n1 b2),s4 _ _ up2,s4 _ _ (up _ _ i3 n3 h.n32),s4 _ _ (up _ _ i4 n4 (Ne.symm m2)),e4,h.kl,h.cn,(fun j cd e=>?_),(fun b hb=>.inl hb),.inr rfl,(fun b hb=>?_),fun b o e n=>⟨s4 _ _ (D3 b o e n).1,(D3 b o e n).2⟩⟩ ?_ ?_ ?_
  ·obtain⟨l,x1,x2,x3,x4⟩:=hcs j cd e
   exact⟨l,x1,by rw[if_neg (by rw[List.take_zero];exact List.not_mem_nil)];exact s4 _ _ x2,x3,x4⟩
  ·have:=F3 b hb
   cases e:H3 b with
   | none=>exact absurd e this
   | some o=>rw[s4 _ _ e];exact fun z=>nomatch z
  ·rintro i σ H5 hi ⟨v,kvs',F',rfl,w1,w2,w3,w4,w5,w6,_⟩
   exact SqL.of w6
  ·rintro i x σ H5 hx ⟨v,kvs',F',rfl,w1,w2,w3,w4,w5,w6,w7,w8,w9,w10,w11,w12,w13⟩
   obtain⟨hi,rfl⟩:=zbD hx
   have hm:=List.mem_filter.mp (show S.handed.getD i "" ∈ S.panel.filter fun j=>(S.card j).isSome from zbr hi)
   generalize hj:S.handed.getD i "" = j at hm
   cases e:S.card j with
   | none=>rw[e] at hm;exact absurd hm.2 Bool.false_ne_true
   | some cd =>
     have hnd:S.handed.Nodup:=h.ok.pnd.filter _
     have hnt:j∉S.handed.take i:=fun z=>by
      have e1:S.handed.take (i+1)=S.handed.take i ++ [j]:=by rw[yq hi,hj]
      have e2:(S.handed.take (i+1)).Nodup:=hnd.sublist (List.take_sublist _ _)
      rw[e1] at e2
      exact(List.nodup_append.mp e2).2.2 j z j (List.mem_singleton.mpr rfl) rfl
     obtain⟨l,x1,x2,x3,x4⟩:=w9 j cd e
     rw[if_neg hnt] at x2
     have hcl:cd.length≤24:=by have:=(h.ok.cd j cd e).2.length_eq;omega
     refine⟨_,rfl,p,_,dx,_,_,rfl,w1,T.cl_Sheet,T.n_Sheet_card_by_judge,rfl,_,rfl,d,.ref l,rfl,x1 ▸ zdm.k (k:=Sum.inr j) w5,_,rfl,l,cd,c,rfl,SqL.of x2,by omega,fun l' H6 s6 f6 e6=>?_⟩
     refine⟨_,rfl,p,_,dx,_,_,rfl,s6 _ _ w1,T.cl_Sheet,T.n_Sheet_card_by_judge,rfl,_,rfl,d,_,rfl,zhB.k (k:=Sum.inr j) (s6 _ _ w5) (by have:=h.ok.t200;omega),?_⟩
     have nd:∀b o,H6 b=some o→(∀k,o ≠ .dK k)→upd H6 d (.dK (zbK kvs' (Sum.inr j) (.ref l'))) b=some o:=fun b o e n=>by rw[zi (yr e (s6 _ _ w5) (n _))];exact e
     have ld:l'≠d:=yr e6 (s6 _ _ w5) (by intro z;cases z)
     refine⟨_,zbK kvs' (Sum.inr j) (.ref l'),fun b=>F' b∨b=l',rfl,nd _ _ (s6 _ _ w1) (fun _ z=>nomatch z),nd _ _ (s6 _ _ w2) (fun _ z=>nomatch z),nd _ _ (s6 _ _ w3) (fun _ z=>nomatch z),nd _ _ (s6 _ _ w4) (fun _ z=>nomatch z),ze,nd _ _ (s6 _ _ w6) (fun _ z=>nomatch z),by rw[putK_len x1];exact w7,fun k hk=>?_,fun k b hk=>?_,fun b hb=>.inl (w10 b hb),.inl w11,fun b hb=>?_,fun b o e' n=>?_⟩
     ·rw[zdL,if_neg (fun z=>by injection z with z;rw[z,e] at hk;cases hk)]
      exact w8 k hk
     ·rw[zdL,yq hi,hj]
      by_cases ek:k=j
      ·subst ek
       rw[e] at hk
       cases hk
       rw[if_pos rfl]
       refine⟨l',rfl,?_,.inr rfl,fun z=>by rw[z,w3] at f6;cases f6⟩
       rw[if_pos (List.mem_append_right _ (List.mem_singleton.mpr rfl))]
       exact nd _ _ e6 (fun _ z=>nomatch z)
      ·rw[if_neg (fun z=>ek (by injection z))]
       obtain⟨m,y1,y2,y3,y4⟩:=w9 k b hk
       refine⟨m,y1,?_,.inl y3,y4⟩
       have:(k∈S.handed.take i ++ [j])↔k∈S.handed.take i:=by
        rw[List.mem_append,List.mem_singleton]
        exact⟨fun z=>z.elim id fun w=>absurd w ek,.inl⟩
       simp only[this]
       exact nd _ _ (s6 _ _ y2) (fun _ z=>nomatch z)
     ·by_cases hbd:b=d
      ·rw[hbd,ze];exact fun z=>nomatch z
      rw[zi hbd]
      rcases hb with hb | hb
      ·have:=w12 b hb
       cases e7:H5 b with
       | none=>exact absurd e7 this
       | some o=>rw[s6 _ _ e7];exact fun z=>nomatch z
      ·rw[hb,e6];exact fun z=>nomatch z
     ·obtain⟨y1,y2⟩:=w13 b o e' n
      refine⟨?_,fun z=>z.elim y2 fun w=>by rw[w,f6] at y1;cases y1⟩
      have nbd:b≠d:=fun z=>n (by rw[z];exact h.f4)
      rw[zi nbd]
      exact s6 _ _ y1
  ·rintro σ H5 ⟨v,kvs',F',rfl,w1,w2,w3,w4,w5,w6,w7,w8,w9,w10,w11,w12,w13⟩
   rw[List.length_map,List.take_length] at w9
   refine q hn H5 F' ⟨dx,b1,a2,a3,d,kvs',⟨⟨w1,w2,w3,w4,w5,w7,fun j hj=>?_,fun j b hj=>?_,w10 _ h.fp,w11,w10 _ h.f2,w10 _ h.f3,w10 _ h.f4,b2,h.n32,w12⟩,ok'⟩⟩ w13
   ·have hj:(S.card j).map (wo c)=none:=hj
    exact w8 j (Option.map_eq_none_iff.mp hj)
   ·have hj:(S.card j).map (wo c)=some b:=hj
    obtain⟨cd,e,rfl⟩:=Option.map_eq_some_iff.mp hj
    obtain⟨l,x1,x2,x3,x4⟩:=w9 j cd e
    refine⟨l,x1,?_,x3,x4⟩
    have hin:j∈S.handed:=List.mem_filter.mpr ⟨(h.ok.cd j cd e).1,by rw[e];rfl⟩
    rw[if_pos hin] at x2
    exact x2
end
def zbV(K:PySem.W.Frag):Sp:=fun vs H Q E=>∃(p:Addr) (F:Addr→Prop) (S:Sh),vs = [.ref p]∧zA K H p F S∧(S.shut=true→∀C,zf K "SheetSealed" C→E (.ref C) none H) ∧
 (S.shut=false→∀H',zA K H' p F S.close→zbG F H F H'→Q .non H')
section
variable {P:Program} {w:World} {K:PySem.W.Frag} {mg:Str→Option Value} {base:Heap}
theorem zfS{f:Addr}{fd:FuncData}(F:Fun K "seal" "Sheet.seal" wM f fd)(T:Txt K mg)(C_Sheet_refuse_if_sealed:CanMX P w K mg base 1 (zJ K "Sheet") "refuse_if_sealed" ["self"] (zR K)):FnOk P w K mg base (CX1 P w) 2 f fd ["self"] (zbV K):=by
 refine F.okX zfH (fun vs H Q E h=>?_) (fun X W cdv A outer s H vs Q E hX hW fl md hr h=>?_)
 ·obtain⟨p,F,S,rfl,_⟩:=h
  rfl
 ·obtain⟨p,F,S,rfl,⟨dx,a1,a2,a3,d,kvs,h⟩,qE,q⟩:=h
  subst hX
  refine⟨_,(zd (zU (zcX C_Sheet_refuse_if_sealed T.cl_Sheet fl (hr.mono (by decide)) (pv 0)))
   (zg (zcf (pv 0) wZ rfl))),?_⟩
  refine⟨_,rfl,p,dx,_,rfl,h.ip,rfl,p,F,S,rfl,⟨dx,a1,a2,a3,d,kvs,h⟩,fun hs C hC=>by rw[hW];exact qE hs C hC,fun hs=>?_⟩
  refine⟨_,rfl,p,_,dx,_,rfl,h.ip,T.cl_Sheet,T.n_Sheet_sealed,(by show 6<1000;decide),?_⟩
  rw[show V.bl true=V.bl S.close.shut from rfl,zjN a1 a2 a3 d S S.close rfl]
  have up:∀b o,H b=some o→b≠p→upd H p (.ins (zJ K "Sheet") dx (shF a1 a2 a3 d S.close)) b=some o:=fun b o e n=>by rw[zi n];exact e
  have n1:a1≠p:=yr h.i1 h.ip (by intro z;cases z)
  have n2:a2≠p:=yr h.i2 h.ip (by intro z;cases z)
  have n3:a3≠p:=yr h.i3 h.ip (by intro z;cases z)
  have n4:d≠p:=yr h.i4 h.ip (by intro z;cases z)
  refine q hs _ ⟨dx,a1,a2,a3,d,kvs,⟨⟨ze,up _ _ h.i1 n1,up _ _ h.i2 n2,up _ _ h.i3 n3,up _ _ h.i4 n4,h.kl,h.cn,fun j c hc=>?_,h.fp,h.f1,h.f2,h.f3,h.f4,h.n12,h.n32,fun b hb=>?_⟩,h.ok.close⟩⟩ fun b o e n=>⟨up b o e fun z=>n (z ▸ h.fp),n⟩
  ·obtain⟨l,x1,x2,x3,x4⟩:=h.cs j c hc
   exact⟨l,x1,up _ _ x2 (yr x2 h.ip (by intro z;cases z)),x3,x4⟩
  ·by_cases hbp:b=p
   ·rw[hbp,ze];exact fun z=>nomatch z
   ·rw[zi hbp];exact h.fh b hb
end
def yl(K:PySem.W.Frag):Sp:=fun vs H Q E=>∃(p:Addr) (F:Addr→Prop) (S:Sh) (j:Str),vs = [.ref p,.str j]∧zA K H p F S∧(j∉S.panel→∀C,zf K "UnknownJudge" C→E (.ref C) none H)∧(j∈S.panel→S.card j=none→∀C,zf K "NoCard" C→E (.ref C) none H) ∧
 (∀c,S.card j=some c→∀(l:Addr) (H':Hp),zj H H'→H l=none→H' l=some (.lst (c.map V.int))→Q (.ref l) H')
section
variable {P:Program} {w:World} {K:PySem.W.Frag} {mg:Str→Option Value} {base:Heap}
theorem zdV{f:Addr}{fd:FuncData}(F:Fun K "card_of" "Sheet.card_of" yF f fd)(T:Txt K mg)(C_Sheet_refuse_unknown_judge:CanMX P w K mg base 1 (zJ K "Sheet") "refuse_unknown_judge" ["self","judge"] (zS K)):FnOk P w K mg base (CX1 P w) 2 f fd ["self","judge"] (yl K):=by
 obtain⟨c_NoCard,n_NoCard,m_NoCard,x_NoCard⟩:=T.x_NoCard
 refine F.okX zdW (fun vs H Q E h=>?_) (fun X W cdv A outer s H vs Q E hX hW fl md hr h=>?_)
 ·obtain⟨p,F,S,j,rfl,_⟩:=h
  rfl
 ·obtain⟨p,F,S,j,rfl,⟨dx,a1,a2,a3,d,kvs,h⟩,qU,qN,q⟩:=h
  subst hX
  refine⟨_,(zd (zU (wX C_Sheet_refuse_unknown_judge T.cl_Sheet fl (hr.mono (by decide)) (pv 0) (za (pv 1) zb)))
   (zd (zC (pt_cmp (zjK (zfX hr) (pv 1) (yJ (pv 0) rfl))) (zg (y9 rfl md rfl m_NoCard x_NoCard (za zD zb))) zw)
   (zg (zm (zF yh (by rfl) T.b_list PyProof.Rows.boot_list (za (ziW (zfX hr) (yJ (pv 0) rfl) (pv 1) (fun _ _=>rfl)) zb)))))),?_⟩
  refine⟨_,rfl,p,dx,_,rfl,h.ip,rfl,_,rfl,p,F,S,j,rfl,⟨dx,a1,a2,a3,d,kvs,h⟩,fun hj C hC=>by rw[hW];exact qU hj C hC,fun hj=>?_⟩
  refine⟨_,rfl,_,rfl,p,_,dx,_,_,rfl,h.ip,T.cl_Sheet,T.n_Sheet_card_by_judge,rfl,d,_,rfl,zdm.k (k:=Sum.inr j) h.i4,_,rfl,?_⟩
  cases e:S.card j with
  | none =>
    rw[h.cn _ e]
    exact⟨(by show 1≤sizeLine;decide),by rw[hW];exact qN hj e _ n_NoCard⟩
  | some c =>
    obtain⟨l,e1,e2,_⟩:=h.cs _ _ e
    rw[e1]
    refine⟨_,rfl,p,_,dx,_,_,rfl,h.ip,T.cl_Sheet,T.n_Sheet_card_by_judge,rfl,_,rfl,d,.ref l,rfl,e1 ▸ zdm.k (k:=Sum.inr j) h.i4,l,_,rfl,.inl (SqL.of e2),fun l' hl'=>?_⟩
    exact q c e l' _ (zj.new hl') hl' ze
end
def zbb(K:PySem.W.Frag):Sp:=fun vs H Q _=>∃(a:Addr) (ns:List Int),vs = [.ref a]∧SqL K H a (ns.map V.int)∧ns.length<4000∧∀H',zj H H'→Q (.bl (M1.zcF ns)) H'
section
variable {P:Program} {w:World} {K:PySem.W.Frag} {mg:Str→Option Value} {base:Heap}
theorem zez{f:Addr}{fd:FuncData}(F:Fun K "good_couples" "good_couples" yz f fd)(T:Txt K mg)(C_good_number:Can P w K mg base 1 "good_number" ["couple"] (zbz K))(C_good_length:Can P w K mg base 1 "good_length" ["things","most"] (wG K))(C_all_unlike:Can P w K mg base 1 "all_unlike" ["things"] (zaZ K)):FnOk P w K mg base CX0 2 f fd ["couples"] (zbb K):=by
 refine F.ok zex (fun vs H Q E h=>?_) (fun cdv A outer s H vs Q E hr h=>?_)
 ·obtain⟨a,ns,rfl,_⟩:=h
  rfl
 ·obtain⟨a,ns,rfl,hS,hz,q⟩:=h
  refine⟨_,(zg (zm (zcp (zu C_good_length (hr.mono (by decide)) rfl (za (pv 0) (za (zcS T.c_MOST_COUPLES rfl) zb))) (zcp (zu C_all_unlike (hr.mono (by decide)) rfl (za (pv 0) zb)) (zdi (zo (zfk rfl) (by rfl) T.b_all PyProof.Rows.boot_all (za (ye (show CompScope (zc yz) ["couples"] "couple" [] [] _ from⟨rfl,by decide +kernel,by decide +kernel,rfl,by decide +kernel,rfl,by decide +kernel,by decide +kernel⟩) rfl (zK (pv 0)) (fun _ _ _ _ _=>wf) (fun _ _ _ _ _=>(zu C_good_number (hr.mono (by decide)) rfl (za (pv 0) zb)))) zb))))))),?_⟩
  refine⟨_,rfl,_,_,_,rfl,.inl ⟨_,hS,rfl⟩,_,rfl,?_⟩
  rw[List.length_map]
  unfold M1.zcF at q
  refine zfF (fun h1=>?_) (fun h1=>?_)
  ·rw[h1,Bool.true_and] at q
   refine⟨_,rfl,a,rfl,.inl ⟨ns,hS,hz,fun H1 s1=>⟨_,rfl,zX (fun h2=>?_) (fun h2=>?_)⟩⟩⟩
   ·rw[decide_eq_true h2,Bool.true_and] at q
    have hS1:=s1.seq hS
    refine⟨_,rfl,a,rfl,⟨_,hS1⟩,?_⟩
    refine ya (xs:=ns.map V.int) (fun i ys H2=>H2=H1∧ys=((ns.take i).map fun n=>decide (1≤n) && decide (n≤999)).map V.bl) ⟨rfl,rfl⟩ ?_ (by rw[List.length_map];have:=zB;omega) ?_ ?_
    ·rintro i ys H2 hi ⟨rfl,rfl⟩
     exact⟨hS1,by simp only[List.length_map,List.length_take];omega⟩
    ·rintro i x ys H2 hx ⟨rfl,rfl⟩
     obtain⟨hi,rfl⟩:=yA hx
     refine⟨_,rfl,_,rfl,rfl,?_⟩
     rw[yy hi,List.map_append,List.map_append]
     rfl
    ·rintro ys H2 ⟨rfl,rfl⟩ l hl
     rw[List.length_map,List.take_length]
     exact⟨l,_,rfl,SqL.new,q _ (s1.newT hl)⟩
   ·rw[decide_eq_false h2,Bool.false_and] at q
    exact q _ s1
  ·rw[h1,Bool.false_and] at q
   exact q _ (zj.refl _)
end
def zcl(K:PySem.W.Frag):Sp:=fun vs H Q _=>∃(z:Str),vs = [.str z]∧z.length≤1000∧∀H',zj H H'→Q (.bl (M2.zei z)) H'
section
variable {P:Program} {w:World} {K:PySem.W.Frag} {mg:Str→Option Value} {base:Heap}
theorem zgq{f:Addr}{fd:FuncData}(F:Fun K "good_name" "good_name" wF f fd)(T:Txt K mg)(C_small_letter:Can P w K mg base 1 "small_letter" ["sign"] (za8 K))(C_good_length:Can P w K mg base 1 "good_length" ["things","most"] (wG K)):FnOk P w K mg base CX0 2 f fd ["judge"] (zcl K):=by
 refine F.ok zg9 (fun vs H Q E h=>?_) (fun cdv A outer s H vs Q E hr h=>?_)
 ·obtain⟨z,rfl,_⟩:=h
  rfl
 ·obtain⟨z,rfl,hz,q⟩:=h
  refine⟨_,(zg (zm (zcp (zu C_good_length (hr.mono (by decide)) rfl (za (pv 0) (za (zcS T.c_MOST_SIGNS rfl) zb))) (zdi (zo (zfk rfl) (by rfl) T.b_all PyProof.Rows.boot_all (za (ye (show CompScope (zc wF) ["judge"] "sign" [] [] _ from⟨rfl,by decide +kernel,by decide +kernel,rfl,by decide +kernel,rfl,by decide +kernel,by decide +kernel⟩) rfl (pi_str (pv 0)) (fun _ _ _ _ _=>wf) (fun _ _ _ _ _=>(zu C_small_letter (hr.mono (by decide)) rfl (za (pv 0) zb)))) zb)))))),?_⟩
  have hl:=zB
  refine⟨_,rfl,_,_,_,rfl,⟨by omega,rfl⟩,_,rfl,?_⟩
  unfold M2.zei at q
  refine zfF (fun h1=>?_) (fun h1=>?_)
  ·rw[h1,Bool.true_and] at q
   refine⟨_,rfl,z,rfl,?_⟩
   refine zjh (fun i ys H2=>H2=H∧ys=((z.cps.toList.take i).map zcD).map V.bl) ⟨rfl,rfl⟩ ?_ (by omega) ?_ ?_
   ·rintro i ys H2 hi ⟨rfl,rfl⟩
    simp only[List.length_map,List.length_take]
    omega
   ·rintro i d ys H2 hx ⟨rfl,rfl⟩
    refine⟨_,rfl,d,rfl,rfl,?_⟩
    rw[List.take_succ,hx,List.map_append,List.map_append]
    rfl
   ·rintro ys H2 ⟨rfl,rfl⟩ l hl
    have e:z.cps.toList.take z.length=z.cps.toList:=List.take_of_length_le (by show z.cps.toList.length≤z.cps.size;rw[Array.length_toList];exact Nat.le_refl _)
    rw[e]
    exact⟨l,_,rfl,SqL.new,q _ (zj.new hl)⟩
  ·rw[h1,Bool.false_and] at q
   exact q _ (zj.refl _)
end
def zbM(K:PySem.W.Frag):Sp:=fun vs H Q _=>∃(a:Addr) (cs:List (List Int)) (c:Int),vs = [.ref a,.int c]∧zdJ K (IL K) H a cs∧cs.length≤1000∧(∀d∈cs,c∈d)∧∀(l:Addr) (H':Hp),zj H H'→H l=none→H' l=some (.lst ((M5.zE cs c).map V.int))→Q (.ref l) H'
section
variable {P:Program} {w:World} {K:PySem.W.Frag} {mg:Str→Option Value} {base:Heap}
theorem zhf{f:Addr}{fd:FuncData}(F:Fun K "marks_of" "marks_of" zah f fd)(T:Txt K mg)(C_mark_on:Can P w K mg base 1 "mark_on" ["card","couple"] (zdo K)):FnOk P w K mg base CX0 2 f fd ["cards","couple"] (zbM K):=by
 refine F.ok zho (fun vs H Q E h=>?_) (fun cdv A outer s H vs Q E hr h=>?_)
 ·obtain⟨a,cs,c,rfl,_⟩:=h
  rfl
 ·obtain⟨a,cs,c,rfl,⟨ls,hS,hR⟩,hz,hc,q⟩:=h
  refine⟨_,(zg (zm (ye (show CompScope (zc zah) ["cards","couple"] "card" ["couple"] [1] _ from⟨rfl,by decide +kernel,by decide +kernel,rfl,by decide +kernel,rfl,by decide +kernel,by decide +kernel⟩) rfl (zK (pv 0)) (fun _ _ _ _ _=>wf) (fun _ _ _ _ _=>(zu C_mark_on (hr.mono (by decide)) rfl (za (pv 0) (za (pv 1) zb))))))),?_⟩
  have hlen:=hR.length
  refine⟨_,rfl,a,rfl,⟨_,hS⟩,?_⟩
  refine ya (xs:=ls.map V.ref) (fun i ys H2=>H2=H∧ys=(M5.zE (cs.take i) c).map V.int) ⟨rfl,rfl⟩ ?_ (by rw[List.length_map];have:=zB;omega) ?_ ?_
  ·rintro i ys H2 hi ⟨rfl,rfl⟩
   refine⟨hS,?_⟩
   rw[List.length_map,M5.zap,List.length_take]
   omega
  ·rintro i x ys H2 hx ⟨rfl,rfl⟩
   obtain⟨l,el,rfl⟩:=zay hx
   obtain⟨d,ed,rd⟩:=hR.getL el
   refine⟨_,rfl,_,rfl,l,d,c,rfl,rd,hc d (List.mem_of_getElem? ed),rfl,?_⟩
   rw[List.take_succ,ed]
   unfold M5.zE
   rw[List.map_append,List.map_append]
   rfl
  ·rintro ys H2 ⟨rfl,rfl⟩ l hl
   rw[List.length_map,hlen,List.take_length]
   exact q l _ (zj.new hl) hl ze
end
def zbE(K:PySem.W.Frag):Sp:=fun vs H Q _=>∃(a:Addr) (ms:List Int) (n:Int),vs = [.ref a,.int n]∧SqL K H a (ms.map V.int)∧ms.length≤1000∧∀(H':Hp),zj H H'→Q (.int (M3.cnt ms n)) H'
section
variable {P:Program} {w:World} {K:PySem.W.Frag} {mg:Str→Option Value} {base:Heap}
theorem zin{f:Addr}{fd:FuncData}(F:Fun K "granted" "granted" zbl f fd)(T:Txt K mg)(C_granting:Can P w K mg base 1 "granting" ["marks","number"] (zbP K)):FnOk P w K mg base CX0 2 f fd ["marks","number"] (zbE K):=by
 refine F.ok ziB (fun vs H Q E h=>?_) (fun cdv A outer s H vs Q E hr h=>?_)
 ·obtain⟨a,ms,n,rfl,_⟩:=h
  rfl
 ·obtain⟨a,ms,n,rfl,hS,hz,q⟩:=h
  refine⟨_,(zg (zm (zo zq (by rfl) T.b_len PySem.boot_len (za (zu C_granting (hr.mono (by decide)) rfl (za (pv 0) (za (pv 1) zb))) zb)))),?_⟩
  refine⟨_,rfl,_,rfl,a,ms,n,rfl,hS,hz,fun l H1 s1 f1 e1=>?_⟩
  refine⟨l,_,rfl,.inl (SqL.of e1),?_⟩
  rw[List.length_map]
  exact q _ s1
end
def wI(K:PySem.W.Frag):Sp:=fun vs H Q _=>∃(a:Addr) (ms:List Int) (n:Int),vs = [.ref a,.int n]∧SqL K H a (ms.map V.int)∧ms.length≤1000∧∀(H':Hp),zj H H'→Q (.int (M3.sm ms n)) H'
section
variable {P:Program} {w:World} {K:PySem.W.Frag} {mg:Str→Option Value} {base:Heap}
theorem zfn{f:Addr}{fd:FuncData}(F:Fun K "granted_sum" "granted_sum" wp f fd)(T:Txt K mg)(C_granting:Can P w K mg base 1 "granting" ["marks","number"] (zbP K)):FnOk P w K mg base CX0 2 f fd ["marks","number"] (wI K):=by
 refine F.ok zfC (fun vs H Q E h=>?_) (fun cdv A outer s H vs Q E hr h=>?_)
 ·obtain⟨a,ms,n,rfl,_⟩:=h
  rfl
 ·obtain⟨a,ms,n,rfl,hS,hz,q⟩:=h
  refine⟨_,(zg (zm (zo (zh4 rfl) (by rfl) T.b_sum PyProof.Rows.boot_sum (za (zu C_granting (hr.mono (by decide)) rfl (za (pv 0) (za (pv 1) zb))) zb)))),?_⟩
  refine⟨_,rfl,_,rfl,a,ms,n,rfl,hS,hz,fun l H1 s1 f1 e1=>?_⟩
  exact⟨l,_,rfl,SqL.of e1,q _ s1⟩
end
def zad(K:PySem.W.Frag):Sp:=fun vs H Q _=>∃(a:Addr) (ms:List Int),vs = [.ref a]∧SqL K H a (ms.map V.int)∧ms ≠ []∧ms.length≤60∧(∀x∈ms,1≤x∧x≤24)∧∀(H':Hp) (f:Int),zj H H'→M3.isF ms f→Q (.int f) H'
section
variable {P:Program} {w:World} {K:PySem.W.Frag} {mg:Str→Option Value} {base:Heap}
theorem zew{f:Addr}{fd:FuncData}(F:Fun K "first_number" "first_number" yV f fd)(T:Txt K mg)(C_majority_of:Can P w K mg base 1 "majority_of" ["many"] (zbB K)):FnOk P w K mg base CX0 2 f fd ["marks"] (zad K):=by
 refine F.ok zeI (fun vs H Q E h=>?_) (fun cdv A outer s H vs Q E hr h=>?_)
 ·obtain⟨a,ms,rfl,_⟩:=h
  rfl
 ·obtain⟨a,ms,rfl,hS,hne,hz,hx,q⟩:=h
  refine⟨_,(zg (zm (yn zM (zo zcG (by rfl) T.b_sorted PyProof.Rows.boot_sorted (za (pv 0) zb)) (zn zfp (zu C_majority_of (hr.mono (by decide)) rfl (za (zo zq (by rfl) T.b_len PySem.boot_len (za (pv 0) zb)) zb)) zh) (fun _ _=>rfl)))),?_⟩
  refine⟨_,rfl,a,ms,rfl,hS,by omega,fun l ns hl p w=>?_⟩
  refine⟨_,rfl,a,_,rfl,.inl ((zj.new hl).seq hS),_,rfl,_,_,rfl,rfl,?_⟩
  have hlen:=p.length_eq
  have hn:=List.length_pos_iff.mpr hne
  rw[List.length_map]
  refine⟨l,_,_,_,rfl,rfl,SqL.new,wB (by omega) (by omega),?_⟩
  have e:(((ms.length:Nat):Int)/2+1 - 1).toNat=ns.length/2:=by omega
  rw[e]
  exact q _ _ (zj.new hl) (M3.isF_perm p (M3.zih w fun z=>by rw[z] at hlen;simp at hlen;omega))
end
def zV(K:PySem.W.Frag):Sp:=fun vs H Q E=>∃(p:Addr) (F:Addr→Prop) (S:Sh) (n:Int),vs = [.ref p,.int n]∧zA K H p F S∧(¬n≤S.handed.length→∀C H',zf K "TooFewCards" C→zj H H'→E (.ref C) none H')∧(n≤S.handed.length→∀H',zj H H'→Q .non H')
section
variable {P:Program} {w:World} {K:PySem.W.Frag} {mg:Str→Option Value} {base:Heap}
theorem zcz{f:Addr}{fd:FuncData}(F:Fun K "refuse_fewer_cards" "refuse_fewer_cards" yc f fd)(T:Txt K mg)(C_Sheet_handed:CanM P w K mg base 1 (zJ K "Sheet") "handed" ["self"] (zY K)):FnOk P w K mg base (CX1 P w) 2 f fd ["sheet","least"] (zV K):=by
 obtain⟨c_TooFewCards,n_TooFewCards,m_TooFewCards,x_TooFewCards⟩:=T.x_TooFewCards
 refine F.okX zcy (fun vs H Q E h=>?_) (fun X W cdv A outer s H vs Q E hX hW fl md hr h=>?_)
 ·obtain⟨p,F,S,n,rfl,_⟩:=h
  rfl
 ·obtain⟨p,F,S,n,rfl,hSh,qE,q⟩:=h
  subst hX
  refine⟨_,(zg (zC (zl zeW (zo zq (by rfl) T.b_len PySem.boot_len (za (zL C_Sheet_handed T.cl_Sheet (hr.mono (by decide)) (pv 0)) zb)) (pv 1) (zt _)) (zg (y9 rfl md rfl m_TooFewCards x_TooFewCards (za zD zb))) zw)),?_⟩
  obtain⟨dx,b1,b2,b3,d,hip⟩:=hSh.ins
  refine⟨_,rfl,p,dx,_,rfl,hip,rfl,p,F,S,rfl,hSh.shape,hSh.ok.p15,fun l1 H1 s1 f1 e1=>?_⟩
  refine⟨l1,_,rfl,.inl (SqL.of e1),_,rfl,_,_,rfl,rfl,_,rfl,zX (fun h=>?_) (fun h=>?_)⟩
  ·rw[List.length_map] at h
   exact⟨(by show 1≤sizeLine;decide),by rw[hW];exact qE (by omega) _ _ n_TooFewCards s1⟩
  ·rw[List.length_map] at h
   exact q (by omega) H1 s1
end
def za0(K:PySem.W.Frag):Sp:=fun vs H Q _=>∃(a b:Addr) (ns ms:List Int),vs = [.ref a,.ref b]∧SqL K H a (ns.map V.int)∧SqL K H b (ms.map V.int)∧ms.length≤1000000∧Q (.bl (decide (ns=ms))) H
theorem same_all{ns ms:List Int}(hl:ns.length=ms.length)(h:∀j,j<ms.length→ns.getD j 0=ms.getD j 0):ns=ms:=by
 refine List.ext_getElem hl fun j h1 h2=>?_
 have:=h j h2
 rwa [List.getD_eq_getElem?_getD,List.getD_eq_getElem?_getD,List.getElem?_eq_getElem h1,List.getElem?_eq_getElem h2] at this
section
variable {P:Program} {w:World} {K:PySem.W.Frag} {mg:Str→Option Value} {base:Heap}
theorem zhQ{f:Addr}{fd:FuncData}(F:Fun K "_law_same" "_law_same" zaL f fd)(T:Txt K mg)(C_law_whole:Can P w K mg base 1 "_law_whole" ["_law_found"] (zbi K)):FnOk P w K mg base CX0 2 f fd ["_law_found","_law_due_here"] (za0 K):=by
 refine F.ok zek (fun vs H Q E h=>?_) (fun cdv A outer s H vs Q E hr h=>?_)
 ·obtain⟨a,b,ns,ms,rfl,_⟩:=h
  rfl
 ·obtain⟨a,b,ns,ms,rfl,hA,hB,hz,q⟩:=h
  refine⟨_,(zd (zC (PW.pt (zeg (wv (yN (zo zbW (by rfl) T.b_isinstance PyProof.Rows.boot_isinstance (za (pv 0) (za (zcb (v:=V.ty "list") rfl T.b_list PyProof.Rows.boot_list rfl) zb))))) (zcA (zl zbO (zo zq (by rfl) T.b_len PySem.boot_len (za (pv 0) zb)) (zo zq (by rfl) T.b_len PySem.boot_len (za (pv 1) zb)) (zt _))))) (zg (zm wZ)) zw)
   (zd (za5 PassesOwn.never rfl (zao rfl T.b_range (za (zo zq (by rfl) T.b_len PySem.boot_len (za (pv 1) zb)) zb)) (yR (i:=2) zek.nd rfl (Or.inl rfl))
     (zg (zC (PW.pt (zeg (wv (yN (zu C_law_whole (hr.mono (by decide)) rfl (za (yn zM (pv 0) (pv 2) (fun _ _=>rfl)) zb)))) (zcA (zl zbO (yn zM (pv 0) (pv 2) (fun _ _=>rfl)) (yn zM (pv 1) (pv 2) (fun _ _=>rfl)) (zt _))))) (zg (zm wZ)) zw)))
   (zg (zm wZ)))),?_⟩
  refine⟨_,rfl,_,_,rfl,.yes hA,_,rfl,zbj ?_⟩
  refine⟨_,rfl,a,_,rfl,.inl hA,_,rfl,b,_,rfl,.inl hB,rfl,_,rfl,?_⟩
  rw[List.length_map,List.length_map]
  refine wl (fun hne=>?_) (fun he=>?_)
  ·show Q (.bl false) H
   have:ns≠ms:=fun e=>hne (by rw[e])
   rw[decide_eq_false this] at q
   exact q
  ·have hl:ns.length=ms.length:=by injection he with he;exact Int.ofNat.inj he
   refine⟨_,rfl,b,_,rfl,.inl hB,_,rfl,by omega,by rw[List.length_map];omega,?_⟩
   rw[List.length_map]
   refine zal (fun i σ H2=>∃v,σ = [some (.ref a),some (.ref b),v]∧H2=H∧∀j,j<i→ns.getD j 0=ms.getD j 0) ⟨_,rfl,rfl,fun j hj=>by omega⟩ ?_ ?_
   ·rintro i σ H2 hi ⟨v,rfl,rfl,hj⟩
    have hi':i<ms.length:=by simpa using hi
    have e1:atI (ns.map V.int) (0+(i:Int))=some (.int (ns.getD i 0)):=by rw[Int.zero_add];exact zae (zc1 (by omega))
    have e2:atI (ms.map V.int) (0+(i:Int))=some (.int (ms.getD i 0)):=by rw[Int.zero_add];exact zae (zc1 hi')
    refine⟨_,rfl,_,rfl,a,_,_,_,rfl,rfl,hA,e1,_,true,false,rfl,rfl,rfl,_,rfl,zbj ?_⟩
    refine⟨_,rfl,_,rfl,a,_,_,_,rfl,rfl,hA,e1,_,rfl,_,rfl,b,_,_,_,rfl,rfl,hB,e2,rfl,_,rfl,wl (fun hne=>?_) (fun he=>?_)⟩
    ·show Q (.bl false) _
     have:ns≠ms:=fun e=>hne (by rw[e])
     rw[decide_eq_false this] at q
     exact q
    ·refine⟨_,rfl,rfl,fun j hj'=>?_⟩
     by_cases hji:j=i
     ·subst hji;injection he
     ·exact hj j (by omega)
   ·rintro σ H2 ⟨v,rfl,rfl,hj⟩
    show Q (.bl true) _
    have:ns=ms:=same_all hl fun j h=>hj j (by simpa using h)
    rw[decide_eq_true this] at q
    exact q
end
def zcd(K:PySem.W.Frag):Sp:=fun vs H Q _=>∃(c m:Int),vs = [.int c,.int m]∧0≤m∧m≤15∧∀(l:Addr) (H':Hp) (ts:List Str),zj H H'→H l=none→H' l=some (.lst (ts.map V.str))→ts.length=m.toNat→ts.Nodup→(∀z∈ts,M2.zei z=true)→Q (.ref l) H'
theorem abc_at{i:Int}(h0:0≤i)(h1:i<26):atI abc.cps.toList i=some (97+i.toNat):=by
 have:∀k:Fin 26,abc.cps.toList[k.val]? = some (97+k.val):=by decide +kernel
 have:=zae (this ⟨i.toNat,by omega⟩)
 rwa [show((i.toNat:Nat):Int)=i by omega] at this
theorem zhG{k:Nat}(h:k<26):zcD (97+k)=true:=by
 unfold zcD
 rw[decide_eq_true (by omega),decide_eq_true (by omega)]
 rfl
section
variable {P:Program} {w:World} {K:PySem.W.Frag} {mg:Str→Option Value} {base:Heap}
theorem zgO{f:Addr}{fd:FuncData}(F:Fun K "_law_names" "_law_names" zat f fd)(T:Txt K mg)(C_law_mix:Can P w K mg base 1 "_law_mix" ["_law_cell","_law_place"] (zbq K)):FnOk P w K mg base CX0 2 f fd ["_law_cell","_law_many_here"] (zcd K):=by
 refine F.ok zQ (fun vs H Q E h=>?_) (fun cdv A outer s H vs Q E hr h=>?_)
 ·obtain⟨c,m,rfl,_⟩:=h
  rfl
 ·obtain⟨c,m,rfl,m0,m1,q⟩:=h
  refine⟨_,(zd (zy (i:=2) zQ.nd rfl (Or.inl rfl) zD)
   (zd (zy (i:=3) zQ.nd rfl (Or.inl rfl) (zP zb))
   (zd (zy (i:=4) zQ.nd rfl (Or.inl rfl) (zn yx (pv 0) zh))
   (zd (za5 PassesOwn.never rfl (zao rfl T.b_range (za (pv 1) zb)) (yR (i:=5) zQ.nd rfl (Or.inl rfl))
     (zd (zcq (zC (zl zT (zn zZ (pv 0) zh) zh (zt _)) (zg (zy (i:=4) zQ.nd rfl (Or.inl rfl) (zu C_law_mix (hr.mono (by decide)) rfl (za (zn yj (pv 4) (pv 0)) (za (pv 5) zb))))) zw))
   (zd (zy (i:=6) zQ.nd rfl (Or.inl rfl) zD)
   (zd (zy (i:=7) zQ.nd rfl (Or.inl rfl) (zn yj zh (zn zZ (pv 4) zh)))
   (zd (zy (i:=4) zQ.nd rfl (Or.inl rfl) (zn yx (pv 4) zh))
   (zd (za5 PassesOwn.never rfl (zao rfl T.b_range (za (pv 7) zb)) (yR (i:=8) zQ.nd rfl (Or.inl rfl))
     (zd (zy (i:=6) zQ.nd rfl (Or.inl rfl) (zn yg (pv 6) (yn ziq (pv 2) (zn zZ (pv 4) zh) (fun _ _=>rfl))))
   (zg (zy (i:=4) zQ.nd rfl (Or.inl rfl) (zn yx (pv 4) zh)))))
   (zd (ps_while PassesOwn.never (zl zbk (pv 6) (pv 3) (by first | exact zt _ | rfl)) (zg (zy (i:=6) zQ.nd rfl (Or.inl rfl) (zn yg (ym sl_str (pv 6) yS (yD (ze0 zdb zh))) (yn ziq (pv 2) (zn zZ (zn yj (za1 PySem.F.plainAttrs_str PySem.F.slot_str_index PySem.F.type_str_index (ms_index rfl) (pv 2) (za (yn ziq (pv 6) (ze0 zdb zh) (fun _ _=>rfl)) zb)) zh) zh) (fun _ _=>rfl))))))
   (zg (zU (za1 PySem.F.plainAttrs_list PySem.F.slot_list_append PySem.F.type_list_append zaO (pv 3) (za (pv 6) zb)))))))))))
   (zg (zm (pv 3))))))),?_⟩
  have hln:=zB
  refine⟨(by show 0≤sizeLine;decide),fun l hl=>?_⟩
  refine⟨_,rfl,_,_,rfl,rfl,⟨by decide,by decide⟩,?_⟩
  generalize hH1:upd H l _=H1
  have s1:zj H H1:=by rw[← hH1];exact zj.new hl
  have e1:H1 l=some (.lst (([]:List Str).map V.str)):=by rw[← hH1];exact ze
  refine⟨_,rfl,m,rfl,by omega,by omega,?_⟩
  refine zal (fun i σ H2=>∃(left:Int) (ts:List Str) (v5 v6 v7 v8:Option V),σ = [some (.int c),some (.int m),some (.str abc),some (.ref l),some (.int left),v5,v6,v7,v8]∧H2 l=some (.lst (ts.map V.str))∧(∀b o,H b=some o→H2 b=some o)∧ts.length=i∧ts.Nodup∧∀z∈ts,M2.zei z=true) ⟨_,[],_,_,_,_,rfl,e1,s1,rfl,List.nodup_nil,fun z hz=>nomatch hz⟩ ?_ ?_
  ·rintro i σ H2 hi ⟨left,ts,v5,v6,v7,v8,rfl,e2,s2,hlen,hnd,hgd⟩
   have hi:i<15:=by omega
   refine⟨fun σ' H'=>∃left:Int,σ' = [some (.int c),some (.int m),some (.str abc),some (.ref l),some (.int left),some (.int (0+(i:Int))),v6,v7,v8]∧H'=H2,?_,?_⟩
   ·refine⟨_,rfl,_,_,rfl,rfl,(by show(0:Int)<2;decide),rfl,_,rfl,zX (fun _=>?_) (fun _=>⟨_,rfl,rfl⟩)⟩
    exact⟨_,rfl,_,rfl,_,_,rfl,rfl,_,rfl,_,_,rfl,_,rfl,rfl⟩
   rintro σ' H' ⟨left,rfl,rfl⟩
   have h80:0≤left%8:=Int.emod_nonneg _ (by decide)
   have h81:left%8<8:=Int.emod_lt_of_pos _ (by decide)
   refine⟨_,rfl,_,_,rfl,rfl,(by show(0:Int)<8;decide),_,_,rfl,rfl,?_⟩
   refine⟨_,rfl,_,_,rfl,rfl,⟨by decide,by decide⟩,?_⟩
   dsimp only
   generalize hsz:1+left%8=size
   refine⟨_,rfl,size,rfl,by omega,by omega,?_⟩
   refine zal (fun j σ H3=>∃(left:Int) (z:List Nat) (v8:Option V),σ = [some (.int c),some (.int m),some (.str abc),some (.ref l),some (.int left),some (.int (0+(i:Int))),some (.str (M13.tx z)),some (.int size),v8]∧H3=H'∧z.length=j∧∀x∈z,zcD x=true) ⟨_,[],_,rfl,rfl,rfl,fun x hx=>nomatch hx⟩ ?_ ?_
   ·rintro j σ H3 hj ⟨left,z,v8,rfl,rfl,hz,hs⟩
    have h0:0≤left%26:=Int.emod_nonneg _ (by decide)
    have h1:left%26<26:=Int.emod_lt_of_pos _ (by decide)
    refine⟨_,rfl,_,rfl,_,rfl,_,_,rfl,rfl,(by show(0:Int)<26;decide),abc,_,_,rfl,rfl,(by decide),abc_at h0 h1,_,_,rfl,rfl,(by rw[M13.zdX];show z.length+1≤sizeLine;omega),?_⟩
    refine⟨_,rfl,_,_,rfl,rfl,⟨by decide,by decide⟩,?_⟩
    rw[M13.tx_add]
    refine⟨_,_,_,rfl,rfl,by rw[List.length_append,hz];rfl,fun x hx=>?_⟩
    rcases List.mem_append.mp hx with w | w
    ·exact hs x w
    ·rw[List.mem_singleton.mp w]
     exact zhG (by omega)
   rintro σ H3 ⟨left,z,v8,rfl,rfl,hz,hs⟩
   have hzl:z.length=size.toNat:=hz
   obtain⟨b,y,rfl⟩:∃b y,z=b ++ [y]:=by
    have:z ≠ []:=fun e=>by rw[e] at hzl;simp at hzl;omega
    exact⟨z.dropLast,z.getLast this,(List.dropLast_concat_getLast this).symm⟩
   have hy:=hs y (List.mem_append_right _ (List.mem_singleton.mpr rfl))
   have hb:∀x∈b,zcD x=true:=fun x hx=>hs x (List.mem_append_left _ hx)
   have hbl:b.length≤7:=by rw[List.length_append,List.length_singleton] at hzl;omega
   obtain⟨t,ht,rfl⟩:∃t,t<26∧y=97+t:=by
    unfold zcD at hy
    simp only[Bool.and_eq_true,decide_eq_true_eq] at hy
    exact⟨y - 97,by omega,by omega⟩
   have e0:M13.tx (b ++ [97+t])=M13.wR b t 0:=by unfold M13.wR;rw[Nat.add_zero,Nat.mod_eq_of_lt ht]
   rw[e0]
   refine⟨fun n σ H4=>∃s,n+s=26∧(∀r,r<s→M13.wR b t r∈ts)∧σ = [some (.int c),some (.int m),some (.str abc),some (.ref l),some (.int left),some (.int (0+(i:Int))),some (.str (M13.wR b t s)),some (.int size),v8]∧H4=H3,⟨26,0,rfl,fun r hr=>by omega,rfl,rfl⟩,?_⟩
   rintro n σ H4 ⟨r,hn,hin,rfl,rfl⟩
   refine⟨_,rfl,_,rfl,l,_,rfl,.inl (SqL.of e2),rfl,zdS _,_,rfl,?_⟩
   rw[zhE]
   have hr26:(t+r)%26<26:=Nat.mod_lt _ (by decide)
   refine zX (fun hm=>?_) (fun hm=>?_)
   ·have hin':∀r',r'<r+1→M13.wR b t r'∈ts:=fun r' hr'=>by
     by_cases er:r'=r
     ·rw[er];exact hm
     ·exact hin r' (by omega)
    have hr:r<26:=by
     refine Nat.lt_of_not_le fun z=>?_
     have:=M13.zgg (b:=b) (t:=t) (ts:=ts) fun r' hr'=>hin r' (by omega)
     omega
    refine⟨fun σ' H'=>σ' = [some (.int c),some (.int m),some (.str abc),some (.ref l),some (.int left),some (.int (0+(i:Int))),some (.str (M13.wR b t (r+1))),some (.int size),v8]∧H'=H4,?_,?_⟩
    ·rintro σ' H' ⟨rfl,rfl⟩
     by_cases h26:r+1=26
     ·exfalso
      have:=M13.zgg (b:=b) (t:=t) (ts:=ts) fun r' hr'=>hin' r' (by omega)
      omega
     ·exact⟨n - 1,by omega,r+1,by omega,hin',rfl,rfl⟩
    ·have hlast:atI (M13.wR b t r).cps.toList (-1)=some (97+(t+r)%26):=by
      unfold M13.wR M13.tx
      show atI ((b ++ [97+(t+r)%26]).toArray.toList) (-1)=_
      rw[List.toList_toArray]
      exact atI_last _ _
     have hfind:=M13.find_abc ⟨(t+r)%26,hr26⟩
     dsimp only at hfind
     have i0:(0:Int)≤(((t+r)%26:Nat)+1:Int)%26:=Int.emod_nonneg _ (by decide)
     have i1:(((t+r)%26:Nat)+1:Int)%26<26:=Int.emod_lt_of_pos _ (by decide)
     refine⟨_,rfl,_,rfl,_,rfl,_,rfl,(by unfold M13.wR;rw[M13.zdX,List.length_append,List.length_singleton];omega),?_⟩
     rw[show PySem.Txt.slice (M13.wR b t r) none (some (-1))=M13.tx b from M13.tx_cut b _]
     refine⟨_,rfl,_,rfl,rfl,_,rfl,_,rfl,M13.wR b t r,_,_,rfl,rfl,(by unfold M13.wR;rw[M13.zdX,List.length_append,List.length_singleton];omega),hlast,abc,_,rfl,rfl,by rw[hfind];omega,?_⟩
     rw[hfind]
     refine⟨_,_,rfl,rfl,_,_,rfl,rfl,(by show(0:Int)<26;decide),abc,_,_,rfl,rfl,(by decide),abc_at i0 i1,_,_,rfl,rfl,(by rw[M13.zdX];show b.length+1≤sizeLine;omega),?_⟩
     rw[M13.tx_add]
     refine⟨?_,rfl⟩
     have:97+((((t+r)%26:Nat)+1:Int)%26).toNat=97+(t+(r+1))%26:=by omega
     rw[this]
     rfl
   ·refine⟨_,rfl,.inl ⟨rfl,_,SqL.of e2⟩,_,rfl,l,_,_,rfl,rfl,e2,(by rw[List.length_map];omega),?_⟩
    refine⟨left,ts ++ [M13.wR b t r],_,_,_,_,rfl,lst_appS _ _,fun a o e=>?_,by rw[List.length_append,hlen];rfl,?_,fun z hz=>?_⟩
    ·rw[zi (fun z=>by rw[z,hl] at e;cases e)]
     exact s2 a o e
    ·refine List.nodup_append.mpr ⟨hnd,List.pairwise_singleton _ _,fun x hx y hy e=>?_⟩
     rw[List.mem_singleton.mp hy] at e
     exact hm (e ▸ hx)
    ·rcases List.mem_append.mp hz with w | w
     ·exact hgd z w
     ·rw[List.mem_singleton.mp w,M2.zb7]
      have hll:(M13.wR b t r).length=b.length+1:=by unfold M13.wR;rw[M13.zdX,List.length_append,List.length_singleton]
      refine⟨by omega,fun x hx=>?_⟩
      have hx:x∈b ++ [97+(t+r)%26]:=by
       unfold M13.wR M13.tx at hx
       simpa using hx
      rcases List.mem_append.mp hx with w | w
      ·exact hb x w
      ·rw[List.mem_singleton.mp w]
       exact zhG hr26
  ·rintro σ H2 ⟨left,ts,v5,v6,v7,v8,rfl,e2,s2,hlen,hnd,hgd⟩
   exact⟨_,rfl,q l H2 ts s2 hl e2 hlen hnd hgd⟩
end
def zcJ(K:PySem.W.Frag):Sp:=fun vs H Q _=>∃(c:Int) (a:Addr) (ns:List Int) (y:Int),vs = [.int c,.ref a,.int y]∧SqL K H a (ns.map V.int)∧ns ≠ []∧ns.length≤1000∧∀(l:Addr) (H':Hp) (ms:List Int),zj H H'→H l=none→H' l=some (.lst (ms.map V.int))→ms.Perm ns→Q (.ref l) H'
section
variable {P:Program} {w:World} {K:PySem.W.Frag} {mg:Str→Option Value} {base:Heap}
theorem zhj{f:Addr}{fd:FuncData}(F:Fun K "_law_card" "_law_card" zaS f fd)(T:Txt K mg)(C_law_mix:Can P w K mg base 1 "_law_mix" ["_law_cell","_law_place"] (zbq K)):FnOk P w K mg base CX0 2 f fd ["_law_cell","_law_couples_here","_law_style"] (zcJ K):=by
 refine F.ok yi (fun vs H Q E h=>?_) (fun cdv A outer s H vs Q E hr h=>?_)
 ·obtain⟨c,a,ns,y,rfl,_⟩:=h
  rfl
 ·obtain⟨c,a,ns,y,rfl,hS,hne,hz,q⟩:=h
  refine⟨_,(zd (zy (i:=3) yi.nd rfl (Or.inl rfl) (zF yh (by rfl) T.b_list PyProof.Rows.boot_list (za (pv 1) zb)))
   (zd (zC (zl zT (pv 2) zh (zt _)) (zd (zy (i:=4) yi.nd rfl (Or.inl rfl) (zn zZ (pv 0) (zo zq (by rfl) T.b_len PySem.boot_len (za (pv 1) zb))))
   (zd (zy (i:=3) yi.nd rfl (Or.inl rfl) (zn yZ (ym we (pv 3) (yD (pv 4)) yS) (ym we (pv 3) yS (yD (pv 4)))))
   (zd (zC (zl zT (zn zZ (zn yx (pv 0) (zo zq (by rfl) T.b_len PySem.boot_len (za (pv 1) zb))) zh) zh (zt _)) (zg (zy (i:=3) yi.nd rfl (Or.inl rfl) (pe_rev (pv 3) (ze0 zdb zh)))) zw)
   (zg (zm (pv 3)))))) zw)
   (zd (zy (i:=5) yi.nd rfl (Or.inl rfl) (pv 0))
   (zd (zC (zl zT (pv 2) zh (zt _)) (zg (zy (i:=5) yi.nd rfl (Or.inl rfl) (zu C_law_mix (hr.mono (by decide)) rfl (za (pv 0) (za (zo zq (by rfl) T.b_len PySem.boot_len (za (pv 1) zb)) zb))))) zw)
   (zd (zy (i:=6) yi.nd rfl (Or.inl rfl) (zP zb))
   (zd (za5 PassesOwn.never rfl (zao rfl T.b_range (za (zo zq (by rfl) T.b_len PySem.boot_len (za (pv 1) zb)) zb)) (yR (i:=7) yi.nd rfl (Or.inl rfl))
     (zd (zy (i:=8) yi.nd rfl (Or.inl rfl) (zn zZ (pv 5) (zo zq (by rfl) T.b_len PySem.boot_len (za (pv 3) zb))))
   (zd (zy (i:=5) yi.nd rfl (Or.inl rfl) (zn yx (pv 5) (zo zq (by rfl) T.b_len PySem.boot_len (za (pv 3) zb))))
   (zd (zU (za1 PySem.F.plainAttrs_list PySem.F.slot_list_append PySem.F.type_list_append zaO (pv 6) (za (za1 PySem.F.plainAttrs_list PySem.F.slot_list_pop PySem.F.type_list_pop mt_popAt (pv 3) (za (pv 8) zb)) zb)))
   (zg (zC (zl zT (pv 2) zh (zt _)) (zg (zy (i:=5) yi.nd rfl (Or.inl rfl) (zu C_law_mix (hr.mono (by decide)) rfl (za (zn yj (pv 5) (pv 8)) (za (pv 7) zb))))) zw))))))
   (zg (zm (pv 6))))))))),?_⟩
  have hpos:0<ns.length:=List.length_pos_iff.mpr hne
  -- pool=list(couples)
  refine⟨_,rfl,a,_,rfl,.inl hS,fun p0 hp0=>?_⟩
  have s0:zj H (upd H p0 (.lst (ns.map V.int))):=zj.new hp0
  refine⟨_,rfl,rfl,_,rfl,zX (fun _=>?_) (fun _=>?_)⟩
  ·-- a wR,maybe turned round
   have ht:0≤c%(ns.map V.int).length:=Int.emod_nonneg _ (by rw[List.length_map];omega)
   refine⟨_,rfl,_,rfl,a,_,rfl,.inl (s0.seq hS),_,_,rfl,rfl,(by show(0:Int)<(ns.map V.int).length;rw[List.length_map];omega),?_⟩
   refine⟨_,rfl,_,rfl,_,rfl,p0,_,rfl,SqL.new,fun p1 hp1=>?_⟩
   rw[zaW ht]
   refine⟨_,rfl,_,rfl,_,rfl,p0,_,rfl,(zj.new hp1).seq SqL.new,fun p2 hp2=>?_⟩
   rw[zaX ht]
   have n21:p1≠p2:=zk ze hp2
   refine⟨p1,p2,_,_,rfl,rfl,by rw[zi n21];exact ze,ze,?_,fun p3 hp3=>?_⟩
   ·simp only[List.length_map,List.length_take,List.length_drop];have:=zB;omega
   rw[← List.map_append]
   have f1:H p1=none:=s0.free hp1
   have s1:=s0.newT (o:=.lst ((ns.drop (c%(ns.map V.int).length).toNat).map V.int)) hp1
   have s2:=s1.newT (o:=.lst ((ns.take (c%(ns.map V.int).length).toNat).map V.int)) hp2
   have s3:=s2.newT (o:=.lst ((ns.drop (c%(ns.map V.int).length).toNat++ns.take (c%(ns.map V.int).length).toNat).map V.int)) hp3
   have pm:(ns.drop (c%(ns.map V.int).length).toNat++ns.take (c%(ns.map V.int).length).toNat).Perm ns:=by
    have:=List.perm_append_comm (l₁:=ns.drop (c%(ns.map V.int).length).toNat) (l₂:=ns.take (c%(ns.map V.int).length).toNat)
    rwa [List.take_append_drop] at this
   refine⟨_,rfl,_,rfl,a,_,rfl,.inl (s3.seq hS),_,_,rfl,rfl,⟨by rw[List.length_map];omega,by rw[List.length_map];omega⟩,_,_,rfl,rfl,(by show(0:Int)<2;decide),rfl,_,rfl,zX (fun _=>?_) (fun _=>?_)⟩
   ·refine⟨_,rfl,_,rfl,rfl,p3,_,rfl,SqL.new,fun p4 hp4=>?_⟩
    rw[← List.map_reverse]
    exact⟨_,rfl,q p4 _ _ (s3.newT hp4) (s3.free hp4) ze ((List.reverse_perm _).trans pm)⟩
   ·exact⟨_,rfl,q p3 _ _ s3 (s2.free hp3) ze pm⟩
  ·-- dealt out of the pool
   refine⟨_,rfl,?_⟩
   refine⟨_,rfl,rfl,_,rfl,zX (fun _=>?_) (fun _=>?_)⟩
   all_goals
    first
     | refine⟨by decide,fun m0 hm0=>?_⟩
     | refine⟨_,rfl,_,rfl,a,_,rfl,.inl (s0.seq hS),_,_,rfl,?_⟩
       refine⟨by decide,fun m0 hm0=>?_⟩
    have s1:=s0.newT (o:=.lst []) hm0
    have fm:H m0=none:=s0.free hm0
    have npm:p0≠m0:=zk ze hm0
    refine⟨_,rfl,a,_,rfl,.inl (s1.seq hS),_,rfl,by omega,by rw[List.length_map];omega,?_⟩
    rw[List.length_map]
    refine zal (fun i σ H2=>∃(pool made:List Int) (left:Int) (v4 v7 v8:Option V),σ = [some (.int c),some (.ref a),some (.int y),some (.ref p0),v4,some (.int left),some (.ref m0),v7,v8]∧zj H H2∧H2 p0=some (.lst (pool.map V.int))∧H2 m0=some (.lst (made.map V.int))∧pool.length+i=ns.length∧(made++pool).Perm ns)
     ⟨ns,[],_,_,_,_,rfl,s1,by rw[zi npm];exact ze,ze,rfl,List.Perm.refl _⟩ ?_ ?_
    ·rintro i σ H2 hi ⟨pool,made,left,v4,v7,v8,rfl,s2,e1,e2,hlen,pm⟩
     have hi':i<ns.length:=by simpa using hi
     have hpl:0<pool.length:=by omega
     have hr0:0≤left%((pool.map V.int).length:Int):=Int.emod_nonneg _ (by rw[List.length_map];omega)
     have hr1:left%((pool.map V.int).length:Int)<pool.length:=by
      have:=Int.emod_lt_of_pos left (b:=((pool.map V.int).length:Int)) (by rw[List.length_map];omega)
      rwa [List.length_map] at this ⊢
     have hsl:(left%((pool.map V.int).length:Int)).toNat<pool.length:=by omega
     have hix:seqIndex? (left%((pool.map V.int).length:Int)) (pool.map V.int).length=some (left%((pool.map V.int).length:Int)).toNat:=seqIx_ok hr0 (by rw[List.length_map] at hr1 ⊢;exact hr1)
     refine⟨_,rfl,_,rfl,p0,_,rfl,.inl (SqL.of e1),_,_,rfl,rfl,(by show(0:Int)<(pool.map V.int).length;rw[List.length_map];omega),?_⟩
     refine⟨_,rfl,_,rfl,p0,_,rfl,.inl (SqL.of e1),_,_,rfl,rfl,⟨by rw[List.length_map];omega,by rw[List.length_map];omega⟩,?_⟩
     refine⟨_,rfl,.inl ⟨rfl,_,SqL.of e2⟩,_,rfl,.inl ⟨rfl,_,SqL.of e1⟩,_,rfl,p0,_,_,_,_,rfl,rfl,e1,by omega,by omega,hix,zc1 hsl,?_⟩
     generalize (left%((pool.map V.int).length:Int)).toNat=j at hsl
     rw[zf0]
     have s3:zj H (upd H2 p0 (.lst ((pool.eraseIdx j).map V.int))):=s2.put hp0
     refine⟨m0,_,_,rfl,rfl,by rw[zi (Ne.symm npm)];exact e2,by rw[List.length_map];have:=pm.length_eq;rw[List.length_append] at this;have:=zB;omega,?_⟩
     have s4:zj H (upd (upd H2 p0 (.lst ((pool.eraseIdx j).map V.int))) m0 (.lst ((made ++ [pool.getD j 0]).map V.int))):=s3.put fm
     have pm2:(made ++ [pool.getD j 0]++pool.eraseIdx j).Perm ns:=by
      refine List.Perm.trans ?_ pm
      rw[List.append_assoc]
      refine List.Perm.append_left _ ?_
      have e:pool.getD j 0=pool[j]:=by rw[List.getD_eq_getElem?_getD,List.getElem?_eq_getElem hsl];rfl
      rw[e]
      exact zfr pool j hsl
     have hl2:(pool.eraseIdx j).length+(i+1)=ns.length:=by rw[List.length_eraseIdx_of_lt hsl];omega
     have e1':upd (upd H2 p0 (.lst ((pool.eraseIdx j).map V.int))) m0 (.lst ((made ++ [pool.getD j 0]).map V.int)) p0=some (.lst ((pool.eraseIdx j).map V.int)):=by rw[zi npm];exact ze
     have eap:made.map V.int ++ [V.int (pool.getD j 0)]=(made ++ [pool.getD j 0]).map V.int:=by rw[List.map_append];rfl
     rw[eap]
     refine⟨_,rfl,rfl,_,rfl,zX (fun _=>?_) (fun _=>?_)⟩
     ·refine⟨_,rfl,_,rfl,_,_,rfl,rfl,_,rfl,_,_,rfl,?_⟩
      exact⟨_,_,_,_,_,_,rfl,s4,e1',ze,hl2,pm2⟩
     ·exact⟨_,_,_,_,_,_,rfl,s4,e1',ze,hl2,pm2⟩
    ·rintro σ H2 ⟨pool,made,left,v4,v7,v8,rfl,s2,e1,e2,hlen,pm⟩
     have hl0:(ns.length:Int).toNat=ns.length:=Int.toNat_natCast _
     have hp:pool = []:=List.eq_nil_of_length_eq_zero (by omega)
     subst hp
     rw[List.append_nil] at pm
     exact⟨_,rfl,q m0 _ _ s2 fm e2 pm⟩
end
def zb9(K:PySem.W.Frag):Sp:=fun vs H Q _=>∃(a b:Addr) (cs:List (List Int)) (us:List Int),vs = [.ref a,.ref b]∧zdJ K (IL K) H a cs∧SqL K H b (us.map V.int)∧cs.length≤500∧us.length≤500∧(∀u∈us,∀d∈cs,u∈d)∧∀(l:Addr) (H':Hp),zj H H'→H l=none→H' l=some (.lst ((M5.zi8 cs us).map V.int))→Q (.ref l) H'
section
variable {P:Program} {w:World} {K:PySem.W.Frag} {mg:Str→Option Value} {base:Heap}
theorem zg4{f:Addr}{fd:FuncData}(F:Fun K "_law_spots" "_law_spots" wb f fd)(T:Txt K mg)(C_law_marks:Can P w K mg base 1 "_law_marks" ["_law_cards","_law_couple"] (zcc K))(C_law_key:Can P w K mg base 1 "_law_key" ["_law_marks_here","_law_last"] (zdj K)):FnOk P w K mg base CX0 2 f fd ["_law_cards","_law_couples_here"] (zb9 K):=by
 refine F.ok zdA (fun vs H Q E h=>?_) (fun cdv A outer s H vs Q E hr h=>?_)
 ·obtain⟨a,b,cs,us,rfl,_⟩:=h
  rfl
 ·obtain⟨a,b,cs,us,rfl,hA,hB,hz,hu,hm,q⟩:=h
  refine⟨_,(zd (zy (i:=2) zdA.nd rfl (Or.inr rfl) (ye (show CompScope (zc wb) ["_law_cards","_law_couples_here","_law_ranks"] "_law_couple" ["_law_cards","_law_couples_here"] [0,1] _ from⟨rfl,by decide +kernel,by decide +kernel,rfl,by decide +kernel,rfl,by decide +kernel,by decide +kernel⟩) rfl (zK (pv 1)) (fun _ _ _ _ _=>wf) (fun _ _ _ _ _=>(zu C_law_key (hr.mono (by decide)) rfl (za (zu C_law_marks (hr.mono (by decide)) rfl (za (pv 1) (za (pv 0) zb))) (za (zo (zc8 (K:=K) rfl) (by rfl) T.b_len PySem.boot_len (za (pv 2) zb)) zb))))))
   (zg (zm (pe_compC (show CompScopeC (zc wb) ["_law_cards","_law_couples_here","_law_ranks"] "_law_mine" ["_law_ranks"] [2] _ from⟨rfl,fun _ _=>rfl,fun _=>rfl,by decide +kernel,by decide +kernel,rfl,by decide +kernel,rfl,by decide +kernel,by decide +kernel⟩) rfl (zK (pv 2)) (fun _ _ _ _ _ _=>wf) (fun _ _ _ _ _ _=>(zn yj zh (zo (zc8 (K:=K) rfl) (by rfl) T.b_len PySem.boot_len (za (ye (CompScope.under (show CompScope _ ["_law_mine","_law_ranks"] "_law_rank" ["_law_mine"] [0] _ from⟨rfl,by decide +kernel,by decide +kernel,rfl,by decide +kernel,rfl,by decide +kernel,by decide +kernel⟩)) rfl (pi_listK (K:=K) rfl (pv 1)) (fun _ _ _ _ _=>(zaT (zl (zh1 (K:=K) rfl hr.units0) (pv 0) (pv 1) (zt _)))) (fun _ _ _ _ _=>(pv 0))) zb)))))))),?_⟩
  have hln:=zB
  refine⟨_,rfl,b,rfl,⟨_,hB⟩,?_⟩
  refine ya (xs:=us.map V.int) (fun i ys H2=>zj H H2∧∃ls:List Addr,ys=ls.map V.ref∧All2 (IL K H2) ls ((us.take i).map fun c=>M5.key (M5.zE cs c) us.length)) ⟨zj.refl _,[],rfl,.nil⟩ ?_ (by rw[List.length_map];omega) ?_ ?_
  ·rintro i ys H2 hi ⟨s2,ls,rfl,r⟩
   refine⟨s2.seq hB,?_⟩
   have:=r.length
   rw[List.length_map,List.length_take] at this
   rw[List.length_map]
   omega
  ·rintro i x ys H2 hx ⟨s2,ls,rfl,r⟩
   obtain⟨hi,rfl⟩:=yA hx
   refine⟨_,rfl,_,rfl,a,cs,_,rfl,hA.same (IL.stays K) s2,by omega,hm _ (wT hi),fun l3 H3 s3 f3 e3=>?_⟩
   have s03:=s2.trans s3
   refine⟨_,rfl,b,_,rfl,.inl (s03.seq hB),l3,_,_,rfl,SqL.of e3,by rw[M5.zap];omega,by omega,by rw[List.length_map];omega,fun l4 H4 s4 f4 e4=>?_⟩
   have el:(((us.map V.int).length:Nat):Int).toNat=us.length:=by rw[List.length_map];omega
   rw[el] at e4
   refine⟨s03.trans s4,ls ++ [l4],by rw[List.map_append];rfl,?_⟩
   rw[yy hi,List.map_append]
   exact(r.imp fun x y=>IL.stays K _ _ _ _ (s3.trans s4)).snoc (show IL K H4 l4 _ from SqL.of e4)
  rintro ys H2 ⟨s2,ls,rfl,r⟩ l5 hl5
  rw[List.length_map,List.take_length] at r
  generalize hH5:upd H2 l5 _=H5
  have s5:zj H2 H5:=by rw[← hH5];exact zj.new hl5
  have t5:H5 l5=some (.lst (ls.map V.ref)):=by rw[← hH5];exact ze
  have r5:All2 (IL K H5) ls (M5.zdu cs us):=r.imp fun x y=>IL.stays K _ _ _ _ s5
  have lr:(M5.zdu cs us).length=us.length:=by unfold M5.zdu;rw[List.length_map]
  have ll:=r5.length
  have hsp:M5.zi8 cs us=(M5.zdu cs us).map fun m=>1+(M5.zc6 (M5.zdu cs us) m:Int):=rfl
  rw[hsp] at q
  generalize M5.zdu cs us=rs at r5 lr ll q
  refine⟨_,rfl,l5,rfl,⟨_,SqL.of t5⟩,?_⟩
  refine ya (xs:=ls.map V.ref) (fun i ys H6=>zj H5 H6∧ys=((rs.take i).map fun m=>1+(M5.zc6 rs m:Int)).map V.int) ⟨zj.refl _,rfl⟩ ?_ (by rw[List.length_map];omega) ?_ ?_
  ·rintro i ys H6 hi ⟨s6,rfl⟩
   refine⟨s6.seq (SqL.of t5),?_⟩
   rw[List.length_map,List.length_map,List.length_take]
   omega
  ·rintro i x ys H6 hx ⟨s6,rfl⟩
   obtain⟨l,el,rfl⟩:=zay hx
   obtain⟨m,em,rm⟩:=r5.getL el
   have q6:SqL K H6 l5 (ls.map V.ref):=s6.seq (SqL.of t5)
   have m6:=IL.stays K _ _ _ _ s6 rm
   refine⟨_,rfl,l5,rfl,⟨_,q6⟩,?_⟩
   refine wa (xs:=ls.map V.ref) (fun j zs H7=>H7=H6∧zs.length=((rs.take j).filter fun r=>HT.lexLt r m).length) ⟨rfl,rfl⟩ ?_ (by rw[List.length_map];omega) ?_ ?_
   ·rintro j zs H7 hj ⟨rfl,e⟩
    refine⟨q6,?_⟩
    have:=List.length_filter_le (fun r=>HT.lexLt r m) (rs.take j)
    rw[List.length_take] at this
    omega
   ·rintro j y zs H7 hy ⟨rfl,e⟩
    obtain⟨k,ek,rfl⟩:=zay hy
    obtain⟨r',er,rr⟩:=r5.getL ek
    have r6:=IL.stays K _ _ _ _ s6 rr
    refine⟨_,rfl,_,rfl,k,l,_,_,rfl,rfl,r6,m6,_,rfl,zfF (fun h=>?_) (fun h=>?_)⟩
    ·refine⟨_,rfl,rfl,?_⟩
     rw[List.take_succ,er,List.filter_append,List.length_append,List.length_append,e]
     show _+1=_+(List.filter (fun r=>HT.lexLt r m) [r']).length
     rw[List.filter_cons_of_pos (by simpa using h)]
     rfl
    ·refine⟨rfl,?_⟩
     rw[List.take_succ,er,List.filter_append,List.length_append,e]
     show _=_+(List.filter (fun r=>HT.lexLt r m) [r']).length
     rw[List.filter_cons_of_neg (by simpa using h)]
     rfl
   rintro zs H7 ⟨rfl,e⟩ l8 hl8
   rw[List.length_map,ll,List.take_length] at e
   refine⟨l8,_,rfl,.inl SqL.new,_,_,rfl,rfl,s6.newT hl8,?_⟩
   rw[e,List.take_succ,em,List.map_append,List.map_append]
   rfl
  ·rintro ys H6 ⟨s6,rfl⟩ l9 hl9
   rw[List.length_map,ll,List.take_length]
   exact q l9 _ ((s2.trans (s5.trans s6)).newT hl9) ((s2.trans (s5.trans s6)).free hl9) ze
end
theorem zcT{P:Prop}{B:Hp→Prop}{G:Prop}{H:Hp}(hG:(∀H',zj H H'→P→B H')→G)(hB:∀H',zj H H'→P→B H'):G:=hG hB
def Held(K:PySem.W.Frag)(H:Hp)(v:V)(o:Option (List Int)):Prop:=(v=.non∧o=none)∨∃(h:Addr) (xs:List Int),v=.ref h∧o=some xs∧SqL K H h (xs.map V.int)
def zdg(d:Int)(sh:Bool)(o:Option (List Int))(m:Nat)(us:List Int)(c:Int)(k:List Int):Str :=
 if d<3∧sh=true then "s" else if d∈([0,3,4]:List Int)∧o=none then "j" else if d∈([3,4]:List Int)∧o=some [] then "n" else if d=0∧¬k.Perm us then "b" else
 if(d∈([4,5]:List Int)∧m<2)∨(d∈([6,7]:List Int)∧m=0)then "f" else if d∈([1,3,7]:List Int)∧c∉us then "c" else if d=1∧us.length=1 then "l" else if d=3∧(o.getD []).getD 0 0=c then "t" else ""
def zdc(K:PySem.W.Frag):Sp:=fun vs H Q _=>∃(d:Int) (sh:Bool) (v:V) (o:Option (List Int)) (m:Nat) (a b:Addr) (us k:List Int) (c:Int),vs = [.int d,.bl sh,v,.int m,.ref a,.int c,.ref b]∧Held K H v o∧SqL K H a (us.map V.int)∧us.Nodup∧SqL K H b (k.map V.int)∧∀H',zj H H'→Q (.str (zdg d sh o m us c k)) H'
section
variable {P:Program} {w:World} {K:PySem.W.Frag} {mg:Str→Option Value} {base:Heap}
theorem ziz{f:Addr}{fd:FuncData}(F:Fun K "_law_due" "_law_due" zbn f fd)(T:Txt K mg)(C_law_good:Can P w K mg base 1 "_law_good" ["_law_card_here","_law_couples_here"] (zcM K)):FnOk P w K mg base CX0 2 f fd ["_law_deed","_law_shut","_law_held","_law_into","_law_couples_here","_law_couple","_law_card_here"] (zdc K):=by
 refine F.ok zh7 (fun vs H Q E h=>?_) (fun cdv A outer s H vs Q E hr h=>?_)
 ·obtain⟨d,sh,v,o,m,a,b,us,k,c,rfl,_⟩:=h
  rfl
 ·obtain⟨d,sh,v,o,m,a,b,us,k,c,rfl,hv,hA,nd,hB,q⟩:=h
  refine⟨_,(zd (zC (PW.pt (zaN (zl zeW (pv 0) zh (zt _)) (wQ (yN (pv 1))))) (zg (zm zD)) zw)
   (zd (zC (PW.pt (zaN (zl zbk (pv 0) (zP (za zh (za zh (za zh zb)))) (by first | exact zt _ | rfl)) (wQ (zl op_isN (pv 2) zgB (zt _))))) (zg (zm zD)) zw)
   (zd (zC (PW.pt (zaN (zl zbk (pv 0) (zP (za zh (za zh zb))) (by first | exact zt _ | rfl)) (wQ (zl (zck hr.units0) (pv 2) (zP zb) (zt _))))) (zg (zm zD)) zw)
   (zd (zC (PW.pt (zaN (zl zT (pv 0) zh (zt _)) (wQ (wv (yN (zu C_law_good (hr.mono (by decide)) rfl (za (pv 6) (za (pv 4) zb)))))))) (zg (zm zD)) zw)
   (zd (zC (PW.pt (zeg (PW.pt (zaN (zl zbk (pv 0) (zP (za zh (za zh zb))) (by first | exact zt _ | rfl)) (wQ (zl zeW (pv 3) zh (zt _))))) (zcA (PW.pt (zaN (zl zbk (pv 0) (zP (za zh (za zh zb))) (by first | exact zt _ | rfl)) (wQ (zl zT (pv 3) zh (zt _)))))))) (zg (zm zD)) zw)
   (zd (zC (PW.pt (zaN (zl zbk (pv 0) (zP (za zh (za zh (za zh zb)))) (by first | exact zt _ | rfl)) (wQ (zl zaz (pv 5) (pv 4) (by first | exact zt _ | rfl))))) (zg (zm zD)) zw)
   (zd (zC (PW.pt (zaN (zl zT (pv 0) zh (zt _)) (wQ (zl zT (zo zq (by rfl) T.b_len PySem.boot_len (za (pv 4) zb)) zh (zt _))))) (zg (zm zD)) zw)
   (zd (zC (PW.pt (zaN (zl zT (pv 0) zh (zt _)) (wQ (zl zT (yn zM (pv 2) zh (fun _ _=>rfl)) (pv 5) (zt _))))) (zg (zm zD)) zw)
   (zg (zm zD)))))))))),?_⟩
  unfold zdg at q
  have s0:=zj.refl H
  apply zcT (H:=H) (P:=¬(d<3∧sh=true))
  ·intro hn
   refine⟨_,rfl,_,_,rfl,rfl,_,rfl,zX (fun h1=>⟨_,rfl,_,rfl,zfF (fun h2=>?_) (fun h2=>hn _ s0 fun z=>?_)⟩) (fun h1=>hn _ s0 fun z=>h1 z.1)⟩
   ·rw[if_pos ⟨h1,h2⟩] at q;exact q _ s0
   ·rw[h2] at z;cases z.2
  intro H0 s n1
  rw[if_neg n1] at q
  apply zcT (H:=H) (P:=¬(d∈([0,3,4]:List Int)∧o=none))
  ·intro hn
   refine⟨_,rfl,(by show 3≤sizeLine;decide),fun l hl=>?_⟩
   have t:=s.newT (o:=.lst (([0,3,4]:List Int).map V.int)) hl
   refine⟨l,([0,3,4]:List Int).map V.int,rfl,.inl SqL.new,rfl,zG _,_,rfl,?_⟩
   rw[zaA]
   change zj H (upd H0 l (.lst [.int 0,.int 3,.int 4]))at t
   generalize upd H0 l _=H1 at t ⊢
   refine zX (fun h1=>⟨_,rfl,rfl,_,rfl,zX (fun h2=>?_) (fun h2=>hn _ t fun z=>?_)⟩) (fun h1=>hn _ t fun z=>h1 z.1)
   ·rcases hv with⟨_,ho⟩ | ⟨h,xs,hw,_,_⟩
    ·rw[if_pos ⟨h1,ho⟩] at q;exact q _ t
    ·rw[hw] at h2;cases h2
   ·rcases hv with⟨hw,_⟩ | ⟨h,xs,_,ho,_⟩
    ·exact h2 hw
    ·rw[ho] at z;cases z.2
  intro H0 s n2
  rw[if_neg n2] at q
  apply zcT (H:=H) (P:=¬(d∈([3,4]:List Int)∧o=some []))
  ·intro hn
   refine⟨_,rfl,(by show 2≤sizeLine;decide),fun l hl=>?_⟩
   have t:=s.newT (o:=.lst (([3,4]:List Int).map V.int)) hl
   refine⟨l,([3,4]:List Int).map V.int,rfl,.inl SqL.new,rfl,zG _,_,rfl,?_⟩
   rw[zaA]
   change zj H (upd H0 l (.lst [.int 3,.int 4]))at t
   generalize upd H0 l _=H1 at t ⊢
   refine zX (fun h1=>?_) (fun h1=>hn _ t fun z=>h1 z.1)
   rcases hv with⟨_,ho⟩ | ⟨h,xs,hw,ho,hx⟩
   ·exact absurd ⟨List.mem_cons_of_mem _ h1,ho⟩ n2
   refine⟨_,rfl,(by show 0≤sizeLine;decide),fun l2 hl2=>?_⟩
   have t2:=t.newT (o:=.lst []) hl2
   refine⟨h,l2,_,[],hw,rfl,t2.seq hx,SqL.new,zG _,rfl,_,rfl,?_⟩
   generalize upd H1 l2 _=H2 at t2 ⊢
   rw[show eqL (xs.map V.int) []=decide (xs = [])from zby _ []]
   refine zX (fun h2=>?_) (fun h2=>hn _ t2 fun z=>?_)
   ·rw[if_pos ⟨h1,by rw[ho,h2]⟩] at q;exact q _ t2
   ·rw[ho] at z;exact h2 (Option.some.inj z.2)
  intro H0 s n3
  rw[if_neg n3] at q
  apply zcT (H:=H) (P:=¬(d=0∧¬k.Perm us))
  ·intro hn
   refine⟨_,rfl,rfl,_,rfl,zX (fun h1=>?_) (fun h1=>?_)⟩
   ·have h1:d=0:=by injection h1
    refine⟨_,rfl,_,rfl,b,a,k,us,rfl,s.seq hB,s.seq hA,nd,_,rfl,wl (fun h2=>?_) (fun h2=>hn _ s fun z=>z.2 h2)⟩
    rw[if_pos ⟨h1,h2⟩] at q;exact q _ s
   ·exact zbj (hn _ s fun z=>h1 (by rw[z.1]))
  intro H0 s n4
  rw[if_neg n4] at q
  apply zcT (H:=H) (P:=¬((d∈([4,5]:List Int)∧m<2)∨(d∈([6,7]:List Int)∧m=0)))
  ·intro hn
   apply zcT (H:=H) (P:=¬(d∈([4,5]:List Int)∧m<2))
   ·intro hm
    refine⟨_,rfl,(by show 2≤sizeLine;decide),fun l hl=>?_⟩
    have t:=s.newT (o:=.lst (([4,5]:List Int).map V.int)) hl
    refine⟨l,([4,5]:List Int).map V.int,rfl,.inl SqL.new,rfl,zG _,_,rfl,?_⟩
    rw[zaA]
    change zj H (upd H0 l (.lst [.int 4,.int 5]))at t
    generalize upd H0 l _=H1 at t ⊢
    refine zX (fun h1=>⟨_,rfl,_,_,rfl,rfl,_,rfl,zX (fun h2=>?_) (fun h2=>hm _ t fun z=>h2 (by omega))⟩) (fun h1=>hm _ t fun z=>h1 z.1)
    rw[if_pos (.inl ⟨h1,by omega⟩)] at q;exact q _ t
   intro H0 s n5
   refine⟨_,rfl,(by show 2≤sizeLine;decide),fun l hl=>?_⟩
   have t:=s.newT (o:=.lst (([6,7]:List Int).map V.int)) hl
   refine⟨l,([6,7]:List Int).map V.int,rfl,.inl SqL.new,rfl,zG _,_,rfl,?_⟩
   rw[zaA]
   change zj H (upd H0 l (.lst [.int 6,.int 7]))at t
   generalize upd H0 l _=H1 at t ⊢
   refine zX (fun h1=>⟨_,rfl,rfl,_,rfl,zX (fun h2=>?_) (fun h2=>hn _ t fun z=>?_)⟩) (fun h1=>hn _ t fun z=>?_)
   ·have h2:m=0:=by injection h2 with h2;omega
    rw[if_pos (.inr ⟨h1,h2⟩)] at q;exact q _ t
   ·rcases z with z | z
    ·exact n5 z
    ·exact h2 (by rw[z.2];rfl)
   ·rcases z with z | z
    ·exact n5 z
    ·exact h1 z.1
  intro H0 s n5
  rw[if_neg n5] at q
  apply zcT (H:=H) (P:=¬(d∈([1,3,7]:List Int)∧c∉us))
  ·intro hn
   refine⟨_,rfl,(by show 3≤sizeLine;decide),fun l hl=>?_⟩
   have t:=s.newT (o:=.lst (([1,3,7]:List Int).map V.int)) hl
   refine⟨l,([1,3,7]:List Int).map V.int,rfl,.inl SqL.new,rfl,zG _,_,rfl,?_⟩
   rw[zaA]
   change zj H (upd H0 l (.lst [.int 1,.int 3,.int 7]))at t
   generalize upd H0 l _=H1 at t ⊢
   refine zX (fun h1=>?_) (fun h1=>hn _ t fun z=>h1 z.1)
   refine⟨_,rfl,_,rfl,a,_,rfl,.inl (t.seq hA),rfl,zG _,_,rfl,?_⟩
   rw[zaA]
   refine wl (fun h2=>?_) (fun h2=>hn _ t fun z=>z.2 h2)
   rw[if_pos ⟨h1,h2⟩] at q;exact q _ t
  intro H0 s n6
  rw[if_neg n6] at q
  apply zcT (H:=H) (P:=¬(d=1∧us.length=1))
  ·intro hn
   refine⟨_,rfl,rfl,_,rfl,zX (fun h1=>?_) (fun h1=>?_)⟩
   ·have h1:d=1:=by injection h1
    refine⟨_,rfl,a,_,rfl,.inl (s.seq hA),rfl,_,rfl,?_⟩
    rw[List.length_map]
    refine zX (fun h2=>?_) (fun h2=>hn _ s fun z=>h2 (by rw[z.2];rfl))
    have h2:us.length=1:=by injection h2 with h2;omega
    rw[if_pos ⟨h1,h2⟩] at q;exact q _ s
   ·exact zbj (hn _ s fun z=>h1 (by rw[z.1]))
  intro H0 s n7
  rw[if_neg n7] at q
  refine⟨_,rfl,rfl,_,rfl,zX (fun h1=>?_) (fun h1=>?_)⟩
  ·have h1:d=3:=by injection h1
   rcases hv with⟨_,ho⟩ | ⟨h,xs,hw,ho,hx⟩
   ·exact absurd ⟨by rw[h1];decide,ho⟩ n2
   have hxs:xs ≠ []:=fun e=>n3 ⟨by rw[h1];decide,by rw[ho,e]⟩
   have hp:=List.length_pos_iff.mpr hxs
   refine⟨_,rfl,h,_,_,_,hw,rfl,s.seq hx,wB (by decide) (by omega),_,rfl,rfl,_,rfl,zX (fun h2=>?_) (fun h2=>?_)⟩
   ·have h2:xs.getD (0:Int).toNat 0=c:=by injection h2
    rw[if_pos ⟨h1,by rw[ho];exact h2⟩] at q;exact q _ s
   ·rw[if_neg fun z=>h2 (by rw[ho] at z;rw[show xs.getD (0:Int).toNat 0=c from z.2])] at q;exact q _ s
  ·rw[if_neg fun z=>h1 (by rw[z.1])] at q;exact q _ s
end
def yT(K:PySem.W.Frag):Sp:=fun vs H Q _=>∃(p:Addr) (F:Addr→Prop) (S:Sh),vs = [.ref p]∧zA K H p F S∧∀(l:Addr) (H':Hp) (ks:List Addr),zj H H'→H l=none→H' l=some (.lst (ks.map V.ref))→All2 (fun k c=>H k=none∧H' k=some (.lst (c.map V.int))) ks S.cardsIn→Q (.ref l) H'
section
variable {P:Program} {w:World} {K:PySem.W.Frag} {mg:Str→Option Value} {base:Heap}
theorem zff{f:Addr}{fd:FuncData}(F:Fun K "cards" "Sheet.cards" yK f fd)(T:Txt K mg)(C_Sheet_handed:CanM P w K mg base 1 (zJ K "Sheet") "handed" ["self"] (zY K))(C_Sheet_card_of:CanMX P w K mg base 2 (zJ K "Sheet") "card_of" ["self","judge"] (yl K)):FnOk P w K mg base CX0 3 f fd ["self"] (yT K):=by
 refine F.ok zeP (fun vs H Q E h=>?_) (fun cdv A outer s H vs Q E hr h=>?_)
 ·obtain⟨p,F,S,rfl,_⟩:=h
  rfl
 ·obtain⟨p,F,S,rfl,hSh,q⟩:=h
  refine⟨_,(zg (zm (ye (show CompScope (zc yK) ["self"] "judge" ["self"] [0] _ from⟨rfl,by decide +kernel,by decide +kernel,rfl,by decide +kernel,rfl,by decide +kernel,by decide +kernel⟩) rfl (zK (zL C_Sheet_handed T.cl_Sheet (hr.mono (by decide)) (pv 0))) (fun _ _ _ _ _=>wf) (fun _ _ _ _ _=>(wX C_Sheet_card_of T.cl_Sheet zgl (hr.mono (by decide)) (pv 1) (za (pv 0) zb)))))),?_⟩
  have hln:=zB
  have h15:=hSh.ok.p15
  have hip:∃dx fs,H p=some (.ins (zJ K "Sheet") dx fs)∧fs.lookup ("handed" : Str)=none∧fs.lookup ("card_of" : Str)=none:=by
   obtain⟨dx,a1,a2,a3,d,kvs,h⟩:=hSh
   exact⟨dx,_,h.ip,rfl,rfl⟩
  obtain⟨dx,fs,hip,fs1,fs2⟩:=hip
  refine⟨_,rfl,p,dx,_,rfl,hip,fs1,p,F,S,rfl,hSh.shape,h15,fun a H1 s1 f1 e1=>?_⟩
  have hl2:S.handed.length≤15:=Nat.le_trans (List.length_filter_le _ _) h15
  refine⟨a,rfl,⟨_,SqL.of e1⟩,?_⟩
  refine ya (xs:=S.handed.map V.str) (fun i ys H2=>∃ks:List Addr,ys=ks.map V.ref∧zj H1 H2∧All2 (fun k c=>H k=none∧H2 k=some (.lst (c.map V.int))) ks ((S.handed.take i).map fun j=>(S.card j).getD [])) ⟨[],rfl,zj.refl _,.nil⟩ ?_ (by rw[List.length_map];omega) ?_ ?_
  ·rintro i ys H2 hi ⟨ks,rfl,s2,r2⟩
   refine⟨s2.seq (SqL.of e1),?_⟩
   have:=r2.length
   rw[List.length_map,List.length_take] at this
   rw[List.length_map]
   omega
  ·rintro i x ys H2 hx ⟨ks,rfl,s2,r2⟩
   obtain⟨hi,rfl⟩:=zbD hx
   have hm:=List.mem_filter.mp (show S.handed.getD i "" ∈ S.panel.filter fun j=>(S.card j).isSome from zbr hi)
   have s12:=s1.trans s2
   cases e:S.card (S.handed.getD i "")with
   | none=>rw[e] at hm;exact absurd hm.2 Bool.false_ne_true
   | some c =>
     refine⟨_,rfl,p,dx,_,rfl,s12 _ _ hip,fs2,_,rfl,p,F,S,_,rfl,hSh.same s12,fun hj=>absurd hm.1 hj,(fun _ z=>by rw[e] at z;cases z),fun c' e' l H3 s3 f3 e3=>?_⟩
     rw[e] at e'
     cases e'
     refine⟨ks ++ [l],by rw[List.map_append];rfl,s2.trans s3,?_⟩
     rw[yq hi,List.map_append]
     refine(r2.imp fun _ _ z=>⟨z.1,s3 _ _ z.2⟩).snoc ⟨s12.free f3,?_⟩
     dsimp only
     rw[e]
     exact e3
  ·rintro ys H2 ⟨ks,rfl,s2,r2⟩ l hl
   rw[List.length_map,List.take_length] at r2
   exact q l _ ks ((s1.trans s2).newT hl) ((s1.trans s2).free hl) ze (r2.imp fun _ _ z=>⟨z.1,zj.new hl _ _ z.2⟩)
end
def zbt(K:PySem.W.Frag):Sp:=fun vs H Q _=>∃(a:Addr) (ts:List Str),vs = [.ref a]∧SqL K H a (ts.map V.str)∧ts.length<4000∧(∀z∈ts,z.length≤1000)∧∀H',zj H H'→Q (.bl (M2.zdw ts)) H'
section
variable {P:Program} {w:World} {K:PySem.W.Frag} {mg:Str→Option Value} {base:Heap}
theorem ze2{f:Addr}{fd:FuncData}(F:Fun K "good_judges" "good_judges" yL f fd)(T:Txt K mg)(C_good_name:Can P w K mg base 2 "good_name" ["judge"] (zcl K))(C_good_length:Can P w K mg base 1 "good_length" ["things","most"] (wG K))(C_all_unlike:Can P w K mg base 1 "all_unlike" ["things"] (zaZ K)):FnOk P w K mg base CX0 3 f fd ["judges"] (zbt K):=by
 refine F.ok zfj (fun vs H Q E h=>?_) (fun cdv A outer s H vs Q E hr h=>?_)
 ·obtain⟨a,ts,rfl,_⟩:=h
  rfl
 ·obtain⟨a,ts,rfl,hS,hz,ht,q⟩:=h
  refine⟨_,(zg (zm (zcp (zu C_good_length (hr.mono (by decide)) rfl (za (pv 0) (za (zcS T.c_MOST_JUDGES rfl) zb))) (zcp (zu C_all_unlike (hr.mono (by decide)) rfl (za (pv 0) zb)) (zdi (zo (zfk rfl) (by rfl) T.b_all PyProof.Rows.boot_all (za (ye (show CompScope (zc yL) ["judges"] "judge" [] [] _ from⟨rfl,by decide +kernel,by decide +kernel,rfl,by decide +kernel,rfl,by decide +kernel,by decide +kernel⟩) rfl (zK (pv 0)) (fun _ _ _ _ _=>wf) (fun _ _ _ _ _=>(zu C_good_name (hr.mono (by decide)) rfl (za (pv 0) zb)))) zb))))))),?_⟩
  refine⟨_,rfl,_,_,_,rfl,.inl ⟨_,hS,rfl⟩,_,rfl,?_⟩
  rw[List.length_map]
  unfold M2.zdw at q
  refine zfF (fun h1=>?_) (fun h1=>?_)
  ·rw[h1,Bool.true_and] at q
   refine⟨_,rfl,a,rfl,.inr ⟨ts,hS,hz,_,rfl,zX (fun h2=>?_) (fun h2=>?_)⟩⟩
   ·rw[decide_eq_true h2,Bool.true_and] at q
    refine⟨_,rfl,a,rfl,⟨_,hS⟩,?_⟩
    refine ya (xs:=ts.map V.str) (fun i ys H2=>zj H H2∧ys=((ts.take i).map M2.zei).map V.bl) ⟨zj.refl _,rfl⟩ ?_ (by rw[List.length_map];have:=zB;omega) ?_ ?_
    ·rintro i ys H2 hi ⟨s2,rfl⟩
     exact⟨s2.seq hS,by simp only[List.length_map,List.length_take];omega⟩
    ·rintro i x ys H2 hx ⟨s2,rfl⟩
     obtain⟨hi,rfl⟩:=zbD hx
     refine⟨_,rfl,_,rfl,ht _ (zbr hi),fun H3 s3=>⟨s2.trans s3,?_⟩⟩
     rw[yq hi,List.map_append,List.map_append]
     rfl
    ·rintro ys H2 ⟨s2,rfl⟩ l hl
     rw[List.length_map,List.take_length]
     exact⟨l,_,rfl,SqL.new,q _ (s2.newT hl)⟩
   ·rw[decide_eq_false h2,Bool.false_and] at q
    exact q _ (zj.refl _)
  ·rw[h1,Bool.false_and] at q
   exact q _ (zj.refl _)
end
def zci(K:PySem.W.Frag):Sp:=fun vs H Q _=>∃(a:Addr) (ms:List Int) (n:Int),vs = [.ref a,.int n]∧SqL K H a (ms.map V.int)∧ms.length≤1000∧0≤n∧n≤1000∧∀(l:Addr) (H':Hp) (ls:List Addr),zj H H'→H l=none→H' l=some (.lst (ls.map V.ref))→All2 (TPl K H') ls (M6.zbf ms n.toNat)→Q (.ref l) H'
section
variable {P:Program} {w:World} {K:PySem.W.Frag} {mg:Str→Option Value} {base:Heap}
theorem zgu{f:Addr}{fd:FuncData}(F:Fun K "ladder_of" "ladder_of" wC f fd)(T:Txt K mg)(C_granted:Can P w K mg base 2 "granted" ["marks","number"] (zbE K))(C_granted_sum:Can P w K mg base 2 "granted_sum" ["marks","number"] (wI K)):FnOk P w K mg base CX0 3 f fd ["marks","last"] (zci K):=by
 refine F.ok zgS (fun vs H Q E h=>?_) (fun cdv A outer s H vs Q E hr h=>?_)
 ·obtain⟨a,ms,n,rfl,_⟩:=h
  rfl
 ·obtain⟨a,ms,n,rfl,hS,hz,h0,h1,q⟩:=h
  refine⟨_,(zg (zm (ye (show CompScope (zc wC) ["marks","last"] "number" ["marks"] [0] _ from⟨rfl,by decide +kernel,by decide +kernel,rfl,by decide +kernel,rfl,by decide +kernel,by decide +kernel⟩) rfl (zd7 rfl T.b_range (za zh (za (zn yj (pv 1) zh) zb))) (fun _ _ _ _ _=>wf) (fun _ _ _ _ _=>(pe_tup (za (zu C_granted (hr.mono (by decide)) rfl (za (pv 1) (za (pv 0) zb))) (za (zu C_granted_sum (hr.mono (by decide)) rfl (za (pv 1) (za (pv 0) zb))) zb))))))),?_⟩
  refine⟨_,rfl,_,_,rfl,rfl,_,_,rfl,⟨by omega,by omega,by omega,by omega⟩,?_⟩
  have en:(n+1 - 1).toNat=n.toNat:=by omega
  rw[en]
  refine zem (fun i ys H2=>∃ks:List Addr,ys=ks.map V.ref∧zj H H2∧All2 (TPl K H2) ks (M6.zbf ms i)) ⟨[],rfl,zj.refl _,.nil⟩ ?_ (by have:=zB;omega) ?_ ?_
  ·rintro i ys H2 hi ⟨ks,rfl,s2,r2⟩
   have:=r2.length
   rw[M6.zdf] at this
   rw[List.length_map]
   omega
  ·rintro i ys H2 hi ⟨ks,rfl,s2,r2⟩
   refine⟨_,rfl,_,rfl,a,ms,_,rfl,s2.seq hS,hz,fun H3 s3=>?_⟩
   refine⟨_,rfl,_,rfl,a,ms,_,rfl,(s2.trans s3).seq hS,hz,fun H4 s4=>?_⟩
   refine⟨by show 2≤sizeLine;decide,fun t ht=>?_⟩
   have s5:=(s2.trans s3).trans s4
   refine⟨ks ++ [t],by rw[List.map_append];rfl,s5.newT ht,?_⟩
   rw[M6.zeo,Int.add_comm (i:Int) 1]
   exact(r2.imp fun _ _=>TPl.stays K _ _ _ _ ((s3.trans s4).newT ht)).snoc (show TPl K _ t _ from SqT.new)
  ·rintro ys H2 ⟨ks,rfl,s2,r2⟩ l hl
   refine q l _ ks (s2.newT hl) ?_ ze (r2.imp fun _ _=>TPl.stays K _ _ _ _ (zj.new hl))
   cases e:H l with
   | none=>rfl
   | some u=>have:=s2 l u e;rw[hl] at this;cases this
end
def unlV:Option Int→V
 | none=>.non
 | some n=>.int n
def zce(K:PySem.W.Frag):Sp:=fun vs H Q _=>∃(a b:Addr) (ms us:List Int) (f:Int),vs = [.ref a,.ref b]∧SqL K H a (ms.map V.int)∧SqL K H b (us.map V.int)∧1≤ms.length∧ms.length≤60∧us.length≤60∧(∀x∈ms,1≤x∧x≤24)∧(∀x∈us,1≤x∧x≤24)∧M3.isF ms f∧M3.isF us f∧∀(r:Option Int) (H':Hp),zj H H'→M6.zhi ms us f r→Q (unlV r) H'
section
variable {P:Program} {w:World} {K:PySem.W.Frag} {mg:Str→Option Value} {base:Heap}
theorem zg6{f:Addr}{fd:FuncData}(F:Fun K "unlike_at" "unlike_at" zaj f fd)(T:Txt K mg)(C_granted:Can P w K mg base 2 "granted" ["marks","number"] (zbE K))(C_granted_sum:Can P w K mg base 2 "granted_sum" ["marks","number"] (wI K))(C_first_number:Can P w K mg base 2 "first_number" ["marks"] (zad K)):FnOk P w K mg base CX0 3 f fd ["one","other"] (zce K):=by
 refine F.ok zdG (fun vs H Q E h=>?_) (fun cdv A outer s H vs Q E hr h=>?_)
 ·obtain⟨a,b,ms,us,f,rfl,_⟩:=h
  rfl
 ·obtain⟨a,b,ms,us,f,rfl,hA,hB,h1,hz,hz2,hm,hu,fF,fG,q⟩:=h
  refine⟨_,(zd (za5 PassesOwn.never rfl (zd7 rfl T.b_range (za (zu C_first_number (hr.mono (by decide)) rfl (za (pv 0) zb)) (za (zn yj (zo (zfJ rfl) (by rfl) T.b_max PyProof.Rows.boot_max (za (zn op_catS (pv 0) (pv 1)) zb)) zh) zb))) (yR (i:=2) zdG.nd rfl (Or.inl rfl))
   (zd (zcq (zC (zl zbO (zu C_granted (hr.mono (by decide)) rfl (za (pv 0) (za (pv 2) zb))) (zu C_granted (hr.mono (by decide)) rfl (za (pv 1) (za (pv 2) zb))) (zt _)) (zg (zm (pv 2))) zw))
   (zg (zcq (zC (zl zbO (zu C_granted_sum (hr.mono (by decide)) rfl (za (pv 0) (za (pv 2) zb))) (zu C_granted_sum (hr.mono (by decide)) rfl (za (pv 1) (za (pv 2) zb))) (zt _)) (zg (zm (pv 2))) zw)))))
   (zg (zm zgB))),?_⟩
  have hln:=zB
  have hne:ms ≠ []:=by intro z;rw[z] at h1;simp at h1
  refine⟨_,rfl,a,ms,rfl,hA,hne,hz,hm,fun H1 f' s1 hf'=>?_⟩
  have ef:=M3.zdk hf' fF
  subst ef
  refine⟨_,rfl,_,rfl,a,b,_,_,rfl,rfl,s1.seq hA,s1.seq hB,(by rw[List.length_map,List.length_map];omega),fun l hl=>?_⟩
  rw[← List.map_append]
  refine⟨l,ms++us,rfl,SqL.new,(by rw[List.length_append];omega),fun M hM hMx=>?_⟩
  have hMr:1≤M∧M≤24:=by
   rcases List.mem_append.mp hM with z | z
   ·exact hm M z
   ·exact hu M z
  have hma:∀x∈ms,x≤M:=fun x hx=>hMx x (List.mem_append_left _ hx)
  have hub:∀x∈us,x≤M:=fun x hx=>hMx x (List.mem_append_right _ hx)
  have hfr:=M3.zd1 hf' 1 M fun x hx=>⟨(hm x hx).1,hma x hx⟩
  refine⟨_,_,rfl,rfl,_,_,rfl,⟨by omega,by omega,by omega,by omega⟩,?_⟩
  generalize hH2:upd H1 l _=H2
  have s2:zj H H2:=by rw[← hH2];exact s1.newT hl
  refine zal (fun i σ H3=>∃v,σ = [some (.ref a),some (.ref b),v]∧zj H H3∧∀j,f'≤j→j<f'+i→M3.cnt ms j=M3.cnt us j∧M3.sm ms j=M3.sm us j) ⟨_,rfl,s2,fun j j1 j2=>by omega⟩ ?_ ?_
  ·rintro i σ H3 hi ⟨v,rfl,s3,hj⟩
   refine⟨fun σ' H'=>σ' = [some (.ref a),some (.ref b),some (.int (f'+i))]∧zj H H'∧M3.cnt ms (f'+i)=M3.cnt us (f'+i),?_,?_⟩
   ·refine⟨_,rfl,_,rfl,a,ms,_,rfl,s3.seq hA,by omega,fun H4 s4=>?_⟩
    refine⟨_,rfl,_,rfl,b,us,_,rfl,(s3.trans s4).seq hB,by omega,fun H5 s5=>?_⟩
    refine⟨rfl,_,rfl,wl (fun hne=>?_) (fun he=>?_)⟩
    ·refine⟨_,rfl,q (some (f'+i)) _ ((s3.trans s4).trans s5) ⟨by omega,by omega,hj,fun z=>hne (by rw[z.1])⟩⟩
    ·refine⟨rfl,(s3.trans s4).trans s5,?_⟩
     injection he with he
     omega
   ·rintro σ' H' ⟨rfl,s4,hcnt⟩
    refine⟨fun σ' H'=>σ' = [some (.ref a),some (.ref b),some (.int (f'+i))]∧zj H H'∧M3.sm ms (f'+i)=M3.sm us (f'+i),?_,?_⟩
    ·refine⟨_,rfl,_,rfl,a,ms,_,rfl,s4.seq hA,by omega,fun H5 s5=>?_⟩
     refine⟨_,rfl,_,rfl,b,us,_,rfl,(s4.trans s5).seq hB,by omega,fun H6 s6=>?_⟩
     refine⟨rfl,_,rfl,wl (fun hne=>?_) (fun he=>?_)⟩
     ·refine⟨_,rfl,q (some (f'+i)) _ ((s4.trans s5).trans s6) ⟨by omega,by omega,hj,fun z=>hne (by rw[z.2])⟩⟩
     ·refine⟨rfl,(s4.trans s5).trans s6,?_⟩
      injection he with he
    ·rintro σ' H'' ⟨rfl,s5,hsm⟩
     refine⟨_,rfl,s5,fun j j1 j2=>?_⟩
     by_cases c:j<f'+i
     ·exact hj j j1 c
     ·have:j=f'+i:=by omega
      subst this
      exact⟨hcnt,hsm⟩
  ·rintro σ H3 ⟨v,rfl,s3,hj⟩
   exact q none _ s3 (M6.zif hma hub hfr.2 fun j j1 j2=>hj j j1 (by omega))
end
def wK(K:PySem.W.Frag):Sp:=fun vs H Q _=>∃(p:Addr) (F:Addr→Prop) (S:Sh) (j:Str),vs = [.ref p,.str j]∧zA K H p F S∧∀(l:Addr) (H':Hp) (ks:List Addr),zj H H'→H l=none→H' l=some (.lst (ks.map V.ref))→All2 (IL K H') ks (S.cardsWo j)→Q (.ref l) H'
section
variable {P:Program} {w:World} {K:PySem.W.Frag} {mg:Str→Option Value} {base:Heap}
theorem zeb{f:Addr}{fd:FuncData}(F:Fun K "cards_without" "cards_without" yp f fd)(T:Txt K mg)(C_Sheet_handed:CanM P w K mg base 1 (zJ K "Sheet") "handed" ["self"] (zY K))(C_Sheet_card_of:CanMX P w K mg base 2 (zJ K "Sheet") "card_of" ["self","judge"] (yl K)):FnOk P w K mg base CX0 3 f fd ["sheet","judge"] (wK K):=by
 refine F.ok zdR (fun vs H Q E h=>?_) (fun cdv A outer s H vs Q E hr h=>?_)
 ·obtain⟨p,F,S,j,rfl,_⟩:=h
  rfl
 ·obtain⟨p,F,S,j,rfl,hSh,q⟩:=h
  refine⟨_,(zg (zm (ye (show CompScope (zc yp) ["sheet","judge"] "other" ["sheet","judge"] [0,1] _ from⟨rfl,by decide +kernel,by decide +kernel,rfl,by decide +kernel,rfl,by decide +kernel,by decide +kernel⟩) rfl (zK (zL C_Sheet_handed T.cl_Sheet (hr.mono (by decide)) (pv 0))) (fun _ _ _ _ _=>(zaT (zl zbO (pv 0) (pv 2) (zt _)))) (fun _ _ _ _ _=>(wX C_Sheet_card_of T.cl_Sheet zgl (hr.mono (by decide)) (pv 1) (za (pv 0) zb)))))),?_⟩
  have hln:=zB
  have h15:=hSh.ok.p15
  obtain⟨dx,b1,b2,b3,d,hip⟩:=hSh.ins
  refine⟨_,rfl,p,dx,_,rfl,hip,rfl,p,F,S,rfl,hSh.shape,h15,fun a H1 s1 f1 e1=>?_⟩
  have hl2:S.handed.length≤15:=Nat.le_trans (List.length_filter_le _ _) h15
  refine⟨a,rfl,⟨_,SqL.of e1⟩,?_⟩
  refine wa (xs:=S.handed.map V.str) (fun i ys H2=>∃ks:List Addr,ys=ks.map V.ref∧zj H1 H2∧All2 (IL K H2) ks (((S.handed.take i).filter fun i => !decide (i=j)).map fun i=>(S.card i).getD [])) ⟨[],rfl,zj.refl _,.nil⟩ ?_ (by rw[List.length_map];omega) ?_ ?_
  ·rintro i ys H2 hi ⟨ks,rfl,s2,r2⟩
   refine⟨s2.seq (SqL.of e1),?_⟩
   have h3:=r2.length
   have h4:=List.length_filter_le (fun i => !decide (i=j)) (S.handed.take i)
   rw[List.length_map] at h3
   rw[List.length_take] at h4
   rw[List.length_map]
   omega
  ·rintro i x ys H2 hx ⟨ks,rfl,s2,r2⟩
   obtain⟨hi,rfl⟩:=zbD hx
   have hm:=List.mem_filter.mp (show S.handed.getD i "" ∈ S.panel.filter fun j=>(S.card j).isSome from zbr hi)
   have s12:=s1.trans s2
   refine⟨_,rfl,_,rfl,rfl,_,rfl,wl (fun hne=>?_) (fun he=>?_)⟩
   ·have hne:¬S.handed.getD i "" = j:=fun z=>hne (by rw[z])
    cases e:S.card (S.handed.getD i "")with
    | none=>rw[e] at hm;exact absurd hm.2 Bool.false_ne_true
    | some c =>
      refine⟨_,rfl,p,dx,_,rfl,s12 _ _ hip,rfl,_,rfl,p,F,S,_,rfl,hSh.same s12,fun hj=>absurd hm.1 hj,(fun _ z=>by rw[e] at z;cases z),fun c' e' l H3 s3 f3 e3=>?_⟩
      rw[e] at e'
      cases e'
      refine⟨ks ++ [l],by rw[List.map_append];rfl,s2.trans s3,?_⟩
      rw[yq hi,List.filter_append,List.filter_cons,if_pos (by rw[decide_eq_false hne];rfl),List.map_append]
      refine(r2.imp fun _ _=>IL.stays K _ _ _ _ s3).snoc ?_
      show IL K H3 l ((S.card (S.handed.getD i "")).getD [])
      rw[e]
      exact SqL.of e3
   ·have he:S.handed.getD i "" = j:=by injection he
    refine⟨ks,rfl,s2,?_⟩
    rw[yq hi,List.filter_append,List.filter_cons,if_neg (by rw[decide_eq_true he];decide),List.filter_nil,List.append_nil]
    exact r2
  ·rintro ys H2 ⟨ks,rfl,s2,r2⟩ l hl
   rw[List.length_map,List.take_length] at r2
   have s12:=s1.trans s2
   exact q l _ ks (s12.newT hl) (s12.free hl) ze (r2.imp fun _ _=>IL.stays K _ _ _ _ (zj.new hl))
end
def zcm(K:PySem.W.Frag):Sp:=fun vs H Q _=>∃(a b:Addr) (cs:List (List Int)),vs = [.ref a,.ref b]∧zdJ K (IL K) H a cs∧zdJ K (IL K) H b cs∧cs.length≤1000∧(∀d∈cs,d.length≤1000)∧Q (.bl true) H
section
variable {P:Program} {w:World} {K:PySem.W.Frag} {mg:Str→Option Value} {base:Heap}
theorem zgL{f:Addr}{fd:FuncData}(F:Fun K "_law_lists" "_law_lists" zak f fd)(T:Txt K mg)(C_law_same:Can P w K mg base 2 "_law_same" ["_law_found","_law_due_here"] (za0 K)):FnOk P w K mg base CX0 3 f fd ["_law_found","_law_due_here"] (zcm K):=by
 refine F.ok zdE (fun vs H Q E h=>?_) (fun cdv A outer s H vs Q E hr h=>?_)
 ·obtain⟨a,b,cs,rfl,_⟩:=h
  rfl
 ·obtain⟨a,b,cs,rfl,⟨ls,hA,rA⟩,⟨ks,hB,rB⟩,hz,hd,q⟩:=h
  refine⟨_,(zd (zC (PW.pt (zeg (wv (yN (zo zbW (by rfl) T.b_isinstance PyProof.Rows.boot_isinstance (za (pv 0) (za (zcb (v:=V.ty "list") rfl T.b_list PyProof.Rows.boot_list rfl) zb))))) (zcA (zl zbO (zo zq (by rfl) T.b_len PySem.boot_len (za (pv 0) zb)) (zo zq (by rfl) T.b_len PySem.boot_len (za (pv 1) zb)) (zt _))))) (zg (zm wZ)) zw)
   (zd (za5 PassesOwn.never rfl (zao rfl T.b_range (za (zo zq (by rfl) T.b_len PySem.boot_len (za (pv 1) zb)) zb)) (yR (i:=2) zdE.nd rfl (Or.inl rfl))
     (zg (zC (wv (yN (zu C_law_same (hr.mono (by decide)) rfl (za (yn zM (pv 0) (pv 2) (fun _ _=>rfl)) (za (yn zM (pv 1) (pv 2) (fun _ _=>rfl)) zb))))) (zg (zm wZ)) zw)))
   (zg (zm wZ)))),?_⟩
  have la:=rA.length
  have lb:=rB.length
  refine⟨_,rfl,_,_,rfl,.yes hA,_,rfl,zbj ?_⟩
  refine⟨_,rfl,a,_,rfl,.inl hA,_,rfl,b,_,rfl,.inl hB,rfl,_,rfl,?_⟩
  rw[List.length_map,List.length_map]
  refine wl (fun hne=>absurd (by rw[la,lb]) hne) (fun he=>?_)
  refine⟨_,rfl,b,_,rfl,.inl hB,_,rfl,by omega,by rw[List.length_map];omega,?_⟩
  rw[List.length_map]
  refine zal (fun i σ H2=>∃v,σ = [some (.ref a),some (.ref b),v]∧H2=H) ⟨_,rfl,rfl⟩ ?_ ?_
  ·rintro i σ H2 hi ⟨v,rfl,rfl⟩
   have hi':i<cs.length:=by rw[← lb];simpa using hi
   obtain⟨l,el,rl⟩:=rA.get (List.getElem?_eq_getElem hi')
   obtain⟨k,ek,rk⟩:=rB.get (List.getElem?_eq_getElem hi')
   have e1:atI (ls.map V.ref) (0+(i:Int))=some (.ref l):=by rw[Int.zero_add];exact zae (zcZ el)
   have e2:atI (ks.map V.ref) (0+(i:Int))=some (.ref k):=by rw[Int.zero_add];exact zae (zcZ ek)
   refine⟨_,rfl,_,rfl,a,_,_,_,rfl,rfl,hA,e1,_,rfl,_,rfl,b,_,_,_,rfl,rfl,hB,e2,l,k,_,_,rfl,rl,rk,by have:=hd _ (List.getElem_mem hi');omega,?_⟩
   rw[decide_eq_true rfl]
   exact⟨_,rfl,zbj ⟨_,rfl,rfl⟩⟩
  ·rintro σ H2 ⟨v,rfl,rfl⟩
   exact q
end
def zcg(K:PySem.W.Frag):Sp:=fun vs H Q _=>∃(c u:Int) (a:Addr) (ns:List Int) (y:Int),vs = [.int c,.int u,.ref a,.int y]∧1≤u∧u≤1000000∧SqL K H a (ns.map V.int)∧ns ≠ []∧ns.length≤1000∧∀(l:Addr) (H':Hp) (ms:List Int),zj H H'→H l=none→H' l=some (.lst (ms.map V.int))→ms.Perm ns→Q (.ref l) H'
section
variable {P:Program} {w:World} {K:PySem.W.Frag} {mg:Str→Option Value} {base:Heap}
theorem zgs{f:Addr}{fd:FuncData}(F:Fun K "_law_dealt" "_law_dealt" zaw f fd)(T:Txt K mg)(C_law_mix:Can P w K mg base 1 "_law_mix" ["_law_cell","_law_place"] (zbq K))(C_law_card:Can P w K mg base 2 "_law_card" ["_law_cell","_law_couples_here","_law_style"] (zcJ K)):FnOk P w K mg base CX0 3 f fd ["_law_cell","_law_used","_law_couples_here","_law_style"] (zcg K):=by
 refine F.ok zgX (fun vs H Q E h=>?_) (fun cdv A outer s H vs Q E hr h=>?_)
 ·obtain⟨c,u,a,ns,y,rfl,_⟩:=h
  rfl
 ·obtain⟨c,u,a,ns,y,rfl,u0,u1,hS,hne,hz,q⟩:=h
  refine⟨_,(zd (zC (zl zT (pv 3) zh (zt _)) (zg (zm (zu C_law_card (hr.mono (by decide)) rfl (za (pv 0) (za (pv 2) (za zh zb)))))) zw)
   (zd (zC (zl zT (pv 3) zh (zt _)) (zg (zm (zu C_law_card (hr.mono (by decide)) rfl (za (zu C_law_mix (hr.mono (by decide)) rfl (za (pv 0) (za zh zb))) (za (pv 2) (za zh zb)))))) zw)
   (zg (zm (zu C_law_card (hr.mono (by decide)) rfl (za (zn yx (pv 0) (pv 1)) (za (pv 2) (za (pv 3) zb)))))))),?_⟩
  refine⟨_,rfl,rfl,_,rfl,zX (fun _=>?_) (fun _=>?_)⟩
  ·exact⟨_,rfl,_,rfl,_,a,ns,_,rfl,hS,hne,hz,q⟩
  refine⟨_,rfl,rfl,_,rfl,zX (fun _=>?_) (fun _=>?_)⟩
  ·exact⟨_,rfl,_,_,rfl,_,rfl,_,a,ns,_,rfl,hS,hne,hz,q⟩
  ·exact⟨_,rfl,_,rfl,_,_,rfl,rfl,⟨by omega,by omega⟩,_,rfl,_,rfl,_,a,ns,_,rfl,hS,hne,hz,q⟩
end
def zbT(K:PySem.W.Frag):Sp:=fun vs H Q E=>∃(x dx a b:Addr) (us:List Int) (ts:List Str),vs = [.ref x,.ref a,.ref b]∧H x=some (.ins (zJ K "Sheet") dx [])∧SqL K H a (us.map V.int)∧us.length<4000∧SqL K H b (ts.map V.str)∧ts.length<4000∧(∀z∈ts,z.length≤1000) ∧
 (M1.zcF us=false→∀C H',zf K "BadCouples" C→zj H H'→E (.ref C) none H')∧(M1.zcF us=true→M2.zdw ts=false→∀C H',zf K "BadJudges" C→zj H H'→E (.ref C) none H') ∧
 (M1.zcF us=true→M2.zdw ts=true→∀H' F,zA K H' x F (Sh.new us ts)→(∀b o,H b=some o→b≠x→H' b=some o∧¬F b)→Q .non H')
section
variable {P:Program} {w:World} {K:PySem.W.Frag} {mg:Str→Option Value} {base:Heap}
theorem zfI{f:Addr}{fd:FuncData}(F:Fun K "__init__" "Sheet.__init__" wN f fd)(T:Txt K mg)(C_good_couples:Can P w K mg base 2 "good_couples" ["couples"] (zbb K))(C_good_judges:Can P w K mg base 3 "good_judges" ["judges"] (zbt K)):FnOk P w K mg base (CX1 P w) 4 f fd ["self","couples","judges"] (zbT K):=by
 obtain⟨c_BadCouples,n_BadCouples,m_BadCouples,x_BadCouples⟩:=T.x_BadCouples
 obtain⟨c_BadJudges,n_BadJudges,m_BadJudges,x_BadJudges⟩:=T.x_BadJudges
 refine F.okX zfO (fun vs H Q E h=>?_) (fun X W cdv A outer s H vs Q E hX hW fl md hr h=>?_)
 ·obtain⟨x,dx,a,b,us,ts,rfl,_⟩:=h
  rfl
 ·obtain⟨x,dx,a,b,us,ts,rfl,hx,hA,hzA,hB,hzB,hzz,qC,qJ,q⟩:=h
  subst hX
  refine⟨_,(zd (zC (wv (yN (zu C_good_couples (hr.mono (by decide)) rfl (za (pv 1) zb)))) (zg (y9 rfl md rfl m_BadCouples x_BadCouples (za zD zb))) zw)
   (zd (zC (wv (yN (zu C_good_judges (hr.mono (by decide)) rfl (za (pv 2) zb)))) (zg (y9 rfl md rfl m_BadJudges x_BadJudges (za zD zb))) zw)
   (zd (zcf (pv 0) (zF yh (by rfl) T.b_list PyProof.Rows.boot_list (za (pv 1) zb)) rfl)
   (zd (zcf (pv 0) (zP zb) rfl)
   (zd (zcf (pv 0) (zF yh (by rfl) T.b_list PyProof.Rows.boot_list (za (pv 2) zb)) rfl)
   (zd (zcf (pv 0) pe_dnewK rfl)
   (zd (zcf (pv 0) zh rfl)
   (zg (zcf (pv 0) wZ rfl))))))))),?_⟩
  refine⟨_,rfl,a,us,rfl,hA,hzA,fun H1 s1=>⟨_,rfl,?_⟩⟩
  cases hg:M1.zcF us with
  | false=>exact⟨(by show 1≤sizeLine;decide),by rw[hW];exact qC hg _ _ n_BadCouples s1⟩
  | true =>
    refine⟨_,rfl,b,ts,rfl,s1.seq hB,hzB,hzz,fun H2 s2=>⟨_,rfl,?_⟩⟩
    have s12:=s1.trans s2
    cases hj:M2.zdw ts with
    | false=>exact⟨(by show 1≤sizeLine;decide),by rw[hW];exact qJ hg hj _ _ n_BadJudges s12⟩
    | true =>
      have x2:=s12 _ _ hx
      have k2:∀c o,H c=some o→c≠x→H2 c=some o:=fun c o e _=>s12 c o e
      refine⟨_,rfl,a,_,rfl,.inl (s12.seq hA),fun l1 hl1=>?_⟩
      have f1:=s12.free hl1
      obtain⟨x3,e1,n1,k3⟩:=zdI (o:=.lst (us.map V.int)) (u:=.ins (zJ K "Sheet") dx [("standing",.ref l1)]) x2 hl1
      refine⟨_,rfl,x,_,dx,_,rfl,(by rw[zi (zk x2 hl1)];exact x2),T.cl_Sheet,T.n_Sheet_standing,(by decide),?_⟩
      rw[pf1]
      generalize hH3:upd (upd H2 l1 _) x _=H3 at x3 e1 k3 ⊢
      refine⟨(by show 0≤sizeLine;decide),fun l2 hl2=>?_⟩
      obtain⟨x4,e2,n2,k4⟩:=zdI (o:=.lst []) (u:=.ins (zJ K "Sheet") dx [("standing",.ref l1),("struck_so_far",.ref l2)]) x3 hl2
      refine⟨_,rfl,x,_,dx,_,rfl,(by rw[zi (zk x3 hl2)];exact x3),T.cl_Sheet,T.n_Sheet_struck_so_far,(by show 1<1000;decide),?_⟩
      rw[pf2]
      generalize hH4:upd (upd H3 l2 _) x _=H4 at x4 e2 k4 ⊢
      have k24:∀c o,H c=some o→c≠x→H4 c=some o:=fun c o e n=>k4 c o (k3 c o (k2 c o e n) n) n
      have hB4:SqL K H4 b (ts.map V.str):=by
       rcases hB with(e | ⟨o,e⟩) | e
       ·exact .inl (.inl (k24 _ _ e (yr e hx (by intro z;cases z))))
       ·exact .inl (.inr ⟨o,k24 _ _ e (yr e hx (by intro z;cases z))⟩)
       ·exact .inr e
      refine⟨_,rfl,b,_,rfl,.inl hB4,fun l3 hl3=>?_⟩
      obtain⟨x5,e3,n3,k5⟩:=zdI (o:=.lst (ts.map V.str)) (u:=.ins (zJ K "Sheet") dx [("standing",.ref l1),("struck_so_far",.ref l2),("panel",.ref l3)]) x4 hl3
      refine⟨_,rfl,x,_,dx,_,rfl,(by rw[zi (zk x4 hl3)];exact x4),T.cl_Sheet,T.n_Sheet_panel,(by show 2<1000;decide),?_⟩
      rw[pf3]
      generalize hH5:upd (upd H4 l3 _) x _=H5 at x5 e3 k5 ⊢
      intro d hd
      obtain⟨x6,e4,n4,k6⟩:=zdI (o:=.dK []) (u:=.ins (zJ K "Sheet") dx [("standing",.ref l1),("struck_so_far",.ref l2),("panel",.ref l3),("card_by_judge",.ref d)]) x5 hd
      refine⟨_,rfl,x,_,dx,_,rfl,(by rw[zi (zk x5 hd)];exact x5),T.cl_Sheet,T.n_Sheet_card_by_judge,(by show 3<1000;decide),?_⟩
      rw[pf4]
      generalize hH6:upd (upd H5 d _) x _=H6 at x6 e4 k6 ⊢
      refine⟨_,rfl,x,_,dx,_,rfl,x6,T.cl_Sheet,T.n_Sheet_taken_so_far,(by show 4<1000;decide),?_⟩
      rw[pf5]
      refine⟨_,rfl,x,_,dx,_,rfl,ze,T.cl_Sheet,T.n_Sheet_sealed,(by show 5<1000;decide),?_⟩
      rw[pf6,upd_upd]
      have keep:∀c o,H6 c=some o→c≠x→upd H6 x (.ins (zJ K "Sheet") dx (shF l1 l2 l3 d (Sh.new us ts))) c=some o:=fun c o e n=>by rw[zi n];exact e
      have g1:H6 l1=some (.lst (us.map V.int)):=k6 _ _ (k5 _ _ (k4 _ _ e1 n1) n1) n1
      have g2:H6 l2=some (.lst []):=k6 _ _ (k5 _ _ e2 n2) n2
      have g3:H6 l3=some (.lst (ts.map V.str)):=k6 _ _ e3 n3
      refine q hg hj (upd H6 x (.ins (zJ K "Sheet") dx (shF l1 l2 l3 d (Sh.new us ts)))) (fun c=>c=x∨c=l1∨c=l2∨c=l3∨c=d) ⟨dx,l1,l2,l3,d,[],?_⟩ fun c o e n=>⟨?_,?_⟩
      ·refine⟨⟨ze,keep _ _ g1 n1,keep _ _ g2 n2,keep _ _ g3 n3,keep _ _ e4 n4,Nat.zero_le _,fun _ _=>rfl,(fun _ _ z=>nomatch z),.inl rfl,.inr (.inl rfl),.inr (.inr (.inl rfl)),.inr (.inr (.inr (.inl rfl))),.inr (.inr (.inr (.inr rfl))),?_,?_,?_⟩,Sh.Ok.new hg hj⟩
       ·exact zk e1 hl2
       ·exact fun z=>zk (k4 _ _ (show H3 l1=_ from e1) n1) hl3 (by rw[z] at hl3;rw[e2] at hl3;cases hl3)
       ·rintro c (rfl | rfl | rfl | rfl | rfl)
        ·rw[ze];exact fun z=>nomatch z
        ·rw[keep _ _ g1 n1];exact fun z=>nomatch z
        ·rw[keep _ _ g2 n2];exact fun z=>nomatch z
        ·rw[keep _ _ g3 n3];exact fun z=>nomatch z
        ·rw[keep _ _ e4 n4];exact fun z=>nomatch z
      ·exact keep _ _ (k6 _ _ (k5 _ _ (k24 _ _ e n) n) n) n
      ·have e2':=k2 _ _ e n
       have e3':=k3 _ _ e2' n
       have e4':=k4 _ _ e3' n
       have e5':=k5 _ _ e4' n
       rintro (z | z | z | z | z)
       ·exact n z
       ·rw[z,hl1] at e2';cases e2'
       ·rw[z,hl2] at e3';cases e3'
       ·rw[z,hl3] at e4';cases e4'
       ·rw[z,hd] at e5';cases e5'
end
def zcN(K:PySem.W.Frag):Sp:=fun vs H Q _=>∃(a b:Addr) (ms us:List Int),vs = [.ref a,.ref b]∧SqL K H a (ms.map V.int)∧SqL K H b (us.map V.int)∧ms.length=us.length∧1≤ms.length∧ms.length≤60∧(∀x∈ms,1≤x∧x≤24)∧(∀x∈us,1≤x∧x≤24)∧∀H',zj H H'→Q (.bl (M6.y7 ms us 24)) H'
section
variable {P:Program} {w:World} {K:PySem.W.Frag} {mg:Str→Option Value} {base:Heap}
theorem zhN{f:Addr}{fd:FuncData}(F:Fun K "is_ahead" "is_ahead" zaQ f fd)(T:Txt K mg)(C_granted:Can P w K mg base 2 "granted" ["marks","number"] (zbE K))(C_granted_sum:Can P w K mg base 2 "granted_sum" ["marks","number"] (wI K))(C_first_number:Can P w K mg base 2 "first_number" ["marks"] (zad K))(C_unlike_at:Can P w K mg base 3 "unlike_at" ["one","other"] (zce K)):FnOk P w K mg base CX0 4 f fd ["one","other"] (zcN K):=by
 refine F.ok zen (fun vs H Q E h=>?_) (fun cdv A outer s H vs Q E hr h=>?_)
 ·obtain⟨a,b,ms,us,rfl,_⟩:=h
  rfl
 ·obtain⟨a,b,ms,us,rfl,hA,hB,hl,h1,hz,hm,hu,q⟩:=h
  refine⟨_,(zd (zC (zl zbO (zu C_first_number (hr.mono (by decide)) rfl (za (pv 0) zb)) (zu C_first_number (hr.mono (by decide)) rfl (za (pv 1) zb)) (zt _)) (zg (zm (zac zeW (zu C_first_number (hr.mono (by decide)) rfl (za (pv 0) zb)) (zu C_first_number (hr.mono (by decide)) rfl (za (pv 1) zb)) (zt _)))) zw)
   (zd (zy (i:=2) zen.nd rfl (Or.inl rfl) (zu C_unlike_at (hr.mono (by decide)) rfl (za (pv 0) (za (pv 1) zb))))
   (zd (zC (zl op_isN (pv 2) zgB (zt _)) (zg (zm wZ)) zw)
   (zd (zC (zl zbO (zu C_granted (hr.mono (by decide)) rfl (za (pv 0) (za (pv 2) zb))) (zu C_granted (hr.mono (by decide)) rfl (za (pv 1) (za (pv 2) zb))) (zt _)) (zg (zm (zac op_gt (zu C_granted (hr.mono (by decide)) rfl (za (pv 0) (za (pv 2) zb))) (zu C_granted (hr.mono (by decide)) rfl (za (pv 1) (za (pv 2) zb))) (zt _)))) zw)
   (zg (zm (zac zeW (zu C_granted_sum (hr.mono (by decide)) rfl (za (pv 0) (za (pv 2) zb))) (zu C_granted_sum (hr.mono (by decide)) rfl (za (pv 1) (za (pv 2) zb))) (zt _)))))))),?_⟩
  have hne:ms ≠ []:=by intro z;rw[z] at h1;simp at h1
  have hne2:us ≠ []:=by intro z;rw[z] at hl;have:ms.length=0:=hl;omega
  refine⟨_,rfl,a,ms,rfl,hA,hne,hz,hm,fun H1 f s1 hf=>?_⟩
  refine⟨_,rfl,b,us,rfl,s1.seq hB,hne2,by omega,hu,fun H2 g s2 hg=>?_⟩
  have fr:=M3.zd1 hf 1 24 hm
  have gr:=M3.zd1 hg 1 24 hu
  have t2:=s1.trans s2
  refine⟨rfl,_,rfl,wl (fun hfg=>?_) (fun hfg=>?_)⟩
  ·refine⟨_,rfl,a,ms,rfl,t2.seq hA,hne,hz,hm,fun H3 f' s3 hf'=>?_⟩
   have t3:=t2.trans s3
   refine⟨_,rfl,b,us,rfl,t3.seq hB,hne2,by omega,hu,fun H4 g' s4 hg'=>?_⟩
   have ef:=M3.zdk hf' hf
   have eg:=M3.zdk hg' hg
   subst ef eg
   refine⟨_,_,rfl,rfl,?_⟩
   have hfg:f'≠g':=fun z=>hfg (by rw[z])
   have e:decide (f'<g')=M6.y7 ms us 24:=by
    by_cases c:f'<g'
    ·rw[decide_eq_true c,M6.ahead_lt hf' hg' c fr.1 fr.2]
    ·rw[decide_eq_false c,M6.ahead_gt hf' hg' (by omega) gr.1 gr.2]
   show Q (.bl (decide (f'<g'))) H4
   rw[e]
   exact q _ (t3.trans s4)
  ·injection hfg with hfg
   subst hfg
   refine⟨_,rfl,_,rfl,a,b,ms,us,f,rfl,t2.seq hA,t2.seq hB,h1,hz,by omega,hm,hu,hf,hg,fun r H3 s3 hr'=>?_⟩
   have t3:=t2.trans s3
   cases r with
   | none =>
     refine⟨_,rfl,rfl,_,rfl,zX (fun _=>?_) (fun z=>absurd rfl z)⟩
     rw[M6.zim (M6.zjv hf hg hr')] at q
     exact q _ t3
   | some n =>
     refine⟨_,rfl,rfl,_,rfl,zX (fun z=>nomatch z) (fun _=>?_)⟩
     rw[M6.ahead_at hf hg fr.1 hr'] at q
     refine⟨_,rfl,_,rfl,a,ms,_,rfl,t3.seq hA,by omega,fun H4 s4=>?_⟩
     refine⟨_,rfl,_,rfl,b,us,_,rfl,(t3.trans s4).seq hB,by omega,fun H5 s5=>?_⟩
     have t5:=(t3.trans s4).trans s5
     refine⟨rfl,_,rfl,wl (fun hc=>?_) (fun hc=>?_)⟩
     ·rw[if_neg fun z=>hc (by rw[z])] at q
      refine⟨_,rfl,_,rfl,a,ms,_,rfl,t5.seq hA,by omega,fun H6 s6=>?_⟩
      refine⟨_,rfl,_,rfl,b,us,_,rfl,(t5.trans s6).seq hB,by omega,fun H7 s7=>?_⟩
      exact⟨_,_,rfl,rfl,q _ ((t5.trans s6).trans s7)⟩
     ·injection hc with hc
      rw[if_pos hc] at q
      refine⟨_,rfl,_,rfl,a,ms,_,rfl,t5.seq hA,by omega,fun H6 s6=>?_⟩
      refine⟨_,rfl,_,rfl,b,us,_,rfl,(t5.trans s6).seq hB,by omega,fun H7 s7=>?_⟩
      exact⟨_,_,rfl,rfl,q _ ((t5.trans s6).trans s7)⟩
end
def zcL(K:PySem.W.Frag):Sp:=fun vs H Q _=>∃(x:Addr) (F:Addr→Prop) (S:Sh) (p c:Int),vs = [.ref x,.int p,.int c]∧zA K H x F S∧c∈S.couples∧p.natAbs≤990∧∀H',zj H H'→Q (.str (M6.rowT p c (M5.zE S.cardsIn c) S.couples.length)) H'
section
variable {P:Program} {w:World} {K:PySem.W.Frag} {mg:Str→Option Value} {base:Heap}
theorem zhS{f:Addr}{fd:FuncData}(F:Fun K "row_text" "row_text" wJ f fd)(T:Txt K mg)(C_marks_of:Can P w K mg base 2 "marks_of" ["cards","couple"] (zbM K))(C_ladder_of:Can P w K mg base 3 "ladder_of" ["marks","last"] (zci K))(C_Sheet_couples:CanM P w K mg base 1 (zJ K "Sheet") "couples" ["self"] (zO K))(C_Sheet_cards:CanM P w K mg base 3 (zJ K "Sheet") "cards" ["self"] (yT K)):FnOk P w K mg base CX0 4 f fd ["sheet","place","couple"] (zcL K):=by
 refine F.ok za4 (fun vs H Q E h=>?_) (fun cdv A outer s H vs Q E hr h=>?_)
 ·obtain⟨x,F,S,p,c,rfl,_⟩:=h
  rfl
 ·obtain⟨x,F,S,p,c,rfl,hSh,hc,hp,q⟩:=h
  refine⟨_,(zd (zy (i:=3) za4.nd rfl (Or.inl rfl) (zu C_marks_of (hr.mono (by decide)) rfl (za (zL C_Sheet_cards T.cl_Sheet (hr.mono (by decide)) (pv 0)) (za (pv 2) zb))))
   (zd (zy (i:=4) za4.nd rfl (Or.inl rfl) (zu C_ladder_of (hr.mono (by decide)) rfl (za (pv 3) (za (zo zq (by rfl) T.b_len PySem.boot_len (za (zL C_Sheet_couples T.cl_Sheet (hr.mono (by decide)) (pv 0)) zb)) zb))))
   (zd (zy (i:=5) za4.nd rfl (Or.inl rfl) (zP (za (zF zeQ (by rfl) T.b_str PyProof.Rows.boot_str (za (pv 1) zb)) (za (zF zeQ (by rfl) T.b_str PyProof.Rows.boot_str (za (pv 2) zb)) zb))))
   (zd (zhl (i:=6) (show CompScope2 (zc wJ) ["sheet","place","couple","marks","ladder","head","steps"] "many" "total" [] [] _ from⟨rfl,by decide +kernel,by decide +kernel,rfl,rfl,by decide +kernel,rfl,by decide +kernel,by decide +kernel⟩) rfl za4.nd rfl (Or.inl rfl) (zK (pv 4)) (fun _ _ _ _ _=>wf) (fun _ _ _ _ _=>(zi0 (zc3 (ziw (pv 0)) (zc3 zD (zc3 (ziw (pv 1)) pj_nil))))))
   (zg (zm (za1 PySem.F.plainAttrs_str PySem.F.slot_str_join PySem.F.type_str_join ms_join zD (za (zn yZ (zn yZ (zn yZ (zn yZ (pv 5) (zP (za zD zb))) (ye (show CompScope (zc wJ) ["sheet","place","couple","marks","ladder","head","steps"] "mark" [] [] _ from⟨rfl,by decide +kernel,by decide +kernel,rfl,by decide +kernel,rfl,by decide +kernel,by decide +kernel⟩) rfl (zK (pv 3)) (fun _ _ _ _ _=>wf) (fun _ _ _ _ _=>(zF zeQ (by rfl) T.b_str PyProof.Rows.boot_str (za (pv 0) zb))))) (zP (za zD zb))) (pv 6)) zb)))))))),?_⟩
  have hln:=zB
  have ok:=hSh.ok
  have h15:S.handed.length≤15:=Nat.le_trans (List.length_filter_le _ _) ok.p15
  have hil:=Sh.cardsIn_len S
  have hip:=Sh.cardsIn_perm ok
  have c24:=ok.c24
  have hcr:=ok.rng c hc
  obtain⟨dx,b1,b2,b3,d,hi⟩:=hSh.ins
  refine⟨_,rfl,x,dx,_,rfl,hi,rfl,x,F,S,rfl,hSh,fun l1 H1 ks s1 f1 e1 r1=>?_⟩
  refine⟨_,rfl,l1,S.cardsIn,c,rfl,⟨ks,SqL.of e1,r1.imp fun _ _ z=>SqL.of z.2⟩,by omega,fun d hd=>(hip d hd).mem_iff.mpr hc,fun l2 H2 s2 f2 e2=>?_⟩
  have hx:∀y∈M5.zE S.cardsIn c,1≤y∧y≤24:=fun y hy=>by have:=M6.zav hip hc y hy;omega
  have hml:=M5.zap S.cardsIn c
  generalize M5.zE S.cardsIn c=ms at e2 hml hx q
  have t2:=s1.trans s2
  refine⟨_,rfl,_,rfl,x,dx,_,rfl,t2 _ _ hi,rfl,x,F,S,rfl,hSh.same t2,fun l3 H3 s3 f3 e3=>?_⟩
  refine⟨l3,_,rfl,.inl (SqL.of e3),?_⟩
  rw[List.length_map]
  refine⟨l2,ms,_,rfl,SqL.of (s3 _ _ e2),by omega,by omega,by omega,fun l4 H4 ls s4 f4 e4 r4=>?_⟩
  rw[show((S.couples.length:Nat):Int).toNat=S.couples.length by omega] at r4
  have t4:=(t2.trans s3).trans s4
  refine⟨_,rfl,.inl ⟨_,rfl,zfo (by omega),_,rfl,.inl ⟨_,rfl,zfo (by omega),(by show 2≤sizeLine;decide),fun l5 hl5=>?_⟩⟩⟩
  have s5:=zj.new (o:=.lst ([tN p,tN c].map V.str)) hl5
  have e5:upd H4 l5 (.lst ([tN p,tN c].map V.str)) l5=some (.lst ([tN p,tN c].map V.str)):=ze
  change zj H4 (upd H4 l5 (.lst [.str (Str.ofString (toString p)),.str (Str.ofString (toString c))]))at s5
  change upd H4 l5 (.lst [.str (Str.ofString (toString p)),.str (Str.ofString (toString c))]) l5=_ at e5
  generalize hH5:upd H4 l5 _=H5 at s5 e5 ⊢
  have e45:=s5 _ _ e4
  have r45:=r4.imp fun _ _=>TPl.stays K _ _ _ _ s5
  refine⟨_,rfl,l4,rfl,⟨_,SqL.of e45⟩,?_⟩
  refine zig (f:=M6.zhk) (SqL.of e45) r45 (by rw[M6.zdf];omega) (fun pr H' R hpr s' h=>?_) fun H6 s6=>?_
  ·obtain⟨k,hk,rfl⟩:=List.mem_map.mp hpr
   have hcn:=M3.zcC ms ((k:Int)+1)
   have hsm:=M6.zhr hx ((k:Int)+1)
   have hsl:=M6.zf1 (by omega) hx ((k:Int)+1)
   dsimp only at h ⊢
   refine⟨_,rfl,.inl ⟨_,rfl,zfo (by omega),_,rfl,?_,_,rfl,?_,_,rfl,.inl ⟨_,rfl,zfo (by omega),_,rfl,?_,?_,?_⟩⟩⟩
   all_goals unfold tN at hsl
   all_goals have l0:Str.empty.length=0:=rfl
   all_goals have l1:(Str.ofString "/").length=1:=M6.sl_len
   ·rw[wx];omega
   ·rw[wx,wx];omega
   ·rw[wx,wx,wx];omega
   ·rw[wx,wx,wx];omega
   ·rw[M6.emp_app]
    exact h H' (zj.refl _)
  intro l6 hl6
  have s7:=(s5.trans s6).newT (o:=.lst ((M6.zeC ms S.couples.length).map V.str)) hl6
  have e7:upd H6 l6 (.lst ((M6.zeC ms S.couples.length).map V.str)) l6=some (.lst ((M6.zeC ms S.couples.length).map V.str)):=ze
  have e57:=(s6.newT (o:=.lst ((M6.zeC ms S.couples.length).map V.str)) hl6) _ _ e5
  change zj H4 (upd H6 l6 (.lst (((M6.zbf ms S.couples.length).map M6.zhk).map V.str)))at s7
  change upd H6 l6 (.lst (((M6.zbf ms S.couples.length).map M6.zhk).map V.str)) l6=_ at e7
  change upd H6 l6 (.lst (((M6.zbf ms S.couples.length).map M6.zhk).map V.str)) l5=_ at e57
  generalize hH7:upd H6 l6 _=H7 at s7 e7 e57 ⊢
  have m7:H7 l2=some (.lst (ms.map V.int)):=s7 _ _ (s4 _ _ (s3 _ _ e2))
  refine⟨rfl,_,rfl,(by show 1≤sizeLine;decide),fun l7 hl7=>?_⟩
  have s8:=zj.new (o:=.lst [.str M6.bar]) hl7
  change zj H7 (upd H7 l7 (.lst [.str (Str.ofString "|")]))at s8
  refine⟨l5,l7,_,[.str M6.bar],rfl,rfl,s8 _ _ e57,ze,(by show 3≤sizeLine;decide),fun l8 hl8=>?_⟩
  have s9:=s8.newT (o:=.lst (([tN p,tN c] ++ [M6.bar]).map V.str)) hl8
  have e9:upd (upd H7 l7 (.lst [.str (Str.ofString "|")])) l8 (.lst (([tN p,tN c] ++ [M6.bar]).map V.str)) l8=some (.lst (([tN p,tN c] ++ [M6.bar]).map V.str)):=ze
  change zj H7 (upd (upd H7 l7 (.lst [.str (Str.ofString "|")])) l8 (.lst ([tN p,tN c].map V.str ++ [.str M6.bar])))at s9
  change upd (upd H7 l7 (.lst [.str (Str.ofString "|")])) l8 (.lst ([tN p,tN c].map V.str ++ [.str M6.bar])) l8=_ at e9
  generalize hH9:upd (upd H7 l7 _) l8 _=H9 at s9 e9 ⊢
  have m9:=s9 _ _ m7
  refine⟨_,rfl,l2,rfl,⟨_,SqL.of m9⟩,?_⟩
  refine zjj (f:=tN) (SqL.of m9) (by omega) (fun y H' R hy s' h=>⟨_,rfl,.inl ⟨_,rfl,zfo (by have:=hx y hy;omega),h H' (zj.refl _)⟩⟩) fun H10 s10=>?_
  intro l9 hl9
  have s11:=s10.newT (o:=.lst ((ms.map tN).map V.str)) hl9
  refine⟨l8,l9,_,_,rfl,rfl,s11 _ _ e9,ze,by rw[List.length_map,List.length_map,List.length_map];simp only[List.length_append,List.length_cons,List.length_nil];omega,fun l10 hl10=>?_⟩
  rw[← List.map_append]
  have s12:=s11.newT (o:=.lst (([tN p,tN c] ++ [M6.bar]++ms.map tN).map V.str)) hl10
  have e12:upd (upd H10 l9 (.lst ((ms.map tN).map V.str))) l10 (.lst (([tN p,tN c] ++ [M6.bar]++ms.map tN).map V.str)) l10=some (.lst (([tN p,tN c] ++ [M6.bar]++ms.map tN).map V.str)):=ze
  generalize hH12:upd (upd H10 l9 _) l10 _=H12 at s12 e12 ⊢
  refine⟨(by show 1≤sizeLine;decide),fun l11 hl11=>?_⟩
  have s13:=zj.new (o:=.lst [.str M6.bar]) hl11
  change zj H12 (upd H12 l11 (.lst [.str (Str.ofString "|")]))at s13
  refine⟨l10,l11,_,[.str M6.bar],rfl,rfl,s13 _ _ e12,ze,by rw[List.length_map];simp only[List.length_append,List.length_map,List.length_cons,List.length_nil];omega,fun l12 hl12=>?_⟩
  rw[show([tN p,tN c] ++ [M6.bar]++ms.map tN).map V.str ++ [V.str M6.bar]=([tN p,tN c] ++ [M6.bar]++ms.map tN ++ [M6.bar]).map V.str by rw[List.map_append (l₂ := [M6.bar])];rfl]
  have s14:=s13.newT (o:=.lst (([tN p,tN c] ++ [M6.bar]++ms.map tN ++ [M6.bar]).map V.str)) hl12
  have e14:upd (upd H12 l11 (.lst [.str (Str.ofString "|")])) l12 (.lst (([tN p,tN c] ++ [M6.bar]++ms.map tN ++ [M6.bar]).map V.str)) l12=some (.lst (([tN p,tN c] ++ [M6.bar]++ms.map tN ++ [M6.bar]).map V.str)):=ze
  generalize hH14:upd (upd H12 l11 _) l12 _=H14 at s14 e14 ⊢
  have hlw:=M6.ladW_len ms S.couples.length
  refine⟨_,rfl,l12,l6,_,_,rfl,rfl,e14,s14 _ _ (s12 _ _ (s9 _ _ e7)),by simp only[List.length_append,List.length_map,List.length_cons,List.length_nil];omega,fun l13 hl13=>?_⟩
  rw[← List.map_append]
  refine⟨_,l13,M6.rowW p c ms S.couples.length,rfl,rfl,SqL.new,by decide +kernel,?_,M6.ziE (by omega) hx hp (by omega) _,?_⟩
  ·unfold M6.rowW
   simp only[List.length_append,List.length_map,List.length_cons,List.length_nil]
   omega
  ·exact q _ ((((((t4.trans s7).trans s9).trans s12).trans s14)).newT hl13)
end
def zbY(K:PySem.W.Frag):Sp:=fun vs H Q _=>∃(p:Addr) (F:Addr→Prop) (S:Sh) (a1 a2 a3 a4:Addr),vs = [.ref p,.ref a1,.ref a2,.ref a3,.ref a4,.int S.taken,.bl S.shut]∧zA K H p F S∧SqL K H a1 (S.panel.map V.str)∧SqL K H a2 (S.couples.map V.int)∧SqL K H a3 (S.struck.map V.int)∧zdJ K (IL K) H a4 S.rows∧∀H',zj H H'→Q (.bl true) H'
section
variable {P:Program} {w:World} {K:PySem.W.Frag} {mg:Str→Option Value} {base:Heap}
theorem zfN{f:Addr}{fd:FuncData}(F:Fun K "_law_stands" "_law_stands" yu f fd)(T:Txt K mg)(C_law_whole:Can P w K mg base 1 "_law_whole" ["_law_found"] (zbi K))(C_law_same:Can P w K mg base 2 "_law_same" ["_law_found","_law_due_here"] (za0 K))(C_law_texts:Can P w K mg base 1 "_law_texts" ["_law_found","_law_due_here"] (zcs K))(C_law_lists:Can P w K mg base 3 "_law_lists" ["_law_found","_law_due_here"] (zcm K))(C_Sheet_couples:CanM P w K mg base 1 (zJ K "Sheet") "couples" ["self"] (zO K))(C_Sheet_struck:CanM P w K mg base 1 (zJ K "Sheet") "struck" ["self"] (zba K))(C_Sheet_judges:CanM P w K mg base 1 (zJ K "Sheet") "judges" ["self"] (zbd K))(C_Sheet_handed:CanM P w K mg base 1 (zJ K "Sheet") "handed" ["self"] (zY K))(C_Sheet_cards:CanM P w K mg base 3 (zJ K "Sheet") "cards" ["self"] (yT K))(C_Sheet_card_of:CanMX P w K mg base 2 (zJ K "Sheet") "card_of" ["self","judge"] (yl K))(C_Sheet_taken:CanM P w K mg base 1 (zJ K "Sheet") "taken" ["self"] (zbv K))(C_Sheet_is_sealed:CanM P w K mg base 1 (zJ K "Sheet") "is_sealed" ["self"] (zaf K)):FnOk P w K mg base CX0 4 f fd ["_law_sheet","_law_names_here","_law_couples_here","_law_gone","_law_cards","_law_many_here","_law_shut"] (zbY K):=by
 refine F.ok wY (fun vs H Q E h=>?_) (fun cdv A outer s H vs Q E hr h=>?_)
 ·obtain⟨p,F,S,a1,a2,a3,a4,rfl,_⟩:=h
  rfl
 ·obtain⟨p,F,S,a1,a2,a3,a4,rfl,hSh,hA1,hA2,hA3,⟨ls,hA4,hR⟩,q⟩:=h
  refine⟨_,(zd (zC (PW.pt (zeg (wv (yN (zu C_law_same (hr.mono (by decide)) rfl (za (zL C_Sheet_couples T.cl_Sheet (hr.mono (by decide)) (pv 0)) (za (pv 2) zb))))) (zcA (wv (yN (zu C_law_same (hr.mono (by decide)) rfl (za (zL C_Sheet_struck T.cl_Sheet (hr.mono (by decide)) (pv 0)) (za (pv 3) zb)))))))) (zg (zm wZ)) zw)
   (zd (zaJ (i:=7) (show CompScope (zc yu) ["_law_sheet","_law_names_here","_law_couples_here","_law_gone","_law_cards","_law_many_here","_law_shut","_law_into","_law_k","_law_count","_law_sealed"] "_law_k" ["_law_cards"] [4] _ from⟨rfl,by decide +kernel,by decide +kernel,rfl,by decide +kernel,rfl,by decide +kernel,by decide +kernel⟩) rfl wY.nd rfl (Or.inl rfl) (zao rfl T.b_range (za (zo zq (by rfl) T.b_len PySem.boot_len (za (pv 1) zb)) zb)) (fun _ _ _ _ _=>(zaT (zl (zbN (K:=K) rfl hr.units0) (yn (zfA (K:=K) rfl) (pv 1) (pv 0) (fun _ _=>rfl)) (zP zb) (zt _)))) (fun _ _ _ _ _=>(pv 0)))
   (zd (zC (PW.pt (zeg (wv (yN (zu C_law_texts (hr.mono (by decide)) rfl (za (zL C_Sheet_judges T.cl_Sheet (hr.mono (by decide)) (pv 0)) (za (pv 1) zb))))) (zcA (wv (yN (zu C_law_texts (hr.mono (by decide)) rfl (za (zL C_Sheet_handed T.cl_Sheet (hr.mono (by decide)) (pv 0)) (za (ye (show CompScope (zc yu) ["_law_sheet","_law_names_here","_law_couples_here","_law_gone","_law_cards","_law_many_here","_law_shut","_law_into","_law_k","_law_count","_law_sealed"] "_law_k" ["_law_names_here"] [1] _ from⟨rfl,by decide +kernel,by decide +kernel,rfl,by decide +kernel,rfl,by decide +kernel,by decide +kernel⟩) rfl (zK (pv 7)) (fun _ _ _ _ _=>wf) (fun _ _ _ _ _=>(yn (zfA (K:=K) rfl) (pv 1) (pv 0) (fun _ _=>rfl)))) zb)))))))) (zg (zm wZ)) zw)
   (zd (zC (wv (yN (zu C_law_lists (hr.mono (by decide)) rfl (za (zL C_Sheet_cards T.cl_Sheet (hr.mono (by decide)) (pv 0)) (za (ye (show CompScope (zc yu) ["_law_sheet","_law_names_here","_law_couples_here","_law_gone","_law_cards","_law_many_here","_law_shut","_law_into","_law_k","_law_count","_law_sealed"] "_law_k" ["_law_cards"] [4] _ from⟨rfl,by decide +kernel,by decide +kernel,rfl,by decide +kernel,rfl,by decide +kernel,by decide +kernel⟩) rfl (zK (pv 7)) (fun _ _ _ _ _=>wf) (fun _ _ _ _ _=>(yn (zfA (K:=K) rfl) (pv 1) (pv 0) (fun _ _=>rfl)))) zb))))) (zg (zm wZ)) zw)
   (zd (za5 PassesOwn.never rfl (zK (pv 7)) (yR (i:=8) wY.nd rfl (Or.inl rfl))
     (zg (zC (wv (yN (zu C_law_same (hr.mono (by decide)) rfl (za (wX C_Sheet_card_of T.cl_Sheet zgl (hr.mono (by decide)) (pv 0) (za (yn zM (pv 1) (pv 8) (fun _ _=>rfl)) zb)) (za (yn zM (pv 4) (pv 8) (fun _ _=>rfl)) zb))))) (zg (zm wZ)) zw)))
   (zd (zy (i:=9) wY.nd rfl (Or.inl rfl) (zL C_Sheet_taken T.cl_Sheet (hr.mono (by decide)) (pv 0)))
   (zd (zy (i:=10) wY.nd rfl (Or.inl rfl) (zL C_Sheet_is_sealed T.cl_Sheet (hr.mono (by decide)) (pv 0)))
   (zg (zm (zcp (zu C_law_whole (hr.mono (by decide)) rfl (za (pv 9) zb)) (zcp (zac zT (pv 9) (pv 5) (zt _)) (zcp (zo zc9 (by rfl) T.b_isinstance PyProof.Rows.boot_isinstance (za (pv 10) (za (zcb (v:=V.ty "bool") rfl T.b_bool PyProof.Rows.boot_bool rfl) zb))) (zdi (zac zT (pv 10) (pv 6) (zt _))))))))))))))),?_⟩
  have hln:=zB
  have ok:=hSh.ok
  have c24:=ok.c24
  have p15:=ok.p15
  obtain⟨dx,b1,b2,b3,d,hip⟩:=hSh.ins
  have hrl:=S.rows_len
  have hll:=hR.length
  refine⟨_,rfl,p,dx,_,rfl,hip,rfl,p,F,S,rfl,hSh,fun l1 H1 s1 f1 e1=>?_⟩
  refine⟨_,rfl,l1,a2,S.couples,S.couples,rfl,SqL.of e1,s1.seq hA2,by omega,?_⟩
  rw[decide_eq_true rfl]
  refine⟨_,rfl,zbj ?_⟩
  refine⟨_,rfl,p,dx,_,rfl,s1 _ _ hip,rfl,p,F,S,rfl,hSh.same s1,fun l2 H2 s2 f2 e2=>?_⟩
  have t2:=s1.trans s2
  refine⟨_,rfl,l2,a3,S.struck,S.struck,rfl,SqL.of e2,t2.seq hA3,by omega,?_⟩
  rw[decide_eq_true rfl]
  refine⟨_,rfl,zbj ?_⟩
  refine⟨_,rfl,a1,_,rfl,.inl (t2.seq hA1),_,rfl,by omega,by rw[List.length_map];omega,?_⟩
  rw[List.length_map,show((S.panel.length:Nat):Int).toNat=S.panel.length by omega]
  refine zfu (fun i ys H3=>zj H2 H3∧ys=(((List.range i).filter fun k => !decide (S.rows.getD k [] = [])).map fun(k:Nat)=>(k:Int)).map V.int) ⟨zj.refl _,rfl⟩ ?_ (by omega) ?_ ?_
  ·rintro i ys H3 hi ⟨s3,rfl⟩
   rw[List.length_map,List.length_map]
   exact Nat.le_trans (List.length_filter_le _ _) (by rw[List.length_range];exact Nat.le_refl _)
  ·rintro i ys H3 hi ⟨s3,rfl⟩
   have t3:=t2.trans s3
   obtain⟨m,em,rm⟩:=hR.at (i:=i) (by omega) []
   refine⟨_,rfl,_,rfl,a4,_,_,_,rfl,rfl,t3.seq hA4,ze4 (by omega) (by rw[show((0:Int)+(i:Int)).toNat=i by omega];exact zcZ em),(by show 0≤sizeLine;decide),fun l3 hl3=>?_⟩
   refine⟨m,l3,_,[],rfl,rfl,(t3.newT hl3).seq rm,SqL.new,zG _,rfl,_,rfl,?_⟩
   rw[show eqL ((S.rows.getD i []).map V.int) []=decide (S.rows.getD i [] = [])from zby _ []]
   refine wl (fun hb=>?_) (fun hb=>?_)
   ·refine⟨_,rfl,s3.newT hl3,?_⟩
    rw[zfy,if_neg hb,List.map_append,show(0:Int)+(i:Int)=(i:Int)by omega]
    rfl
   ·refine⟨s3.newT hl3,?_⟩
    rw[zfy,if_pos hb,List.append_nil]
  ·rintro ys H3 ⟨s3,rfl⟩ l3 hl3
   rw[show(((List.range S.panel.length).filter fun k => !decide (S.rows.getD k [] = [])).map fun(k:Nat)=>(k:Int))=zc5 S.rows by unfold zc5;rw[hrl]]
   have hin:=@zd9 S.rows
   have hil:=zja S.rows
   have n1:=Sh.into_names ok
   have n2:=Sh.into_cards ok
   have n3:=@Sh.into_one S ok
   generalize zc5 S.rows=is at hin hil n1 n2 n3 ⊢
   generalize hH4:upd H3 l3 _=H4
   have s4:zj H2 H4:=by rw[← hH4];exact s3.newT hl3
   have e3:H4 l3=some (.lst (is.map V.int)):=by rw[← hH4];exact ze
   have t4:=t2.trans s4
   refine⟨_,rfl,p,dx,_,rfl,t4 _ _ hip,rfl,p,F,S,rfl,hSh.same t4,fun l5 H5 s5 f5 e5=>?_⟩
   have t5:=t4.trans s5
   refine⟨_,rfl,l5,a1,S.panel,S.panel,rfl,SqL.of e5,t5.seq hA1,by omega,?_⟩
   rw[decide_eq_true rfl]
   refine⟨_,rfl,zbj ?_⟩
   refine⟨_,rfl,p,dx,_,rfl,t5 _ _ hip,rfl,p,F,S,rfl,(hSh.same t5).shape,p15,fun l6 H6 s6 f6 e6=>?_⟩
   have t6:=t5.trans s6
   have i6:=SqL.of (K:=K) (s6 _ _ (s5 _ _ e3))
   refine⟨_,rfl,l3,rfl,⟨_,i6⟩,?_⟩
   refine ya (xs:=is.map V.int) (fun i ys H7=>H7=H6∧ys=((is.take i).map fun x=>S.panel.getD x.toNat "").map V.str) ⟨rfl,rfl⟩ ?_ (by rw[List.length_map];omega) ?_ ?_
   ·rintro i ys H7 hi ⟨rfl,rfl⟩
    refine⟨i6,?_⟩
    rw[List.length_map,List.length_map,List.length_take]
    omega
   ·rintro i x ys H7 hx ⟨rfl,rfl⟩
    obtain⟨hi,rfl⟩:=yA hx
    have hx:=hin (wT hi)
    refine⟨_,rfl,_,rfl,a1,_,_,_,rfl,rfl,t6.seq hA1,zcQ hx.1 (by omega),rfl,?_⟩
    rw[yy hi,List.map_append,List.map_append]
    rfl
   rintro ys H7 ⟨rfl,rfl⟩ l7 hl7
   rw[List.length_map,List.take_length,n1]
   generalize hH8:upd H7 l7 _=H8
   have s8:zj H7 H8:=by rw[← hH8];exact zj.new hl7
   have e8:H8 l7=some (.lst (S.handed.map V.str)):=by rw[← hH8];exact ze
   have hhl:S.handed.length≤15:=Nat.le_trans (List.length_filter_le _ _) p15
   refine⟨l6,l7,S.handed,S.handed,rfl,SqL.of (s8 _ _ e6),SqL.of e8,by omega,?_⟩
   rw[decide_eq_true rfl]
   refine⟨_,rfl,zbj ?_⟩
   have t8:=t6.trans s8
   refine⟨_,rfl,p,dx,_,rfl,t8 _ _ hip,rfl,p,F,S,rfl,hSh.same t8,fun l9 H9 ks s9 f9 e9 r9=>?_⟩
   have t9:=t8.trans s9
   have i9:=(s8.trans s9).seq i6
   refine⟨_,rfl,l3,rfl,⟨_,i9⟩,?_⟩
   have at9:∀x∈is,∃m,ls[x.toNat]? = some m∧IL K H m (S.rows.getD x.toNat []):=fun x hx=>hR.at (hin hx).2.1 []
   refine ya (xs:=is.map V.int) (fun i ys H10=>H10=H9∧∃ms:List Addr,ys=ms.map V.ref∧All2 (IL K H) ms ((is.take i).map fun x=>S.rows.getD x.toNat [])) ⟨rfl,[],rfl,.nil⟩ ?_ (by rw[List.length_map];omega) ?_ ?_
   ·rintro i ys H10 hi ⟨rfl,ms,rfl,r10⟩
    refine⟨i9,?_⟩
    have:=r10.length
    rw[List.length_map,List.length_take] at this
    rw[List.length_map]
    omega
   ·rintro i x ys H10 hx ⟨rfl,ms,rfl,r10⟩
    obtain⟨hi,rfl⟩:=yA hx
    have hx:=hin (wT hi)
    obtain⟨m,em,rm⟩:=at9 _ (wT hi)
    refine⟨_,rfl,_,rfl,a4,_,_,_,rfl,rfl,t9.seq hA4,ze4 hx.1 (zcZ em),rfl,ms ++ [m],by rw[List.map_append];rfl,?_⟩
    rw[yy hi,List.map_append]
    exact r10.snoc rm
   rintro ys H10 ⟨rfl,ms,rfl,r10⟩ l10 hl10
   rw[List.length_map,List.take_length,n2] at r10
   have s11:=zj.new (o:=.lst (ms.map V.ref)) hl10
   have hcl:S.cardsIn.length≤15:=by unfold Sh.cardsIn;rw[List.length_map];exact hhl
   refine⟨l9,l10,S.cardsIn,rfl,⟨ks,SqL.of (s11 _ _ e9),r9.imp fun _ _ z=>SqL.of (s11 _ _ z.2)⟩,⟨ms,SqL.new,r10.imp fun _ _=>IL.stays K _ _ _ _ (t9.trans s11)⟩,by omega,fun c hc=>?_,?_⟩
   ·unfold Sh.cardsIn at hc
    obtain⟨j,hj,rfl⟩:=List.mem_map.mp hc
    cases e:S.card j with
    | none=>exact Nat.zero_le _
    | some c =>
      have:=(ok.cd j c e).2.length_eq
      show c.length≤1000
      omega
   refine⟨_,rfl,zbj ?_⟩
   generalize hH11:upd H10 l10 _=H11 at s11
   have t11:=t9.trans s11
   have i11:=s11.seq i9
   refine⟨_,rfl,l3,rfl,⟨_,i11⟩,?_⟩
   refine zdC (xs:=is.map V.int) (fun i σ H12=>∃v,σ = [some (.ref p),some (.ref a1),some (.ref a2),some (.ref a3),some (.ref a4),some (.int S.taken),some (.bl S.shut),some (.ref l3),v,none,none]∧zj H11 H12) ⟨_,rfl,zj.refl _⟩ ?_ ?_ ?_
   ·rintro i σ H12 hi ⟨v,rfl,s12⟩
    exact s12.seq i11
   ·rintro i x σ H12 hx ⟨v,rfl,s12⟩
    obtain⟨hi,rfl⟩:=yA hx
    have hx:=hin (wT hi)
    have hone:=n3 (wT hi)
    obtain⟨m,em,rm⟩:=at9 _ (wT hi)
    have t12:=t11.trans s12
    refine⟨_,rfl,p,dx,_,rfl,t12 _ _ hip,rfl,_,rfl,_,rfl,a1,_,_,_,rfl,rfl,t12.seq hA1,zcQ hx.1 (by omega),p,F,S,_,rfl,hSh.same t12,(fun z=>absurd (ok.cd _ _ hone).1 z),(fun _ z=>by rw[hone] at z;cases z),fun c hc l13 H13 s13 f13 e13=>?_⟩
    rw[hone] at hc
    cases hc
    have t13:=t12.trans s13
    have hcl:(S.rows.getD (is.getD i 0).toNat []).length≤24:=by have:=(ok.cd _ _ hone).2.length_eq;omega
    refine⟨_,rfl,_,rfl,a4,_,_,_,rfl,rfl,t13.seq hA4,ze4 hx.1 (zcZ em),l13,m,_,_,rfl,SqL.of e13,t13.seq rm,by omega,?_⟩
    rw[decide_eq_true rfl]
    exact⟨_,rfl,zbj ⟨_,rfl,s12.trans s13⟩⟩
   rintro σ H12 ⟨v,rfl,s12⟩
   have t12:=t11.trans s12
   refine⟨_,rfl,p,dx,_,rfl,t12 _ _ hip,rfl,p,F,S,rfl,hSh.same t12,?_⟩
   refine⟨_,rfl,p,dx,_,rfl,t12 _ _ hip,rfl,p,F,S,rfl,hSh.same t12,?_⟩
   refine⟨_,rfl,.int S.taken,true,false,rfl,rfl,rfl,_,rfl,zfQ ?_⟩
   refine⟨_,rfl,_,rfl,rfl,_,rfl,?_⟩
   rw[decide_eq_true rfl]
   refine zfQ ⟨_,rfl,.bl S.shut,true,rfl,rfl,_,rfl,zfQ ?_⟩
   refine⟨_,rfl,_,rfl,rfl,?_⟩
   rw[decide_eq_true rfl]
   exact q _ t12
end
def zbA(K:PySem.W.Frag):Sp:=fun vs H Q _=>∃(a b:Addr) (rs:List (List Int)) (ms:List Int),vs = [.ref a,.ref b]∧zdJ K (IL K) H a rs∧SqL K H b (ms.map V.int)∧(∀r∈rs,r.length=ms.length∧∀x∈r,1≤x∧x≤24)∧(∀x∈ms,1≤x∧x≤24)∧1≤ms.length∧ms.length≤60∧rs.length≤1000∧∀H',zj H H'→Q (.int (1+((rs.filter fun r=>M6.y7 r ms 24).length:Int))) H'
section
variable {P:Program} {w:World} {K:PySem.W.Frag} {mg:Str→Option Value} {base:Heap}
theorem ze1{f:Addr}{fd:FuncData}(F:Fun K "place_among" "place_among" yM f fd)(T:Txt K mg)(C_is_ahead:Can P w K mg base 4 "is_ahead" ["one","other"] (zcN K)):FnOk P w K mg base CX0 5 f fd ["rows","own"] (zbA K):=by
 refine F.ok ze7 (fun vs H Q E h=>?_) (fun cdv A outer s H vs Q E hr h=>?_)
 ·obtain⟨a,b,rs,ms,rfl,_⟩:=h
  rfl
 ·obtain⟨a,b,rs,ms,rfl,⟨ls,hS,hR⟩,hB,hrs,hm,h1,hz,hzr,q⟩:=h
  refine⟨_,(zg (zm (zn yj zh (zo zq (by rfl) T.b_len PySem.boot_len (za (ye (show CompScope (zc yM) ["rows","own"] "marks" ["own"] [1] _ from⟨rfl,by decide +kernel,by decide +kernel,rfl,by decide +kernel,rfl,by decide +kernel,by decide +kernel⟩) rfl (zK (pv 0)) (fun _ _ _ _ _=>(zaT (yN (zu C_is_ahead (hr.mono (by decide)) rfl (za (pv 0) (za (pv 1) zb)))))) (fun _ _ _ _ _=>(pv 0))) zb))))),?_⟩
  have hlen:=hR.length
  refine⟨_,rfl,a,rfl,⟨_,hS⟩,?_⟩
  refine wa (xs:=ls.map V.ref) (fun i ys H2=>zj H H2∧ys.length=((rs.take i).filter fun r=>M6.y7 r ms 24).length) ⟨zj.refl _,rfl⟩ ?_ (by rw[List.length_map];have:=zB;omega) ?_ ?_
  ·rintro i ys H2 hi ⟨s2,e2⟩
   refine⟨s2.seq hS,?_⟩
   rw[e2]
   have:=List.length_filter_le (fun r=>M6.y7 r ms 24) (rs.take i)
   rw[List.length_take] at this
   omega
  ·rintro i x ys H2 hx ⟨s2,e2⟩
   obtain⟨l,el,rfl⟩:=zay hx
   obtain⟨d,ed,rd⟩:=hR.getL el
   have hd:=hrs d (List.mem_of_getElem? ed)
   refine⟨_,rfl,_,rfl,l,b,d,ms,rfl,s2.seq rd,s2.seq hB,hd.1,by omega,by omega,hd.2,hm,fun H3 s3=>⟨_,rfl,zfF (fun hb=>?_) (fun hb=>?_)⟩⟩
   ·refine⟨_,rfl,s2.trans s3,?_⟩
    rw[List.take_succ,ed,List.filter_append,List.length_append,List.length_append,e2]
    show _=_+(List.filter (fun r=>M6.y7 r ms 24) [d]).length
    rw[List.filter_cons,if_pos hb]
    rfl
   ·refine⟨s2.trans s3,?_⟩
    rw[List.take_succ,ed,List.filter_append,List.length_append,e2]
    show _=_+(List.filter (fun r=>M6.y7 r ms 24) [d]).length
    rw[List.filter_cons,if_neg (by rw[hb];exact Bool.false_ne_true)]
    rfl
  ·rintro ys H2 ⟨s2,e2⟩ l hl
   rw[List.length_map,hlen,List.take_length] at e2
   refine⟨l,_,rfl,.inl SqL.new,_,_,rfl,rfl,?_⟩
   rw[e2]
   exact q _ (s2.newT hl)
end
def wP(K:PySem.W.Frag):Sp:=fun vs H Q _=>∃(a b:Addr) (cs:List (List Int)) (us:List Int),vs = [.ref a,.ref b]∧zdJ K (IL K) H a cs∧SqL K H b (us.map V.int)∧us.Nodup∧(∀d∈cs,d.Perm us)∧1≤cs.length∧cs.length≤15∧1≤us.length∧us.length≤24∧∀(l:Addr) (H':Hp),zj H H'→H l=none→H' l=some (.lst ((M6.wg cs us).map V.int))→Q (.ref l) H'
section
variable {P:Program} {w:World} {K:PySem.W.Frag} {mg:Str→Option Value} {base:Heap}
theorem zgN{f:Addr}{fd:FuncData}(F:Fun K "places_of" "places_of" wd f fd)(T:Txt K mg)(C_marks_of:Can P w K mg base 2 "marks_of" ["cards","couple"] (zbM K))(C_place_among:Can P w K mg base 5 "place_among" ["rows","own"] (zbA K)):FnOk P w K mg base CX0 6 f fd ["cards","couples"] (wP K):=by
 refine F.ok zdN (fun vs H Q E h=>?_) (fun cdv A outer s H vs Q E hr h=>?_)
 ·obtain⟨a,b,cs,us,rfl,_⟩:=h
  rfl
 ·obtain⟨a,b,cs,us,rfl,hC,hU,hnd,hp,c1,c2,u1,u2,q⟩:=h
  refine⟨_,(zd (zy (i:=2) zdN.nd rfl (Or.inr rfl) (ye (show CompScope (zc wd) ["cards","couples","rows"] "couple" ["cards"] [0] _ from⟨rfl,by decide +kernel,by decide +kernel,rfl,by decide +kernel,rfl,by decide +kernel,by decide +kernel⟩) rfl (zK (pv 1)) (fun _ _ _ _ _=>wf) (fun _ _ _ _ _=>(zu C_marks_of (hr.mono (by decide)) rfl (za (pv 1) (za (pv 0) zb))))))
   (zg (zm (ye (show CompScope (zc wd) ["cards","couples","rows"] "own" ["rows"] [2] _ from⟨rfl,by decide +kernel,by decide +kernel,rfl,by decide +kernel,rfl,by decide +kernel,by decide +kernel⟩) rfl (zK (pv 2)) (fun _ _ _ _ _=>wf) (fun _ _ _ _ _=>(zu C_place_among (hr.mono (by decide)) rfl (za (pv 1) (za (pv 0) zb)))))))),?_⟩
  have hln:=zB
  refine⟨_,rfl,b,rfl,⟨_,hU⟩,?_⟩
  refine ya (xs:=us.map V.int) (fun i ys H2=>∃ks:List Addr,ys=ks.map V.ref∧zj H H2∧All2 (IL K H2) ks ((us.take i).map (M5.zE cs))) ⟨[],rfl,zj.refl _,.nil⟩ ?_ (by rw[List.length_map];omega) ?_ ?_
  ·rintro i ys H2 hi ⟨ks,rfl,s2,r2⟩
   refine⟨s2.seq hU,?_⟩
   have:=r2.length
   rw[List.length_map,List.length_take] at this
   rw[List.length_map]
   omega
  ·rintro i x ys H2 hx ⟨ks,rfl,s2,r2⟩
   obtain⟨hi,rfl⟩:=yA hx
   refine⟨_,rfl,_,rfl,a,cs,_,rfl,hC.same (IL.stays K) s2,by omega,fun d hd=>(hp d hd).mem_iff.mpr (wT hi),fun l H3 s3 f3 e3=>?_⟩
   refine⟨ks ++ [l],by rw[List.map_append];rfl,s2.trans s3,?_⟩
   rw[yy hi,List.map_append]
   exact(r2.imp fun _ _=>IL.stays K _ _ _ _ s3).snoc (show IL K _ l _ from SqL.of e3)
  ·rintro ys H2 ⟨ks,rfl,s2,r2⟩ l hl
   rw[List.length_map,List.take_length] at r2
   generalize hH3:upd H2 l _=H3
   have s23:zj H2 H3:=by rw[← hH3];exact zj.new hl
   have e3:H3 l=some (.lst (ks.map V.ref)):=by rw[← hH3];exact ze
   have r3:=r2.imp fun _ _=>IL.stays K _ _ _ _ s23
   have s3:=s2.trans s23
   have hk:=r3.length
   rw[List.length_map] at hk
   refine⟨_,rfl,l,rfl,⟨_,SqL.of e3⟩,?_⟩
   refine ya (xs:=ks.map V.ref) (fun i ys H4=>zj H3 H4∧ys=((us.take i).map fun c=>1+(((us.map (M5.zE cs)).filter fun r=>M6.y7 r (M5.zE cs c) 24).length:Int)).map V.int) ⟨zj.refl _,rfl⟩ ?_ (by rw[List.length_map];omega) ?_ ?_
   ·rintro i ys H4 hi ⟨s4,rfl⟩
    refine⟨s4.seq (SqL.of e3),?_⟩
    rw[List.length_map,List.length_map,List.length_take]
    omega
   ·rintro i x ys H4 hx ⟨s4,rfl⟩
    obtain⟨p,ep,rfl⟩:=zay hx
    obtain⟨m,em,rm⟩:=r3.getL ep
    rw[List.getElem?_map] at em
    cases eu:us[i]? with
    | none=>rw[eu] at em;cases em
    | some c =>
      rw[eu] at em
      cases em
      have hc:=List.mem_of_getElem? eu
      have rng:∀d∈us,(M5.zE cs d).length=cs.length∧∀x∈M5.zE cs d,1≤x∧x≤24:=fun d hd=>⟨M5.zap cs d,fun x hx=>by have:=M6.zav hp hd x hx;omega⟩
      refine⟨_,rfl,_,rfl,l,p,us.map (M5.zE cs),M5.zE cs c,rfl,⟨ks,s4.seq (SqL.of e3),r3.imp fun _ _=>IL.stays K _ _ _ _ s4⟩,s4.seq rm,fun r hr=>?_,(rng c hc).2,by rw[(rng c hc).1];exact c1,by rw[(rng c hc).1];omega,by rw[List.length_map];omega,fun H5 s5=>⟨s4.trans s5,?_⟩⟩
      ·obtain⟨d,hd,rfl⟩:=List.mem_map.mp hr
       exact⟨by rw[(rng d hd).1,(rng c hc).1],(rng d hd).2⟩
      ·rw[List.take_succ,eu,List.map_append,List.map_append]
       rfl
   ·rintro ys H4 ⟨s4,rfl⟩ p hp'
    rw[List.length_map,hk,List.take_length]
    have st:=s3.trans s4
    refine q p _ (st.newT hp') ?_ ?_
    ·cases e:H p with
     | none=>rfl
     | some u=>have:=st p u e;rw[hp'] at this;cases this
    ·rw[M6.zjH hp u1 u2]
     exact ze
end
def zb8(K:PySem.W.Frag):Sp:=fun vs H Q E=>∃(p:Addr) (F:Addr→Prop) (S:Sh),vs = [.ref p]∧zA K H p F S∧(S.handed.length=0→∀C H',zf K "TooFewCards" C→zj H H'→E (.ref C) none H')∧(1≤S.handed.length→∀(l:Addr) (H':Hp),zj H H'→H l=none→H' l=some (.lst ((M6.wg S.cardsIn S.couples).map V.int))→Q (.ref l) H')
section
variable {P:Program} {w:World} {K:PySem.W.Frag} {mg:Str→Option Value} {base:Heap}
theorem zjw{f:Addr}{fd:FuncData}(F:Fun K "places" "places" zbZ f fd)(T:Txt K mg)(C_places_of:Can P w K mg base 6 "places_of" ["cards","couples"] (wP K))(C_refuse_fewer_cards:CanX P w K mg base 2 "refuse_fewer_cards" ["sheet","least"] (zV K))(C_Sheet_couples:CanM P w K mg base 1 (zJ K "Sheet") "couples" ["self"] (zO K))(C_Sheet_cards:CanM P w K mg base 3 (zJ K "Sheet") "cards" ["self"] (yT K)):FnOk P w K mg base (CX1 P w) 7 f fd ["sheet"] (zb8 K):=by
 refine F.okX zjQ (fun vs H Q E h=>?_) (fun X W cdv A outer s H vs Q E hX hW fl md hr h=>?_)
 ·obtain⟨p,F,S,rfl,_⟩:=h
  rfl
 ·obtain⟨p,F,S,rfl,hSh,qE,q⟩:=h
  subst hX
  refine⟨_,(zd (zU (ww C_refuse_fewer_cards fl (hr.mono (by decide)) rfl (za (pv 0) (za zh zb))))
   (zg (zm (zu C_places_of (hr.mono (by decide)) rfl (za (zL C_Sheet_cards T.cl_Sheet (hr.mono (by decide)) (pv 0)) (za (zL C_Sheet_couples T.cl_Sheet (hr.mono (by decide)) (pv 0)) zb)))))),?_⟩
  have ok:=hSh.ok
  have h15:S.handed.length≤15:=Nat.le_trans (List.length_filter_le _ _) ok.p15
  have c24:=ok.c24
  obtain⟨dx,b1,b2,b3,d,hip⟩:=hSh.ins
  refine⟨_,rfl,p,F,S,1,rfl,hSh,(fun h C H1 hC s1=>by rw[hW];exact qE (by omega) C H1 hC s1),fun h0 H1 s1=>?_⟩
  have h1:1≤S.handed.length:=by omega
  refine⟨_,rfl,p,dx,_,rfl,s1 _ _ hip,rfl,p,F,S,rfl,hSh.same s1,fun l2 H2 ls s2 f2 e2 r2=>?_⟩
  have t2:=s1.trans s2
  refine⟨_,rfl,p,dx,_,rfl,t2 _ _ hip,rfl,p,F,S,rfl,hSh.same t2,fun l3 H3 s3 f3 e3=>?_⟩
  have t3:=t2.trans s3
  refine⟨l2,l3,S.cardsIn,S.couples,rfl,⟨ls,SqL.of (s3 _ _ e2),r2.imp fun _ _ z=>SqL.of (s3 _ _ z.2)⟩,SqL.of e3,ok.nd,Sh.cardsIn_perm ok,by rw[Sh.cardsIn_len];exact h1,by rw[Sh.cardsIn_len];exact h15,ok.c1,by omega,fun l4 H4 s4 f4 e4=>?_⟩
  exact q h1 l4 H4 (t3.trans s4) (t3.free f4) e4
end
def zcO(K:PySem.W.Frag):Sp:=fun vs H Q E=>∃(p:Addr) (F:Addr→Prop) (S:Sh) (j:Str),vs = [.ref p,.str j]∧zA K H p F S∧(j∉S.panel→∀C,zf K "UnknownJudge" C→E (.ref C) none H)∧(j∈S.panel→S.card j=none→∀C,zf K "NoCard" C→E (.ref C) none H)∧(j∈S.handed→S.handed.length<2→∀C H',zf K "TooFewCards" C→zj H H'→E (.ref C) none H')∧(j∈S.handed→2≤S.handed.length→∀(l:Addr) (H':Hp),zj H H'→H l=none→H' l=some (.lst ((M6.wg (S.cardsWo j) S.couples).map V.int))→Q (.ref l) H')
section
variable {P:Program} {w:World} {K:PySem.W.Frag} {mg:Str→Option Value} {base:Heap}
theorem zh2{f:Addr}{fd:FuncData}(F:Fun K "left_out" "left_out" zaR f fd)(T:Txt K mg)(C_places_of:Can P w K mg base 6 "places_of" ["cards","couples"] (wP K))(C_refuse_fewer_cards:CanX P w K mg base 2 "refuse_fewer_cards" ["sheet","least"] (zV K))(C_cards_without:Can P w K mg base 3 "cards_without" ["sheet","judge"] (wK K))(C_Sheet_couples:CanM P w K mg base 1 (zJ K "Sheet") "couples" ["self"] (zO K))(C_Sheet_card_of:CanMX P w K mg base 2 (zJ K "Sheet") "card_of" ["self","judge"] (yl K)):FnOk P w K mg base (CX1 P w) 7 f fd ["sheet","judge"] (zcO K):=by
 refine F.okX zhv (fun vs H Q E h=>?_) (fun X W cdv A outer s H vs Q E hX hW fl md hr h=>?_)
 ·obtain⟨p,F,S,j,rfl,_⟩:=h
  rfl
 ·obtain⟨p,F,S,j,rfl,hSh,qU,qN,qE,q⟩:=h
  subst hX
  refine⟨_,(zd (zU (wX C_Sheet_card_of T.cl_Sheet fl (hr.mono (by decide)) (pv 0) (za (pv 1) zb)))
   (zd (zU (ww C_refuse_fewer_cards fl (hr.mono (by decide)) rfl (za (pv 0) (za zh zb))))
   (zg (zm (zu C_places_of (hr.mono (by decide)) rfl (za (zu C_cards_without (hr.mono (by decide)) rfl (za (pv 0) (za (pv 1) zb))) (za (zL C_Sheet_couples T.cl_Sheet (hr.mono (by decide)) (pv 0)) zb))))))),?_⟩
  have hln:=zB
  have ok:=hSh.ok
  have h15:=ok.p15
  have c24:=ok.c24
  obtain⟨dx,b1,b2,b3,d,hip⟩:=hSh.ins
  refine⟨_,rfl,p,dx,_,rfl,hip,rfl,_,rfl,p,F,S,j,rfl,hSh,(fun hn C hC=>by rw[hW];exact qU hn C hC),(fun hp hn C hC=>by rw[hW];exact qN hp hn C hC),fun c e l1 H1 s1 f1 e1=>?_⟩
  have hj:j∈S.handed:=List.mem_filter.mpr ⟨(ok.cd j c e).1,by rw[e];rfl⟩
  refine⟨_,rfl,p,F,S,2,rfl,hSh.same s1,(fun h C H2 hC s2=>by rw[hW];exact qE hj (by omega) C H2 hC (s1.trans s2)),fun h0 H2 s2=>?_⟩
  have h2:2≤S.handed.length:=by omega
  have t2:=s1.trans s2
  refine⟨_,rfl,_,rfl,p,F,S,j,rfl,hSh.same t2,fun l3 H3 ks s3 f3 e3 r3=>?_⟩
  have t3:=t2.trans s3
  refine⟨_,rfl,p,dx,_,rfl,t3 _ _ hip,rfl,p,F,S,rfl,hSh.same t3,fun l4 H4 s4 f4 e4=>?_⟩
  have t4:=t3.trans s4
  have hwl:=Sh.cardsWo_len ok.pnd hj
  have hl2:S.handed.length≤15:=Nat.le_trans (List.length_filter_le _ _) h15
  refine⟨l3,l4,S.cardsWo j,S.couples,rfl,⟨ks,SqL.of (s4 _ _ e3),r3.imp fun _ _=>IL.stays K _ _ _ _ s4⟩,SqL.of e4,ok.nd,Sh.cardsWo_perm ok j,by omega,by omega,ok.c1,by omega,fun l5 H5 s5 f5 e5=>?_⟩
  exact q hj h2 l5 H5 (t4.trans s5) (t4.free f5) e5
end
def zdl(K:PySem.W.Frag):Sp:=fun vs H Q E=>∃(p:Addr) (F:Addr→Prop) (S:Sh) (j:Str) (c:Int),vs = [.ref p,.str j,.int c]∧zA K H p F S∧(j∉S.panel→∀C,zf K "UnknownJudge" C→E (.ref C) none H)∧(j∈S.panel→S.card j=none→∀C,zf K "NoCard" C→E (.ref C) none H) ∧
 ((S.card j).isSome=true→c∉S.couples→∀C H',zf K "UnknownCouple" C→zj H H'→E (.ref C) none H')∧(∀d,S.card j=some d→c∈S.couples→d.getD 0 0=c→∀C H',zf K "AtTop" C→zj H H'→E (.ref C) none H') ∧
 ∀(d:List Int) (i:Nat),S.card j=some d→0<i→i<d.length→d.getD i 0=c→∀(t l:Addr) (H':Hp),zj H H'→H t=none→H l=none→H' t=some (.tup [.int (d.getD (i - 1) 0),.ref l])→H' l=some (.lst ((M6.wg (S.cardsUp j (upC d i)) S.couples).map V.int))→Q (.ref t) H'
section
variable {P:Program} {w:World} {K:PySem.W.Frag} {mg:Str→Option Value} {base:Heap}
theorem zib{f:Addr}{fd:FuncData}(F:Fun K "step_up" "step_up" zaP f fd)(T:Txt K mg)(C_one_up:CanX P w K mg base 1 "one_up" ["card","couple"] (zd3 K))(C_places_of:Can P w K mg base 6 "places_of" ["cards","couples"] (wP K))(C_Sheet_couples:CanM P w K mg base 1 (zJ K "Sheet") "couples" ["self"] (zO K))(C_Sheet_handed:CanM P w K mg base 1 (zJ K "Sheet") "handed" ["self"] (zY K))(C_Sheet_card_of:CanMX P w K mg base 2 (zJ K "Sheet") "card_of" ["self","judge"] (yl K)):FnOk P w K mg base (CX1 P w) 7 f fd ["sheet","judge","couple"] (zdl K):=by
 obtain⟨c_UnknownCouple,n_UnknownCouple,m_UnknownCouple,x_UnknownCouple⟩:=T.x_UnknownCouple
 refine F.okX zbI (fun vs H Q E h=>?_) (fun X W cdv A outer s H vs Q E hX hW fl md hr h=>?_)
 ·obtain⟨p,F,S,j,c,rfl,_⟩:=h
  rfl
 ·obtain⟨p,F,S,j,c,rfl,hSh,qU,qN,qC,qT,q⟩:=h
  subst hX
  refine⟨_,(zd (zy (i:=3) zbI.nd rfl (Or.inl rfl) (wX C_Sheet_card_of T.cl_Sheet fl (hr.mono (by decide)) (pv 0) (za (pv 1) zb)))
   (zd (zC (zl zaz (pv 2) (zL C_Sheet_couples T.cl_Sheet (hr.mono (by decide)) (pv 0)) (by first | exact zt _ | rfl)) (zg (y9 rfl md rfl m_UnknownCouple x_UnknownCouple (za zD zb))) zw)
   (zd (zy (i:=4) zbI.nd rfl (Or.inr rfl) (ww C_one_up fl (hr.mono (by decide)) rfl (za (pv 3) (za (pv 2) zb))))
   (zd (zy (i:=5) zbI.nd rfl (Or.inl rfl) (yn zM (pv 4) (za1 PySem.F.plainAttrs_list PySem.F.slot_list_index PySem.F.type_list_index zb1 (pv 3) (za (pv 2) zb)) (fun _ _=>rfl)))
   (zd (zaJ (i:=6) (show CompScope (zc zaP) ["sheet","judge","couple","card","stepped","passed","cards"] "other" ["sheet","judge","stepped"] [0,1,4] _ from⟨rfl,by decide +kernel,by decide +kernel,rfl,by decide +kernel,rfl,by decide +kernel,by decide +kernel⟩) rfl zbI.nd rfl (Or.inl rfl) (zK (zL C_Sheet_handed T.cl_Sheet (hr.mono (by decide)) (pv 0))) (fun _ _ _ _ _=>wf) (fun _ _ _ _ _=>(pe_ifExp (zl zT (pv 0) (pv 2) (zt _)) (pv 3) (wX C_Sheet_card_of T.cl_Sheet zgl (hr.mono (by decide)) (pv 1) (za (pv 0) zb)))))
   (zg (zm (pe_tup (za (pv 5) (za (zu C_places_of (hr.mono (by decide)) rfl (za (pv 6) (za (zL C_Sheet_couples T.cl_Sheet (hr.mono (by decide)) (pv 0)) zb))) zb)))))))))),?_⟩
  have hln:=zB
  have ok:=hSh.ok
  have h15:=ok.p15
  have c24:=ok.c24
  obtain⟨dx,b1,b2,b3,dd,hip⟩:=hSh.ins
  refine⟨_,rfl,p,dx,_,rfl,hip,rfl,_,rfl,p,F,S,j,rfl,hSh,(fun hn C hC=>by rw[hW];exact qU hn C hC),(fun hp hn C hC=>by rw[hW];exact qN hp hn C hC),fun d hd l1 H1 s1 f1 e1=>?_⟩
  obtain⟨hjp,hdp⟩:=ok.cd j d hd
  have hdl:=hdp.length_eq
  have hdn:d.Nodup:=hdp.nodup_iff.mpr ok.nd
  refine⟨_,rfl,_,rfl,p,dx,_,rfl,s1 _ _ hip,rfl,p,F,S,rfl,hSh.same s1,fun l2 H2 s2 f2 e2=>?_⟩
  have t2:=s1.trans s2
  refine⟨l2,_,rfl,.inl (SqL.of e2),rfl,zG _,_,rfl,?_⟩
  rw[zaA]
  refine wl (fun hcm=>?_) (fun hcm=>?_)
  ·exact⟨(by show 1≤sizeLine;decide),by rw[hW];exact qC (by rw[hd];rfl) hcm _ _ n_UnknownCouple t2⟩
  obtain⟨i,hi,rfl⟩:∃i,i<d.length∧d.getD i 0=c:=by
   obtain⟨i,hi,e⟩:=List.getElem_of_mem (hdp.mem_iff.mpr hcm)
   exact⟨i,hi,by rw[List.getD_eq_getElem?_getD,List.getElem?_eq_getElem hi];exact e⟩
  refine⟨_,rfl,_,rfl,l1,d,i,rfl,SqL.of (s2 _ _ e1),hdn,hi,by omega,fun n hn=>ok.rng n (hdp.mem_iff.mp hn),?_,fun h0 l3 H3 s3 f3 e3=>?_⟩
  ·intro z C hC
   subst z
   rw[hW];exact qT d hd hcm rfl C _ hC t2
  have q:=q d i hd h0 hi rfl
  have t3:=t2.trans s3
  have e1':=s3 _ _ (s2 _ _ e1)
  have hix:d.idxOf (d.getD i 0)=i:=by
   have:d.getD i 0=d[i]:=by rw[List.getD_eq_getElem?_getD,List.getElem?_eq_getElem hi];rfl
   rw[this]
   exact hdn.idxOf_getElem i hi
  refine⟨_,rfl,_,rfl,.inl ⟨rfl,_,SqL.of e1'⟩,_,rfl,l1,_,_,rfl,rfl,SqL.of e1',rfl,zG _,?_,l3,_,_,.int (d.getD (i - 1) 0),rfl,rfl,SqL.of e3,?_,?_⟩
  ·rw[zaE,List.length_map,hix];exact hi
  ·rw[zaE,hix]
   refine zae ?_
   rw[List.getElem?_map,show d.take (i - 1) ++ [d.getD i 0,d.getD (i - 1) 0]++d.drop (i+1)=upC d i from rfl,upC_at h0 hi]
   rfl
  refine⟨_,rfl,p,dx,_,rfl,t3 _ _ hip,rfl,p,F,S,rfl,(hSh.same t3).shape,h15,fun l4 H4 s4 f4 e4=>?_⟩
  have hl2:S.handed.length≤15:=Nat.le_trans (List.length_filter_le _ _) h15
  have e3':H4 l3=some (.lst ((upC d i).map V.int)):=s4 _ _ e3
  have t4:=t3.trans s4
  refine⟨l4,rfl,⟨_,SqL.of e4⟩,?_⟩
  refine ya (xs:=S.handed.map V.str) (fun k ys H5=>∃ks:List Addr,ys=ks.map V.ref∧zj H4 H5∧All2 (IL K H5) ks ((S.handed.take k).map fun i'=>if i'=j then upC d i else(S.card i').getD [])) ⟨[],rfl,zj.refl _,.nil⟩ ?_ (by rw[List.length_map];omega) ?_ ?_
  ·rintro k ys H5 hk ⟨ks,rfl,s5,r5⟩
   refine⟨s5.seq (SqL.of e4),?_⟩
   have:=r5.length
   rw[List.length_map,List.length_take] at this
   rw[List.length_map]
   omega
  ·rintro k x ys H5 hx ⟨ks,rfl,s5,r5⟩
   obtain⟨hk,rfl⟩:=zbD hx
   have hm:=List.mem_filter.mp (show S.handed.getD k "" ∈ S.panel.filter fun j=>(S.card j).isSome from zbr hk)
   have t5:=t4.trans s5
   refine⟨_,rfl,_,rfl,rfl,_,rfl,zX (fun he=>?_) (fun hne=>?_)⟩
   ·have he:S.handed.getD k "" = j:=by injection he
    refine⟨_,rfl,ks ++ [l3],by rw[List.map_append];rfl,s5,?_⟩
    rw[yq hk,List.map_append]
    refine r5.snoc ?_
    show IL K H5 l3 (if S.handed.getD k "" = j then upC d i else _)
    rw[if_pos he]
    exact SqL.of (s5 _ _ e3')
   ·have hne:¬S.handed.getD k "" = j:=fun z=>hne (by rw[z])
    cases e:S.card (S.handed.getD k "")with
    | none=>rw[e] at hm;exact absurd hm.2 Bool.false_ne_true
    | some c =>
      refine⟨_,rfl,p,dx,_,rfl,t5 _ _ hip,rfl,_,rfl,p,F,S,_,rfl,hSh.same t5,fun hj=>absurd hm.1 hj,(fun _ z=>by rw[e] at z;cases z),fun c' e' l6 H6 s6 f6 e6=>?_⟩
      rw[e] at e'
      cases e'
      refine⟨ks ++ [l6],by rw[List.map_append];rfl,s5.trans s6,?_⟩
      rw[yq hk,List.map_append]
      refine(r5.imp fun _ _=>IL.stays K _ _ _ _ s6).snoc ?_
      show IL K H6 l6 (if S.handed.getD k "" = j then upC d i else(S.card (S.handed.getD k "")).getD [])
      rw[if_neg hne,e]
      exact SqL.of e6
  ·rintro ys H5 ⟨ks,rfl,s5,r5⟩ l7 hl7
   rw[List.length_map,List.take_length] at r5
   have s7:=s5.newT (o:=.lst (ks.map V.ref)) hl7
   have e7:upd H5 l7 (.lst (ks.map V.ref)) l7=some (.lst (ks.map V.ref)):=ze
   have r7:=r5.imp fun _ _=>IL.stays K _ _ _ _ (zj.new (o:=.lst (ks.map V.ref)) hl7)
   generalize hH7:upd H5 l7 _=H7 at s7 e7 r7 ⊢
   have t7:=t4.trans s7
   refine⟨_,rfl,_,rfl,_,rfl,p,dx,_,rfl,t7 _ _ hip,rfl,p,F,S,rfl,hSh.same t7,fun l8 H8 s8 f8 e8=>?_⟩
   have t8:=t7.trans s8
   have hjh:1≤S.handed.length:=List.length_pos_of_mem (List.mem_filter.mpr ⟨hjp,by rw[hd];rfl⟩)
   refine⟨l7,l8,S.cardsUp j (upC d i),S.couples,rfl,⟨ks,SqL.of (s8 _ _ e7),r7.imp fun _ _=>IL.stays K _ _ _ _ s8⟩,SqL.of e8,ok.nd,Sh.cardsUp_perm ok ((upC_perm h0 hi).trans hdp),by rw[Sh.cardsUp_len];exact hjh,by rw[Sh.cardsUp_len];exact hl2,ok.c1,by omega,fun l9 H9 s9 f9 e9=>⟨(by show 2≤sizeLine;decide),fun t hT=>?_⟩⟩
   have t9:=t8.trans s9
   exact q t l9 _ (t9.newT hT) (t9.free hT) (t8.free f9) ze ((zj.new hT) _ _ e9)
end
def zbg(K:PySem.W.Frag):Sp:=fun vs H Q _=>∃(a b:Addr) (cs:List (List Int)) (us:List Int),vs = [.ref a,.ref b]∧zdJ K (IL K) H a cs∧SqL K H b (us.map V.int)∧us.Nodup∧(∀d∈cs,d.Perm us)∧1≤cs.length∧cs.length≤15∧1≤us.length∧us.length≤24∧∀(l:Addr) (H':Hp),zj H H'→H l=none→H' l=some (.lst ((zc0 cs us).map V.int))→Q (.ref l) H'
section
variable {P:Program} {w:World} {K:PySem.W.Frag} {mg:Str→Option Value} {base:Heap}
theorem zgt{f:Addr}{fd:FuncData}(F:Fun K "firsts_of" "firsts_of" wH f fd)(T:Txt K mg)(C_places_of:Can P w K mg base 6 "places_of" ["cards","couples"] (wP K)):FnOk P w K mg base CX0 7 f fd ["cards","couples"] (zbg K):=by
 refine F.ok zgH (fun vs H Q E h=>?_) (fun cdv A outer s H vs Q E hr h=>?_)
 ·obtain⟨a,b,cs,us,rfl,_⟩:=h
  rfl
 ·obtain⟨a,b,cs,us,rfl,hA,hB,nd,hp,c1,c15,u1,u24,q⟩:=h
  refine⟨_,(zg (zm (pe_comp2 (show CompScope2 (zc wH) ["cards","couples"] "place" "couple" [] [] _ from⟨rfl,by decide +kernel,by decide +kernel,rfl,rfl,by decide +kernel,rfl,by decide +kernel,by decide +kernel⟩) rfl (pi_zip rfl T.b_zip (za (zu C_places_of (hr.mono (by decide)) rfl (za (pv 0) (za (pv 1) zb))) (za (pv 1) zb))) (fun _ _ _ _ _=>(zaT (zl zT (pv 0) zh (zt _)))) (fun _ _ _ _ _=>(pv 1))))),?_⟩
  have hln:=zB
  refine⟨_,rfl,_,rfl,a,b,cs,us,rfl,hA,hB,nd,hp,c1,c15,u1,u24,fun l1 H1 s1 f1 e1=>?_⟩
  have hpl:=M6.zdn cs us
  refine⟨_,rfl,l1,b,_,_,rfl,SqL.of e1,s1.seq hB,?_⟩
  refine zjs (xs:=(M6.wg cs us).map V.int) (ys:=us.map V.int) (fun i zs H2=>zj H1 H2∧zs=(zcj (M6.wg cs us) us i).map V.int) ⟨zj.refl _,rfl⟩ ?_ (by rw[List.length_map,List.length_map];omega) ?_ ?_
  ·rintro i zs H2 hi ⟨s2,rfl⟩
   refine⟨SqL.of (s2 _ _ e1),(s1.trans s2).seq hB,?_⟩
   rw[List.length_map]
   exact zhz _ _ _
  ·rintro i x y t zs H2 hx hy ht ⟨s2,rfl⟩
   obtain⟨hi,rfl⟩:=yA hx
   obtain⟨hi2,rfl⟩:=yA hy
   refine⟨_,rfl,rfl,_,rfl,zX (fun he=>?_) (fun hne=>?_)⟩
   ·have he:(M6.wg cs us).getD i 0=1:=by injection he
    refine⟨_,rfl,s2.newT ht,?_⟩
    rw[zdK,if_pos he,List.map_append]
    rfl
   ·have hne:¬(M6.wg cs us).getD i 0=1:=fun z=>hne (by rw[z])
    refine⟨s2.newT ht,?_⟩
    rw[zdK,if_neg hne,List.append_nil]
  ·rintro zs H2 ⟨s2,rfl⟩ l hl
   rw[List.length_map,List.length_map,hpl,Nat.min_self] at *
   have t2:=s1.trans s2
   exact q l _ (t2.newT hl) (t2.free hl) ze
end
def zd6(K:PySem.W.Frag):Sp:=fun vs H Q E=>∃(p:Addr) (F:Addr→Prop) (S:Sh),vs = [.ref p]∧zA K H p F S∧(S.handed.length=0→∀C H',zf K "TooFewCards" C→zj H H'→E (.ref C) none H')∧(1≤S.handed.length→∀(l:Addr) (H':Hp),zj H H'→H l=none→H' l=some (.lst ((zc0 S.cardsIn S.couples).map V.int))→Q (.ref l) H')
section
variable {P:Program} {w:World} {K:PySem.W.Frag} {mg:Str→Option Value} {base:Heap}
theorem zji{f:Addr}{fd:FuncData}(F:Fun K "firsts" "firsts" zb4 f fd)(T:Txt K mg)(C_refuse_fewer_cards:CanX P w K mg base 2 "refuse_fewer_cards" ["sheet","least"] (zV K))(C_firsts_of:Can P w K mg base 7 "firsts_of" ["cards","couples"] (zbg K))(C_Sheet_couples:CanM P w K mg base 1 (zJ K "Sheet") "couples" ["self"] (zO K))(C_Sheet_cards:CanM P w K mg base 3 (zJ K "Sheet") "cards" ["self"] (yT K)):FnOk P w K mg base (CX1 P w) 8 f fd ["sheet"] (zd6 K):=by
 refine F.okX zjP (fun vs H Q E h=>?_) (fun X W cdv A outer s H vs Q E hX hW fl md hr h=>?_)
 ·obtain⟨p,F,S,rfl,_⟩:=h
  rfl
 ·obtain⟨p,F,S,rfl,hSh,qE,q⟩:=h
  subst hX
  refine⟨_,(zd (zU (ww C_refuse_fewer_cards fl (hr.mono (by decide)) rfl (za (pv 0) (za zh zb))))
   (zg (zm (zu C_firsts_of (hr.mono (by decide)) rfl (za (zL C_Sheet_cards T.cl_Sheet (hr.mono (by decide)) (pv 0)) (za (zL C_Sheet_couples T.cl_Sheet (hr.mono (by decide)) (pv 0)) zb)))))),?_⟩
  have ok:=hSh.ok
  have h15:S.handed.length≤15:=Nat.le_trans (List.length_filter_le _ _) ok.p15
  have c24:=ok.c24
  obtain⟨dx,b1,b2,b3,d,hip⟩:=hSh.ins
  refine⟨_,rfl,p,F,S,1,rfl,hSh,(fun h C H1 hC s1=>by rw[hW];exact qE (by omega) C H1 hC s1),fun h0 H1 s1=>?_⟩
  have h1:1≤S.handed.length:=by omega
  refine⟨_,rfl,p,dx,_,rfl,s1 _ _ hip,rfl,p,F,S,rfl,hSh.same s1,fun l2 H2 ls s2 f2 e2 r2=>?_⟩
  have t2:=s1.trans s2
  refine⟨_,rfl,p,dx,_,rfl,t2 _ _ hip,rfl,p,F,S,rfl,hSh.same t2,fun l3 H3 s3 f3 e3=>?_⟩
  have t3:=t2.trans s3
  refine⟨l2,l3,S.cardsIn,S.couples,rfl,⟨ls,SqL.of (s3 _ _ e2),r2.imp fun _ _ z=>SqL.of (s3 _ _ z.2)⟩,SqL.of e3,ok.nd,Sh.cardsIn_perm ok,by rw[Sh.cardsIn_len];exact h1,by rw[Sh.cardsIn_len];exact h15,ok.c1,by omega,fun l4 H4 s4 f4 e4=>?_⟩
  exact q h1 l4 H4 (t3.trans s4) (t3.free f4) e4
end
def zcn(K:PySem.W.Frag):Sp:=fun vs H Q E=>∃(x:Addr) (F:Addr→Prop) (S:Sh) (c:Int),vs = [.ref x,.int c]∧zA K H x F S∧(S.handed.length=0→∀C H',zf K "TooFewCards" C→zj H H'→E (.ref C) none H')∧(1≤S.handed.length→c∉S.couples→∀C H',zf K "UnknownCouple" C→zj H H'→E (.ref C) none H')∧(1≤S.handed.length→c∈S.couples→∀H',zj H H'→Q (.str (M6.rowT (M6.plc S.cardsIn S.couples c) c (M5.zE S.cardsIn c) S.couples.length)) H')
section
variable {P:Program} {w:World} {K:PySem.W.Frag} {mg:Str→Option Value} {base:Heap}
theorem zgp{f:Addr}{fd:FuncData}(F:Fun K "table_row" "table_row" zam f fd)(T:Txt K mg)(C_places:CanX P w K mg base 7 "places" ["sheet"] (zb8 K))(C_row_text:Can P w K mg base 4 "row_text" ["sheet","place","couple"] (zcL K))(C_Sheet_couples:CanM P w K mg base 1 (zJ K "Sheet") "couples" ["self"] (zO K)):FnOk P w K mg base (CX1 P w) 8 f fd ["sheet","couple"] (zcn K):=by
 obtain⟨c_UnknownCouple,n_UnknownCouple,m_UnknownCouple,x_UnknownCouple⟩:=T.x_UnknownCouple
 refine F.okX zdF (fun vs H Q E h=>?_) (fun X W cdv A outer s H vs Q E hX hW fl md hr h=>?_)
 ·obtain⟨x,F,S,c,rfl,_⟩:=h
  rfl
 ·obtain⟨x,F,S,c,rfl,hSh,qF,qC,q⟩:=h
  subst hX
  refine⟨_,(zd (zy (i:=2) zdF.nd rfl (Or.inl rfl) (ww C_places fl (hr.mono (by decide)) rfl (za (pv 0) zb)))
   (zd (zC (zl zaz (pv 1) (zL C_Sheet_couples T.cl_Sheet (hr.mono (by decide)) (pv 0)) (by first | exact zt _ | rfl)) (zg (y9 rfl md rfl m_UnknownCouple x_UnknownCouple (za zD zb))) zw)
   (zg (zm (zu C_row_text (hr.mono (by decide)) rfl (za (pv 0) (za (yn zM (pv 2) (za1 PySem.F.plainAttrs_list PySem.F.slot_list_index PySem.F.type_list_index zb1 (zL C_Sheet_couples T.cl_Sheet (hr.mono (by decide)) (pv 0)) (za (pv 1) zb)) (fun _ _=>rfl)) (za (pv 1) zb)))))))),?_⟩
  have hln:=zB
  have ok:=hSh.ok
  have c24:=ok.c24
  obtain⟨dx,b1,b2,b3,d,hi⟩:=hSh.ins
  refine⟨_,rfl,x,F,S,rfl,hSh,(fun h C H1 hC s1=>by rw[hW];exact qF h C H1 hC s1),fun h1 l1 H1 s1 f1 e1=>?_⟩
  refine⟨_,rfl,_,rfl,x,dx,_,rfl,s1 _ _ hi,rfl,x,F,S,rfl,hSh.same s1,fun l2 H2 s2 f2 e2=>?_⟩
  have t2:=s1.trans s2
  refine⟨l2,_,rfl,.inl (SqL.of e2),rfl,zG _,_,rfl,?_⟩
  rw[zaA]
  refine wl (fun hc=>?_) (fun hc=>?_)
  ·exact⟨(by show 1≤sizeLine;decide),by rw[hW];exact qC h1 hc _ _ n_UnknownCouple t2⟩
  have hix:=List.idxOf_lt_length_of_mem hc
  refine⟨_,rfl,_,rfl,_,rfl,x,dx,_,rfl,t2 _ _ hi,rfl,x,F,S,rfl,hSh.same t2,fun l3 H3 s3 f3 e3=>?_⟩
  refine⟨.inl ⟨rfl,_,SqL.of e3⟩,_,rfl,l3,_,_,rfl,rfl,SqL.of e3,rfl,zG _,(by rw[zaE,List.length_map];exact hix),?_⟩
  rw[zaE]
  have hat:atI ((M6.wg S.cardsIn S.couples).map V.int) (S.couples.idxOf c:Int)=some (.int (M6.plc S.cardsIn S.couples c)):=by
   have:=zae (zc1 (ns:=M6.wg S.cardsIn S.couples) (i:=S.couples.idxOf c) (by rw[M6.zdn];exact hix))
   rw[M6.zjM hix,M6.getD_idx hc] at this
   exact this
  have hb:(M6.plc S.cardsIn S.couples c).natAbs≤990:=by
   unfold M6.plc M6.ziM
   have:=List.length_filter_le (fun d=>M6.y7 (M5.zE S.cardsIn d) (M5.zE S.cardsIn c) S.couples.length) S.couples
   omega
  have t3:=t2.trans s3
  refine⟨l1,_,_,_,rfl,rfl,SqL.of (s3 _ _ (s2 _ _ e1)),hat,_,rfl,x,F,S,_,c,rfl,hSh.same t3,hc,hb,fun H4 s4=>q h1 hc H4 (t3.trans s4)⟩
end
def zbX(K:PySem.W.Frag):Sp:=fun vs H Q _=>∃(p:Addr) (F:Addr→Prop) (S:Sh) (a4 a2:Addr),vs = [.ref p,.ref a4,.ref a2]∧zA K H p F S∧zdJ K (IL K) H a4 S.rows∧SqL K H a2 (S.couples.map V.int)∧∀H',zj H H'→Q (.bl true) H'
section
variable {P:Program} {w:World} {K:PySem.W.Frag} {mg:Str→Option Value} {base:Heap}
theorem zfD{f:Addr}{fd:FuncData}(F:Fun K "_law_placed" "_law_placed" wj f fd)(T:Txt K mg)(C_places:CanX P w K mg base 7 "places" ["sheet"] (zb8 K))(C_law_same:Can P w K mg base 2 "_law_same" ["_law_found","_law_due_here"] (za0 K))(C_law_spots:Can P w K mg base 2 "_law_spots" ["_law_cards","_law_couples_here"] (zb9 K)):FnOk P w K mg base CX0 8 f fd ["_law_sheet","_law_cards","_law_couples_here"] (zbX K):=by
 refine F.ok zc7 (fun vs H Q E h=>?_) (fun cdv A outer s H vs Q E hr h=>?_)
 ·obtain⟨p,F,S,a4,a2,rfl,_⟩:=h
  rfl
 ·obtain⟨p,F,S,a4,a2,rfl,hSh,⟨ls,hA,rA⟩,hB,q⟩:=h
  refine⟨_,(zd (zaJ (i:=3) (show CompScope (zc wj) ["_law_sheet","_law_cards","_law_couples_here","_law_into"] "_law_row" [] [] _ from⟨rfl,by decide +kernel,by decide +kernel,rfl,by decide +kernel,rfl,by decide +kernel,by decide +kernel⟩) rfl zc7.nd rfl (Or.inl rfl) (zK (pv 1)) (fun _ _ _ _ _=>(zaT (zl (zbN (K:=K) rfl hr.units0) (pv 0) (zP zb) (zt _)))) (fun _ _ _ _ _=>(pv 0)))
   (zg (zm (pe_or (zac (zhw hr.units0) (pv 3) (zP zb) (zt _)) (zdi (zu C_law_same (hr.mono (by decide)) rfl (za (ww C_places zgl (hr.mono (by decide)) rfl (za (pv 0) zb)) (za (zu C_law_spots (hr.mono (by decide)) rfl (za (pv 3) (za (pv 2) zb))) zb)))))))),?_⟩
  have ok:=hSh.ok
  have hln:=zB
  have h15:=ok.p15
  have c24:=ok.c24
  have hrl:=Sh.rows_len S
  have hll:=rA.length
  obtain⟨dx,b1,b2,b3,d,hip⟩:=hSh.ins
  refine⟨_,rfl,a4,rfl,⟨_,hA⟩,?_⟩
  refine zgi hA rA (by omega) (fun m d H' R hm h=>?_) (fun m H' R h=>⟨_,rfl,h⟩) fun ks H1 s1 r1=>?_
  ·refine⟨_,rfl,(by show 0≤sizeLine;decide),fun l13 hl13=>?_⟩
   have s13:=zj.new (o:=.lst []) hl13
   refine⟨m,l13,_,[],rfl,rfl,s13.seq hm,SqL.new,zG _,rfl,_,rfl,?_⟩
   rw[show eqL (d.map V.int) []=decide (d = [])from zby _ []]
   exact h _ s13
  intro l hl
  have t2:=s1.newT (o:=.lst (ks.map V.ref)) hl
  have e2:=ze (H:=H1) (a:=l) (o:=.lst (ks.map V.ref))
  have r2:=r1.imp fun _ _=>IL.stays K _ _ _ _ (zj.new (o:=.lst (ks.map V.ref)) hl)
  generalize hH2:upd H1 l _=H2 at t2 e2 r2 ⊢
  rw[← Sh.cardsIn_rows ok] at r2
  have hkl:=r2.length
  refine⟨_,rfl,(by show 0≤sizeLine;decide),fun l3 hl3=>?_⟩
  have s3:=zj.new (o:=.lst []) hl3
  have t3:=t2.trans s3
  have e3:=s3 _ _ e2
  have r3:=r2.imp fun _ _=>IL.stays K _ _ _ _ s3
  refine⟨l,l3,_,rfl,rfl,SqL.of e3,SqL.new,_,rfl,?_⟩
  generalize hH3:upd H2 l3 _=H3 at s3 t3 e3 r3 ⊢
  rw[List.length_map]
  refine zX (fun h0=>q _ t3) (fun h0=>?_)
  have h1:1≤S.cardsIn.length:=by omega
  have h1':1≤S.handed.length:=by rw[← Sh.cardsIn_len];exact h1
  have hcl:S.cardsIn.length≤15:=by rw[Sh.cardsIn_len];exact Nat.le_trans (List.length_filter_le _ _) ok.p15
  refine⟨_,rfl,p,F,S,rfl,hSh.same t3,(fun z=>absurd z (by omega)),fun _ l4 H4 s4 f4 e4=>?_⟩
  have t4:=t3.trans s4
  refine⟨_,rfl,_,rfl,l,a2,S.cardsIn,S.couples,rfl,⟨ks,SqL.of (s4 _ _ e3),r3.imp fun _ _=>IL.stays K _ _ _ _ s4⟩,t4.seq hB,by omega,by omega,fun u hu d hd=>(Sh.cardsIn_perm ok d hd).mem_iff.mpr hu,fun l5 H5 s5 f5 e5=>?_⟩
  refine⟨l4,l5,_,_,rfl,SqL.of (s5 _ _ e4),SqL.of e5,?_,?_⟩
  ·rw[M6.zdt (Sh.cardsIn_perm ok) h1,M6.zdn];omega
  rw[M6.zdt (Sh.cardsIn_perm ok) h1,decide_eq_true rfl]
  exact q _ (t4.trans s5)
end
def zcH(K:PySem.W.Frag):Sp:=fun vs H Q E=>∃(p:Addr) (F:Addr→Prop) (S:Sh),vs = [.ref p]∧zA K H p F S∧(S.handed.length<2→∀C H',zf K "TooFewCards" C→zj H H'→E (.ref C) none H')∧(2≤S.handed.length→∀(l:Addr) (H':Hp),zj H H'→H l=none→H' l=some (.lst (S.decide.map V.str))→Q (.ref l) H')
section
variable {P:Program} {w:World} {K:PySem.W.Frag} {mg:Str→Option Value} {base:Heap}
theorem zhA{f:Addr}{fd:FuncData}(F:Fun K "deciders" "deciders" zai f fd)(T:Txt K mg)(C_firsts:CanX P w K mg base 8 "firsts" ["sheet"] (zd6 K))(C_refuse_fewer_cards:CanX P w K mg base 2 "refuse_fewer_cards" ["sheet","least"] (zV K))(C_firsts_of:Can P w K mg base 7 "firsts_of" ["cards","couples"] (zbg K))(C_cards_without:Can P w K mg base 3 "cards_without" ["sheet","judge"] (wK K))(C_Sheet_couples:CanM P w K mg base 1 (zJ K "Sheet") "couples" ["self"] (zO K))(C_Sheet_handed:CanM P w K mg base 1 (zJ K "Sheet") "handed" ["self"] (zY K)):FnOk P w K mg base (CX1 P w) 9 f fd ["sheet"] (zcH K):=by
 refine F.okX zee (fun vs H Q E h=>?_) (fun X W cdv A outer s H vs Q E hX hW fl md hr h=>?_)
 ·obtain⟨p,F,S,rfl,_⟩:=h
  rfl
 ·obtain⟨p,F,S,rfl,hSh,qE,q⟩:=h
  subst hX
  refine⟨_,(zd (zU (ww C_refuse_fewer_cards fl (hr.mono (by decide)) rfl (za (pv 0) (za zh zb))))
   (zd (zy (i:=1) zee.nd rfl (Or.inr rfl) (ww C_firsts fl (hr.mono (by decide)) rfl (za (pv 0) zb)))
   (zg (zm (ye (show CompScope (zc zai) ["sheet","now"] "judge" ["sheet","now"] [0,1] _ from⟨rfl,by decide +kernel,by decide +kernel,rfl,by decide +kernel,rfl,by decide +kernel,by decide +kernel⟩) rfl (zK (zL C_Sheet_handed T.cl_Sheet (hr.mono (by decide)) (pv 0))) (fun _ _ _ _ _=>(zaT (zl (zbN (K:=K) rfl hr.units0) (zu C_firsts_of (hr.mono (by decide)) rfl (za (zu C_cards_without (hr.mono (by decide)) rfl (za (pv 1) (za (pv 0) zb))) (za (zL C_Sheet_couples T.cl_Sheet (hr.mono (by decide)) (pv 1)) zb))) (pv 2) (zt _)))) (fun _ _ _ _ _=>(pv 0))))))),?_⟩
  have hln:=zB
  have ok:=hSh.ok
  have h15:S.handed.length≤15:=Nat.le_trans (List.length_filter_le _ _) ok.p15
  have c24:=ok.c24
  obtain⟨dx,b1,b2,b3,d,hip⟩:=hSh.ins
  refine⟨_,rfl,p,F,S,2,rfl,hSh,(fun h C H1 hC s1=>by rw[hW];exact qE (by omega) C H1 hC s1),fun h0 H1 s1=>?_⟩
  have h2:2≤S.handed.length:=by omega
  have q:=q h2
  refine⟨_,rfl,p,F,S,rfl,hSh.same s1,(fun z=>absurd z (by omega)),fun _ l2 H2 s2 f2 e2=>?_⟩
  have t2:=s1.trans s2
  refine⟨_,rfl,p,dx,_,rfl,t2 _ _ hip,rfl,p,F,S,rfl,(hSh.same t2).shape,ok.p15,fun l3 H3 s3 f3 e3=>?_⟩
  have t3:=t2.trans s3
  refine⟨l3,rfl,⟨_,SqL.of e3⟩,?_⟩
  refine wa (xs:=S.handed.map V.str) (fun i ys H4=>zj H3 H4∧ys=((S.handed.take i).filter fun j => !Decidable.decide (zc0 (S.cardsWo j) S.couples=zc0 S.cardsIn S.couples)).map V.str) ⟨zj.refl _,rfl⟩ ?_ (by rw[List.length_map];omega) ?_ ?_
  ·rintro i ys H4 hi ⟨s4,rfl⟩
   refine⟨s4.seq (SqL.of e3),?_⟩
   rw[List.length_map]
   exact Nat.le_trans (List.length_filter_le _ _) (by rw[List.length_take];omega)
  ·rintro i x ys H4 hx ⟨s4,rfl⟩
   obtain⟨hi,rfl⟩:=zbD hx
   have t4:=t3.trans s4
   refine⟨_,rfl,_,rfl,p,F,S,_,rfl,hSh.same t4,fun l5 H5 ks s5 f5 e5 r5=>?_⟩
   have t5:=t4.trans s5
   refine⟨_,rfl,p,dx,_,rfl,t5 _ _ hip,rfl,p,F,S,rfl,hSh.same t5,fun l6 H6 s6 f6 e6=>?_⟩
   have g1:=Sh.cardsWo_ge ok.pnd (S.handed.getD i "")
   have g2:=Sh.cardsWo_le S (S.handed.getD i "")
   refine⟨l5,l6,_,S.couples,rfl,⟨ks,SqL.of (s6 _ _ e5),r5.imp fun _ _=>IL.stays K _ _ _ _ s6⟩,SqL.of e6,ok.nd,Sh.cardsWo_perm ok _,by omega,by omega,ok.c1,by omega,fun l7 H7 s7 f7 e7=>?_⟩
   have u7:=((s4.trans s5).trans s6).trans s7
   refine⟨_,rfl,l7,l2,_,_,rfl,rfl,SqL.of e7,SqL.of ((s3.trans u7) _ _ e2),zG _,zG _,_,rfl,?_⟩
   rw[zby]
   refine wl (fun hne=>?_) (fun he=>?_)
   ·refine⟨_,rfl,u7,?_⟩
    rw[yq hi,List.filter_append,List.filter_cons,if_pos (by rw[decide_eq_false hne];rfl),List.map_append]
    rfl
   ·refine⟨u7,?_⟩
    rw[yq hi,List.filter_append,List.filter_cons,if_neg (by rw[decide_eq_true he];decide),List.filter_nil,List.append_nil]
  ·rintro ys H4 ⟨s4,rfl⟩ l hl
   rw[List.length_map,List.take_length] at *
   have t4:=t3.trans s4
   exact q l _ (t4.newT hl) (t4.free hl) ze
end
def doE(S:Sh)(d:Int)(j:Str)(c:Int)(ns:List Int):Option Str :=
 if d=0 then S.refuse j ns else if d=1 then S.refuseS c else if d=2 then(if S.shut=true then some "SheetSealed" else none)else
 if d=3 then(if j∈S.panel then(match S.card j with | none=>some "NoCard" | some k=>if c∈S.couples then(if k.getD 0 0=c then some "AtTop" else none)else some "UnknownCouple")else some "UnknownJudge")else
 if d=4 then(if j∈S.panel then(match S.card j with | none=>some "NoCard" | some _=>if S.handed.length<2 then some "TooFewCards" else none)else some "UnknownJudge")else
 if d=5 then(if S.handed.length<2 then some "TooFewCards" else none)else if d=6 then(if S.handed.length=0 then some "TooFewCards" else none)else
 (if S.handed.length=0 then some "TooFewCards" else if c∈S.couples then none else some "UnknownCouple")
def doS(S:Sh)(d:Int)(j:Str)(c:Int)(ns:List Int):Sh:=if d=0 then S.hand j ns else if d=1 then S.strike c else if d=2 then S.close else S
def zd8(K:PySem.W.Frag):Sp:=fun vs H Q E=>∃(p:Addr) (F:Addr→Prop) (S:Sh) (d:Int) (j:Str) (c:Int) (a:Addr) (ns:List Int),vs = [.ref p,.int d,.str j,.int c,.ref a]∧zA K H p F S∧SqL K H a (ns.map V.int)∧ns.length<64 ∧
 (∀x,doE S d j c ns=some x→∀C H',zf K x C→zj H H'→E (.ref C) none H')∧(doE S d j c ns=none→∀H' F',zA K H' p F' (doS S d j c ns)→zbG F H F' H'→Q .non H')
section
variable {P:Program} {w:World} {K:PySem.W.Frag} {mg:Str→Option Value} {base:Heap}
theorem zjG{f:Addr}{fd:FuncData}(F:Fun K "_law_do" "_law_do" zb3 f fd)(T:Txt K mg)(C_places:CanX P w K mg base 7 "places" ["sheet"] (zb8 K))(C_left_out:CanX P w K mg base 7 "left_out" ["sheet","judge"] (zcO K))(C_deciders:CanX P w K mg base 9 "deciders" ["sheet"] (zcH K))(C_step_up:CanX P w K mg base 7 "step_up" ["sheet","judge","couple"] (zdl K))(C_table_row:CanX P w K mg base 8 "table_row" ["sheet","couple"] (zcn K))(C_Sheet_hand_in:CanMX P w K mg base 2 (zJ K "Sheet") "hand_in" ["self","judge","card"] (zaK K))(C_Sheet_strike:CanMX P w K mg base 2 (zJ K "Sheet") "strike" ["self","couple"] (za6 K))(C_Sheet_seal:CanMX P w K mg base 2 (zJ K "Sheet") "seal" ["self"] (zbV K)):FnOk P w K mg base (CX1 P w) 10 f fd ["_law_sheet","_law_deed","_law_judge","_law_couple","_law_card_here"] (zd8 K):=by
 refine F.okX zju (fun vs H Q E h=>?_) (fun X W cdv A outer s H vs Q E hX hW fl md hr h=>?_)
 ·obtain⟨p,F,S,d,j,c,a,ns,rfl,_⟩:=h
  rfl
 ·obtain⟨p,F,S,d,j,c,a,ns,rfl,hSh,hA,hz,qE,q⟩:=h
  subst hX
  refine⟨_,(zg (zC (zl zT (pv 1) zh (zt _)) (zg (zU (wX C_Sheet_hand_in T.cl_Sheet fl (hr.mono (by decide)) (pv 0) (za (pv 2) (za (pv 4) zb))))) (zg (zC (zl zT (pv 1) zh (zt _)) (zg (zU (wX C_Sheet_strike T.cl_Sheet fl (hr.mono (by decide)) (pv 0) (za (pv 3) zb)))) (zg (zC (zl zT (pv 1) zh (zt _)) (zg (zU (zcX C_Sheet_seal T.cl_Sheet fl (hr.mono (by decide)) (pv 0)))) (zg (zC (zl zT (pv 1) zh (zt _)) (zg (zU (ww C_step_up fl (hr.mono (by decide)) rfl (za (pv 0) (za (pv 2) (za (pv 3) zb)))))) (zg (zC (zl zT (pv 1) zh (zt _)) (zg (zU (ww C_left_out fl (hr.mono (by decide)) rfl (za (pv 0) (za (pv 2) zb))))) (zg (zC (zl zT (pv 1) zh (zt _)) (zg (zU (ww C_deciders fl (hr.mono (by decide)) rfl (za (pv 0) zb)))) (zg (zC (zl zT (pv 1) zh (zt _)) (zg (zU (ww C_places fl (hr.mono (by decide)) rfl (za (pv 0) zb)))) (zg (zU (ww C_table_row fl (hr.mono (by decide)) rfl (za (pv 0) (za (pv 3) zb))))))))))))))))))),?_⟩
  have ok:=hSh.ok
  obtain⟨dx,b1,b2,b3,dd,hip⟩:=hSh.ins
  have rf:=zj.refl H
  unfold doE at qE q
  unfold doS at q
  refine⟨_,rfl,rfl,_,rfl,zX (fun h0=>?_) (fun h0=>?_)⟩
  ·have h0:d=0:=by injection h0
   simp only[if_pos h0] at qE q
   exact⟨_,rfl,p,dx,_,rfl,hip,rfl,_,rfl,_,rfl,p,F,S,j,a,ns,rfl,hSh,hA,hz,(fun x hx C H' hC s'=>by rw[hW];exact qE x hx C H' hC s'),fun hn H' F'=>q hn H' F'⟩
  have h0:¬d=0:=fun z=>h0 (by rw[z])
  simp only[if_neg h0] at qE q
  refine⟨_,rfl,rfl,_,rfl,zX (fun h1=>?_) (fun h1=>?_)⟩
  ·have h1:d=1:=by injection h1
   simp only[if_pos h1] at qE q
   exact⟨_,rfl,p,dx,_,rfl,hip,rfl,_,rfl,p,F,S,c,rfl,hSh,(fun x hx C hC=>by rw[hW];exact qE x hx C H hC rf),fun hn H' F'=>q hn H' F'⟩
  have h1:¬d=1:=fun z=>h1 (by rw[z])
  simp only[if_neg h1] at qE q
  refine⟨_,rfl,rfl,_,rfl,zX (fun h2=>?_) (fun h2=>?_)⟩
  ·have h2:d=2:=by injection h2
   simp only[if_pos h2] at qE q
   exact⟨_,rfl,p,dx,_,rfl,hip,rfl,p,F,S,rfl,hSh,(fun hx C hC=>by rw[hW];exact qE _ (if_pos hx) C H hC rf),fun hn H' h'=>q (if_neg (by rw[hn];exact Bool.false_ne_true)) H' F h'⟩
  have h2:¬d=2:=fun z=>h2 (by rw[z])
  simp only[if_neg h2] at qE q
  refine⟨_,rfl,rfl,_,rfl,zX (fun h3=>?_) (fun h3=>?_)⟩
  ·have h3:d=3:=by injection h3
   simp only[if_pos h3] at qE q
   refine⟨_,rfl,_,rfl,_,rfl,p,F,S,j,c,rfl,hSh,(fun hn C hC=>?_),(fun hp hn C hC=>?_),(fun hs hn C H' hC s'=>?_),(fun k hk hm ht C H' hC s'=>?_),fun k i hk i0 hi e t l H' s' _ _ _ _=>?_⟩
   ·rw[hW];exact qE _ (if_neg hn) C H hC rf
   ·rw[hW];exact qE "NoCard" (by rw[if_pos hp,hn]) C H hC rf
   ·rw[hW]
    cases e:S.card j with
    | none=>rw[e] at hs;cases hs
    | some k=>exact qE "UnknownCouple" (by rw[if_pos (ok.cd j k e).1,e];exact if_neg hn) C H' hC s'
   ·rw[hW];exact qE "AtTop" (by rw[if_pos (ok.cd j k hk).1,hk];show(if c∈S.couples then _ else _)=_;rw[if_pos hm,if_pos ht]) C H' hC s'
   ·have hp:=(ok.cd j k hk).2
    have hc:c∈S.couples:=hp.mem_iff.mp (by rw[← e];exact wT hi)
    have hne:¬k.getD 0 0=c:=fun z=>by
     have nd:k.Nodup:=hp.nodup_iff.mpr ok.nd
     have e2:k[0]'(by omega)=k[i]:=by
      rw[← e,List.getD_eq_getElem?_getD,List.getD_eq_getElem?_getD,List.getElem?_eq_getElem hi,List.getElem?_eq_getElem (show 0<k.length by omega)] at z
      exact z
     have g1:=nd.idxOf_getElem 0 (by omega)
     have g2:=nd.idxOf_getElem i hi
     rw[e2] at g1
     omega
    exact q (by rw[if_pos (ok.cd j k hk).1,hk];show(if c∈S.couples then _ else _)=_;rw[if_pos hc,if_neg hne]) H' F (hSh.same s') (zbG.same s')
  have h3:¬d=3:=fun z=>h3 (by rw[z])
  simp only[if_neg h3] at qE q
  refine⟨_,rfl,rfl,_,rfl,zX (fun h4=>?_) (fun h4=>?_)⟩
  ·have h4:d=4:=by injection h4
   simp only[if_pos h4] at qE q
   refine⟨_,rfl,_,rfl,p,F,S,j,rfl,hSh,(fun hn C hC=>?_),(fun hp hn C hC=>?_),(fun hj hl C H' hC s'=>?_),fun hj hl l H' s' _ _=>?_⟩
   ·rw[hW];exact qE _ (if_neg hn) C H hC rf
   ·rw[hW];exact qE "NoCard" (by rw[if_pos hp,hn]) C H hC rf
   ·rw[hW]
    have hm:=List.mem_filter.mp hj
    cases e:S.card j with
    | none=>rw[e] at hm;exact absurd hm.2 Bool.false_ne_true
    | some k=>exact qE "TooFewCards" (by rw[if_pos hm.1,e];exact if_pos hl) C H' hC s'
   ·have hm:=List.mem_filter.mp hj
    cases e:S.card j with
    | none=>rw[e] at hm;exact absurd hm.2 Bool.false_ne_true
    | some k=>exact q (by rw[if_pos hm.1,e];exact if_neg (by omega)) H' F (hSh.same s') (zbG.same s')
  have h4:¬d=4:=fun z=>h4 (by rw[z])
  simp only[if_neg h4] at qE q
  refine⟨_,rfl,rfl,_,rfl,zX (fun h5=>?_) (fun h5=>?_)⟩
  ·have h5:d=5:=by injection h5
   simp only[if_pos h5] at qE q
   exact⟨_,rfl,p,F,S,rfl,hSh,(fun hl C H' hC s'=>by rw[hW];exact qE _ (if_pos hl) C H' hC s'),fun hl l H' s' _ _=>q (if_neg (by omega)) H' F (hSh.same s') (zbG.same s')⟩
  have h5:¬d=5:=fun z=>h5 (by rw[z])
  simp only[if_neg h5] at qE q
  refine⟨_,rfl,rfl,_,rfl,zX (fun h6=>?_) (fun h6=>?_)⟩
  ·have h6:d=6:=by injection h6
   simp only[if_pos h6] at qE q
   exact⟨_,rfl,p,F,S,rfl,hSh,(fun hl C H' hC s'=>by rw[hW];exact qE _ (if_pos hl) C H' hC s'),fun hl l H' s' _ _=>q (if_neg (by omega)) H' F (hSh.same s') (zbG.same s')⟩
  have h6:¬d=6:=fun z=>h6 (by rw[z])
  simp only[if_neg h6] at qE q
  refine⟨_,rfl,_,rfl,p,F,S,c,rfl,hSh,(fun hl C H' hC s'=>by rw[hW];exact qE _ (if_pos hl) C H' hC s'),(fun hl hn C H' hC s'=>by rw[hW];exact qE _ (by rw[if_neg (show ¬S.handed.length=0 by omega),if_neg hn]) C H' hC s'),fun hl hc H' s'=>q (by rw[if_neg (show ¬S.handed.length=0 by omega),if_pos hc]) H' F (hSh.same s') (zbG.same s')⟩
end
def zbs(x:Str):Str:=if x= "SheetSealed" then "s" else if x= "UnknownJudge" then "j" else if x= "BadCard" then "b" else if x= "TooManyCards" then "m" else if x= "UnknownCouple" then "c" else if x= "LastCouple" then "l" else if x= "NoCard" then "n" else if x= "TooFewCards" then "f" else if x= "AtTop" then "t" else "?"
def nine:List Str := ["SheetSealed","UnknownJudge","BadCard","TooManyCards","UnknownCouple","LastCouple","NoCard","TooFewCards","AtTop"]
theorem zhD{S:Sh}{d:Int}{j:Str}{c:Int}{ns:List Int}{x:Str}(h:doE S d j c ns=some x):x∈nine:=by
 unfold doE Sh.refuse Sh.refuseS at h
 repeat' split at h
 all_goals first
  | (cases h;done)
  | (injection h with h;subst h;decide)
def zcW(K:PySem.W.Frag):Sp:=fun vs H Q _=>∃(p:Addr) (F:Addr→Prop) (S:Sh) (d:Int) (j:Str) (c:Int) (a:Addr) (ns:List Int),vs = [.ref p,.int d,.str j,.int c,.ref a]∧zA K H p F S∧SqL K H a (ns.map V.int)∧ns.length<64 ∧
 (∀x,doE S d j c ns=some x→∀H',zj H H'→Q (.str (zbs x)) H')∧(doE S d j c ns=none→∀H' F',zA K H' p F' (doS S d j c ns)→zbG F H F' H'→Q (.str "") H')
section
variable {P:Program} {w:World} {K:PySem.W.Frag} {mg:Str→Option Value} {base:Heap}
theorem zhZ{f:Addr}{fd:FuncData}(F:Fun K "_law_done" "_law_done" zaY f fd)(T:Txt K mg)(C_law_do:CanX P w K mg base 10 "_law_do" ["_law_sheet","_law_deed","_law_judge","_law_couple","_law_card_here"] (zd8 K)):FnOk P w K mg base CX0 11 f fd ["_law_sheet","_law_deed","_law_judge","_law_couple","_law_card_here"] (zcW K):=by
 obtain⟨c_PanelError,n_PanelError,m_PanelError,x_PanelError⟩:=T.x_PanelError
 obtain⟨c_SheetSealed,n_SheetSealed,m_SheetSealed,x_SheetSealed⟩:=T.x_SheetSealed
 obtain⟨c_UnknownJudge,n_UnknownJudge,m_UnknownJudge,x_UnknownJudge⟩:=T.x_UnknownJudge
 obtain⟨c_BadCard,n_BadCard,m_BadCard,x_BadCard⟩:=T.x_BadCard
 obtain⟨c_TooManyCards,n_TooManyCards,m_TooManyCards,x_TooManyCards⟩:=T.x_TooManyCards
 obtain⟨c_UnknownCouple,n_UnknownCouple,m_UnknownCouple,x_UnknownCouple⟩:=T.x_UnknownCouple
 obtain⟨c_LastCouple,n_LastCouple,m_LastCouple,x_LastCouple⟩:=T.x_LastCouple
 obtain⟨c_NoCard,n_NoCard,m_NoCard,x_NoCard⟩:=T.x_NoCard
 obtain⟨c_TooFewCards,n_TooFewCards,m_TooFewCards,x_TooFewCards⟩:=T.x_TooFewCards
 obtain⟨c_AtTop,n_AtTop,m_AtTop,x_AtTop⟩:=T.x_AtTop
 refine F.ok yH (fun vs H Q E h=>?_) (fun cdv A outer s H vs Q E hr h=>?_)
 ·obtain⟨p,F,S,d,j,c,a,ns,rfl,_⟩:=h
  rfl
 ·obtain⟨p,F,S,d,j,c,a,ns,rfl,hSh,hA,hz,qE,q⟩:=h
  refine⟨_,(zd (zy (i:=5) yH.nd rfl (Or.inl rfl) zD)
   (zd (ps_try rfl rfl (fun _ _ _ fl=>(zg (zU (ww C_law_do fl (hr.mono (by decide)) rfl (za (pv 0) (za (pv 1) (za (pv 2) (za (pv 3) (za (pv 4) zb))))))))) (ph_as (i:=6) rfl m_PanelError x_PanelError yH.nd rfl rfl (fun _=>(zd (zy (i:=5) yH.nd rfl (Or.inl rfl) (zn yg (zn yO zD (zF yW (by rfl) T.b_int PyProof.Rows.boot_int (za (zo (yf (K:=K) rfl) (by rfl) T.b_isinstance PyProof.Rows.boot_isinstance (za (pv 6) (za (zco rfl m_SheetSealed) zb))) zb))) (zn yO zD (zF yW (by rfl) T.b_int PyProof.Rows.boot_int (za (zo (yf (K:=K) rfl) (by rfl) T.b_isinstance PyProof.Rows.boot_isinstance (za (pv 6) (za (zco rfl m_UnknownJudge) zb))) zb)))))
   (zd (zy (i:=5) yH.nd rfl (Or.inl rfl) (zn yg (zn yg (pv 5) (zn yO zD (zF yW (by rfl) T.b_int PyProof.Rows.boot_int (za (zo (yf (K:=K) rfl) (by rfl) T.b_isinstance PyProof.Rows.boot_isinstance (za (pv 6) (za (zco rfl m_BadCard) zb))) zb)))) (zn yO zD (zF yW (by rfl) T.b_int PyProof.Rows.boot_int (za (zo (yf (K:=K) rfl) (by rfl) T.b_isinstance PyProof.Rows.boot_isinstance (za (pv 6) (za (zco rfl m_TooManyCards) zb))) zb)))))
   (zd (zy (i:=5) yH.nd rfl (Or.inl rfl) (zn yg (zn yg (pv 5) (zn yO zD (zF yW (by rfl) T.b_int PyProof.Rows.boot_int (za (zo (yf (K:=K) rfl) (by rfl) T.b_isinstance PyProof.Rows.boot_isinstance (za (pv 6) (za (zco rfl m_UnknownCouple) zb))) zb)))) (zn yO zD (zF yW (by rfl) T.b_int PyProof.Rows.boot_int (za (zo (yf (K:=K) rfl) (by rfl) T.b_isinstance PyProof.Rows.boot_isinstance (za (pv 6) (za (zco rfl m_LastCouple) zb))) zb)))))
   (zd (zy (i:=5) yH.nd rfl (Or.inl rfl) (zn yg (zn yg (pv 5) (zn yO zD (zF yW (by rfl) T.b_int PyProof.Rows.boot_int (za (zo (yf (K:=K) rfl) (by rfl) T.b_isinstance PyProof.Rows.boot_isinstance (za (pv 6) (za (zco rfl m_NoCard) zb))) zb)))) (zn yO zD (zF yW (by rfl) T.b_int PyProof.Rows.boot_int (za (zo (yf (K:=K) rfl) (by rfl) T.b_isinstance PyProof.Rows.boot_isinstance (za (pv 6) (za (zco rfl m_TooFewCards) zb))) zb)))))
   (zd (zy (i:=5) yH.nd rfl (Or.inl rfl) (zn yg (pv 5) (zn yO zD (zF yW (by rfl) T.b_int PyProof.Rows.boot_int (za (zo (yf (K:=K) rfl) (by rfl) T.b_isinstance PyProof.Rows.boot_isinstance (za (pv 6) (za (zco rfl m_AtTop) zb))) zb)))))
   (zg (zy (i:=5) yH.nd rfl (Or.inl rfl) (zn yg (pv 5) (zn yO zD (zF yW (by rfl) T.b_int PyProof.Rows.boot_int (za (zac zT (pv 5) zD (zt _)) zb)))))))))))) ph_never))
   (zg (zm (pv 5))))),?_⟩
  refine⟨fun σ1 cls H2=>σ1 = [some (.ref p),some (.int d),some (.str j),some (.int c),some (.ref a),some (.str ""),none]∧zj H H2∧∃x C,doE S d j c ns=some x∧zf K x C∧cls=.ref C,?_,?_⟩
  ·exact⟨_,rfl,_,rfl,_,rfl,_,rfl,_,rfl,p,F,S,d,j,c,a,ns,rfl,hSh,hA,hz,fun x hx C H' hC s'=>⟨rfl,s',x,C,hx,hC,rfl⟩,fun hn H' F' h1 h2=>⟨_,rfl,q hn H' F' h1 h2⟩⟩
  ·rintro σ1 cls H2 ⟨rfl,s2,x,C,hx,hC,rfl⟩
   have qx:=qE x hx
   have hx:=zhD hx
   clear qE q
   unfold nine at hx
   simp only[List.mem_cons,List.not_mem_nil,or_false] at hx
   rcases hx with rfl | rfl | rfl | rfl | rfl | rfl | rfl | rfl | rfl
   ·cases zf.inj hC n_SheetSealed
    have i0:=T.i_SheetSealed _ n_SheetSealed
    refine⟨c_SheetSealed,rfl,x_SheetSealed,zgQ (T.s_SheetSealed_PanelError _ _ n_SheetSealed n_PanelError) fun y hy=>?_⟩
    have s3:=s2.newT (o:=wV y (.ref c_SheetSealed)) hy
    have e3:upd H2 y (wV y (.ref c_SheetSealed)) y=some (wV y (.ref c_SheetSealed)):=ze
    generalize hH3:upd H2 y _=H3 at s3 e3 ⊢
    refine⟨_,rfl,y,c_SheetSealed,_,_,_,rfl,rfl,e3,i0,T.k_SheetSealed_SheetSealed _ _ n_SheetSealed n_SheetSealed,.inr ⟨_,rfl,_,_,rfl,rfl,zch _,_,rfl,y,c_SheetSealed,_,_,_,rfl,rfl,e3,i0,T.k_SheetSealed_UnknownJudge _ _ n_SheetSealed n_UnknownJudge,.inr ⟨_,rfl,_,_,rfl,rfl,zv _,_,_,rfl,rfl,(by decide),_,rfl,_,rfl,y,c_SheetSealed,_,_,_,rfl,rfl,e3,i0,T.k_SheetSealed_BadCard _ _ n_SheetSealed n_BadCard,.inr ⟨_,rfl,_,_,rfl,rfl,zv _,_,_,rfl,rfl,(by decide),_,rfl,y,c_SheetSealed,_,_,_,rfl,rfl,e3,i0,T.k_SheetSealed_TooManyCards _ _ n_SheetSealed n_TooManyCards,.inr ⟨_,rfl,_,_,rfl,rfl,zv _,_,_,rfl,rfl,(by decide),_,rfl,_,rfl,y,c_SheetSealed,_,_,_,rfl,rfl,e3,i0,T.k_SheetSealed_UnknownCouple _ _ n_SheetSealed n_UnknownCouple,.inr ⟨_,rfl,_,_,rfl,rfl,zv _,_,_,rfl,rfl,(by decide),_,rfl,y,c_SheetSealed,_,_,_,rfl,rfl,e3,i0,T.k_SheetSealed_LastCouple _ _ n_SheetSealed n_LastCouple,.inr ⟨_,rfl,_,_,rfl,rfl,zv _,_,_,rfl,rfl,(by decide),_,rfl,_,rfl,y,c_SheetSealed,_,_,_,rfl,rfl,e3,i0,T.k_SheetSealed_NoCard _ _ n_SheetSealed n_NoCard,.inr ⟨_,rfl,_,_,rfl,rfl,zv _,_,_,rfl,rfl,(by decide),_,rfl,y,c_SheetSealed,_,_,_,rfl,rfl,e3,i0,T.k_SheetSealed_TooFewCards _ _ n_SheetSealed n_TooFewCards,.inr ⟨_,rfl,_,_,rfl,rfl,zv _,_,_,rfl,rfl,(by decide),_,rfl,_,rfl,y,c_SheetSealed,_,_,_,rfl,rfl,e3,i0,T.k_SheetSealed_AtTop _ _ n_SheetSealed n_AtTop,.inr ⟨_,rfl,_,_,rfl,rfl,zv _,_,_,rfl,rfl,(by decide),_,rfl,_,rfl,rfl,.inr ⟨_,rfl,_,_,rfl,rfl,?_,?_⟩⟩⟩⟩⟩⟩⟩⟩⟩⟩⟩
    ·exact zv _
    ·refine⟨_,_,rfl,rfl,(by decide),_,rfl,?_⟩
     exact qx _ s3
   ·cases zf.inj hC n_UnknownJudge
    have i0:=T.i_UnknownJudge _ n_UnknownJudge
    refine⟨c_UnknownJudge,rfl,x_UnknownJudge,zgQ (T.s_UnknownJudge_PanelError _ _ n_UnknownJudge n_PanelError) fun y hy=>?_⟩
    have s3:=s2.newT (o:=wV y (.ref c_UnknownJudge)) hy
    have e3:upd H2 y (wV y (.ref c_UnknownJudge)) y=some (wV y (.ref c_UnknownJudge)):=ze
    generalize hH3:upd H2 y _=H3 at s3 e3 ⊢
    refine⟨_,rfl,y,c_UnknownJudge,_,_,_,rfl,rfl,e3,i0,T.k_UnknownJudge_SheetSealed _ _ n_UnknownJudge n_SheetSealed,.inr ⟨_,rfl,_,_,rfl,rfl,zv _,_,rfl,y,c_UnknownJudge,_,_,_,rfl,rfl,e3,i0,T.k_UnknownJudge_UnknownJudge _ _ n_UnknownJudge n_UnknownJudge,.inr ⟨_,rfl,_,_,rfl,rfl,zch _,_,_,rfl,rfl,(by decide),_,rfl,_,rfl,y,c_UnknownJudge,_,_,_,rfl,rfl,e3,i0,T.k_UnknownJudge_BadCard _ _ n_UnknownJudge n_BadCard,.inr ⟨_,rfl,_,_,rfl,rfl,zv _,_,_,rfl,rfl,(by decide),_,rfl,y,c_UnknownJudge,_,_,_,rfl,rfl,e3,i0,T.k_UnknownJudge_TooManyCards _ _ n_UnknownJudge n_TooManyCards,.inr ⟨_,rfl,_,_,rfl,rfl,zv _,_,_,rfl,rfl,(by decide),_,rfl,_,rfl,y,c_UnknownJudge,_,_,_,rfl,rfl,e3,i0,T.k_UnknownJudge_UnknownCouple _ _ n_UnknownJudge n_UnknownCouple,.inr ⟨_,rfl,_,_,rfl,rfl,zv _,_,_,rfl,rfl,(by decide),_,rfl,y,c_UnknownJudge,_,_,_,rfl,rfl,e3,i0,T.k_UnknownJudge_LastCouple _ _ n_UnknownJudge n_LastCouple,.inr ⟨_,rfl,_,_,rfl,rfl,zv _,_,_,rfl,rfl,(by decide),_,rfl,_,rfl,y,c_UnknownJudge,_,_,_,rfl,rfl,e3,i0,T.k_UnknownJudge_NoCard _ _ n_UnknownJudge n_NoCard,.inr ⟨_,rfl,_,_,rfl,rfl,zv _,_,_,rfl,rfl,(by decide),_,rfl,y,c_UnknownJudge,_,_,_,rfl,rfl,e3,i0,T.k_UnknownJudge_TooFewCards _ _ n_UnknownJudge n_TooFewCards,.inr ⟨_,rfl,_,_,rfl,rfl,zv _,_,_,rfl,rfl,(by decide),_,rfl,_,rfl,y,c_UnknownJudge,_,_,_,rfl,rfl,e3,i0,T.k_UnknownJudge_AtTop _ _ n_UnknownJudge n_AtTop,.inr ⟨_,rfl,_,_,rfl,rfl,zv _,_,_,rfl,rfl,(by decide),_,rfl,_,rfl,rfl,.inr ⟨_,rfl,_,_,rfl,rfl,?_,?_⟩⟩⟩⟩⟩⟩⟩⟩⟩⟩⟩
    ·exact zv _
    ·refine⟨_,_,rfl,rfl,(by decide),_,rfl,?_⟩
     exact qx _ s3
   ·cases zf.inj hC n_BadCard
    have i0:=T.i_BadCard _ n_BadCard
    refine⟨c_BadCard,rfl,x_BadCard,zgQ (T.s_BadCard_PanelError _ _ n_BadCard n_PanelError) fun y hy=>?_⟩
    have s3:=s2.newT (o:=wV y (.ref c_BadCard)) hy
    have e3:upd H2 y (wV y (.ref c_BadCard)) y=some (wV y (.ref c_BadCard)):=ze
    generalize hH3:upd H2 y _=H3 at s3 e3 ⊢
    refine⟨_,rfl,y,c_BadCard,_,_,_,rfl,rfl,e3,i0,T.k_BadCard_SheetSealed _ _ n_BadCard n_SheetSealed,.inr ⟨_,rfl,_,_,rfl,rfl,zv _,_,rfl,y,c_BadCard,_,_,_,rfl,rfl,e3,i0,T.k_BadCard_UnknownJudge _ _ n_BadCard n_UnknownJudge,.inr ⟨_,rfl,_,_,rfl,rfl,zv _,_,_,rfl,rfl,(by decide),_,rfl,_,rfl,y,c_BadCard,_,_,_,rfl,rfl,e3,i0,T.k_BadCard_BadCard _ _ n_BadCard n_BadCard,.inr ⟨_,rfl,_,_,rfl,rfl,zch _,_,_,rfl,rfl,(by decide),_,rfl,y,c_BadCard,_,_,_,rfl,rfl,e3,i0,T.k_BadCard_TooManyCards _ _ n_BadCard n_TooManyCards,.inr ⟨_,rfl,_,_,rfl,rfl,zv _,_,_,rfl,rfl,(by decide),_,rfl,_,rfl,y,c_BadCard,_,_,_,rfl,rfl,e3,i0,T.k_BadCard_UnknownCouple _ _ n_BadCard n_UnknownCouple,.inr ⟨_,rfl,_,_,rfl,rfl,zv _,_,_,rfl,rfl,(by decide),_,rfl,y,c_BadCard,_,_,_,rfl,rfl,e3,i0,T.k_BadCard_LastCouple _ _ n_BadCard n_LastCouple,.inr ⟨_,rfl,_,_,rfl,rfl,zv _,_,_,rfl,rfl,(by decide),_,rfl,_,rfl,y,c_BadCard,_,_,_,rfl,rfl,e3,i0,T.k_BadCard_NoCard _ _ n_BadCard n_NoCard,.inr ⟨_,rfl,_,_,rfl,rfl,zv _,_,_,rfl,rfl,(by decide),_,rfl,y,c_BadCard,_,_,_,rfl,rfl,e3,i0,T.k_BadCard_TooFewCards _ _ n_BadCard n_TooFewCards,.inr ⟨_,rfl,_,_,rfl,rfl,zv _,_,_,rfl,rfl,(by decide),_,rfl,_,rfl,y,c_BadCard,_,_,_,rfl,rfl,e3,i0,T.k_BadCard_AtTop _ _ n_BadCard n_AtTop,.inr ⟨_,rfl,_,_,rfl,rfl,zv _,_,_,rfl,rfl,(by decide),_,rfl,_,rfl,rfl,.inr ⟨_,rfl,_,_,rfl,rfl,?_,?_⟩⟩⟩⟩⟩⟩⟩⟩⟩⟩⟩
    ·exact zv _
    ·refine⟨_,_,rfl,rfl,(by decide),_,rfl,?_⟩
     exact qx _ s3
   ·cases zf.inj hC n_TooManyCards
    have i0:=T.i_TooManyCards _ n_TooManyCards
    refine⟨c_TooManyCards,rfl,x_TooManyCards,zgQ (T.s_TooManyCards_PanelError _ _ n_TooManyCards n_PanelError) fun y hy=>?_⟩
    have s3:=s2.newT (o:=wV y (.ref c_TooManyCards)) hy
    have e3:upd H2 y (wV y (.ref c_TooManyCards)) y=some (wV y (.ref c_TooManyCards)):=ze
    generalize hH3:upd H2 y _=H3 at s3 e3 ⊢
    refine⟨_,rfl,y,c_TooManyCards,_,_,_,rfl,rfl,e3,i0,T.k_TooManyCards_SheetSealed _ _ n_TooManyCards n_SheetSealed,.inr ⟨_,rfl,_,_,rfl,rfl,zv _,_,rfl,y,c_TooManyCards,_,_,_,rfl,rfl,e3,i0,T.k_TooManyCards_UnknownJudge _ _ n_TooManyCards n_UnknownJudge,.inr ⟨_,rfl,_,_,rfl,rfl,zv _,_,_,rfl,rfl,(by decide),_,rfl,_,rfl,y,c_TooManyCards,_,_,_,rfl,rfl,e3,i0,T.k_TooManyCards_BadCard _ _ n_TooManyCards n_BadCard,.inr ⟨_,rfl,_,_,rfl,rfl,zv _,_,_,rfl,rfl,(by decide),_,rfl,y,c_TooManyCards,_,_,_,rfl,rfl,e3,i0,T.k_TooManyCards_TooManyCards _ _ n_TooManyCards n_TooManyCards,.inr ⟨_,rfl,_,_,rfl,rfl,zch _,_,_,rfl,rfl,(by decide),_,rfl,_,rfl,y,c_TooManyCards,_,_,_,rfl,rfl,e3,i0,T.k_TooManyCards_UnknownCouple _ _ n_TooManyCards n_UnknownCouple,.inr ⟨_,rfl,_,_,rfl,rfl,zv _,_,_,rfl,rfl,(by decide),_,rfl,y,c_TooManyCards,_,_,_,rfl,rfl,e3,i0,T.k_TooManyCards_LastCouple _ _ n_TooManyCards n_LastCouple,.inr ⟨_,rfl,_,_,rfl,rfl,zv _,_,_,rfl,rfl,(by decide),_,rfl,_,rfl,y,c_TooManyCards,_,_,_,rfl,rfl,e3,i0,T.k_TooManyCards_NoCard _ _ n_TooManyCards n_NoCard,.inr ⟨_,rfl,_,_,rfl,rfl,zv _,_,_,rfl,rfl,(by decide),_,rfl,y,c_TooManyCards,_,_,_,rfl,rfl,e3,i0,T.k_TooManyCards_TooFewCards _ _ n_TooManyCards n_TooFewCards,.inr ⟨_,rfl,_,_,rfl,rfl,zv _,_,_,rfl,rfl,(by decide),_,rfl,_,rfl,y,c_TooManyCards,_,_,_,rfl,rfl,e3,i0,T.k_TooManyCards_AtTop _ _ n_TooManyCards n_AtTop,.inr ⟨_,rfl,_,_,rfl,rfl,zv _,_,_,rfl,rfl,(by decide),_,rfl,_,rfl,rfl,.inr ⟨_,rfl,_,_,rfl,rfl,?_,?_⟩⟩⟩⟩⟩⟩⟩⟩⟩⟩⟩
    ·exact zv _
    ·refine⟨_,_,rfl,rfl,(by decide),_,rfl,?_⟩
     exact qx _ s3
   ·cases zf.inj hC n_UnknownCouple
    have i0:=T.i_UnknownCouple _ n_UnknownCouple
    refine⟨c_UnknownCouple,rfl,x_UnknownCouple,zgQ (T.s_UnknownCouple_PanelError _ _ n_UnknownCouple n_PanelError) fun y hy=>?_⟩
    have s3:=s2.newT (o:=wV y (.ref c_UnknownCouple)) hy
    have e3:upd H2 y (wV y (.ref c_UnknownCouple)) y=some (wV y (.ref c_UnknownCouple)):=ze
    generalize hH3:upd H2 y _=H3 at s3 e3 ⊢
    refine⟨_,rfl,y,c_UnknownCouple,_,_,_,rfl,rfl,e3,i0,T.k_UnknownCouple_SheetSealed _ _ n_UnknownCouple n_SheetSealed,.inr ⟨_,rfl,_,_,rfl,rfl,zv _,_,rfl,y,c_UnknownCouple,_,_,_,rfl,rfl,e3,i0,T.k_UnknownCouple_UnknownJudge _ _ n_UnknownCouple n_UnknownJudge,.inr ⟨_,rfl,_,_,rfl,rfl,zv _,_,_,rfl,rfl,(by decide),_,rfl,_,rfl,y,c_UnknownCouple,_,_,_,rfl,rfl,e3,i0,T.k_UnknownCouple_BadCard _ _ n_UnknownCouple n_BadCard,.inr ⟨_,rfl,_,_,rfl,rfl,zv _,_,_,rfl,rfl,(by decide),_,rfl,y,c_UnknownCouple,_,_,_,rfl,rfl,e3,i0,T.k_UnknownCouple_TooManyCards _ _ n_UnknownCouple n_TooManyCards,.inr ⟨_,rfl,_,_,rfl,rfl,zv _,_,_,rfl,rfl,(by decide),_,rfl,_,rfl,y,c_UnknownCouple,_,_,_,rfl,rfl,e3,i0,T.k_UnknownCouple_UnknownCouple _ _ n_UnknownCouple n_UnknownCouple,.inr ⟨_,rfl,_,_,rfl,rfl,zch _,_,_,rfl,rfl,(by decide),_,rfl,y,c_UnknownCouple,_,_,_,rfl,rfl,e3,i0,T.k_UnknownCouple_LastCouple _ _ n_UnknownCouple n_LastCouple,.inr ⟨_,rfl,_,_,rfl,rfl,zv _,_,_,rfl,rfl,(by decide),_,rfl,_,rfl,y,c_UnknownCouple,_,_,_,rfl,rfl,e3,i0,T.k_UnknownCouple_NoCard _ _ n_UnknownCouple n_NoCard,.inr ⟨_,rfl,_,_,rfl,rfl,zv _,_,_,rfl,rfl,(by decide),_,rfl,y,c_UnknownCouple,_,_,_,rfl,rfl,e3,i0,T.k_UnknownCouple_TooFewCards _ _ n_UnknownCouple n_TooFewCards,.inr ⟨_,rfl,_,_,rfl,rfl,zv _,_,_,rfl,rfl,(by decide),_,rfl,_,rfl,y,c_UnknownCouple,_,_,_,rfl,rfl,e3,i0,T.k_UnknownCouple_AtTop _ _ n_UnknownCouple n_AtTop,.inr ⟨_,rfl,_,_,rfl,rfl,zv _,_,_,rfl,rfl,(by decide),_,rfl,_,rfl,rfl,.inr ⟨_,rfl,_,_,rfl,rfl,?_,?_⟩⟩⟩⟩⟩⟩⟩⟩⟩⟩⟩
    ·exact zv _
    ·refine⟨_,_,rfl,rfl,(by decide),_,rfl,?_⟩
     exact qx _ s3
   ·cases zf.inj hC n_LastCouple
    have i0:=T.i_LastCouple _ n_LastCouple
    refine⟨c_LastCouple,rfl,x_LastCouple,zgQ (T.s_LastCouple_PanelError _ _ n_LastCouple n_PanelError) fun y hy=>?_⟩
    have s3:=s2.newT (o:=wV y (.ref c_LastCouple)) hy
    have e3:upd H2 y (wV y (.ref c_LastCouple)) y=some (wV y (.ref c_LastCouple)):=ze
    generalize hH3:upd H2 y _=H3 at s3 e3 ⊢
    refine⟨_,rfl,y,c_LastCouple,_,_,_,rfl,rfl,e3,i0,T.k_LastCouple_SheetSealed _ _ n_LastCouple n_SheetSealed,.inr ⟨_,rfl,_,_,rfl,rfl,zv _,_,rfl,y,c_LastCouple,_,_,_,rfl,rfl,e3,i0,T.k_LastCouple_UnknownJudge _ _ n_LastCouple n_UnknownJudge,.inr ⟨_,rfl,_,_,rfl,rfl,zv _,_,_,rfl,rfl,(by decide),_,rfl,_,rfl,y,c_LastCouple,_,_,_,rfl,rfl,e3,i0,T.k_LastCouple_BadCard _ _ n_LastCouple n_BadCard,.inr ⟨_,rfl,_,_,rfl,rfl,zv _,_,_,rfl,rfl,(by decide),_,rfl,y,c_LastCouple,_,_,_,rfl,rfl,e3,i0,T.k_LastCouple_TooManyCards _ _ n_LastCouple n_TooManyCards,.inr ⟨_,rfl,_,_,rfl,rfl,zv _,_,_,rfl,rfl,(by decide),_,rfl,_,rfl,y,c_LastCouple,_,_,_,rfl,rfl,e3,i0,T.k_LastCouple_UnknownCouple _ _ n_LastCouple n_UnknownCouple,.inr ⟨_,rfl,_,_,rfl,rfl,zv _,_,_,rfl,rfl,(by decide),_,rfl,y,c_LastCouple,_,_,_,rfl,rfl,e3,i0,T.k_LastCouple_LastCouple _ _ n_LastCouple n_LastCouple,.inr ⟨_,rfl,_,_,rfl,rfl,zch _,_,_,rfl,rfl,(by decide),_,rfl,_,rfl,y,c_LastCouple,_,_,_,rfl,rfl,e3,i0,T.k_LastCouple_NoCard _ _ n_LastCouple n_NoCard,.inr ⟨_,rfl,_,_,rfl,rfl,zv _,_,_,rfl,rfl,(by decide),_,rfl,y,c_LastCouple,_,_,_,rfl,rfl,e3,i0,T.k_LastCouple_TooFewCards _ _ n_LastCouple n_TooFewCards,.inr ⟨_,rfl,_,_,rfl,rfl,zv _,_,_,rfl,rfl,(by decide),_,rfl,_,rfl,y,c_LastCouple,_,_,_,rfl,rfl,e3,i0,T.k_LastCouple_AtTop _ _ n_LastCouple n_AtTop,.inr ⟨_,rfl,_,_,rfl,rfl,zv _,_,_,rfl,rfl,(by decide),_,rfl,_,rfl,rfl,.inr ⟨_,rfl,_,_,rfl,rfl,?_,?_⟩⟩⟩⟩⟩⟩⟩⟩⟩⟩⟩
    ·exact zv _
    ·refine⟨_,_,rfl,rfl,(by decide),_,rfl,?_⟩
     exact qx _ s3
   ·cases zf.inj hC n_NoCard
    have i0:=T.i_NoCard _ n_NoCard
    refine⟨c_NoCard,rfl,x_NoCard,zgQ (T.s_NoCard_PanelError _ _ n_NoCard n_PanelError) fun y hy=>?_⟩
    have s3:=s2.newT (o:=wV y (.ref c_NoCard)) hy
    have e3:upd H2 y (wV y (.ref c_NoCard)) y=some (wV y (.ref c_NoCard)):=ze
    generalize hH3:upd H2 y _=H3 at s3 e3 ⊢
    refine⟨_,rfl,y,c_NoCard,_,_,_,rfl,rfl,e3,i0,T.k_NoCard_SheetSealed _ _ n_NoCard n_SheetSealed,.inr ⟨_,rfl,_,_,rfl,rfl,zv _,_,rfl,y,c_NoCard,_,_,_,rfl,rfl,e3,i0,T.k_NoCard_UnknownJudge _ _ n_NoCard n_UnknownJudge,.inr ⟨_,rfl,_,_,rfl,rfl,zv _,_,_,rfl,rfl,(by decide),_,rfl,_,rfl,y,c_NoCard,_,_,_,rfl,rfl,e3,i0,T.k_NoCard_BadCard _ _ n_NoCard n_BadCard,.inr ⟨_,rfl,_,_,rfl,rfl,zv _,_,_,rfl,rfl,(by decide),_,rfl,y,c_NoCard,_,_,_,rfl,rfl,e3,i0,T.k_NoCard_TooManyCards _ _ n_NoCard n_TooManyCards,.inr ⟨_,rfl,_,_,rfl,rfl,zv _,_,_,rfl,rfl,(by decide),_,rfl,_,rfl,y,c_NoCard,_,_,_,rfl,rfl,e3,i0,T.k_NoCard_UnknownCouple _ _ n_NoCard n_UnknownCouple,.inr ⟨_,rfl,_,_,rfl,rfl,zv _,_,_,rfl,rfl,(by decide),_,rfl,y,c_NoCard,_,_,_,rfl,rfl,e3,i0,T.k_NoCard_LastCouple _ _ n_NoCard n_LastCouple,.inr ⟨_,rfl,_,_,rfl,rfl,zv _,_,_,rfl,rfl,(by decide),_,rfl,_,rfl,y,c_NoCard,_,_,_,rfl,rfl,e3,i0,T.k_NoCard_NoCard _ _ n_NoCard n_NoCard,.inr ⟨_,rfl,_,_,rfl,rfl,zch _,_,_,rfl,rfl,(by decide),_,rfl,y,c_NoCard,_,_,_,rfl,rfl,e3,i0,T.k_NoCard_TooFewCards _ _ n_NoCard n_TooFewCards,.inr ⟨_,rfl,_,_,rfl,rfl,zv _,_,_,rfl,rfl,(by decide),_,rfl,_,rfl,y,c_NoCard,_,_,_,rfl,rfl,e3,i0,T.k_NoCard_AtTop _ _ n_NoCard n_AtTop,.inr ⟨_,rfl,_,_,rfl,rfl,zv _,_,_,rfl,rfl,(by decide),_,rfl,_,rfl,rfl,.inr ⟨_,rfl,_,_,rfl,rfl,?_,?_⟩⟩⟩⟩⟩⟩⟩⟩⟩⟩⟩
    ·exact zv _
    ·refine⟨_,_,rfl,rfl,(by decide),_,rfl,?_⟩
     exact qx _ s3
   ·cases zf.inj hC n_TooFewCards
    have i0:=T.i_TooFewCards _ n_TooFewCards
    refine⟨c_TooFewCards,rfl,x_TooFewCards,zgQ (T.s_TooFewCards_PanelError _ _ n_TooFewCards n_PanelError) fun y hy=>?_⟩
    have s3:=s2.newT (o:=wV y (.ref c_TooFewCards)) hy
    have e3:upd H2 y (wV y (.ref c_TooFewCards)) y=some (wV y (.ref c_TooFewCards)):=ze
    generalize hH3:upd H2 y _=H3 at s3 e3 ⊢
    refine⟨_,rfl,y,c_TooFewCards,_,_,_,rfl,rfl,e3,i0,T.k_TooFewCards_SheetSealed _ _ n_TooFewCards n_SheetSealed,.inr ⟨_,rfl,_,_,rfl,rfl,zv _,_,rfl,y,c_TooFewCards,_,_,_,rfl,rfl,e3,i0,T.k_TooFewCards_UnknownJudge _ _ n_TooFewCards n_UnknownJudge,.inr ⟨_,rfl,_,_,rfl,rfl,zv _,_,_,rfl,rfl,(by decide),_,rfl,_,rfl,y,c_TooFewCards,_,_,_,rfl,rfl,e3,i0,T.k_TooFewCards_BadCard _ _ n_TooFewCards n_BadCard,.inr ⟨_,rfl,_,_,rfl,rfl,zv _,_,_,rfl,rfl,(by decide),_,rfl,y,c_TooFewCards,_,_,_,rfl,rfl,e3,i0,T.k_TooFewCards_TooManyCards _ _ n_TooFewCards n_TooManyCards,.inr ⟨_,rfl,_,_,rfl,rfl,zv _,_,_,rfl,rfl,(by decide),_,rfl,_,rfl,y,c_TooFewCards,_,_,_,rfl,rfl,e3,i0,T.k_TooFewCards_UnknownCouple _ _ n_TooFewCards n_UnknownCouple,.inr ⟨_,rfl,_,_,rfl,rfl,zv _,_,_,rfl,rfl,(by decide),_,rfl,y,c_TooFewCards,_,_,_,rfl,rfl,e3,i0,T.k_TooFewCards_LastCouple _ _ n_TooFewCards n_LastCouple,.inr ⟨_,rfl,_,_,rfl,rfl,zv _,_,_,rfl,rfl,(by decide),_,rfl,_,rfl,y,c_TooFewCards,_,_,_,rfl,rfl,e3,i0,T.k_TooFewCards_NoCard _ _ n_TooFewCards n_NoCard,.inr ⟨_,rfl,_,_,rfl,rfl,zv _,_,_,rfl,rfl,(by decide),_,rfl,y,c_TooFewCards,_,_,_,rfl,rfl,e3,i0,T.k_TooFewCards_TooFewCards _ _ n_TooFewCards n_TooFewCards,.inr ⟨_,rfl,_,_,rfl,rfl,zch _,_,_,rfl,rfl,(by decide),_,rfl,_,rfl,y,c_TooFewCards,_,_,_,rfl,rfl,e3,i0,T.k_TooFewCards_AtTop _ _ n_TooFewCards n_AtTop,.inr ⟨_,rfl,_,_,rfl,rfl,zv _,_,_,rfl,rfl,(by decide),_,rfl,_,rfl,rfl,.inr ⟨_,rfl,_,_,rfl,rfl,?_,?_⟩⟩⟩⟩⟩⟩⟩⟩⟩⟩⟩
    ·exact zv _
    ·refine⟨_,_,rfl,rfl,(by decide),_,rfl,?_⟩
     exact qx _ s3
   ·cases zf.inj hC n_AtTop
    have i0:=T.i_AtTop _ n_AtTop
    refine⟨c_AtTop,rfl,x_AtTop,zgQ (T.s_AtTop_PanelError _ _ n_AtTop n_PanelError) fun y hy=>?_⟩
    have s3:=s2.newT (o:=wV y (.ref c_AtTop)) hy
    have e3:upd H2 y (wV y (.ref c_AtTop)) y=some (wV y (.ref c_AtTop)):=ze
    generalize hH3:upd H2 y _=H3 at s3 e3 ⊢
    refine⟨_,rfl,y,c_AtTop,_,_,_,rfl,rfl,e3,i0,T.k_AtTop_SheetSealed _ _ n_AtTop n_SheetSealed,.inr ⟨_,rfl,_,_,rfl,rfl,zv _,_,rfl,y,c_AtTop,_,_,_,rfl,rfl,e3,i0,T.k_AtTop_UnknownJudge _ _ n_AtTop n_UnknownJudge,.inr ⟨_,rfl,_,_,rfl,rfl,zv _,_,_,rfl,rfl,(by decide),_,rfl,_,rfl,y,c_AtTop,_,_,_,rfl,rfl,e3,i0,T.k_AtTop_BadCard _ _ n_AtTop n_BadCard,.inr ⟨_,rfl,_,_,rfl,rfl,zv _,_,_,rfl,rfl,(by decide),_,rfl,y,c_AtTop,_,_,_,rfl,rfl,e3,i0,T.k_AtTop_TooManyCards _ _ n_AtTop n_TooManyCards,.inr ⟨_,rfl,_,_,rfl,rfl,zv _,_,_,rfl,rfl,(by decide),_,rfl,_,rfl,y,c_AtTop,_,_,_,rfl,rfl,e3,i0,T.k_AtTop_UnknownCouple _ _ n_AtTop n_UnknownCouple,.inr ⟨_,rfl,_,_,rfl,rfl,zv _,_,_,rfl,rfl,(by decide),_,rfl,y,c_AtTop,_,_,_,rfl,rfl,e3,i0,T.k_AtTop_LastCouple _ _ n_AtTop n_LastCouple,.inr ⟨_,rfl,_,_,rfl,rfl,zv _,_,_,rfl,rfl,(by decide),_,rfl,_,rfl,y,c_AtTop,_,_,_,rfl,rfl,e3,i0,T.k_AtTop_NoCard _ _ n_AtTop n_NoCard,.inr ⟨_,rfl,_,_,rfl,rfl,zv _,_,_,rfl,rfl,(by decide),_,rfl,y,c_AtTop,_,_,_,rfl,rfl,e3,i0,T.k_AtTop_TooFewCards _ _ n_AtTop n_TooFewCards,.inr ⟨_,rfl,_,_,rfl,rfl,zv _,_,_,rfl,rfl,(by decide),_,rfl,_,rfl,y,c_AtTop,_,_,_,rfl,rfl,e3,i0,T.k_AtTop_AtTop _ _ n_AtTop n_AtTop,.inr ⟨_,rfl,_,_,rfl,rfl,zch _,_,_,rfl,rfl,(by decide),_,rfl,_,rfl,rfl,.inr ⟨_,rfl,_,_,rfl,rfl,?_,?_⟩⟩⟩⟩⟩⟩⟩⟩⟩⟩⟩
    ·exact zv _
    ·refine⟨_,_,rfl,rfl,(by decide),_,rfl,?_⟩
     exact qx _ s3
end
def zgx(K:PySem.W.Frag):Sp:=fun vs H Q _=>∃(a:Addr) (ns:List Int),vs = [.ref a]∧SqL K H a (ns.map V.int)∧ns.length≤63∧∀H',Q (.bl true) H'
def wW(o:Option Str):Str:=match o with | none=> "" | some x=>zbs x
theorem zfc:zbs "SheetSealed" = "s" := by decide
theorem ze3:zbs "UnknownJudge" = "j" := by decide
theorem letter_b:zbs "BadCard" = "b" := by decide
theorem ze9:zbs "UnknownCouple" = "c" := by decide
theorem letter_l:zbs "LastCouple" = "l" := by decide
theorem zhK:zbs "NoCard" = "n" := by decide
theorem zdD:zbs "TooFewCards" = "f" := by decide
theorem letter_t:zbs "AtTop" = "t" := by decide
theorem due46{T:Sh}(ok:T.Ok){d c:Int}{j:Str}{ms:List Int}(hd:d∈([0,1,2,3,4,5,6,7]:List Int))(ht:T.taken<200){o:Option (List Int)}(ho:o=if j∈T.panel then some ((T.card j).getD [])else none):zdg d T.shut o T.handed.length T.couples c ms=wW (doE T d j c ms):=by
 have hfull:∀k,T.card j=some k→k ≠ []:=fun k e=>ok.full e
 have hn:¬200≤T.taken:=by omega
 subst ho
 simp only[List.mem_cons,List.not_mem_nil,or_false] at hd
 rcases hd with rfl | rfl | rfl | rfl | rfl | rfl | rfl | rfl
 ·by_cases h1:T.shut=true <;> by_cases h2:j∈T.panel <;> by_cases h3:ms.Perm T.couples <;> simp[zdg,doE,Sh.refuse,wW,zfc,ze3,letter_b,h1,h2,h3,hn]
 ·by_cases h1:T.shut=true <;> by_cases h2:c∈T.couples <;> by_cases h3:T.couples.length=1 <;> simp[zdg,doE,Sh.refuseS,wW,zfc,ze9,letter_l,h1,h2,h3]
 ·by_cases h1:T.shut=true <;> simp[zdg,doE,wW,zfc,h1]
 ·by_cases h2:j∈T.panel
  ·cases e:T.card j with
   | none=>simp[zdg,doE,wW,zhK,h2,e]
   | some k =>
     have:=hfull k e
     by_cases h3:c∈T.couples <;> by_cases h4:k.getD 0 0=c <;> simp[zdg,doE,wW,ze9,letter_t,h2,e,h3,this,h4,-List.getD_eq_getElem?_getD]
  ·simp[zdg,doE,wW,ze3,h2]
 ·by_cases h2:j∈T.panel
  ·cases e:T.card j with
   | none=>simp[zdg,doE,wW,zhK,h2,e]
   | some k =>
     have:=hfull k e
     by_cases h3:T.handed.length<2 <;> simp[zdg,doE,wW,zdD,h2,e,h3,this]
  ·simp[zdg,doE,wW,ze3,h2]
 ·by_cases h3:T.handed.length<2 <;> simp[zdg,doE,wW,zdD,h3]
 ·by_cases h3:T.handed.length=0 <;> simp[zdg,doE,wW,zdD,h3]
 ·by_cases h3:T.handed.length=0 <;> by_cases h2:c∈T.couples <;> simp[zdg,doE,wW,zdD,ze9,h3,h2]
theorem zhX{S:Sh}{d c:Int}{j:Str}{ms:List Int}:wW (doE S d j c ms)= "" ↔ doE S d j c ms=none:=by
 refine⟨fun h=>?_,fun h=>by rw[h];rfl⟩
 cases e:doE S d j c ms with
 | none=>rfl
 | some x =>
   rw[e] at h
   have hx:=zhD e
   have:∀y∈nine,zbs y ≠ "" := by decide
   exact absurd h (this x hx)
theorem strs_ne{ts:List Str}{c:List Int}(h:ts ≠ []):(HO.lst (ts.map V.str)) ≠ .lst (c.map V.int):=fun z=>by
 injection z with z
 cases ts with
 | nil=>exact h rfl
 | cons l ts=>cases c with
   | nil=>cases z
   | cons x c=>simp at z
theorem zgA{ts:List Str}{ls:List Addr}(h:ts ≠ []):(HO.lst (ts.map V.str)) ≠ .lst (ls.map V.ref):=fun z=>by
 injection z with z
 cases ts with
 | nil=>exact h rfl
 | cons l ts=>cases ls with
   | nil=>cases z
   | cons x c=>simp at z
theorem cut_any(ns:List Int)(lo hi:Option Int):∃zs:List Int,zeu (ns.map V.int) lo hi=zs.map V.int∧zs.length≤ns.length:=by
 unfold zeu
 rw[← List.map_drop,← List.map_take]
 exact⟨_,rfl,by rw[List.length_take,List.length_drop];omega⟩
structure At46 (K:PySem.W.Frag) (l2 l9 lg x:Addr) (ts:List Str) (zs:List Int) (F:Addr→Prop) (S:Sh) (us gs:List Int) (cs:List (List Int)) (lu lc:Addr) (ls:List Addr) (H:Hp):Prop where
 sh:zA K H x F S
 pn:S.panel=ts
 cu:H lu=some (.lst (us.map V.int))∧¬F lu∧lu≠lg
 nm:H l2=some (.lst (ts.map V.str))∧¬F l2
 gn:H lg=some (.lst (gs.map V.int))∧¬F lg
 zz:H l9=some (.lst (zs.map V.int))∧¬F l9∧l9≠lg
 rw:Rows F H lc ls cs
 rg:∀l∈ls,l≠lg
theorem At46.same{K:PySem.W.Frag}{l2 l9 lg x:Addr}{ts:List Str}{zs:List Int}{F:Addr→Prop}{S:Sh}{us gs:List Int}{cs:List (List Int)}{lu lc:Addr}{ls:List Addr}{H H':Hp}(h:At46 K l2 l9 lg x ts zs F S us gs cs lu lc ls H)(s:zj H H'):At46 K l2 l9 lg x ts zs F S us gs cs lu lc ls H' :=
 ⟨h.sh.same s,h.pn,⟨s _ _ h.cu.1,h.cu.2⟩,⟨s _ _ h.nm.1,h.nm.2⟩,⟨s _ _ h.gn.1,h.gn.2⟩,⟨s _ _ h.zz.1,h.zz.2⟩,h.rw.same s,h.rg⟩
theorem At46.deed{K:PySem.W.Frag}{l2 l9 lg x:Addr}{ts:List Str}{zs:List Int}{F F':Addr→Prop}{S S':Sh}{us gs:List Int}{cs:List (List Int)}{lu lc:Addr}{ls:List Addr}{H H':Hp}(h:At46 K l2 l9 lg x ts zs F S us gs cs lu lc ls H)(d:zbG F H F' H')(h':zA K H' x F' S')(e:S'.panel=S.panel):At46 K l2 l9 lg x ts zs F' S' us gs cs lu lc ls H' :=
 ⟨h',e.trans h.pn,⟨(d _ _ h.cu.1 h.cu.2.1).1,(d _ _ h.cu.1 h.cu.2.1).2,h.cu.2.2⟩,d _ _ h.nm.1 h.nm.2,d _ _ h.gn.1 h.gn.2,⟨(d _ _ h.zz.1 h.zz.2.1).1,(d _ _ h.zz.1 h.zz.2.1).2,h.zz.2.2⟩,h.rw.deed d,h.rg⟩
theorem At46.put{K:PySem.W.Frag}{l2 l9 lg x:Addr}{ts:List Str}{zs:List Int}{F:Addr→Prop}{S:Sh}{us gs:List Int}{cs:List (List Int)}{lu lc:Addr}{ls:List Addr}{H:Hp}(h:At46 K l2 l9 lg x ts zs F S us gs cs lu lc ls H)(htne:ts ≠ [])(hls:ls ≠ []){lk:Addr}{ms:List Int}(hk:H lk=some (.lst (ms.map V.int)))(nk:¬F lk)(kg:lk≠lg)(k:Nat):At46 K l2 l9 lg x ts zs F S us gs (cs.set k ms) lu lc (ls.set k lk) (upd H lc (.lst ((ls.map V.ref).set k (.ref lk)))):=by
 have r:=h.rw
 refine⟨h.sh.put r.2.1,h.pn,⟨?_,h.cu.2⟩,⟨?_,h.nm.2⟩,⟨?_,h.gn.2⟩,⟨?_,h.zz.2⟩,r.set hls hk nk k,fun l hl=>?_⟩
 ·rw[zi (yr h.cu.1 r.1 (zcY hls))];exact h.cu.1
 ·rw[zi (yr h.nm.1 r.1 (zgA htne))];exact h.nm.1
 ·rw[zi (yr h.gn.1 r.1 (zcY hls))];exact h.gn.1
 ·rw[zi (yr h.zz.1 r.1 (zcY hls))];exact h.zz.1
 ·rcases List.mem_or_eq_of_mem_set hl with hl | rfl
  ·exact h.rg l hl
  ·exact kg
theorem At46.app{K:PySem.W.Frag}{l2 l9 lg x:Addr}{ts:List Str}{zs:List Int}{F:Addr→Prop}{S:Sh}{us gs:List Int}{cs:List (List Int)}{lu lc:Addr}{ls:List Addr}{H:Hp}(h:At46 K l2 l9 lg x ts zs F S us gs cs lu lc ls H)(htne:ts ≠ [])(hls:ls ≠ [])(c:Int):At46 K l2 l9 lg x ts zs F S us (gs ++ [c]) cs lu lc ls (upd H lg (.lst (gs.map V.int ++ [V.int c]))):=by
 have r:=h.rw
 refine⟨h.sh.put h.gn.2,h.pn,⟨?_,h.cu.2⟩,⟨?_,h.nm.2⟩,⟨zgU _ _,h.gn.2⟩,⟨?_,h.zz.2⟩,r.put ⟨(yr h.gn.1 r.1 (zcY hls)).symm,h.rg⟩,h.rg⟩
 ·rw[zi h.cu.2.2];exact h.cu.1
 ·rw[zi (yr h.nm.1 h.gn.1 (strs_ne htne))];exact h.nm.1
 ·rw[zi h.zz.2.2];exact h.zz.1
theorem share46{P:Hp→(Addr→Prop)→Sh→Prop}{B:Hp→Prop}{G:Prop}(hG:(∀H' F' T',P H' F' T'→B H')→G)(hB:∀H' F' T',P H' F' T'→B H'):G:=hG hB
theorem zjq(S:Sh)(d c:Int)(j:Str)(ms:List Int):(doS S d j c ms).panel=S.panel:=by
 unfold doS
 split
 ·rfl
 split
 ·rfl
 split
 ·rfl
 rfl
section
variable {P:Program} {w:World} {K:PySem.W.Frag} {mg:Str→Option Value} {base:Heap}
theorem ok_law{f:Addr}{fd:FuncData}(F:Fun K "law" "law" zcw f fd)(T:Txt K mg)(C_law_at:Can P w K mg base 1 "_law_at" ["_law_script","_law_k"] (zdY K))(C_law_many:Can P w K mg base 1 "_law_many" ["_law_mode","_law_cell","_law_least","_law_few","_law_most"] (zcP K))(C_law_couples:Can P w K mg base 1 "_law_couples" ["_law_cell","_law_many_here"] (zbF K))(C_law_names:Can P w K mg base 2 "_law_names" ["_law_cell","_law_many_here"] (zcd K))(C_law_dealt:Can P w K mg base 3 "_law_dealt" ["_law_cell","_law_used","_law_couples_here","_law_style"] (zcg K))(C_law_stands:Can P w K mg base 4 "_law_stands" ["_law_sheet","_law_names_here","_law_couples_here","_law_gone","_law_cards","_law_many_here","_law_shut"] (zbY K))(C_law_spoiled:Can P w K mg base 1 "_law_spoiled" ["_law_card_here","_law_cell"] (zbw K))(C_law_stranger:Can P w K mg base 1 "_law_stranger" ["_law_name","_law_cell"] (zbe K))(C_law_without:Can P w K mg base 1 "_law_without" ["_law_card_here","_law_couple"] (zbH K))(C_law_done:Can P w K mg base 11 "_law_done" ["_law_sheet","_law_deed","_law_judge","_law_couple","_law_card_here"] (zcW K))(C_law_due:Can P w K mg base 2 "_law_due" ["_law_deed","_law_shut","_law_held","_law_into","_law_couples_here","_law_couple","_law_card_here"] (zdc K))(C_law_stray:Can P w K mg base 1 "_law_stray" ["_law_couples_here","_law_gone","_law_cell"] (zct K))(C_law_placed:Can P w K mg base 8 "_law_placed" ["_law_sheet","_law_cards","_law_couples_here"] (zbX K))(C_Sheet_init:CanK P w K mg base 4 "Sheet" (zJ K "Sheet") ["self","couples","judges"] (zbT K)):FnOk P w K mg base CX0 12 f fd ["_law_script"] (zgx K):=by
 refine F.ok yt (fun vs H Q E h=>?_) (fun cdv A outer s H vs Q E hr h=>?_)
 ·obtain⟨a,ns,rfl,_⟩:=h
  rfl
 ·obtain⟨a,ns,rfl,hS,hz,q⟩:=h
  refine⟨_,(zd (zy (i:=1) yt.nd rfl (Or.inl rfl) (zn zZ (zu C_law_at (hr.mono (by decide)) rfl (za (pv 0) (za zh zb))) zh))
   (zd (zy (i:=2) yt.nd rfl (Or.inl rfl) (zu C_law_couples (hr.mono (by decide)) rfl (za (zu C_law_at (hr.mono (by decide)) rfl (za (pv 0) (za zh zb))) (za (zu C_law_many (hr.mono (by decide)) rfl (za (pv 1) (za (zu C_law_at (hr.mono (by decide)) rfl (za (pv 0) (za zh zb))) (za zh (za zh (za zh zb)))))) zb))))
   (zd (zy (i:=3) yt.nd rfl (Or.inl rfl) (zu C_law_names (hr.mono (by decide)) rfl (za (zu C_law_at (hr.mono (by decide)) rfl (za (pv 0) (za zh zb))) (za (zu C_law_many (hr.mono (by decide)) rfl (za (pv 1) (za (zu C_law_at (hr.mono (by decide)) rfl (za (pv 0) (za zh zb))) (za zh (za zh (za zh zb)))))) zb))))
   (zd (zy (i:=4) yt.nd rfl (Or.inl rfl) (zn zZ (zu C_law_at (hr.mono (by decide)) rfl (za (pv 0) (za zh zb))) zh))
   (zd (zy (i:=5) yt.nd rfl (Or.inl rfl) (pe_makeX C_Sheet_init zgl (hr.mono (by decide)) rfl (za (zF yh (by rfl) T.b_list PyProof.Rows.boot_list (za (pv 2) zb)) (za (zF yh (by rfl) T.b_list PyProof.Rows.boot_list (za (pv 3) zb)) zb))))
   (zd (zaJ (i:=6) (show CompScope (zc zcw) ["_law_script","_law_mode","_law_couples_here","_law_names_here","_law_style","_law_sheet","_law_cards","_law_gone","_law_many_here","_law_shut","_law_cell","_law_deed","_law_judge","_law_who","_law_couple","_law_card_here","_law_into","_law_due_here"] "_law_name" [] [] _ from⟨rfl,by decide +kernel,by decide +kernel,rfl,by decide +kernel,rfl,by decide +kernel,by decide +kernel⟩) rfl yt.nd rfl (Or.inl rfl) (zK (pv 3)) (fun _ _ _ _ _=>wf) (fun _ _ _ _ _=>(zP zb)))
   (zd (zy (i:=7) yt.nd rfl (Or.inl rfl) (zP zb))
   (zd (zy (i:=8) yt.nd rfl (Or.inl rfl) zh)
   (zd (zy (i:=9) yt.nd rfl (Or.inl rfl) wZ)
   (zd (za5 PassesOwn.never rfl (zK (ym we (pv 0) (yD zh) (yD (yn zM (zP (za zh (za zh zb))) (zF yW (by rfl) T.b_int PyProof.Rows.boot_int (za (zac op_gt (zo zq (by rfl) T.b_len PySem.boot_len (za (pv 2) zb)) zh (zt _)) zb)) (fun _ _=>rfl))))) (yR (i:=10) yt.nd rfl (Or.inl rfl))
     (@pss_pick _ 11 _ _ [0,0,0,0,1,3,4,5,6,7] _ _ _ _ _ _ _ _ yt.nd rfl (Or.inl rfl) rfl (zn zZ (pv 10) zh) (fun _ _=>rfl) (.inl rfl)
   (zd (zcq (zC (zl zT (zn zZ (zn yx (pv 10) zh) zh) zh (zt _)) (zg (zy (i:=11) yt.nd rfl (Or.inl rfl) zh)) zw))
   (zd (zy (i:=12) yt.nd rfl (Or.inl rfl) (yn zM (zn yZ (pv 3) (zP (za (zu C_law_stranger (hr.mono (by decide)) rfl (za (yn zM (pv 3) zh (fun _ _=>rfl)) (za (zn yx (pv 10) zh) zb))) zb))) (zn zZ (zn yx (pv 10) zh) (zn yj (zo zq (by rfl) T.b_len PySem.boot_len (za (pv 3) zb)) zh)) (fun _ _=>rfl)))
   (zd (zy (i:=13) yt.nd rfl (Or.inl rfl) (za1 PySem.F.plainAttrs_list PySem.F.slot_list_index PySem.F.type_list_index zb1 (zn yZ (pv 3) (zP (za (pv 12) zb))) (za (pv 12) zb)))
   (zd (zy (i:=14) yt.nd rfl (Or.inr rfl) (zu C_law_stray (hr.mono (by decide)) rfl (za (pv 2) (za (pv 7) (za (zn yx (pv 10) zh) zb)))))
   (zd (zy (i:=15) yt.nd rfl (Or.inl rfl) (zu C_law_dealt (hr.mono (by decide)) rfl (za (pv 10) (za zh (za (pv 2) (za (pv 4) zb))))))
   (zd (zcq (zC (zl zT (zn zZ (zn yx (pv 10) zh) zh) zh (zt _)) (zg (zy (i:=15) yt.nd rfl (Or.inl rfl) (zu C_law_spoiled (hr.mono (by decide)) rfl (za (pv 15) (za (zn yx (pv 10) zh) zb))))) zw))
   (zd (zy (i:=16) yt.nd rfl (Or.inl rfl) (zo zq (by rfl) T.b_len PySem.boot_len (za (ye (show CompScope (zc zcw) ["_law_script","_law_mode","_law_couples_here","_law_names_here","_law_style","_law_sheet","_law_cards","_law_gone","_law_many_here","_law_shut","_law_cell","_law_deed","_law_judge","_law_who","_law_couple","_law_card_here","_law_into","_law_due_here"] "_law_row" [] [] _ from⟨rfl,by decide +kernel,by decide +kernel,rfl,by decide +kernel,rfl,by decide +kernel,by decide +kernel⟩) rfl (zK (pv 6)) (fun _ _ _ _ _=>(zaT (zl (zbN (K:=K) rfl hr.units0) (pv 0) (zP zb) (zt _)))) (fun _ _ _ _ _=>(pv 0))) zb)))
   (zd (zy (i:=17) yt.nd rfl (Or.inl rfl) (zu C_law_due (hr.mono (by decide)) rfl (za (pv 11) (za (pv 9) (za (yn zM (zn yZ (pv 6) (zP (za zgB zb))) (pv 13) (fun _ _=>rfl)) (za (pv 16) (za (pv 2) (za (pv 14) (za (pv 15) zb)))))))))
   (zd (zC (zl zbO (zu C_law_done (hr.mono (by decide)) rfl (za (pv 5) (za (pv 11) (za (pv 12) (za (pv 14) (za (zF yh (by rfl) T.b_list PyProof.Rows.boot_list (za (pv 15) zb)) zb)))))) (pv 17) (zt _)) (zg (zm wZ)) zw)
   (zd (zcq (zC (PW.pt (zaN (zl zT (pv 17) zD (zt _)) (wQ (zl zT (pv 11) zh (zt _))))) (zd (ps_asg (pv 15) (pg_sub (pv 6) (pv 13) set_list))
   (zg (zy (i:=8) yt.nd rfl (Or.inl rfl) (zn yj (pv 8) zh)))) zw))
   (zd (zcq (zC (PW.pt (zaN (zl zT (pv 17) zD (zt _)) (wQ (zl zT (pv 11) zh (zt _))))) (zd (zU (za1 PySem.F.plainAttrs_list PySem.F.slot_list_append PySem.F.type_list_append zaO (pv 7) (za (pv 14) zb)))
   (zd (zy (i:=2) yt.nd rfl (Or.inl rfl) (zu C_law_without (hr.mono (by decide)) rfl (za (pv 2) (za (pv 14) zb))))
   (zg (zaJ (i:=6) (show CompScope (zc zcw) ["_law_script","_law_mode","_law_couples_here","_law_names_here","_law_style","_law_sheet","_law_cards","_law_gone","_law_many_here","_law_shut","_law_cell","_law_deed","_law_judge","_law_who","_law_couple","_law_card_here","_law_into","_law_due_here"] "_law_row" ["_law_couple"] [14] _ from⟨rfl,by decide +kernel,by decide +kernel,rfl,by decide +kernel,rfl,by decide +kernel,by decide +kernel⟩) rfl yt.nd rfl (Or.inl rfl) (zK (pv 6)) (fun _ _ _ _ _=>wf) (fun _ _ _ _ _=>(zu C_law_without (hr.mono (by decide)) rfl (za (pv 0) (za (pv 1) zb)))))))) zw))
   (zd (zy (i:=9) yt.nd rfl (Or.inl rfl) (pe_or (pv 9) (zdi (zac zT (pv 11) zh (zt _)))))
   (zd (zC (wv (yN (zu C_law_stands (hr.mono (by decide)) rfl (za (pv 5) (za (pv 3) (za (pv 2) (za (pv 7) (za (pv 6) (za (pv 8) (za (pv 9) zb)))))))))) (zg (zm wZ)) zw)
   (zg (zC (PW.pt (zaN (zl zeW (zo zq (by rfl) T.b_len PySem.boot_len (za (pv 2) zb)) zh (zt _)) (wQ (wv (yN (zu C_law_placed (hr.mono (by decide)) rfl (za (pv 5) (za (pv 6) (za (pv 2) zb))))))))) (zg (zm wZ)) zw)))))))))))))))))
   (zg (zm (zu C_law_placed (hr.mono (by decide)) rfl (za (pv 5) (za (pv 6) (za (pv 2) zb)))))))))))))))),?_⟩
  have hln:=zB
  refine⟨_,rfl,a,ns,2,rfl,hS,by decide,_,_,rfl,rfl,(by show(0:Int)<16;decide),?_⟩
  dsimp only
  generalize ns.getD (2:Int).toNat 0%16=md
  refine⟨_,rfl,a,ns,4,rfl,hS,by decide,_,rfl,_,rfl,a,ns,0,rfl,hS,by decide,_,_,_,_,_,rfl,by decide,by decide,fun many m1 m2=>?_⟩
  refine⟨_,_,rfl,by omega,by omega,fun l1 H1 s1 f1 e1=>?_⟩
  generalize hus:M1.couples _ _=us at e1
  have hul:us.length=many.toNat:=by rw[← hus,M1.zep]
  have hun:us.Nodup:=by rw[← hus];exact M1.zfU (by omega)
  have hur:∀x∈us,1≤x∧x≤999:=fun x hx=>by rw[← hus] at hx;exact M1.zfK hx
  have hgc:M1.zcF us=true:=(M1.zjT us).mpr ⟨by omega,hun,hur⟩
  refine⟨_,rfl,a,ns,5,rfl,s1.seq hS,by decide,_,rfl,_,rfl,a,ns,1,rfl,s1.seq hS,by decide,_,_,_,_,_,rfl,by decide,by decide,fun panel p1 p2=>?_⟩
  refine⟨_,_,rfl,by omega,by omega,fun l2 H2 ts s2 f2 e2 htl htn htg=>?_⟩
  have hgj:M2.zdw ts=true:=(M2.zf4 ts).mpr ⟨by omega,htn,fun z hz=>(M2.zb7 z).mp (htg z hz)⟩
  have t2:=s1.trans s2
  have hune:us ≠ []:=by intro z;rw[z] at hul;simp at hul;omega
  have htne:ts ≠ []:=by intro z;rw[z] at htl;simp at htl;omega
  refine⟨_,rfl,a,ns,3,rfl,t2.seq hS,by decide,_,_,rfl,rfl,(by show(0:Int)<4;decide),?_⟩
  dsimp only
  generalize ns.getD (3:Int).toNat 0%4=style
  refine⟨_,rfl,l1,_,rfl,.inl (SqL.of (s2 _ _ e1)),fun l3 hl3=>?_⟩
  have s3:=zj.new (o:=.lst (us.map V.int)) hl3
  refine⟨_,rfl,l2,_,rfl,.inl (SqL.of (s3 _ _ e2)),fun l4 hl4=>?_⟩
  have s4:=zj.new (o:=.lst (ts.map V.str)) hl4
  intro x dx hx hdx hxd
  have s5:=(zj.new (o:=.own x) hdx).newT (o:=.ins (zJ K "Sheet") dx []) (l:=x) (by rw[zi (Ne.symm hxd)];exact hx)
  refine⟨x,dx,l3,l4,us,ts,rfl,ze,SqL.of (s5 _ _ (s4 _ _ ze)),by omega,SqL.of (s5 _ _ ze),by omega,fun z hz=>?_,fun z=>?_,fun _ z=>?_,fun _ _ H5 F hSh hkeep=>⟨rfl,?_⟩⟩
  ·have:=((M2.zb7 z).mp (htg z hz)).1;omega
  ·rw[hgc] at z;cases z
  ·rw[hgj] at z;cases z
  have s25:zj H2 (upd (upd (upd (upd H2 l3 (.lst (us.map V.int))) l4 (.lst (ts.map V.str))) dx (.own x)) x (.ins (zJ K "Sheet") dx [])):=(s3.trans s4).trans s5
  have hx2:H2 x=none:=(s3.trans s4).free hx
  have kp:zbG (fun _=>False) H2 F H5:=fun b o e _=>hkeep b o (s25 _ _ e) (zk e hx2)
  have hA5:=(SqL.none (t2.seq hS)).deed kp
  have c5:=kp _ _ (s2 _ _ e1) (fun z=>z)
  have j5:=kp _ _ e2 (fun z=>z)
  refine⟨_,rfl,l2,rfl,⟨_,SqL.of j5.1⟩,?_⟩
  refine ya (xs:=ts.map V.str) (fun i ys H6=>∃ls:List Addr,ys=ls.map V.ref∧zj H5 H6∧All2 (fun l c=>H6 l=some (.lst (c.map V.int))∧¬F l) ls ((List.range i).map fun _=>([]:List Int))) ⟨[],rfl,zj.refl _,.nil⟩ ?_ (by rw[List.length_map];omega) ?_ ?_
  ·rintro i ys H6 hi ⟨ls,rfl,s6,r6⟩
   refine⟨SqL.of (s6 _ _ j5.1),?_⟩
   have:=r6.length
   rw[List.length_map,List.length_range] at this
   rw[List.length_map]
   omega
  ·rintro i y ys H6 hy ⟨ls,rfl,s6,r6⟩
   refine⟨(by show 0≤sizeLine;decide),fun l hl=>⟨ls ++ [l],by rw[List.map_append];rfl,s6.newT hl,?_⟩⟩
   rw[List.range_succ,List.map_append]
   exact(r6.imp fun _ _ z=>⟨zj.new hl _ _ z.1,z.2⟩).snoc ⟨ze,(hSh.same s6).apart hl⟩
  rintro ys H6 ⟨ls,rfl,s6,r6⟩ lc hlc
  rw[List.length_map] at r6
  have s7:=zj.new (o:=.lst (ls.map V.ref)) hlc
  have e7:upd H6 lc (.lst (ls.map V.ref)) lc=some (.lst (ls.map V.ref)):=ze
  have n7:¬F lc:=(hSh.same s6).apart hlc
  have r7:Rows F (upd H6 lc (.lst (ls.map V.ref))) lc ls (Sh.new us ts).rows:=by
   refine⟨e7,n7,?_⟩
   have e:(Sh.new us ts).rows=(List.range ts.length).map fun _=>([]:List Int):=by
    show ts.map (fun _=>([]:List Int))=_
    refine List.ext_getElem (by simp) fun i h1 h2=>?_
    simp
   rw[e]
   exact r6.imp fun _ _ z=>⟨s7 _ _ z.1,z.2⟩
  generalize hH7:upd H6 lc _=H7 at s7 r7
  have t57:=s6.trans s7
  refine⟨(by show 0≤sizeLine;decide),fun lg hlg=>?_⟩
  have sg:=zj.new (o:=.lst []) hlg
  have eg:upd H7 lg (.lst []) lg=some (.lst []):=ze
  have ng:¬F lg:=(hSh.same t57).apart hlg
  have n1:l1≠lg:=zk (t57 _ _ c5.1) hlg
  have nls:=(r7.ne hlg).2
  have t5g:=t57.trans sg
  have r8:=r7.same sg
  generalize hH8:upd H7 lg _=H8 at sg eg t5g r8 ⊢
  refine⟨_,rfl,_,rfl,(by show 2≤sizeLine;decide),fun lb hlb=>?_⟩
  have sb:=zj.new (o:=.lst (([56,26]:List Int).map V.int)) hlb
  have eb:upd H8 lb (.lst (([56,26]:List Int).map V.int)) lb=some (.lst (([56,26]:List Int).map V.int)):=ze
  change zj H8 (upd H8 lb (.lst [.int 56,.int 26]))at sb
  change upd H8 lb (.lst [.int 56,.int 26]) lb=_ at eb
  have t5b:=t5g.trans sb
  generalize hHb:upd H8 lb _=Hb at sb eb t5b ⊢
  have hix:∀(b:Bool),∃z:Int,atI (([56,26]:List Int).map V.int) (if b=true then 1 else 0)=some (.int z):=fun b=>by
   cases b
   ·exact⟨56,rfl⟩
   ·exact⟨26,rfl⟩
  obtain⟨upto,hup⟩:=hix (decide ((6:Int)<((us.map V.int).length:Int)))
  refine⟨_,rfl,l1,_,rfl,.inl (SqL.of (t5b _ _ c5.1)),_,_,rfl,rfl,.inr ⟨_,rfl,lb,_,_,_,rfl,rfl,SqL.of eb,hup,?_⟩⟩
  refine⟨_,rfl,a,_,rfl,(hA5.same t5b).sq,fun l9 hl9=>?_⟩
  obtain⟨zs,ez,hzl⟩:=cut_any ns (some 6) (some upto)
  rw[ez]
  have s9:=zj.new (o:=.lst (zs.map V.int)) hl9
  have e9:upd Hb l9 (.lst (zs.map V.int)) l9=some (.lst (zs.map V.int)):=ze
  have n9:¬F l9:=(hSh.same t5b).apart hl9
  have t9:=t5b.trans s9
  have u9:=sb.trans s9
  have n9g:l9≠lg:=fun z=>by rw[z,sb _ _ eg] at hl9;cases hl9
  generalize hH9:upd Hb l9 _=H9 at s9 e9 t9 u9 ⊢
  have i0:At46 K l2 l9 lg x ts zs F (Sh.new us ts) us [] (Sh.new us ts).rows l1 lc ls H9:=⟨hSh.same t9,rfl,⟨t9 _ _ c5.1,c5.2,n1⟩,⟨t9 _ _ j5.1,j5.2⟩,⟨u9 _ _ eg,ng⟩,⟨e9,n9,n9g⟩,r8.same u9,nls⟩
  refine⟨l9,rfl,⟨_,SqL.of e9⟩,?_⟩
  refine zdC (xs:=zs.map V.int) (fun i σ H'=>∃(F:Addr→Prop) (S:Sh) (lu lc:Addr) (ls:List Addr) (v10 v11 v12 v13 v14 v15 v16 v17:Option V),σ = [some (.ref a),some (.int md),some (.ref lu),some (.ref l2),some (.int style),some (.ref x),some (.ref lc),some (.ref lg),some (.int S.taken),some (.bl S.shut),v10,v11,v12,v13,v14,v15,v16,v17]∧At46 K l2 l9 lg x ts zs F S S.couples S.struck S.rows lu lc ls H'∧S.taken≤i)
   ⟨F,Sh.new us ts,l1,lc,ls,_,_,_,_,_,_,_,_,rfl,i0,Nat.le_refl _⟩ ?_ ?_ ?_
  ·rintro i σ H' hi ⟨F,S,lu,lc,ls,v10,v11,v12,v13,v14,v15,v16,v17,rfl,i1,i2⟩
   exact SqL.of i1.zz.1
  ·clear i0 u9 e9 n9 n9g t9 s9 hl9 hH9 hup hHb eb sb t5b hlb hH8 r8 nls n1 ng eg sg t5g hlg hH7 r7 s7 e7 n7 t57 r6 s6 hlc c5 j5 hA5 kp s25 hx2 hkeep hSh s5 hxd hdx hx s4 hl4 s3 hl3
   rintro i y σ Ha hy ⟨F,S,lu,lc,ls,v10,v11,v12,v13,v14,v15,v16,v17,rfl,i1,i2⟩
   obtain⟨hi,rfl⟩:=yA hy
   generalize zs.getD i 0=cell
   have ok:=i1.sh.ok
   have c1:=ok.c1
   have c24:=ok.c24
   have p15:=ok.p15
   have hrl:S.rows.length=ts.length:=by rw[S.rows_len,i1.pn]
   have hlsl:ls.length=ts.length:=by rw[i1.rw.len,hrl]
   have htp:0<ts.length:=by omega
   have ht15:ts.length≤15:=by rw[← i1.pn];exact p15
   have hlne:ls ≠ []:=fun z=>by rw[z] at hlsl;simp at hlsl;omega
   have hcne:S.couples ≠ []:=fun z=>by rw[z] at c1;simp at c1
   refine⟨(by show 10≤sizeLine;decide),fun ld hld=>?_⟩
   have sd:=zj.new (o:=.lst (([0,0,0,0,1,3,4,5,6,7]:List Int).map V.int)) hld
   have x0:0≤cell%10:=Int.emod_nonneg _ (by decide)
   have x1:cell%10<10:=Int.emod_lt_of_pos _ (by decide)
   refine⟨_,rfl,_,_,rfl,rfl,(by show(0:Int)<10;decide),ld,_,_,_,rfl,rfl,SqL.new,wB x0 (by simpa using x1),?_⟩
   have hd0:([0,0,0,0,1,3,4,5,6,7]:List Int).getD (cell%10).toNat 0∈([0,1,2,3,4,5,6,7]:List Int):=by
    have h1:=wT (ns:=([0,0,0,0,1,3,4,5,6,7]:List Int)) (i:=(cell%10).toNat) (by simp;omega)
    exact(by decide:∀z∈([0,0,0,0,1,3,4,5,6,7]:List Int),z∈([0,1,2,3,4,5,6,7]:List Int)) _ h1
   generalize ([0,0,0,0,1,3,4,5,6,7]:List Int).getD (cell%10).toNat 0=d0 at hd0
   generalize hHd:upd Ha ld _=Hd at sd ⊢
   have i1:=i1.same sd
   refine⟨fun σ' H'=>∃d:Int,σ' = [some (.ref a),some (.int md),some (.ref lu),some (.ref l2),some (.int style),some (.ref x),some (.ref lc),some (.ref lg),some (.int S.taken),some (.bl S.shut),some (.int cell),some (.int d),v12,v13,v14,v15,v16,v17]∧H'=Hd∧d∈([0,1,2,3,4,5,6,7]:List Int),?_,?_⟩
   ·exact⟨_,rfl,_,_,rfl,rfl,⟨by decide,by decide⟩,_,_,rfl,rfl,(by show(0:Int)<40;decide),rfl,_,rfl,zX (fun _=>⟨2,rfl,rfl,by decide⟩) (fun _=>⟨d0,rfl,rfl,hd0⟩)⟩
   rintro σ' H' ⟨d,rfl,rfl,hd⟩
   clear hd0
   -- the judge
   have hg0:=((M2.zb7 _).mp (htg _ (zbr (ts:=ts) (i:=(0:Int).toNat) (by show 0<ts.length;omega)))).1
   refine⟨_,rfl,_,rfl,l2,_,_,_,rfl,rfl,SqL.of i1.nm.1,zcQ (by decide) (by show(0:Int)<ts.length;omega),_,rfl,_,_,rfl,rfl,⟨by decide,by decide⟩,_,_,rfl,by omega,fun y Hy sy hyl=>?_⟩
   refine⟨(by show 1≤sizeLine;decide),fun lp hlp=>?_⟩
   have sp:=sy.newT (o:=.lst [.str y]) hlp
   refine⟨l2,lp,ts.map V.str,[.str y],rfl,rfl,sp _ _ i1.nm.1,ze,by rw[List.length_map];show _+1≤_;omega,fun lq hlq=>?_⟩
   have sq:=sp.newT (o:=.lst (ts.map V.str ++ [V.str y])) hlq
   have eq:ts.map V.str ++ [V.str y]=(ts ++ [y]).map V.str:=by rw[List.map_append];rfl
   refine⟨_,rfl,_,_,rfl,rfl,⟨by decide,by decide⟩,_,rfl,l2,_,rfl,.inl (SqL.of (sq _ _ i1.nm.1)),?_⟩
   rw[List.length_map]
   have y0:0≤cell/50%((ts.length:Int)+1):=Int.emod_nonneg _ (by omega)
   have y1:cell/50%((ts.length:Int)+1)<(ts.length:Int)+1:=Int.emod_lt_of_pos _ (by omega)
   refine⟨_,_,rfl,rfl,_,_,rfl,rfl,(by show(0:Int)<(ts.length:Int)+1;omega),lq,_,_,_,rfl,rfl,SqL.new,(by rw[eq];exact zcQ y0 (by rw[List.length_append];exact y1)),?_⟩
   generalize (ts ++ [y]).getD (cell/50%((ts.length:Int)+1)).toNat "" = j
   generalize hHq:upd _ lq _=Hq at sq ⊢
   -- who it is
   have i2':=i1.same sq
   refine⟨_,rfl,_,rfl,(by show 1≤sizeLine;decide),fun lr hlr=>?_⟩
   have sr:=zj.new (o:=.lst [.str j]) hlr
   refine⟨l2,lr,ts.map V.str,[.str j],rfl,rfl,sr _ _ i2'.nm.1,ze,by rw[List.length_map];show _+1≤_;omega,fun lt hlt=>?_⟩
   have st:=sr.newT (o:=.lst (ts.map V.str ++ [V.str j])) hlt
   have et:ts.map V.str ++ [V.str j]=(ts ++ [j]).map V.str:=by rw[List.map_append];rfl
   have hxi:(ts ++ [j]).idxOf j<(ts ++ [j]).length:=List.idxOf_lt_length_of_mem (by simp)
   rw[et] at st ⊢
   refine⟨.inl ⟨rfl,_,SqL.new⟩,_,rfl,lt,_,_,rfl,rfl,SqL.new,rfl,zdS _,(by rw[zhx,List.length_map];exact hxi),?_⟩
   rw[zhx]
   generalize hHt:upd _ lt _=Ht at st ⊢
   have i3:=i2'.same st
   -- the couple and the card
   refine⟨_,rfl,_,rfl,_,rfl,_,_,rfl,rfl,⟨by decide,by decide⟩,lu,lg,S.couples,S.struck,_,rfl,SqL.of i3.cu.1,hcne,i3.gn.1,by omega,fun c Hc sc=>?_⟩
   have i4:=i3.same sc
   refine⟨_,rfl,_,rfl,_,rfl,cell,800,lu,S.couples,style,rfl,by decide,by decide,SqL.of i4.cu.1,hcne,by omega,fun lk0 Hk ms0 sk fk ek hp=>?_⟩
   have i5:=i4.same sk
   have n0g:lk0≠lg:=fun z=>by rw[z,i4.gn.1] at fk;cases fk
   have n0f:¬F lk0:=i4.sh.apart fk
   have hm0:=hp.length_eq
   have hms0:ms0 ≠ []:=fun z=>by rw[z] at hm0;simp at hm0;omega
   refine⟨fun σ' H'=>∃(lk:Addr) (ms:List Int),σ' = [some (.ref a),some (.int md),some (.ref lu),some (.ref l2),some (.int style),some (.ref x),some (.ref lc),some (.ref lg),some (.int S.taken),some (.bl S.shut),some (.int cell),some (.int d),some (.str j),some (.int ((ts ++ [j]).idxOf j:Nat)),some (.int c),some (.ref lk),v16,v17]∧zj Hk H'∧H' lk=some (.lst (ms.map V.int))∧lk≠lg∧¬F lk∧ms.length≤31,?_,?_⟩
   ·refine⟨_,rfl,_,_,rfl,rfl,⟨by decide,by decide⟩,_,_,rfl,rfl,(by show(0:Int)<3;decide),rfl,_,rfl,zX (fun _=>?_) (fun _=>⟨lk0,ms0,rfl,zj.refl _,ek,n0g,n0f,by omega⟩)⟩
    refine⟨_,rfl,_,rfl,_,_,rfl,rfl,⟨by decide,by decide⟩,lk0,ms0,_,rfl,SqL.of ek,hms0,by omega,fun l H' ms s' f' e' hl'=>?_⟩
    exact⟨l,ms,rfl,s',e',fun z=>(by rw[z,i5.gn.1] at f';cases f'),i5.sh.apart f',hl'⟩
   rintro σ' Hm ⟨lk,ms,rfl,sm,ek',nkg,nkf,hml⟩
   clear ek hp n0g n0f hm0 hms0
   have i6:=i5.same sm
   clear i5 i4 i3 i2' i1
   -- how many cards are in
   refine⟨_,rfl,lc,rfl,⟨_,SqL.of i6.rw.1⟩,?_⟩
   refine zgi (SqL.of i6.rw.1) (i6.rw.2.2.imp fun _ _ z=>SqL.of z.1) (by omega) (fun m d H' Q hm h=>?_) (fun m H' Q h=>⟨_,rfl,h⟩) fun ks H7 s7 r7=>?_
   ·refine⟨_,rfl,(by show 0≤sizeLine;decide),fun l13 hl13=>?_⟩
    have s13:=zj.new (o:=.lst []) hl13
    refine⟨m,l13,_,[],rfl,rfl,s13.seq hm,SqL.new,zG _,rfl,_,rfl,?_⟩
    rw[show eqL (d.map V.int) []=decide (d = [])from zby _ []]
    exact h _ s13
   intro l8 hl8
   have s8:=s7.newT (o:=.lst (ks.map V.ref)) hl8
   refine⟨l8,_,rfl,.inl SqL.new,?_⟩
   rw[List.length_map,r7.length,← Sh.handed_len ok]
   generalize hH8:upd H7 l8 _=H8 at s8 ⊢
   have i7:=i6.same s8
   have ek8:=s8 _ _ ek'
   clear i6 ek'
   -- what is due
   refine⟨_,rfl,_,rfl,_,rfl,(by show 1≤sizeLine;decide),fun lv hlv=>?_⟩
   have sv:=zj.new (o:=.lst [.non]) hlv
   refine⟨lc,lv,ls.map V.ref,[.non],rfl,rfl,sv _ _ i7.rw.1,ze,by rw[List.length_map];show _+1≤_;omega,fun lw hlw=>?_⟩
   have sw:=sv.newT (o:=.lst (ls.map V.ref ++ [V.non])) hlw
   have ew:upd (upd H8 lv (.lst [.non])) lw (.lst (ls.map V.ref ++ [V.non])) lw=some (.lst (ls.map V.ref ++ [V.non])):=ze
   generalize hHw:upd (upd H8 lv _) lw _=Hw at sw ew ⊢
   have i8:=i7.same sw
   have ekw:=sw _ _ ek8
   obtain⟨v,o,hat,hheld,ho⟩:∃(v:V) (o:Option (List Int)),atI (ls.map V.ref ++ [V.non]) ((ts ++ [j]).idxOf j:Nat)=some v∧Held K Hw v o∧o=if j∈S.panel then some ((S.card j).getD [])else none:=by
    rw[i8.pn]
    by_cases hj:j∈ts
    ·have hix:(ts ++ [j]).idxOf j=ts.idxOf j:=by rw[List.idxOf_append];exact if_pos hj
     have hlt:=List.idxOf_lt_length_of_mem hj
     obtain⟨m,em,rm⟩:=i8.rw.2.2.at (i:=ts.idxOf j) (by omega) []
     have e2:=S.rows_at (k:=ts.idxOf j) (by rw[i8.pn];exact hlt)
     have e3:ts.getD (ts.idxOf j) "" = j:=by rw[List.getD_eq_getElem?_getD,List.getElem?_eq_getElem hlt,List.getElem_idxOf hlt];rfl
     rw[i8.pn,e3] at e2
     refine⟨.ref m,some (S.rows.getD (ts.idxOf j) []),?_,.inr ⟨m,_,rfl,rfl,SqL.of rm.1⟩,by rw[if_pos hj,e2]⟩
     rw[hix]
     refine zae ?_
     rw[List.getElem?_append_left (by rw[List.length_map];omega)]
     exact zcZ em
    ·have hix:(ts ++ [j]).idxOf j=ts.length:=by
      rw[List.idxOf_append,if_neg hj]
      simp
     refine⟨.non,none,?_,.inl ⟨rfl,rfl⟩,by rw[if_neg hj]⟩
     rw[hix]
     refine zae ?_
     rw[List.getElem?_append_right (by rw[List.length_map];omega),List.length_map,hlsl,Nat.sub_self]
     rfl
   refine⟨_,rfl,lw,_,_,_,rfl,rfl,SqL.of ew,hat,_,rfl,_,rfl,_,rfl,_,rfl,d,S.shut,v,o,S.handed.length,lu,lk,S.couples,ms,c,rfl,hheld,SqL.of i8.cu.1,ok.nd,SqL.of ekw,fun Hx sx=>?_⟩
   have hdue:=due46 ok hd (by omega) ho (c:=c) (ms:=ms)
   rw[hdue]
   have i9:=i8.same sx
   have ekx:=sx _ _ ekw
   clear i8 i7 ekw ek8 hheld
   -- it is done
   apply share46 (P:=fun H' F' T'=>At46 K l2 l9 lg x ts zs F' T' S.couples S.struck S.rows lu lc ls H'∧(H' lk=some (.lst (ms.map V.int))∧¬F' lk)∧((doE S d j c ms=none∧T'=doS S d j c ms)∨(doE S d j c ms≠none∧T'=S)))
   ·intro hn
    refine⟨_,rfl,_,rfl,_,rfl,_,rfl,_,rfl,lk,_,rfl,.inl (SqL.of ekx),fun ly hly=>?_⟩
    have sy':=zj.new (o:=.lst (ms.map V.int)) hly
    have i10:=i9.same sy'
    have e10:=sy' _ _ ekx
    refine⟨x,F,S,d,j,c,ly,ms,rfl,i10.sh,SqL.new,by omega,fun z hz' Hz sz=>⟨_,rfl,rfl,_,rfl,wl (fun w=>absurd ?_ w) (fun _=>?_)⟩,fun hz' Hz Fz hSz dz=>⟨_,rfl,rfl,_,rfl,wl (fun w=>absurd ?_ w) (fun _=>?_)⟩⟩
    ·rw[hz'];rfl
    ·exact hn Hz F S ⟨i10.same sz,⟨sz _ _ e10,nkf⟩,.inr ⟨(by rw[hz'];exact Option.some_ne_none z),rfl⟩⟩
    ·rw[hz'];rfl
    ·exact hn Hz Fz _ ⟨i10.deed dz hSz (zjq ..),dz _ _ e10 nkf,.inl ⟨hz',rfl⟩⟩
   clear i9 ekx
   rintro Hz G T ⟨i9,hk,hcase⟩
   have hee:(wW (doE S d j c ms)= "")↔doE S d j c ms=none:=zhX
   generalize wW (doE S d j c ms)=due at hee ⊢
   refine⟨fun σ' H'=>∃(ls':List Addr) (tk:Nat),σ' = [some (.ref a),some (.int md),some (.ref lu),some (.ref l2),some (.int style),some (.ref x),some (.ref lc),some (.ref lg),some (.int tk),some (.bl S.shut),some (.int cell),some (.int d),some (.str j),some (.int ((ts ++ [j]).idxOf j:Nat)),some (.int c),some (.ref lk),some (.int S.handed.length),some (.str due)]∧ls' ≠ []∧((due= "" ∧ d=1∧tk=S.taken∧T=S.strike c∧At46 K l2 l9 lg x ts zs G T S.couples S.struck S.rows lu lc ls' H')∨(¬(due= "" ∧ d=1)∧tk=T.taken∧T.shut=(S.shut || decide (d=2))∧T.taken≤i+1∧At46 K l2 l9 lg x ts zs G T T.couples T.struck T.rows lu lc ls' H')),?_,?_⟩
   ·have stay:due ≠ "" ∨ d≠0→∃(ls':List Addr) (tk:Nat),[some (.ref a),some (.int md),some (.ref lu),some (.ref l2),some (.int style),some (.ref x),some (.ref lc),some (.ref lg),some (V.int S.taken),some (.bl S.shut),some (.int cell),some (.int d),some (.str j),some (.int ((ts ++ [j]).idxOf j:Nat)),some (.int c),some (.ref lk),some (.int S.handed.length),some (.str due)] = [some (.ref a),some (.int md),some (.ref lu),some (.ref l2),some (.int style),some (.ref x),some (.ref lc),some (.ref lg),some (.int tk),some (.bl S.shut),some (.int cell),some (.int d),some (.str j),some (.int ((ts ++ [j]).idxOf j:Nat)),some (.int c),some (.ref lk),some (.int S.handed.length),some (.str due)]∧ls' ≠ []∧((due= "" ∧ d=1∧tk=S.taken∧T=S.strike c∧At46 K l2 l9 lg x ts zs G T S.couples S.struck S.rows lu lc ls' Hz)∨(¬(due= "" ∧ d=1)∧tk=T.taken∧T.shut=(S.shut || decide (d=2))∧T.taken≤i+1∧At46 K l2 l9 lg x ts zs G T T.couples T.struck T.rows lu lc ls' Hz)):=fun h=>by
     refine⟨ls,S.taken,rfl,hlne,?_⟩
     rcases hcase with⟨hn,hT⟩ | ⟨hn,hT⟩
     ·have hde:=hee.mpr hn
      have h0:d≠0:=h.resolve_left (fun z=>z hde)
      unfold doS at hT
      rw[if_neg h0] at hT
      by_cases h1:d=1
      ·rw[if_pos h1] at hT
       exact .inl ⟨hde,h1,rfl,hT,i9⟩
      ·rw[if_neg h1] at hT
       by_cases h2:d=2
       ·rw[if_pos h2] at hT
        subst hT
        exact .inr ⟨fun z=>h1 z.2,rfl,by rw[decide_eq_true h2,Bool.or_true];rfl,by show S.taken≤i+1;omega,i9⟩
       ·rw[if_neg h2] at hT
        subst hT
        exact .inr ⟨fun z=>h1 z.2,rfl,by rw[decide_eq_false h2,Bool.or_false],by omega,i9⟩
     ·subst hT
      refine .inr ⟨fun z=>hn (hee.mp z.1),rfl,?_,by omega,i9⟩
      by_cases h2:d=2
      ·subst h2
       have hsh:T.shut=true:=by
        cases e:T.shut with
        | true=>rfl
        | false =>
          refine absurd ?_ hn
          unfold doE
          rw[if_neg (by decide),if_neg (by decide),if_pos rfl,e]
          rfl
       rw[hsh];rfl
      ·rw[decide_eq_false h2,Bool.or_false]
    refine⟨_,rfl,rfl,_,rfl,zX (fun h1=>⟨_,rfl,rfl,_,rfl,zX (fun h2=>?_) (fun h2=>stay (.inr fun z=>h2 (by rw[z])))⟩) (fun h1=>stay (.inl fun z=>h1 (by rw[z])))⟩
    have h1:due= "" := by injection h1
    have h2:d=0:=by injection h2
    subst h2
    have hn:=hee.mp h1
    have hT:T=S.hand j ms:=by
     rcases hcase with⟨_,hT⟩ | ⟨hx',_⟩
     ·rw[hT];rfl
     ·exact absurd hn hx'
    have hrf:S.refuse j ms=none:=by
     unfold doE at hn
     rw[if_pos rfl] at hn
     exact hn
    obtain⟨_,hjp,_,_,_⟩:=ok.hand hrf
    have hSp:S.panel=ts:=by rw[← i9.pn,hT];rfl
    have hj:j∈ts:=by rw[← hSp];exact hjp
    have hix:(ts ++ [j]).idxOf j=ts.idxOf j:=by rw[List.idxOf_append];exact if_pos hj
    have hlt:=List.idxOf_lt_length_of_mem hj
    have e3:ts.getD (ts.idxOf j) "" = j:=by rw[List.getD_eq_getElem?_getD,List.getElem?_eq_getElem hlt,List.getElem_idxOf hlt];rfl
    refine⟨_,rfl,_,rfl,_,rfl,lc,_,_,_,rfl,rfl,i9.rw.1,ixN_ok (by omega) (by rw[List.length_map,hix];show ts.idxOf j<_;omega),?_⟩
    have i10:=i9.put htne hlne hk.1 hk.2 nkg (ts.idxOf j)
    have hrows:=Sh.rows_hand ok.pnd (k:=ts.idxOf j) (by rw[hSp];exact hlt) ms
    rw[hSp,e3] at hrows
    rw[← hrows] at i10
    rw[hix]
    refine⟨_,rfl,_,_,rfl,rfl,ls.set (ts.idxOf j) lk,S.taken+1,rfl,?_,.inr ⟨fun z=>absurd z.2 (by decide),by rw[hT];rfl,by rw[hT,show decide ((0:Int)=2)=false from rfl,Bool.or_false];rfl,by rw[hT];show S.taken+1≤i+1;omega,by rw[hT] at i10 ⊢;exact i10⟩⟩
    intro z
    have:=congrArg List.length z
    rw[List.length_set] at this
    simp at this
    exact hlne this
   rintro σ' Hy ⟨ls',tk,rfl,hlne',hc4⟩
   refine⟨fun σ' H'=>∃(G:Addr→Prop) (T:Sh) (lu lc:Addr) (ls:List Addr),σ' = [some (.ref a),some (.int md),some (.ref lu),some (.ref l2),some (.int style),some (.ref x),some (.ref lc),some (.ref lg),some (.int T.taken),some (.bl S.shut),some (.int cell),some (.int d),some (.str j),some (.int ((ts ++ [j]).idxOf j:Nat)),some (.int c),some (.ref lk),some (.int S.handed.length),some (.str due)]∧At46 K l2 l9 lg x ts zs G T T.couples T.struck T.rows lu lc ls H'∧T.shut=(S.shut || decide (d=2))∧T.taken≤i+1,?_,?_⟩
   ·refine⟨_,rfl,rfl,_,rfl,zX (fun h1=>⟨_,rfl,rfl,_,rfl,zX (fun h2=>?_) (fun h2=>?_)⟩) (fun h1=>?_)⟩
    ·have h1:due= "" := by injection h1
     have h2:d=1:=by injection h2
     rcases hc4 with⟨_,_,htk,hT,i10⟩ | ⟨hno,_⟩
     ·subst h2 hT htk
      refine⟨_,rfl,.inl ⟨rfl,_,SqL.of i10.gn.1⟩,_,rfl,lg,_,_,rfl,rfl,i10.gn.1,by rw[List.length_map];omega,?_⟩
      have i11:=i10.app htne hlne' c
      generalize hHg:upd Hy lg _=Hg at i11 ⊢
      refine⟨_,rfl,_,rfl,lu,S.couples,c,rfl,SqL.of i11.cu.1,by omega,fun lu' Hh sh fh eh=>?_⟩
      have nu:¬G lu':=i11.sh.apart fh
      have nug:lu'≠lg:=fun z=>by rw[z,i11.gn.1] at fh;cases fh
      have i12:=i11.same sh
      refine⟨_,rfl,lc,rfl,⟨_,SqL.of i12.rw.1⟩,?_⟩
      refine zir (F:=fun b=>G b∨b=lg) (f:=wo c) (SqL.of i12.rw.1) (i12.rw.2.2.imp fun _ _ z=>z.1) (by omega) (fun m d H' R hd hm s' h=>?_) fun kn H17 s17 rn=>?_
      ·refine⟨_,rfl,_,rfl,m,d,c,rfl,SqL.of hm,by have:=Sh.rows_le ok hd;omega,fun l H2 s2 f2 e2=>h l H2 s2 e2 (fun z=>?_)⟩
       rcases z with z | z
       ·exact(i12.sh.same s').fh l z f2
       ·rw[z,s' _ _ i12.gn.1] at f2;cases f2
      intro lc' hlc'
      have s18:=s17.newT (o:=.lst (kn.map V.ref)) hlc'
      have i13:=i12.same s18
      have nk:¬G lc':=(i12.sh.same s17).apart hlc'
      refine⟨G,S.strike c,lu',lc',kn,rfl,⟨i13.sh,i13.pn,⟨s18 _ _ eh,nu,nug⟩,i13.nm,i13.gn,i13.zz,⟨ze,nk,?_⟩,fun l hl=>?_⟩,by rw[show decide ((1:Int)=2)=false from rfl,Bool.or_false];rfl,by show S.taken≤i+1;omega⟩
      ·rw[Sh.rows_strike];exact rn.imp fun _ _ z=>⟨(zj.new hlc') _ _ z.1,fun w=>z.2 (.inl w)⟩
      ·obtain⟨_,z⟩:=rn.memL hl
       exact fun w=>z.2 (.inr w)
     ·exact absurd ⟨h1,h2⟩ hno
    ·rcases hc4 with⟨_,z,_⟩ | ⟨_,htk,hsh,hti,i10⟩
     ·exact absurd (by rw[z]) h2
     ·subst htk;exact⟨G,T,lu,lc,ls',rfl,i10,hsh,hti⟩
    ·rcases hc4 with⟨z,_⟩ | ⟨_,htk,hsh,hti,i10⟩
     ·exact absurd (by rw[z]) h1
     ·subst htk;exact⟨G,T,lu,lc,ls',rfl,i10,hsh,hti⟩
   clear hc4 i9 hk hcase
   rintro σ' H10 ⟨G,T,lu,lc,ls,rfl,i10,hsh,hti⟩
   have fin:∀b:Bool,b=T.shut→∀H',zj H10 H'→∃(F:Addr→Prop) (S':Sh) (lu' lc':Addr) (ls:List Addr) (v10 v11 v12 v13 v14 v15 v16 v17:Option V),[some (.ref a),some (.int md),some (.ref lu),some (.ref l2),some (.int style),some (.ref x),some (.ref lc),some (.ref lg),some (.int T.taken),some (.bl b),some (.int cell),some (.int d),some (.str j),some (.int ((ts ++ [j]).idxOf j:Nat)),some (.int c),some (.ref lk),some (.int S.handed.length),some (.str due)] = [some (.ref a),some (.int md),some (.ref lu'),some (.ref l2),some (.int style),some (.ref x),some (.ref lc'),some (.ref lg),some (.int S'.taken),some (.bl S'.shut),v10,v11,v12,v13,v14,v15,v16,v17]∧At46 K l2 l9 lg x ts zs F S' S'.couples S'.struck S'.rows lu' lc' ls H'∧S'.taken≤i+1:=fun b hb H' s'=>by
    subst hb
    exact⟨G,T,lu,lc,ls,_,_,_,_,_,_,_,_,rfl,i10.same s',hti⟩
   refine⟨_,rfl,S.shut,rfl,zfF (fun h1=>?_) (fun h1=>⟨_,rfl,rfl,?_⟩)⟩
   ·have hb:true=T.shut:=by rw[hsh,h1];rfl
    refine⟨_,rfl,_,rfl,_,rfl,_,rfl,_,rfl,_,rfl,_,rfl,x,G,T,l2,lu,lg,lc,by rw[hb];rfl,i10.sh,by rw[i10.pn];exact SqL.of i10.nm.1,SqL.of i10.cu.1,SqL.of i10.gn.1,i10.rw.refs K,fun H11 s11=>⟨_,rfl,zbj ?_⟩⟩
    refine⟨_,rfl,lu,_,rfl,.inl (SqL.of (s11 _ _ i10.cu.1)),_,_,rfl,rfl,_,rfl,zX (fun _=>?_) (fun _=>zbj (fin _ hb H11 s11))⟩
    exact⟨_,rfl,_,rfl,_,rfl,x,G,T,lc,lu,rfl,i10.sh.same s11,(i10.rw.same s11).refs K,SqL.of (s11 _ _ i10.cu.1),fun H12 s12=>⟨_,rfl,zbj (fin _ hb H12 (s11.trans s12))⟩⟩
   ·have hb:decide (V.int d=V.int 2)=T.shut:=by
     rw[hsh,h1,Bool.false_or]
     exact decide_eq_decide.mpr ⟨fun z=>(by injection z),fun z=>(by rw[z])⟩
    refine⟨_,rfl,_,rfl,_,rfl,_,rfl,_,rfl,_,rfl,_,rfl,x,G,T,l2,lu,lg,lc,by rw[hb];rfl,i10.sh,by rw[i10.pn];exact SqL.of i10.nm.1,SqL.of i10.cu.1,SqL.of i10.gn.1,i10.rw.refs K,fun H11 s11=>⟨_,rfl,zbj ?_⟩⟩
    refine⟨_,rfl,lu,_,rfl,.inl (SqL.of (s11 _ _ i10.cu.1)),_,_,rfl,rfl,_,rfl,zX (fun _=>?_) (fun _=>zbj (fin _ hb H11 s11))⟩
    exact⟨_,rfl,_,rfl,_,rfl,x,G,T,lc,lu,rfl,i10.sh.same s11,(i10.rw.same s11).refs K,SqL.of (s11 _ _ i10.cu.1),fun H12 s12=>⟨_,rfl,zbj (fin _ hb H12 (s11.trans s12))⟩⟩
  ·rintro σ H' ⟨F,S,lu,lc,ls,v10,v11,v12,v13,v14,v15,v16,v17,rfl,i1,i2⟩
   exact⟨_,rfl,_,rfl,_,rfl,x,F,S,lc,lu,rfl,i1.sh,i1.rw.refs K,SqL.of i1.cu.1,fun H' _=>q H'⟩
end
theorem on0{α:Type}{P:List α→Prop}(p:P []):∀us:List α,us.length=0→P us:=by
 intro us e
 cases us with
 | nil=>exact p
 | cons _ _=>cases e
theorem onS{α:Type}{n:Nat}{P:List α→Prop}(p:∀(a:α) (us:List α),us.length=n→P (a::us)):∀us:List α,us.length=n+1→P us:=by
 intro us e
 cases us with
 | nil=>cases e
 | cons a r=>exact p a r (Nat.succ.inj e)
theorem all_mk{l:PySem.W.OpenLaw}{w:World}{K:PySem.W.Frag}{h:Heap}{mg:Str→Option Value}{fa f0 f1 f2 f3 f4 f5 f6 f7 f8 f9 f10 f11 f12 f13 f14 f15 f16 f17 f18 f19 f20 f21 f22 f23 f24 f25 f26 f27 f28 f29 f30 f31 f32 f33 f34 f35 f36 f37 f38 f39 f40 f41 f42 f43 f44 f45 f46 f47 f48 f49 f50 f51 f52 f53 f54 f55 f56 f57 f58 f59 f60 f61 f62 f63 f64 f65 f66 f67 f68 f69 f70 oC_Sheet:Addr}(X:K.In h)(G:h.Ns mainGlobals mg)(hfa:mg "law" = some (.ref fa))
 (oa_Sheet:PySem.W.nsIn K mainGlobals "Sheet" = some (some (.ref oC_Sheet)))
 {oc0 kV0 dc0 pm0 cd0 ct0:Value} {od0 an0:Option Addr} {sl0:Array (Option Value)}
 (a0:PySem.W.findIn K (.ref oC_Sheet) "taken" = some (some (.ref f0))) (i0:PySem.W.isFn K (.ref f0)=true) (l0:K.lookup f0=some ⟨oc0,od0,.func (PySem.W.fnOf "taken" "Sheet.taken" (zr wu) (zp wu) (zc wu) .none kV0 dc0 pm0 an0 cd0 ct0),sl0⟩) (c0:PySem.W.codeIn K cd0 "Sheet.taken" = true) (k0:PySem.W.keepIn K (.ref f0)=true)
 {oc1 kV1 dc1 pm1 cd1 ct1:Value} {od1 an1:Option Addr} {sl1:Array (Option Value)}
 (a1:PySem.W.findIn K (.ref oC_Sheet) "is_sealed" = some (some (.ref f1))) (i1:PySem.W.isFn K (.ref f1)=true) (l1:K.lookup f1=some ⟨oc1,od1,.func (PySem.W.fnOf "is_sealed" "Sheet.is_sealed" (zr yo) (zp yo) (zc yo) .none kV1 dc1 pm1 an1 cd1 ct1),sl1⟩) (c1:PySem.W.codeIn K cd1 "Sheet.is_sealed" = true) (k1:PySem.W.keepIn K (.ref f1)=true)
 {oc2 kV2 dc2 pm2 cd2 ct2:Value} {od2 an2:Option Addr} {sl2:Array (Option Value)}
 (a2:PySem.W.findIn K (.ref oC_Sheet) "refuse_if_sealed" = some (some (.ref f2))) (i2:PySem.W.isFn K (.ref f2)=true) (l2:K.lookup f2=some ⟨oc2,od2,.func (PySem.W.fnOf "refuse_if_sealed" "Sheet.refuse_if_sealed" (zr zN) (zp zN) (zc zN) .none kV2 dc2 pm2 an2 cd2 ct2),sl2⟩) (c2:PySem.W.codeIn K cd2 "Sheet.refuse_if_sealed" = true) (k2:PySem.W.keepIn K (.ref f2)=true)
 {oc3 kV3 dc3 pm3 cd3 ct3:Value} {od3 an3:Option Addr} {sl3:Array (Option Value)}
 (a3:PySem.W.findIn K (.ref oC_Sheet) "refuse_unknown_judge" = some (some (.ref f3))) (i3:PySem.W.isFn K (.ref f3)=true) (l3:K.lookup f3=some ⟨oc3,od3,.func (PySem.W.fnOf "refuse_unknown_judge" "Sheet.refuse_unknown_judge" (zr zH) (zp zH) (zc zH) .none kV3 dc3 pm3 an3 cd3 ct3),sl3⟩) (c3:PySem.W.codeIn K cd3 "Sheet.refuse_unknown_judge" = true) (k3:PySem.W.keepIn K (.ref f3)=true)
 {oc4 kV4 dc4 pm4 cd4 ct4:Value} {od4 an4:Option Addr} {sl4:Array (Option Value)}
 (a4:PySem.W.findIn K (.ref oC_Sheet) "couples" = some (some (.ref f4))) (i4:PySem.W.isFn K (.ref f4)=true) (l4:K.lookup f4=some ⟨oc4,od4,.func (PySem.W.fnOf "couples" "Sheet.couples" (zr yE) (zp yE) (zc yE) .none kV4 dc4 pm4 an4 cd4 ct4),sl4⟩) (c4:PySem.W.codeIn K cd4 "Sheet.couples" = true) (k4:PySem.W.keepIn K (.ref f4)=true)
 {oc5 kV5 dc5 pm5 cd5 ct5:Value} {od5 an5:Option Addr} {sl5:Array (Option Value)}
 (a5:PySem.W.findIn K (.ref oC_Sheet) "struck" = some (some (.ref f5))) (i5:PySem.W.isFn K (.ref f5)=true) (l5:K.lookup f5=some ⟨oc5,od5,.func (PySem.W.fnOf "struck" "Sheet.struck" (zr yY) (zp yY) (zc yY) .none kV5 dc5 pm5 an5 cd5 ct5),sl5⟩) (c5:PySem.W.codeIn K cd5 "Sheet.struck" = true) (k5:PySem.W.keepIn K (.ref f5)=true)
 {oc6 kV6 dc6 pm6 cd6 ct6:Value} {od6 an6:Option Addr} {sl6:Array (Option Value)}
 (a6:PySem.W.findIn K (.ref oC_Sheet) "judges" = some (some (.ref f6))) (i6:PySem.W.isFn K (.ref f6)=true) (l6:K.lookup f6=some ⟨oc6,od6,.func (PySem.W.fnOf "judges" "Sheet.judges" (zr y8) (zp y8) (zc y8) .none kV6 dc6 pm6 an6 cd6 ct6),sl6⟩) (c6:PySem.W.codeIn K cd6 "Sheet.judges" = true) (k6:PySem.W.keepIn K (.ref f6)=true)
 {oc7 kV7 dc7 pm7 cd7 ct7:Value} {od7 an7:Option Addr} {sl7:Array (Option Value)}
 (a7:PySem.W.findIn K (.ref oC_Sheet) "handed" = some (some (.ref f7))) (i7:PySem.W.isFn K (.ref f7)=true) (l7:K.lookup f7=some ⟨oc7,od7,.func (PySem.W.fnOf "handed" "Sheet.handed" (zr yB) (zp yB) (zc yB) .none kV7 dc7 pm7 an7 cd7 ct7),sl7⟩) (c7:PySem.W.codeIn K cd7 "Sheet.handed" = true) (k7:PySem.W.keepIn K (.ref f7)=true)
 {oc8 kV8 dc8 pm8 cd8 ct8:Value} {od8 an8:Option Addr} {sl8:Array (Option Value)}
 (a8:PySem.W.nsIn K mainGlobals "whole_card" = some (some (.ref f8))) (l8:K.lookup f8=some ⟨oc8,od8,.func (PySem.W.fnOf "whole_card" "whole_card" (zr wO) (zp wO) (zc wO) .none kV8 dc8 pm8 an8 cd8 ct8),sl8⟩) (c8:PySem.W.codeIn K cd8 "whole_card" = true) (k8:PySem.W.keepIn K (.ref f8)=true)
 {oc9 kV9 dc9 pm9 cd9 ct9:Value} {od9 an9:Option Addr} {sl9:Array (Option Value)}
 (a9:PySem.W.nsIn K mainGlobals "mark_on" = some (some (.ref f9))) (l9:K.lookup f9=some ⟨oc9,od9,.func (PySem.W.fnOf "mark_on" "mark_on" (zr zbo) (zp zbo) (zc zbo) .none kV9 dc9 pm9 an9 cd9 ct9),sl9⟩) (c9:PySem.W.codeIn K cd9 "mark_on" = true) (k9:PySem.W.keepIn K (.ref f9)=true)
 {oc10 kV10 dc10 pm10 cd10 ct10:Value} {od10 an10:Option Addr} {sl10:Array (Option Value)}
 (a10:PySem.W.nsIn K mainGlobals "without_couple" = some (some (.ref f10))) (l10:K.lookup f10=some ⟨oc10,od10,.func (PySem.W.fnOf "without_couple" "without_couple" (zr yk) (zp yk) (zc yk) .none kV10 dc10 pm10 an10 cd10 ct10),sl10⟩) (c10:PySem.W.codeIn K cd10 "without_couple" = true) (k10:PySem.W.keepIn K (.ref f10)=true)
 {oc11 kV11 dc11 pm11 cd11 ct11:Value} {od11 an11:Option Addr} {sl11:Array (Option Value)}
 (a11:PySem.W.nsIn K mainGlobals "one_up" = some (some (.ref f11))) (l11:K.lookup f11=some ⟨oc11,od11,.func (PySem.W.fnOf "one_up" "one_up" (zr zb5) (zp zb5) (zc zb5) .none kV11 dc11 pm11 an11 cd11 ct11),sl11⟩) (c11:PySem.W.codeIn K cd11 "one_up" = true) (k11:PySem.W.keepIn K (.ref f11)=true)
 {oc12 kV12 dc12 pm12 cd12 ct12:Value} {od12 an12:Option Addr} {sl12:Array (Option Value)}
 (a12:PySem.W.nsIn K mainGlobals "good_number" = some (some (.ref f12))) (l12:K.lookup f12=some ⟨oc12,od12,.func (PySem.W.fnOf "good_number" "good_number" (zr wt) (zp wt) (zc wt) .none kV12 dc12 pm12 an12 cd12 ct12),sl12⟩) (c12:PySem.W.codeIn K cd12 "good_number" = true) (k12:PySem.W.keepIn K (.ref f12)=true)
 {oc13 kV13 dc13 pm13 cd13 ct13:Value} {od13 an13:Option Addr} {sl13:Array (Option Value)}
 (a13:PySem.W.nsIn K mainGlobals "small_letter" = some (some (.ref f13))) (l13:K.lookup f13=some ⟨oc13,od13,.func (PySem.W.fnOf "small_letter" "small_letter" (zr yX) (zp yX) (zc yX) .none kV13 dc13 pm13 an13 cd13 ct13),sl13⟩) (c13:PySem.W.codeIn K cd13 "small_letter" = true) (k13:PySem.W.keepIn K (.ref f13)=true)
 {oc14 kV14 dc14 pm14 cd14 ct14:Value} {od14 an14:Option Addr} {sl14:Array (Option Value)}
 (a14:PySem.W.nsIn K mainGlobals "good_length" = some (some (.ref f14))) (l14:K.lookup f14=some ⟨oc14,od14,.func (PySem.W.fnOf "good_length" "good_length" (zr wm) (zp wm) (zc wm) .none kV14 dc14 pm14 an14 cd14 ct14),sl14⟩) (c14:PySem.W.codeIn K cd14 "good_length" = true) (k14:PySem.W.keepIn K (.ref f14)=true)
 {oc15 kV15 dc15 pm15 cd15 ct15:Value} {od15 an15:Option Addr} {sl15:Array (Option Value)}
 (a15:PySem.W.nsIn K mainGlobals "all_unlike" = some (some (.ref f15))) (l15:K.lookup f15=some ⟨oc15,od15,.func (PySem.W.fnOf "all_unlike" "all_unlike" (zr wS) (zp wS) (zc wS) .none kV15 dc15 pm15 an15 cd15 ct15),sl15⟩) (c15:PySem.W.codeIn K cd15 "all_unlike" = true) (k15:PySem.W.keepIn K (.ref f15)=true)
 {oc16 kV16 dc16 pm16 cd16 ct16:Value} {od16 an16:Option Addr} {sl16:Array (Option Value)}
 (a16:PySem.W.nsIn K mainGlobals "majority_of" = some (some (.ref f16))) (l16:K.lookup f16=some ⟨oc16,od16,.func (PySem.W.fnOf "majority_of" "majority_of" (zr wq) (zp wq) (zc wq) .none kV16 dc16 pm16 an16 cd16 ct16),sl16⟩) (c16:PySem.W.codeIn K cd16 "majority_of" = true) (k16:PySem.W.keepIn K (.ref f16)=true)
 {oc17 kV17 dc17 pm17 cd17 ct17:Value} {od17 an17:Option Addr} {sl17:Array (Option Value)}
 (a17:PySem.W.nsIn K mainGlobals "granting" = some (some (.ref f17))) (l17:K.lookup f17=some ⟨oc17,od17,.func (PySem.W.fnOf "granting" "granting" (zr zag) (zp zag) (zc zag) .none kV17 dc17 pm17 an17 cd17 ct17),sl17⟩) (c17:PySem.W.codeIn K cd17 "granting" = true) (k17:PySem.W.keepIn K (.ref f17)=true)
 {oc18 kV18 dc18 pm18 cd18 ct18:Value} {od18 an18:Option Addr} {sl18:Array (Option Value)}
 (a18:PySem.W.nsIn K mainGlobals "_law_whole" = some (some (.ref f18))) (l18:K.lookup f18=some ⟨oc18,od18,.func (PySem.W.fnOf "_law_whole" "_law_whole" (zr zau) (zp zau) (zc zau) .none kV18 dc18 pm18 an18 cd18 ct18),sl18⟩) (c18:PySem.W.codeIn K cd18 "_law_whole" = true) (k18:PySem.W.keepIn K (.ref f18)=true)
 {oc19 kV19 dc19 pm19 cd19 ct19:Value} {od19 an19:Option Addr} {sl19:Array (Option Value)}
 (a19:PySem.W.nsIn K mainGlobals "_law_at" = some (some (.ref f19))) (l19:K.lookup f19=some ⟨oc19,od19,.func (PySem.W.fnOf "_law_at" "_law_at" (zr zb6) (zp zb6) (zc zb6) .none kV19 dc19 pm19 an19 cd19 ct19),sl19⟩) (c19:PySem.W.codeIn K cd19 "_law_at" = true) (k19:PySem.W.keepIn K (.ref f19)=true)
 {oc20 kV20 dc20 pm20 cd20 ct20:Value} {od20 an20:Option Addr} {sl20:Array (Option Value)}
 (a20:PySem.W.nsIn K mainGlobals "_law_texts" = some (some (.ref f20))) (l20:K.lookup f20=some ⟨oc20,od20,.func (PySem.W.fnOf "_law_texts" "_law_texts" (zr zan) (zp zan) (zc zan) .none kV20 dc20 pm20 an20 cd20 ct20),sl20⟩) (c20:PySem.W.codeIn K cd20 "_law_texts" = true) (k20:PySem.W.keepIn K (.ref f20)=true)
 {oc21 kV21 dc21 pm21 cd21 ct21:Value} {od21 an21:Option Addr} {sl21:Array (Option Value)}
 (a21:PySem.W.nsIn K mainGlobals "_law_mix" = some (some (.ref f21))) (l21:K.lookup f21=some ⟨oc21,od21,.func (PySem.W.fnOf "_law_mix" "_law_mix" (zr zbm) (zp zbm) (zc zbm) .none kV21 dc21 pm21 an21 cd21 ct21),sl21⟩) (c21:PySem.W.codeIn K cd21 "_law_mix" = true) (k21:PySem.W.keepIn K (.ref f21)=true)
 {oc22 kV22 dc22 pm22 cd22 ct22:Value} {od22 an22:Option Addr} {sl22:Array (Option Value)}
 (a22:PySem.W.nsIn K mainGlobals "_law_many" = some (some (.ref f22))) (l22:K.lookup f22=some ⟨oc22,od22,.func (PySem.W.fnOf "_law_many" "_law_many" (zr zaM) (zp zaM) (zc zaM) .none kV22 dc22 pm22 an22 cd22 ct22),sl22⟩) (c22:PySem.W.codeIn K cd22 "_law_many" = true) (k22:PySem.W.keepIn K (.ref f22)=true)
 {oc23 kV23 dc23 pm23 cd23 ct23:Value} {od23 an23:Option Addr} {sl23:Array (Option Value)}
 (a23:PySem.W.nsIn K mainGlobals "_law_couples" = some (some (.ref f23))) (l23:K.lookup f23=some ⟨oc23,od23,.func (PySem.W.fnOf "_law_couples" "_law_couples" (zr yQ) (zp yQ) (zc yQ) .none kV23 dc23 pm23 an23 cd23 ct23),sl23⟩) (c23:PySem.W.codeIn K cd23 "_law_couples" = true) (k23:PySem.W.keepIn K (.ref f23)=true)
 {oc24 kV24 dc24 pm24 cd24 ct24:Value} {od24 an24:Option Addr} {sl24:Array (Option Value)}
 (a24:PySem.W.nsIn K mainGlobals "_law_marks" = some (some (.ref f24))) (l24:K.lookup f24=some ⟨oc24,od24,.func (PySem.W.fnOf "_law_marks" "_law_marks" (zr wA) (zp wA) (zc wA) .none kV24 dc24 pm24 an24 cd24 ct24),sl24⟩) (c24:PySem.W.codeIn K cd24 "_law_marks" = true) (k24:PySem.W.keepIn K (.ref f24)=true)
 {oc25 kV25 dc25 pm25 cd25 ct25:Value} {od25 an25:Option Addr} {sl25:Array (Option Value)}
 (a25:PySem.W.nsIn K mainGlobals "_law_key" = some (some (.ref f25))) (l25:K.lookup f25=some ⟨oc25,od25,.func (PySem.W.fnOf "_law_key" "_law_key" (zr zaV) (zp zaV) (zc zaV) .none kV25 dc25 pm25 an25 cd25 ct25),sl25⟩) (c25:PySem.W.codeIn K cd25 "_law_key" = true) (k25:PySem.W.keepIn K (.ref f25)=true)
 {oc26 kV26 dc26 pm26 cd26 ct26:Value} {od26 an26:Option Addr} {sl26:Array (Option Value)}
 (a26:PySem.W.nsIn K mainGlobals "_law_good" = some (some (.ref f26))) (l26:K.lookup f26=some ⟨oc26,od26,.func (PySem.W.fnOf "_law_good" "_law_good" (zr zaI) (zp zaI) (zc zaI) .none kV26 dc26 pm26 an26 cd26 ct26),sl26⟩) (c26:PySem.W.codeIn K cd26 "_law_good" = true) (k26:PySem.W.keepIn K (.ref f26)=true)
 {oc27 kV27 dc27 pm27 cd27 ct27:Value} {od27 an27:Option Addr} {sl27:Array (Option Value)}
 (a27:PySem.W.nsIn K mainGlobals "_law_spoiled" = some (some (.ref f27))) (l27:K.lookup f27=some ⟨oc27,od27,.func (PySem.W.fnOf "_law_spoiled" "_law_spoiled" (zr wn) (zp wn) (zc wn) .none kV27 dc27 pm27 an27 cd27 ct27),sl27⟩) (c27:PySem.W.codeIn K cd27 "_law_spoiled" = true) (k27:PySem.W.keepIn K (.ref f27)=true)
 {oc28 kV28 dc28 pm28 cd28 ct28:Value} {od28 an28:Option Addr} {sl28:Array (Option Value)}
 (a28:PySem.W.nsIn K mainGlobals "_law_stranger" = some (some (.ref f28))) (l28:K.lookup f28=some ⟨oc28,od28,.func (PySem.W.fnOf "_law_stranger" "_law_stranger" (zr yU) (zp yU) (zc yU) .none kV28 dc28 pm28 an28 cd28 ct28),sl28⟩) (c28:PySem.W.codeIn K cd28 "_law_stranger" = true) (k28:PySem.W.keepIn K (.ref f28)=true)
 {oc29 kV29 dc29 pm29 cd29 ct29:Value} {od29 an29:Option Addr} {sl29:Array (Option Value)}
 (a29:PySem.W.nsIn K mainGlobals "_law_without" = some (some (.ref f29))) (l29:K.lookup f29=some ⟨oc29,od29,.func (PySem.W.fnOf "_law_without" "_law_without" (zr yP) (zp yP) (zc yP) .none kV29 dc29 pm29 an29 cd29 ct29),sl29⟩) (c29:PySem.W.codeIn K cd29 "_law_without" = true) (k29:PySem.W.keepIn K (.ref f29)=true)
 {oc30 kV30 dc30 pm30 cd30 ct30:Value} {od30 an30:Option Addr} {sl30:Array (Option Value)}
 (a30:PySem.W.nsIn K mainGlobals "_law_stray" = some (some (.ref f30))) (l30:K.lookup f30=some ⟨oc30,od30,.func (PySem.W.fnOf "_law_stray" "_law_stray" (zr zaq) (zp zaq) (zc zaq) .none kV30 dc30 pm30 an30 cd30 ct30),sl30⟩) (c30:PySem.W.codeIn K cd30 "_law_stray" = true) (k30:PySem.W.keepIn K (.ref f30)=true)
 {oc31 kV31 dc31 pm31 cd31 ct31:Value} {od31 an31:Option Addr} {sl31:Array (Option Value)}
 (a31:PySem.W.findIn K (.ref oC_Sheet) "hand_in" = some (some (.ref f31))) (i31:PySem.W.isFn K (.ref f31)=true) (l31:K.lookup f31=some ⟨oc31,od31,.func (PySem.W.fnOf "hand_in" "Sheet.hand_in" (zr yG) (zp yG) (zc yG) .none kV31 dc31 pm31 an31 cd31 ct31),sl31⟩) (c31:PySem.W.codeIn K cd31 "Sheet.hand_in" = true) (k31:PySem.W.keepIn K (.ref f31)=true)
 {oc32 kV32 dc32 pm32 cd32 ct32:Value} {od32 an32:Option Addr} {sl32:Array (Option Value)}
 (a32:PySem.W.findIn K (.ref oC_Sheet) "strike" = some (some (.ref f32))) (i32:PySem.W.isFn K (.ref f32)=true) (l32:K.lookup f32=some ⟨oc32,od32,.func (PySem.W.fnOf "strike" "Sheet.strike" (zr y6) (zp y6) (zc y6) .none kV32 dc32 pm32 an32 cd32 ct32),sl32⟩) (c32:PySem.W.codeIn K cd32 "Sheet.strike" = true) (k32:PySem.W.keepIn K (.ref f32)=true)
 {oc33 kV33 dc33 pm33 cd33 ct33:Value} {od33 an33:Option Addr} {sl33:Array (Option Value)}
 (a33:PySem.W.findIn K (.ref oC_Sheet) "seal" = some (some (.ref f33))) (i33:PySem.W.isFn K (.ref f33)=true) (l33:K.lookup f33=some ⟨oc33,od33,.func (PySem.W.fnOf "seal" "Sheet.seal" (zr wM) (zp wM) (zc wM) .none kV33 dc33 pm33 an33 cd33 ct33),sl33⟩) (c33:PySem.W.codeIn K cd33 "Sheet.seal" = true) (k33:PySem.W.keepIn K (.ref f33)=true)
 {oc34 kV34 dc34 pm34 cd34 ct34:Value} {od34 an34:Option Addr} {sl34:Array (Option Value)}
 (a34:PySem.W.findIn K (.ref oC_Sheet) "card_of" = some (some (.ref f34))) (i34:PySem.W.isFn K (.ref f34)=true) (l34:K.lookup f34=some ⟨oc34,od34,.func (PySem.W.fnOf "card_of" "Sheet.card_of" (zr yF) (zp yF) (zc yF) .none kV34 dc34 pm34 an34 cd34 ct34),sl34⟩) (c34:PySem.W.codeIn K cd34 "Sheet.card_of" = true) (k34:PySem.W.keepIn K (.ref f34)=true)
 {oc35 kV35 dc35 pm35 cd35 ct35:Value} {od35 an35:Option Addr} {sl35:Array (Option Value)}
 (a35:PySem.W.nsIn K mainGlobals "good_couples" = some (some (.ref f35))) (l35:K.lookup f35=some ⟨oc35,od35,.func (PySem.W.fnOf "good_couples" "good_couples" (zr yz) (zp yz) (zc yz) .none kV35 dc35 pm35 an35 cd35 ct35),sl35⟩) (c35:PySem.W.codeIn K cd35 "good_couples" = true) (k35:PySem.W.keepIn K (.ref f35)=true)
 {oc36 kV36 dc36 pm36 cd36 ct36:Value} {od36 an36:Option Addr} {sl36:Array (Option Value)}
 (a36:PySem.W.nsIn K mainGlobals "good_name" = some (some (.ref f36))) (l36:K.lookup f36=some ⟨oc36,od36,.func (PySem.W.fnOf "good_name" "good_name" (zr wF) (zp wF) (zc wF) .none kV36 dc36 pm36 an36 cd36 ct36),sl36⟩) (c36:PySem.W.codeIn K cd36 "good_name" = true) (k36:PySem.W.keepIn K (.ref f36)=true)
 {oc37 kV37 dc37 pm37 cd37 ct37:Value} {od37 an37:Option Addr} {sl37:Array (Option Value)}
 (a37:PySem.W.nsIn K mainGlobals "marks_of" = some (some (.ref f37))) (l37:K.lookup f37=some ⟨oc37,od37,.func (PySem.W.fnOf "marks_of" "marks_of" (zr zah) (zp zah) (zc zah) .none kV37 dc37 pm37 an37 cd37 ct37),sl37⟩) (c37:PySem.W.codeIn K cd37 "marks_of" = true) (k37:PySem.W.keepIn K (.ref f37)=true)
 {oc38 kV38 dc38 pm38 cd38 ct38:Value} {od38 an38:Option Addr} {sl38:Array (Option Value)}
 (a38:PySem.W.nsIn K mainGlobals "granted" = some (some (.ref f38))) (l38:K.lookup f38=some ⟨oc38,od38,.func (PySem.W.fnOf "granted" "granted" (zr zbl) (zp zbl) (zc zbl) .none kV38 dc38 pm38 an38 cd38 ct38),sl38⟩) (c38:PySem.W.codeIn K cd38 "granted" = true) (k38:PySem.W.keepIn K (.ref f38)=true)
 {oc39 kV39 dc39 pm39 cd39 ct39:Value} {od39 an39:Option Addr} {sl39:Array (Option Value)}
 (a39:PySem.W.nsIn K mainGlobals "granted_sum" = some (some (.ref f39))) (l39:K.lookup f39=some ⟨oc39,od39,.func (PySem.W.fnOf "granted_sum" "granted_sum" (zr wp) (zp wp) (zc wp) .none kV39 dc39 pm39 an39 cd39 ct39),sl39⟩) (c39:PySem.W.codeIn K cd39 "granted_sum" = true) (k39:PySem.W.keepIn K (.ref f39)=true)
 {oc40 kV40 dc40 pm40 cd40 ct40:Value} {od40 an40:Option Addr} {sl40:Array (Option Value)}
 (a40:PySem.W.nsIn K mainGlobals "first_number" = some (some (.ref f40))) (l40:K.lookup f40=some ⟨oc40,od40,.func (PySem.W.fnOf "first_number" "first_number" (zr yV) (zp yV) (zc yV) .none kV40 dc40 pm40 an40 cd40 ct40),sl40⟩) (c40:PySem.W.codeIn K cd40 "first_number" = true) (k40:PySem.W.keepIn K (.ref f40)=true)
 {oc41 kV41 dc41 pm41 cd41 ct41:Value} {od41 an41:Option Addr} {sl41:Array (Option Value)}
 (a41:PySem.W.nsIn K mainGlobals "refuse_fewer_cards" = some (some (.ref f41))) (l41:K.lookup f41=some ⟨oc41,od41,.func (PySem.W.fnOf "refuse_fewer_cards" "refuse_fewer_cards" (zr yc) (zp yc) (zc yc) .none kV41 dc41 pm41 an41 cd41 ct41),sl41⟩) (c41:PySem.W.codeIn K cd41 "refuse_fewer_cards" = true) (k41:PySem.W.keepIn K (.ref f41)=true)
 {oc42 kV42 dc42 pm42 cd42 ct42:Value} {od42 an42:Option Addr} {sl42:Array (Option Value)}
 (a42:PySem.W.nsIn K mainGlobals "_law_same" = some (some (.ref f42))) (l42:K.lookup f42=some ⟨oc42,od42,.func (PySem.W.fnOf "_law_same" "_law_same" (zr zaL) (zp zaL) (zc zaL) .none kV42 dc42 pm42 an42 cd42 ct42),sl42⟩) (c42:PySem.W.codeIn K cd42 "_law_same" = true) (k42:PySem.W.keepIn K (.ref f42)=true)
 {oc43 kV43 dc43 pm43 cd43 ct43:Value} {od43 an43:Option Addr} {sl43:Array (Option Value)}
 (a43:PySem.W.nsIn K mainGlobals "_law_names" = some (some (.ref f43))) (l43:K.lookup f43=some ⟨oc43,od43,.func (PySem.W.fnOf "_law_names" "_law_names" (zr zat) (zp zat) (zc zat) .none kV43 dc43 pm43 an43 cd43 ct43),sl43⟩) (c43:PySem.W.codeIn K cd43 "_law_names" = true) (k43:PySem.W.keepIn K (.ref f43)=true)
 {oc44 kV44 dc44 pm44 cd44 ct44:Value} {od44 an44:Option Addr} {sl44:Array (Option Value)}
 (a44:PySem.W.nsIn K mainGlobals "_law_card" = some (some (.ref f44))) (l44:K.lookup f44=some ⟨oc44,od44,.func (PySem.W.fnOf "_law_card" "_law_card" (zr zaS) (zp zaS) (zc zaS) .none kV44 dc44 pm44 an44 cd44 ct44),sl44⟩) (c44:PySem.W.codeIn K cd44 "_law_card" = true) (k44:PySem.W.keepIn K (.ref f44)=true)
 {oc45 kV45 dc45 pm45 cd45 ct45:Value} {od45 an45:Option Addr} {sl45:Array (Option Value)}
 (a45:PySem.W.nsIn K mainGlobals "_law_spots" = some (some (.ref f45))) (l45:K.lookup f45=some ⟨oc45,od45,.func (PySem.W.fnOf "_law_spots" "_law_spots" (zr wb) (zp wb) (zc wb) .none kV45 dc45 pm45 an45 cd45 ct45),sl45⟩) (c45:PySem.W.codeIn K cd45 "_law_spots" = true) (k45:PySem.W.keepIn K (.ref f45)=true)
 {oc46 kV46 dc46 pm46 cd46 ct46:Value} {od46 an46:Option Addr} {sl46:Array (Option Value)}
 (a46:PySem.W.nsIn K mainGlobals "_law_due" = some (some (.ref f46))) (l46:K.lookup f46=some ⟨oc46,od46,.func (PySem.W.fnOf "_law_due" "_law_due" (zr zbn) (zp zbn) (zc zbn) .none kV46 dc46 pm46 an46 cd46 ct46),sl46⟩) (c46:PySem.W.codeIn K cd46 "_law_due" = true) (k46:PySem.W.keepIn K (.ref f46)=true)
 {oc47 kV47 dc47 pm47 cd47 ct47:Value} {od47 an47:Option Addr} {sl47:Array (Option Value)}
 (a47:PySem.W.findIn K (.ref oC_Sheet) "cards" = some (some (.ref f47))) (i47:PySem.W.isFn K (.ref f47)=true) (l47:K.lookup f47=some ⟨oc47,od47,.func (PySem.W.fnOf "cards" "Sheet.cards" (zr yK) (zp yK) (zc yK) .none kV47 dc47 pm47 an47 cd47 ct47),sl47⟩) (c47:PySem.W.codeIn K cd47 "Sheet.cards" = true) (k47:PySem.W.keepIn K (.ref f47)=true)
 {oc48 kV48 dc48 pm48 cd48 ct48:Value} {od48 an48:Option Addr} {sl48:Array (Option Value)}
 (a48:PySem.W.nsIn K mainGlobals "good_judges" = some (some (.ref f48))) (l48:K.lookup f48=some ⟨oc48,od48,.func (PySem.W.fnOf "good_judges" "good_judges" (zr yL) (zp yL) (zc yL) .none kV48 dc48 pm48 an48 cd48 ct48),sl48⟩) (c48:PySem.W.codeIn K cd48 "good_judges" = true) (k48:PySem.W.keepIn K (.ref f48)=true)
 {oc49 kV49 dc49 pm49 cd49 ct49:Value} {od49 an49:Option Addr} {sl49:Array (Option Value)}
 (a49:PySem.W.nsIn K mainGlobals "ladder_of" = some (some (.ref f49))) (l49:K.lookup f49=some ⟨oc49,od49,.func (PySem.W.fnOf "ladder_of" "ladder_of" (zr wC) (zp wC) (zc wC) .none kV49 dc49 pm49 an49 cd49 ct49),sl49⟩) (c49:PySem.W.codeIn K cd49 "ladder_of" = true) (k49:PySem.W.keepIn K (.ref f49)=true)
 {oc50 kV50 dc50 pm50 cd50 ct50:Value} {od50 an50:Option Addr} {sl50:Array (Option Value)}
 (a50:PySem.W.nsIn K mainGlobals "unlike_at" = some (some (.ref f50))) (l50:K.lookup f50=some ⟨oc50,od50,.func (PySem.W.fnOf "unlike_at" "unlike_at" (zr zaj) (zp zaj) (zc zaj) .none kV50 dc50 pm50 an50 cd50 ct50),sl50⟩) (c50:PySem.W.codeIn K cd50 "unlike_at" = true) (k50:PySem.W.keepIn K (.ref f50)=true)
 {oc51 kV51 dc51 pm51 cd51 ct51:Value} {od51 an51:Option Addr} {sl51:Array (Option Value)}
 (a51:PySem.W.nsIn K mainGlobals "cards_without" = some (some (.ref f51))) (l51:K.lookup f51=some ⟨oc51,od51,.func (PySem.W.fnOf "cards_without" "cards_without" (zr yp) (zp yp) (zc yp) .none kV51 dc51 pm51 an51 cd51 ct51),sl51⟩) (c51:PySem.W.codeIn K cd51 "cards_without" = true) (k51:PySem.W.keepIn K (.ref f51)=true)
 {oc52 kV52 dc52 pm52 cd52 ct52:Value} {od52 an52:Option Addr} {sl52:Array (Option Value)}
 (a52:PySem.W.nsIn K mainGlobals "_law_lists" = some (some (.ref f52))) (l52:K.lookup f52=some ⟨oc52,od52,.func (PySem.W.fnOf "_law_lists" "_law_lists" (zr zak) (zp zak) (zc zak) .none kV52 dc52 pm52 an52 cd52 ct52),sl52⟩) (c52:PySem.W.codeIn K cd52 "_law_lists" = true) (k52:PySem.W.keepIn K (.ref f52)=true)
 {oc53 kV53 dc53 pm53 cd53 ct53:Value} {od53 an53:Option Addr} {sl53:Array (Option Value)}
 (a53:PySem.W.nsIn K mainGlobals "_law_dealt" = some (some (.ref f53))) (l53:K.lookup f53=some ⟨oc53,od53,.func (PySem.W.fnOf "_law_dealt" "_law_dealt" (zr zaw) (zp zaw) (zc zaw) .none kV53 dc53 pm53 an53 cd53 ct53),sl53⟩) (c53:PySem.W.codeIn K cd53 "_law_dealt" = true) (k53:PySem.W.keepIn K (.ref f53)=true)
 {oc54 kV54 dc54 pm54 cd54 ct54:Value} {od54 an54:Option Addr} {sl54:Array (Option Value)}
 (a54:PySem.W.findIn K (.ref oC_Sheet) "__init__" = some (some (.ref f54))) (i54:PySem.W.isFn K (.ref f54)=true) (l54:K.lookup f54=some ⟨oc54,od54,.func (PySem.W.fnOf "__init__" "Sheet.__init__" (zr wN) (zp wN) (zc wN) .none kV54 dc54 pm54 an54 cd54 ct54),sl54⟩) (c54:PySem.W.codeIn K cd54 "Sheet.__init__" = true) (k54:PySem.W.keepIn K (.ref f54)=true)
 {oc55 kV55 dc55 pm55 cd55 ct55:Value} {od55 an55:Option Addr} {sl55:Array (Option Value)}
 (a55:PySem.W.nsIn K mainGlobals "is_ahead" = some (some (.ref f55))) (l55:K.lookup f55=some ⟨oc55,od55,.func (PySem.W.fnOf "is_ahead" "is_ahead" (zr zaQ) (zp zaQ) (zc zaQ) .none kV55 dc55 pm55 an55 cd55 ct55),sl55⟩) (c55:PySem.W.codeIn K cd55 "is_ahead" = true) (k55:PySem.W.keepIn K (.ref f55)=true)
 {oc56 kV56 dc56 pm56 cd56 ct56:Value} {od56 an56:Option Addr} {sl56:Array (Option Value)}
 (a56:PySem.W.nsIn K mainGlobals "row_text" = some (some (.ref f56))) (l56:K.lookup f56=some ⟨oc56,od56,.func (PySem.W.fnOf "row_text" "row_text" (zr wJ) (zp wJ) (zc wJ) .none kV56 dc56 pm56 an56 cd56 ct56),sl56⟩) (c56:PySem.W.codeIn K cd56 "row_text" = true) (k56:PySem.W.keepIn K (.ref f56)=true)
 {oc57 kV57 dc57 pm57 cd57 ct57:Value} {od57 an57:Option Addr} {sl57:Array (Option Value)}
 (a57:PySem.W.nsIn K mainGlobals "_law_stands" = some (some (.ref f57))) (l57:K.lookup f57=some ⟨oc57,od57,.func (PySem.W.fnOf "_law_stands" "_law_stands" (zr yu) (zp yu) (zc yu) .none kV57 dc57 pm57 an57 cd57 ct57),sl57⟩) (c57:PySem.W.codeIn K cd57 "_law_stands" = true) (k57:PySem.W.keepIn K (.ref f57)=true)
 {oc58 kV58 dc58 pm58 cd58 ct58:Value} {od58 an58:Option Addr} {sl58:Array (Option Value)}
 (a58:PySem.W.nsIn K mainGlobals "place_among" = some (some (.ref f58))) (l58:K.lookup f58=some ⟨oc58,od58,.func (PySem.W.fnOf "place_among" "place_among" (zr yM) (zp yM) (zc yM) .none kV58 dc58 pm58 an58 cd58 ct58),sl58⟩) (c58:PySem.W.codeIn K cd58 "place_among" = true) (k58:PySem.W.keepIn K (.ref f58)=true)
 {oc59 kV59 dc59 pm59 cd59 ct59:Value} {od59 an59:Option Addr} {sl59:Array (Option Value)}
 (a59:PySem.W.nsIn K mainGlobals "places_of" = some (some (.ref f59))) (l59:K.lookup f59=some ⟨oc59,od59,.func (PySem.W.fnOf "places_of" "places_of" (zr wd) (zp wd) (zc wd) .none kV59 dc59 pm59 an59 cd59 ct59),sl59⟩) (c59:PySem.W.codeIn K cd59 "places_of" = true) (k59:PySem.W.keepIn K (.ref f59)=true)
 {oc60 kV60 dc60 pm60 cd60 ct60:Value} {od60 an60:Option Addr} {sl60:Array (Option Value)}
 (a60:PySem.W.nsIn K mainGlobals "places" = some (some (.ref f60))) (l60:K.lookup f60=some ⟨oc60,od60,.func (PySem.W.fnOf "places" "places" (zr zbZ) (zp zbZ) (zc zbZ) .none kV60 dc60 pm60 an60 cd60 ct60),sl60⟩) (c60:PySem.W.codeIn K cd60 "places" = true) (k60:PySem.W.keepIn K (.ref f60)=true)
 {oc61 kV61 dc61 pm61 cd61 ct61:Value} {od61 an61:Option Addr} {sl61:Array (Option Value)}
 (a61:PySem.W.nsIn K mainGlobals "left_out" = some (some (.ref f61))) (l61:K.lookup f61=some ⟨oc61,od61,.func (PySem.W.fnOf "left_out" "left_out" (zr zaR) (zp zaR) (zc zaR) .none kV61 dc61 pm61 an61 cd61 ct61),sl61⟩) (c61:PySem.W.codeIn K cd61 "left_out" = true) (k61:PySem.W.keepIn K (.ref f61)=true)
 {oc62 kV62 dc62 pm62 cd62 ct62:Value} {od62 an62:Option Addr} {sl62:Array (Option Value)}
 (a62:PySem.W.nsIn K mainGlobals "step_up" = some (some (.ref f62))) (l62:K.lookup f62=some ⟨oc62,od62,.func (PySem.W.fnOf "step_up" "step_up" (zr zaP) (zp zaP) (zc zaP) .none kV62 dc62 pm62 an62 cd62 ct62),sl62⟩) (c62:PySem.W.codeIn K cd62 "step_up" = true) (k62:PySem.W.keepIn K (.ref f62)=true)
 {oc63 kV63 dc63 pm63 cd63 ct63:Value} {od63 an63:Option Addr} {sl63:Array (Option Value)}
 (a63:PySem.W.nsIn K mainGlobals "firsts_of" = some (some (.ref f63))) (l63:K.lookup f63=some ⟨oc63,od63,.func (PySem.W.fnOf "firsts_of" "firsts_of" (zr wH) (zp wH) (zc wH) .none kV63 dc63 pm63 an63 cd63 ct63),sl63⟩) (c63:PySem.W.codeIn K cd63 "firsts_of" = true) (k63:PySem.W.keepIn K (.ref f63)=true)
 {oc64 kV64 dc64 pm64 cd64 ct64:Value} {od64 an64:Option Addr} {sl64:Array (Option Value)}
 (a64:PySem.W.nsIn K mainGlobals "firsts" = some (some (.ref f64))) (l64:K.lookup f64=some ⟨oc64,od64,.func (PySem.W.fnOf "firsts" "firsts" (zr zb4) (zp zb4) (zc zb4) .none kV64 dc64 pm64 an64 cd64 ct64),sl64⟩) (c64:PySem.W.codeIn K cd64 "firsts" = true) (k64:PySem.W.keepIn K (.ref f64)=true)
 {oc65 kV65 dc65 pm65 cd65 ct65:Value} {od65 an65:Option Addr} {sl65:Array (Option Value)}
 (a65:PySem.W.nsIn K mainGlobals "table_row" = some (some (.ref f65))) (l65:K.lookup f65=some ⟨oc65,od65,.func (PySem.W.fnOf "table_row" "table_row" (zr zam) (zp zam) (zc zam) .none kV65 dc65 pm65 an65 cd65 ct65),sl65⟩) (c65:PySem.W.codeIn K cd65 "table_row" = true) (k65:PySem.W.keepIn K (.ref f65)=true)
 {oc66 kV66 dc66 pm66 cd66 ct66:Value} {od66 an66:Option Addr} {sl66:Array (Option Value)}
 (a66:PySem.W.nsIn K mainGlobals "_law_placed" = some (some (.ref f66))) (l66:K.lookup f66=some ⟨oc66,od66,.func (PySem.W.fnOf "_law_placed" "_law_placed" (zr wj) (zp wj) (zc wj) .none kV66 dc66 pm66 an66 cd66 ct66),sl66⟩) (c66:PySem.W.codeIn K cd66 "_law_placed" = true) (k66:PySem.W.keepIn K (.ref f66)=true)
 {oc67 kV67 dc67 pm67 cd67 ct67:Value} {od67 an67:Option Addr} {sl67:Array (Option Value)}
 (a67:PySem.W.nsIn K mainGlobals "deciders" = some (some (.ref f67))) (l67:K.lookup f67=some ⟨oc67,od67,.func (PySem.W.fnOf "deciders" "deciders" (zr zai) (zp zai) (zc zai) .none kV67 dc67 pm67 an67 cd67 ct67),sl67⟩) (c67:PySem.W.codeIn K cd67 "deciders" = true) (k67:PySem.W.keepIn K (.ref f67)=true)
 {oc68 kV68 dc68 pm68 cd68 ct68:Value} {od68 an68:Option Addr} {sl68:Array (Option Value)}
 (a68:PySem.W.nsIn K mainGlobals "_law_do" = some (some (.ref f68))) (l68:K.lookup f68=some ⟨oc68,od68,.func (PySem.W.fnOf "_law_do" "_law_do" (zr zb3) (zp zb3) (zc zb3) .none kV68 dc68 pm68 an68 cd68 ct68),sl68⟩) (c68:PySem.W.codeIn K cd68 "_law_do" = true) (k68:PySem.W.keepIn K (.ref f68)=true)
 {oc69 kV69 dc69 pm69 cd69 ct69:Value} {od69 an69:Option Addr} {sl69:Array (Option Value)}
 (a69:PySem.W.nsIn K mainGlobals "_law_done" = some (some (.ref f69))) (l69:K.lookup f69=some ⟨oc69,od69,.func (PySem.W.fnOf "_law_done" "_law_done" (zr zaY) (zp zaY) (zc zaY) .none kV69 dc69 pm69 an69 cd69 ct69),sl69⟩) (c69:PySem.W.codeIn K cd69 "_law_done" = true) (k69:PySem.W.keepIn K (.ref f69)=true)
 {oc70 kV70 dc70 pm70 cd70 ct70:Value} {od70 an70:Option Addr} {sl70:Array (Option Value)}
 (a70:PySem.W.nsIn K mainGlobals "law" = some (some (.ref f70))) (l70:K.lookup f70=some ⟨oc70,od70,.func (PySem.W.fnOf "law" "law" (zr zcw) (zp zcw) (zc zcw) .none kV70 dc70 pm70 an70 cd70 ct70),sl70⟩) (c70:PySem.W.codeIn K cd70 "law" = true) (k70:PySem.W.keepIn K (.ref f70)=true)
 (z0:PySem.W.nsIn K mainGlobals "all" = some none)
 (z1:PySem.W.nsIn K mainGlobals "bool" = some none)
 (z2:PySem.W.nsIn K mainGlobals "int" = some none)
 (z3:PySem.W.nsIn K mainGlobals "isinstance" = some none)
 (z4:PySem.W.nsIn K mainGlobals "len" = some none)
 (z5:PySem.W.nsIn K mainGlobals "list" = some none)
 (z6:PySem.W.nsIn K mainGlobals "max" = some none)
 (z7:PySem.W.nsIn K mainGlobals "range" = some none)
 (z8:PySem.W.nsIn K mainGlobals "set" = some none)
 (z9:PySem.W.nsIn K mainGlobals "sorted" = some none)
 (z10:PySem.W.nsIn K mainGlobals "str" = some none)
 (z11:PySem.W.nsIn K mainGlobals "sum" = some none)
 (z12:PySem.W.nsIn K mainGlobals "zip" = some none)
 {t0:Tok} (y0:PySem.W.nsIn K mainGlobals "MOST_COUPLES" = some (some (.int 24 t0)))
 {t1:Tok} (y1:PySem.W.nsIn K mainGlobals "MOST_JUDGES" = some (some (.int 15 t1)))
 {t2:Tok} (y2:PySem.W.nsIn K mainGlobals "MOST_NUMBER" = some (some (.int 999 t2)))
 {t3:Tok} (y3:PySem.W.nsIn K mainGlobals "MOST_SIGNS" = some (some (.int 8 t3)))
 {t4:Tok} (y4:PySem.W.nsIn K mainGlobals "MOST_CARDS" = some (some (.int 200 t4)))
 {xc0:Addr} (xa0:PySem.W.nsIn K mainGlobals "PanelError" = some (some (.ref xc0)))
 {xc1:Addr} (xa1:PySem.W.nsIn K mainGlobals "BadCouples" = some (some (.ref xc1)))
 {xc2:Addr} (xa2:PySem.W.nsIn K mainGlobals "BadJudges" = some (some (.ref xc2)))
 {xc3:Addr} (xa3:PySem.W.nsIn K mainGlobals "SheetSealed" = some (some (.ref xc3)))
 {xc4:Addr} (xa4:PySem.W.nsIn K mainGlobals "UnknownJudge" = some (some (.ref xc4)))
 {xc5:Addr} (xa5:PySem.W.nsIn K mainGlobals "BadCard" = some (some (.ref xc5)))
 {xc6:Addr} (xa6:PySem.W.nsIn K mainGlobals "TooManyCards" = some (some (.ref xc6)))
 {xc7:Addr} (xa7:PySem.W.nsIn K mainGlobals "UnknownCouple" = some (some (.ref xc7)))
 {xc8:Addr} (xa8:PySem.W.nsIn K mainGlobals "LastCouple" = some (some (.ref xc8)))
 {xc9:Addr} (xa9:PySem.W.nsIn K mainGlobals "NoCard" = some (some (.ref xc9)))
 {xc10:Addr} (xa10:PySem.W.nsIn K mainGlobals "TooFewCards" = some (some (.ref xc10)))
 {xc11:Addr} (xa11:PySem.W.nsIn K mainGlobals "AtTop" = some (some (.ref xc11)))
 (xe0:PySem.W.excIn K xc0 bmV "ValueError.__new__" = true)
 (xe1:PySem.W.excIn K xc1 bmV "ValueError.__new__" = true)
 (xe2:PySem.W.excIn K xc2 bmV "ValueError.__new__" = true)
 (xe3:PySem.W.excIn K xc3 bmV "ValueError.__new__" = true)
 (xi3:L2.exI K xc3=true)
 (xs3_0:L2.wk K xc3 xc0=true)
 (xk3_3:PySem.W.kitOne K (.ref xc3) (.ref xc3)=some true)
 (xk3_4:PySem.W.kitOne K (.ref xc3) (.ref xc4)=some false)
 (xk3_5:PySem.W.kitOne K (.ref xc3) (.ref xc5)=some false)
 (xk3_6:PySem.W.kitOne K (.ref xc3) (.ref xc6)=some false)
 (xk3_7:PySem.W.kitOne K (.ref xc3) (.ref xc7)=some false)
 (xk3_8:PySem.W.kitOne K (.ref xc3) (.ref xc8)=some false)
 (xk3_9:PySem.W.kitOne K (.ref xc3) (.ref xc9)=some false)
 (xk3_10:PySem.W.kitOne K (.ref xc3) (.ref xc10)=some false)
 (xk3_11:PySem.W.kitOne K (.ref xc3) (.ref xc11)=some false)
 (xe4:PySem.W.excIn K xc4 bmV "ValueError.__new__" = true)
 (xi4:L2.exI K xc4=true)
 (xs4_0:L2.wk K xc4 xc0=true)
 (xk4_3:PySem.W.kitOne K (.ref xc4) (.ref xc3)=some false)
 (xk4_4:PySem.W.kitOne K (.ref xc4) (.ref xc4)=some true)
 (xk4_5:PySem.W.kitOne K (.ref xc4) (.ref xc5)=some false)
 (xk4_6:PySem.W.kitOne K (.ref xc4) (.ref xc6)=some false)
 (xk4_7:PySem.W.kitOne K (.ref xc4) (.ref xc7)=some false)
 (xk4_8:PySem.W.kitOne K (.ref xc4) (.ref xc8)=some false)
 (xk4_9:PySem.W.kitOne K (.ref xc4) (.ref xc9)=some false)
 (xk4_10:PySem.W.kitOne K (.ref xc4) (.ref xc10)=some false)
 (xk4_11:PySem.W.kitOne K (.ref xc4) (.ref xc11)=some false)
 (xe5:PySem.W.excIn K xc5 bmV "ValueError.__new__" = true)
 (xi5:L2.exI K xc5=true)
 (xs5_0:L2.wk K xc5 xc0=true)
 (xk5_3:PySem.W.kitOne K (.ref xc5) (.ref xc3)=some false)
 (xk5_4:PySem.W.kitOne K (.ref xc5) (.ref xc4)=some false)
 (xk5_5:PySem.W.kitOne K (.ref xc5) (.ref xc5)=some true)
 (xk5_6:PySem.W.kitOne K (.ref xc5) (.ref xc6)=some false)
 (xk5_7:PySem.W.kitOne K (.ref xc5) (.ref xc7)=some false)
 (xk5_8:PySem.W.kitOne K (.ref xc5) (.ref xc8)=some false)
 (xk5_9:PySem.W.kitOne K (.ref xc5) (.ref xc9)=some false)
 (xk5_10:PySem.W.kitOne K (.ref xc5) (.ref xc10)=some false)
 (xk5_11:PySem.W.kitOne K (.ref xc5) (.ref xc11)=some false)
 (xe6:PySem.W.excIn K xc6 bmV "ValueError.__new__" = true)
 (xi6:L2.exI K xc6=true)
 (xs6_0:L2.wk K xc6 xc0=true)
 (xk6_3:PySem.W.kitOne K (.ref xc6) (.ref xc3)=some false)
 (xk6_4:PySem.W.kitOne K (.ref xc6) (.ref xc4)=some false)
 (xk6_5:PySem.W.kitOne K (.ref xc6) (.ref xc5)=some false)
 (xk6_6:PySem.W.kitOne K (.ref xc6) (.ref xc6)=some true)
 (xk6_7:PySem.W.kitOne K (.ref xc6) (.ref xc7)=some false)
 (xk6_8:PySem.W.kitOne K (.ref xc6) (.ref xc8)=some false)
 (xk6_9:PySem.W.kitOne K (.ref xc6) (.ref xc9)=some false)
 (xk6_10:PySem.W.kitOne K (.ref xc6) (.ref xc10)=some false)
 (xk6_11:PySem.W.kitOne K (.ref xc6) (.ref xc11)=some false)
 (xe7:PySem.W.excIn K xc7 bmV "ValueError.__new__" = true)
 (xi7:L2.exI K xc7=true)
 (xs7_0:L2.wk K xc7 xc0=true)
 (xk7_3:PySem.W.kitOne K (.ref xc7) (.ref xc3)=some false)
 (xk7_4:PySem.W.kitOne K (.ref xc7) (.ref xc4)=some false)
 (xk7_5:PySem.W.kitOne K (.ref xc7) (.ref xc5)=some false)
 (xk7_6:PySem.W.kitOne K (.ref xc7) (.ref xc6)=some false)
 (xk7_7:PySem.W.kitOne K (.ref xc7) (.ref xc7)=some true)
 (xk7_8:PySem.W.kitOne K (.ref xc7) (.ref xc8)=some false)
 (xk7_9:PySem.W.kitOne K (.ref xc7) (.ref xc9)=some false)
 (xk7_10:PySem.W.kitOne K (.ref xc7) (.ref xc10)=some false)
 (xk7_11:PySem.W.kitOne K (.ref xc7) (.ref xc11)=some false)
 (xe8:PySem.W.excIn K xc8 bmV "ValueError.__new__" = true)
 (xi8:L2.exI K xc8=true)
 (xs8_0:L2.wk K xc8 xc0=true)
 (xk8_3:PySem.W.kitOne K (.ref xc8) (.ref xc3)=some false)
 (xk8_4:PySem.W.kitOne K (.ref xc8) (.ref xc4)=some false)
 (xk8_5:PySem.W.kitOne K (.ref xc8) (.ref xc5)=some false)
 (xk8_6:PySem.W.kitOne K (.ref xc8) (.ref xc6)=some false)
 (xk8_7:PySem.W.kitOne K (.ref xc8) (.ref xc7)=some false)
 (xk8_8:PySem.W.kitOne K (.ref xc8) (.ref xc8)=some true)
 (xk8_9:PySem.W.kitOne K (.ref xc8) (.ref xc9)=some false)
 (xk8_10:PySem.W.kitOne K (.ref xc8) (.ref xc10)=some false)
 (xk8_11:PySem.W.kitOne K (.ref xc8) (.ref xc11)=some false)
 (xe9:PySem.W.excIn K xc9 bmV "ValueError.__new__" = true)
 (xi9:L2.exI K xc9=true)
 (xs9_0:L2.wk K xc9 xc0=true)
 (xk9_3:PySem.W.kitOne K (.ref xc9) (.ref xc3)=some false)
 (xk9_4:PySem.W.kitOne K (.ref xc9) (.ref xc4)=some false)
 (xk9_5:PySem.W.kitOne K (.ref xc9) (.ref xc5)=some false)
 (xk9_6:PySem.W.kitOne K (.ref xc9) (.ref xc6)=some false)
 (xk9_7:PySem.W.kitOne K (.ref xc9) (.ref xc7)=some false)
 (xk9_8:PySem.W.kitOne K (.ref xc9) (.ref xc8)=some false)
 (xk9_9:PySem.W.kitOne K (.ref xc9) (.ref xc9)=some true)
 (xk9_10:PySem.W.kitOne K (.ref xc9) (.ref xc10)=some false)
 (xk9_11:PySem.W.kitOne K (.ref xc9) (.ref xc11)=some false)
 (xe10:PySem.W.excIn K xc10 bmV "ValueError.__new__" = true)
 (xi10:L2.exI K xc10=true)
 (xs10_0:L2.wk K xc10 xc0=true)
 (xk10_3:PySem.W.kitOne K (.ref xc10) (.ref xc3)=some false)
 (xk10_4:PySem.W.kitOne K (.ref xc10) (.ref xc4)=some false)
 (xk10_5:PySem.W.kitOne K (.ref xc10) (.ref xc5)=some false)
 (xk10_6:PySem.W.kitOne K (.ref xc10) (.ref xc6)=some false)
 (xk10_7:PySem.W.kitOne K (.ref xc10) (.ref xc7)=some false)
 (xk10_8:PySem.W.kitOne K (.ref xc10) (.ref xc8)=some false)
 (xk10_9:PySem.W.kitOne K (.ref xc10) (.ref xc9)=some false)
 (xk10_10:PySem.W.kitOne K (.ref xc10) (.ref xc10)=some true)
 (xk10_11:PySem.W.kitOne K (.ref xc10) (.ref xc11)=some false)
 (xe11:PySem.W.excIn K xc11 bmV "ValueError.__new__" = true)
 (xi11:L2.exI K xc11=true)
 (xs11_0:L2.wk K xc11 xc0=true)
 (xk11_3:PySem.W.kitOne K (.ref xc11) (.ref xc3)=some false)
 (xk11_4:PySem.W.kitOne K (.ref xc11) (.ref xc4)=some false)
 (xk11_5:PySem.W.kitOne K (.ref xc11) (.ref xc5)=some false)
 (xk11_6:PySem.W.kitOne K (.ref xc11) (.ref xc6)=some false)
 (xk11_7:PySem.W.kitOne K (.ref xc11) (.ref xc7)=some false)
 (xk11_8:PySem.W.kitOne K (.ref xc11) (.ref xc8)=some false)
 (xk11_9:PySem.W.kitOne K (.ref xc11) (.ref xc9)=some false)
 (xk11_10:PySem.W.kitOne K (.ref xc11) (.ref xc10)=some false)
 (xk11_11:PySem.W.kitOne K (.ref xc11) (.ref xc11)=some true)
 (opg_Sheet:PySem.W.plainGet K oC_Sheet Str.empty=true)
 (ohd_Sheet:PySem.W.hasDictIn K oC_Sheet=true)
 (opo_Sheet:PySem.W.plainOver K oC_Sheet=true)
 (osa_Sheet:PySem.W.findIn K (.ref oC_Sheet) "__setattr__" = some (some (.builtin "object.__setattr__")))
 (omk_Sheet:PySem.W.makesIn K oC_Sheet=true)
 (okc_Sheet:PySem.W.keepIn K (.ref oC_Sheet)=true)
 (on_Sheet_standing:PySem.W.findIn K (.ref oC_Sheet) "standing" = some none)
 (on_Sheet_struck_so_far:PySem.W.findIn K (.ref oC_Sheet) "struck_so_far" = some none)
 (on_Sheet_panel:PySem.W.findIn K (.ref oC_Sheet) "panel" = some none)
 (on_Sheet_card_by_judge:PySem.W.findIn K (.ref oC_Sheet) "card_by_judge" = some none)
 (on_Sheet_taken_so_far:PySem.W.findIn K (.ref oC_Sheet) "taken_so_far" = some none)
 (on_Sheet_sealed:PySem.W.findIn K (.ref oC_Sheet) "sealed" = some none)
 : ∃fd:FuncData,(∀(s:Shared) (v:Value),BindsTo s fd ⟨[v],[]⟩ [("_law_script",v)])∧∀base:Heap,K.In base→base.Ns mainGlobals mg→FnOk l.prog w K mg base CX0 12 fa fd ["_law_script"] (zgx K):=by
 have e:=hfa.symm.trans (PySem.W.mg_of X G a70)
 cases e
 have oc_Sheet:=clsA_of oa_Sheet
 have T:Txt K mg:=⟨PySem.W.mg_none_of X G z0,PySem.W.mg_none_of X G z1,PySem.W.mg_none_of X G z2,PySem.W.mg_none_of X G z3,PySem.W.mg_none_of X G z4,PySem.W.mg_none_of X G z5,PySem.W.mg_none_of X G z6,PySem.W.mg_none_of X G z7,PySem.W.mg_none_of X G z8,PySem.W.mg_none_of X G z9,PySem.W.mg_none_of X G z10,PySem.W.mg_none_of X G z11,PySem.W.mg_none_of X G z12,⟨_,PySem.W.mg_of X G y0⟩,⟨_,PySem.W.mg_of X G y1⟩,⟨_,PySem.W.mg_of X G y2⟩,⟨_,PySem.W.mg_of X G y3⟩,⟨_,PySem.W.mg_of X G y4⟩,⟨xc0,xa0,PySem.W.mg_of X G xa0,xe0⟩,⟨xc1,xa1,PySem.W.mg_of X G xa1,xe1⟩,⟨xc2,xa2,PySem.W.mg_of X G xa2,xe2⟩,⟨xc3,xa3,PySem.W.mg_of X G xa3,xe3⟩,fun C hC=>by cases zf.inj hC xa3;exact xi3,fun C D hC hD=>by cases zf.inj hC xa3;cases zf.inj hD xa0;exact xs3_0,fun C D hC hD=>by cases zf.inj hC xa3;cases zf.inj hD xa3;exact xk3_3,fun C D hC hD=>by cases zf.inj hC xa3;cases zf.inj hD xa4;exact xk3_4,fun C D hC hD=>by cases zf.inj hC xa3;cases zf.inj hD xa5;exact xk3_5,fun C D hC hD=>by cases zf.inj hC xa3;cases zf.inj hD xa6;exact xk3_6,fun C D hC hD=>by cases zf.inj hC xa3;cases zf.inj hD xa7;exact xk3_7,fun C D hC hD=>by cases zf.inj hC xa3;cases zf.inj hD xa8;exact xk3_8,fun C D hC hD=>by cases zf.inj hC xa3;cases zf.inj hD xa9;exact xk3_9,fun C D hC hD=>by cases zf.inj hC xa3;cases zf.inj hD xa10;exact xk3_10,fun C D hC hD=>by cases zf.inj hC xa3;cases zf.inj hD xa11;exact xk3_11,⟨xc4,xa4,PySem.W.mg_of X G xa4,xe4⟩,fun C hC=>by cases zf.inj hC xa4;exact xi4,fun C D hC hD=>by cases zf.inj hC xa4;cases zf.inj hD xa0;exact xs4_0,fun C D hC hD=>by cases zf.inj hC xa4;cases zf.inj hD xa3;exact xk4_3,fun C D hC hD=>by cases zf.inj hC xa4;cases zf.inj hD xa4;exact xk4_4,fun C D hC hD=>by cases zf.inj hC xa4;cases zf.inj hD xa5;exact xk4_5,fun C D hC hD=>by cases zf.inj hC xa4;cases zf.inj hD xa6;exact xk4_6,fun C D hC hD=>by cases zf.inj hC xa4;cases zf.inj hD xa7;exact xk4_7,fun C D hC hD=>by cases zf.inj hC xa4;cases zf.inj hD xa8;exact xk4_8,fun C D hC hD=>by cases zf.inj hC xa4;cases zf.inj hD xa9;exact xk4_9,fun C D hC hD=>by cases zf.inj hC xa4;cases zf.inj hD xa10;exact xk4_10,fun C D hC hD=>by cases zf.inj hC xa4;cases zf.inj hD xa11;exact xk4_11,⟨xc5,xa5,PySem.W.mg_of X G xa5,xe5⟩,fun C hC=>by cases zf.inj hC xa5;exact xi5,fun C D hC hD=>by cases zf.inj hC xa5;cases zf.inj hD xa0;exact xs5_0,fun C D hC hD=>by cases zf.inj hC xa5;cases zf.inj hD xa3;exact xk5_3,fun C D hC hD=>by cases zf.inj hC xa5;cases zf.inj hD xa4;exact xk5_4,fun C D hC hD=>by cases zf.inj hC xa5;cases zf.inj hD xa5;exact xk5_5,fun C D hC hD=>by cases zf.inj hC xa5;cases zf.inj hD xa6;exact xk5_6,fun C D hC hD=>by cases zf.inj hC xa5;cases zf.inj hD xa7;exact xk5_7,fun C D hC hD=>by cases zf.inj hC xa5;cases zf.inj hD xa8;exact xk5_8,fun C D hC hD=>by cases zf.inj hC xa5;cases zf.inj hD xa9;exact xk5_9,fun C D hC hD=>by cases zf.inj hC xa5;cases zf.inj hD xa10;exact xk5_10,fun C D hC hD=>by cases zf.inj hC xa5;cases zf.inj hD xa11;exact xk5_11,⟨xc6,xa6,PySem.W.mg_of X G xa6,xe6⟩,fun C hC=>by cases zf.inj hC xa6;exact xi6,fun C D hC hD=>by cases zf.inj hC xa6;cases zf.inj hD xa0;exact xs6_0,fun C D hC hD=>by cases zf.inj hC xa6;cases zf.inj hD xa3;exact xk6_3,fun C D hC hD=>by cases zf.inj hC xa6;cases zf.inj hD xa4;exact xk6_4,fun C D hC hD=>by cases zf.inj hC xa6;cases zf.inj hD xa5;exact xk6_5,fun C D hC hD=>by cases zf.inj hC xa6;cases zf.inj hD xa6;exact xk6_6,fun C D hC hD=>by cases zf.inj hC xa6;cases zf.inj hD xa7;exact xk6_7,fun C D hC hD=>by cases zf.inj hC xa6;cases zf.inj hD xa8;exact xk6_8,fun C D hC hD=>by cases zf.inj hC xa6;cases zf.inj hD xa9;exact xk6_9,fun C D hC hD=>by cases zf.inj hC xa6;cases zf.inj hD xa10;exact xk6_10,fun C D hC hD=>by cases zf.inj hC xa6;cases zf.inj hD xa11;exact xk6_11,⟨xc7,xa7,PySem.W.mg_of X G xa7,xe7⟩,fun C hC=>by cases zf.inj hC xa7;exact xi7,fun C D hC hD=>by cases zf.inj hC xa7;cases zf.inj hD xa0;exact xs7_0,fun C D hC hD=>by cases zf.inj hC xa7;cases zf.inj hD xa3;exact xk7_3,fun C D hC hD=>by cases zf.inj hC xa7;cases zf.inj hD xa4;exact xk7_4,fun C D hC hD=>by cases zf.inj hC xa7;cases zf.inj hD xa5;exact xk7_5,fun C D hC hD=>by cases zf.inj hC xa7;cases zf.inj hD xa6;exact xk7_6,fun C D hC hD=>by cases zf.inj hC xa7;cases zf.inj hD xa7;exact xk7_7,fun C D hC hD=>by cases zf.inj hC xa7;cases zf.inj hD xa8;exact xk7_8,fun C D hC hD=>by cases zf.inj hC xa7;cases zf.inj hD xa9;exact xk7_9,fun C D hC hD=>by cases zf.inj hC xa7;cases zf.inj hD xa10;exact xk7_10,fun C D hC hD=>by cases zf.inj hC xa7;cases zf.inj hD xa11;exact xk7_11,⟨xc8,xa8,PySem.W.mg_of X G xa8,xe8⟩,fun C hC=>by cases zf.inj hC xa8;exact xi8,fun C D hC hD=>by cases zf.inj hC xa8;cases zf.inj hD xa0;exact xs8_0,fun C D hC hD=>by cases zf.inj hC xa8;cases zf.inj hD xa3;exact xk8_3,fun C D hC hD=>by cases zf.inj hC xa8;cases zf.inj hD xa4;exact xk8_4,fun C D hC hD=>by cases zf.inj hC xa8;cases zf.inj hD xa5;exact xk8_5,fun C D hC hD=>by cases zf.inj hC xa8;cases zf.inj hD xa6;exact xk8_6,fun C D hC hD=>by cases zf.inj hC xa8;cases zf.inj hD xa7;exact xk8_7,fun C D hC hD=>by cases zf.inj hC xa8;cases zf.inj hD xa8;exact xk8_8,fun C D hC hD=>by cases zf.inj hC xa8;cases zf.inj hD xa9;exact xk8_9,fun C D hC hD=>by cases zf.inj hC xa8;cases zf.inj hD xa10;exact xk8_10,fun C D hC hD=>by cases zf.inj hC xa8;cases zf.inj hD xa11;exact xk8_11,⟨xc9,xa9,PySem.W.mg_of X G xa9,xe9⟩,fun C hC=>by cases zf.inj hC xa9;exact xi9,fun C D hC hD=>by cases zf.inj hC xa9;cases zf.inj hD xa0;exact xs9_0,fun C D hC hD=>by cases zf.inj hC xa9;cases zf.inj hD xa3;exact xk9_3,fun C D hC hD=>by cases zf.inj hC xa9;cases zf.inj hD xa4;exact xk9_4,fun C D hC hD=>by cases zf.inj hC xa9;cases zf.inj hD xa5;exact xk9_5,fun C D hC hD=>by cases zf.inj hC xa9;cases zf.inj hD xa6;exact xk9_6,fun C D hC hD=>by cases zf.inj hC xa9;cases zf.inj hD xa7;exact xk9_7,fun C D hC hD=>by cases zf.inj hC xa9;cases zf.inj hD xa8;exact xk9_8,fun C D hC hD=>by cases zf.inj hC xa9;cases zf.inj hD xa9;exact xk9_9,fun C D hC hD=>by cases zf.inj hC xa9;cases zf.inj hD xa10;exact xk9_10,fun C D hC hD=>by cases zf.inj hC xa9;cases zf.inj hD xa11;exact xk9_11,⟨xc10,xa10,PySem.W.mg_of X G xa10,xe10⟩,fun C hC=>by cases zf.inj hC xa10;exact xi10,fun C D hC hD=>by cases zf.inj hC xa10;cases zf.inj hD xa0;exact xs10_0,fun C D hC hD=>by cases zf.inj hC xa10;cases zf.inj hD xa3;exact xk10_3,fun C D hC hD=>by cases zf.inj hC xa10;cases zf.inj hD xa4;exact xk10_4,fun C D hC hD=>by cases zf.inj hC xa10;cases zf.inj hD xa5;exact xk10_5,fun C D hC hD=>by cases zf.inj hC xa10;cases zf.inj hD xa6;exact xk10_6,fun C D hC hD=>by cases zf.inj hC xa10;cases zf.inj hD xa7;exact xk10_7,fun C D hC hD=>by cases zf.inj hC xa10;cases zf.inj hD xa8;exact xk10_8,fun C D hC hD=>by cases zf.inj hC xa10;cases zf.inj hD xa9;exact xk10_9,fun C D hC hD=>by cases zf.inj hC xa10;cases zf.inj hD xa10;exact xk10_10,fun C D hC hD=>by cases zf.inj hC xa10;cases zf.inj hD xa11;exact xk10_11,⟨xc11,xa11,PySem.W.mg_of X G xa11,xe11⟩,fun C hC=>by cases zf.inj hC xa11;exact xi11,fun C D hC hD=>by cases zf.inj hC xa11;cases zf.inj hD xa0;exact xs11_0,fun C D hC hD=>by cases zf.inj hC xa11;cases zf.inj hD xa3;exact xk11_3,fun C D hC hD=>by cases zf.inj hC xa11;cases zf.inj hD xa4;exact xk11_4,fun C D hC hD=>by cases zf.inj hC xa11;cases zf.inj hD xa5;exact xk11_5,fun C D hC hD=>by cases zf.inj hC xa11;cases zf.inj hD xa6;exact xk11_6,fun C D hC hD=>by cases zf.inj hC xa11;cases zf.inj hD xa7;exact xk11_7,fun C D hC hD=>by cases zf.inj hC xa11;cases zf.inj hD xa8;exact xk11_8,fun C D hC hD=>by cases zf.inj hC xa11;cases zf.inj hD xa9;exact xk11_9,fun C D hC hD=>by cases zf.inj hC xa11;cases zf.inj hD xa10;exact xk11_10,fun C D hC hD=>by cases zf.inj hC xa11;cases zf.inj hD xa11;exact xk11_11,oc_Sheet ▸ ⟨opg_Sheet,ohd_Sheet,opo_Sheet,osa_Sheet⟩,oc_Sheet ▸ on_Sheet_standing,oc_Sheet ▸ on_Sheet_struck_so_far,oc_Sheet ▸ on_Sheet_panel,oc_Sheet ▸ on_Sheet_card_by_judge,oc_Sheet ▸ on_Sheet_taken_so_far,oc_Sheet ▸ on_Sheet_sealed⟩
 have F0:=zx (st:=wu) l0 c0 k0
 have b0:=F0.binds (ps := ["self"]) fun _ _ _ _ _ _=>onS fun _=>on0 rfl
 have F1:=zx (st:=yo) l1 c1 k1
 have b1:=F1.binds (ps := ["self"]) fun _ _ _ _ _ _=>onS fun _=>on0 rfl
 have F2:=zx (st:=zN) l2 c2 k2
 have b2:=F2.binds (ps := ["self"]) fun _ _ _ _ _ _=>onS fun _=>on0 rfl
 have F3:=zx (st:=zH) l3 c3 k3
 have b3:=F3.binds (ps := ["self","judge"]) fun _ _ _ _ _ _=>onS fun _=>onS fun _=>on0 rfl
 have F4:=zx (st:=yE) l4 c4 k4
 have b4:=F4.binds (ps := ["self"]) fun _ _ _ _ _ _=>onS fun _=>on0 rfl
 have F5:=zx (st:=yY) l5 c5 k5
 have b5:=F5.binds (ps := ["self"]) fun _ _ _ _ _ _=>onS fun _=>on0 rfl
 have F6:=zx (st:=y8) l6 c6 k6
 have b6:=F6.binds (ps := ["self"]) fun _ _ _ _ _ _=>onS fun _=>on0 rfl
 have F7:=zx (st:=yB) l7 c7 k7
 have b7:=F7.binds (ps := ["self"]) fun _ _ _ _ _ _=>onS fun _=>on0 rfl
 have F8:=zx (st:=wO) l8 c8 k8
 have b8:=F8.binds (ps := ["card","couples"]) fun _ _ _ _ _ _=>onS fun _=>onS fun _=>on0 rfl
 have F9:=zx (st:=zbo) l9 c9 k9
 have b9:=F9.binds (ps := ["card","couple"]) fun _ _ _ _ _ _=>onS fun _=>onS fun _=>on0 rfl
 have F10:=zx (st:=yk) l10 c10 k10
 have b10:=F10.binds (ps := ["card","couple"]) fun _ _ _ _ _ _=>onS fun _=>onS fun _=>on0 rfl
 have F11:=zx (st:=zb5) l11 c11 k11
 have b11:=F11.binds (ps := ["card","couple"]) fun _ _ _ _ _ _=>onS fun _=>onS fun _=>on0 rfl
 have F12:=zx (st:=wt) l12 c12 k12
 have b12:=F12.binds (ps := ["couple"]) fun _ _ _ _ _ _=>onS fun _=>on0 rfl
 have F13:=zx (st:=yX) l13 c13 k13
 have b13:=F13.binds (ps := ["sign"]) fun _ _ _ _ _ _=>onS fun _=>on0 rfl
 have F14:=zx (st:=wm) l14 c14 k14
 have b14:=F14.binds (ps := ["things","most"]) fun _ _ _ _ _ _=>onS fun _=>onS fun _=>on0 rfl
 have F15:=zx (st:=wS) l15 c15 k15
 have b15:=F15.binds (ps := ["things"]) fun _ _ _ _ _ _=>onS fun _=>on0 rfl
 have F16:=zx (st:=wq) l16 c16 k16
 have b16:=F16.binds (ps := ["many"]) fun _ _ _ _ _ _=>onS fun _=>on0 rfl
 have F17:=zx (st:=zag) l17 c17 k17
 have b17:=F17.binds (ps := ["marks","number"]) fun _ _ _ _ _ _=>onS fun _=>onS fun _=>on0 rfl
 have F18:=zx (st:=zau) l18 c18 k18
 have b18:=F18.binds (ps := ["_law_found"]) fun _ _ _ _ _ _=>onS fun _=>on0 rfl
 have F19:=zx (st:=zb6) l19 c19 k19
 have b19:=F19.binds (ps := ["_law_script","_law_k"]) fun _ _ _ _ _ _=>onS fun _=>onS fun _=>on0 rfl
 have F20:=zx (st:=zan) l20 c20 k20
 have b20:=F20.binds (ps := ["_law_found","_law_due_here"]) fun _ _ _ _ _ _=>onS fun _=>onS fun _=>on0 rfl
 have F21:=zx (st:=zbm) l21 c21 k21
 have b21:=F21.binds (ps := ["_law_cell","_law_place"]) fun _ _ _ _ _ _=>onS fun _=>onS fun _=>on0 rfl
 have F22:=zx (st:=zaM) l22 c22 k22
 have b22:=F22.binds (ps := ["_law_mode","_law_cell","_law_least","_law_few","_law_most"]) fun _ _ _ _ _ _=>onS fun _=>onS fun _=>onS fun _=>onS fun _=>onS fun _=>on0 rfl
 have F23:=zx (st:=yQ) l23 c23 k23
 have b23:=F23.binds (ps := ["_law_cell","_law_many_here"]) fun _ _ _ _ _ _=>onS fun _=>onS fun _=>on0 rfl
 have F24:=zx (st:=wA) l24 c24 k24
 have b24:=F24.binds (ps := ["_law_cards","_law_couple"]) fun _ _ _ _ _ _=>onS fun _=>onS fun _=>on0 rfl
 have F25:=zx (st:=zaV) l25 c25 k25
 have b25:=F25.binds (ps := ["_law_marks_here","_law_last"]) fun _ _ _ _ _ _=>onS fun _=>onS fun _=>on0 rfl
 have F26:=zx (st:=zaI) l26 c26 k26
 have b26:=F26.binds (ps := ["_law_card_here","_law_couples_here"]) fun _ _ _ _ _ _=>onS fun _=>onS fun _=>on0 rfl
 have F27:=zx (st:=wn) l27 c27 k27
 have b27:=F27.binds (ps := ["_law_card_here","_law_cell"]) fun _ _ _ _ _ _=>onS fun _=>onS fun _=>on0 rfl
 have F28:=zx (st:=yU) l28 c28 k28
 have b28:=F28.binds (ps := ["_law_name","_law_cell"]) fun _ _ _ _ _ _=>onS fun _=>onS fun _=>on0 rfl
 have F29:=zx (st:=yP) l29 c29 k29
 have b29:=F29.binds (ps := ["_law_card_here","_law_couple"]) fun _ _ _ _ _ _=>onS fun _=>onS fun _=>on0 rfl
 have F30:=zx (st:=zaq) l30 c30 k30
 have b30:=F30.binds (ps := ["_law_couples_here","_law_gone","_law_cell"]) fun _ _ _ _ _ _=>onS fun _=>onS fun _=>onS fun _=>on0 rfl
 have F31:=zx (st:=yG) l31 c31 k31
 have b31:=F31.binds (ps := ["self","judge","card"]) fun _ _ _ _ _ _=>onS fun _=>onS fun _=>onS fun _=>on0 rfl
 have F32:=zx (st:=y6) l32 c32 k32
 have b32:=F32.binds (ps := ["self","couple"]) fun _ _ _ _ _ _=>onS fun _=>onS fun _=>on0 rfl
 have F33:=zx (st:=wM) l33 c33 k33
 have b33:=F33.binds (ps := ["self"]) fun _ _ _ _ _ _=>onS fun _=>on0 rfl
 have F34:=zx (st:=yF) l34 c34 k34
 have b34:=F34.binds (ps := ["self","judge"]) fun _ _ _ _ _ _=>onS fun _=>onS fun _=>on0 rfl
 have F35:=zx (st:=yz) l35 c35 k35
 have b35:=F35.binds (ps := ["couples"]) fun _ _ _ _ _ _=>onS fun _=>on0 rfl
 have F36:=zx (st:=wF) l36 c36 k36
 have b36:=F36.binds (ps := ["judge"]) fun _ _ _ _ _ _=>onS fun _=>on0 rfl
 have F37:=zx (st:=zah) l37 c37 k37
 have b37:=F37.binds (ps := ["cards","couple"]) fun _ _ _ _ _ _=>onS fun _=>onS fun _=>on0 rfl
 have F38:=zx (st:=zbl) l38 c38 k38
 have b38:=F38.binds (ps := ["marks","number"]) fun _ _ _ _ _ _=>onS fun _=>onS fun _=>on0 rfl
 have F39:=zx (st:=wp) l39 c39 k39
 have b39:=F39.binds (ps := ["marks","number"]) fun _ _ _ _ _ _=>onS fun _=>onS fun _=>on0 rfl
 have F40:=zx (st:=yV) l40 c40 k40
 have b40:=F40.binds (ps := ["marks"]) fun _ _ _ _ _ _=>onS fun _=>on0 rfl
 have F41:=zx (st:=yc) l41 c41 k41
 have b41:=F41.binds (ps := ["sheet","least"]) fun _ _ _ _ _ _=>onS fun _=>onS fun _=>on0 rfl
 have F42:=zx (st:=zaL) l42 c42 k42
 have b42:=F42.binds (ps := ["_law_found","_law_due_here"]) fun _ _ _ _ _ _=>onS fun _=>onS fun _=>on0 rfl
 have F43:=zx (st:=zat) l43 c43 k43
 have b43:=F43.binds (ps := ["_law_cell","_law_many_here"]) fun _ _ _ _ _ _=>onS fun _=>onS fun _=>on0 rfl
 have F44:=zx (st:=zaS) l44 c44 k44
 have b44:=F44.binds (ps := ["_law_cell","_law_couples_here","_law_style"]) fun _ _ _ _ _ _=>onS fun _=>onS fun _=>onS fun _=>on0 rfl
 have F45:=zx (st:=wb) l45 c45 k45
 have b45:=F45.binds (ps := ["_law_cards","_law_couples_here"]) fun _ _ _ _ _ _=>onS fun _=>onS fun _=>on0 rfl
 have F46:=zx (st:=zbn) l46 c46 k46
 have b46:=F46.binds (ps := ["_law_deed","_law_shut","_law_held","_law_into","_law_couples_here","_law_couple","_law_card_here"]) fun _ _ _ _ _ _=>onS fun _=>onS fun _=>onS fun _=>onS fun _=>onS fun _=>onS fun _=>onS fun _=>on0 rfl
 have F47:=zx (st:=yK) l47 c47 k47
 have b47:=F47.binds (ps := ["self"]) fun _ _ _ _ _ _=>onS fun _=>on0 rfl
 have F48:=zx (st:=yL) l48 c48 k48
 have b48:=F48.binds (ps := ["judges"]) fun _ _ _ _ _ _=>onS fun _=>on0 rfl
 have F49:=zx (st:=wC) l49 c49 k49
 have b49:=F49.binds (ps := ["marks","last"]) fun _ _ _ _ _ _=>onS fun _=>onS fun _=>on0 rfl
 have F50:=zx (st:=zaj) l50 c50 k50
 have b50:=F50.binds (ps := ["one","other"]) fun _ _ _ _ _ _=>onS fun _=>onS fun _=>on0 rfl
 have F51:=zx (st:=yp) l51 c51 k51
 have b51:=F51.binds (ps := ["sheet","judge"]) fun _ _ _ _ _ _=>onS fun _=>onS fun _=>on0 rfl
 have F52:=zx (st:=zak) l52 c52 k52
 have b52:=F52.binds (ps := ["_law_found","_law_due_here"]) fun _ _ _ _ _ _=>onS fun _=>onS fun _=>on0 rfl
 have F53:=zx (st:=zaw) l53 c53 k53
 have b53:=F53.binds (ps := ["_law_cell","_law_used","_law_couples_here","_law_style"]) fun _ _ _ _ _ _=>onS fun _=>onS fun _=>onS fun _=>onS fun _=>on0 rfl
 have F54:=zx (st:=wN) l54 c54 k54
 have b54:=F54.binds (ps := ["self","couples","judges"]) fun _ _ _ _ _ _=>onS fun _=>onS fun _=>onS fun _=>on0 rfl
 have F55:=zx (st:=zaQ) l55 c55 k55
 have b55:=F55.binds (ps := ["one","other"]) fun _ _ _ _ _ _=>onS fun _=>onS fun _=>on0 rfl
 have F56:=zx (st:=wJ) l56 c56 k56
 have b56:=F56.binds (ps := ["sheet","place","couple"]) fun _ _ _ _ _ _=>onS fun _=>onS fun _=>onS fun _=>on0 rfl
 have F57:=zx (st:=yu) l57 c57 k57
 have b57:=F57.binds (ps := ["_law_sheet","_law_names_here","_law_couples_here","_law_gone","_law_cards","_law_many_here","_law_shut"]) fun _ _ _ _ _ _=>onS fun _=>onS fun _=>onS fun _=>onS fun _=>onS fun _=>onS fun _=>onS fun _=>on0 rfl
 have F58:=zx (st:=yM) l58 c58 k58
 have b58:=F58.binds (ps := ["rows","own"]) fun _ _ _ _ _ _=>onS fun _=>onS fun _=>on0 rfl
 have F59:=zx (st:=wd) l59 c59 k59
 have b59:=F59.binds (ps := ["cards","couples"]) fun _ _ _ _ _ _=>onS fun _=>onS fun _=>on0 rfl
 have F60:=zx (st:=zbZ) l60 c60 k60
 have b60:=F60.binds (ps := ["sheet"]) fun _ _ _ _ _ _=>onS fun _=>on0 rfl
 have F61:=zx (st:=zaR) l61 c61 k61
 have b61:=F61.binds (ps := ["sheet","judge"]) fun _ _ _ _ _ _=>onS fun _=>onS fun _=>on0 rfl
 have F62:=zx (st:=zaP) l62 c62 k62
 have b62:=F62.binds (ps := ["sheet","judge","couple"]) fun _ _ _ _ _ _=>onS fun _=>onS fun _=>onS fun _=>on0 rfl
 have F63:=zx (st:=wH) l63 c63 k63
 have b63:=F63.binds (ps := ["cards","couples"]) fun _ _ _ _ _ _=>onS fun _=>onS fun _=>on0 rfl
 have F64:=zx (st:=zb4) l64 c64 k64
 have b64:=F64.binds (ps := ["sheet"]) fun _ _ _ _ _ _=>onS fun _=>on0 rfl
 have F65:=zx (st:=zam) l65 c65 k65
 have b65:=F65.binds (ps := ["sheet","couple"]) fun _ _ _ _ _ _=>onS fun _=>onS fun _=>on0 rfl
 have F66:=zx (st:=wj) l66 c66 k66
 have b66:=F66.binds (ps := ["_law_sheet","_law_cards","_law_couples_here"]) fun _ _ _ _ _ _=>onS fun _=>onS fun _=>onS fun _=>on0 rfl
 have F67:=zx (st:=zai) l67 c67 k67
 have b67:=F67.binds (ps := ["sheet"]) fun _ _ _ _ _ _=>onS fun _=>on0 rfl
 have F68:=zx (st:=zb3) l68 c68 k68
 have b68:=F68.binds (ps := ["_law_sheet","_law_deed","_law_judge","_law_couple","_law_card_here"]) fun _ _ _ _ _ _=>onS fun _=>onS fun _=>onS fun _=>onS fun _=>onS fun _=>on0 rfl
 have F69:=zx (st:=zaY) l69 c69 k69
 have b69:=F69.binds (ps := ["_law_sheet","_law_deed","_law_judge","_law_couple","_law_card_here"]) fun _ _ _ _ _ _=>onS fun _=>onS fun _=>onS fun _=>onS fun _=>onS fun _=>on0 rfl
 have F70:=zx (st:=zcw) l70 c70 k70
 have b70:=F70.binds (ps := ["_law_script"]) fun _ _ _ _ _ _=>onS fun _=>on0 rfl
 refine⟨PySem.W.fnOf "law" "law" (zr zcw) (zp zcw) (zc zcw) .none kV70 dc70 pm70 an70 cd70 ct70,fun s v=>.of_eq rfl,fun base _ _=>?_⟩
 have C0:CanM l.prog w K mg base 1 (zJ K "Sheet") "taken" ["self"] (zbv K):=CanM.of oc_Sheet (zeV F0 T) ⟨a0,i0,k0⟩ b0
 have C1:CanM l.prog w K mg base 1 (zJ K "Sheet") "is_sealed" ["self"] (zaf K):=CanM.of oc_Sheet (zdh F1 T) ⟨a1,i1,k1⟩ b1
 have C2:CanMX l.prog w K mg base 1 (zJ K "Sheet") "refuse_if_sealed" ["self"] (zR K):=CanMX.of oc_Sheet (zbL F2 T) ⟨a2,i2,k2⟩ b2
 have C3:CanMX l.prog w K mg base 1 (zJ K "Sheet") "refuse_unknown_judge" ["self","judge"] (zS K):=CanMX.of oc_Sheet (za3 F3 T) ⟨a3,i3,k3⟩ b3
 have C4:CanM l.prog w K mg base 1 (zJ K "Sheet") "couples" ["self"] (zO K):=CanM.of oc_Sheet (zdT F4 T) ⟨a4,i4,k4⟩ b4
 have C5:CanM l.prog w K mg base 1 (zJ K "Sheet") "struck" ["self"] (zba K):=CanM.of oc_Sheet (zeE F5 T) ⟨a5,i5,k5⟩ b5
 have C6:CanM l.prog w K mg base 1 (zJ K "Sheet") "judges" ["self"] (zbd K):=CanM.of oc_Sheet (zer F6 T) ⟨a6,i6,k6⟩ b6
 have C7:CanM l.prog w K mg base 1 (zJ K "Sheet") "handed" ["self"] (zY K):=CanM.of oc_Sheet (zey F7 T) ⟨a7,i7,k7⟩ b7
 have C8:Can l.prog w K mg base 1 "whole_card" ["card","couples"] (zbU K):=Can.of F8 (zfL F8 T) (PySem.W.mg_of X G a8) b8
 have C9:Can l.prog w K mg base 1 "mark_on" ["card","couple"] (zdo K):=Can.of F9 (zic F9 T) (PySem.W.mg_of X G a9) b9
 have C10:Can l.prog w K mg base 1 "without_couple" ["card","couple"] (zaD K):=Can.of F10 (zdq F10 T) (PySem.W.mg_of X G a10) b10
 have C11:CanX l.prog w K mg base 1 "one_up" ["card","couple"] (zd3 K):=CanX.of F11 (zjL F11 T) (PySem.W.mg_of X G a11) b11
 have C12:Can l.prog w K mg base 1 "good_number" ["couple"] (zbz K):=Can.of F12 (zfw F12 T) (PySem.W.mg_of X G a12) b12
 have C13:Can l.prog w K mg base 1 "small_letter" ["sign"] (za8 K):=Can.of F13 (zeG F13 T) (PySem.W.mg_of X G a13) b13
 have C14:Can l.prog w K mg base 1 "good_length" ["things","most"] (wG K):=Can.of F14 (zeY F14 T) (PySem.W.mg_of X G a14) b14
 have C15:Can l.prog w K mg base 1 "all_unlike" ["things"] (zaZ K):=Can.of F15 (zfT F15 T) (PySem.W.mg_of X G a15) b15
 have C16:Can l.prog w K mg base 1 "majority_of" ["many"] (zbB K):=Can.of F16 (zeR F16 T) (PySem.W.mg_of X G a16) b16
 have C17:Can l.prog w K mg base 1 "granting" ["marks","number"] (zbP K):=Can.of F17 (zhg F17 T) (PySem.W.mg_of X G a17) b17
 have C18:Can l.prog w K mg base 1 "_law_whole" ["_law_found"] (zbi K):=Can.of F18 (zgJ F18 T) (PySem.W.mg_of X G a18) b18
 have C19:Can l.prog w K mg base 1 "_law_at" ["_law_script","_law_k"] (zdY K):=Can.of F19 (zjk F19 T) (PySem.W.mg_of X G a19) b19
 have C20:Can l.prog w K mg base 1 "_law_texts" ["_law_found","_law_due_here"] (zcs K):=Can.of F20 (zg2 F20 T) (PySem.W.mg_of X G a20) b20
 have C21:Can l.prog w K mg base 1 "_law_mix" ["_law_cell","_law_place"] (zbq K):=Can.of F21 (zix F21 T) (PySem.W.mg_of X G a21) b21
 have C22:Can l.prog w K mg base 1 "_law_many" ["_law_mode","_law_cell","_law_least","_law_few","_law_most"] (zcP K):=Can.of F22 (zhn F22 T) (PySem.W.mg_of X G a22) b22
 have C23:Can l.prog w K mg base 1 "_law_couples" ["_law_cell","_law_many_here"] (zbF K):=Can.of F23 (zfl F23 T) (PySem.W.mg_of X G a23) b23
 have C24:Can l.prog w K mg base 1 "_law_marks" ["_law_cards","_law_couple"] (zcc K):=Can.of F24 (zgz F24 T) (PySem.W.mg_of X G a24) b24
 have C25:Can l.prog w K mg base 1 "_law_key" ["_law_marks_here","_law_last"] (zdj K):=Can.of F25 (zia F25 T) (PySem.W.mg_of X G a25) b25
 have C26:Can l.prog w K mg base 1 "_law_good" ["_law_card_here","_law_couples_here"] (zcM K):=Can.of F26 (zhW F26 T) (PySem.W.mg_of X G a26) b26
 have C27:Can l.prog w K mg base 1 "_law_spoiled" ["_law_card_here","_law_cell"] (zbw K):=Can.of F27 (zfv F27 T) (PySem.W.mg_of X G a27) b27
 have C28:Can l.prog w K mg base 1 "_law_stranger" ["_law_name","_law_cell"] (zbe K):=Can.of F28 (zeA F28 T) (PySem.W.mg_of X G a28) b28
 have C29:Can l.prog w K mg base 1 "_law_without" ["_law_card_here","_law_couple"] (zbH K):=Can.of F29 (zfh F29 T) (PySem.W.mg_of X G a29) b29
 have C30:Can l.prog w K mg base 1 "_law_stray" ["_law_couples_here","_law_gone","_law_cell"] (zct K):=Can.of F30 (zg1 F30 T) (PySem.W.mg_of X G a30) b30
 have C31:CanMX l.prog w K mg base 2 (zJ K "Sheet") "hand_in" ["self","judge","card"] (zaK K):=CanMX.of oc_Sheet (zd4 F31 T C8 C2 C3) ⟨a31,i31,k31⟩ b31
 have C32:CanMX l.prog w K mg base 2 (zJ K "Sheet") "strike" ["self","couple"] (za6 K):=CanMX.of oc_Sheet (zev F32 T C10 C7 C2) ⟨a32,i32,k32⟩ b32
 have C33:CanMX l.prog w K mg base 2 (zJ K "Sheet") "seal" ["self"] (zbV K):=CanMX.of oc_Sheet (zfS F33 T C2) ⟨a33,i33,k33⟩ b33
 have C34:CanMX l.prog w K mg base 2 (zJ K "Sheet") "card_of" ["self","judge"] (yl K):=CanMX.of oc_Sheet (zdV F34 T C3) ⟨a34,i34,k34⟩ b34
 have C35:Can l.prog w K mg base 2 "good_couples" ["couples"] (zbb K):=Can.of F35 (zez F35 T C12 C14 C15) (PySem.W.mg_of X G a35) b35
 have C36:Can l.prog w K mg base 2 "good_name" ["judge"] (zcl K):=Can.of F36 (zgq F36 T C13 C14) (PySem.W.mg_of X G a36) b36
 have C37:Can l.prog w K mg base 2 "marks_of" ["cards","couple"] (zbM K):=Can.of F37 (zhf F37 T C9) (PySem.W.mg_of X G a37) b37
 have C38:Can l.prog w K mg base 2 "granted" ["marks","number"] (zbE K):=Can.of F38 (zin F38 T C17) (PySem.W.mg_of X G a38) b38
 have C39:Can l.prog w K mg base 2 "granted_sum" ["marks","number"] (wI K):=Can.of F39 (zfn F39 T C17) (PySem.W.mg_of X G a39) b39
 have C40:Can l.prog w K mg base 2 "first_number" ["marks"] (zad K):=Can.of F40 (zew F40 T C16) (PySem.W.mg_of X G a40) b40
 have C41:CanX l.prog w K mg base 2 "refuse_fewer_cards" ["sheet","least"] (zV K):=CanX.of F41 (zcz F41 T C7) (PySem.W.mg_of X G a41) b41
 have C42:Can l.prog w K mg base 2 "_law_same" ["_law_found","_law_due_here"] (za0 K):=Can.of F42 (zhQ F42 T C18) (PySem.W.mg_of X G a42) b42
 have C43:Can l.prog w K mg base 2 "_law_names" ["_law_cell","_law_many_here"] (zcd K):=Can.of F43 (zgO F43 T C21) (PySem.W.mg_of X G a43) b43
 have C44:Can l.prog w K mg base 2 "_law_card" ["_law_cell","_law_couples_here","_law_style"] (zcJ K):=Can.of F44 (zhj F44 T C21) (PySem.W.mg_of X G a44) b44
 have C45:Can l.prog w K mg base 2 "_law_spots" ["_law_cards","_law_couples_here"] (zb9 K):=Can.of F45 (zg4 F45 T C24 C25) (PySem.W.mg_of X G a45) b45
 have C46:Can l.prog w K mg base 2 "_law_due" ["_law_deed","_law_shut","_law_held","_law_into","_law_couples_here","_law_couple","_law_card_here"] (zdc K):=Can.of F46 (ziz F46 T C26) (PySem.W.mg_of X G a46) b46
 have C47:CanM l.prog w K mg base 3 (zJ K "Sheet") "cards" ["self"] (yT K):=CanM.of oc_Sheet (zff F47 T C7 C34) ⟨a47,i47,k47⟩ b47
 have C48:Can l.prog w K mg base 3 "good_judges" ["judges"] (zbt K):=Can.of F48 (ze2 F48 T C36 C14 C15) (PySem.W.mg_of X G a48) b48
 have C49:Can l.prog w K mg base 3 "ladder_of" ["marks","last"] (zci K):=Can.of F49 (zgu F49 T C38 C39) (PySem.W.mg_of X G a49) b49
 have C50:Can l.prog w K mg base 3 "unlike_at" ["one","other"] (zce K):=Can.of F50 (zg6 F50 T C38 C39 C40) (PySem.W.mg_of X G a50) b50
 have C51:Can l.prog w K mg base 3 "cards_without" ["sheet","judge"] (wK K):=Can.of F51 (zeb F51 T C7 C34) (PySem.W.mg_of X G a51) b51
 have C52:Can l.prog w K mg base 3 "_law_lists" ["_law_found","_law_due_here"] (zcm K):=Can.of F52 (zgL F52 T C42) (PySem.W.mg_of X G a52) b52
 have C53:Can l.prog w K mg base 3 "_law_dealt" ["_law_cell","_law_used","_law_couples_here","_law_style"] (zcg K):=Can.of F53 (zgs F53 T C21 C44) (PySem.W.mg_of X G a53) b53
 have C54:CanK l.prog w K mg base 4 "Sheet" (zJ K "Sheet") ["self","couples","judges"] (zbT K):=CanK.of oc_Sheet (zfI F54 T C35 C48) (PySem.W.mg_of X G oa_Sheet) ⟨omk_Sheet,a54,i54,okc_Sheet⟩ b54
 have C55:Can l.prog w K mg base 4 "is_ahead" ["one","other"] (zcN K):=Can.of F55 (zhN F55 T C38 C39 C40 C50) (PySem.W.mg_of X G a55) b55
 have C56:Can l.prog w K mg base 4 "row_text" ["sheet","place","couple"] (zcL K):=Can.of F56 (zhS F56 T C37 C49 C4 C47) (PySem.W.mg_of X G a56) b56
 have C57:Can l.prog w K mg base 4 "_law_stands" ["_law_sheet","_law_names_here","_law_couples_here","_law_gone","_law_cards","_law_many_here","_law_shut"] (zbY K):=Can.of F57 (zfN F57 T C18 C42 C20 C52 C4 C5 C6 C7 C47 C34 C0 C1) (PySem.W.mg_of X G a57) b57
 have C58:Can l.prog w K mg base 5 "place_among" ["rows","own"] (zbA K):=Can.of F58 (ze1 F58 T C55) (PySem.W.mg_of X G a58) b58
 have C59:Can l.prog w K mg base 6 "places_of" ["cards","couples"] (wP K):=Can.of F59 (zgN F59 T C37 C58) (PySem.W.mg_of X G a59) b59
 have C60:CanX l.prog w K mg base 7 "places" ["sheet"] (zb8 K):=CanX.of F60 (zjw F60 T C59 C41 C4 C47) (PySem.W.mg_of X G a60) b60
 have C61:CanX l.prog w K mg base 7 "left_out" ["sheet","judge"] (zcO K):=CanX.of F61 (zh2 F61 T C59 C41 C51 C4 C34) (PySem.W.mg_of X G a61) b61
 have C62:CanX l.prog w K mg base 7 "step_up" ["sheet","judge","couple"] (zdl K):=CanX.of F62 (zib F62 T C11 C59 C4 C7 C34) (PySem.W.mg_of X G a62) b62
 have C63:Can l.prog w K mg base 7 "firsts_of" ["cards","couples"] (zbg K):=Can.of F63 (zgt F63 T C59) (PySem.W.mg_of X G a63) b63
 have C64:CanX l.prog w K mg base 8 "firsts" ["sheet"] (zd6 K):=CanX.of F64 (zji F64 T C41 C63 C4 C47) (PySem.W.mg_of X G a64) b64
 have C65:CanX l.prog w K mg base 8 "table_row" ["sheet","couple"] (zcn K):=CanX.of F65 (zgp F65 T C60 C56 C4) (PySem.W.mg_of X G a65) b65
 have C66:Can l.prog w K mg base 8 "_law_placed" ["_law_sheet","_law_cards","_law_couples_here"] (zbX K):=Can.of F66 (zfD F66 T C60 C42 C45) (PySem.W.mg_of X G a66) b66
 have C67:CanX l.prog w K mg base 9 "deciders" ["sheet"] (zcH K):=CanX.of F67 (zhA F67 T C64 C41 C63 C51 C4 C7) (PySem.W.mg_of X G a67) b67
 have C68:CanX l.prog w K mg base 10 "_law_do" ["_law_sheet","_law_deed","_law_judge","_law_couple","_law_card_here"] (zd8 K):=CanX.of F68 (zjG F68 T C60 C61 C67 C62 C65 C31 C32 C33) (PySem.W.mg_of X G a68) b68
 have C69:Can l.prog w K mg base 11 "_law_done" ["_law_sheet","_law_deed","_law_judge","_law_couple","_law_card_here"] (zcW K):=Can.of F69 (zhZ F69 T C68) (PySem.W.mg_of X G a69) b69
 exact ok_law F70 T C19 C22 C23 C43 C53 C57 C27 C28 C29 C69 C46 C30 C66 C54
theorem walk{l:PySem.W.OpenLaw}{q:Program}{loose:List Str}{XP:(Str→Option Value)→Heap→Prop}{YP:World→Heap→Prop}{d:DefRec}{K:Params→PySem.W.Frag}(hn:l.most=some 63)(hdf:d.params.defaults = [])
 (hY:∀(w:World) (h:Heap),YP w h→(K w.params).In h)
 (F:∀(w:World) (mg:Str→Option Value) (fa:Addr) (h:Heap),(K w.params).In h→h.Ns mainGlobals mg→mg d.name=some (.ref fa) →
   ∃fd:FuncData,(∀(s:Shared) (u:Value),BindsTo s fd ⟨[u],[]⟩ [("_law_script",u)])∧∀base:Heap,(K w.params).In base→base.Ns mainGlobals mg→FnOk l.prog w (K w.params) mg base CX0 12 fa fd ["_law_script"] (zgx (K w.params))) :
 PySem.W.WalkO q loose XP YP l.row.toRowW d [] (fun f vs=>PySem.call f vs) :=
 L2.walk_of (n:=63) (k:=12) (x:= "_law_script") (CX:=fun _=>CX0) (sp:=fun w=>zgx (K w.params)) hn (by decide) hdf ⟨rfl,by decide,by decide⟩ hY F (fun _ _ a ns hl _ hS=>⟨a,ns,rfl,hS,hl,fun _=>rfl⟩) fun _ _ _ _ _ z=>z
theorem walkX{q:Program}{loose:List Str}{XP:(Str→Option Value)→Heap→Prop}{as:List Addr}{K:Params→PySem.W.Frag}{n t:Nat}{r:PySem.W.RowW}{d:DefRec}{kwd:List (Str × Expr)}{run:Value→List Value→Sem Value}
 (e:∀P,as=(K P).map (·.1)) (c:PySem.W.WalkO q loose XP (PySem.W.InK K) r d kwd run) :
 PySem.W.WalkX q loose XP (PySem.W.X.obsZ as) (PySem.W.X.valZ K n t) r d kwd run :=
 fun w s₀ s₁ mg mb G y a o pm cd doc dV kV h1 h2 h3 h4 h5 h6 args vals as' L=>c w s₀ s₁ mg mb G (PySem.W.InK.keeps w _ _ (PySem.W.X.z_facts e y).2.1 L.keeps) a o pm cd doc dV kV h1 h2 h3 h4 h5 h6 args vals as'
end Pp
def PySem.W.Fast.tw10835866976722243597:Nat:=0
def PySem.W.Fast.tw12421948057607943960:Nat:=0
def PySem.W.Fast.tw6477997489868909898:Nat:=0
def PySem.W.Fast.tw7794885455530670735:Nat:=0
def PySem.W.Fast.tw5498239962838310448:Nat:=0
def PySem.W.Fast.tw1904751883852604744:Nat:=0
def PySem.W.Fast.tw9283040751104794859:Nat:=0
def PySem.W.Fast.tw16509563792919537539:Nat:=0
def PySem.W.Fast.tw8386018506617840392:Nat:=0
def PySem.W.Fast.tw15312044333444917402:Nat:=0
def PySem.W.Fast.tw14857288940331834898:Nat:=0
def PySem.W.Fast.tw12317401106921170560:Nat:=0
def PySem.W.Fast.tw14686808646383053990:Nat:=0
def PySem.W.Fast.tw16240604783864589183:Nat:=0
def PySem.W.Fast.tw14292629870353048587:Nat:=0
def PySem.W.Fast.tw3735671942338321194:Nat:=0
def PySem.W.Fast.tw10884230287491129920:Nat:=0
def PySem.W.Fast.tw9678370009203591125:Nat:=0
def PySem.W.Fast.tw13956950554203362191:Nat:=0
def PySem.W.Fast.tw12139438289604557472:Nat:=0
def PySem.W.Fast.tw7000151690273080503:Nat:=0
def PySem.W.Fast.tw2807596518874766984:Nat:=0
def PySem.W.Fast.tw16563147268387428586:Nat:=0
def PySem.W.Fast.tw15864432275553071428:Nat:=0
def PySem.W.Fast.tw58834020460116474:Nat:=0
def PySem.W.Fast.tw2705220691826703474:Nat:=0
def PySem.W.Fast.tw12321024823671728011:Nat:=0
def PySem.W.Fast.tw1646651894075478385:Nat:=0
def PySem.W.Fast.tw7135399064509268296:Nat:=0
def PySem.W.Fast.tw12115895077822883275:Nat:=0
def PySem.W.Fast.tw429425003594166990:Nat:=0
def PySem.W.Fast.tw482790652966860546:Nat:=0
def PySem.W.Fast.tw7123492727199047088:Nat:=0
def PySem.W.Fast.tw10333068963378443251:Nat:=0
def PySem.W.Fast.tw17443691265146299118:Nat:=0
def PySem.W.Fast.tw2357665383607952857:Nat:=0
def PySem.W.Fast.tw4781344884929622197:Nat:=0
def PySem.W.Fast.tw17797324225788875140:Nat:=0
def PySem.W.Fast.tw14982535018007163161:Nat:=0
def PySem.W.Fast.tw1048188804849115291:Nat:=0
def PySem.W.Fast.tw9320547364352112754:Nat:=0
def PySem.W.Fast.tw8061626398388609288:Nat:=0
def PySem.W.Fast.tw5925699087753144481:Nat:=0
def PySem.W.Fast.tw8203908556374680408:Nat:=0
def PySem.W.Fast.tw2814950434542029729:Nat:=0
def PySem.W.Fast.tw10274630454893915377:Nat:=0
def PySem.W.Fast.tw16158536658735098151:Nat:=0
def PySem.W.Fast.tw16344780153248098531:Nat:=0
def PySem.W.Fast.tw568921234265436347:Nat:=0
def PySem.W.Fast.tw5847582303599310574:Nat:=0
def PySem.W.Fast.tw1974591559363110343:Nat:=0
def PySem.W.Fast.tw9246432173346124469:Nat:=0
def PySem.W.Fast.tw15703537405612012469:Nat:=0
def PySem.W.Fast.tw13270952442217541165:Nat:=0
def PySem.W.Fast.tw7183349060053141339:Nat:=0
def PySem.W.Fast.tw2744882896597885516:Nat:=0
def PySem.W.Fast.tw10107746607793720421:Nat:=0
def PySem.W.Fast.tw10308502045684056003:Nat:=0
def PySem.W.Fast.tw14393535129183194529:Nat:=0
def PySem.W.Fast.tw1425591156005289757:Nat:=0
def PySem.W.Fast.tw3994415801598892792:Nat:=0
def PySem.W.Fast.tw4269853897510936757:Nat:=0
def PySem.W.Fast.tw7289227219010347733:Nat:=0
def PySem.W.Fast.tw16821080233485078798:Nat:=0
def PySem.W.Fast.tw14266149704367580049:Nat:=0
def PySem.W.Fast.tw1192730944020994367:Nat:=0
def PySem.W.Fast.tw16762935438867494385:Nat:=0
def PySem.W.Fast.tw663917320014980460:Nat:=0
open PySem PySem.W PyProof.Rows
set_option maxRecDepth 100000 in
set_option maxHeartbeats 0 in
theorem PySem.Challenge.cw_panelplace_k46_whole_refused_changes_not_holds : PySem.Challenge.rw_panelplace_k46_whole_refused_changes_not.Holds := by
 w_on;o_law;z_head;(case hw=>w_witness2)
 refine Pp.walkX (fun _=>by kernel_rfl) ?_
 refine Pp.walk (l:=PySem.Challenge.rw_panelplace_k46_whole_refused_changes_not) rfl rfl (fun w h Y=>Y) ?F
 case F =>
  intro w mg fa h KX G hmg
  refine' Pp.all_mk KX G hmg ?oa_Sheet ?a0 ?i0 ?l0 ?c0 ?k0 ?a1 ?i1 ?l1 ?c1 ?k1 ?a2 ?i2 ?l2 ?c2 ?k2 ?a3 ?i3 ?l3 ?c3 ?k3 ?a4 ?i4 ?l4 ?c4 ?k4 ?a5 ?i5 ?l5 ?c5 ?k5 ?a6 ?i6 ?l6 ?c6 ?k6 ?a7 ?i7 ?l7 ?c7 ?k7 ?a8 ?l8 ?c8 ?k8 ?a9 ?l9 ?c9 ?k9 ?a10 ?l10 ?c10 ?k10 ?a11 ?l11 ?c11 ?k11 ?a12 ?l12 ?c12 ?k12 ?a13 ?l13 ?c13 ?k13 ?a14 ?l14 ?c14 ?k14 ?a15 ?l15 ?c15 ?k15 ?a16 ?l16 ?c16 ?k16 ?a17 ?l17 ?c17 ?k17 ?a18 ?l18 ?c18 ?k18 ?a19 ?l19 ?c19 ?k19 ?a20 ?l20 ?c20 ?k20 ?a21 ?l21 ?c21 ?k21 ?a22 ?l22 ?c22 ?k22 ?a23 ?l23 ?c23 ?k23 ?a24 ?l24 ?c24 ?k24 ?a25 ?l25 ?c25 ?k25 ?a26 ?l26 ?c26 ?k26 ?a27 ?l27 ?c27 ?k27 ?a28 ?l28 ?c28 ?k28 ?a29 ?l29 ?c29 ?k29 ?a30 ?l30 ?c30 ?k30 ?a31 ?i31 ?l31 ?c31 ?k31 ?a32 ?i32 ?l32 ?c32 ?k32 ?a33 ?i33 ?l33 ?c33 ?k33 ?a34 ?i34 ?l34 ?c34 ?k34 ?a35 ?l35 ?c35 ?k35 ?a36 ?l36 ?c36 ?k36 ?a37 ?l37 ?c37 ?k37 ?a38 ?l38 ?c38 ?k38 ?a39 ?l39 ?c39 ?k39 ?a40 ?l40 ?c40 ?k40 ?a41 ?l41 ?c41 ?k41 ?a42 ?l42 ?c42 ?k42 ?a43 ?l43 ?c43 ?k43 ?a44 ?l44 ?c44 ?k44 ?a45 ?l45 ?c45 ?k45 ?a46 ?l46 ?c46 ?k46 ?a47 ?i47 ?l47 ?c47 ?k47 ?a48 ?l48 ?c48 ?k48 ?a49 ?l49 ?c49 ?k49 ?a50 ?l50 ?c50 ?k50 ?a51 ?l51 ?c51 ?k51 ?a52 ?l52 ?c52 ?k52 ?a53 ?l53 ?c53 ?k53 ?a54 ?i54 ?l54 ?c54 ?k54 ?a55 ?l55 ?c55 ?k55 ?a56 ?l56 ?c56 ?k56 ?a57 ?l57 ?c57 ?k57 ?a58 ?l58 ?c58 ?k58 ?a59 ?l59 ?c59 ?k59 ?a60 ?l60 ?c60 ?k60 ?a61 ?l61 ?c61 ?k61 ?a62 ?l62 ?c62 ?k62 ?a63 ?l63 ?c63 ?k63 ?a64 ?l64 ?c64 ?k64 ?a65 ?l65 ?c65 ?k65 ?a66 ?l66 ?c66 ?k66 ?a67 ?l67 ?c67 ?k67 ?a68 ?l68 ?c68 ?k68 ?a69 ?l69 ?c69 ?k69 ?a70 ?l70 ?c70 ?k70 ?z0 ?z1 ?z2 ?z3 ?z4 ?z5 ?z6 ?z7 ?z8 ?z9 ?z10 ?z11 ?z12 ?y0 ?y1 ?y2 ?y3 ?y4 ?xa0 ?xa1 ?xa2 ?xa3 ?xa4 ?xa5 ?xa6 ?xa7 ?xa8 ?xa9 ?xa10 ?xa11 ?xe0 ?xe1 ?xe2 ?xe3 ?xi3 ?xs3_0 ?xk3_3 ?xk3_4 ?xk3_5 ?xk3_6 ?xk3_7 ?xk3_8 ?xk3_9 ?xk3_10 ?xk3_11 ?xe4 ?xi4 ?xs4_0 ?xk4_3 ?xk4_4 ?xk4_5 ?xk4_6 ?xk4_7 ?xk4_8 ?xk4_9 ?xk4_10 ?xk4_11 ?xe5 ?xi5 ?xs5_0 ?xk5_3 ?xk5_4 ?xk5_5 ?xk5_6 ?xk5_7 ?xk5_8 ?xk5_9 ?xk5_10 ?xk5_11 ?xe6 ?xi6 ?xs6_0 ?xk6_3 ?xk6_4 ?xk6_5 ?xk6_6 ?xk6_7 ?xk6_8 ?xk6_9 ?xk6_10 ?xk6_11 ?xe7 ?xi7 ?xs7_0 ?xk7_3 ?xk7_4 ?xk7_5 ?xk7_6 ?xk7_7 ?xk7_8 ?xk7_9 ?xk7_10 ?xk7_11 ?xe8 ?xi8 ?xs8_0 ?xk8_3 ?xk8_4 ?xk8_5 ?xk8_6 ?xk8_7 ?xk8_8 ?xk8_9 ?xk8_10 ?xk8_11 ?xe9 ?xi9 ?xs9_0 ?xk9_3 ?xk9_4 ?xk9_5 ?xk9_6 ?xk9_7 ?xk9_8 ?xk9_9 ?xk9_10 ?xk9_11 ?xe10 ?xi10 ?xs10_0 ?xk10_3 ?xk10_4 ?xk10_5 ?xk10_6 ?xk10_7 ?xk10_8 ?xk10_9 ?xk10_10 ?xk10_11 ?xe11 ?xi11 ?xs11_0 ?xk11_3 ?xk11_4 ?xk11_5 ?xk11_6 ?xk11_7 ?xk11_8 ?xk11_9 ?xk11_10 ?xk11_11 ?opg_Sheet ?ohd_Sheet ?opo_Sheet ?osa_Sheet ?omk_Sheet ?okc_Sheet ?on_Sheet_standing ?on_Sheet_struck_so_far ?on_Sheet_panel ?on_Sheet_card_by_judge ?on_Sheet_taken_so_far ?on_Sheet_sealed
  (case oa_Sheet=>k_is)
  (case a0=>k_is)
  (case i0=>k_is)
  (case l0=>k_is)
  (case c0=>k_is)
  (case k0=>k_is)
  (case a1=>k_is)
  (case i1=>k_is)
  (case l1=>k_is)
  (case c1=>k_is)
  (case k1=>k_is)
  (case a2=>k_is)
  (case i2=>k_is)
  (case l2=>k_is)
  (case c2=>k_is)
  (case k2=>k_is)
  (case a3=>k_is)
  (case i3=>k_is)
  (case l3=>k_is)
  (case c3=>k_is)
  (case k3=>k_is)
  (case a4=>k_is)
  (case i4=>k_is)
  (case l4=>k_is)
  (case c4=>k_is)
  (case k4=>k_is)
  (case a5=>k_is)
  (case i5=>k_is)
  (case l5=>k_is)
  (case c5=>k_is)
  (case k5=>k_is)
  (case a6=>k_is)
  (case i6=>k_is)
  (case l6=>k_is)
  (case c6=>k_is)
  (case k6=>k_is)
  (case a7=>k_is)
  (case i7=>k_is)
  (case l7=>k_is)
  (case c7=>k_is)
  (case k7=>k_is)
  (case a8=>k_is)
  (case l8=>k_is)
  (case c8=>k_is)
  (case k8=>k_is)
  (case a9=>k_is)
  (case l9=>k_is)
  (case c9=>k_is)
  (case k9=>k_is)
  (case a10=>k_is)
  (case l10=>k_is)
  (case c10=>k_is)
  (case k10=>k_is)
  (case a11=>k_is)
  (case l11=>k_is)
  (case c11=>k_is)
  (case k11=>k_is)
  (case a12=>k_is)
  (case l12=>k_is)
  (case c12=>k_is)
  (case k12=>k_is)
  (case a13=>k_is)
  (case l13=>k_is)
  (case c13=>k_is)
  (case k13=>k_is)
  (case a14=>k_is)
  (case l14=>k_is)
  (case c14=>k_is)
  (case k14=>k_is)
  (case a15=>k_is)
  (case l15=>k_is)
  (case c15=>k_is)
  (case k15=>k_is)
  (case a16=>k_is)
  (case l16=>k_is)
  (case c16=>k_is)
  (case k16=>k_is)
  (case a17=>k_is)
  (case l17=>k_is)
  (case c17=>k_is)
  (case k17=>k_is)
  (case a18=>k_is)
  (case l18=>k_is)
  (case c18=>k_is)
  (case k18=>k_is)
  (case a19=>k_is)
  (case l19=>k_is)
  (case c19=>k_is)
  (case k19=>k_is)
  (case a20=>k_is)
  (case l20=>k_is)
  (case c20=>k_is)
  (case k20=>k_is)
  (case a21=>k_is)
  (case l21=>k_is)
  (case c21=>k_is)
  (case k21=>k_is)
  (case a22=>k_is)
  (case l22=>k_is)
  (case c22=>k_is)
  (case k22=>k_is)
  (case a23=>k_is)
  (case l23=>k_is)
  (case c23=>k_is)
  (case k23=>k_is)
  (case a24=>k_is)
  (case l24=>k_is)
  (case c24=>k_is)
  (case k24=>k_is)
  (case a25=>k_is)
  (case l25=>k_is)
  (case c25=>k_is)
  (case k25=>k_is)
  (case a26=>k_is)
  (case l26=>k_is)
  (case c26=>k_is)
  (case k26=>k_is)
  (case a27=>k_is)
  (case l27=>k_is)
  (case c27=>k_is)
  (case k27=>k_is)
  (case a28=>k_is)
  (case l28=>k_is)
  (case c28=>k_is)
  (case k28=>k_is)
  (case a29=>k_is)
  (case l29=>k_is)
  (case c29=>k_is)
  (case k29=>k_is)
  (case a30=>k_is)
  (case l30=>k_is)
  (case c30=>k_is)
  (case k30=>k_is)
  (case a31=>k_is)
  (case i31=>k_is)
  (case l31=>k_is)
  (case c31=>k_is)
  (case k31=>k_is)
  (case a32=>k_is)
  (case i32=>k_is)
  (case l32=>k_is)
  (case c32=>k_is)
  (case k32=>k_is)
  (case a33=>k_is)
  (case i33=>k_is)
  (case l33=>k_is)
  (case c33=>k_is)
  (case k33=>k_is)
  (case a34=>k_is)
  (case i34=>k_is)
  (case l34=>k_is)
  (case c34=>k_is)
  (case k34=>k_is)
  (case a35=>k_is)
  (case l35=>k_is)
  (case c35=>k_is)
  (case k35=>k_is)
  (case a36=>k_is)
  (case l36=>k_is)
  (case c36=>k_is)
  (case k36=>k_is)
  (case a37=>k_is)
  (case l37=>k_is)
  (case c37=>k_is)
  (case k37=>k_is)
  (case a38=>k_is)
  (case l38=>k_is)
  (case c38=>k_is)
  (case k38=>k_is)
  (case a39=>k_is)
  (case l39=>k_is)
  (case c39=>k_is)
  (case k39=>k_is)
  (case a40=>k_is)
  (case l40=>k_is)
  (case c40=>k_is)
  (case k40=>k_is)
  (case a41=>k_is)
  (case l41=>k_is)
  (case c41=>k_is)
  (case k41=>k_is)
  (case a42=>k_is)
  (case l42=>k_is)
  (case c42=>k_is)
  (case k42=>k_is)
  (case a43=>k_is)
  (case l43=>k_is)
  (case c43=>k_is)
  (case k43=>k_is)
  (case a44=>k_is)
  (case l44=>k_is)
  (case c44=>k_is)
  (case k44=>k_is)
  (case a45=>k_is)
  (case l45=>k_is)
  (case c45=>k_is)
  (case k45=>k_is)
  (case a46=>k_is)
  (case l46=>k_is)
  (case c46=>k_is)
  (case k46=>k_is)
  (case a47=>k_is)
  (case i47=>k_is)
  (case l47=>k_is)
  (case c47=>k_is)
  (case k47=>k_is)
  (case a48=>k_is)
  (case l48=>k_is)
  (case c48=>k_is)
  (case k48=>k_is)
  (case a49=>k_is)
  (case l49=>k_is)
  (case c49=>k_is)
  (case k49=>k_is)
  (case a50=>k_is)
  (case l50=>k_is)
  (case c50=>k_is)
  (case k50=>k_is)
  (case a51=>k_is)
  (case l51=>k_is)
  (case c51=>k_is)
  (case k51=>k_is)
  (case a52=>k_is)
  (case l52=>k_is)
  (case c52=>k_is)
  (case k52=>k_is)
  (case a53=>k_is)
  (case l53=>k_is)
  (case c53=>k_is)
  (case k53=>k_is)
  (case a54=>k_is)
  (case i54=>k_is)
  (case l54=>k_is)
  (case c54=>k_is)
  (case k54=>k_is)
  (case a55=>k_is)
  (case l55=>k_is)
  (case c55=>k_is)
  (case k55=>k_is)
  (case a56=>k_is)
  (case l56=>k_is)
  (case c56=>k_is)
  (case k56=>k_is)
  (case a57=>k_is)
  (case l57=>k_is)
  (case c57=>k_is)
  (case k57=>k_is)
  (case a58=>k_is)
  (case l58=>k_is)
  (case c58=>k_is)
  (case k58=>k_is)
  (case a59=>k_is)
  (case l59=>k_is)
  (case c59=>k_is)
  (case k59=>k_is)
  (case a60=>k_is)
  (case l60=>k_is)
  (case c60=>k_is)
  (case k60=>k_is)
  (case a61=>k_is)
  (case l61=>k_is)
  (case c61=>k_is)
  (case k61=>k_is)
  (case a62=>k_is)
  (case l62=>k_is)
  (case c62=>k_is)
  (case k62=>k_is)
  (case a63=>k_is)
  (case l63=>k_is)
  (case c63=>k_is)
  (case k63=>k_is)
  (case a64=>k_is)
  (case l64=>k_is)
  (case c64=>k_is)
  (case k64=>k_is)
  (case a65=>k_is)
  (case l65=>k_is)
  (case c65=>k_is)
  (case k65=>k_is)
  (case a66=>k_is)
  (case l66=>k_is)
  (case c66=>k_is)
  (case k66=>k_is)
  (case a67=>k_is)
  (case l67=>k_is)
  (case c67=>k_is)
  (case k67=>k_is)
  (case a68=>k_is)
  (case l68=>k_is)
  (case c68=>k_is)
  (case k68=>k_is)
  (case a69=>k_is)
  (case l69=>k_is)
  (case c69=>k_is)
  (case k69=>k_is)
  (case a70=>k_is)
  (case l70=>k_is)
  (case c70=>k_is)
  (case k70=>k_is)
  (case z0=>k_is)
  (case z1=>k_is)
  (case z2=>k_is)
  (case z3=>k_is)
  (case z4=>k_is)
  (case z5=>k_is)
  (case z6=>k_is)
  (case z7=>k_is)
  (case z8=>k_is)
  (case z9=>k_is)
  (case z10=>k_is)
  (case z11=>k_is)
  (case z12=>k_is)
  (case y0=>k_is)
  (case y1=>k_is)
  (case y2=>k_is)
  (case y3=>k_is)
  (case y4=>k_is)
  (case xa0=>k_is)
  (case xa1=>k_is)
  (case xa2=>k_is)
  (case xa3=>k_is)
  (case xa4=>k_is)
  (case xa5=>k_is)
  (case xa6=>k_is)
  (case xa7=>k_is)
  (case xa8=>k_is)
  (case xa9=>k_is)
  (case xa10=>k_is)
  (case xa11=>k_is)
  (case xe0=>kernel_rfl)
  (case xe1=>kernel_rfl)
  (case xe2=>kernel_rfl)
  (case xe3=>kernel_rfl)
  (case xi3=>kernel_rfl)
  (case xs3_0=>kernel_rfl)
  (case xk3_3=>kernel_rfl)
  (case xk3_4=>kernel_rfl)
  (case xk3_5=>kernel_rfl)
  (case xk3_6=>kernel_rfl)
  (case xk3_7=>kernel_rfl)
  (case xk3_8=>kernel_rfl)
  (case xk3_9=>kernel_rfl)
  (case xk3_10=>kernel_rfl)
  (case xk3_11=>kernel_rfl)
  (case xe4=>kernel_rfl)
  (case xi4=>kernel_rfl)
  (case xs4_0=>kernel_rfl)
  (case xk4_3=>kernel_rfl)
  (case xk4_4=>kernel_rfl)
  (case xk4_5=>kernel_rfl)
  (case xk4_6=>kernel_rfl)
  (case xk4_7=>kernel_rfl)
  (case xk4_8=>kernel_rfl)
  (case xk4_9=>kernel_rfl)
  (case xk4_10=>kernel_rfl)
  (case xk4_11=>kernel_rfl)
  (case xe5=>kernel_rfl)
  (case xi5=>kernel_rfl)
  (case xs5_0=>kernel_rfl)
  (case xk5_3=>kernel_rfl)
  (case xk5_4=>kernel_rfl)
  (case xk5_5=>kernel_rfl)
  (case xk5_6=>kernel_rfl)
  (case xk5_7=>kernel_rfl)
  (case xk5_8=>kernel_rfl)
  (case xk5_9=>kernel_rfl)
  (case xk5_10=>kernel_rfl)
  (case xk5_11=>kernel_rfl)
  (case xe6=>kernel_rfl)
  (case xi6=>kernel_rfl)
  (case xs6_0=>kernel_rfl)
  (case xk6_3=>kernel_rfl)
  (case xk6_4=>kernel_rfl)
  (case xk6_5=>kernel_rfl)
  (case xk6_6=>kernel_rfl)
  (case xk6_7=>kernel_rfl)
  (case xk6_8=>kernel_rfl)
  (case xk6_9=>kernel_rfl)
  (case xk6_10=>kernel_rfl)
  (case xk6_11=>kernel_rfl)
  (case xe7=>kernel_rfl)
  (case xi7=>kernel_rfl)
  (case xs7_0=>kernel_rfl)
  (case xk7_3=>kernel_rfl)
  (case xk7_4=>kernel_rfl)
  (case xk7_5=>kernel_rfl)
  (case xk7_6=>kernel_rfl)
  (case xk7_7=>kernel_rfl)
  (case xk7_8=>kernel_rfl)
  (case xk7_9=>kernel_rfl)
  (case xk7_10=>kernel_rfl)
  (case xk7_11=>kernel_rfl)
  (case xe8=>kernel_rfl)
  (case xi8=>kernel_rfl)
  (case xs8_0=>kernel_rfl)
  (case xk8_3=>kernel_rfl)
  (case xk8_4=>kernel_rfl)
  (case xk8_5=>kernel_rfl)
  (case xk8_6=>kernel_rfl)
  (case xk8_7=>kernel_rfl)
  (case xk8_8=>kernel_rfl)
  (case xk8_9=>kernel_rfl)
  (case xk8_10=>kernel_rfl)
  (case xk8_11=>kernel_rfl)
  (case xe9=>kernel_rfl)
  (case xi9=>kernel_rfl)
  (case xs9_0=>kernel_rfl)
  (case xk9_3=>kernel_rfl)
  (case xk9_4=>kernel_rfl)
  (case xk9_5=>kernel_rfl)
  (case xk9_6=>kernel_rfl)
  (case xk9_7=>kernel_rfl)
  (case xk9_8=>kernel_rfl)
  (case xk9_9=>kernel_rfl)
  (case xk9_10=>kernel_rfl)
  (case xk9_11=>kernel_rfl)
  (case xe10=>kernel_rfl)
  (case xi10=>kernel_rfl)
  (case xs10_0=>kernel_rfl)
  (case xk10_3=>kernel_rfl)
  (case xk10_4=>kernel_rfl)
  (case xk10_5=>kernel_rfl)
  (case xk10_6=>kernel_rfl)
  (case xk10_7=>kernel_rfl)
  (case xk10_8=>kernel_rfl)
  (case xk10_9=>kernel_rfl)
  (case xk10_10=>kernel_rfl)
  (case xk10_11=>kernel_rfl)
  (case xe11=>kernel_rfl)
  (case xi11=>kernel_rfl)
  (case xs11_0=>kernel_rfl)
  (case xk11_3=>kernel_rfl)
  (case xk11_4=>kernel_rfl)
  (case xk11_5=>kernel_rfl)
  (case xk11_6=>kernel_rfl)
  (case xk11_7=>kernel_rfl)
  (case xk11_8=>kernel_rfl)
  (case xk11_9=>kernel_rfl)
  (case xk11_10=>kernel_rfl)
  (case xk11_11=>kernel_rfl)
  (case opg_Sheet=>k_is)
  (case ohd_Sheet=>k_is)
  (case opo_Sheet=>k_is)
  (case osa_Sheet=>k_is)
  (case omk_Sheet=>k_is)
  (case okc_Sheet=>k_is)
  (case on_Sheet_standing=>k_is)
  (case on_Sheet_struck_so_far=>k_is)
  (case on_Sheet_panel=>k_is)
  (case on_Sheet_card_by_judge=>k_is)
  (case on_Sheet_taken_so_far=>k_is)
  (case on_Sheet_sealed=>k_is)

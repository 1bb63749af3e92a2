import PyProof.Rows.All
import Wide.All
import OpenK.AllK
import Wide.FinOn
import Lean
import PyProof.EqAt
import PyProof.EqKinds
import PyProof.TupleCall
import KE.KIntText
import PyProof.ListRange
import KE.KSortAsk
import KE.KSortKey
import KE.KSortTup
import KE.KItemsList
import KE.KLam
import KE.KNestM
import PyProof.Rows.StrLen
import PyProof.Rows.Range3
import PyProof.CallStr
import PyProof.StrBlockL
import PyProof.MeetsStr
import PyProof.Rows.StrDigits
import PySem.Challenge.RW_panelplace_k49_whole_desk_and_sheet
open PySem.W (Frag InstAt callWith_K callWith_K0 cellsFrom_some codeIn emptyDict excIn fnOf handedIn hasDictIn hideAll hideAll_get instObj isFn keepIn kitCls kitOne lookIn makesIn methodCall_KW methodObj mg_none_of mg_of nsIn of_hideAll plainGet plainGet_of plainOver takerIn typeIn)
open List (all_cons all_eq_true all_map any_cons append_assoc append_nil cons_append cons_lt_cons_iff countP_cons drop_eq_getElem_cons drop_of_length_le ext_getElem filter filterMap filterMap_cons filter_append filter_congr filter_cons filter_cons_of_neg filter_cons_of_pos filter_map filter_nil find?_cons findIdx_cons flatMap flatMap_cons foldl_cons forIn_cons forIn_nil forIn_toArray getD_eq_getElem?_getD getElem?_eq_getElem getElem?_map getElem_map getElem_mem getElem_range length_append length_cons length_drop length_filter_le length_map length_nil length_range length_singleton length_take length_zip lookup_cons map map_append map_congr_left map_cons map_drop map_map map_nil map_take mem_append_left mem_append_right mem_cons mem_cons_of_mem mem_cons_self mem_of_getElem? nil_append nodup_append nodup_nil not_mem_nil of_mem_zip pairwise_lt_range push_toArray range' range_succ range_succ_eq_map replicate size_toArray take_length take_of_length_le take_succ)
open PyProof.Rows (boot_all boot_bool boot_int boot_isinstance boot_list boot_max boot_set boot_str boot_sum callWith_builtin1 callWith_type1)
open Nat (le_of_eq le_of_lt le_refl le_succ le_trans lt_irrefl lt_of_lt_of_le lt_succ_of_lt lt_succ_self lt_trans ne_of_gt ne_of_lt toDigits zero_le)
open PySem.Heap (FlyingW SameBut get?_push_of_some get?_push_size get?_update_other lt_size size_push size_update)
noncomputable section
set_option Elab.async false
set_option linter.all false
set_option maxRecDepth 100000
namespace L2
open PySem PySem.Spec PyProof.Rows
abbrev Key:=Sum Int Str
def zgJ:Key→Value→Bool
 | .inl k,v=>Value.isInt k v
 | .inr x,v=>Value.isStrOf x v
def keyH(w:World):Key→Int
 | .inl k=>hashInt k
 | .inr x=>hashStr w x
theorem yy:∀{k:Key}{v:Value},zgJ k v=true→(∃i t,k=Sum.inl i∧v=Value.int i t)∨(∃x t,k=Sum.inr x∧v=Value.str x t)
 | .inl i,v,h=>by
   obtain⟨t,e⟩:=Value.isInt_shape (k:=i) (v:=v) h
   exact .inl ⟨i,t,rfl,e⟩
 | .inr x,v,h=>by
   obtain⟨t,e⟩:=Value.isStrOf_shape (x:=x) (v:=v) h
   exact .inr ⟨x,t,rfl,e⟩
theorem keyIs_int(i:Int)(t:Tok):zgJ (.inl i) (.int i t)=true:=by simp[zgJ,Value.isInt]
theorem keyIs_str(x:Str)(t:Tok):zgJ (.inr x) (.str x t)=true:=by simp[zgJ,Value.isStrOf]
theorem key_ll(a b:Int):decide ((Sum.inl a:Key)=Sum.inl b)=(a==b):=by
 by_cases e:a=b
 ·subst e;simp
 ·have h:¬(Sum.inl a:Key)=Sum.inl b:=fun q=>e (Sum.inl.inj q)
  rw[decide_eq_false h]
  exact(beq_eq_false_iff_ne.mpr e).symm
theorem key_rr(a b:Str):decide ((Sum.inr a:Key)=Sum.inr b)=decide (a=b):=by
 by_cases e:a=b
 ·subst e;simp
 ·have h:¬(Sum.inr a:Key)=Sum.inr b:=fun q=>e (Sum.inr.inj q)
  rw[decide_eq_false h,decide_eq_false e]
theorem key_lr(a:Int)(b:Str):decide ((Sum.inl a:Key)=Sum.inr b)=false:=decide_eq_false (fun q=>nomatch q)
theorem key_rl(a:Str)(b:Int):decide ((Sum.inr a:Key)=Sum.inl b)=false:=decide_eq_false (fun q=>nomatch q)
def wx(prog:Program)(w:World):PySem.KeyKind prog w Key where
 is:=zgJ
 hash:=keyH w
 inj:=fun v a b ha hb=>by
  rcases yy ha with⟨i,t,rfl,rfl⟩|⟨x,t,rfl,rfl⟩
  ·rcases yy hb with⟨j,u,rfl,e⟩|⟨y,u,rfl,e⟩
   ·injection e with e1 _;rw[e1]
   ·exact nomatch e
  ·rcases yy hb with⟨j,u,rfl,e⟩|⟨y,u,rfl,e⟩
   ·exact nomatch e
   ·injection e with e1 _;rw[e1]
 byValue:=fun k v h=>by
  rcases yy h with⟨i,t,rfl,rfl⟩|⟨x,t,rfl,rfl⟩ <;> rfl
 pyHash:=fun hv h=>by
  rcases yy hv with⟨i,t,rfl,rfl⟩|⟨x,t,rfl,rfl⟩
  ·exact wpAny_pyHash_int h
  ·exact wpAny_pyHash_str h
 eqBool:=fun hu hv h=>by
  rcases yy hu with⟨i,t,rfl,rfl⟩|⟨x,t,rfl,rfl⟩
  ·rcases yy hv with⟨j,u,rfl,rfl⟩|⟨y,u,rfl,rfl⟩
   ·rw[key_ll] at h;exact wpAny_eqBool_int h
   ·rw[key_lr] at h;exact SeqAt.EqAt.int_str i t y u _ _ _ _ h
  ·rcases yy hv with⟨j,u,rfl,rfl⟩|⟨y,u,rfl,rfl⟩
   ·rw[key_rl] at h;exact SeqAt.EqAt.str_int x t j u _ _ _ _ h
   ·rw[key_rr] at h;exact wpAny_eqBool_str h
 «strs» := fun k x t v h=>by
  rcases yy h with⟨i,u,rfl,e⟩|⟨y,u,rfl,e⟩
  ·exact nomatch e
  ·injection e with e1 _
   subst e1
   cases v <;> rfl
theorem ziL(prog:Program)(w:World)(i:Int)(t:Tok):(wx prog w).is (.inl i) (.int i t)=true:=keyIs_int i t
theorem zik(prog:Program)(w:World)(x:Str)(t:Tok):(wx prog w).is (.inr x) (.str x t)=true:=keyIs_str x t
inductive V where
 | non | bl (b:Bool) | int (i:Int) | str (x:Str) | byt (b:Array UInt8) | flt (b:UInt64) | ref (a:Addr) | ty (n:String)
 deriving DecidableEq
def RelV:V→Value→Prop
 | .non,u=>u=Value.none
 | .bl b,u=>u=Value.bool b
 | .int i,u=>∃t,u=Value.int i t
 | .str x,u=>∃t,u=Value.str x t
 | .byt b,u=>∃t,u=Value.bytes b t
 | .flt b,u=>∃t,u=Value.float b t
 | .ref a,u=>u=Value.ref a
 | .ty n,u=>u=Value.type n
abbrev Vals:List V→List Value→Prop:=Paired RelV
theorem Vals.length{xs:List V}{us:List Value}(r:Vals xs us):xs.length=us.length:=Paired.length r
theorem Vals.get:∀{xs:List V}{us:List Value}{i:Nat}{x:V},Vals xs us→xs[i]? = some x→∃u,us[i]? = some u∧RelV x u
 | _,_,_,_,.nil,e=>by simp at e
 | _,_,0,_,.cons r _,e=>by simp at e;subst e;exact⟨_,rfl,r⟩
 | _,_,i+1,x,.cons _ t,e=>by
   obtain⟨u,h1,h2⟩:=Vals.get (i:=i) (x:=x) t (by simpa using e)
   exact⟨u,by simpa using h1,h2⟩
theorem Vals.set{x:V}{u:Value}(r:RelV x u):∀{xs:List V}{us:List Value}(i:Nat),Vals xs us→Vals (xs.set i x) (us.set i u)
 | _,_,_,.nil=>.nil
 | _,_,0,.cons _ t=>.cons r t
 | _,_,i+1,.cons q t=>.cons q (Vals.set r i t)
theorem Vals.append:∀{xs ys:List V}{us ws:List Value},Vals xs us→Vals ys ws→Vals (xs++ys) (us++ws)
 | _,_,_,_,.nil,s=>s
 | _,_,_,_,.cons r t,s=>.cons r (Vals.append t s)
theorem Vals.take:∀{xs:List V}{us:List Value}(n:Nat),Vals xs us→Vals (xs.take n) (us.take n)
 | _,_,0,_=>.nil
 | _,_,_+1,.nil=>.nil
 | _,_,n+1,.cons r t=>.cons r (Vals.take n t)
theorem Vals.drop:∀{xs:List V}{us:List Value}(n:Nat),Vals xs us→Vals (xs.drop n) (us.drop n)
 | _,_,0,r=>r
 | _,_,_+1,.nil=>.nil
 | _,_,n+1,.cons _ t=>Vals.drop n t
def RelO:Option V→Option Value→Prop
 | some v,some u=>RelV v u
 | none,none=>True
 | _,_=>False
def KV{κ:Type}:List (κ×V)→List (κ×Value)→Prop:=Paired fun(p:κ×V) (q:κ×Value)=>p.1=q.1∧RelV p.2 q.2
def kV:Key→V
 | .inl i=>.int i
 | .inr x=>.str x
inductive HO where
 /-- a list -/
 | lst (xs:List V)
 /-- a tuple (never changes) -/
 | tup (xs:List V)
 /-- a dict whose keys are ints and texts;one whose keys are tuples of ints and texts (the empty one is both) -/
 | dK (kvs:List (Key×V)) | dT (kvs:List (List Key×V))
 /-- a set of ints: its members,its size -/
 | set (S:Int→Bool) (n:Nat)
 /-- an instance of the class at C,its dict at dx,its attributes -/
 | ins (C dx:Addr) (fs:List (Str×V))
 /-- the dict of the instance at x -/
 | own (x:Addr)
 /-- the dict of an exception -/
 | xd (fs:List (Str×V))
 /-- a bound method,f of x -/
 | met (f x:Addr)
 /-- a range object lo,lo+1,.. zc0 hi -/
 | rng (lo hi:Int)
 /-- a thing that is known to the object (the script;a dict while a loop walks it): read,never written while it is so -/
 | frz (o:Obj) (u:HO)
 /-- a code object's table -/
 | tbl (ps:Array Value)
 /-- any other thing,by what is true of its one object (a def of one's own: SetO a S n:=HO.ext fun h => ..) -/
 | ext (φ:Heap→Prop)
abbrev Hp:=Addr→Option HO
def upd(H:Hp)(a:Addr)(o:HO):Hp:=fun b=>if b=a then some o else H b
theorem zf{H:Hp}{a:Addr}{o:HO}:upd H a o a=some o:=by unfold upd;rw[if_pos rfl]
theorem zg{H:Hp}{a b:Addr}{o:HO}(h:b≠a):upd H a o b=H b:=by unfold upd;rw[if_neg h]
theorem upd_upd{H:Hp}{a:Addr}{o u:HO}:upd (upd H a o) a u=upd H a u:=by
 funext b;unfold upd;split <;> rfl
theorem zD{H:Hp}{a b:Addr}{o u:HO}(h:H a=some o)(h':H b=some u)(d:o≠u):a≠b:=by
 intro e;subst e;rw[h] at h';exact d (Option.some.inj h')
theorem zj{H:Hp}{a b:Addr}{o:HO}(h:H a=some o)(h':H b=none):a≠b:=by
 intro e;subst e;rw[h] at h';cases h'
section
variable (P:Program)(w:World)
def ObjOk(H:Hp)(h:Heap)(a:Addr):HO→Prop
 | .lst xs=>xs.length≤sizeLine∧∃(its:List Value)(n:Nat),Vals xs its∧h.get? a=some { cls:=.type "list",data:=.seq its.toArray n }
 | .tup xs=>xs.length≤sizeLine∧∃its:List Value,Vals xs its∧IsTup h a its.toArray
 | .dK kvs=>kvs.length≤sizeLine∧(a==sysModules)=false∧∃vs,KV kvs vs∧h.DictOf (wx P w) a vs
 | .dT kvs=>kvs.length≤sizeLine∧(a==sysModules)=false∧∃xs:List (List Key×Addr×Value),
    Paired (fun(p:List Key×V) (q:List Key×Addr×Value)=>p.1=q.1∧H q.2.1=some (.tup (p.1.map kV))∧RelV p.2 q.2.2) kvs xs ∧
    ∃o es ep,h.get? a=some o∧o.ExactDict∧o.data=.dict es ep∧es.toList=xs.map (entryOfKey (tupleKind (wx P w)))∧(xs.map (·.1)).Nodup
 | .set S n=>h.SetOf (intKind P w) a S n
 | .ins C dx fs=>H dx=some (.own a)∧fs.length≤1000∧dx≠a∧h.get? a=some (instObj C dx) ∧
    ∃mA,h.Ns1 dx mA∧(∀f,RelO (fs.lookup f) (mA f))∧PySem.Within mA (fs.map (·.1))
 | .own _=>∃o,h.get? a=some o
 | .xd fs=>∃mA,h.Ns1 a mA∧∀f,RelO (fs.lookup f) (mA f)
 | .rng lo hi=>∃t u v,h.get? a=some { cls:=.type "range",data:=.fields #[.int lo t,.int hi u,.int 1 v] }
 | .frz o u=>h.get? a=some o∧ObjOk H h a u
 | .tbl ps=>h.get? a=some { cls:=.none,data:=.fields ps }
 | .met f x=>h.get? a=some (methodObj (.ref f) (.ref x))
 | .ext φ=>φ h∧(∃o,h.get? a=some o)∧∀h1 h2:Heap,φ h1→(∀o,h1.get? a=some o→h2.get? a=some o)→φ h2
def HOk(H:Hp)(h:Heap):Prop:=∀a o,H a=some o→ObjOk P w H h a o
end
section
variable {P:Program}{w:World}{H H':Hp}{h h':Heap}{a:Addr}{o:HO}
theorem ObjOk.lt(x:ObjOk P w H h a o):a<h.objs.size:=by
 cases o with
 | lst xs=>obtain⟨_,_,_,_,e⟩:=x;exact lt_size e
 | tup xs=>obtain⟨_,_,_,p⟩:=x;exact p.lt
 | dK kvs=>obtain⟨_,_,_,_,o,_,_,e,_⟩:=x;exact lt_size e
 | dT kvs=>obtain⟨_,_,_,_,o,_,_,e,_⟩:=x;exact lt_size e
 | set S n=>obtain⟨o,_,_,_,e,_⟩:=x;exact lt_size e
 | ins C dx fs=>obtain⟨_,_,_,e,_⟩:=x;exact lt_size e
 | own y=>obtain⟨_,e⟩:=x;exact lt_size e
 | xd fs=>obtain⟨_,⟨_,_,_,e,_⟩,_⟩:=x;exact lt_size e
 | rng lo hi=>obtain⟨_,_,_,e⟩:=x;exact lt_size e
 | frz ob u=>obtain⟨e,_⟩:=x;exact lt_size e
 | tbl ps=>exact lt_size (show h.get? a=some _ from x)
 | met f y=>exact lt_size (show h.get? a=some _ from x)
 | ext φ=>obtain⟨_,⟨_,e⟩,_⟩:=x;exact lt_size e
theorem Paired.mapP{α β:Type}{F G:α→β→Prop}:∀{l₁:List α}{l₂:List β},Paired F l₁ l₂→(∀a b,F a b→G a b)→Paired G l₁ l₂
 | _,_,.nil,_=>.nil
 | _,_,.cons r t,f=>.cons (f _ _ r) (Paired.mapP t f)
theorem ObjOk.stay(x:ObjOk P w H h a o)(k:∀b u,(b=a∨H b=some (.own a))→h.get? b=some u→h'.get? b=some u)
 (ho:∀b,H b=some (.own a)→H' b=some (.own a)) (ht:∀b xs,H b=some (.tup xs)→H' b=some (.tup xs)):ObjOk P w H' h' a o:=by
 induction o with
 | lst xs=>obtain⟨z,its,n,r,e⟩:=x;exact⟨z,its,n,r,k _ _ (.inl rfl) e⟩
 | tup xs=>obtain⟨z,its,r,ob,e,c⟩:=x;exact⟨z,its,r,ob,k _ _ (.inl rfl) e,c⟩
 | dK kvs=>obtain⟨z,y,vs,r,ob,es,ep,e,c⟩:=x;exact⟨z,y,vs,r,ob,es,ep,k _ _ (.inl rfl) e,c⟩
 | dT kvs =>
   obtain⟨z,y,xs,r,ob,es,ep,e,c⟩:=x
   exact⟨z,y,xs,Paired.mapP r fun p q z=>⟨z.1,ht _ _ z.2.1,z.2.2⟩,ob,es,ep,k _ _ (.inl rfl) e,c⟩
 | set S n=>obtain⟨ob,es,ep,t,e,c⟩:=x;exact⟨ob,es,ep,t,k _ _ (.inl rfl) e,c⟩
 | ins C dx fs =>
   obtain⟨d,z,ne,e,mA,⟨od,es,ep,e2,c⟩,r⟩:=x
   exact⟨ho _ d,z,ne,k _ _ (.inl rfl) e,mA,⟨od,es,ep,k _ _ (.inr d) e2,c⟩,r⟩
 | own y=>obtain⟨ob,e⟩:=x;exact⟨ob,k _ _ (.inl rfl) e⟩
 | xd fs=>obtain⟨mA,⟨od,es,ep,e,c⟩,r⟩:=x;exact⟨mA,⟨od,es,ep,k _ _ (.inl rfl) e,c⟩,r⟩
 | rng lo hi=>obtain⟨t,u,v,e⟩:=x;exact⟨t,u,v,k _ _ (.inl rfl) e⟩
 | frz ob u ih=>obtain⟨e,q⟩:=x;exact⟨k _ _ (.inl rfl) e,ih q⟩
 | tbl ps =>
   have e:h.get? a=some { cls:=.none,data:=.fields ps }:=x
   show h'.get? a=some { cls:=.none,data:=.fields ps }
   exact k a _ (.inl rfl) e
 | met f y =>
   have e:h.get? a=some (methodObj (.ref f) (.ref y)):=x
   show h'.get? a=some (methodObj (.ref f) (.ref y))
   exact k a _ (.inl rfl) e
 | ext φ=>obtain⟨p,⟨o,e⟩,st⟩:=x;exact⟨st _ _ p fun o q=>k _ _ (.inl rfl) q,⟨o,k _ _ (.inl rfl) e⟩,st⟩
theorem HOk.lt(x:HOk P w H h)(e:H a=some o):a<h.objs.size:=(x a o e).lt
theorem HOk.fresh(x:HOk P w H h)(e:h.objs.size≤a):H a=none:=by
 cases q:H a with
 | none=>rfl
 | some u=>exact absurd (lt_of_lt_of_le (x.lt q) e) (lt_irrefl _)
theorem HOk.kept(x:HOk P w H h)(k:∀b u,h.get? b=some u→h'.get? b=some u):HOk P w H h':=fun a o e =>
 (x a o e).stay (fun b u _ q=>k b u q) (fun _ q=>q) fun _ _ q=>q
theorem HOk.laid(x:HOk P w H h)(k:∀b u,h.get? b=some u→h'.get? b=some u)(hp:h.objs.size≤a)(new:ObjOk P w (upd H a o) h' a o):HOk P w (upd H a o) h':=fun b u e=>by
 have hn:=x.fresh hp
 by_cases hb:b=a
 ·subst hb;rw[zf] at e;cases e;exact new
 ·rw[zg hb] at e
  exact(x b u e).stay (fun c v _ q=>k c v q) (fun c q=>by rw[zg (zj q hn)];exact q) fun c xs q=>by rw[zg (zj q hn)];exact q
end
def Rd(H:Hp)(a:Addr)(u:HO):Prop:=H a=some u∨∃o,H a=some (.frz o u)
theorem Rd.of{H:Hp}{a:Addr}{u:HO}(h:H a=some u):Rd H a u:=.inl h
theorem Rd.ok{P:Program}{w:World}{H:Hp}{h:Heap}{a:Addr}{u:HO}(r:Rd H a u)(x:HOk P w H h):ObjOk P w H h a u:=by
 rcases r with r | ⟨o,r⟩
 ·exact x a u r
 ·obtain⟨_,q⟩:=x a _ r
  exact q
def Mut:Option HO→Prop
 | some (.lst _)=>True
 | some (.dK _)=>True
 | some (.dT _)=>True
 | some (.set _ _)=>True
 | some (.ins _ _ _)=>True
 | some (.ext _)=>True
 | _=>False
section
variable {P:Program}{w:World}{H:Hp}{h h':Heap}{x e:Addr}{o':HO}
theorem HOk.write(ok:HOk P w H h)(mu:Mut (H x))(he:e=x∨H e=some (.own x))(k:∀b u,b≠e→h.get? b=some u→h'.get? b=some u)(heo:∃u,h'.get? e=some u)
 (new:ObjOk P w (upd H x o') h' x o'):HOk P w (upd H x o') h':=fun b u q=>by
 have nown:∀c y,H c=some (.own y)→c≠x:=fun c y r z=>by subst z;rw[r] at mu;exact mu
 have ntup:∀c xs,H c=some (.tup xs)→c≠x:=fun c xs r z=>by subst z;rw[r] at mu;exact mu
 by_cases hb:b=x
 ·subst hb;rw[zf] at q;cases q;exact new
 ·rw[zg hb] at q
  by_cases hbe:b=e
  ·have q':H b=some (.own x):=by
    rcases he with z | z
    ·exact absurd (hbe.trans z) hb
    ·rw[hbe];exact z
   rw[q] at q';cases q'
   obtain⟨v,hv⟩:=heo
   exact⟨v,by rw[hbe];exact hv⟩
  ·refine(ok b u q).stay (fun c v hc r=>k c v ?_ r) (fun c r=>by rw[zg (nown c b r)];exact r) fun c xs r=>by rw[zg (ntup c xs r)];exact r
   rcases hc with rfl | hc
   ·exact hbe
   ·rintro rfl
    rcases he with z | z
    ·exact nown c b hc z
    ·rw[hc] at z;cases z;exact hb rfl
end
structure Un (fs ex:List Addr) (H H':Hp) (h h':Heap):Prop where
 keep:∀b o,h.get? b=some o→H b=none→b∉fs→b∉ex→h'.get? b=some o
 slot:∀b o,h.get? b=some o→H b=none→b∈fs→b∉ex→∃sl,h'.get? b=some { o with slots:=sl }
 free:∀b o,h.get? b=some o→H b=none→b∉ex→H' b=none
 there:∀b o,h.get? b=some o→b∉ex→∃o',h'.get? b=some o'
 tups:∀b xs,H b=some (.tup xs)→H' b=some (.tup xs)
 frzs:∀b o u,H b=some (.frz o u)→H' b=some (.frz o u)
 tbls:∀b ps,H b=some (.tbl ps)→∃more,H' b=some (.tbl (ps++more))
section
variable {fs fs' ex ex':List Addr}{H H1 H2:Hp}{h h1 h2 h':Heap}{a x e:Addr}{o:HO}
theorem Un.any(u:Un fs ex H H1 h h1){b:Addr}{ob:Obj}(q:h.get? b=some ob)(n:H b=none)(hx:b∉ex):∃sl,h1.get? b=some { ob with slots:=sl }:=by
 by_cases hb:b∈fs
 ·exact u.slot b ob q n hb hx
 ·exact⟨ob.slots,u.keep b ob q n hb hx⟩
theorem Un.trans(a:Un fs ex H H1 h h1)(b:Un fs ex H1 H2 h1 h2):Un fs ex H H2 h h2 where
 keep:=fun c ob q n hc hx=>b.keep c ob (a.keep c ob q n hc hx) (a.free c ob q n hx) hc hx
 slot:=fun c ob q n hc hx=>by
  obtain⟨sl,e1⟩:=a.slot c ob q n hc hx
  obtain⟨sl',e2⟩:=b.slot c _ e1 (a.free c ob q n hx) hc hx
  exact⟨sl',e2⟩
 free:=fun c ob q n hx=>by
  obtain⟨o',e1⟩:=a.there c ob q hx
  exact b.free c o' e1 (a.free c ob q n hx) hx
 there:=fun c ob q hx=>by
  obtain⟨o',e1⟩:=a.there c ob q hx
  exact b.there c o' e1 hx
 tups:=fun c xs q=>b.tups c xs (a.tups c xs q)
 frzs:=fun c ob xs q=>b.frzs c ob xs (a.frzs c ob xs q)
 tbls:=fun c ps q=>by
  obtain⟨m1,e1⟩:=a.tbls c ps q
  obtain⟨m2,e2⟩:=b.tbls c _ e1
  exact⟨m1++m2,by rw[e2,Array.append_assoc]⟩
theorem Un.kept(k:∀b u,h.get? b=some u→h'.get? b=some u):Un fs ex H H h h' :=
 ⟨fun b ob q _ _ _=>k b ob q,fun b ob q _ _ _=>⟨ob.slots,k b ob q⟩,fun _ _ _ n _=>n,fun b ob q _=>⟨ob,k b ob q⟩,fun _ _ q=>q,fun _ _ _ q=>q,fun _ ps q=>⟨#[],by rw[q];simp⟩⟩
theorem Un.refl:Un fs ex H H h h:=Un.kept fun _ _ q=>q
theorem Un.laid(k:∀b u,h.get? b=some u→h'.get? b=some u)(hp:h.objs.size≤a)(hn:H a=none):Un fs ex H (upd H a o) h h' where
 keep:=fun b u q _ _ _=>k b u q
 slot:=fun b u q _ _ _=>⟨u.slots,k b u q⟩
 free:=fun b u q n _=>by rw[zg (ne_of_lt (lt_of_lt_of_le (lt_size q) hp))];exact n
 there:=fun b u q _=>⟨u,k b u q⟩
 tups:=fun b xs q=>by rw[zg (zj q hn)];exact q
 frzs:=fun b u xs q=>by rw[zg (zj q hn)];exact q
 tbls:=fun b ps q=>⟨#[],by rw[zg (zj q hn),q];simp⟩
theorem Un.write(mu:Mut (H x))(he:e=x∨H e=some (.own x))(k:∀b u,b≠e→h.get? b=some u→h'.get? b=some u)(heo:∃u,h'.get? e=some u):Un fs ex H (upd H x o) h h':=by
 have hx:∀b,H b=none→b≠x:=fun b n z=>by subst z;rw[n] at mu;exact mu
 have hb:∀b,H b=none→b≠e:=fun b n z=>by
  subst z
  rcases he with r | r
  ·exact hx b n r
  ·rw[n] at r;cases r
 have hm:∀b u,H b=some u→¬Mut (some u)→b≠x:=fun b u q nm z=>by subst z;rw[q] at mu;exact nm mu
 refine⟨fun b u q n _ _=>k b u (hb b n) q,fun b u q n _ _=>⟨u.slots,k b u (hb b n) q⟩,fun b u q n _=>by rw[zg (hx b n)];exact n,fun b u q _=>?_,
  fun b xs q=>by rw[zg (hm b _ q fun z=>z)];exact q,fun b u xs q=>by rw[zg (hm b _ q fun z=>z)];exact q,fun b ps q=>⟨#[],by rw[zg (hm b _ q fun z=>z),q];simp⟩⟩
 by_cases hbe:b=e
 ·subst hbe;exact heo
 ·exact⟨u,k b u hbe q⟩
end
def trk(h:Heap)(H:Hp):List Addr:=(List.range h.objs.size).filter fun a=>(H a).isSome
def zgg(h:Heap)(H:Hp):Heap:=hideAll h (trk h H)
theorem hidT_size(h:Heap)(H:Hp):(zgg h H).objs.size=h.objs.size:=PySem.W.hideAll_size _ _
theorem hidT_get{h:Heap}{H:Hp}{b:Addr}{o:Obj}(e:h.get? b=some o)(n:H b=none):(zgg h H).get? b=some o :=
 hideAll_get _ e fun hm=>by
  have q:(H b).isSome=true:=(List.mem_filter.mp hm).2
  rw[n] at q;simp at q
theorem of_hidT{h:Heap}{H:Hp}{b:Addr}{o:Obj}(e:(zgg h H).get? b=some o):h.get? b=some o∧H b=none:=by
 have e':h.get? b=some o:=of_hideAll (trk h H) e
 refine⟨e',?_⟩
 cases q:H b with
 | none=>rfl
 | some x =>
   have hm:b∈trk h H:=List.mem_filter.mpr ⟨List.mem_range.mpr (lt_size e'),by simp[q]⟩
   have z:(zgg h H).get? b=none:=PySem.W.hideAll_none (trk h H) hm
   rw[z] at e;cases e
def allNews(g h:Heap)(L:Addr):List (Addr×Obj):=(List.range h.objs.size).filterMap fun a=>if a=L∨(g.get? a).isSome=true then none else(h.get? a).map fun o=>(a,o)
def za3(g h:Heap)(L d:Addr):List (Addr×Obj):=(allNews g h L).filter fun p=>decide (p.1≠d)
structure Mod (K:Frag) (mg:Str→Option Value) (base:Heap):Prop where
 kin:K.In base
 glob:base.Ns mainGlobals mg
 blt:∃mb,base.Ns builtinsNs mb∧∀x:Str,x≠"__name__"→mb x=bootBuiltins x
 nolimit:base.NoLimit
/-- the context: a def's body (or a comprehension's block) running. base: fixed through the whole law;s₀,H₀: the entry;outer: the frames whose slots others may change (a def's callers);stack: all frames that run;
 ex: iterators that were made yi of the entry and are walked here (a comprehension's);fn: the names whose cells were made at the entry (a def: all;a comprehension's block: its own);calm: not within an except suite;pn: pins that every state bears;xe: what is wanted of an exception that leaves the code -/
structure Cx where
 prog:Program
 w:World
 K:Frag
 mg:Str→Option Value
 base:Heap
 A:Around
 N:List Str
 s₀:Shared
 H₀:Hp
 env:Env
 outer:List Env
 stack:List Env
 ex:List Addr
 fn:Str→Bool
 calm:Bool
 pn:List (Addr×Obj)
 xe:Value→Shared→Prop
def frs(l:List Env):List Addr:=l.filterMap (·.frame)
abbrev Cx.fs(X:Cx):List Addr:=frs X.outer
def Vis(sc:Scope)(x:Str):Prop:=sc.names.lookup x=some .local∨sc.names.lookup x=some .cell∨sc.names.lookup x=some .free
def Loc(sc:Scope)(x:Str):Prop:=sc.names.lookup x=some .local∨sc.names.lookup x=some .cell
def Look(env:Env)(h:Heap)(m:Str→Option Value)(x:Str)(u:Value):Prop :=
 (env.kindOf x=some .local∧m x=some u)∨((env.kindOf x=some .cell∨env.kindOf x=some .free)∧∃c,env.cells.lookup x=some c∧h.IsCell c (some u))
structure Cx.Ok (X:Cx):Prop where
 mod:Mod X.K X.mg X.base
 kind:X.env.scope.kind=.function
 glob:X.env.globals=mainGlobals
 blt:X.env.builtins=builtinsNs
 above:X.s₀.heap.objs.size≤X.env.locals
 inj:∀x y c,X.env.cells.lookup x=some c→X.env.cells.lookup y=some c→x=y
 has:∀x,(X.env.kindOf x=some .cell∨X.env.kindOf x=some .free)→∃c,X.env.cells.lookup x=some c
 cab:∀x c,X.fn x=true→X.env.cells.lookup x=some c→X.s₀.heap.objs.size≤c
 hd:X.calm=true→X.A.handled=none
 frames:X.A.frames=some X.stack
 stk:X.stack=X.outer∨(X.stack=X.env::X.outer∧X.env.frame=some X.env.locals)
 exf:∀b∈X.ex,b≠X.env.locals∧∀x c,X.env.cells.lookup x=some c→c≠b
 bs:∀b o,X.base.get? b=some o→X.s₀.heap.get? b=some o∧X.H₀ b=none
 bsz:X.base.objs.size≤X.s₀.heap.objs.size
 noex:∀b o,X.base.get? b=some o→b∉X.ex
 exfs:∀b∈X.ex,b∉X.fs
 funs:X.s₀.heap.FunFrames X.base X.outer
 frf:∀b∈X.fs,X.H₀ b=none
structure Inv (X:Cx) (pins:List (Addr×Obj)) (σ:List (Option V)) (H:Hp) (s:Shared):Prop where
 ok:X.Ok
 os:s.os=X.s₀.os
 bare:AllBare s.gens
 base:Un X.fs X.ex X.H₀ H X.s₀.heap s.heap
 loc:∃m,s.heap.Ns X.env.locals m∧∀(i:Nat)(x:Str)(v:V),X.N[i]? = some x→σ[i]? = some (some v)→Vis X.env.scope x→∃u,RelV v u∧Look X.env s.heap m x u
 cell:∀x c,X.env.cells.lookup x=some c→∃v,s.heap.IsCell c v
 free:H X.env.locals=none
 freeC:∀x c,X.env.cells.lookup x=some c→H c=none
 pin:∀p∈X.pn++pins,s.heap.get? p.1=some p.2∧H p.1=none∧p.1≠X.env.locals∧p.1∉X.fs∧∀v,p.2.data ≠ .cell v
 hok:HOk X.prog X.w H s.heap
 len:σ.length=X.N.length
section
variable {X:Cx}{pins:List (Addr×Obj)}{σ:List (Option V)}{H H':Hp}{s:Shared}{h':Heap}
theorem Cx.Ok.nofr(ok:X.Ok){b:Addr}{o:Obj}(e:X.base.get? b=some o):b∉X.fs:=fun hb=>by
 have:=(ok.funs.mem hb).1
 rw[e] at this;cases this
theorem Inv.bs(I:Inv X pins σ H s):∀b o,X.base.get? b=some o→s.heap.get? b=some o∧H b=none:=fun b o e =>
 ⟨I.base.keep b o (I.ok.bs b o e).1 (I.ok.bs b o e).2 (I.ok.nofr e) (I.ok.noex b o e),I.base.free b o (I.ok.bs b o e).1 (I.ok.bs b o e).2 (I.ok.noex b o e)⟩
theorem Inv.bk(I:Inv X pins σ H s):∀b o,X.base.get? b=some o→s.heap.get? b=some o:=fun b o e=>(I.bs b o e).1
theorem Inv.mod(I:Inv X pins σ H s):Mod X.K X.mg X.base:=I.ok.mod
theorem Inv.kIn(I:Inv X pins σ H s):X.K.In s.heap:=I.ok.mod.kin.keeps I.bk
theorem Inv.lt(I:Inv X pins σ H s):X.env.locals<s.heap.objs.size:=let ⟨_,hn,_⟩:=I.loc;hn.lt
theorem Inv.sz(I:Inv X pins σ H s):X.s₀.heap.objs.size≤s.heap.objs.size:=le_trans I.ok.above (le_of_lt I.lt)
theorem Inv.nofs(I:Inv X pins σ H s){a:Addr}(h:s.heap.objs.size≤a):a∉X.fs:=fun hb=>by
 obtain⟨_,o,ho,_⟩:=I.ok.funs.mem hb
 exact absurd (lt_of_lt_of_le (lt_size ho) (le_trans I.sz h)) (lt_irrefl _)
theorem Inv.cne(I:Inv X pins σ H s):∀x c,X.env.cells.lookup x=some c→c≠X.env.locals:=fun x c e z=>by
 obtain⟨v,o,ho,hd⟩:=I.cell x c e
 obtain⟨m,⟨o',es,ep,ho',hd',_⟩,_⟩:=I.loc
 rw[z,ho'] at ho;cases ho;rw[hd'] at hd;cases hd
theorem Inv.funs(I:Inv X pins σ H s):s.heap.FunFrames X.base X.outer:=by
 have all:∀(l:List Env),(∀b∈frs l,b∈X.fs)→X.s₀.heap.FunFrames X.base l→s.heap.FunFrames X.base l:=by
  intro l
  induction l with
  | nil=>intro _ _;trivial
  | cons env r ih =>
    intro hs hl
    obtain⟨hk,⟨L,o,hf,hn,ho,hd⟩,hr⟩:=hl
    have hL:L∈X.fs:=hs L (by unfold frs;rw[filterMap_cons,hf];exact mem_cons_self)
    obtain⟨sl,e⟩:=I.base.slot L o ho (I.ok.frf L hL) hL fun z=>I.ok.exfs L z hL
    exact⟨hk,⟨L,_,hf,hn,e,hd⟩,ih (fun b hb=>hs b (by unfold frs;rw[filterMap_cons,hf];exact mem_cons_of_mem _ hb)) hr⟩
 exact all X.outer (fun _ hb=>hb) I.ok.funs
theorem Inv.stack(I:Inv X pins σ H s):s.heap.FunFrames X.base X.stack:=by
 rcases I.ok.stk with e | ⟨e,hf⟩
 ·rw[e];exact I.funs
 ·rw[e]
  obtain⟨m,hn,_⟩:=I.loc
  refine .cons (by rw[I.ok.kind];decide) hf hn ?_ I.funs
  exact Heap.get?_none_of_le (le_trans I.ok.bsz I.ok.above)
theorem Inv.stkSub(I:Inv X pins σ H s):∀b∈frs X.stack,b∈X.env.locals::X.fs:=fun b hb=>by
 rcases I.ok.stk with e | ⟨e,hf⟩
 ·rw[e] at hb;exact mem_cons_of_mem _ hb
 ·rw[e] at hb
  unfold frs at hb
  rw[filterMap_cons,hf] at hb
  exact hb
theorem Inv.stkFree(I:Inv X pins σ H s):∀b∈frs X.stack,H b=none:=fun b hb=>by
 rcases List.mem_cons.mp (I.stkSub b hb)with e | hb
 ·rw[e];exact I.free
 ·obtain⟨_,o,ho,_⟩:=I.ok.funs.mem hb
  exact I.base.free b o ho (I.ok.frf b hb) fun z=>I.ok.exfs b z hb
theorem Inv.step{g':Array GenState}{t':Nat}{d':Drawn}{ch:List Addr}(I:Inv X pins σ H s)
 (hch:∀b∈ch,(b∈X.ex∨X.s₀.heap.objs.size≤b)∧b≠X.env.locals∧(∀x c,X.env.cells.lookup x=some c→c≠b)∧∀p∈X.pn++pins,p.1≠b)
 (keep:∀b o,b≠X.env.locals→b∉X.fs→b∉ch→s.heap.get? b=some o→H b=none→h'.get? b=some o)
 (slot:∀b o,b≠X.env.locals→b∈X.fs→b∉ch→s.heap.get? b=some o→H b=none→∃sl,h'.get? b=some { o with slots:=sl }) (free:∀b o,b∉ch→s.heap.get? b=some o→H b=none→H' b=none)
 (there:∀b o,b∉ch→s.heap.get? b=some o→∃o',h'.get? b=some o')
 (tups:∀b xs,H b=some (.tup xs)→H' b=some (.tup xs)) (frzs:∀b o u,H b=some (.frz o u)→H' b=some (.frz o u)) (tbls:∀b ps,H b=some (.tbl ps)→∃more,H' b=some (.tbl (ps++more)))
 (ns:∀m,s.heap.Ns X.env.locals m→h'.Ns X.env.locals m) (hok:HOk X.prog X.w H' h') (hg:AllBare g') :
 Inv X pins σ H' { s with heap:=h',gens:=g',drawn:=d',toks:=t' }:=by
 have neL:∀b o,X.s₀.heap.get? b=some o→b≠X.env.locals:=fun b o e=>ne_of_lt (lt_of_lt_of_le (lt_size e) I.ok.above)
 have neC:∀b o,X.s₀.heap.get? b=some o→b∉X.ex→b∉ch:=fun b o e hx hb=>by
  rcases (hch b hb).1 with z | z
  ·exact hx z
  ·exact absurd (lt_of_lt_of_le (lt_size e) z) (lt_irrefl _)
 have cellK:∀x c,X.env.cells.lookup x=some c→∀v,s.heap.IsCell c v→h'.IsCell c v:=fun x c e v ⟨o,ho,hd⟩=>by
  have nch:c∉ch:=fun z=>(hch c z).2.2.1 x c e rfl
  by_cases hc:c∈X.fs
  ·obtain⟨sl,q⟩:=slot c o (I.cne x c e) hc nch ho (I.freeC x c e)
   exact⟨_,q,hd⟩
  ·exact⟨o,keep c o (I.cne x c e) hc nch ho (I.freeC x c e),hd⟩
 refine⟨I.ok,I.os,hg,⟨fun b o e n hb hx=>?_,fun b o e n hb hx=>?_,fun b o e n hx=>?_,fun b o e hx=>?_,fun b xs e=>tups b xs (I.base.tups b xs e),fun b o xs e=>frzs b o xs (I.base.frzs b o xs e),fun b ps e=>?_⟩,?_,fun x c e=>?_,?_,fun x c e=>?_,fun p hp=>?_,hok,I.len⟩
 ·exact keep b o (neL b o e) hb (neC b o e hx) (I.base.keep b o e n hb hx) (I.base.free b o e n hx)
 ·obtain⟨sl,e1⟩:=I.base.slot b o e n hb hx
  obtain⟨sl',e2⟩:=slot b _ (neL b o e) hb (neC b o e hx) e1 (I.base.free b o e n hx)
  exact⟨sl',e2⟩
 ·obtain⟨o',e1⟩:=I.base.there b o e hx
  exact free b o' (neC b o e hx) e1 (I.base.free b o e n hx)
 ·obtain⟨o',e1⟩:=I.base.there b o e hx
  exact there b o' (neC b o e hx) e1
 ·obtain⟨m1,e1⟩:=I.base.tbls b ps e
  obtain⟨m2,e2⟩:=tbls b _ e1
  exact⟨m1++m2,by rw[e2,Array.append_assoc]⟩
 ·obtain⟨m,hn,hl⟩:=I.loc
  refine⟨m,ns m hn,fun i x v e1 e2 e3=>?_⟩
  obtain⟨u,r,l⟩:=hl i x v e1 e2 e3
  refine⟨u,r,?_⟩
  rcases l with l | ⟨k,c,e,z⟩
  ·exact .inl l
  ·exact .inr ⟨k,c,e,cellK x c e _ z⟩
 ·obtain⟨v,z⟩:=I.cell x c e
  exact⟨v,cellK x c e v z⟩
 ·obtain⟨m,⟨o,_,_,ho,_⟩,_⟩:=I.loc
  exact free _ o (fun z=>(hch _ z).2.1 rfl) ho I.free
 ·obtain⟨v,o,ho,hd⟩:=I.cell x c e
  exact free c o (fun z=>(hch c z).2.2.1 x c e rfl) ho (I.freeC x c e)
 ·obtain⟨e,n,ne,nf,d⟩:=I.pin p hp
  have nch:p.1∉ch:=fun z=>(hch p.1 z).2.2.2 p hp rfl
  exact⟨keep p.1 p.2 ne nf nch e n,free p.1 p.2 nch e n,ne,nf,d⟩
theorem Inv.un{t':Nat}(I:Inv X pins σ H s)(u:Un X.fs [] H H' s.heap h')(hok:HOk X.prog X.w H' h'):Inv X pins σ H' { s with heap:=h',toks:=t' }:=by
 obtain⟨m,⟨o,es,ep,ho,r⟩,_⟩:=id I.loc
 obtain⟨sl,hL⟩:=u.any ho I.free (by simp)
 exact I.step (g':=s.gens) (d':=s.drawn) (ch:=[]) (fun _ z=>nomatch z) (fun b o _ hb _ e n=>u.keep b o e n hb (by simp)) (fun b o _ hb _ e n=>u.slot b o e n hb (by simp)) (fun b o _ e n=>u.free b o e n (by simp)) (fun b o _ e=>u.there b o e (by simp)) u.tups u.frzs u.tbls (fun m' hm=>by
  obtain⟨o',es',ep',ho',r'⟩:=hm
  rw[ho] at ho';cases ho'
  exact⟨_,es',ep',hL,r'⟩) hok I.bare
theorem Inv.call{g':Array GenState}{t':Nat}{d':Drawn}{ch:List Addr}(I:Inv X pins σ H s)(u:Un (frs X.stack) ch H H' s.heap h')(hok:HOk X.prog X.w H' h')(hg:AllBare g')
 (hch:∀b∈ch,(b∈X.ex∨X.s₀.heap.objs.size≤b)∧b≠X.env.locals∧(∀x c,X.env.cells.lookup x=some c→c≠b)∧∀p∈X.pn++pins,p.1≠b) :
 Inv X pins σ H' { s with heap:=h',gens:=g',drawn:=d',toks:=t' }:=by
 obtain⟨m,⟨o,es,ep,ho,r⟩,_⟩:=id I.loc
 obtain⟨sl,hL⟩:=u.any ho I.free fun z=>(hch _ z).2.1 rfl
 exact I.step (ch:=ch) hch (fun b o hL hb hc e n=>u.keep b o e n (fun z=>(List.mem_cons.mp (I.stkSub b z)).elim hL hb) hc) (fun b o _ _ hc e n=>u.any e n hc) (fun b o hc e n=>u.free b o e n hc) (fun b o hc e=>u.there b o e hc) u.tups u.frzs u.tbls (fun m' hm=>by
  obtain⟨o',es',ep',ho',r'⟩:=hm
  rw[ho] at ho';cases ho'
  exact⟨_,es',ep',hL,r'⟩) hok hg
theorem Inv.turned{t':Nat}{it:Addr}(I:Inv X pins σ H s)(k:∀b o,b≠it→s.heap.get? b=some o→h'.get? b=some o)(hn:H it=none)(hL:it≠X.env.locals)
 (h1:it∈X.ex∨X.s₀.heap.objs.size≤it) (h2:∀x c,X.env.cells.lookup x=some c→c≠it) (h3:∀p∈X.pn++pins,p.1≠it):Inv X pins σ H { s with heap:=h',toks:=t' }:=by
 have nit:∀b u,H b=some u→b≠it:=fun b u e z=>by rw[z,hn] at e;cases e
 refine I.step (g':=s.gens) (d':=s.drawn) (ch:=[it]) (fun b hb=>?_) (fun b o _ _ hc e _=>k b o (fun z=>hc (by simp[z])) e) (fun b o _ _ hc e _=>⟨o.slots,k b o (fun z=>hc (by simp[z])) e⟩) (fun _ _ _ _ n=>n)
  (fun b o hc e=>⟨o,k b o (fun z=>hc (by simp[z])) e⟩) (fun _ _ e=>e) (fun _ _ _ e=>e) (fun b ps e=>⟨#[],by rw[e];simp⟩) (fun m hm=>?_) (fun b u e=>?_) I.bare
 ·have e:b=it:=by simpa using hb
  subst e
  exact⟨h1,hL,h2,h3⟩
 ·obtain⟨o,es,ep,ho,r⟩:=hm
  exact⟨o,es,ep,k _ o (Ne.symm hL) ho,r⟩
 ·refine(I.hok b u e).stay (fun c v hc q=>k c v ?_ q) (fun _ q=>q) fun _ _ q=>q
  rcases hc with z | z
  ·rw[z];exact nit b u e
  ·exact nit c _ z
theorem Inv.tok(I:Inv X pins σ H s)(t:Nat):Inv X pins σ H { s with toks:=t }:=I.un (h':=s.heap) (t':=t) Un.refl I.hok
theorem Inv.kept{t':Nat}(I:Inv X pins σ H s)(k:∀b u,s.heap.get? b=some u→h'.get? b=some u):Inv X pins σ H { s with heap:=h',toks:=t' }:=I.un (Un.kept k) (I.hok.kept k)
theorem Inv.laid{a:Addr}{o:HO}{t':Nat}(I:Inv X pins σ H s)(k:∀b u,s.heap.get? b=some u→h'.get? b=some u)(hp:s.heap.objs.size≤a)(new:ObjOk X.prog X.w (upd H a o) h' a o):
 Inv X pins σ (upd H a o) { s with heap:=h',toks:=t' }:=I.un (Un.laid k hp (I.hok.fresh hp)) (I.hok.laid k hp new)
theorem Inv.write{x e:Addr}{o:HO}{t':Nat}(I:Inv X pins σ H s)(mu:Mut (H x))(he:e=x∨H e=some (.own x))(k:∀b u,b≠e→s.heap.get? b=some u→h'.get? b=some u)(heo:∃u,h'.get? e=some u)
 (new:ObjOk X.prog X.w (upd H x o) h' x o):Inv X pins σ (upd H x o) { s with heap:=h',toks:=t' }:=I.un (Un.write mu he k heo) (I.hok.write mu he k heo new)
theorem Inv.pins_of{pins':List (Addr×Obj)}(I:Inv X pins σ H s)(h:∀p∈pins',s.heap.get? p.1=some p.2∧H p.1=none∧p.1≠X.env.locals∧p.1∉X.fs∧∀v,p.2.data ≠ .cell v):Inv X pins' σ H s :=
 ⟨I.ok,I.os,I.bare,I.base,I.loc,I.cell,I.free,I.freeC,fun p hp=>(List.mem_append.mp hp).elim (fun z=>I.pin p (mem_append_left _ z)) (h p),I.hok,I.len⟩
theorem zfe{N:List Str}(hN:N.Nodup){i j:Nat}{x:Str}(a:N[i]? = some x)(b:N[j]? = some x):i=j:=by
 obtain⟨h1,e1⟩:=List.getElem?_eq_some_iff.mp a
 obtain⟨h2,e2⟩:=List.getElem?_eq_some_iff.mp b
 exact(List.getElem_inj hN).mp (e1.trans e2.symm)
theorem zgw{M:Model}{A:Around}{E:Value→Shared→Prop}{i:Nat}{x:Str}{v:V}{u:Value}{Q:Unit→Shared→Prop}(I:Inv X pins σ H s)(hN:X.N.Nodup)(hi:X.N[i]? = some x)(hx:Loc X.env.scope x)(r:RelV v u)
 (h:∀s',Inv X pins (σ.set i (some v)) H s'→(∃a,SameBut a s.heap s'.heap∧(a=X.env.locals∨X.env.cells.lookup x=some a))→Q () s') (hf:X.fn x=true∨X.env.scope.names.lookup x=some .local:=by first | exact .inl rfl | exact .inr rfl | assumption):wpAny M A (storeName X.env x u) Q E s:=by
 obtain⟨m,hn,hl⟩:=id I.loc
 have hcls:(X.env.scope.kind == .class || (X.env.scope.kind == .module && X.env.locals != X.env.globals))=false:=by rw[I.ok.kind];rfl
 have hiσ:i<σ.length:=by rw[I.len];exact(List.getElem?_eq_some_iff.mp hi).1
 have cne:=I.cne
 have tracked:∀{a:Addr}{h':Heap},(∃o,s.heap.get? a=some o∧H a=none)→SameBut a s.heap h'→HOk X.prog X.w H h':=fun {a h'} ha hs b ob e=>by
  obtain⟨_,_,hfree⟩:=ha
  refine(I.hok b ob e).stay (fun c w' hc q=>(hs.2 c ?_).trans q) (fun _ q=>q) fun _ _ q=>q
  rintro rfl
  rcases hc with rfl | hc
  ·rw[hfree] at e;cases e
  ·rw[hfree] at hc;cases hc
 rcases hx with hk | hk
 ·refine wpAny_storeName_local hk hn (fun h' hn' hs=>?_) hcls
  obtain⟨oL,_,_,hoL,_⟩:=id hn
  refine h _ ⟨I.ok,I.os,I.bare,⟨fun b o e n hb hx=>?_,fun b o e n hb hx=>?_,I.base.free,fun b o e hx=>?_,I.base.tups,I.base.frzs,I.base.tbls⟩,⟨_,hn',fun j y v' e1 e2 e3=>?_⟩,fun y c e=>?_,I.free,I.freeC,fun p hp=>?_,tracked ⟨oL,hoL,I.free⟩ hs,by simpa using I.len⟩ ⟨_,hs,.inl rfl⟩
  ·exact(hs.2 b (ne_of_lt (lt_of_lt_of_le (lt_size e) I.ok.above))).trans (I.base.keep b o e n hb hx)
  ·obtain⟨sl,e1⟩:=I.base.slot b o e n hb hx
   exact⟨sl,(hs.2 b (ne_of_lt (lt_of_lt_of_le (lt_size e) I.ok.above))).trans e1⟩
  ·obtain⟨o',e1⟩:=I.base.there b o e hx
   exact⟨o',(hs.2 b (ne_of_lt (lt_of_lt_of_le (lt_size e) I.ok.above))).trans e1⟩
  ·by_cases hj:j=i
   ·subst hj
    rw[hi] at e1;cases e1
    rw[List.getElem?_set_self hiσ] at e2
    cases e2
    exact⟨u,r,.inl ⟨hk,by simp⟩⟩
   ·rw[List.getElem?_set_ne (Ne.symm hj)] at e2
    obtain⟨u',r',q⟩:=hl j y v' e1 e2 e3
    refine⟨u',r',?_⟩
    rcases q with⟨k,e⟩|⟨k,c,e,z⟩
    ·refine .inl ⟨k,?_⟩
     have:y≠x:=fun e=>hj (zfe hN e1 (e ▸ hi))
     simp[this,e]
    ·exact .inr ⟨k,c,e,z.sameBut hs (cne y c e)⟩
  ·obtain⟨w',z⟩:=I.cell y c e
   exact⟨w',z.sameBut hs (cne y c e)⟩
  ·obtain⟨e,n,ne,nf,d⟩:=I.pin p hp
   exact⟨(hs.2 p.1 ne).trans e,n,ne,nf,d⟩
 ·have hfn:X.fn x=true:=by
   rcases hf with z | z
   ·exact z
   ·rw[z] at hk;cases hk
  obtain⟨c,hc⟩:=I.ok.has x (.inl hk)
  obtain⟨w',z⟩:=I.cell x c hc
  refine wpAny_storeName_cell I.ok.kind hk hc z (fun h' hc' hs=>?_)
  obtain⟨oc,hoc,hocd⟩:=id z
  refine h { s with heap:=h' } ⟨I.ok,I.os,I.bare,⟨fun b o e n hb hx=>?_,fun b o e n hb hx=>?_,I.base.free,fun b o e hx=>?_,I.base.tups,I.base.frzs,I.base.tbls⟩,⟨m,hn.sameBut hs (Ne.symm (cne x c hc)),fun j y v' e1 e2 e3=>?_⟩,fun y c' e=>?_,I.free,I.freeC,fun p hp=>?_,tracked ⟨oc,hoc,I.freeC x c hc⟩ hs,by simpa using I.len⟩ ⟨c,hs,.inr hc⟩
  ·exact(hs.2 b (ne_of_lt (lt_of_lt_of_le (lt_size e) (I.ok.cab x c hfn hc)))).trans (I.base.keep b o e n hb hx)
  ·obtain⟨sl,e1⟩:=I.base.slot b o e n hb hx
   exact⟨sl,(hs.2 b (ne_of_lt (lt_of_lt_of_le (lt_size e) (I.ok.cab x c hfn hc)))).trans e1⟩
  ·obtain⟨o',e1⟩:=I.base.there b o e hx
   exact⟨o',(hs.2 b (ne_of_lt (lt_of_lt_of_le (lt_size e) (I.ok.cab x c hfn hc)))).trans e1⟩
  ·by_cases hj:j=i
   ·subst hj
    rw[hi] at e1;cases e1
    rw[List.getElem?_set_self hiσ] at e2
    cases e2
    exact⟨u,r,.inr ⟨.inl hk,c,hc,hc'⟩⟩
   ·rw[List.getElem?_set_ne (Ne.symm hj)] at e2
    obtain⟨u',r',q⟩:=hl j y v' e1 e2 e3
    refine⟨u',r',?_⟩
    rcases q with q | ⟨k,c',e,z'⟩
    ·exact .inl q
    ·refine .inr ⟨k,c',e,z'.sameBut hs ?_⟩
     rintro rfl
     exact hj (zfe hN e1 (I.ok.inj _ _ _ e hc ▸ hi))
  ·by_cases hcc:c'=c
   ·subst hcc;exact⟨_,hc'⟩
   ·obtain⟨w2,z2⟩:=I.cell y c' e
    exact⟨w2,z2.sameBut hs hcc⟩
  ·obtain⟨e,n,ne,nf,d⟩:=I.pin p hp
   refine⟨(hs.2 p.1 ?_).trans e,n,ne,nf,d⟩
   intro q
   rw[q,hoc] at e
   have q':oc=p.2:=Option.some.inj e
   exact d w' (by rw[←q'];exact hocd)
theorem zeW{M:Model}{A:Around}{E:Value→Shared→Prop}{i:Nat}{x:Str}{v:V}{u:Value}{Q:Unit→Shared→Prop}(I:Inv X pins σ H s)(hN:X.N.Nodup)(hi:X.N[i]? = some x)(hx:Loc X.env.scope x)(r:RelV v u)
 (h:∀s',Inv X pins (σ.set i (some v)) H s'→Q () s') (hf:X.fn x=true∨X.env.scope.names.lookup x=some .local:=by first | exact .inl rfl | exact .inr rfl | assumption):wpAny M A (storeName X.env x u) Q E s :=
 zgw I hN hi hx r (fun s' I' _=>h s' I') hf
theorem Inv.call'{s':Shared}{ch:List Addr}(I:Inv X pins σ H s)(ho:s'.os=s.os)(u:Un (frs X.stack) ch H H' s.heap s'.heap)(hok:HOk X.prog X.w H' s'.heap)(hg:AllBare s'.gens)
 (hch:∀b∈ch,(b∈X.ex∨X.s₀.heap.objs.size≤b)∧b≠X.env.locals∧(∀x c,X.env.cells.lookup x=some c→c≠b)∧∀p∈X.pn++pins,p.1≠b):Inv X pins σ H' s':=by
 obtain⟨h',g',d',t',o'⟩:=s'
 have e:o'=s.os:=ho
 subst e
 exact I.call (g':=g') (t':=t') (d':=d') u hok hg hch
end
abbrev XK:=Value→Option Addr→Hp→Prop
abbrev St:=List (Option V)
abbrev VK:=V→Hp→Prop
abbrev TE:=St→Hp→VK→Prop
abbrev TT:=St→Hp→(Bool→Hp→Prop)→Prop
abbrev TA:=St→Hp→(List V→Hp→Prop)→Prop
structure Ends where
 nx:St→Hp→Prop
 rt:VK
 bk:St→Hp→Prop:=fun _ _=>False
 ct:St→Hp→Prop:=fun _ _=>False
abbrev TS:=Ends→St→Hp→Prop
def EP(X:Cx)(pins:List (Addr×Obj))(σ:St)(Q:VK)(u:Value)(s':Shared):Prop:=∃v H',Inv X pins σ H' s'∧RelV v u∧Q v H'
def TP(X:Cx)(pins:List (Addr×Obj))(σ:St)(Q:Bool→Hp→Prop)(b:Bool)(s':Shared):Prop:=∃H',Inv X pins σ H' s'∧Q b H'
def AP(X:Cx)(pins:List (Addr×Obj))(σ:St)(Q:List V→Hp→Prop)(us:List Value)(s':Shared):Prop:=∃vs H',Inv X pins σ H' s'∧Vals vs us∧Q vs H'
def SP(X:Cx)(pins:List (Addr×Obj))(D:Ends)(f:Flow)(s':Shared):Prop :=
 match f with
 | .next=>∃σ' H',Inv X pins σ' H' s'∧D.nx σ' H'
 | .brk=>∃σ' H',Inv X pins σ' H' s'∧D.bk σ' H'
 | .cont=>∃σ' H',Inv X pins σ' H' s'∧D.ct σ' H'
 | .ret u=>∃v σ' H',Inv X pins σ' H' s'∧RelV v u∧D.rt v H'
def PE(X:Cx)(e:Expr)(t:TE):Prop :=
 ∀(pins:List (Addr×Obj)) (s:Shared) (σ:St) (H:Hp) (Q:VK),Inv X pins σ H s→t σ H Q→wpAny (model X.prog X.w) X.A (eval e X.env) (EP X pins σ Q) X.xe s
def PT(X:Cx)(e:Expr)(t:TT):Prop :=
 ∀(pins:List (Addr×Obj)) (s:Shared) (σ:St) (H:Hp) (Q:Bool→Hp→Prop),Inv X pins σ H s→t σ H Q→wpAny (model X.prog X.w) X.A (isTrue e X.env (eval e X.env)) (TP X pins σ Q) X.xe s
def PW(X:Cx)(e:Expr)(t:TT):Prop :=
 ∀(whole:Sem Value)(pins:List (Addr×Obj)) (s:Shared) (σ:St) (H:Hp) (Q:Bool→Hp→Prop),Inv X pins σ H s→t σ H Q→wpAny (model X.prog X.w) X.A (isTrue e X.env whole) (TP X pins σ Q) X.xe s
theorem PW.pt{X:Cx}{e:Expr}{t:TT}(h:PW X e t):PT X e t:=h _
def PA(X:Cx)(es:List Expr)(t:TA):Prop :=
 ∀(pos:Pos)(pins:List (Addr×Obj)) (s:Shared) (σ:St) (H:Hp) (Q:List V→Hp→Prop),Inv X pins σ H s→t σ H Q→wpAny (model X.prog X.w) X.A (spliced (backTo pos (starEach es X.env))) (AP X pins σ Q) X.xe s
def PS(X:Cx)(st:Stmt)(t:TS):Prop :=
 ∀(pins:List (Addr×Obj)) (s:Shared) (σ:St) (H:Hp) (D:Ends),Inv X pins σ H s→t D σ H→wpAny (model X.prog X.w) X.A (exec st X.env) (SP X pins D) X.xe s
def PSs(X:Cx)(st:List Stmt)(t:TS):Prop :=
 ∀(pins:List (Addr×Obj)) (s:Shared) (σ:St) (H:Hp) (D:Ends),Inv X pins σ H s→t D σ H→wpAny (model X.prog X.w) X.A (execs st X.env) (SP X pins D) X.xe s
theorem thn{α:Type}{t:Sem α}{Q Q':α→Shared→Prop}{M:Model}{A:Around}{E:Value→Shared→Prop}{s:Shared}(h:wpAny M A t Q E s)(hQ:∀a s,Q a s→Q' a s):wpAny M A t Q' E s:=wpAny_mono h hQ fun _ _ x=>x
section
variable {X:Cx}
theorem bin{a b:Expr}{ta tb:TE}(ha:PE X a ta)(hb:PE X b tb){pins:List (Addr×Obj)}{s:Shared}{σ:St}{H:Hp}{R:V→V→Hp→Prop}(I:Inv X pins σ H s)(h:ta σ H fun x H1=>tb σ H1 fun y H2=>R x y H2)
 {α:Type} {Q:α→Shared→Prop} {f:Value→Value→Sem α}
 (hf:∀v u s2 x y H2,Inv X pins σ H2 s2→RelV x v→RelV y u→R x y H2→wpAny (model X.prog X.w) X.A (f v u) Q X.xe s2) :
 wpAny (model X.prog X.w) X.A (eval a X.env) (fun v s₁=>wpAny (model X.prog X.w) X.A (eval b X.env) (fun u s₂=>wpAny (model X.prog X.w) X.A (f v u) Q X.xe s₂) X.xe s₁) X.xe s:=by
 refine thn (ha pins s σ H _ I h) fun v s1 ⟨x,H1,I1,r1,q1⟩=>?_
 refine thn (hb pins s1 σ H1 _ I1 q1) fun u s2 ⟨y,H2,I2,r2,q2⟩=>?_
 exact hf v u s2 x y H2 I2 r1 r2 q2
def tVar(i:Nat):TE:=fun σ H Q=>∃v,σ[i]? = some (some v)∧Q v H
def tC(v:V):TE:=fun _ H Q=>Q v H
theorem pe_var{i:Nat}{x:Str}{pos:Pos}(hN:X.N[i]? = some x)(hv:Vis X.env.scope x)(hd:(x==("__debug__":Str))=false:=by decide)(hcd:(x==("__classdict__":Str))=false:=by decide):PE X (.Name x pos) (tVar i):=by
 intro pins s σ H Q I h
 obtain⟨v,e,h⟩:=h
 obtain⟨m,hn,hl⟩:=I.loc
 obtain⟨u,r,l⟩:=hl i x v hN e hv
 have fin:EP X pins σ Q u s:=⟨v,H,I,r,h⟩
 rcases l with⟨hk,hm⟩|⟨hk,c,hc,hcell⟩
 ·exact wpAny_Name (wpAny_loadName_local I.ok.kind hk hn hm fin) hd
 ·rcases hk with hk | hk
  ·exact wpAny_Name (wpAny_loadName_cell I.ok.kind hk hc hcell fin) hd
  ·exact wpAny_Name (wpAny_loadName_free I.ok.kind hk hc hcell fin hcd) hd
theorem zh{i j pos}:PE X (.Constant (.int i) j pos) (tC (.int i)):=fun _ _ _ H _ I h=>wpAny_Constant_int ⟨.int i,H,I.tok _,⟨_,rfl⟩,h⟩
theorem wK{b j pos}:PE X (.Constant (.bool b) j pos) (tC (.bl b)):=fun _ _ _ H _ I h=>Constant_bool ⟨.bl b,H,I,rfl,h⟩
theorem pe_non{j pos}:PE X (.Constant .none j pos) (tC .non):=fun _ _ _ H _ I h=>Constant_none ⟨.non,H,I,rfl,h⟩
theorem zw{x j pos}:PE X (.Constant (.str x) j pos) (tC (.str x)):=fun _ _ _ H _ I h=>Calls.Constant_str ⟨.str x,H,I.tok _,⟨_,rfl⟩,h⟩
def Gl(X:Cx)(x:Str):Prop:=X.env.kindOf x=some .globalImplicit
theorem zbC{E:Value→Shared→Prop}{pins:List (Addr×Obj)}{s:Shared}{σ:St}{H:Hp}{x:Str}{u:Value}{pos:Pos}{Q:Value→Shared→Prop}(I:Inv X pins σ H s)(hg:Gl X x)(hm:X.mg x=some u)(h:Q u s)
 (hd:(x==("__debug__":Str))=false:=by decide):wpAny (model X.prog X.w) X.A (eval (.Name x pos) X.env) Q E s :=
 Calls.Name_function_global I.ok.kind hg (Calls.loadGlobal_global (by rw[I.ok.glob];exact I.mod.glob.keeps I.bk) hm h) hd
theorem zbX{E:Value→Shared→Prop}{pins:List (Addr×Obj)}{s:Shared}{σ:St}{H:Hp}{x:Str}{u:Value}{pos:Pos}{Q:Value→Shared→Prop}(I:Inv X pins σ H s)(hg:Gl X x)(hm:X.mg x=none)(hv:bootBuiltins x=some u)(h:Q u s)
 (hn:x≠"__name__":=by decide) (hd:(x==("__debug__":Str))=false:=by decide):wpAny (model X.prog X.w) X.A (eval (.Name x pos) X.env) Q E s:=by
 obtain⟨mb,h1,h2⟩:=I.mod.blt
 exact Calls.Name_function_global I.ok.kind hg (Calls.loadGlobal_builtin (by rw[I.ok.glob];exact I.mod.glob.keeps I.bk) hm (by rw[I.ok.blt];exact h1.keeps I.bk) ((h2 x hn).trans hv) h) hd
theorem pe_glob{x:Str}{v:V}{u:Value}{pos:Pos}(hg:Gl X x)(hm:X.mg x=some u)(r:RelV v u)(hd:(x==("__debug__":Str))=false:=by decide):PE X (.Name x pos) (tC v) :=
 fun _ _ _ H _ I h=>zbC I hg hm ⟨v,H,I,r,h⟩ hd
theorem zbB{x:Str}{v:V}{u:Value}{pos:Pos}(hg:Gl X x)(hm:X.mg x=none)(hv:bootBuiltins x=some u)(r:RelV v u)(hn:x≠"__name__":=by decide)(hd:(x==("__debug__":Str))=false:=by decide):PE X (.Name x pos) (tC v) :=
 fun _ _ _ H _ I h=>zbX I hg hm hv ⟨v,H,I,r,h⟩ hn hd
variable {a b:Expr}{ta tb:TE}{pos:Pos}
def PC(X:Cx)(op:CmpOp)(a b:Expr)(t:TE):Prop :=
 ∀(pins:List (Addr×Obj)) (s:Shared) (σ:St) (H:Hp) (Q:VK),Inv X pins σ H s→t σ H Q →
  wpAny (model X.prog X.w) X.A (eval a X.env) (fun v s₁=>wpAny (model X.prog X.w) X.A (eval b X.env) (fun u s₂=>wpAny (model X.prog X.w) X.A (compareOp op v u) (EP X pins σ Q) X.xe s₂) X.xe s₁) X.xe s
def tB(t:TE):TT:=fun σ H Q=>t σ H fun x H1=>∃c,x=.bl c∧Q c H1
theorem pt_cmp{op:CmpOp}{t:TE}(h:PC X op a b t)(h1:behindInMarks op b=false:=by first | exact nobehind _ (by decide) (by decide) | rfl):PT X (.Compare a [op] [b] pos) (tB t):=by
 intro pins s σ H Q I hw
 refine wpAny_isTrue_Compare1 (thn (h pins s σ H _ I hw) fun v s1 h1=>thn h1 fun u s2 h2=>thn h2 fun c s3 ⟨x,H1,I1,r1,q1⟩=>?_) h1
 obtain⟨d,rfl,q⟩:=q1
 cases r1
 exact wpAny_truthy_bool ⟨H1,I1,q⟩
theorem ym{e:Expr}{t:TE}(h:PE X e t)(he:∀whole,isTrue e X.env whole=(do let v ←whole;standAt e.pos;holding [v] (truthy v)):=by intro _;rfl):PT X e (tB t):=by
 intro pins s σ H Q I hw
 refine isTrue_plain (thn (h pins s σ H _ I hw) fun v s1 ⟨x,H1,I1,r1,q1⟩=>?_) (he _)
 obtain⟨d,rfl,q⟩:=q1
 cases r1
 exact wpAny_truthy_bool ⟨H1,I1,q⟩
variable {tA tB':TT}{za3:List Expr}
def tAnd(t u:TT):TT:=fun σ H Q=>t σ H fun c H1=>if c=true then u σ H1 Q else Q false H1
def tOr(t u:TT):TT:=fun σ H Q=>t σ H fun c H1=>if c=true then Q true H1 else u σ H1 Q
def tNot(t:TT):TT:=fun σ H Q=>t σ H fun c H1=>Q (!c) H1
theorem zcV(ha:PT X a tA):PW X (.BoolOp .And [a] pos) tA:=by
 intro wh pins s σ H Q I h
 refine isTrue_and (thn (ha pins s σ H Q I h) fun c s1 e=>?_)
 cases c with
 | true=>exact isTrue_and_nil e
 | false=>exact e
theorem zde(ha:PT X a tA):PW X (.BoolOp .Or [a] pos) tA:=by
 intro wh pins s σ H Q I h
 refine isTrue_or (thn (ha pins s σ H Q I h) fun c s1 e=>?_)
 cases c with
 | false=>exact isTrue_or_nil e
 | true=>exact e
theorem zd4(ha:PT X a tA)(hb:PW X (.BoolOp .And (b::za3) pos) tB'):PW X (.BoolOp .And (a::b::za3) pos) (tAnd tA tB'):=by
 intro wh pins s σ H Q I h
 refine isTrue_and (thn (ha pins s σ H _ I h) fun c s1 ⟨H1,I1,q1⟩=>?_)
 cases c with
 | true=>exact hb wh pins s1 σ H1 Q I1 q1
 | false=>exact⟨H1,I1,q1⟩
theorem zfy(ha:PT X a tA)(hb:PW X (.BoolOp .Or (b::za3) pos) tB'):PW X (.BoolOp .Or (a::b::za3) pos) (tOr tA tB'):=by
 intro wh pins s σ H Q I h
 refine isTrue_or (thn (ha pins s σ H _ I h) fun c s1 ⟨H1,I1,q1⟩=>?_)
 cases c with
 | true=>exact⟨H1,I1,q1⟩
 | false=>exact hb wh pins s1 σ H1 Q I1 q1
theorem yU(ha:PT X a tA):PT X (.UnaryOp .Not a pos) (tNot tA):=by
 intro pins s σ H Q I h
 exact isTrue_not (ha pins s σ H (fun c H1=>Q (!c) H1) I h)
def tAndV(ta tb:TE):TE:=fun σ H Q=>ta σ H fun x H1=>∃c,x=.bl c∧if c=true then tb σ H1 Q else Q (.bl false) H1
def tOrV(ta tb:TE):TE:=fun σ H Q=>ta σ H fun x H1=>∃c,x=.bl c∧if c=true then Q (.bl true) H1 else tb σ H1 Q
def tNotV(ta:TE):TE:=fun σ H Q=>ta σ H fun x H1=>∃c,x=.bl c∧Q (.bl (!c)) H1
theorem zca{op}{t:TE}(h:PE X a t):PE X (.BoolOp op [a] pos) t:=fun pins s σ H Q I hw=>BoolOp_one (h pins s σ H Q I hw)
theorem zas(ha:PE X a ta)(hb:PE X (.BoolOp .And (b::za3) pos) tb):PE X (.BoolOp .And (a::b::za3) pos) (tAndV ta tb):=by
 intro pins s σ H Q I h
 refine BoolOp_and (thn (ha pins s σ H _ I h) fun v s1 ⟨x,H1,I1,r1,q1⟩=>?_)
 obtain⟨c,rfl,q1⟩:=q1
 cases r1
 refine wpAny_truthy_bool ?_
 cases c with
 | true=>exact hb pins s1 σ H1 Q I1 q1
 | false=>exact⟨.bl false,H1,I1,rfl,q1⟩
theorem pe_or(ha:PE X a ta)(hb:PE X (.BoolOp .Or (b::za3) pos) tb):PE X (.BoolOp .Or (a::b::za3) pos) (tOrV ta tb):=by
 intro pins s σ H Q I h
 refine BoolOp_or (thn (ha pins s σ H _ I h) fun v s1 ⟨x,H1,I1,r1,q1⟩=>?_)
 obtain⟨c,rfl,q1⟩:=q1
 cases r1
 refine wpAny_truthy_bool ?_
 cases c with
 | false=>exact hb pins s1 σ H1 Q I1 q1
 | true=>exact⟨.bl true,H1,I1,rfl,q1⟩
theorem pe_not(ha:PE X a ta):PE X (.UnaryOp .Not a pos) (tNotV ta):=by
 intro pins s σ H Q I h
 refine UnaryOp_ (thn (ha pins s σ H _ I h) fun v s1 ⟨x,H1,I1,r1,q1⟩=>?_)
 obtain⟨c,rfl,q1⟩:=q1
 cases r1
 exact not_of (wpAny_truthy_bool ⟨.bl (!c),H1,I1,rfl,q1⟩)
def tIf(t:TT)(ta tb:TE):TE:=fun σ H Q=>t σ H fun c H1=>if c=true then ta σ H1 Q else tb σ H1 Q
theorem pe_ifExp{c:Expr}(hc:PT X c tA)(ha:PE X a ta)(hb:PE X b tb):PE X (.IfExp c a b pos) (tIf tA ta tb):=by
 intro pins s σ H Q I h
 refine wpAny_IfExp (thn (hc pins s σ H _ I h) fun d s1 ⟨H1,I1,q1⟩=>?_)
 cases d with
 | true=>exact ha pins s1 σ H1 Q I1 q1
 | false=>exact hb pins s1 σ H1 Q I1 q1
end
def SqL(K:Frag)(H:Hp)(a:Addr)(xs:List V):Prop :=
 Rd H a (.lst xs) ∨
  ∃(o:Obj)(its:Array Value)(n:Nat),K.lookup a=some o∧o.cls=.type "list"∧o.dict=none∧o.data=.seq its n∧its.size≤sizeLine∧Vals xs its.toList
def SqT(K:Frag)(H:Hp)(a:Addr)(xs:List V):Prop :=
 Rd H a (.tup xs) ∨
  ∃(o:Obj)(its:Array Value)(n:Nat),K.lookup a=some o∧o.cls=.type "tuple"∧o.data=.seq its n∧its.size≤sizeLine∧Vals xs its.toList
def absV:Value→Option V
 | .none=>some .non
 | .bool b=>some (.bl b)
 | .int i _=>some (.int i)
 | .str x _=>some (.str x)
 | .bytes b _=>some (.byt b)
 | .float b _=>some (.flt b)
 | .ref a=>some (.ref a)
 | .type n=>some (.ty n)
 | _=>none
theorem RelV.abs{x:V}{u:Value}(r:RelV x u):absV u=some x:=by
 cases x with
 | non=>cases r;rfl
 | bl _=>cases r;rfl
 | int _=>obtain⟨t,rfl⟩:=r;rfl
 | str _=>obtain⟨t,rfl⟩:=r;rfl
 | byt _=>obtain⟨t,rfl⟩:=r;rfl
 | flt _=>obtain⟨t,rfl⟩:=r;rfl
 | ref _=>cases r;rfl
 | ty _=>cases r;rfl
theorem RelV.inj{x y:V}{u:Value}(r:RelV x u)(q:RelV y u):x=y:=Option.some.inj (r.abs.symm.trans q.abs)
theorem Vals.inj:∀{xs ys:List V}{us:List Value},Vals xs us→Vals ys us→xs=ys
 | _,_,_,.nil,.nil=>rfl
 | _,_,_,.cons r t,.cons r' t'=>by rw[r.inj r',Vals.inj t t']
section
variable {X:Cx}{pins:List (Addr×Obj)}{σ:St}{H:Hp}{s:Shared}{a:Addr}{xs ys:List V}
theorem SqL.of{K:Frag}(h:H a=some (.lst xs)):SqL K H a xs:=.inl (.inl h)
theorem SqT.of{K:Frag}(h:H a=some (.tup xs)):SqT K H a xs:=.inl (.inl h)
theorem Inv.list(I:Inv X pins σ H s)(h:SqL X.K H a xs):∃its:List Value,Vals xs its∧PlainL s.heap a its.toArray∧xs.length≤sizeLine:=by
 rcases h with h | ⟨o,its,n,hk,hc,hd,hs,hz,r⟩
 ·obtain⟨z,its,n,r,e⟩:=h.ok I.hok
  exact⟨its,r,⟨_,n,e,rfl,rfl,rfl⟩,z⟩
 ·refine⟨its.toList,r,⟨o,n,I.kIn a o hk,hc,hd,by simpa using hs⟩,?_⟩
  have e:=r.length
  simp only[Array.length_toList] at e
  omega
theorem Inv.tuple(I:Inv X pins σ H s)(h:SqT X.K H a xs):∃its:List Value,Vals xs its∧IsTup s.heap a its.toArray∧xs.length≤sizeLine:=by
 rcases h with h | ⟨o,its,n,hk,hc,hs,hz,r⟩
 ·obtain⟨z,its,r,p⟩:=h.ok I.hok
  exact⟨its,r,p,z⟩
 ·refine⟨its.toList,r,⟨o,I.kIn a o hk,hc,n,by simpa using hs⟩,?_⟩
  have e:=r.length
  simp only[Array.length_toList] at e
  omega
theorem Inv.list_inj(I:Inv X pins σ H s)(h:SqL X.K H a xs)(h':SqL X.K H a ys):xs=ys:=by
 obtain⟨its,r,⟨o,n,e,_,_,d⟩,_⟩:=I.list h
 obtain⟨its',r',⟨o',n',e',_,_,d'⟩,_⟩:=I.list h'
 rw[e] at e';cases e'
 rw[d] at d'
 injection d' with d1 _
 have:its=its':=by simpa using congrArg Array.toList d1
 subst this
 exact r.inj r'
end
abbrev Cx.wish(X:Cx)(E:Value→Shared→Prop):Cx:={ X with xe:=E }
abbrev Cx.nox(X:Cx):Cx:=X.wish fun _ _=>False
theorem Cx.Ok.wish{X:Cx}(ok:X.Ok)(E:Value→Shared→Prop):(X.wish E).Ok :=
 ⟨ok.mod,ok.kind,ok.glob,ok.blt,ok.above,ok.inj,ok.has,ok.cab,ok.hd,ok.frames,ok.stk,ok.exf,ok.bs,ok.bsz,ok.noex,ok.exfs,ok.funs,ok.frf⟩
theorem Cx.Ok.unwish{X:Cx}{E:Value→Shared→Prop}(ok:(X.wish E).Ok):X.Ok :=
 ⟨ok.mod,ok.kind,ok.glob,ok.blt,ok.above,ok.inj,ok.has,ok.cab,ok.hd,ok.frames,ok.stk,ok.exf,ok.bs,ok.bsz,ok.noex,ok.exfs,ok.funs,ok.frf⟩
section
variable {X:Cx}{pins:List (Addr×Obj)}{σ:St}{H:Hp}{s:Shared}{E:Value→Shared→Prop}
theorem Inv.wish(I:Inv X pins σ H s)(E:Value→Shared→Prop):Inv (X.wish E) pins σ H s:=⟨I.ok.wish E,I.os,I.bare,I.base,I.loc,I.cell,I.free,I.freeC,I.pin,I.hok,I.len⟩
theorem Inv.unwish(I:Inv (X.wish E) pins σ H s):Inv X pins σ H s:=⟨I.ok.unwish,I.os,I.bare,I.base,I.loc,I.cell,I.free,I.freeC,I.pin,I.hok,I.len⟩
theorem SP.unwish{D:Ends}{f:Flow}{s':Shared}(h:SP (X.wish E) pins D f s'):SP X pins D f s':=by
 cases f with
 | next=>obtain⟨σ',H',I,q⟩:=h;exact⟨σ',H',I.unwish,q⟩
 | brk=>obtain⟨σ',H',I,q⟩:=h;exact⟨σ',H',I.unwish,q⟩
 | cont=>obtain⟨σ',H',I,q⟩:=h;exact⟨σ',H',I.unwish,q⟩
 | ret u=>obtain⟨v,σ',H',I,r,q⟩:=h;exact⟨v,σ',H',I.unwish,r,q⟩
theorem PSs.nox{st:List Stmt}{t:TS}(h:PSs X.nox st t):PSs X st t:=fun pins s σ H D I hw =>
 wpAny_mono (h pins s σ H D (I.wish _) hw) (fun _ _ q=>q.unwish) fun _ _ z=>False.elim z
end
section
variable {X:Cx}{st:Stmt}{za3:List Stmt}{t u:TS}{e:Expr}{te:TE}{pos:Pos}
def tNext:TS:=fun D σ H=>D.nx σ H
def tSeq(t u:TS):TS:=fun D σ H=>t { D with nx:=u D } σ H
theorem zr:PSs X [] tNext:=fun _ _ σ H _ I h=>wpAny_execs_nil ⟨σ,H,I,h⟩
theorem ze(h1:PS X st t)(h2:PSs X za3 u):PSs X (st::za3) (tSeq t u):=by
 intro pins s σ H D I h
 refine wpAny_execs_cons (thn (h1 pins s σ H { D with nx:=u D } I h) fun f s1 q=>?_)
 cases f with
 | next =>
   obtain⟨σ',H',I',q⟩:=q
   exact h2 pins s1 σ' H' D I' q
 | ret v=>exact q
 | brk=>exact q
 | cont=>exact q
theorem zd(h1:PS X st t):PSs X [st] t:=by
 intro pins s σ H D I h
 refine wpAny_execs_cons (thn (h1 pins s σ H D I h) fun f s1 q=>?_)
 cases f with
 | next=>exact wpAny_execs_nil q
 | ret v=>exact q
 | brk=>exact q
 | cont=>exact q
theorem Inv.quiet{pins:List (Addr×Obj)}{σ:St}{H:Hp}{s:Shared}(I:Inv X pins σ H s):interactive X.env=false:=by simp[interactive,I.ok.kind]
def tDrop(te:TE):TS:=fun D σ H=>te σ H fun _ H1=>D.nx σ H1
theorem zY(he:PE X e te)(hs:swapsWith e none pos.line X.env=pure false:=by rfl):PS X (.Expr e pos) (tDrop te):=by
 intro pins s σ H D I h
 exact wpAny_Expr_any (thn (he pins s σ H _ I h) fun v s1 ⟨x,H1,I1,r1,q1⟩=>⟨σ,H1,I1,q1⟩) I.quiet hs
def tRet(te:TE):TS:=fun D σ H=>te σ H D.rt
theorem zi(he:PE X e te):PS X (.Return (some e) pos) (tRet te):=by
 intro pins s σ H D I h
 exact wpAny_Return_some (thn (he pins s σ H _ I h) fun v s1 ⟨x,H1,I1,r1,q1⟩=>⟨x,σ,H1,I1,r1,q1⟩)
def tIfS(c:TT)(t u:TS):TS:=fun D σ H=>c σ H fun b H1=>if b=true then t D σ H1 else u D σ H1
theorem zB{c:Expr}{a b:List Stmt}{tc:TT}(hc:PT X c tc)(ha:PSs X a t)(hb:PSs X b u):PS X (.If c a b pos) (tIfS tc t u):=by
 intro pins s σ H D I h
 refine wpAny_If (thn (hc pins s σ H _ I h) fun d s1 ⟨H1,I1,q1⟩=>?_)
 cases d with
 | true=>exact ha pins s1 σ H1 D I1 q1
 | false=>exact hb pins s1 σ H1 D I1 q1
def tNever:TS:=fun _ _ _=>False
theorem yx:PS X st tNever:=fun _ _ _ _ _ _ h=>h.elim
end
abbrev TG:=V→St→Hp→(St→Hp→Prop)→Prop
abbrev TGs:=List V→St→Hp→(St→Hp→Prop)→Prop
def PG(X:Cx)(target:Expr)(t:TG):Prop :=
 ∀(pins:List (Addr×Obj)) (s:Shared) (σ:St) (H:Hp) (v:V) (u:Value) (Q:St→Hp→Prop),Inv X pins σ H s→RelV v u→t v σ H Q →
  wpAny (model X.prog X.w) X.A (assign target X.env u) (fun _ s'=>∃σ' H',Inv X pins σ' H' s'∧Q σ' H') X.xe s
def PGs(X:Cx)(ts:List Expr)(t:TGs):Prop :=
 ∀(pins:List (Addr×Obj)) (s:Shared) (σ:St) (H:Hp) (vs:List V) (us:List Value) (Q:St→Hp→Prop),Inv X pins σ H s→Vals vs us→t vs σ H Q →
  wpAny (model X.prog X.w) X.A (assignInOrder ((assignEach ts X.env).map (·.2)) us) (fun _ s'=>∃σ' H',Inv X pins σ' H' s'∧Q σ' H') X.xe s
abbrev TSet:=V→V→V→Hp→(Hp→Prop)→Prop
def PSet(X:Cx)(t:TSet):Prop :=
 ∀(pins:List (Addr×Obj)) (s:Shared) (σ:St) (H:Hp) (o i v:V) (ov iv u:Value) (Q:Hp→Prop),Inv X pins σ H s→RelV o ov→RelV i iv→RelV v u→t o i v H Q →
  wpAny (model X.prog X.w) X.A (setItem ov iv u) (fun _ s'=>∃H',Inv X pins σ H' s'∧Q H') X.xe s
section
variable {X:Cx}{pos:Pos}
def zem(i:Nat):TG:=fun v σ H Q=>Q (σ.set i (some v)) H
theorem yk{i:Nat}{x:Str}(hN:X.N.Nodup)(hi:X.N[i]? = some x)(hx:Loc X.env.scope x)(hf:X.fn x=true∨X.env.scope.names.lookup x=some .local:=by first | exact .inl rfl | exact .inr rfl | assumption):PG X (.Name x pos) (zem i):=by
 intro pins s σ H v u Q I r h
 exact wpAny_assign_Name (zeW I hN hi hx r (fun s' I'=>⟨_,H,I',h⟩) hf)
def gNil:TGs:=fun vs σ H Q=>vs=[]∧Q σ H
def gCons(t:TG)(u:TGs):TGs:=fun vs σ H Q=>∃v r,vs=v::r∧t v σ H fun σ' H'=>u r σ' H' Q
theorem pgs_nil:PGs X [] gNil:=by
 intro pins s σ H vs us Q I r h
 obtain⟨e,h⟩:=h
 subst e
 cases r
 exact assignInOrder_nil ⟨σ,H,I,h⟩
theorem zhQ{e:Expr}{es:List Expr}{t:TG}{u:TGs}(h1:PG X e t)(h2:PGs X es u)
 (hs:(assignEach (e::es) X.env).map (·.2)=assign e X.env::(assignEach es X.env).map (·.2):=by rfl):PGs X (e::es) (gCons t u):=by
 intro pins s σ H vs us Q I r h
 obtain⟨v,vr,e1,h⟩:=h
 subst e1
 cases r with
 | cons r rr =>
   rw[hs]
   refine assignInOrder_cons (thn (h1 pins s σ H _ _ _ I r h) fun _ s1 ⟨σ1,H1,I1,q1⟩=>?_)
   exact h2 pins s1 σ1 H1 _ _ Q I1 rr q1
def gTup(K:Frag)(n:Nat)(t:TGs):TG:=fun v σ H Q=>∃a xs,v=.ref a∧SqT K H a xs∧xs.length=n∧t xs σ H Q
theorem pg_tup{es:List Expr}{k:Nat}{t:TGs}{n:Nat}(hc:X.calm=true)(h:PGs X es t)
 (hn:(assignEach es X.env).length=n:=by rfl) (hst:(assignEach es X.env).findIdx? (·.1)=none:=by rfl):PG X (.Tuple es k pos) (gTup X.K n t):=by
 intro pins s σ H v u Q I r hw
 obtain⟨a,xs,e1,hq,hl,hw⟩:=hw
 subst e1
 cases r
 obtain⟨its,rv,ht,hz⟩:=I.tuple hq
 refine assign_Tuple_tuple (I.ok.hd hc) ht (by simp[hn,←hl,rv.length]) hst fun h' hx=>?_
 have I1:Inv X pins σ H { s with heap:=h' }:=I.kept (t':=s.toks) fun b o e=>hx b o (ne_of_lt (lt_size e)) e
 exact h pins _ σ H xs _ Q I1 (by simpa using rv) hw
def gSub(to ti:TE)(t:TSet):TG:=fun v σ H Q=>to σ H fun o H1=>ti σ H1 fun i H2=>t o i v H2 fun H3=>Q σ H3
theorem zeY{o i:Expr}{to ti:TE}{t:TSet}(ho:PE X o to)(hi:PE X i ti)(hs:PSet X t)
 (ha:∀v,assign (.Subscript o i pos) X.env v=(do
   let ov ←holding [v] (eval o X.env)
   let iv ←holding [v,ov] (eval i X.env)
   standAt pos
   holding [v,ov,iv] (setItem ov iv v)
   release [v,ov,iv] []):=by intro _;rfl):PG X (.Subscript o i pos) (gSub to ti t):=by
 intro pins s σ H v u Q I r h
 rw[ha]
 refine wpAny_bind (wpAny_holding (thn (ho pins s σ H _ I h) fun ov s1 ⟨x,H1,I1,r1,q1⟩=>?_))
 refine wpAny_bind (wpAny_holding (thn (hi pins s1 σ H1 _ I1 q1) fun iv s2 ⟨y,H2,I2,r2,q2⟩=>?_))
 refine wpAny_bind (wpAny_standAt (wpAny_bind (wpAny_holding (thn (hs pins s2 σ H2 x y v ov iv u _ I2 r1 r2 r q2) fun _ s3 ⟨H3,I3,q3⟩=>?_))))
 exact wpAny_release ⟨σ,H3,I3,q3⟩
def tAsg(te:TE)(g:TG):TS:=fun D σ H=>te σ H fun x H1=>g x σ H1 D.nx
theorem zeZ{tg e:Expr}{te:TE}{g:TG}(he:PE X e te)(hg:PG X tg g)(hs:swapsWithSole [tg] e pos.line X.env=pure false:=by rfl)(hw:swappedStores [tg] e X.env=pure none:=by rfl)
 (h1:(assignEach [tg] X.env).map (·.2)=[assign tg X.env]:=by rfl):PS X (.Assign [tg] e pos) (tAsg te g):=by
 intro pins s σ H D I h
 refine wpAny_Assign_stores (thn (he pins s σ H _ I h) fun v s1 ⟨x,H1,I1,r1,q1⟩=>?_) hs hw
 rw[h1]
 exact thn (hg pins s1 σ H1 x v _ I1 r1 q1) fun _ s2 q=>q
theorem zy{i:Nat}{x:Str}{e:Expr}{te:TE}{pos':Pos}(hN:X.N.Nodup)(hi:X.N[i]? = some x)(hx:Loc X.env.scope x)(he:PE X e te)(hs:swapsWith e (some (.Name x pos')) pos.line X.env=pure false:=by rfl)(hf:X.fn x=true∨X.env.scope.names.lookup x=some .local:=by first | exact .inl rfl | exact .inr rfl | assumption):
 PS X (.Assign [.Name x pos'] e pos) (tAsg te (zem i)):=by
 intro pins s σ H D I h
 refine wpAny_Assign_Name (thn (he pins s σ H _ I h) fun v s1 ⟨y,H1,I1,r1,q1⟩=>?_) hs
 exact zeW I1 hN hi hx r1 (fun s2 I2=>⟨_,H1,I2,q1⟩) hf
def tWhile(c:TT)(tb:TS):TS:=fun D σ H=>∃W:Nat→St→Hp→Prop,(∃m,W m σ H)∧∀m σ H,W m σ H →
 c σ H fun b H1=>if b=true then ∃N:St→Hp→Prop,(∀σ' H',N σ' H'→∃m',m'<m∧W m' σ' H')∧tb { D with nx:=N,ct:=N,bk:=D.nx } σ H1 else D.nx σ H1
theorem ps_while{c:Expr}{body:List Stmt}{tc:TT}{tb:TS}(hp:PassesOwn (model X.prog X.w) X.A X.env X.xe)(hc:PT X c tc)(hb:PSs X body tb):PS X (.While c body [] pos) (tWhile tc tb):=by
 intro pins s σ H D I h
 obtain⟨W,⟨m0,w0⟩,turn⟩:=h
 refine wpAny_While (codeAny_whileLoop (fun n s'=>∃σ' H',Inv X pins σ' H' s'∧W n σ' H') ?_ m0 ⟨σ,H,I,w0⟩)
 rintro n s1 ⟨σ1,H1,I1,w1⟩
 refine wpAny_passesOwn hp (thn (hc pins s1 σ1 H1 _ I1 (turn n σ1 H1 w1)) fun b s2 ⟨H2,I2,q2⟩=>?_)
 cases b with
 | true =>
   obtain⟨N,hN,q2⟩:=q2
   rw[if_pos rfl]
   refine wpAny_passesOwn hp (thn (hb pins s2 σ1 H2 _ I2 q2) fun f s3 q3=>?_)
   cases f with
   | next =>
     obtain⟨σ3,H3,I3,n3⟩:=q3
     obtain⟨m',hm,w3⟩:=hN σ3 H3 n3
     exact⟨m',hm,σ3,H3,I3,w3⟩
   | cont =>
     obtain⟨σ3,H3,I3,n3⟩:=q3
     obtain⟨m',hm,w3⟩:=hN σ3 H3 n3
     exact⟨m',hm,σ3,H3,I3,w3⟩
   | brk=>exact q3
   | ret v=>exact q3
 | false =>
   rw[if_neg Bool.false_ne_true]
   exact wpAny_execs_nil ⟨σ1,H2,I2,q2⟩
end
structure It where
 go:Nat→Hp→Prop
 yld:Nat→Hp→V→Hp→Prop
 stop:Nat→Hp→Prop
def zaK(X:Cx)(pins:List (Addr×Obj))(H:Hp)(b:Addr):Prop :=
 H b=none∧b≠X.env.locals∧b∉X.fs∧(b∈X.ex∨X.s₀.heap.objs.size≤b)∧(∀x c,X.env.cells.lookup x=some c→c≠b)∧∀p∈X.pn++pins,p.1≠b
theorem Inv.fpOk{X:Cx}{pins:List (Addr×Obj)}{σ:St}{H H':Hp}{s:Shared}{b:Addr}(I:Inv X pins σ H s)(hb:s.heap.objs.size≤b)(hn:H' b=none):zaK X pins H' b:=by
 refine⟨hn,ne_of_gt (lt_of_lt_of_le I.lt hb),I.nofs hb,.inr (le_trans I.sz hb),fun x c e z=>?_,fun p hp z=>?_⟩
 ·obtain⟨v,q⟩:=I.cell x c e
  exact absurd (lt_of_lt_of_le q.lt (by rw[z];exact hb)) (lt_irrefl _)
 ·exact absurd (lt_of_lt_of_le (lt_size (I.pin p hp).1) (by rw[z];exact hb)) (lt_irrefl _)
structure Turn (P:Program) (w:World) (K:Frag) (tg:Expr) (J:It) (fp:List Addr) (it:Addr) (tn:Nat→Heap→Prop):Prop where
 mem:it∈fp
 obj:∀i h,tn i h→∀b∈fp,∃o,h.get? b=some o∧∀v,o.data ≠ .cell v
 keep:∀i h h',tn i h→(∀b∈fp,∀o,h.get? b=some o→h'.get? b=some o)→tn i h'
 item:∀(X:Cx),X.prog=P→X.w=w→X.K=K→X.calm=true→∀(i:Nat)(pins:List (Addr×Obj)) (s:Shared) (σ:St) (H:Hp) (E:Value→Shared→Prop),Inv X pins σ H s→(∀b∈fp,zaK X pins H b)→tn i s.heap→J.go i H →
  wpAny (model P w) X.A (pyNext (.ref it)) (fun r s1=>∃u,r=some u ∧
   wpAny (model P w) X.A (letOwnedTupleGo tg (.ref it) u) (fun _ s2=>∃x H',Inv X pins σ H' s2∧RelV x u∧J.yld i H x H'∧tn (i+1) s2.heap∧∀b∈fp,H' b=none) E s1) E s
 done:∀(X:Cx),X.prog=P→X.w=w→X.K=K→X.calm=true→∀(i:Nat)(pins:List (Addr×Obj)) (s:Shared) (σ:St) (H:Hp) (E:Value→Shared→Prop),Inv X pins σ H s→(∀b∈fp,zaK X pins H b)→tn i s.heap→J.stop i H →
  wpAny (model P w) X.A (pyNext (.ref it)) (fun r s1=>r=none∧Inv X pins σ H s1) E s
 self:∀(A:Around)(i:Nat)(s:Shared)(Q:Value→Shared→Prop)(E:Value→Shared→Prop),tn i s.heap→Q (.ref it) s→wpAny (model P w) A (pyIter (.ref it)) Q E s
abbrev TI:=St→Hp→(It→Hp→Prop)→Prop
def PIE(X:Cx)(pins:List (Addr×Obj))(σ:St)(tg:Expr)(R:It→Hp→Prop)(itv:Value)(s2:Shared):Prop :=
 ∃(it:Addr)(fp:List Addr)(tn:Nat→Heap→Prop)(J:It)(H':Hp),itv=.ref it∧Inv X pins σ H' s2∧Turn X.prog X.w X.K tg J fp it tn∧tn 0 s2.heap∧(∀b∈fp,zaK X pins H' b)∧R J H'
def PI(X:Cx)(tg iter:Expr)(wi:TI):Prop :=
 ∀(pins:List (Addr×Obj)) (s:Shared) (σ:St) (H:Hp) (R:It→Hp→Prop),Inv X pins σ H s→wi σ H R →
  wpAny (model X.prog X.w) X.A (eval iter X.env) (fun v s1=>wpAny (model X.prog X.w) X.A (pyIter v) (PIE X pins σ tg R) X.xe s1) X.xe s
theorem go_of{M:Model}{A:Around}{E:Value→Shared→Prop}{s:Shared}{tg:Expr}{it:Addr}{u:Value}{o:Obj}{n:String}{vs:Array Value}{Q:Unit→Shared→Prop}(ho:s.heap.get? it=some o)(hc:o.cls=.type n)(hd:o.data=.fields vs)
 (hn : ["enumerate","zip","dict_itemiterator","dict_reverseitemiterator","odict_iterator","itertools.zip_longest","itertools.pairwise"].contains n=false) (hQ:Q () s):wpAny M A (letOwnedTupleGo tg (.ref it) u) Q E s:=by
 unfold letOwnedTupleGo
 cases tg <;> first
  | exact wpAny_pure hQ
  | (cases u <;> first
      | exact wpAny_pure hQ
      | (refine wpAny_bind (wpAny_load ho ?_)
         rw[hc,hd]
         show wpAny M A (if(["enumerate","zip","dict_itemiterator","dict_reverseitemiterator","odict_iterator","itertools.zip_longest","itertools.pairwise"].contains n && vs[0]? == some (rawInt _))=true then _ else _) Q E s
         rw[if_neg (by intro h;rw[hn,Bool.false_and] at h;cases h)]
         exact wpAny_pure hQ))
def Itl(K:Frag)(a:Addr):It :=
 ⟨fun i H=>∃xs x,SqL K H a xs∧xs[i]? = some x,fun i H x H'=>H'=H∧∀xs,SqL K H a xs→xs[i]? = some x,fun i H=>∃xs,SqL K H a xs∧xs.length≤i⟩
def Itr(lo:Int)(n:Nat):It:=⟨fun i _=>i<n,fun i H x H'=>H'=H∧x=.int (lo+i),fun i _=>n≤i⟩
theorem turn_list{P:Program}{w:World}{K:Frag}{tg:Expr}(a it:Addr):Turn P w K tg (Itl K a) [it] it (fun i h=>h.IsListIter it a i) where
 mem:=by simp
 obj:=fun i h st b hb=>by
  have e:b=it:=by simpa using hb
  subst e
  obtain⟨o,e,c,d⟩:=st
  exact⟨o,e,fun v z=>by rw[d] at z;cases z⟩
 keep:=fun i h h' st k=>st.at fun o e=>k it (by simp) o e
 item:=by
  intro X hP hw hK hc i pins s σ H E I hf st hg
  subst hP hw hK
  obtain⟨xs,x,hq,hx⟩:=hg
  obtain⟨its,rv,p,hz⟩:=I.list hq
  obtain⟨u,hu,ru⟩:=rv.get hx
  obtain⟨f0,f1,f2,f3,f4,f5⟩:=hf it (by simp)
  refine wpAny_pyNext_list_item st p.isList (x:=u) (by simpa using hu) fun h' st' sb=>?_
  have I1:Inv X pins σ H { s with heap:=h' }:=I.turned (t':=s.toks) (fun b o hb e=>(sb.2 b hb).trans e) f0 f1 f3 f4 f5
  obtain⟨o,e,c,d⟩:=id st'
  exact⟨u,rfl,go_of (s:={ s with heap:=h' }) e c d (by decide) ⟨x,H,I1,ru,⟨rfl,fun ys hy=>by rw[I.list_inj hy hq];exact hx⟩,st',fun b hb=>(hf b hb).1⟩⟩
 done:=by
  intro X hP hw hK hc i pins s σ H E I hf st hg
  subst hP hw hK
  obtain⟨xs,hq,hx⟩:=hg
  obtain⟨its,rv,p,hz⟩:=I.list hq
  obtain⟨f0,f1,f2,f3,f4,f5⟩:=hf it (by simp)
  have hl:=rv.length
  exact wpAny_pyNext_list_end (I.ok.hd hc) st p.isList (by simp;omega) fun h' eb=>⟨rfl,I.turned (t':=s.toks) (fun b o hb e=>eb b o hb e) f0 f1 f3 f4 f5⟩
 self:=fun _ _ _ _ _ st h=>wpAny_pyIter_listiter st h
theorem zi2{P:Program}{w:World}{K:Frag}{tg:Expr}(it:Addr)(lo:Int)(n:Nat):Turn P w K tg (Itr lo n) [it] it (fun i h=>IsRangeIter h it (lo+(i:Nat)*1) ((n:Int)-(i:Nat)) 1) where
 mem:=by simp
 obj:=fun i h st b hb=>by
  have e:b=it:=by simpa using hb
  subst e
  exact⟨_,st,fun v z=>by
   have z':Data.fields _=Data.cell v:=z
   cases z'⟩
 keep:=fun i h h' st k=>k it (by simp) _ st
 item:=by
  intro X hP hw hK hc i pins s σ H E I hf st hg
  subst hP hw hK
  obtain⟨f0,f1,f2,f3,f4,f5⟩:=hf it (by simp)
  have W:=Walks.range (prog:=X.prog) (w:=X.w) (I.ok.hd hc) it lo 1 n
  refine W.item i s _ _ hg st fun v h' tk hv st' kk=>?_
  obtain⟨t,rfl⟩:=hv
  have I1:Inv X pins σ H { s with heap:=h',toks:=tk }:=I.turned (fun b o hb e=>kk b o (by simpa using hb) e) f0 f1 f3 f4 f5
  refine⟨_,rfl,go_of (s:={ s with heap:=h',toks:=tk }) (n:= "range_iterator") st' rfl rfl (by decide) ⟨.int (lo+i),H,I1,⟨t,?_⟩,⟨rfl,rfl⟩,st',fun b hb=>(hf b hb).1⟩⟩
  rw[Int.mul_one]
 done:=by
  intro X hP hw hK hc i pins s σ H E I hf st hg
  subst hP hw hK
  obtain⟨f0,f1,f2,f3,f4,f5⟩:=hf it (by simp)
  exact wpAny_pyNext_range_end (I.ok.hd hc) st (by have:n≤i:=hg;omega) fun h' eb=>⟨rfl,I.turned (t':=s.toks) (fun b o hb e=>eb b o hb e) f0 f1 f3 f4 f5⟩
 self:=fun _ _ _ _ _ st h=>wpAny_pyIter_rangeiter st h
section
variable {X:Cx}{tg:Expr}
def iList(K:Frag)(tl:TE):TI:=fun σ H R=>tl σ H fun x H1=>∃a,x=.ref a∧(∃xs,SqL K H1 a xs)∧R (Itl K a) H1
theorem zJ{l:Expr}{tl:TE}(hl:PE X l tl):PI X tg l (iList X.K tl):=by
 intro pins s σ H R I h
 refine thn (hl pins s σ H _ I h) fun v s1 ⟨x,H1,I1,r1,q1⟩=>?_
 obtain⟨a,e,⟨xs,hq⟩,q⟩:=q1
 subst e
 cases r1
 obtain⟨its,rv,p,hz⟩:=I1.list hq
 refine wpAny_pyIter_list p.isList ?_
 refine⟨s1.heap.objs.size,[s1.heap.objs.size],_,_,H1,rfl,I1.kept (t':=s1.toks) fun b o e=>get?_push_of_some _ e,turn_list a _,⟨_,get?_push_size _ rfl,rfl,rfl⟩,fun b hb=>?_,q⟩
 have e:b=s1.heap.objs.size:=by simpa using hb
 subst e
 exact I1.fpOk (le_refl _) (I1.hok.fresh (le_refl _))
theorem zie{pins:List (Addr×Obj)}{σ:St}{H:Hp}{s:Shared}{R:It→Hp→Prop}{E:Value→Shared→Prop}{lo hi:Int}{t u v:Tok}{tk:Nat}(I:Inv X pins σ H s)(h1 : -(2 ^ 62)≤lo)(h2:lo<2 ^ 62)(h3 : -(2 ^ 62)≤hi)(h4:hi<2 ^ 62)
 (q:R (Itr lo (hi-lo).toNat) H):wpAny (model X.prog X.w) X.A (pyIter (.ref s.heap.objs.size)) (PIE X pins σ tg R) E { s with heap:=s.heap.push { cls:=.type "range",data:=.fields #[.int lo t,.int hi u,.int 1 v] },toks:=tk }:=by
 refine wpAny_pyIter_range (IsRange.new ..) (small_one h1 h2 h3 h4) ?_
 have I1:Inv X pins σ H { s with heap:=s.heap.push { cls:=.type "range",data:=.fields #[.int lo t,.int hi u,.int 1 v] },toks:=tk }:=I.kept fun b o e=>get?_push_of_some _ e
 refine⟨(s.heap.push { cls:=.type "range",data:=.fields #[.int lo t,.int hi u,.int 1 v] }).objs.size,[(s.heap.push { cls:=.type "range",data:=.fields #[.int lo t,.int hi u,.int 1 v] }).objs.size],_,_,H,rfl,
  I1.kept (t':=tk) fun b o e=>get?_push_of_some _ e,zi2 _ lo (hi-lo).toNat,?_,fun b hb=>?_,q⟩
 ·have e1:lo+((0:Nat):Int)*1=lo:=by simp
  have e2:(((hi-lo).toNat:Nat):Int)-((0:Nat):Int)=Builtin.Range.rangeSize lo hi 1:=by rw[rangeSize_one];split <;> omega
  show IsRangeIter _ _ (lo+((0:Nat):Int)*1) ((((hi-lo).toNat:Nat):Int)-((0:Nat):Int)) 1
  rw[e1,e2]
  exact get?_push_size _ rfl
 ·have e:b=(s.heap.push { cls:=.type "range",data:=.fields #[.int lo t,.int hi u,.int 1 v] }).objs.size:=by simpa using hb
  subst e
  exact I1.fpOk (le_refl _) (I1.hok.fresh (le_refl _))
def iRng1(ta:TA):TI:=fun σ H R=>ta σ H fun vs H1=>∃j:Int,vs=[.int j] ∧ -(2 ^ 62)≤j∧j<2 ^ 62∧R (Itr 0 j.toNat) H1
def iRng2(ta:TA):TI:=fun σ H R=>ta σ H fun vs H1=>∃i j:Int,vs=[.int i,.int j]∧(-(2 ^ 62)≤i∧i<2 ^ 62 ∧ -(2 ^ 62)≤j∧j<2 ^ 62)∧R (Itr i (j-i).toNat) H1
theorem wB{a:Expr}{ta:TA}{p pos:Pos}(hg:Gl X "range")(hm:X.mg "range"=none)(ha:PA X [a] ta)(hs:starEach [a] X.env=[(false,eval a X.env)]:=by rfl):PI X tg (.Call (.Name "range" p) [a] [] pos) (iRng1 ta):=by
 intro pins s σ H R I h
 refine Call_ (zbX I hg hm boot_range (callWith_type1 (thn (ha pos pins s σ H _ I h) fun us s1 ⟨vs,H1,I1,r1,q1⟩=>?_) hs rfl))
 obtain⟨j,e,q1,q2,q⟩:=q1
 subst e
 cases r1 with
 | cons r rr =>
   cases rr
   obtain⟨t,rfl⟩:=r
   exact call_range_1 (zie I1 (by omega) (by omega) q1 q2 (by simpa using q))
theorem zdU{a b:Expr}{ta:TA}{p pos:Pos}(hg:Gl X "range")(hm:X.mg "range"=none)(ha:PA X [a,b] ta)(hs:starEach [a,b] X.env=[(false,eval a X.env),(false,eval b X.env)]:=by rfl)(hs2:starEach [b] X.env=[(false,eval b X.env)]:=by rfl):
 PI X tg (.Call (.Name "range" p) [a,b] [] pos) (iRng2 ta):=by
 intro pins s σ H R I h
 refine Call_ (zbX I hg hm boot_range (callWith_type1 (thn (ha pos pins s σ H _ I h) fun us s1 ⟨vs,H1,I1,r1,q1⟩=>?_) (by rw[hs,hs2]) (by rw[hs2];rfl)))
 obtain⟨i,j,e,⟨q1,q2,q3,q4⟩,q⟩:=q1
 subst e
 cases r1 with
 | cons r rr =>
   cases rr with
   | cons r' rr =>
     cases rr
     obtain⟨t,rfl⟩:=r
     obtain⟨t',rfl⟩:=r'
     exact call_range_2 (zie I1 q1 q2 q3 q4 q)
def tFor(wi:TI)(g:TG)(tb:TS):TS:=fun D σ H=>wi σ H fun J H1=>∃W:Nat→Nat→St→Hp→Prop,(∃m,W 0 m σ H1)∧∀i m σ H,W i m σ H →
 (J.stop i H∧D.nx σ H)∨(J.go i H∧∃N:St→Hp→Prop,(∀σ' H',N σ' H'→∃m',m'<m∧W (i+1) m' σ' H')∧∀x H',J.yld i H x H'→g x σ H' fun σ2 H2=>tb { D with nx:=N,ct:=N,bk:=D.nx } σ2 H2)
def zhk(fp:List Addr)(h:Heap):List (Addr×Obj):=fp.filterMap fun b=>(h.get? b).map fun o=>(b,o)
theorem yd{fp:List Addr}{h:Heap}{b:Addr}{o:Obj}(hb:b∈fp)(e:h.get? b=some o):(b,o)∈zhk fp h:=List.mem_filterMap.mpr ⟨b,hb,by rw[e];rfl⟩
theorem of_pinsAt{fp:List Addr}{h:Heap}{p:Addr×Obj}(hp:p∈zhk fp h):p.1∈fp∧h.get? p.1=some p.2:=by
 obtain⟨b,hb,e⟩:=List.mem_filterMap.mp hp
 cases q:h.get? b with
 | none=>rw[q] at e;cases e
 | some o =>
   rw[q] at e
   have e':(b,o)=p:=Option.some.inj e
   subst e'
   exact⟨hb,q⟩
theorem Inv.pinned{pins:List (Addr×Obj)}{σ:St}{H:Hp}{s:Shared}{fp:List Addr}(I:Inv X pins σ H s)(hf:∀b∈fp,zaK X pins H b)(ho:∀b∈fp,∃o,s.heap.get? b=some o∧∀v,o.data ≠ .cell v):Inv X (pins++zhk fp s.heap) σ H s :=
 I.pins_of fun p hp=>(List.mem_append.mp hp).elim (fun z=>I.pin p (mem_append_right _ z)) fun z=>by
  obtain⟨hb,e⟩:=of_pinsAt z
  obtain⟨f0,f1,f2,_⟩:=hf p.1 hb
  obtain⟨o,e',d⟩:=ho p.1 hb
  rw[e] at e';cases e'
  exact⟨e,f0,f1,f2,d⟩
theorem Inv.unpinned{pins pl:List (Addr×Obj)}{σ:St}{H:Hp}{s:Shared}(I:Inv X (pins++pl) σ H s):Inv X pins σ H s:=I.pins_of fun p hp=>I.pin p (mem_append_right _ (mem_append_left _ hp))
theorem zak{iter:Expr}{body:List Stmt}{wi:TI}{g:TG}{tb:TS}{pos:Pos}(hp:PassesOwn (model X.prog X.w) X.A X.env X.xe)(hc:X.calm=true)(hi:PI X tg iter wi)(hg:PG X tg g)(hb:PSs X body tb)
 (hs:∀x,foldedSetIterable iter X.env x=pure x:=by intro _;rfl):PS X (.For tg iter body [] pos) (tFor wi g tb):=by
 intro pins s σ H D I h
 refine wpAny_For (thn (hi pins s σ H _ I h) fun v s1 h1=>thn h1 fun itv s2 h2=>?_) hs
 obtain⟨it,fp,tn,J,H2,e,I2,T,st2,f2,W,⟨m0,w0⟩,turn⟩:=h2
 subst e
 -- what stays true of the iterator's objects through the loop
 have stat:∀{H':Hp},(∀b∈fp,H' b=none)→∀b∈fp,zaK X pins H' b:=fun hn b hb=>⟨hn b hb,(f2 b hb).2⟩
 refine codeAny_forLoop_any (fun n s'=>∃i σ' H',Inv X pins σ' H' s'∧tn i s'.heap∧(∀b∈fp,H' b=none)∧W i n σ' H') ?_ m0 ⟨0,σ,H2,I2,st2,fun b hb=>(f2 b hb).1,w0⟩
 rintro n s3 ⟨i,σ3,H3,I3,st3,fr3,w3⟩
 rcases turn i n σ3 H3 w3 with⟨stop,qn⟩|⟨go,N,hN,step⟩
 ·refine wpAny_passesOwn hp (thn (T.done X rfl rfl rfl hc i pins s3 σ3 H3 X.xe I3 (stat fr3) st3 stop) fun r s4 ⟨hr,I4⟩=>?_)
  subst hr
  exact wpAny_execs_nil ⟨σ3,H3,I4,qn⟩
 ·refine wpAny_passesOwn hp (thn (T.item X rfl rfl rfl hc i pins s3 σ3 H3 X.xe I3 (stat fr3) st3 go) fun r s4 ⟨u,hr,h4⟩=>?_)
  subst hr
  refine wpAny_passesOwn hp (thn h4 fun _ s5 ⟨x,H5,I5,r5,y5,st5,fr5⟩=>?_)
  have I5':=I5.pinned (stat fr5) (T.obj _ _ st5)
  refine wpAny_passesOwn hp (thn (hg _ s5 σ3 H5 x u _ I5' r5 (step x H5 y5)) fun _ s6 ⟨σ6,H6,I6,q6⟩=>?_)
  refine wpAny_passesOwn hp (thn (hb _ s6 σ6 H6 _ I6 q6) fun f s7 q7=>?_)
  have again:∀{σ7:St}{H7:Hp},Inv X (pins++zhk fp s5.heap) σ7 H7 s7→N σ7 H7→∃m,m<n∧∃i σ' H',Inv X pins σ' H' s7∧tn i s7.heap∧(∀b∈fp,H' b=none)∧W i m σ' H':=fun {σ7 H7} I7 n7=>by
   obtain⟨m',hm,w7⟩:=hN σ7 H7 n7
   refine⟨m',hm,i+1,σ7,H7,I7.unpinned,T.keep _ _ _ st5 fun b hb o e=>(I7.pin (b,o) (mem_append_right _ (mem_append_right _ (yd hb e)))).1,fun b hb=>?_,w7⟩
   obtain⟨o,e,d⟩:=T.obj _ _ st5 b hb
   exact(I7.pin (b,o) (mem_append_right _ (mem_append_right _ (yd hb e)))).2.1
  cases f with
  | next=>obtain⟨σ7,H7,I7,n7⟩:=q7;exact again I7 n7
  | cont=>obtain⟨σ7,H7,I7,n7⟩:=q7;exact again I7 n7
  | brk=>obtain⟨σ7,H7,I7,q7⟩:=q7;exact⟨σ7,H7,I7.unpinned,q7⟩
  | ret v=>obtain⟨x7,σ7,H7,I7,r7,q7⟩:=q7;exact⟨x7,σ7,H7,I7.unpinned,r7,q7⟩
end
theorem zdy{K:Frag}{a:Addr}{xs:List V}{g:TG}{tb:TS}{D:Ends}{σ:St}{H:Hp}(Pv:Nat→St→Hp→Prop)(h0:Pv 0 σ H)(hl:∀i σ H,i≤xs.length→Pv i σ H→SqL K H a xs)
 (hs:∀i x σ H,xs[i]? = some x→Pv i σ H→g x σ H fun σ2 H2=>tb { D with nx:=Pv (i+1),ct:=Pv (i+1),bk:=D.nx } σ2 H2) (hd:∀σ H,Pv xs.length σ H→D.nx σ H) :
 ∃W:Nat→Nat→St→Hp→Prop,(∃m,W 0 m σ H)∧∀i m σ H,W i m σ H →
  ((Itl K a).stop i H∧D.nx σ H)∨((Itl K a).go i H∧∃N:St→Hp→Prop,(∀σ' H',N σ' H'→∃m',m'<m∧W (i+1) m' σ' H')∧∀x H',(Itl K a).yld i H x H'→g x σ H' fun σ2 H2=>tb { D with nx:=N,ct:=N,bk:=D.nx } σ2 H2):=by
 refine⟨fun i m σ H=>m=xs.length-i∧i≤xs.length∧Pv i σ H,⟨xs.length,by simp,zero_le _,h0⟩,?_⟩
 rintro i m σ H ⟨rfl,hi,p⟩
 have q:=hl i σ H hi p
 by_cases hlt:i<xs.length
 ·refine .inr ⟨⟨xs,xs[i],q,by simp[hlt]⟩,Pv (i+1),fun σ' H' p'=>⟨xs.length-(i+1),by omega,rfl,hlt,p'⟩,fun x H' y=>?_⟩
  obtain⟨e,y⟩:=y
  subst e
  exact hs i x σ _ (y xs q) p
 ·have e:i=xs.length:=by omega
  subst e
  exact .inl ⟨⟨xs,q,le_refl _⟩,hd σ H p⟩
theorem yX{lo:Int}{n:Nat}{g:TG}{tb:TS}{D:Ends}{σ:St}{H:Hp}(Pv:Nat→St→Hp→Prop)(h0:Pv 0 σ H)
 (hs:∀i σ H,i<n→Pv i σ H→g (.int (lo+i)) σ H fun σ2 H2=>tb { D with nx:=Pv (i+1),ct:=Pv (i+1),bk:=D.nx } σ2 H2) (hd:∀σ H,Pv n σ H→D.nx σ H) :
 ∃W:Nat→Nat→St→Hp→Prop,(∃m,W 0 m σ H)∧∀i m σ H,W i m σ H →
  ((Itr lo n).stop i H∧D.nx σ H)∨((Itr lo n).go i H∧∃N:St→Hp→Prop,(∀σ' H',N σ' H'→∃m',m'<m∧W (i+1) m' σ' H')∧∀x H',(Itr lo n).yld i H x H'→g x σ H' fun σ2 H2=>tb { D with nx:=N,ct:=N,bk:=D.nx } σ2 H2):=by
 refine⟨fun i m σ H=>m=n-i∧i≤n∧Pv i σ H,⟨n,by simp,zero_le _,h0⟩,?_⟩
 rintro i m σ H ⟨rfl,hi,p⟩
 by_cases hlt:i<n
 ·refine .inr ⟨hlt,Pv (i+1),fun σ' H' p'=>⟨n-(i+1),by omega,rfl,hlt,p'⟩,fun x H' y=>?_⟩
  obtain⟨e,y⟩:=y
  subst e y
  exact hs i σ _ hlt p
 ·have e:i=n:=by omega
  subst e
  exact .inl ⟨le_refl _,hd σ H p⟩
abbrev R2:=V→V→Hp→VK→Prop
def OpR(X:Cx)(f:Value→Value→Sem Value)(r:R2):Prop :=
 ∀(pins:List (Addr×Obj)) (s:Shared) (σ:St) (H:Hp) (x y:V) (v u:Value) (Q:VK),Inv X pins σ H s→RelV x v→RelV y u→r x y H Q →
  wpAny (model X.prog X.w) X.A (f v u) (EP X pins σ Q) X.xe s
def UnR(X:Cx)(f:Value→Sem Value)(r:V→Hp→VK→Prop):Prop :=
 ∀(pins:List (Addr×Obj)) (s:Shared) (σ:St) (H:Hp) (x:V) (v:Value) (Q:VK),Inv X pins σ H s→RelV x v→r x H Q →
  wpAny (model X.prog X.w) X.A (f v) (EP X pins σ Q) X.xe s
def wp(X:Cx)(f:Value)(r:List V→Hp→VK→Prop):Prop :=
 ∀(pins:List (Addr×Obj)) (s:Shared) (σ:St) (H:Hp) (xs:List V) (us:List Value) (Q:VK),Inv X pins σ H s→Vals xs us→r xs H Q →
  wpAny (model X.prog X.w) X.A (call f us) (EP X pins σ Q) X.xe s
def tOp(r:R2)(ta tb:TE):TE:=fun σ H Q=>ta σ H fun x H1=>tb σ H1 fun y H2=>r x y H2 Q
def tUn(r:V→Hp→VK→Prop)(ta:TE):TE:=fun σ H Q=>ta σ H fun x H1=>r x H1 Q
def rI(C:Int→Int→Prop)(g:Int→Int→V):R2:=fun x y H Q=>∃i j,x=.int i∧y=.int j∧C i j∧Q (g i j) H
def rI0(g:Int→Int→V):R2:=fun x y H Q=>∃i j,x=.int i∧y=.int j∧Q (g i j) H
def rU(g:Int→V):V→Hp→VK→Prop:=fun x H Q=>∃i,x=.int i∧Q (g i) H
section
variable {X:Cx}{a b c:Expr}{ta tb tc:TE}{pos:Pos}
theorem binT(ha:PE X a ta)(hb:PE X b tb){pins:List (Addr×Obj)}{s:Shared}{σ:St}{H:Hp}{R:V→V→Hp→Prop}(I:Inv X pins σ H s)
 (h:ta σ H fun x H1=>tb σ H1 fun y H2=>R x y H2) {Q:Value→Shared→Prop} {f:Value→Value→Sem Value}
 (hf:∀v u s2 x y H2,Inv X pins σ H2 s2→RelV x v→RelV y u→R x y H2→wpAny (model X.prog X.w) X.A (f v u) Q X.xe s2) :
 wpAny (model X.prog X.w) X.A (eval a X.env) (fun v s₁=>wpAny (model X.prog X.w) X.A (eval b X.env) (fun u s₂=>wpAny (model X.prog X.w) X.A (f v u) Q X.xe s₂) X.xe s₁) X.xe s:=by
 refine thn (ha pins s σ H _ I h) fun v s1 ⟨x,H1,I1,r1,q1⟩=>?_
 refine thn (hb pins s1 σ H1 _ I1 q1) fun u s2 ⟨y,H2,I2,r2,q2⟩=>?_
 exact hf v u s2 x y H2 I2 r1 r2 q2
theorem zv{op:Operator}{r:R2}(ho:OpR X (binaryOp op) r)(ha:PE X a ta)(hb:PE X b tb):PE X (.BinOp a op b pos) (tOp r ta tb):=by
 intro pins s σ H Q I h
 exact wpAny_BinOp (binT ha hb I h fun v u s2 x y H2 I2 rx ry q=>ho pins s2 σ H2 x y v u Q I2 rx ry q)
theorem pe_un{op:UnaryOp}{r:V→Hp→VK→Prop}(ho:UnR X (unaryOp op) r)(ha:PE X a ta):PE X (.UnaryOp op a pos) (tUn r ta):=by
 intro pins s σ H Q I h
 exact UnaryOp_ (thn (ha pins s σ H _ I h) fun v s1 ⟨x,H1,I1,r1,q1⟩=>ho pins s1 σ H1 x v Q I1 r1 q1)
theorem opI{f:Value→Value→Sem Value}{C:Int→Int→Prop}{g:Int→Int→Int}
 (rule:∀(i j:Int)(t u:Tok)(s:Shared)(Q:Value→Shared→Prop)(E:Value→Shared→Prop),C i j→Q (.int (g i j) s.toks) { s with toks:=s.toks+1 }→wpAny (model X.prog X.w) X.A (f (.int i t) (.int j u)) Q E s) :
 OpR X f (rI C fun i j=>.int (g i j)):=by
 intro pins s σ H x y v u Q I rx ry h
 obtain⟨i,j,rfl,rfl,hc,q⟩:=h
 obtain⟨t,rfl⟩:=rx
 obtain⟨t',rfl⟩:=ry
 exact rule i j t t' s _ _ hc ⟨.int (g i j),H,I.tok _,⟨_,rfl⟩,q⟩
theorem opI0{f:Value→Value→Sem Value}{g:Int→Int→Int}
 (rule:∀(i j:Int)(t u:Tok)(s:Shared)(Q:Value→Shared→Prop)(E:Value→Shared→Prop),Q (.int (g i j) s.toks) { s with toks:=s.toks+1 }→wpAny (model X.prog X.w) X.A (f (.int i t) (.int j u)) Q E s) :
 OpR X f (rI0 fun i j=>.int (g i j)):=by
 intro pins s σ H x y v u Q I rx ry h
 obtain⟨i,j,rfl,rfl,q⟩:=h
 obtain⟨t,rfl⟩:=rx
 obtain⟨t',rfl⟩:=ry
 exact rule i j t t' s _ _ ⟨.int (g i j),H,I.tok _,⟨_,rfl⟩,q⟩
theorem opB0{f:Value→Value→Sem Value}{g:Int→Int→Bool}
 (rule:∀(i j:Int)(t u:Tok)(s:Shared)(Q:Value→Shared→Prop)(E:Value→Shared→Prop),Q (.bool (g i j)) s→wpAny (model X.prog X.w) X.A (f (.int i t) (.int j u)) Q E s) :
 OpR X f (rI0 fun i j=>.bl (g i j)):=by
 intro pins s σ H x y v u Q I rx ry h
 obtain⟨i,j,rfl,rfl,q⟩:=h
 obtain⟨t,rfl⟩:=rx
 obtain⟨t',rfl⟩:=ry
 exact rule i j t t' s _ _ ⟨.bl (g i j),H,I,rfl,q⟩
def CDiv(i j:Int):Prop:=0<j∧j<1073741824
def CMul(i j:Int):Prop:=(-(2 ^ 64)<i∧i<2 ^ 64)∨(-(2 ^ 64)<j∧j<2 ^ 64)
theorem CMul.ok{i j:Int}(h:CMul i j):IntMulOk i j:=by
 rcases h with⟨h1,h2⟩|⟨h1,h2⟩
 ·exact .of_left (intBits_le_64 h1 h2)
 ·exact .of_right (intBits_le_64 h1 h2)
theorem yg:OpR X (binaryOp .Add) (rI0 fun i j=>.int (i+j)):=opI0 fun _ _ _ _ _ _ _ q=>add_int q
theorem zi8:OpR X (binaryOp .Sub) (rI0 fun i j=>.int (i-j)):=opI0 fun _ _ _ _ _ _ _ q=>sub_int q
theorem zg2:OpR X (binaryOp .Mult) (rI CMul fun i j=>.int (i*j)):=opI fun _ _ _ _ _ _ _ hc q=>mul_int q hc.ok
theorem ww:OpR X (binaryOp .FloorDiv) (rI CDiv fun i j=>.int (i/j)):=opI fun i j _ _ _ _ _ hc q=>by
 have h1:(0:Int)<j:=hc.1
 have h2:j<1073741824:=hc.2
 exact floordiv_int (by omega) (by rw[Int.fdiv_eq_ediv_of_nonneg i (by omega)];exact q) (.inl (PyProof.noPylong_small (by omega)))
theorem yG:OpR X (binaryOp .Mod) (rI (fun _ j=>0<j) fun i j=>.int (i%j)):=opI fun i j _ _ _ _ _ hc q=>by
 have h1:(0:Int)<j:=hc
 exact mod_int' (by omega) (by rw[Int.fmod_eq_emod_of_nonneg i (by omega)];exact q)
theorem unI{f:Value→Sem Value}{g:Int→Int}
 (rule:∀(i:Int)(t:Tok)(s:Shared)(Q:Value→Shared→Prop)(E:Value→Shared→Prop),Q (.int (g i) s.toks) { s with toks:=s.toks+1 }→wpAny (model X.prog X.w) X.A (f (.int i t)) Q E s) :
 UnR X f (rU fun i=>.int (g i)):=by
 intro pins s σ H x v Q I rx h
 obtain⟨i,rfl,q⟩:=h
 obtain⟨t,rfl⟩:=rx
 exact rule i t s _ _ ⟨.int (g i),H,I.tok _,⟨_,rfl⟩,q⟩
theorem zhl:UnR X (unaryOp .USub) (rU fun i=>.int (-i)):=unI fun _ _ _ _ _ q=>neg_int q
end
def scal:V→V→Bool
 | .non,.non=>true | .non,.int _=>true | .int _,.non=>true | .non,.bl _=>true | .bl _,.non=>true | .non,.str _=>true | .str _,.non=>true
 | .int _,.int _=>true | .bl _,.bl _=>true | .str _,.str _=>true | .byt _,.byt _=>true
 | .int _,.str _=>true | .str _,.int _=>true | .bl _,.str _=>true | .str _,.bl _=>true
 | _,_=>false
def rEq:R2:=fun x y H Q=>scal x y=true∧Q (.bl (decide (x=y))) H
def rNe:R2:=fun x y H Q=>scal x y=true∧Q (.bl (!decide (x=y))) H
theorem dec_int{i j:Int}:decide (V.int i=V.int j)=(i==j):=by
 rw[Bool.eq_iff_iff]
 simp
theorem dec_bl{i j:Bool}:decide (V.bl i=V.bl j)=(i==j):=by
 rw[Bool.eq_iff_iff]
 simp
theorem dec_str{i j:Str}:decide (V.str i=V.str j)=(i==j):=by
 rw[Bool.eq_iff_iff]
 simp
theorem dec_byt{i j:Array UInt8}:decide (V.byt i=V.byt j)=(i.toList==j.toList):=by
 rw[Bool.eq_iff_iff]
 cases i
 cases j
 simp
section
variable {X:Cx}{a b c:Expr}{ta tb tc:TE}{pos:Pos}
theorem zN{pins:List (Addr×Obj)}{σ:St}{H:Hp}{s:Shared}{Q:VK}{k k':Bool}(I:Inv X pins σ H s)(q:Q (.bl k) H)(e:k=k'):EP X pins σ Q (.bool k') s:=by
 subst e
 exact⟨.bl k,H,I,rfl,q⟩
theorem zV:OpR X (compareOp .Eq) rEq:=by
 intro pins s σ H x y v u Q I rx ry h
 obtain⟨hs,q⟩:=h
 cases x with
 | non =>
   cases rx
   cases y with
   | non=>cases ry;exact PySem.EqNone.eq_none_none (zN I q (by simp))
   | bl j=>cases ry;exact PySem.EqNone.eq_none_bool (zN I q (by simp))
   | int j=>obtain⟨t',rfl⟩:=ry;exact PySem.EqNone.eq_none_int (zN I q (by simp))
   | str j=>obtain⟨t',rfl⟩:=ry;exact PySem.EqNone.eq_none_str (zN I q (by simp))
   | _=>exact absurd (show false=true from hs) Bool.false_ne_true
 | bl i =>
   cases rx
   cases y with
   | non=>cases ry;exact PySem.EqNone.eq_bool_none (zN I q (by simp))
   | bl j=>cases ry;exact eq_bool (zN I q dec_bl)
   | str j=>obtain⟨t',rfl⟩:=ry;exact PySem.EqMixed.eq_bool_str (zN I q (by simp))
   | _=>exact absurd (show false=true from hs) Bool.false_ne_true
 | int i =>
   obtain⟨t,rfl⟩:=rx
   cases y with
   | non=>cases ry;exact PySem.EqNone.eq_int_none (zN I q (by simp))
   | int j=>obtain⟨t',rfl⟩:=ry;exact eq_int (zN I q dec_int)
   | str j=>obtain⟨t',rfl⟩:=ry;exact PySem.EqMixed.eq_int_str (zN I q (by simp))
   | _=>exact absurd (show false=true from hs) Bool.false_ne_true
 | str i =>
   obtain⟨t,rfl⟩:=rx
   cases y with
   | non=>cases ry;exact PySem.EqNone.eq_str_none (zN I q (by simp))
   | bl j=>cases ry;exact PySem.EqMixed.eq_str_bool (zN I q (by simp))
   | int j=>obtain⟨t',rfl⟩:=ry;exact PySem.EqMixed.eq_str_int (zN I q (by simp))
   | str j=>obtain⟨t',rfl⟩:=ry;exact eq_str (zN I q dec_str)
   | _=>exact absurd (show false=true from hs) Bool.false_ne_true
 | byt i =>
   obtain⟨t,rfl⟩:=rx
   cases y with
   | byt j=>obtain⟨t',rfl⟩:=ry;exact PySem.W.eq_bytes (zN I q dec_byt)
   | _=>exact absurd (show false=true from hs) Bool.false_ne_true
 | _=>cases y <;> exact absurd (show false=true from hs) Bool.false_ne_true
theorem zaZ:OpR X (compareOp .NotEq) rNe:=by
 intro pins s σ H x y v u Q I rx ry h
 obtain⟨hs,q⟩:=h
 cases x with
 | non =>
   cases rx
   cases y with
   | non=>cases ry;exact PySem.EqNone.ne_none_none (zN I q (by simp))
   | bl j=>cases ry;exact PySem.EqNone.ne_none_bool (zN I q (by simp))
   | int j=>obtain⟨t',rfl⟩:=ry;exact PySem.EqNone.ne_none_int (zN I q (by simp))
   | str j=>obtain⟨t',rfl⟩:=ry;exact PySem.EqNone.ne_none_str (zN I q (by simp))
   | _=>exact absurd (show false=true from hs) Bool.false_ne_true
 | bl i =>
   cases rx
   cases y with
   | non=>cases ry;exact PySem.EqNone.ne_bool_none (zN I q (by simp))
   | bl j=>cases ry;exact ne_bool (zN I q (congrArg not dec_bl))
   | str j=>obtain⟨t',rfl⟩:=ry;exact PySem.EqMixed.ne_bool_str (zN I q (by simp))
   | _=>exact absurd (show false=true from hs) Bool.false_ne_true
 | int i =>
   obtain⟨t,rfl⟩:=rx
   cases y with
   | non=>cases ry;exact PySem.EqNone.ne_int_none (zN I q (by simp))
   | int j=>obtain⟨t',rfl⟩:=ry;exact ne_int (zN I q (congrArg not dec_int))
   | str j=>obtain⟨t',rfl⟩:=ry;exact PySem.EqMixed.ne_int_str (zN I q (by simp))
   | _=>exact absurd (show false=true from hs) Bool.false_ne_true
 | str i =>
   obtain⟨t,rfl⟩:=rx
   cases y with
   | non=>cases ry;exact PySem.EqNone.ne_str_none (zN I q (by simp))
   | bl j=>cases ry;exact PySem.EqMixed.ne_str_bool (zN I q (by simp))
   | int j=>obtain⟨t',rfl⟩:=ry;exact PySem.EqMixed.ne_str_int (zN I q (by simp))
   | str j=>obtain⟨t',rfl⟩:=ry;exact ne_str (zN I q (congrArg not dec_str))
   | _=>exact absurd (show false=true from hs) Bool.false_ne_true
 | byt i =>
   obtain⟨t,rfl⟩:=rx
   cases y with
   | byt j=>obtain⟨t',rfl⟩:=ry;exact PySem.W.ne_bytes (zN I q (congrArg not dec_byt))
   | _=>exact absurd (show false=true from hs) Bool.false_ne_true
 | _=>cases y <;> exact absurd (show false=true from hs) Bool.false_ne_true
theorem op_lt:OpR X (compareOp .Lt) (rI0 fun i j=>.bl (decide (i<j))):=opB0 fun _ _ _ _ _ _ _ q=>lt_int q
theorem zfm:OpR X (compareOp .LtE) (rI0 fun i j=>.bl (decide (i≤j))):=opB0 fun _ _ _ _ _ _ _ q=>le_int q
theorem op_gt:OpR X (compareOp .Gt) (rI0 fun i j=>.bl (decide (j<i))):=opB0 fun _ _ _ _ _ _ _ q=>gt_int q
theorem op_ge:OpR X (compareOp .GtE) (rI0 fun i j=>.bl (decide (j≤i))):=opB0 fun _ _ _ _ _ _ _ q=>ge_int q
theorem op_isN:OpR X (compareOp .Is) (fun x y H Q=>y=.non∧Q (.bl (decide (x=.non))) H):=by
 intro pins s σ H x y v u Q I rx ry h
 obtain⟨rfl,q⟩:=h
 cases ry
 refine is_none_gen (zN I q ?_)
 cases x <;> first
  | (cases rx;rfl)
  | (obtain⟨t,rfl⟩:=rx;rfl)
theorem zq(b:Expr){op:CmpOp}(h:op ≠ .In:=by decide)(h2:op ≠ .NotIn:=by decide):behindInMarks op b=false:=by
 have e1:(op==CmpOp.In)=false:=by cases op <;> first | rfl | exact absurd rfl h
 have e2:(op==CmpOp.NotIn)=false:=by cases op <;> first | rfl | exact absurd rfl h2
 cases b <;> simp[behindInMarks,e1,e2]
theorem wf{op:CmpOp}{r:R2}(ho:OpR X (compareOp op) r)(ha:PE X a ta)(hb:PE X b tb)(hm:behindInMarks op b=false):PE X (.Compare a [op] [b] pos) (tOp r ta tb):=by
 intro pins s σ H Q I h
 exact wpAny_Compare1 (binT ha hb I h fun v u s2 x y H2 I2 rx ry q=>ho pins s2 σ H2 x y v u Q I2 rx ry q) hm
def tTest(t:TE):TT:=fun σ H Q=>t σ H fun x H'=>∃k,x=.bl k∧Q k H'
theorem zp{op:CmpOp}{r:R2}(ho:OpR X (compareOp op) r)(ha:PE X a ta)(hb:PE X b tb)(hm:behindInMarks op b=false):PT X (.Compare a [op] [b] pos) (tTest (tOp r ta tb)):=by
 intro pins s σ H Q I h
 refine wpAny_isTrue_Compare1 (thn (ha pins s σ H _ I h) fun v s1 ⟨x,H1,I1,r1,q1⟩=>thn (hb pins s1 σ H1 _ I1 q1) fun u s2 ⟨y,H2,I2,r2,q2⟩ =>
  thn (ho pins s2 σ H2 x y v u _ I2 r1 r2 q2) fun c s3 ⟨z,H3,I3,r3,k,e,q3⟩=>?_) hm
 subst e
 cases r3
 exact wpAny_truthy_bool ⟨H3,I3,q3⟩
def tChain(r r':R2)(ta tb tc:TE):TE:=fun σ H Q=>ta σ H fun x H1=>tb σ H1 fun y H2=>r x y H2 fun z H3=>∃k,z=.bl k ∧
 (if k=true then tc σ H3 fun w' H4=>r' y w' H4 Q else Q (.bl false) H3)
theorem zdx{op op':CmpOp}{r r':R2}(ho:OpR X (compareOp op) r)(ho':OpR X (compareOp op') r')(ha:PE X a ta)(hb:PE X b tb)(hc:PE X c tc)
 (hm:lastMarks [op,op'] [b,c]=false:=by with_unfolding_all rfl):PE X (.Compare a [op,op'] [b,c] pos) (tChain r r' ta tb tc):=by
 intro pins s σ H Q I h
 refine Compare_chain (thn (ha pins s σ H _ I h) fun v s1 ⟨x,H1,I1,r1,q1⟩=>chain_link (thn (hb pins s1 σ H1 _ I1 q1) fun u s2 ⟨y,H2,I2,r2,q2⟩ =>
  thn (ho pins s2 σ H2 x y v u _ I2 r1 r2 q2) fun d s3 ⟨z,H3,I3,r3,k,e,q3⟩=>?_)) hm
 subst e
 cases r3
 refine wpAny_truthy_bool ?_
 cases k with
 | false=>exact ite_ff ⟨.bl false,H3,I3,rfl,q3⟩
 | true=>exact ite_tt (chain_last (thn (hc pins s3 σ H3 _ I3 q3) fun w' s4 ⟨z',H4,I4,r4,q4⟩=>ho' pins s4 σ H4 y z' u w' Q I4 r2 r4 q4))
theorem zc8:(sizeLine:Nat)<2 ^ 63:=by rw[sizeLine_eq];decide
theorem yz:OpR X (binaryOp .Add) (fun x y H Q=>∃i j,x=.str i∧y=.str j∧i.length+j.length≤sizeLine∧Q (.str (i++j)) H):=by
 intro pins s σ H x y v u Q I rx ry h
 obtain⟨i,j,rfl,rfl,hz,q⟩:=h
 obtain⟨t,rfl⟩:=rx
 obtain⟨t',rfl⟩:=ry
 exact add_str (fun t' tk=>⟨.str (i++j),H,I.tok _,⟨_,rfl⟩,q⟩) hz
theorem zgE{x:V}{us:List Value}(r:Vals [x] us):∃u,us=[u]∧RelV x u:=by
 cases r with
 | cons r1 r2=>cases r2;exact⟨_,rfl,r1⟩
theorem zcU:wp X (.type "int") (fun xs H Q=>(∃i,xs=[.int i]∧Q (.int i) H)∨∃k,xs=[.bl k]∧Q (.int (if k then 1 else 0)) H):=by
 intro pins s σ H xs us Q I r h
 rcases h with⟨i,rfl,q⟩|⟨k,rfl,q⟩
 ·obtain⟨u,rfl,t,rfl⟩:=zgE r
  exact call_int_int ⟨.int i,H,I,⟨_,rfl⟩,q⟩
 ·obtain⟨u,rfl,r1⟩:=zgE r
  cases r1
  exact call_int_bool ⟨.int (if k then 1 else 0),H,I.tok _,⟨_,rfl⟩,q⟩
def LenV(K:Frag)(x:V)(H:Hp)(n:Nat):Prop :=
 match x with
 | .str y=>y.length≤sizeLine∧n=y.length
 | .byt y=>y.size≤sizeLine∧n=y.size
 | .ref p=>(∃xs,SqL K H p xs∧n=xs.length)∨∃xs,SqT K H p xs∧n=xs.length
 | _=>False
theorem call_len:wp X (.builtin "len") (fun xs H Q=>∃x n,xs=[x]∧LenV X.K x H n∧Q (.int n) H):=by
 intro pins s σ H xs us Q I r h
 obtain⟨x,n,rfl,e,q⟩:=h
 obtain⟨u,rfl,rx⟩:=zgE r
 have hl:=zc8
 have hs:sizeLine=16777216:=sizeLine_eq
 cases x with
 | str y =>
   obtain⟨t,rfl⟩:=rx
   obtain⟨hy,e'⟩:y.length≤sizeLine∧n=y.length:=e
   subst e'
   exact len_str (by omega) ⟨.int _,H,I.tok _,⟨_,rfl⟩,q⟩
 | byt y =>
   obtain⟨t,rfl⟩:=rx
   obtain⟨hy,e'⟩:y.size≤sizeLine∧n=y.size:=e
   subst e'
   exact PySem.W.len_bytes (by omega) ⟨.int _,H,I.tok _,⟨_,rfl⟩,q⟩
 | ref p =>
   cases rx
   have e':(∃xs,SqL X.K H p xs∧n=xs.length)∨∃xs,SqT X.K H p xs∧n=xs.length:=e
   rcases e' with⟨xs,hx,e'⟩|⟨xs,hx,e'⟩
   ·subst e'
    obtain⟨its,r',pl,hz⟩:=I.list hx
    have hlen:=r'.length
    exact Calls.call_len_list pl.isList (by simp only[size_toArray];omega) ⟨.int xs.length,H,I.tok _,⟨_,by simp only[size_toArray];rw[hlen]⟩,q⟩
   ·subst e'
    obtain⟨its,r',pl,hz⟩:=I.tuple hx
    have hlen:=r'.length
    exact len_tuple pl (by simp only[size_toArray];omega) ⟨.int xs.length,H,I.tok _,⟨_,by simp only[size_toArray];rw[hlen]⟩,q⟩
 | _=>exact(show False from e).elim
end
structure ObjM (h:Heap) (x dx C:Addr) (mA:Str→Option Value):Prop where
 obj:h.get? x=some (instObj C dx)
 ns:h.Ns1 dx mA
 ne:dx≠x
theorem lookIn_ns{h:Heap}{dx:Addr}{mA:Str→Option Value}(n:h.Ns1 dx mA):∃od,h.get? dx=some od∧∀name,lookIn name od=some (mA name):=by
 obtain⟨o,es,ep,ho,hd,hk,_,hm⟩:=n
 refine⟨o,ho,fun name=>?_⟩
 have e:=hm name
 unfold nsFind findBy at e
 rw[←Array.find?_toList] at e
 unfold lookIn
 rw[hd]
 dsimp only
 split
 ·rename_i y q
  rw[q] at e
  exact congrArg some e
 ·rename_i q
  rw[q] at e
  have a:es.toList.any (·.refKey)=false:=by
   rw[List.any_eq_false]
   intro y hy
   obtain⟨z,t,hkey⟩:=hk y (Array.mem_toList_iff.mp hy)
   simp[DictEntry.refKey,hkey]
  have a':¬es.toList.any (·.refKey)=true:=by rw[a];exact Bool.false_ne_true
  rw[if_neg a']
  exact congrArg some e
theorem ObjM.look{h:Heap}{x dx C:Addr}{mA:Str→Option Value}(I:ObjM h x dx C mA):∃od,InstAt h x (instObj C dx) C (some od)∧∀name,lookIn name od=some (mA name) :=
 let ⟨od,ho,hl⟩:=lookIn_ns I.ns
 ⟨od,⟨I.obj,rfl,rfl,ho⟩,hl⟩
section
variable {prog:Program}{w:World}{A:Around}{E:Value→Shared→Prop}{s:Shared}{K:Frag}{x dx C f:Addr}{mA:Str→Option Value}{name:Str}{v:Value}
theorem get_map{expr:Bool}{Q:Value→Shared→Prop}(X:K.In s.heap)(I:ObjM s.heap x dx C mA)(hg:plainGet K C name=true)(hh:hasDictIn K C=true)
 (ha:PySem.W.findIn K (.ref C) name=some none) (hv:mA name=some v) (hv':handedIn v=true) (h:Q v { s with toks:=s.toks+1 }) :
 wpAny (model prog w) A (getAttr (.ref x) name expr) Q E s:=by
 obtain⟨od,J,hl⟩:=I.look
 exact PySem.W.get_value X J (plainGet_of hg).1 (PySem.W.findObj_own hh ha rfl (by rw[hl,hv])) hv' h
theorem get_meth{pl:Sem Bool}{Q:Value×List Value→Shared→Prop}(X:K.In s.heap)(I:ObjM s.heap x dx C mA)(hg:plainGet K C name=true)
 (hf:PySem.W.findIn K (.ref C) name=some (some (.ref f))) (ht:isFn K (.ref f)=true) (hv:mA name=none) (h:Q (.ref f,[.ref x]) s) :
 wpAny (model prog w) A (getMethod (.ref x) name pl) Q E s:=by
 obtain⟨od,J,hl⟩:=I.look
 exact PySem.W.method_fn X J (plainGet_of hg).1 (plainGet_of hg).2 hf (beq_iff_eq.mp ht) (by show(lookIn name od).map (·.isSome)=some false;rw[hl,hv];rfl) h
theorem set_map{ns:List Str}{Q:Unit→Shared→Prop}(X:K.In s.heap)(I:ObjM s.heap x dx C mA)
 (hs:PySem.W.findIn K (.ref C) "__setattr__"=some (some (.builtin "object.__setattr__"))) (hp:plainOver K C=true) (ht:takerIn K C name=some none) (hh:hasDictIn K C=true)
 (hw:PySem.Within mA ns) (hsz:ns.length≤sizeLine)
 (h:∀h',ObjM h' x dx C (fun y=>if y=name then some v else mA y)→SameBut dx s.heap h'→Q () { s with heap:=h',toks:=s.toks+2 }) :
 wpAny (model prog w) A (setAttr (.ref x) name v) Q E s:=by
 obtain⟨od,J,hl⟩:=I.look
 refine PySem.W.set_plain X J hs (PySem.W.osa_open (s:={ s with toks:=s.toks+1 }) (r:=none) X J hp ht fun b=>?_)
 obtain⟨cd,hc,hd'⟩:=PySem.W.any_some hh
 have hx:s.heap.get? x=some ⟨.ref C,some dx,.plain,#[]⟩:=I.obj
 refine wpAny_bind (wpAny_pure (wpAny_bind (wpAny_bind (wpAny_loadPart hx (wpAny_bind (PySem.W.Looks.here (s:={ s with toks:=s.toks+1 }) (PySem.W.looks_clsIn X hc) ?_))))))
 rw[hd']
 refine wpAny_pure (a:=some dx) (wpAny_bind (wpAny_pure (wpAny_bind ?_)))
 refine wpAny_nsSet1 (s:={ s with toks:=s.toks+1 }) I.ns fun h' hn2 hs2=>?_
 obtain⟨oD,esD,epD,hoD,hdD,hcD⟩:=hn2.count (PySem.Within.cons name v hw)
 refine wpAny_bind (wpAny_lookBehind hoD (by rw[hdD];exact pastItsLine_dict (le_trans hcD (by rw[length_cons];omega))) ?_)
 exact wpAny_pure (h _ ⟨(hs2.2 _ (Ne.symm I.ne)).trans I.obj,hn2,I.ne⟩ hs2)
theorem make_map{R:Result→Shared→Prop}{vs:List Value}{kw:List (Str×Value)}(X:K.In s.heap)(hm:makesIn K C=true)
 (hi:PySem.W.findIn K (.ref C) "__init__"=some (some (.ref f))) (hf:typeIn K (.ref f)=some (.type "function"))
 (h:codeAny (model prog w) (A.under (.builtin "type.__call__" ⟨.ref C::vs,kw⟩)) (.call (.ref f) ⟨.ref (s.heap.objs.size+1)::vs,kw⟩) (PySem.W.InitBack (s.heap.objs.size+1) R)
   { s with heap:=(s.heap.push emptyDict).push (instObj C s.heap.objs.size) }) :
 codeAny (model prog w) A (.call (.ref C) ⟨vs,kw⟩) R s:=by
 obtain⟨hh,g,d,t,os⟩:=s
 exact PySem.W.make_core (PySem.W.makes_of X hm) (PySem.W.looks_findIn X hi) (fun self=>PySem.W.bind_fn X self hf) (.inl rfl) h
end
def zae(f:Str)(v:V):List (Str×V)→List (Str×V)
 | []=>[(f,v)]
 | (g,x)::r=>if g=f then(g,v)::r else(g,x)::zae f v r
theorem zeg(f g:Str)(v:V):∀fs:List (Str×V),(zae f v fs).lookup g=if g=f then some v else fs.lookup g
 | []=>by
   show List.lookup g [(f,v)]=_
   by_cases h:g=f
   ·have hb:(g==f)=true:=beq_iff_eq.mpr h
    simp only[List.lookup,hb,if_pos h]
   ·have hb:(g==f)=false:=beq_eq_false_iff_ne.mpr h
    simp only[List.lookup,hb,if_neg h]
 | (k,x)::r=>by
   have ih:=zeg f g v r
   rw[show zae f v ((k,x)::r)=(if k=f then(k,v)::r else(k,x)::zae f v r)from rfl]
   by_cases hk:k=f
   ·rw[if_pos hk]
    by_cases h:g=k
    ·have hb:(g==k)=true:=beq_iff_eq.mpr h
     simp only[List.lookup,hb,if_pos (h.trans hk)]
    ·have hb:(g==k)=false:=beq_eq_false_iff_ne.mpr h
     simp only[List.lookup,hb,if_neg (fun e:g=f=>h (e.trans hk.symm))]
   ·rw[if_neg hk]
    by_cases h:g=k
    ·have hb:(g==k)=true:=beq_iff_eq.mpr h
     simp only[List.lookup,hb,if_neg (fun e:g=f=>hk (h.symm.trans e))]
    ·have hb:(g==k)=false:=beq_eq_false_iff_ne.mpr h
     simp only[List.lookup,hb]
     exact ih
theorem zdZ(f:Str)(v:V):∀fs:List (Str×V),f∈(zae f v fs).map (·.1)∧∀g,g∈fs.map (·.1)→g∈(zae f v fs).map (·.1)
 | []=>⟨by simp[zae],fun g h=>by simp at h⟩
 | (k,x)::r=>by
   obtain⟨i1,i2⟩:=zdZ f v r
   rw[show zae f v ((k,x)::r)=(if k=f then(k,v)::r else(k,x)::zae f v r)from rfl]
   by_cases hk:k=f
   ·rw[if_pos hk]
    subst hk
    exact⟨by simp,fun g h=>by simpa using h⟩
   ·rw[if_neg hk]
    refine⟨?_,fun g h=>?_⟩
    ·rw[map_cons]
     exact mem_cons_of_mem _ i1
    ·rw[map_cons] at h ⊢
     rcases List.mem_cons.mp h with e | e
     ·exact List.mem_cons.mpr (.inl e)
     ·exact mem_cons_of_mem _ (i2 g e)
theorem zep(f:Str)(v:V):∀fs:List (Str×V),(zae f v fs).length≤fs.length+1
 | []=>by simp[zae]
 | (k,x)::r=>by
   have ih:=zep f v r
   rw[show zae f v ((k,x)::r)=(if k=f then(k,v)::r else(k,x)::zae f v r)from rfl]
   by_cases hk:k=f
   ·rw[if_pos hk,length_cons,length_cons];omega
   ·rw[if_neg hk,length_cons,length_cons];omega
theorem RelO.some_of{v:V}{o:Option Value}(r:RelO (some v) o):∃u,o=some u∧RelV v u:=by
 cases o with
 | none=>exact(show False from r).elim
 | some u=>exact⟨u,rfl,r⟩
theorem RelO.none_of{o:Option Value}(r:RelO none o):o=none:=by
 cases o with
 | none=>rfl
 | some u=>exact(show False from r).elim
theorem handed_of{v:V}{u:Value}(r:RelV v u):handedIn u=true:=by
 cases v with
 | non=>cases (show u=Value.none from r);rfl
 | bl b=>cases (show u=Value.bool b from r);rfl
 | int i=>obtain⟨t,e⟩:=(show ∃t,u=Value.int i t from r);cases e;rfl
 | str x=>obtain⟨t,e⟩:=(show ∃t,u=Value.str x t from r);cases e;rfl
 | byt b=>obtain⟨t,e⟩:=(show ∃t,u=Value.bytes b t from r);cases e;rfl
 | flt b=>obtain⟨t,e⟩:=(show ∃t,u=Value.float b t from r);cases e;rfl
 | ref a=>cases (show u=Value.ref a from r);rfl
 | ty n=>cases (show u=Value.type n from r);rfl
section
variable {P:Program}{w:World}{H H':Hp}{h h':Heap}{a C dx:Addr}{fs fs':List (Str×V)}
theorem zgX(hok:HOk P w H h)(e:H a=some (.ins C dx fs)):∃mA,ObjM h a dx C mA∧(∀f,RelO (fs.lookup f) (mA f))∧PySem.Within mA (fs.map (·.1))∧fs.length≤1000∧H dx=some (.own a):=by
 obtain⟨d,z,ne,ob,mA,n,r,q⟩:=(show ObjOk P w H h a (.ins C dx fs)from hok a _ e)
 exact⟨mA,⟨ob,n,ne⟩,r,q,z,d⟩
end
structure Cls (K:Frag) (C:Addr):Prop where
 pg:plainGet K C Str.empty=true
 hd:hasDictIn K C=true
 po:plainOver K C=true
 sa:PySem.W.findIn K (.ref C) "__setattr__"=some (some (.builtin "object.__setattr__"))
theorem Cls.get{K:Frag}{C:Addr}(c:Cls K C)(f:Str):plainGet K C f=true:=c.pg
def NoAttr(K:Frag)(C:Addr)(f:Str):Prop:=PySem.W.findIn K (.ref C) f=some none
theorem NoAttr.taker{K:Frag}{C:Addr}{f:Str}(n:NoAttr K C f):takerIn K C f=some none:=by
 unfold takerIn
 rw[show PySem.W.findIn K (.ref C) f=some none from n]
 rfl
structure Meth (K:Frag) (C:Addr) (m:Str) (f:Addr):Prop where
 at_:PySem.W.findIn K (.ref C) m=some (some (.ref f))
 fn:isFn K (.ref f)=true
 kp:keepIn K (.ref f)=true
section
variable {X:Cx}{pins:List (Addr×Obj)}{σ:St}{H:Hp}{s:Shared}{a C dx:Addr}{fs:List (Str×V)}{f:Str}{v:V}{A:Around}{E:Value→Shared→Prop}
theorem zi1{b:Bool}{Q:Value→Shared→Prop}(I:Inv X pins σ H s)(e:H a=some (.ins C dx fs))(c:Cls X.K C)(n:NoAttr X.K C f)(l:fs.lookup f=some v)
 (h:∀u s',Inv X pins σ H s'→RelV v u→Q u s'):wpAny (model X.prog X.w) A (getAttr (.ref a) f b) Q E s:=by
 obtain⟨mA,O,r,_,_,_⟩:=zgX I.hok e
 obtain⟨u,hu,ru⟩:=RelO.some_of (v:=v) (o:=mA f) (by rw[←l];exact r f)
 exact get_map I.kIn O (c.get f) c.hd n hu (handed_of ru) (h u _ (I.tok _) ru)
theorem zc6{m:Str}{g:Addr}{pl:Sem Bool}{Q:Value×List Value→Shared→Prop}(I:Inv X pins σ H s)(e:H a=some (.ins C dx fs))(c:Cls X.K C)(k:Meth X.K C m g)(l:fs.lookup m=none)
 (h:Q (.ref g,[.ref a]) s):wpAny (model X.prog X.w) A (getMethod (.ref a) m pl) Q E s:=by
 obtain⟨mA,O,r,_,_,_⟩:=zgX I.hok e
 have hn:mA m=none:=RelO.none_of (by rw[←l];exact r m)
 exact get_meth I.kIn O (c.get m) k.at_ k.fn hn h
theorem ziY{y:V}{u:Value}{Q:Unit→Shared→Prop}(I:Inv X pins σ H s)(e:H a=some (.ins C dx fs))(c:Cls X.K C)(n:NoAttr X.K C f)(hl:fs.length<1000)(ry:RelV y u)
 (h:∀s',Inv X pins σ (upd H a (.ins C dx (zae f y fs))) s'→Q () s'):wpAny (model X.prog X.w) A (setAttr (.ref a) f u) Q E s:=by
 obtain⟨mA,O,r,wi,_,ho⟩:=zgX I.hok e
 have hz:(fs.map (·.1)).length≤sizeLine:=by rw[length_map,sizeLine_eq];omega
 refine set_map I.kIn O c.sa c.po n.taker c.hd wi hz fun h' O' sb=>h _ ?_
 have hd:∃o,h'.get? dx=some o:=let ⟨o,_,_,e',_⟩:=O'.ns;⟨o,e'⟩
 refine I.write (x:=a) (e:=dx) (by rw[e];exact True.intro) (.inr ho) (fun b q hb z=>(sb.2 b hb).trans z) hd ?_
 refine⟨by rw[zg O.ne];exact ho,?_,O.ne,O'.obj,_,O'.ns,fun g=>?_,fun g hg=>?_⟩
 ·have:=zep f y fs;omega
 ·show RelO ((zae f y fs).lookup g) (if g=f then some u else mA g)
  rw[zeg]
  by_cases q:g=f
  ·rw[if_pos q,if_pos q];exact ry
  ·rw[if_neg q,if_neg q];exact r g
 ·by_cases q:g=f
  ·rw[q];exact(zdZ f y fs).1
  ·refine(zdZ f y fs).2 g (wi g fun z=>hg ?_)
   show(if g=f then some u else mA g)=none
   rw[if_neg q];exact z
theorem Inv.made(I:Inv X pins σ H s):Inv X pins σ (upd (upd H s.heap.objs.size (.own (s.heap.objs.size+1))) (s.heap.objs.size+1) (.ins C s.heap.objs.size []))
 { s with heap:=(s.heap.push emptyDict).push (instObj C s.heap.objs.size) }:=by
 have e1:(s.heap.push emptyDict).get? s.heap.objs.size=some emptyDict:=get?_push_size s.heap rfl
 have e2:((s.heap.push emptyDict).push (instObj C s.heap.objs.size)).get? (s.heap.objs.size+1)=some (instObj C s.heap.objs.size):=by
  have:=get?_push_size (s.heap.push emptyDict) (o:=instObj C s.heap.objs.size) rfl
  rwa [size_push] at this
 have e3:(s.heap.push emptyDict).Ns s.heap.objs.size (fun _=>none):=⟨emptyDict,#[],_,e1,rfl,(fun e he=>absurd he (by simp)),fun _=>rfl⟩
 have I1:=I.laid (a:=s.heap.objs.size) (o:=.own (s.heap.objs.size+1)) (h':=s.heap.push emptyDict) (t':=s.toks) (fun b u q=>get?_push_of_some _ q) (le_refl _) ⟨_,e1⟩
 refine I1.laid (a:=s.heap.objs.size+1) (o:=.ins C s.heap.objs.size []) (t':=s.toks) (fun b u q=>get?_push_of_some _ q) (le_of_eq (size_push _ _)) ?_
 have ne:s.heap.objs.size≠s.heap.objs.size+1:=ne_of_lt (lt_succ_self _)
 refine⟨by rw[zg ne,zf],zero_le _,ne,e2,fun _=>none,(Heap.Ns1.of_empty e3).at fun o q=>get?_push_of_some _ q,fun _=>True.intro,fun y hy=>absurd rfl hy⟩
theorem attr_of{prog:Program}{w:World}{env:Env}{e:Expr}{f:Str}{pos:Pos}{s:Shared}{Q:Value→Shared→Prop}(hb:attributeBase e f env (eval e env)=eval e env)
 (h:wpAny (model prog w) A (eval e env) (fun o s₁=>wpAny (model prog w) A (getAttr o f true) Q E s₁) E s):wpAny (model prog w) A (eval (.Attribute e f pos) env) Q E s :=
 Attribute_any_ h (by rw[arm_eval_Attribute,hb])
end
def tFld(K:Frag)(ta:TE)(f:Str):TE:=fun σ H Q=>ta σ H fun x H1=>∃a C dx fs v,x=.ref a∧H1 a=some (.ins C dx fs)∧Cls K C∧NoAttr K C f∧fs.lookup f=some v∧Q v H1
def sFld(K:Frag)(ta tv:TE)(f:Str):TS:=fun D σ H=>tv σ H fun y H1=>ta σ H1 fun x H2=>∃a C dx fs,x=.ref a∧H2 a=some (.ins C dx fs)∧Cls K C∧NoAttr K C f∧fs.length<1000 ∧
 D.nx σ (upd H2 a (.ins C dx (zae f y fs)))
section
variable {X:Cx}{o e value:Expr}{f:Str}{pos pos' tpos:Pos}{ta tv:TE}
theorem yB(he:PE X e ta)(hb:attributeBase e f X.env (eval e X.env)=eval e X.env):PE X (.Attribute e f pos) (tFld X.K ta f):=by
 intro pins s σ H Q I h
 refine attr_of hb (thn (he pins s σ H _ I h) fun u s1 ⟨x,H1,I1,rx,a,C,dx,fs,v,ex,ea,c,n,l,q⟩=>?_)
 subst ex
 obtain rfl:u=Value.ref a:=rx
 exact zi1 I1 ea c n l fun u' s2 I2 ru=>⟨v,H1,I2,ru,q⟩
theorem zce(ha:PE X o ta)(hv:PE X value tv)(hs:swapsWith value (some (.Attribute o f pos')) pos.line X.env=pure false):PS X (.Assign [.Attribute o f pos'] value pos) (sFld X.K ta tv f):=by
 intro pins s σ H D I h
 refine plainObj_wpAny_Assign_Attribute (thn (hv pins s σ H _ I h) fun u s1 ⟨y,H1,I1,ry,q⟩=>thn (ha pins s1 σ H1 _ I1 q) fun ov s2 ⟨x,H2,I2,rx,a,C,dx,fs,ex,ea,c,n,l,q2⟩=>?_) hs
 subst ex
 obtain rfl:ov=Value.ref a:=rx
 exact ziY I2 ea c n l ry fun s3 I3=>⟨σ,_,I3,q2⟩
end
section
variable {X:Cx}{pins:List (Addr×Obj)}{σ:St}{H:Hp}{s:Shared}{A:Around}{E:Value→Shared→Prop}{Q:Value→Shared→Prop}{c:Value}{b:Bool}
end
structure Room (k:Nat) (A:Around):Prop where
 hd:A.handled=none
 dp:A.depth+3*k+5<recursionLimit
 un:A.units+16*k+200<cLine
theorem Room.mono{j k:Nat}{A:Around}(r:Room k A)(h:j≤k):Room j A:=⟨r.hd,by have:=r.dp;omega,by have:=r.un;omega⟩
theorem hM{j k:Nat}{A:Around}(r:Room k A)(h:j≤k:=by decide):Room j A:=r.mono h
theorem Room.deeper{k:Nat}{A:Around}(r:Room (k+1) A)(env:Env):Room k (A.deeper env) :=
 ⟨r.hd,by have:=r.dp;show A.depth+1+3*k+5<_;omega,by have:=r.un;show A.units+3+16*k+200<_;omega⟩
theorem Room.in1{k:Nat}{A:Around}(r:Room (k+1) A):Room k A.in1 :=
 ⟨r.hd,by have:=r.dp;show A.depth+3*k+5<_;omega,by have:=r.un;show A.units+1+16*k+200<_;omega⟩
theorem ziT{A:Around}{C:Addr}{us:List Value}{kw:List (Str×Value)}:(A.under (.builtin "type.__call__" ⟨.ref C::us,kw⟩)).depth=A.depth+1:=by
 first | rfl | simp[Around.under,Code.weight,Code.isCreation,Code.isGuard,Code.isCaller,Code.frames,Code.isFrame,guardIds]
theorem zjg{A:Around}{C:Addr}{us:List Value}{kw:List (Str×Value)}:(A.under (.builtin "type.__call__" ⟨.ref C::us,kw⟩)).units=A.units+1:=by
 first | rfl | simp[Around.under,Code.cUnits,Code.frames,Code.isFrame]
theorem Room.make{k:Nat}{A:Around}(r:Room (k+1) A)(C:Addr)(us:List Value)(kw:List (Str×Value)):Room k (A.under (.builtin "type.__call__" ⟨.ref C::us,kw⟩)) :=
 ⟨r.hd,by have:=r.dp;rw[ziT];omega,by have:=r.un;rw[zjg];omega⟩
theorem Room.depth{k:Nat}{A:Around}(r:Room k A):A.depth<recursionLimit:=by have:=r.dp;omega
theorem Room.units{k:Nat}{A:Around}(r:Room k A):A.units+64<cLine:=by have:=r.un;omega
theorem Room.units0{k:Nat}{A:Around}(r:Room k A):A.units<cLine:=by have:=r.un;omega
def tNil:TA:=fun _ H Q=>Q [] H
def tCons(ta:TE)(tr:TA):TA:=fun σ H Q=>ta σ H fun x H1=>tr σ H1 fun xs H2=>Q (x::xs) H2
section
variable {X:Cx}{e:Expr}{es:List Expr}{te:TE}{t:TA}{pos:Pos}
theorem zc:PA X [] tNil:=fun _ _ _ _ H Q I h=>Calls.spliced_nil ⟨[],H,I,.nil,h⟩
theorem za(ha:PE X e te)(hr:PA X es t)(hs:starEach (e::es) X.env=(false,eval e X.env)::starEach es X.env:=by rfl):PA X (e::es) (tCons te t):=by
 intro pos pins s σ H Q I h
 rw[hs]
 show wpAny _ _ (spliced ((false,eval e X.env)::backTo pos (starEach es X.env))) _ _ s
 refine Calls.spliced_cons (thn (ha pins s σ H _ I h) fun u s1 ⟨x,H1,I1,r1,q1⟩=>?_)
 exact thn (hr pos pins s1 σ H1 _ I1 q1) fun us s2 ⟨xs,H2,I2,r2,q2⟩=>⟨x::xs,H2,I2,.cons r1 r2,q2⟩
def tTup(t:TA):TE:=fun σ H Q=>t σ H fun xs H1=>xs.length≤sizeLine∧∀p,H1 p=none→Q (.ref p) (upd H1 p (.tup xs))
def tLst(t:TA):TE:=fun σ H Q=>t σ H fun xs H1=>xs.length≤sizeLine∧∀p,H1 p=none→Q (.ref p) (upd H1 p (.lst xs))
theorem zjp{x1}(h:PA X es t):PE X (.Tuple es x1 pos) (tTup t):=by
 intro pins s σ H Q I hq
 refine wpAny_Tuple_spliced (thn (h pos pins s σ H _ I hq) fun us s1 ⟨xs,H1,I1,r,z,q⟩=>⟨by rw[←r.length];exact z,?_⟩)
 have hf:H1 s1.heap.objs.size=none:=I1.hok.fresh (le_refl _)
 refine⟨.ref s1.heap.objs.size,upd H1 s1.heap.objs.size (.tup xs),I1.laid (t':=s1.toks) (fun b u e=>get?_push_of_some _ e) (le_refl _) ?_,rfl,q _ hf⟩
 exact⟨z,us,r,⟨_,get?_push_size _ rfl,rfl,_,rfl⟩⟩
theorem yT(h:PA X es t):PE X (.List es pos) (tLst t):=by
 intro pins s σ H Q I hq
 refine wpAny_List_spliced (thn (h pos pins s σ H _ I hq) fun us s1 ⟨xs,H1,I1,r,z,q⟩=>⟨by rw[←r.length];exact z,?_⟩)
 have hf:H1 s1.heap.objs.size=none:=I1.hok.fresh (le_refl _)
 refine⟨.ref s1.heap.objs.size,upd H1 s1.heap.objs.size (.lst xs),I1.laid (t':=s1.toks) (fun b u e=>get?_push_of_some _ e) (le_refl _) ?_,rfl,q _ hf⟩
 exact⟨z,us,0,r,get?_push_size _ rfl⟩
end
abbrev Sp:=List V→Hp→VK→XK→Prop
abbrev CXT:=List Env→Hp→Shared→XK→Value→Shared→Prop
structure Env0 (P:Program) (w:World) (K:Frag) (mg:Str→Option Value) (base:Heap) (A:Around) (outer:List Env) (s:Shared) (H:Hp):Prop where
 frames:A.frames=some outer
 mod:Mod K mg base
 bs:∀b o,base.get? b=some o→s.heap.get? b=some o∧H b=none
 bsz:base.objs.size≤s.heap.objs.size
 funs:s.heap.FunFrames base outer
 frf:∀b∈frs outer,H b=none
 hok:HOk P w H s.heap
 bare:AllBare s.gens
def CE(outer:List Env)(P:Program)(w:World)(H:Hp)(s:Shared)(Q:VK)(u:Value)(s':Shared):Prop :=
 ∃v H',s'.os=s.os∧AllBare s'.gens∧Un (frs outer) [] H H' s.heap s'.heap∧HOk P w H' s'.heap∧RelV v u∧Q v H'
def CR(CX:CXT)(outer:List Env)(P:Program)(w:World)(H:Hp)(s:Shared)(Q:VK)(E:XK)(r:Result)(s':Shared):Prop :=
 match r with
 | .ok (.ret u)=>CE outer P w H s Q u s'
 | .ok _=>False
 | .error e=>CX outer H s E e s'
structure FnOk (P:Program) (w:World) (K:Frag) (mg:Str→Option Value) (base:Heap) (CX:CXT) (k:Nat) (f:Addr) (fd:FuncData) (ps:List Str) (sp:Sp):Prop where
 len:∀vs H Q E,sp vs H Q E→vs.length=ps.length
 run:∀(A:Around)(outer:List Env)(s:Shared)(H:Hp)(args:Args)(us:List Value)(vs:List V)(Q:VK)(E:XK),Room k A→Env0 P w K mg base A outer s H→BindsTo s fd args (ps.zip us)→Vals vs us→sp vs H Q E →
  codeAny (model P w) A (.call (.ref f) args) (CR CX outer P w H s Q E) s
theorem Env0.make{P:Program}{w:World}{K:Frag}{mg:Str→Option Value}{base:Heap}{A:Around}{outer:List Env}{s:Shared}{H:Hp}(e:Env0 P w K mg base A outer s H)(C:Addr)(us:List Value)(kw:List (Str×Value)):
 Env0 P w K mg base (A.under (.builtin "type.__call__" ⟨.ref C::us,kw⟩)) outer s H:=⟨by first | exact e.frames | (simpa [Around.under,Code.envs,Code.isFrame,pushEnvs] using e.frames),e.mod,e.bs,e.bsz,e.funs,e.frf,e.hok,e.bare⟩
theorem Env0.in1{P:Program}{w:World}{K:Frag}{mg:Str→Option Value}{base:Heap}{A:Around}{outer:List Env}{s:Shared}{H:Hp}(e:Env0 P w K mg base A outer s H):
 Env0 P w K mg base A.in1 outer s H:=⟨e.frames,e.mod,e.bs,e.bsz,e.funs,e.frf,e.hok,e.bare⟩
section
variable {X:Cx}{pins:List (Addr×Obj)}{σ:St}{H:Hp}{s s':Shared}
theorem Inv.env0(I:Inv X pins σ H s):Env0 X.prog X.w X.K X.mg X.base X.A X.stack s H :=
 ⟨I.ok.frames,I.ok.mod,I.bs,le_trans I.ok.bsz I.sz,I.stack,I.stkFree,I.hok,I.bare⟩
theorem Inv.after{Q:VK}{u:Value}(I:Inv X pins σ H s)(h:CE X.stack X.prog X.w H s Q u s'):EP X pins σ Q u s':=by
 obtain⟨v,H',os,bare,un,hok,r,q⟩:=h
 obtain⟨hh,g,d,t,os'⟩:=s'
 obtain rfl:os'=s.os:=os
 exact⟨v,H',I.call (h':=hh) (g':=g) (d':=d) (t':=t) (ch:=[]) un hok bare (fun b z=>absurd z (by simp)),r,q⟩
end
def tCall(sp:Sp)(dvs:List V)(E:XK)(t:TA):TE:=fun σ H Q=>t σ H fun vs H1=>sp (vs++dvs) H1 Q E
def tMeth(C:Addr)(m:Str)(sp:Sp)(dvs:List V)(E:XK)(ta:TE)(t:TA):TE:=fun σ H Q=>ta σ H fun x H1=>∃a dx fs,x=.ref a∧H1 a=some (.ins C dx fs)∧fs.lookup m=none ∧
 t σ H1 fun vs H2=>sp (x::(vs++dvs)) H2 Q E
def Binds(K:Frag)(fd:FuncData)(ps:List Str)(ds:List Value):Prop :=
 ∀(s:Shared)(us:List Value),K.In s.heap→(us++ds).length=ps.length→BindsTo s fd ⟨us,[]⟩ (ps.zip (us++ds))
theorem Binds.all{K:Frag}{fd:FuncData}{ps:List Str}(h:∀us:List Value,us.length=ps.length→bindArgs fd ⟨us,[]⟩=pure (ps.zip us)):Binds K fd ps []:=fun s us _ hl=>by
 rw[append_nil] at hl ⊢
 exact .of_eq (h us hl)
def zhi(CX:CXT)(X:Cx)(E:XK):Prop:=∀(pins:List (Addr×Obj)) (σ:St) (H:Hp) (s:Shared) (e:Value) (s':Shared),Inv X pins σ H s→CX X.stack H s E e s'→X.xe e s'
section
variable {X:Cx}{CX:CXT}{k:Nat}{f C:Addr}{fd:FuncData}{ps:List Str}{sp:Sp}{dvs:List V}{ds:List Value}{E:XK}{x m:Str}{p pos apos:Pos}{e o:Expr}{es:List Expr}{ta:TE}{t:TA}
theorem run_fn{pins:List (Addr×Obj)}{σ:St}{H:Hp}{s:Shared}{Q:VK}{us:List Value}{vs:List V}(F:FnOk X.prog X.w X.K X.mg X.base CX k f fd ps sp)(hr:Room k X.A)(hb:Binds X.K fd ps ds)(hd:Vals dvs ds)(hx:zhi CX X E)
 (I:Inv X pins σ H s) (r:Vals vs us) (h:sp (vs++dvs) H Q E):wpAny (model X.prog X.w) X.A (call (.ref f) us) (EP X pins σ Q) X.xe s:=by
 have r2:Vals (vs++dvs) (us++ds):=r.append hd
 have hl:(us++ds).length=ps.length:=by rw[←r2.length];exact F.len _ _ _ _ h
 refine wpAny_call (codeAny_mono (F.run X.A X.stack s H ⟨us,[]⟩ (us++ds) (vs++dvs) Q E hr I.env0 (hb s us I.kIn hl) r2 h) fun r s' hq=>?_)
 cases r with
 | error e=>exact hx pins σ H s e s' I hq
 | ok fl =>
   cases fl with
   | ret u=>exact I.after hq
   | next=>exact False.elim hq
   | brk=>exact False.elim hq
   | cont=>exact False.elim hq
theorem pe_call(F:FnOk X.prog X.w X.K X.mg X.base CX k f fd ps sp)(hr:Room k X.A)(hg:Gl X x)(hm:X.mg x=some (.ref f))(hk:keepIn X.K (.ref f)=true)(hb:Binds X.K fd ps ds)(hd:Vals dvs ds)(hx:zhi CX X E)
 (ha:PA X (e::es) t) (hdb:(x==("__debug__":Str))=false:=by decide) (he:starEach (e::es) X.env=(false,eval e X.env)::starEach es X.env:=by rfl) (hpl:(backTo pos (starEach es X.env)).any (·.1)=false:=by rfl) :
 PE X (.Call (.Name x p) (e::es) [] pos) (tCall sp dvs E t):=by
 intro pins s σ H Q I h
 refine wpAny_Call_Name_kw (zbC I hg hm ?_ hdb)
 refine callWith_K (h₀:=X.base) I.ok.mod.kin hk (thn (ha pos pins s σ H _ I h) fun us s1 ⟨vs,H1,I1,r,q⟩=>⟨I1.kIn,?_⟩) he hpl
 exact run_fn F hr hb hd hx I1 r q
theorem pe_meth0{pl:Sem Bool}(he:PE X o ta)(c:Cls X.K C)(hm:Meth X.K C m f)(F:FnOk X.prog X.w X.K X.mg X.base CX k f fd ps sp)(hr:Room k X.A)(hb:Binds X.K fd ps ds)(hd:Vals dvs ds)(hx:zhi CX X E)
 (ht:eval (.Call (.Attribute o m apos) [] [] pos) X.env=(do
   let ov ←eval o X.env
   standAt apos.atName
   let (f,first) ←holding [ov] (getMethod ov m pl)
   callWith pos f first (backTo pos (starEach [] X.env)) (backToKw pos (keywordEach [] X.env))):=by rfl) :
 PE X (.Call (.Attribute o m apos) [] [] pos) (tMeth C m sp dvs E ta tNil):=by
 intro pins s σ H Q I h
 refine methodCall_KW (pl:=pl) (thn (he pins s σ H _ I h) fun u s1 ⟨x,H1,I1,rx,a,dx,fs,ex,ea,l,q⟩=>?_) ht
 subst ex
 obtain rfl:u=Value.ref a:=rx
 refine zc6 I1 ea c hm l ?_
 exact callWith_K0 (first:=[.ref a]) I1.kIn hm.kp (run_fn (us:=[.ref a]) (vs:=[.ref a]) F hr hb hd hx I1 (.cons rfl .nil) q)
structure Mk (K:Frag) (C f:Addr):Prop where
 makes:makesIn K C=true
 init:PySem.W.findIn K (.ref C) "__init__"=some (some (.ref f))
 fn:isFn K (.ref f)=true
 kp:keepIn K (.ref C)=true
end
section
variable {X:Cx}{CX:CXT}{k:Nat}{f C:Addr}{fd:FuncData}{ps ks:List Str}{sp:Sp}{E:XK}{x m:Str}{p pos apos kpos:Pos}{e o:Expr}{es:List Expr}{kws:List Keyword}{te ta:TE}{t tk:TA}{nm:Option Str}
variable {g:List Value→List Value→List Value}{gV:List V→List V→List V}
end
structure FnScope (N P:List Str) (sc:Scope):Prop where
 kind:sc.kind=.function
 co:sc.isCoroutine=false
 gen:sc.isGenerator=false
 nd:N.Nodup
 pre:N.take P.length=P
 par:∀x∈P,sc.names.lookup x=some .local∨sc.names.lookup x=some .cell
 nofree:∀y∈sc.names,y.2 ≠ .free
theorem zgC{kindOf:Str→Option NameKind}{x:Str}:∀{binds:List (Str×Value)} {m:Str→Option Value},(∀v,(x,v)∉binds)→bindL kindOf binds m x=m x
 | [],_,_=>rfl
 | (n,v)::r,m,h=>by
   unfold bindL
   rw[zgC fun w hw=>h w (mem_cons_of_mem _ hw)]
   split
   ·have:x≠n:=by rintro rfl;exact h v mem_cons_self
    simp[this]
   ·rfl
theorem zgA{kindOf:Str→Option NameKind}{x:Str}:∀{binds:List (Str×Value)} {m:Str→Option Value},(∀v,(x,v)∉binds)→bindC kindOf binds m x=m x
 | [],_,_=>rfl
 | (n,v)::r,m,h=>by
   unfold bindC
   rw[zgA fun w hw=>h w (mem_cons_of_mem _ hw)]
   split
   ·rfl
   ·have:x≠n:=by rintro rfl;exact h v mem_cons_self
    simp[this]
theorem zgB{kindOf:Str→Option NameKind}{x:Str}{v:Value}:∀{P:List Str}{vs:List Value}{i:Nat}{m:Str→Option Value},P.Nodup→P[i]? = some x→vs[i]? = some v→kindOf x=some .local →
 bindL kindOf (P.zip vs) m x=some v
 | [],_,_,_,_,h,_,_=>by simp at h
 | _::_,[],_,_,_,_,h,_=>by simp at h
 | p::P,w::vs,0,m,nd,h1,h2,hk=>by
   simp at h1 h2;subst h1;subst h2
   show bindL kindOf ((p,w)::P.zip vs) m p=_
   unfold bindL
   rw[zgC fun v hv=>(List.nodup_cons.mp nd).1 (of_mem_zip hv).1,if_pos hk]
   simp
 | p::P,w::vs,i+1,m,nd,h1,h2,hk=>by
   show bindL kindOf ((p,w)::P.zip vs) m x=_
   unfold bindL
   exact zgB (i:=i) (List.nodup_cons.mp nd).2 (by simpa using h1) (by simpa using h2) hk
theorem zgO{kindOf:Str→Option NameKind}{x:Str}{v:Value}:∀{P:List Str}{vs:List Value}{i:Nat}{m:Str→Option Value},P.Nodup→P[i]? = some x→vs[i]? = some v→kindOf x≠some .local →
 bindC kindOf (P.zip vs) m x=some v
 | [],_,_,_,_,h,_,_=>by simp at h
 | _::_,[],_,_,_,_,h,_=>by simp at h
 | p::P,w::vs,0,m,nd,h1,h2,hk=>by
   simp at h1 h2;subst h1;subst h2
   show bindC kindOf ((p,w)::P.zip vs) m p=_
   unfold bindC
   rw[zgA fun v hv=>(List.nodup_cons.mp nd).1 (of_mem_zip hv).1,if_neg hk]
   simp
 | p::P,w::vs,i+1,m,nd,h1,h2,hk=>by
   show bindC kindOf ((p,w)::P.zip vs) m x=_
   unfold bindC
   exact zgO (i:=i) (List.nodup_cons.mp nd).2 (by simpa using h1) (by simpa using h2) hk
def zaY(N:List Str)(vs:List V):St:=vs.map some++replicate (N.length-vs.length) none
def zbn(CX:CXT)(P:Program)(w:World)(K:Frag)(mg:Str→Option Value)(base:Heap)(N:List Str)(qual:Str)(scope:Scope)(f:Addr)(cd:Value)(A:Around)(outer:List Env)(s:Shared)(H:Hp)(E:XK):Cx where
 prog:=P
 w:=w
 K:=K
 mg:=mg
 base:=base
 A:=A.deeper (envOfC qual scope s.heap.objs.size f cd)
 N:=N
 s₀:=s
 H₀:=H
 env:=envOfC qual scope s.heap.objs.size f cd
 outer:=outer
 stack:=envOfC qual scope s.heap.objs.size f cd::outer
 ex:=[]
 calm:=true
 fn:=fun _=>true
 pn:=[]
 xe:=fun e s'=>wpAny (model P w) (A.deeper (envOfC qual scope s.heap.objs.size f cd)) (leaving (envOfC qual scope s.heap.objs.size f cd) e) (fun _ s''=>CX outer H s E e s'') (fun e' s''=>CX outer H s E e' s'') s'
theorem zif{sc:Scope}{n:Nat}{x:Str}(h:sc.names.lookup x=some .cell):∃c,(cellsFrom n sc.names []).lookup x=some c:=by
 have q:=cellsFrom_some sc.names n [] (.inl h)
 exact Option.isSome_iff_exists.mp q
theorem zgt{CX:CXT}{P:Program}{w:World}{K:Frag}{mg:Str→Option Value}{base:Heap}{N ps:List Str}{qual:Str}{scope:Scope}{f:Addr}{cd:Value}{A:Around}{outer:List Env}{s s1:Shared}{H:Hp}{E:XK}{us:List Value}{vs:List V}
 (S:FnScope N ps scope) (hd:A.handled=none) (e0:Env0 P w K mg base A outer s H) (hl:vs.length=ps.length) (r:Vals vs us)
 (x:InCallC s s.heap.objs.size (bindL (envOfC qual scope s.heap.objs.size f cd).kindOf (ps.zip us) fun _=>none) (cellsFrom (s.heap.objs.size+1) scope.names []) (bindC (envOfC qual scope s.heap.objs.size f cd).kindOf (ps.zip us) fun _=>none) s1) :
 Inv (zbn CX P w K mg base N qual scope f cd A outer s H E) [] (zaY N vs) H s1:=by
 have hpl:ps.length≤N.length:=by have:=congrArg List.length S.pre;rw[length_take] at this;omega
 obtain⟨h1,tk,rfl,hk⟩:=x.done
 have noA:∀b:Addr,b∉(zbn CX P w K mg base N qual scope f cd A outer s H E).ex:=fun b z=>absurd (show b∈([]:List Addr)from z) (by simp)
 refine⟨⟨e0.mod,S.kind,rfl,rfl,le_refl _,fun y z c h1 h2=>?_,fun y hy=>?_,fun y c _ h=>?_,fun _=>hd,Around.frames_deeper e0.frames,.inr ⟨rfl,rfl⟩,fun b z=>absurd z (noA b),e0.bs,e0.bsz,fun b _ _=>noA b,fun b z=>absurd z (noA b),e0.funs,e0.frf⟩,
  rfl,e0.bare,Un.kept hk,⟨_,x.toInCall.ns,fun i y v h1 h2 h3=>?_⟩,fun y c h=>⟨_,x.cell y c h⟩,e0.hok.fresh (le_refl _),fun y c h=>?_,fun p hp=>absurd (show p∈([]:List (Addr×Obj))from hp) (by simp),e0.hok.kept hk,?_⟩
 ·exact name_of_addr x.apart (PySem.mem_of_lookup h1) (PySem.mem_of_lookup h2)
 ·have hy:scope.names.lookup y=some .cell∨scope.names.lookup y=some .free:=hy
  rcases hy with hy | hy
  ·exact zif hy
  ·exact absurd rfl (S.nofree _ (PySem.mem_of_lookup hy))
 ·exact le_of_lt (x.above y c (PySem.mem_of_lookup h))
 ·have hi:i<vs.length:=by
   unfold zaY at h2
   by_cases hi:i<vs.length
   ·exact hi
   ·rw[List.getElem?_append_right (by simpa using hi)] at h2
    rw[List.getElem?_replicate] at h2
    split at h2 <;> cases h2
  have ha:vs[i]? = some v:=by
   unfold zaY at h2
   rw[List.getElem?_append_left (by simpa using hi),getElem?_map] at h2
   cases e:vs[i]? with
   | none=>rw[e] at h2;cases h2
   | some a=>rw[e] at h2;cases h2;rfl
  obtain⟨u,hu,rv⟩:=r.get ha
  have hp:ps[i]? = some y:=by
   rw[←S.pre,List.getElem?_take_of_lt (by omega)];exact h1
  have ndP:ps.Nodup:=by rw[←S.pre];exact S.nd.sublist (List.take_sublist _ _)
  refine⟨u,rv,?_⟩
  rcases S.par y (mem_of_getElem? hp)with k | k
  ·exact .inl ⟨k,zgB ndP hp hu k⟩
  ·obtain⟨c,e⟩:=zif (n:=s.heap.objs.size+1) k
   refine .inr ⟨.inl k,c,e,?_⟩
   have q:=x.cell y c e
   rw[zgO ndP hp hu (by show scope.names.lookup y≠_;rw[k];decide)] at q
   exact q
 ·exact e0.hok.fresh (le_of_lt (x.above y c (PySem.mem_of_lookup h)))
 ·unfold zaY
  show _=N.length
  rw[length_append,length_map,List.length_replicate]
  omega
theorem fn_of{CX:CXT}{P:Program}{w:World}{K:Frag}{mg:Str→Option Value}{base:Heap}{k:Nat}{f:Addr}{name qual:Str}{params:Arguments}{body:List Stmt}{scope:Scope}{dV kV doc pm cdv ct oc:Value}{an od:Option Addr}
 {osl:Array (Option Value)} {N ps:List Str} {sp:Sp} (lk:K.lookup f=some ⟨oc,od,.func (fnOf name qual params body scope dV kV doc pm an cdv ct),osl⟩) (hcd:codeIn K cdv qual=true) (S:FnScope N ps scope)
 (len:∀vs H Q E,sp vs H Q E→vs.length=ps.length)
 (hbody:∀(A:Around)(outer:List Env)(s:Shared)(H:Hp)(vs:List V)(Q:VK)(E:XK),Room k (A.deeper (envOfC qual scope s.heap.objs.size f cdv))→sp vs H Q E →
   ∃t,PSs (zbn CX P w K mg base N qual scope f cdv A outer s H E) body t∧t { nx:=fun _ H'=>Q .non H',rt:=Q } (zaY N vs) H) :
 FnOk P w K mg base CX (k+1) f (fnOf name qual params body scope dV kV doc pm an cdv ct) ps sp:=by
 refine⟨len,fun A outer s H args us vs Q E hr e0 hb r hsp=>?_⟩
 have hl:=len _ _ _ _ hsp
 have KX:K.In s.heap:=e0.mod.kin.keeps fun b o e=>(e0.bs b o e).1
 have lim:s.heap.NoLimit:=e0.mod.nolimit.keeps fun b o e=>(e0.bs b o e).1
 have hkind:∀y∈ps.zip us,scope.names.lookup y.1=some .local∨(scope.names.lookup y.1=some .cell∧((cellsFrom (s.heap.objs.size+1) scope.names []).lookup y.1).isSome=true):=fun⟨n,v⟩ hy=>by
  rcases S.par n (of_mem_zip hy).1 with q | q
  ·exact .inl q
  ·exact .inr ⟨q,cellsFrom_some _ _ _ (.inl q)⟩
 refine codeAny_call_function hr.depth (KX _ _ lk) rfl S.co S.gen rfl (PySem.W.codeRec_of KX hcd) (hb _ _ _ _ ?_)
 refine wpAny_newFunctionEnv_cells S.kind hkind fun env he s1 x=>?_
 subst he
 refine⟨lim.keeps x.toInCall.keep,codeAny_func ?_⟩
 obtain⟨t,ht,hq⟩:=hbody A outer s H vs Q E (hr.deeper _) hsp
 have I:Inv (zbn CX P w K mg base N qual scope f cdv A outer s H E) [] (zaY N vs) H s1:=zgt S hr.hd e0 hl r x
 refine wpAny_mono (ht [] s1 (zaY N vs) H _ I hq) (fun fl s' hs=>?_) fun e s' hs=>hs
 have fin:∀{σ':St}{H':Hp}{v:V}{u:Value},Inv (zbn CX P w K mg base N qual scope f cdv A outer s H E) [] σ' H' s'→RelV v u→Q v H'→CE outer P w H s Q u s' :=
  fun {σ' H' v u} J rv q=>⟨v,H',J.os,J.bare,J.base,J.hok,rv,q⟩
 cases fl with
 | ret u =>
   obtain⟨v,σ',H',J,rv,q⟩:=hs
   exact fin J rv q
 | next =>
   obtain⟨σ',H',J,q⟩:=hs
   exact fin (v:=V.non) (u:=Value.none) J rfl q
 | brk =>
   obtain⟨_,_,_,q⟩:=hs
   exact False.elim q
 | cont =>
   obtain⟨_,_,_,q⟩:=hs
   exact False.elim q
section
variable {X:Cx}{x:Str}{p pos:Pos}{e:Expr}{es:List Expr}{t:TA}{id T:String}{r:List V→Hp→VK→Prop}
def tCB(r:List V→Hp→VK→Prop)(t:TA):TE:=fun σ H Q=>t σ H fun vs H1=>r vs H1 Q
theorem zn(hc:wp X (.builtin id) r)(hg:Gl X x)(hm:X.mg x=none)(hv:bootBuiltins x=some (.builtin id))(ha:PA X (e::es) t)(hn:x≠"__name__":=by decide)(hdb:(x==("__debug__":Str))=false:=by decide)
 (he:starEach (e::es) X.env=(false,eval e X.env)::starEach es X.env:=by rfl) (hpl:(backTo pos (starEach es X.env)).any (·.1)=false:=by rfl):PE X (.Call (.Name x p) (e::es) [] pos) (tCB r t):=by
 intro pins s σ H Q I h
 refine wpAny_Call_Name_kw (zbX I hg hm hv ?_ hn hdb)
 exact callWith_builtin1 (thn (ha pos pins s σ H _ I h) fun us s1 ⟨vs,H1,I1,r1,q1⟩=>hc pins s1 σ H1 vs us Q I1 r1 q1) he hpl
theorem zF(hc:wp X (.type T) r)(hg:Gl X x)(hm:X.mg x=none)(hv:bootBuiltins x=some (.type T))(ha:PA X (e::es) t)(hn:x≠"__name__":=by decide)(hdb:(x==("__debug__":Str))=false:=by decide)
 (he:starEach (e::es) X.env=(false,eval e X.env)::starEach es X.env:=by rfl) (hpl:(backTo pos (starEach es X.env)).any (·.1)=false:=by rfl):PE X (.Call (.Name x p) (e::es) [] pos) (tCB r t):=by
 intro pins s σ H Q I h
 refine wpAny_Call_Name_kw (zbX I hg hm hv ?_ hn hdb)
 exact callWith_type1 (thn (ha pos pins s σ H _ I h) fun us s1 ⟨vs,H1,I1,r1,q1⟩=>hc pins s1 σ H1 vs us Q I1 r1 q1) he hpl
end
end L2
namespace HT
open PySem PyProof.Rows
def lexLt:List Int→List Int→Bool
 | [],[]=>false
 | [],_::_=>true
 | _::_,[]=>false
 | x::xs,y::ys=>if x=y then lexLt xs ys else decide (x<y)
theorem lexLt_cons(x y:Int)(xs ys:List Int):lexLt (x::xs) (y::ys)=if x=y then lexLt xs ys else decide (x<y):=rfl
theorem lexLt_nil_nil:lexLt [] []=false:=rfl
theorem lexLt_nil_cons(y:Int)(ys:List Int):lexLt [] (y::ys)=true:=rfl
theorem lexLt_cons_nil(x:Int)(xs:List Int):lexLt (x::xs) []=false:=rfl
theorem rcLt_int(A:Around)(s:Shared)(a:Int)(t:Tok)(c:Int)(u:Tok)(prog:Program)(w:World)(E:Value→Shared→Prop)(Q:Value→Shared→Prop)(h:Q (.bool (decide (a<c))) s):
 wpAny (model prog w) A (richCompare .Lt (.int a t) (.int c u)) Q E s :=
 (PyProof.Rows.lt_int h:wpAny (model prog w) A (compareOp .Lt (.int a t) (.int c u)) Q E s)
section
open PySem.SeqAt
open PySem.AutoSeq1 (wpAny_loadPart')
open PySem.MeetsSeq PySem.MeetsSeq2 PySem.MeetsSeq3
end
section
variable {prog:Program}{w:World}{A:Around}{E:Value→Shared→Prop}{s:Shared}
theorem cat_tup{t b:Addr}{vs ws:List Value}{Q:Value→Shared→Prop}(ht:IsTup s.heap t vs.toArray)(hb:IsTup s.heap b ws.toArray)(hv:vs≠[])
 (h1:ws=[]→Q (.ref t) s) (h2:ws≠[]→Q (.ref s.heap.objs.size) { s with heap:=s.heap.push { cls:=.type "tuple",data:=.seq (vs++ws).toArray } })
 (hsz:vs.length+ws.length≤sizeLine):wpAny (model prog w) A (binaryOp .Add (.ref t) (.ref b)) Q E s:=by
 obtain⟨⟨cls,dd,data,sl⟩,ho,hc,n,hd⟩:=id ht
 obtain⟨⟨cls2,dd2,data2,sl2⟩,ho2,hc2,n2,hd2⟩:=id hb
 simp only at hc hd hc2 hd2
 subst hc hd hc2 hd2
 have e:vs.toArray++ws.toArray=(vs++ws).toArray:=by simp
 by_cases hw:ws=[]
 ·exact concat_meets ⟨_,ho,rfl⟩ ⟨_,ho2,rfl⟩ noFill_tuple_add seq_tuple_add PySem.F.slot_tuple_add PySem.F.entry_tuple_add (PySem.F.args_tuple_add_2 _ _)
   (tuple_addW1 t b vs.toArray ws.toArray n n2 dd dd2 sl sl2 (by simpa using hv) (by simp[hw])) ⟨ho,ho2,h1 hw⟩
 ·refine concat_meets ⟨_,ho,rfl⟩ ⟨_,ho2,rfl⟩ noFill_tuple_add seq_tuple_add PySem.F.slot_tuple_add PySem.F.entry_tuple_add (PySem.F.args_tuple_add_2 _ _)
   (tuple_addW2 t b vs.toArray ws.toArray n n2 dd dd2 sl sl2 (by simpa using hv) (by simpa using hw) (by rw[size_toArray,size_toArray];exact hsz)) ⟨ho,ho2,?_⟩
  rw[e]
  exact h2 hw
def sIx(n d:Nat):Option Int→Nat
 | none=>d
 | some v=>if v<0 then(v+(n:Int)).toNat else min v.toNat n
theorem sIx_none(n d:Nat):sIx n d none=d:=rfl
theorem sIx_nat(n d k:Nat):sIx n d (some (k:Int))=min k n:=by
 show(if(k:Int)<0 then((k:Int)+(n:Int)).toNat else min (k:Int).toNat n)=min k n
 rw[if_neg (by omega),Int.toNat_natCast]
end
end HT
namespace L2
open PySem PySem.Spec PyProof.Rows
abbrev TO:=St→Hp→(Option Int→Hp→Prop)→Prop
def PO(X:Cx)(e:Option Expr)(t:TO):Prop :=
 ∀(pins:List (Addr×Obj)) (s:Shared) (σ:St) (H:Hp) (Q:Option Int→Hp→Prop),Inv X pins σ H s→t σ H Q →
  wpAny (model X.prog X.w) X.A (evalPart e X.env) (fun u s'=>∃o H',Inv X pins σ H' s'∧IsPart u o∧Q o H') X.xe s
def tNoPart:TO:=fun _ H Q=>Q none H
def tPart(t:TE):TO:=fun σ H Q=>t σ H fun x H1=>∃i,x=.int i∧Q (some i) H1
theorem zaE{ns:List Int}:∀{us:List Value},Vals (ns.map V.int) us→IntsAre us ns:=by
 induction ns with
 | nil=>intro us r;rw[map_nil] at r;cases r;exact .nil
 | cons n ns ih =>
   intro us r
   rw[map_cons] at r
   cases r with
   | cons r1 r2 =>
     obtain⟨t,e⟩:=r1
     subst e
     exact .cons n t (ih r2)
section
variable {X:Cx}{e:Expr}{te:TE}{lo hi:Option Expr}{tl th:TO}{pos p2:Pos}
theorem zcN:PO X none tNoPart:=by
 intro pins s σ H Q I h
 rw[evalPart_none]
 exact wpAny_pure ⟨none,H,I,.none,h⟩
theorem zby(h:PE X e te):PO X (some e) (tPart te):=by
 intro pins s σ H Q I hw
 rw[evalPart_some]
 refine thn (h pins s σ H _ I hw) fun u s1 ⟨x,H1,I1,r1,q1⟩=>?_
 obtain⟨i,rfl,q⟩:=q1
 obtain⟨t,rfl⟩:=r1
 exact⟨some i,H1,I1,.int i t,q⟩
def SlR(X:Cx)(r:V→Option Int→Option Int→Hp→VK→Prop):Prop :=
 ∀(pins:List (Addr×Obj)) (s:Shared) (σ:St) (H:Hp) (x:V) (v vl vu:Value) (lo hi:Option Int) (sl:Addr) (Q:VK),Inv X pins σ H s→RelV x v→s.heap.IsSliceOf sl vl vu .none→IsPart vl lo→IsPart vu hi→r x lo hi H Q →
  ∃T id,typeLookup (.type T) "__getitem__"=pure (some (.builtin id))∧s.TypeIs v T∧wpAny (model X.prog X.w) X.A (getItem v (.ref sl)) (EP X pins σ Q) X.xe s
def tSl(r:V→Option Int→Option Int→Hp→VK→Prop)(te:TE)(tl th:TO):TE:=fun σ H Q=>te σ H fun x H1=>tl σ H1 fun l H2=>th σ H2 fun u H3=>r x l u H3 Q
theorem zbf{r:V→Option Int→Option Int→Hp→VK→Prop}(hr:SlR X r)(he:PE X e te)(hl:PO X lo tl)(hu:PO X hi th):PE X (.Subscript e (.Slice lo hi none p2) pos) (tSl r te tl th):=by
 intro pins s σ H Q I h
 refine Subscript_ (thn (he pins s σ H _ I h) fun v s1 ⟨x,H1,I1,r1,q1⟩=>?_)
 refine wpAny_Slice (thn (hl pins s1 σ H1 _ I1 q1) fun vl s2 ⟨l,H2,I2,pl,q2⟩=>thn (hu pins s2 σ H2 _ I2 q2) fun vu s3 ⟨u,H3,I3,pu,q3⟩=>?_)
 rw[evalPart_none]
 refine wpAny_pure ?_
 have I4:Inv X pins σ H3 { s3 with heap:=s3.heap.push { cls:=.type "slice",data:=.fields #[vl,vu,.none] } }:=I3.kept (t':=s3.toks) fun b ob q=>get?_push_of_some _ q
 obtain⟨T,id,hT,ht,hg⟩:=hr pins { s3 with heap:=s3.heap.push { cls:=.type "slice",data:=.fields #[vl,vu,.none] } } σ H3 x v vl vu l u s3.heap.objs.size Q I4 r1 (Heap.IsSliceOf.new ..) pl pu q3
 show wpAny (model X.prog X.w) X.A (subscriptTail e (.Slice lo hi none p2) v (.ref s3.heap.objs.size)) (EP X pins σ Q) X.xe { s3 with heap:=s3.heap.push { cls:=.type "slice",data:=.fields #[vl,vu,.none] } }
 exact tail_any (ops:=[.ref s3.heap.objs.size,v]) ht hT hg (by with_unfolding_all rfl)
def zcH(xs:List V)(lo hi:Option Int):List V:=(xs.drop (HT.sIx xs.length 0 lo)).take (HT.sIx xs.length xs.length hi-HT.sIx xs.length 0 lo)
theorem zhO(xs:List V)(lo hi:Option Int):(zcH xs lo hi).length≤xs.length:=by
 unfold zcH
 rw[length_take,length_drop]
 omega
def rCatT(K:Frag):R2:=fun x y H Q=>∃a b xs ys,x=.ref a∧y=.ref b∧SqT K H a xs∧SqT K H b ys∧xs≠[]∧xs.length+ys.length≤sizeLine ∧
 (ys=[]→Q (.ref a) H)∧(ys≠[]→∀p,H p=none→Q (.ref p) (upd H p (.tup (xs++ys))))
theorem Vals.nil_iff{xs:List V}{us:List Value}(r:Vals xs us):us=[]↔xs=[]:=by
 cases r with
 | nil=>simp
 | cons _ _=>simp
theorem op_catT:OpR X (binaryOp .Add) (rCatT X.K):=by
 intro pins s σ H x y v u Q I rx ry h
 obtain⟨a,b,xs,ys,rfl,rfl,ha,hb,hx,hz,q1,q2⟩:=h
 cases rx
 cases ry
 obtain⟨its,r1,p1,_⟩:=I.tuple ha
 obtain⟨its2,r2,p2,_⟩:=I.tuple hb
 refine HT.cat_tup p1 p2 (fun z=>hx (r1.nil_iff.mp z)) (fun z=>⟨.ref a,H,I,rfl,q1 (r2.nil_iff.mp z)⟩) (fun z=>?_) (by rw[←r1.length,←r2.length];exact hz)
 refine⟨.ref s.heap.objs.size,_,I.laid (t':=s.toks) (o:=.tup (xs++ys)) (fun b ob q=>get?_push_of_some _ q) (le_refl _) ?_,rfl,q2 (fun w=>z (r2.nil_iff.mpr w)) _ (I.hok.fresh (le_refl _))⟩
 exact⟨by rw[length_append];exact hz,_,r1.append r2,IsTup.new _ _⟩
end
def ixN(n:Nat)(i:Int):Option Nat:=if 0≤i then(if i<n then some i.toNat else none)else if -(n:Int)≤i then some (i+n).toNat else none
def atI{α:Type}(xs:List α)(i:Int):Option α:=(ixN xs.length i).bind fun j=>xs[j]?
theorem ixN_seq{n:Nat}{i:Int}{j:Nat}(h:ixN n i=some j):seqIndex? i n=some j∧j<n ∧ -(n:Int)≤i∧i<n:=by
 unfold ixN at h
 by_cases h0:0≤i
 ·rw[if_pos h0] at h
  by_cases h1:i<n
  ·rw[if_pos h1] at h
   have e:i.toNat=j:=Option.some.inj h
   exact⟨by rw[seqIndex_of h0 h1,e],by omega,by omega,h1⟩
  ·rw[if_neg h1] at h;cases h
 ·rw[if_neg h0] at h
  by_cases h1 : -(n:Int)≤i
  ·rw[if_pos h1] at h
   have e:(i+n).toNat=j:=Option.some.inj h
   exact⟨by rw[seqIndex_neg (by omega) h1,e],by omega,h1,by omega⟩
  ·rw[if_neg h1] at h;cases h
theorem zhg{α:Type}{xs:List α}{i:Int}{v:α}(h:atI xs i=some v):∃j,seqIndex? i xs.length=some j∧xs[j]? = some v∧j<xs.length ∧ -(xs.length:Int)≤i∧i<xs.length:=by
 unfold atI at h
 cases e:ixN xs.length i with
 | none=>rw[e] at h;cases h
 | some j =>
   rw[e] at h
   obtain⟨h1,h2,h3,h4⟩:=ixN_seq e
   exact⟨j,h1,h,h2,h3,h4⟩
theorem we{α:Type}{xs:List α}{j:Nat}{v:α}(h:xs[j]? = some v):atI xs (j:Int)=some v:=by
 have hj:j<xs.length:=(List.getElem?_eq_some_iff.mp h).1
 have e:ixN xs.length (j:Int)=some j:=by
  unfold ixN
  rw[if_pos (by omega),if_pos (by omega)];simp
 unfold atI;rw[e];exact h
theorem atI_last{α:Type}(xs:List α)(v:α):atI (xs++[v]) (-1)=some v:=by
 have hl:(xs++[v]).length=xs.length+1:=by simp
 have e:ixN (xs++[v]).length (-1)=some xs.length:=by
  unfold ixN
  rw[hl,if_neg (by decide),if_pos (by omega)]
  congr 1
  omega
 unfold atI
 rw[e]
 show(xs++[v])[xs.length]? = some v
 simp
def PlainIx(b:Expr):Prop:=∀o i,subscripted b false o i=operate [o,i] (getItem o i)
def IxR(X:Cx)(r:R2):Prop :=
 ∀(value slice:Expr)(pins:List (Addr×Obj)) (s:Shared) (σ:St) (H:Hp) (x y:V) (v u:Value) (Q:VK),Inv X pins σ H s→RelV x v→RelV y u→r x y H Q →
  subscripted slice false v u=operate [v,u] (getItem v u)→wpAny (model X.prog X.w) X.A (subscriptTail value slice v u) (EP X pins σ Q) X.xe s
def MtR(X:Cx)(id:String)(r:V→List V→Hp→VK→Prop):Prop :=
 ∀(pins:List (Addr×Obj)) (s:Shared) (σ:St) (H:Hp) (x:V) (xs:List V) (v:Value) (us:List Value) (Q:VK),Inv X pins σ H s→RelV x v→Vals xs us→r x xs H Q →
  wpAny (model X.prog X.w) X.A (call (.builtin id) (v::us)) (EP X pins σ Q) X.xe s
section
variable {X:Cx}{a b:Expr}{ta tb:TE}{pos:Pos}
theorem zI{r:R2}(hr:IxR X r)(ha:PE X a ta)(hb:PE X b tb)(hs:PlainIx b):PE X (.Subscript a b pos) (tOp r ta tb):=by
 intro pins s σ H Q I h
 exact Subscript_ (binT ha hb I h fun v u s2 x y H2 I2 rx ry q=>hr a b pins s2 σ H2 x y v u Q I2 rx ry q (hs _ _))
def rIxL(K:Frag):R2:=fun x y H Q=>∃p xs i v,x=.ref p∧y=.int i∧SqL K H p xs∧atI xs i=some v∧Q v H
def rIxT(K:Frag):R2:=fun x y H Q=>∃p xs i v,x=.ref p∧y=.int i∧SqT K H p xs∧atI xs i=some v∧Q v H
def rIxS:R2:=fun x y H Q=>∃z i c,x=.str z∧y=.int i∧z.length≤sizeLine∧atI z.cps.toList i=some c∧Q (.str ⟨#[c]⟩) H
theorem zz:IxR X (rIxL X.K):=by
 intro value slice pins s σ H x y v u Q I rx ry h hs
 obtain⟨p,xs,i,z,rfl,rfl,hq,he,q⟩:=h
 cases rx
 obtain⟨t,rfl⟩:=ry
 obtain⟨its,r,pl,hz⟩:=I.list hq
 obtain⟨j,h1,h2,h3,h4,h5⟩:=zhg he
 obtain⟨w,ew,rw'⟩:=r.get h2
 have hl:=r.length
 have hn:=zc8
 have fin:EP X pins σ Q w s:=⟨z,H,I,rw',q⟩
 by_cases h0:0≤i
 ·have hj:i.toNat=j:=by
   rw[seqIndex_of h0 h5] at h1
   exact Option.some.inj h1
  exact item_listR pl.isList h0 (by omega) (by rw[hj];simpa using ew) fin hs
 ·have hj:(i+(its.toArray.size:Int)).toNat=j:=by
   rw[seqIndex_neg (by omega) h4] at h1
   rw[size_toArray,←hl]
   exact Option.some.inj h1
  exact subscriptTail_builtinR (x:=w) pl.isList.typeIs slot_list_getitem.lookup
   (wpAny_getItem_list_neg (Q:=fun r s'=>r=w∧EP X pins σ Q r s') pl.isList (by omega) (by rw[size_toArray] <;> omega) (by omega) (by rw[hj];simpa using ew) ⟨rfl,fin⟩) hs
theorem ix_tup:IxR X (rIxT X.K):=by
 intro value slice pins s σ H x y v u Q I rx ry h hs
 obtain⟨p,xs,i,z,rfl,rfl,hq,he,q⟩:=h
 cases rx
 obtain⟨t,rfl⟩:=ry
 obtain⟨its,r,pl,hz⟩:=I.tuple hq
 obtain⟨j,h1,h2,h3,h4,h5⟩:=zhg he
 obtain⟨w,ew,rw'⟩:=r.get h2
 have hl:=r.length
 have hn:=zc8
 have fin:EP X pins σ Q w s:=⟨z,H,I,rw',q⟩
 exact subscriptTail_builtinR (x:=w) pl.typeIs slot_tuple_getitem.lookup
  (getItem_tuple (j:=j) (Q:=fun r s'=>r=w∧EP X pins σ Q r s') pl (by omega) (by omega) (by rw[size_toArray,←hl];exact h1) (by simpa using ew) ⟨rfl,fin⟩) hs
theorem zgV:IxR X rIxS:=by
 intro value slice pins s σ H x y v u Q I rx ry h hs
 obtain⟨z,i,c,rfl,rfl,hz,he,q⟩:=h
 obtain⟨t,rfl⟩:=rx
 obtain⟨t',rfl⟩:=ry
 obtain⟨j,h1,h2,h3,h4,h5⟩:=zhg he
 have hl:z.cps.toList.length=z.length:=by simp[Str.length]
 rw[hl] at h1 h4 h5
 have hn:=zc8
 exact tail_any (typeIs_str s z t) slot_str_getitem.lookup (getItem_str (c:=c) (by
  have e1:decide (i < -(2 ^ 63:Int))=false:=decide_eq_false (by omega)
  have e2:decide (i ≥ 2 ^ 63)=false:=decide_eq_false (by omega)
  rw[e1,e2,Bool.or_false]) (by rw[h1];simpa using h2) ⟨.str ⟨#[c]⟩,H,I.tok _,⟨_,rfl⟩,q⟩) hs
theorem mapSeq_set(its:List Value)(n j:Nat)(u:Value):Obj.mapSeq (·.setIfInBounds j u) { cls:=.type "list",data:=.seq its.toArray n }={ cls:=.type "list",data:=.seq (its.set j u).toArray n }:=by
 simp[Obj.mapSeq]
theorem Inv.lst{pins:List (Addr×Obj)}{σ:St}{H:Hp}{s:Shared}{p:Addr}{xs:List V}(I:Inv X pins σ H s)(h:H p=some (.lst xs)):
 ∃(its:List Value)(n:Nat),Vals xs its∧s.heap.get? p=some { cls:=.type "list",data:=.seq its.toArray n }∧xs.length≤sizeLine:=by
 obtain⟨z,its,n,r,e⟩:=I.hok p _ h
 exact⟨its,n,r,e,z⟩
theorem Inv.lstUpd{pins:List (Addr×Obj)}{σ:St}{H:Hp}{s:Shared}{p:Addr}{xs ys:List V}{its its':List Value}{n n':Nat}{f:Obj→Obj}(I:Inv X pins σ H s)(h:H p=some (.lst xs))
 (ho:s.heap.get? p=some { cls:=.type "list",data:=.seq its.toArray n }) (hf:f { cls:=.type "list",data:=.seq its.toArray n }={ cls:=.type "list",data:=.seq its'.toArray n' }) (r:Vals ys its') (hz:ys.length≤sizeLine) (t:Nat) :
 Inv X pins σ (upd H p (.lst ys)) { s with heap:=s.heap.update p f,toks:=t }:=by
 have e:(s.heap.update p f).get? p=some { cls:=.type "list",data:=.seq its'.toArray n' }:=by
  rw[Heap.get?_update_self f ho (by rw[hf] <;> rfl),hf]
 refine I.write (x:=p) (e:=p) (by rw[h];trivial) (.inl rfl) (fun b u hb q=>(get?_update_other _ _ (Ne.symm hb)).trans q) ⟨_,e⟩ ?_
 exact⟨hz,its',n',r,e⟩
def rSetL:V→V→V→Hp→(Hp→Prop)→Prop:=fun o i v H Q=>∃p xs k j,o=.ref p∧i=.int k∧H p=some (.lst xs)∧ixN xs.length k=some j∧Q (upd H p (.lst (xs.set j v)))
theorem zct:PSet X rSetL:=by
 intro pins s σ H o i v ov iv u Q I ro ri rv h
 obtain⟨p,xs,k,j,rfl,rfl,hp,hj,q⟩:=h
 cases ro
 obtain⟨t,rfl⟩:=ri
 obtain⟨its,n,r,ho,hz⟩:=I.lst hp
 obtain⟨h1,h2,h3,h4⟩:=ixN_seq hj
 have hl:=r.length
 have hn:=zc8
 have I':Inv X pins σ (upd H p (.lst (xs.set j v))) { s with heap:=s.heap.update p (Obj.mapSeq (·.setIfInBounds j u)) } :=
  I.lstUpd hp ho (mapSeq_set its n j u) (r.set rv j) (by rw[List.length_set];exact hz) s.toks
 by_cases h0:0≤k
 ·have hk:k.toNat=j:=by
   rw[seqIndex_of h0 h4] at h1
   exact Option.some.inj h1
  exact PySem.W.ki_setAt ho h0 (by omega) (by rw[size_toArray,←hl];exact h4) (by rw[hk];exact⟨_,I',q⟩)
 ·have hk:(k+(its.toArray.size:Int)).toNat=j:=by
   rw[seqIndex_neg (by omega) h3] at h1
   rw[size_toArray,←hl]
   exact Option.some.inj h1
  exact PySem.W.ki_setBack ho (by omega) (by rw[size_toArray,←hl];exact h3) (by omega) (by rw[hk];exact⟨_,I',q⟩)
theorem zg1(lo hi:Option Int)(n:Nat):(sliceBounds lo hi none n).1=((HT.sIx n 0 lo:Nat):Int)∧(sliceBounds lo hi none n).2.1=((HT.sIx n n hi:Nat):Int)∧(sliceBounds lo hi none n).2.2=1:=by
 refine⟨?_,?_,rfl⟩
 ·cases lo with
  | none=>simp[sliceBounds,HT.sIx]
  | some i =>
    simp only[sliceBounds,HT.sIx,Option.getD_none,show(1:Int) > 0 by decide,if_true]
    by_cases h:i<0
    ·simp only[h,if_true] <;> omega
    ·simp only[h,if_false] <;> omega
 ·cases hi with
  | none=>simp[sliceBounds,HT.sIx]
  | some i =>
    simp only[sliceBounds,HT.sIx,Option.getD_none,show(1:Int) > 0 by decide,if_true]
    by_cases h:i<0
    ·simp only[h,if_true] <;> omega
    ·simp only[h,if_false] <;> omega
theorem zfV(its:List Value)(lo hi:Option Int):slicePick its.toArray lo hi none=((its.drop (HT.sIx its.length 0 lo)).take (HT.sIx its.length its.length hi-HT.sIx its.length 0 lo)).toArray:=by
 obtain⟨h1,h2,h3⟩:=zg1 lo hi its.toArray.size
 unfold slicePick
 rw[h1,h2,h3]
 simp only[sliceRange_one,pick_run,size_toArray] <;> rfl
def rSlL(K:Frag):V→Option Int→Option Int→Hp→VK→Prop:=fun x lo hi H Q=>∃a xs,x=.ref a∧SqL K H a xs∧∀p,H p=none→Q (.ref p) (upd H p (.lst (zcH xs lo hi)))
theorem zcW:SlR X (rSlL X.K):=by
 intro pins s σ H x v vl vu lo hi sl Q I rx hs pl pu h
 obtain⟨a,xs,rfl,hx,q⟩:=h
 cases rx
 obtain⟨its,r,ht,hz⟩:=I.list hx
 have hlen:=r.length
 refine⟨"list",_,slot_list_getitem.lookup,ht.isList.typeIs,?_⟩
 refine wpAny_getItem_list_slice ht.isList hs pl pu .none (by simp) ?_ (by rw[size_toArray] <;> omega)
 rw[zfV,←hlen]
 refine⟨.ref s.heap.objs.size,_,I.laid (t':=s.toks) (o:=.lst (zcH xs lo hi)) (fun b ob q=>get?_push_of_some _ q) (le_refl _) ?_,rfl,q _ (I.hok.fresh (le_refl _))⟩
 exact⟨le_trans (zhO xs lo hi) hz,_,0,(r.drop (HT.sIx xs.length 0 lo)).take (HT.sIx xs.length xs.length hi-HT.sIx xs.length 0 lo),get?_push_size _ rfl⟩
def wt:V→Bool
 | .non=>true
 | .bl _=>true
 | .int _=>true
 | .str _=>true
 | _=>false
def eqV:V→V→Bool
 | .non,.non=>true
 | .bl a,.bl b=>a==b
 | .bl a,.int b=>(if a then 1 else 0)==b
 | .int a,.bl b=>a==(if b then 1 else 0)
 | .int a,.int b=>a==b
 | .str a,.str b=>a==b
 | _,_=>false
theorem eqAt_V{A:Around}{s:Shared}{y x:V}{u v:Value}(ry:RelV y u)(rx:RelV x v)(fy:wt y=true)(fx:wt x=true):SeqAt.EqAt A s u v (eqV y x):=by
 cases y with
 | non =>
   cases ry
   cases x with
   | non=>cases rx;exact SeqAt.EqAt.same _
   | bl b=>cases rx;exact SeqAt.EqAt.none_bool b
   | int b=>obtain⟨t,rfl⟩:=rx;exact SeqAt.EqAt.none_int b t
   | str b=>obtain⟨t,rfl⟩:=rx;exact SeqAt.EqAt.none_str b t
   | _=>exact absurd (show false=true from fx) Bool.false_ne_true
 | bl a =>
   cases ry
   cases x with
   | non=>cases rx;exact SeqAt.EqAt.bool_none a
   | bl b=>cases rx;exact SeqAt.EqAt.bool_bool a b
   | int b=>obtain⟨t,rfl⟩:=rx;exact SeqAt.EqAt.bool_int a b t
   | str b=>obtain⟨t,rfl⟩:=rx;exact SeqAt.EqAt.bool_str a b t
   | _=>exact absurd (show false=true from fx) Bool.false_ne_true
 | int a =>
   obtain⟨t',rfl⟩:=ry
   cases x with
   | non=>cases rx;exact SeqAt.EqAt.int_none a t'
   | bl b=>cases rx;exact SeqAt.EqAt.int_bool a t' b
   | int b=>obtain⟨t,rfl⟩:=rx;exact SeqAt.EqAt.int_int a t' b t
   | str b=>obtain⟨t,rfl⟩:=rx;exact SeqAt.EqAt.int_str a t' b t
   | _=>exact absurd (show false=true from fx) Bool.false_ne_true
 | str a =>
   obtain⟨t',rfl⟩:=ry
   cases x with
   | non=>cases rx;exact SeqAt.EqAt.str_none a t'
   | bl b=>cases rx;exact SeqAt.EqAt.str_bool a t' b
   | int b=>obtain⟨t,rfl⟩:=rx;exact SeqAt.EqAt.str_int a t' b t
   | str b=>obtain⟨t,rfl⟩:=rx;exact SeqAt.EqAt.str_str a t' b t
   | _=>exact absurd (show false=true from fx) Bool.false_ne_true
 | _=>exact absurd (show false=true from fy) Bool.false_ne_true
def eqU(x:V)(u:Value):Bool:=match u with
 | .none=>eqV .non x
 | .bool b=>eqV (.bl b) x
 | .int i _=>eqV (.int i) x
 | .str z _=>eqV (.str z) x
 | _=>false
theorem zgW{x y:V}{u:Value}(r:RelV y u)(f:wt y=true):eqU x u=eqV y x:=by
 cases y with
 | non=>cases r;rfl
 | bl b=>cases r;rfl
 | int i=>obtain⟨t,rfl⟩:=r;rfl
 | str z=>obtain⟨t,rfl⟩:=r;rfl
 | _=>exact absurd (show false=true from f) Bool.false_ne_true
theorem zdw{x:V}:∀{xs:List V}{us:List Value},Vals xs us→xs.all wt=true→us.any (eqU x)=xs.any fun y=>eqV y x
 | _,_,.nil,_=>rfl
 | y::xs,u::us,.cons r t,f=>by
   rw[all_cons,Bool.and_eq_true] at f
   rw[any_cons,any_cons,zgW r f.1,zdw t f.2]
theorem zbt{A:Around}{s:Shared}{x:V}{v:Value}(rx:RelV x v)(fx:wt x=true):∀{xs:List V}{us:List Value},Vals xs us→xs.all wt=true→∀u∈us,SeqAt.EqAt A s u v (eqU x u)
 | _,_,.nil,_=>fun u hu=>by cases hu
 | y::xs,u::us,.cons r t,f=>fun u' hu=>by
   rw[all_cons,Bool.and_eq_true] at f
   rcases List.mem_cons.mp hu with rfl | hu
   ·rw[zgW r f.1];exact eqAt_V r rx f.1 fx
   ·exact zbt rx fx t f.2 u' hu
def inV(x:V)(xs:List V):Bool:=xs.any fun y=>eqV y x
def rIn(K:Frag)(neg:Bool):R2:=fun x y H Q=>∃p xs,y=.ref p∧(SqL K H p xs∨SqT K H p xs)∧wt x=true∧xs.all wt=true∧Q (.bl (if neg then !inV x xs else inV x xs)) H
theorem zdY:OpR X (compareOp .In) (rIn X.K false):=by
 intro pins s σ H x y v u Q I rx ry h
 obtain⟨p,xs,rfl,hq,fx,fs,q⟩:=h
 cases ry
 rcases hq with hq | hq
 ·obtain⟨its,r,pl,hz⟩:=I.list hq
  refine SeqAt.in_listAt (eqU x) pl.isList (fun w hw=>zbt rx fx r fs w (by simpa using hw)) ⟨.bl _,H,I,rfl,?_⟩
  rw[show its.toArray.any (eqU x)=its.any (eqU x)by simp,zdw r fs]
  exact q
 ·obtain⟨its,r,pl,hz⟩:=I.tuple hq
  refine SeqAt.in_tupleAt (eqU x) pl (fun w hw=>zbt rx fx r fs w (by simpa using hw)) ⟨.bl _,H,I,rfl,?_⟩
  rw[show its.toArray.any (eqU x)=its.any (eqU x)by simp,zdw r fs]
  exact q
theorem zal:OpR X (compareOp .NotIn) (rIn X.K true):=by
 intro pins s σ H x y v u Q I rx ry h
 obtain⟨p,xs,rfl,hq,fx,fs,q⟩:=h
 cases ry
 rcases hq with hq | hq
 ·obtain⟨its,r,pl,hz⟩:=I.list hq
  refine SeqAt.notIn_listAt (eqU x) pl.isList (fun w hw=>zbt rx fx r fs w (by simpa using hw)) ⟨.bl _,H,I,rfl,?_⟩
  rw[show its.toArray.any (eqU x)=its.any (eqU x)by simp,zdw r fs]
  exact q
 ·obtain⟨its,r,pl,hz⟩:=I.tuple hq
  refine SeqAt.notIn_tupleAt (eqU x) pl (fun w hw=>zbt rx fx r fs w (by simpa using hw)) ⟨.bl _,H,I,rfl,?_⟩
  rw[show its.toArray.any (eqU x)=its.any (eqU x)by simp,zdw r fs]
  exact q
theorem zo:wp X (.builtin "len") (fun xs H Q=>∃p ys,xs=[.ref p]∧(SqL X.K H p ys∨SqT X.K H p ys)∧Q (.int ys.length) H):=by
 intro pins s σ H xs us Q I r h
 obtain⟨p,ys,rfl,hq,q⟩:=h
 obtain⟨u,rfl,rx⟩:=zgE r
 cases rx
 have hn:=zc8
 rcases hq with hq | hq
 ·obtain⟨its,r',pl,hz⟩:=I.list hq
  have hlen:=r'.length
  exact Calls.call_len_list pl.isList (by simp only[size_toArray] <;> omega) ⟨.int ys.length,H,I.tok _,⟨s.toks+1,by rw[size_toArray,hlen]⟩,q⟩
 ·obtain⟨its,r',pl,hz⟩:=I.tuple hq
  have hlen:=r'.length
  exact len_tuple pl (by simp only[size_toArray] <;> omega) ⟨.int ys.length,H,I.tok _,⟨s.toks+1,by rw[size_toArray,hlen]⟩,q⟩
theorem zg4:wp X (.builtin "len") (fun xs H Q=>∃z,xs=[.str z]∧z.length≤sizeLine∧Q (.int z.length) H):=by
 intro pins s σ H xs us Q I r h
 obtain⟨z,rfl,hz,q⟩:=h
 obtain⟨u,rfl,t,rfl⟩:=zgE r
 have hn:=zc8
 exact len_str (by omega) ⟨.int z.length,H,I.tok _,⟨_,rfl⟩,q⟩
theorem zS:wp X (.type "list") (fun xs H Q=>∃p ys,xs=[.ref p]∧(SqL X.K H p ys∨SqT X.K H p ys)∧∀l,H l=none→Q (.ref l) (upd H l (.lst ys))):=by
 intro pins s σ H xs us Q I r h
 obtain⟨p,ys,rfl,hq,q⟩:=h
 obtain⟨u,rfl,rx⟩:=zgE r
 cases rx
 have fin:∀(its:List Value),Vals ys its→ys.length≤sizeLine→∀(h':Heap)(c':Nat),(∀b o',s.heap.get? b=some o'→h'.get? b=some o') →
  h'.get? s.heap.objs.size=some { cls:=.type "list",dict:=none,data:=.seq its.toArray c',slots := #[] }→EP X pins σ Q (.ref s.heap.objs.size) { s with heap:=h' }:=fun its r' hz h' c' kp e =>
  ⟨.ref s.heap.objs.size,_,I.laid (t':=s.toks) kp (le_refl _) (show ObjOk X.prog X.w _ h' _ (.lst ys)from⟨hz,its,c',r',e⟩),rfl,q _ (I.hok.fresh (le_refl _))⟩
 rcases hq with hq | hq
 ·obtain⟨its,r',pl,hz⟩:=I.list hq
  have hlen:=r'.length
  obtain⟨o,ho,hc,n,hd⟩:=pl.isList
  exact call_list_seq p (.inl rfl) ho hc hd (fun h' c' kp e=>fin its r' hz h' c' kp e) (by simp only[size_toArray] <;> omega)
 ·obtain⟨its,r',pl,hz⟩:=I.tuple hq
  have hlen:=r'.length
  obtain⟨o,ho,hc,n,hd⟩:=pl
  exact call_list_seq p (.inr rfl) ho hc hd (fun h' c' kp e=>fin its r' hz h' c' kp e) (by simp only[size_toArray] <;> omega)
def tyV(K:Frag)(T:String)(x:V)(H:Hp):Prop:=match x with
 | .str _=>T= "str"
 | .int _=>T= "int"
 | .ref p=>(T= "list"∧∃xs,SqL K H p xs)∨(T= "tuple"∧∃o,K.lookup p=some o∧o.cls=.type "tuple"∧o.dict=none) ∨
    (T= "dict"∧((∃kvs,H p=some (.dK kvs))∨∃kvs,H p=some (.dT kvs)))∨(T= "set"∧∃S n,H p=some (.set S n))
 | _=>False
theorem tyV_is{pins:List (Addr×Obj)}{σ:St}{H:Hp}{s:Shared}{T:String}{x:V}{v:Value}(I:Inv X pins σ H s)(r:RelV x v)(ty:tyV X.K T x H):
 s.TypeIs v T∧∀a,v=.ref a→∃ob,s.heap.get? a=some ob∧ob.dict=none:=by
 cases x with
 | str z =>
   obtain⟨t,rfl⟩:=r
   cases (show T= "str" from ty)
   exact⟨typeIs_str s z t,fun _ e=>nomatch e⟩
 | int i =>
   obtain⟨t,rfl⟩:=r
   cases (show T= "int" from ty)
   exact⟨typeIs_int s i t,fun _ e=>nomatch e⟩
 | ref p =>
   cases r
   rcases ty with⟨rfl,xs,hq⟩|⟨rfl,o,hk,hc,hd⟩|⟨rfl,hk⟩|⟨rfl,S,n,hk⟩
   ·obtain⟨its,_,pl,_⟩:=I.list hq
    refine⟨pl.isList.typeIs,fun a e=>?_⟩
    cases e
    obtain⟨o,n,e,c,hd,_⟩:=pl
    exact⟨o,e,hd⟩
   ·refine⟨⟨o,I.kIn p o hk,hc⟩,fun a e=>?_⟩
    cases e
    exact⟨o,I.kIn _ o hk,hd⟩
   ·have z:∃o,s.heap.get? p=some o∧o.ExactDict:=by
     rcases hk with⟨kvs,hk⟩|⟨kvs,hk⟩
     ·obtain⟨_,_,_,_,o,_,_,e,ex,_⟩:=I.hok p _ hk
      exact⟨o,e,ex⟩
     ·obtain⟨_,_,_,_,o,_,_,e,ex,_⟩:=I.hok p _ hk
      exact⟨o,e,ex⟩
    obtain⟨o,e,ex⟩:=z
    refine⟨⟨o,e,ex.1⟩,fun a e2=>?_⟩
    cases e2
    exact⟨o,e,ex.2.1⟩
   ·obtain⟨o,_,_,_,e,ex,_⟩:=I.hok p _ hk
    refine⟨⟨o,e,ex.1⟩,fun a e2=>?_⟩
    cases e2
    exact⟨o,e,ex.2.1⟩
 | _=>exact False.elim ty
def tBM(K:Frag)(T:String)(r:V→List V→Hp→VK→Prop)(to:TE)(t:TA):TE:=fun σ H Q=>to σ H fun x H1=>tyV K T x H1∧t σ H1 fun xs H2=>r x xs H2 Q
variable {o e:Expr}{es:List Expr}{to:TE}{t:TA}{name:Str}{apos cpos:Pos}{T id:String}{r:V→List V→Hp→VK→Prop}
theorem za0(pa:PlainAttrs T)(slot:Slot T name id)(hty:typeOf (.builtin id)=pure (.type "method_descriptor"))(hm:MtR X id r)(ho:PE X o to)(ha:PA X (e::es) t)
 (hbase:attributeBase o name X.env (eval o X.env)=eval o X.env:=by rfl)
 (hfew:((backTo cpos (starEach (e::es) X.env)).all (fun x => !x.1) && (backToKw cpos (keywordEach [] X.env)).all (fun x=>x.1.isSome)
   && decide ((e::es).length+([]:List Keyword).length+(if([]:List Keyword).isEmpty then 0 else 1)<30))=true:=by rfl)
 (hline:(apos.endLine==cpos.line)=true:=by rfl) (hs:starEach (e::es) X.env=(false,eval e X.env)::starEach es X.env:=by rfl) (hplain:(backTo cpos (starEach es X.env)).any (·.1)=false:=by rfl) :
 PE X (.Call (.Attribute o name apos) (e::es) [] cpos) (tBM X.K T r to t):=by
 intro pins s σ H Q I h
 refine wpAny_Call_method_late hbase hfew hline rfl (thn (ho pins s σ H _ I h) fun v s1 ⟨x,H1,I1,r1,ty,q1⟩=>?_)
 obtain⟨h1,h2⟩:=tyV_is I1 r1 ty
 refine⟨T,id,pa,slot,hty,h1,h2,?_⟩
 have hA:=ha cpos pins s1 σ H1 _ I1 q1
 rw[hs] at hA ⊢
 refine Calls.callWith_builtin (by show(false || (backTo cpos (starEach es X.env)).any (·.1))=false;rw[hplain] <;> rfl) (Calls.evalArgs_plain ?_)
 exact thn hA fun us s2 ⟨vs,H2,I2,r2,q2⟩=>hm pins s2 σ H2 x vs v us Q I2 r1 r2 q2
/- xs.append(e),list.index on a module's tuple .. are MtR facts of 06m -/
end
def MtM(X:Cx)(id:String)(r:V→List V→Hp→VK→Prop):Prop :=
 ∀(pins:List (Addr×Obj)) (s:Shared) (σ:St) (H:Hp) (x:V) (xs:List V) (v:Value) (us:List Value) (Q:VK),Inv X pins σ H s→RelV x v→Vals xs us→r x xs H Q →
  wpAny (model X.prog X.w) X.A (call (.builtin id) (v::us)) (EP X pins σ Q) X.xe s
theorem Vals.one:∀{x:V}{us:List Value},Vals [x] us→∃u,us=[u]∧RelV x u
 := by
 intro x us h
 cases h with
 | cons r q=>cases q;exact⟨_,rfl,r⟩
theorem Vals.two:∀{x y:V}{us:List Value},Vals [x,y] us→∃u v,us=[u,v]∧RelV x u∧RelV y v
 := by
 intro x y us h
 cases h with
 | cons r z=>cases z with
   | cons q z=>cases z;exact⟨_,_,rfl,r,q⟩
theorem Vals.eraseIdx:∀{xs:List V}{us:List Value}(i:Nat),Vals xs us→Vals (xs.eraseIdx i) (us.eraseIdx i)
 | _,_,_,.nil=>.nil
 | _,_,0,.cons _ t=>t
 | _,_,i+1,.cons r t=>.cons r (Vals.eraseIdx i t)
theorem Vals.reverse{xs:List V}{us:List Value}(h:Vals xs us):Vals xs.reverse us.reverse:=by
 induction h with
 | nil=>exact .nil
 | cons r t ih=>rw[List.reverse_cons,List.reverse_cons];exact Vals.append ih (.cons r .nil)
theorem zgl{α:Type}:∀(l:List α)(i:Nat),(l.eraseIdx i).length≤l.length
 | [],_=>le_refl _
 | _::_,0=>le_succ _
 | _::r,i+1=>Nat.succ_le_succ (zgl r i)
section
variable {X:Cx}{pins:List (Addr×Obj)}{σ:St}{H:Hp}{s:Shared}{l b:Addr}{xs ys zs:List V}
theorem Inv.lset{its its':List Value}{n:Nat}{f:Array Value→Array Value}{t':Nat}(I:Inv X pins σ H s)(hH:H l=some (.lst xs))
 (e:s.heap.get? l=some { cls:=.type "list",data:=.seq its.toArray n }) (hf:f its.toArray=its'.toArray) (hv:Vals ys its') (hz:ys.length≤sizeLine) :
 Inv X pins σ (upd H l (.lst ys)) { s with heap:=s.heap.update l (Obj.mapSeq f),toks:=t' }:=by
 have q:=PySem.IsL.update e f
 rw[hf] at q
 refine I.write (x:=l) (e:=l) (by rw[hH];exact trivial) (.inl rfl) (fun b' u hb hu=>(get?_update_other s.heap (Obj.mapSeq f) (Ne.symm hb)).trans hu) ⟨_,q⟩ ?_
 exact⟨hz,its',_,hv,q⟩
theorem Inv.lnew{its:List Value}{t':Nat}(I:Inv X pins σ H s)(hv:Vals ys its)(hz:ys.length≤sizeLine):
 Inv X pins σ (upd H s.heap.objs.size (.lst ys)) { s with heap:=s.heap.push { cls:=.type "list",data:=.seq its.toArray },toks:=t' } :=
 I.laid (fun _ _ q=>get?_push_of_some _ q) (le_refl _) ⟨hz,its,0,hv,get?_push_size _ rfl⟩
theorem Inv.fresh(I:Inv X pins σ H s):H s.heap.objs.size=none:=I.hok.fresh (le_refl _)
theorem Inv.lstM(I:Inv X pins σ H s)(hH:H l=some (.lst xs)):xs.length≤sizeLine∧∃(its:List Value)(n:Nat),Vals xs its∧xs.length=its.length∧s.heap.get? l=some { cls:=.type "list",data:=.seq its.toArray n }:=by
 obtain⟨z,its,n,r,e⟩:=I.hok l _ hH
 exact⟨z,its,n,r,r.length,e⟩
end
section
variable {X:Cx}
def rAppend:V→List V→Hp→VK→Prop:=fun x vs H Q=>∃l xs y,x=.ref l∧vs=[y]∧H l=some (.lst xs)∧xs.length<sizeLine∧Q .non (upd H l (.lst (xs++[y])))
theorem wV:MtM X "list.append" rAppend:=by
 intro pins s σ H x vs v us Q I rx rv h
 obtain⟨l,xs,y,rfl,rfl,hH,hz,q⟩:=h
 cases rx
 obtain⟨u,rfl,ru⟩:=rv.one
 obtain⟨z,its,n,r,hl,e⟩:=I.lstM hH
 refine call_meets F.slot_list_append ⟨_,e,rfl⟩ F.entry_list_append (F.args_list_append_2 _ _) (PySem.list_append l its.toArray n u (by rw[size_toArray];omega)) ⟨e,?_⟩
 refine⟨.non,_,I.lset (its':=its++[u]) hH e (by simp) (r.append (.cons ru .nil)) ?_,rfl,q⟩
 rw[length_append,length_singleton]
 omega
def rPopAt:V→List V→Hp→VK→Prop:=fun x vs H Q=>∃l xs i k y,x=.ref l∧vs=[.int i]∧H l=some (.lst xs) ∧ -(2 ^ 63)≤i∧i<2 ^ 63∧seqIndex? i xs.length=some k∧xs[k]? = some y∧Q y (upd H l (.lst (xs.eraseIdx k)))
theorem mt_popAt:MtM X "list.pop" rPopAt:=by
 intro pins s σ H x vs v us Q I rx rv h
 obtain⟨l,xs,i,k,y,rfl,rfl,hH,h1,h2,hk,hy,q⟩:=h
 cases rx
 obtain⟨u,rfl,ru⟩:=rv.one
 obtain⟨t,rfl⟩:=ru
 obtain⟨z,its,n,r,hl,e⟩:=I.lstM hH
 obtain⟨w,hw,rw'⟩:=r.get hy
 refine call_meets F.slot_list_pop ⟨_,e,rfl⟩ F.entry_list_pop (F.args_list_pop_2 _ _)
  (MeetsSeq.list_pop_at l its.toArray n i t k w (fitsIndex_both h1 h2) (by rw[size_toArray,←hl];exact hk) (by rw[←Array.getElem?_toList];exact hw) (by rw[size_toArray];omega)) ⟨e,?_⟩
 refine⟨y,_,I.lset (its':=its.eraseIdx k) hH e ?_ (r.eraseIdx k) ?_,rw',q⟩
 ·show its.toArray.eraseIdxIfInBounds k=(its.eraseIdx k).toArray
  rw[List.eraseIdxIfInBounds_toArray]
 ·have:=zgl xs k
  omega
def rCat:R2:=fun x y H Q=>∃l b xs zs,x=.ref l∧y=.ref b∧H l=some (.lst xs)∧H b=some (.lst zs)∧xs.length+zs.length≤sizeLine∧∀p,H p=none→Q (.ref p) (upd H p (.lst (xs++zs)))
theorem zjd:OpR X (binaryOp .Add) rCat:=by
 intro pins s σ H x y v u Q I rx ry h
 obtain⟨l,b,xs,zs,rfl,rfl,hH,hB,hz,q⟩:=h
 cases rx
 cases ry
 obtain⟨z,its,n,r,hl,e⟩:=I.lstM hH
 obtain⟨z2,its2,n2,r2,hl2,e2⟩:=I.lstM hB
 refine PySem.P.add_list e e2 ?_ (by rw[size_toArray,size_toArray];omega)
 have ea:its.toArray++its2.toArray=(its++its2).toArray:=by simp
 rw[ea]
 exact⟨.ref _,_,I.lnew (t':=s.toks) (r.append r2) (by rw[length_append];omega),rfl,q _ I.fresh⟩
end
section
variable {prog:Program}{w:World}{A:Around}{E:Value→Shared→Prop}{s:Shared}
end
section
variable {X:Cx}
end
end L2
namespace Att
open PySem PySem.W PySem.Calls PyProof.Rows
theorem zez{P:Params}{h:Heap}:∀(ns:List Int)(vs:List Value),WellAll P h vs (ns.map WData.int)→IntsAre vs ns:=by
 intro ns
 induction ns with
 | nil =>
   intro vs w
   rw[map_nil] at w
   cases w
   exact .nil
 | cons n ns ih =>
   intro vs w
   rw[map_cons] at w
   cases w with
   | cons a b =>
     cases a
     exact .cons _ _ (ih _ b)
theorem script_of{l:OpenLaw}{n:Nat}(hn:l.most=some n){P:Params}{h:Heap}{args:List WData}{vals:List Value}
 (hpre:l.row.toRowW.claim.pre args=true) (hwl:WellAll P h vals args) :
 ∃a vs ns,vals=[Value.ref a]∧args=[WData.list (ns.map WData.int)]∧h.get? a=some { cls:=.type "list",data:=.seq vs.toArray }∧IntsAre vs ns∧ns.length≤n:=by
 have hsh:WShape.hasAll [] args [.list .int]=true:=(pre_splitW hpre).1
 have hc:l.pre.holds [] { args:=args }=true:=(pre_splitW hpre).2
 obtain⟨d,r,rfl,h1,h2⟩:=hasAllW_cons hsh
 obtain rfl:=hasAllW_nil h2
 obtain⟨xs,rfl,h3⟩:=hasW_list h1
 obtain⟨ns,rfl⟩:=items_int h3
 have hlen:ns.length≤n:=by
  unfold OpenLaw.pre at hc
  have h4:(WTm.not (.lt (.lit (.int (n:Int))) (.len (.arg 0)))).holds [] { args:=[.list (ns.map .int)] }=true:=by
   have h4:=(holds_andW hc).1
   rw[hn] at h4
   exact h4
  have h5:=condW_of h4 (w_not (w_lt w_lit (w_len_list (w_arg rfl))))
  rw[length_map] at h5
  refine Nat.le_of_not_lt fun q=>?_
  have q':(n:Int)<((ns.length:Nat):Int):=by omega
  first
   | (rw[decide_eq_true q'] at h5;exact absurd h5 (by decide))
   | (simp at h5;omega)
 cases hwl with
 | cons w1 w2 =>
   cases w2
   cases w1 with
   | list ho hall=>exact⟨_,_,ns,rfl,rfl,ho,zez ns _ hall,hlen⟩
theorem post_true(l:OpenLaw)(args:List WData):l.row.toRowW.claim.post args (.bool true) args=true :=
 postW_of (r:=l.row.toRowW) (X:=(true==true))
  (show WShape.has [] (.bool true) .bool=true by first | rfl | decide | simp[WShape.has,WShape.arms,WShape.armsAll])
  (show(WTm.eq .res (.lit (.bool true))).value [] { args:=args,res:=some (.bool true),after:=args }=some (.bool (true==true))from w_eq_bool (w_res rfl) w_lit) rfl
theorem attach_call{l:OpenLaw}{n:Nat}{q:Program}{loose:List Str}{XP:(Str→Option Value)→Heap→Prop}{YP:World→Heap→Prop}{d:DefRec}
 (hn:l.most=some n) (hdf:d.params.defaults=[])
 (call:∀(w:World)(s₀ s₁:Shared)(mg mb:Str→Option Value)(fa:Addr)(o:Obj)(pm cd doc:Value)(a:Addr)(vs:List Value)(ns:List Int),
   Ground q loose [] XP w s₀ mg mb s₁.heap→YP w s₁.heap →
   s₁.heap.get? fa=some o→o.data=.func (docDef d.name d.params d.body d.scope pm cd doc)→s₁.heap.CodeRec cd d.name→mg d.name=some (.ref fa) →
   s₁.heap.get? a=some { cls:=.type "list",data:=.seq vs.toArray }→IntsAre vs ns→ns.length≤n→s₁.gens = #[] →
   codeAny (model l.prog w) callerA (.call (.ref fa) ⟨[.ref a],[]⟩) (fun r s'=>r=.ok (.ret (.bool true))∧OldK s₁.heap s'.heap∧s'.os=s₁.os∧AllBare s'.gens) s₁) :
 WalkO q loose XP YP l.row.toRowW d [] (fun f vs=>PySem.call f vs):=by
 intro w s₀ s₁ mg mb G Y fa o pm cd doc dV kV ho hd hcd hD hmg hg args vals as hpre hlay hrd hwl hlo
 obtain rfl:dV=.none:=Dflts.none hD hdf
 obtain rfl:kV=.none:=Dflts.noKw hD
 obtain⟨a,vs,ns,rfl,rfl,hobj,hints,hlen⟩:=script_of hn hpre hwl
 refine enter_call (codeAny_mono (call w s₀ s₁ mg mb fa o pm cd doc a vs ns G Y ho (fd_plain hd) hcd hmg hobj hints hlen hg) fun r s' hq=>?_)
 obtain⟨rfl,h2,h3,h4⟩:=hq
 exact⟨.inl ⟨.bool true,.bool true,[],rfl,fun _=>rfl,.bool true,post_true l _,fun _=>⟨List.Pairwise.nil,fun _ hm=>(nomatch hm)⟩⟩,h2,h3,h4⟩
section
variable {prog:Program}{w:World}{A:Around}{E:Value→Shared→Prop}{s:Shared}{K:Frag}
def ledger(h:Heap)(L d:Addr):List (Addr×Obj):=(List.range h.objs.size).filterMap fun a=>if a=L∨a=d then none else(h.get? a).map fun o=>(a,o)
end
end Att
namespace L2
open PySem PySem.Spec PyProof.Rows
theorem zgL:∀{vs:List Value}{ns:List Int},IntsAre vs ns→Vals (ns.map V.int) vs
 | _,_,.nil=>.nil
 | _,_,.cons n t h=>.cons ⟨t,rfl⟩ (zgL h)
end L2
/- THE LAST THEOREM (shape;LID,My.* are yours):
 My.Adr: a structure of the addresses that your layer names (classes,functions);My.Txt K t: a structure (Prop) of the equations over K;
 My.txt_mk:{K} {implicit addresses ..} (e1:nsIn K mainGlobals "law"=some (some (.ref f))) (e2:K.lookup f=some ⟨oc,od,.func (fnOf "law" "law" params body scope dV kV doc pm an cdv ct),sl⟩) (e3:codeIn K cdv "law"=true) .. : ∃t,My.Txt K t
(the tactic k_is has no namespace: write k_is) -/
namespace L2
open PySem PySem.Spec PyProof.Rows
def wg(s:Stmt)(j:Nat):Stmt:=match s with
 | .ClassDef _ _ _ body _ _ _ _ _ _ _=>body.getD j (.Pass ⟨0,0,0,0⟩)
 | _ => .Pass ⟨0,0,0,0⟩
def zl(s:Stmt):Arguments:=match s with
 | .FunctionDef _ a _ _ _ _ _ _ _ _=>a
 | _=>{ posonlyargs:=[],args:=[],vararg:=none,kwonlyargs:=[],kw_defaults:=[],kwarg:=none,defaults:=[] }
def zk(s:Stmt):List Stmt:=match s with
 | .FunctionDef _ _ b _ _ _ _ _ _ _=>b
 | _=>[]
def zb(s:Stmt):Scope:=match s with
 | .FunctionDef _ _ _ _ _ _ sc _ _ _=>sc
 | _=>{ kind:=.function,names:=[],isGenerator:=false,isCoroutine:=false }
abbrev CX0:CXT:=fun _ _ _ _ _ _=>False
abbrev E0:XK:=fun _ _ _=>False
theorem pass0{X:Cx}:zhi CX0 X E0:=fun _ _ _ _ _ _ _ h=>h.elim
structure Fun (K:Frag) (x qual:Str) (st:Stmt) (f:Addr) (fd:FuncData):Prop where
 ex:∃(oc:Value)(od:Option Addr)(kV doc pm:Value)(an:Option Addr)(cdv ct:Value)(osl:Array (Option Value)),
  fd=fnOf x qual (zl st) (zk st) (zb st) .none kV doc pm an cdv ct∧K.lookup f=some ⟨oc,od,.func fd,osl⟩∧codeIn K cdv qual=true
 kp:keepIn K (.ref f)=true
section
variable {P:Program}{w:World}{K:Frag}{mg:Str→Option Value}{base:Heap}
theorem Fun.ok{x qual:Str}{st:Stmt}{f:Addr}{fd:FuncData}{N ps:List Str}{k:Nat}{sp:Sp}(F:Fun K x qual st f fd)(S:FnScope N ps (zb st))(len:∀vs H Q E,sp vs H Q E→vs.length=ps.length)
 (hbody:∀(cdv:Value)(A:Around)(outer:List Env)(s:Shared)(H:Hp)(vs:List V)(Q:VK)(E:XK),Room k (A.deeper (envOfC qual (zb st) s.heap.objs.size f cdv))→sp vs H Q E →
   ∃t,PSs (zbn CX0 P w K mg base N qual (zb st) f cdv A outer s H E).nox (zk st) t∧t { nx:=fun _ H'=>Q .non H',rt:=Q } (zaY N vs) H):FnOk P w K mg base CX0 (k+1) f fd ps sp:=by
 obtain⟨oc,od,kV,doc,pm,an,cdv,ct,osl,rfl,lk,hcd⟩:=F.ex
 refine fn_of lk hcd S len fun A outer s H vs Q E hr hsp=>?_
 obtain⟨t,h,q⟩:=hbody cdv A outer s H vs Q E hr hsp
 exact⟨t,h.nox,q⟩
theorem Fun.binds{x qual:Str}{st:Stmt}{f:Addr}{fd:FuncData}{ps:List Str}(F:Fun K x qual st f fd)
 (h:∀(kV doc pm:Value)(an:Option Addr)(cdv ct:Value)(us:List Value),us.length=ps.length→bindArgs (fnOf x qual (zl st) (zk st) (zb st) .none kV doc pm an cdv ct) ⟨us,[]⟩=pure (ps.zip us)):Binds K fd ps []:=by
 obtain⟨oc,od,kV,doc,pm,an,cdv,ct,osl,rfl,lk,hcd⟩:=F.ex
 exact .all (h kV doc pm an cdv ct)
theorem zt{x qual:Str}{st:Stmt}{f:Addr}{oc:Value}{od an:Option Addr}{osl:Array (Option Value)}{kV doc pm cdv ct:Value}(l:K.lookup f=some ⟨oc,od,.func (fnOf x qual (zl st) (zk st) (zb st) .none kV doc pm an cdv ct),osl⟩)
 (c:codeIn K cdv qual=true) (k:keepIn K (.ref f)=true):Fun K x qual st f (fnOf x qual (zl st) (zk st) (zb st) .none kV doc pm an cdv ct):=⟨⟨oc,od,kV,doc,pm,an,cdv,ct,osl,rfl,l,c⟩,k⟩
end
theorem zgn{A:Around}{k:Nat}(hr:Room k A):A.units+1<cLine:=Nat.lt_of_le_of_lt (Nat.add_le_add_left (by decide:1≤64) _) hr.units
section
variable {X:Cx}
theorem pv(i:Nat){x:Str}{pos:Pos}(hN:X.N[i]? = some x:=by rfl)(hv:Vis X.env.scope x:=by first | exact Or.inl rfl | exact Or.inr (Or.inl rfl) | exact Or.inr (Or.inr rfl))(hd:(x==("__debug__":Str))=false:=by decide)
 (hcd:(x==("__classdict__":Str))=false:=by decide):PE X (.Name x pos) (tVar i):=pe_var hN hv hd hcd
end
theorem zao{A B:Prop}(h:B):if false=true then A else B:=by
 rw[if_neg Bool.false_ne_true]
 exact h
theorem zdG{A B:Prop}(h:A):if true=true then A else B:=by
 rw[if_pos rfl]
 exact h
theorem iteNS{c A B:Prop} [Decidable c](hc:c)(h:B):if(!decide c)=true then A else B:=by
 rw[decide_eq_true hc]
 exact zao h
def Same(H H':Hp):Prop:=∀b o,H b=some o→H' b=some o
theorem Same.refl(H:Hp):Same H H:=fun _ _ h=>h
theorem Same.trans{H H1 H2:Hp}(a:Same H H1)(b:Same H1 H2):Same H H2:=fun c o h=>b c o (a c o h)
theorem Same.free{H H':Hp}(e:Same H H'){l:Addr}(h:H' l=Option.none):H l=Option.none:=by
 cases q:H l with
 | none=>rfl
 | some o =>
   rw[e l o q] at h
   cases h
theorem Same.seq{K:Frag}{H H':Hp}{a:Addr}{xs:List V}(e:Same H H')(h:SqL K H a xs):SqL K H' a xs:=by
 rcases h with(h | ⟨o,h⟩) | h
 ·exact .inl (.inl (e _ _ h))
 ·exact .inl (.inr ⟨o,e _ _ h⟩)
 ·exact .inr h
theorem zcc{env:Env}:∀(l:List (Str×NameKind)) (acc:List (Str×Addr)),(∀y∈l,y.2=.free→∃c,env.cells.lookup y.1=some c)→(∀y c,acc.lookup y=some c→env.cells.lookup y=some c) →
 ∃cl,(forIn l acc fun(x:Str×NameKind) (r:List (Str×Addr))=>if(x.2==NameKind.free)=true then(do let a ←cellOf env x.1;pure (ForInStep.yield ((x.1,a)::r)))else(pure (ForInStep.yield r):Sem (ForInStep (List (Str×Addr)))))=(pure cl:Sem (List (Str×Addr))) ∧
  (∀y c,cl.lookup y=some c→env.cells.lookup y=some c)∧(∀y,((y,NameKind.free)∈l∨(acc.lookup y).isSome=true)→∃c,cl.lookup y=some c)
 | [],acc,_,ha=>⟨acc,rfl,ha,fun y h=>by
    rcases h with h | h
    ·cases h
    ·exact Option.isSome_iff_exists.mp h⟩
 | (n,k)::r,acc,h,ha=>by
   by_cases hk:k=.free
   ·subst hk
    obtain⟨c,hc⟩:=h (n,.free) mem_cons_self rfl
    obtain⟨cl,e,h1,h2⟩:=zcc r ((n,c)::acc) (fun y hy=>h y (mem_cons_of_mem _ hy)) (fun y d hd=>by
     rw[lookup_cons] at hd
     by_cases hy:y=n
     ·subst hy;simp at hd;subst hd;exact hc
     ·rw[beq_eq_false_iff_ne.mpr hy] at hd;exact ha y d hd)
    refine⟨cl,?_,h1,fun y hy=>h2 y ?_⟩
    ·rw[forIn_cons]
     have:cellOf env n=pure c:=by unfold cellOf;rw[hc]
     simp only[this]
     exact e
    ·rcases hy with hy | hy
     ·rcases List.mem_cons.mp hy with z | z
      ·have:y=n:=by injection z
       right;simp[lookup_cons,this]
      ·exact .inl z
     ·right
      rw[lookup_cons]
      split
      ·rfl
      ·exact hy
   ·obtain⟨cl,e,h1,h2⟩:=zcc r acc (fun y hy=>h y (mem_cons_of_mem _ hy)) ha
    refine⟨cl,?_,h1,fun y hy=>h2 y ?_⟩
    ·rw[forIn_cons]
     have hb:(k==NameKind.free)=false:=by simpa using hk
     simp only[hb]
     exact e
    ·rcases hy with hy | hy
     ·rcases List.mem_cons.mp hy with z | z
      ·injection z with _ z2;exact absurd z2.symm hk
      ·exact .inl z
     ·exact .inr hy
theorem zb3{env:Env}{scope:Scope}(h:∀y∈scope.names,y.2=.free→∃c,env.cells.lookup y.1=some c):
 ∃cl,closureFor scope env=pure cl∧(∀y c,cl.lookup y=some c→env.cells.lookup y=some c)∧∀y,(y,NameKind.free)∈scope.names→∃c,cl.lookup y=some c:=by
 obtain⟨cl,e,h1,h2⟩:=zcc scope.names [] h (fun y c z=>by cases z)
 refine⟨cl,?_,h1,fun y hy=>h2 y (.inl hy)⟩
 unfold closureFor
 exact(congrArg (fun(m:Sem (List (Str×Addr)))=>m >>= fun r=>pure r) e).trans rfl
theorem zaU{f:Str×NameKind→Str×NameKind}(h1:∀p,(f p).1=p.1):∀{names:List (Str×NameKind)} {y:Str} {k:NameKind},(names.map f).lookup y=some k→∃k0,(y,k0)∈names∧(f (y,k0)).2=k
 | [],_,_,h=>by cases h
 | p::r,y,k,h=>by
   rw[map_cons] at h
   generalize hq:f p=q at h
   obtain⟨q1,q2⟩:=q
   rw[lookup_cons] at h
   have e1:q1=p.1:=by have:=h1 p;rw[hq] at this;exact this
   by_cases hy:y=q1
   ·have hb:(y==q1)=true:=by simp[hy]
    rw[hb] at h
    have h':q2=k:=Option.some.inj h
    refine⟨p.2,?_,?_⟩
    ·rw[hy,e1];exact mem_cons_self
    ·rw[hy,e1]
     have:f (p.1,p.2)=(q1,q2):=hq
     rw[this];exact h'
   ·rw[beq_eq_false_iff_ne.mpr hy] at h
    obtain⟨k0,m,e⟩:=zaU h1 (names:=r) h
    exact⟨k0,mem_cons_of_mem _ m,e⟩
theorem zah{f:Str×NameKind→Str×NameKind}(h1:∀p,(f p).1=p.1):∀{names:List (Str×NameKind)} {y:Str} {k:NameKind},names.lookup y=some k→(names.map f).lookup y=some (f (y,k)).2
 | [],_,_,h=>by cases h
 | p::r,y,k,h=>by
   rw[map_cons]
   obtain⟨p1,p2⟩:=p
   have e1:=h1 (p1,p2)
   generalize hq:f (p1,p2)=q at e1 ⊢
   obtain⟨q1,q2⟩:=q
   have e1:q1=p1:=e1
   subst e1
   rw[lookup_cons] at h ⊢
   by_cases hy:y=q1
   ·have hb:(y==q1)=true:=by simp[hy]
    rw[hb] at h ⊢
    have h':p2=k:=Option.some.inj h
    subst h'
    subst hy
    show some q2=_
    rw[hq]
   ·rw[beq_eq_false_iff_ne.mpr hy] at h ⊢
    exact zah h1 h
def rl(env:Env)(p:Str×NameKind):Str×NameKind:=if(p.2==NameKind.free && env.scope.kind == .function && env.kindOf p.1==some .cell)then(p.1,NameKind.cell)else(p.1,p.2)
theorem ze3(env:Env)(p:Str×NameKind):(rl env p).1=p.1:=by unfold rl;split <;> rfl
theorem rl_free(env:Env)(y:Str):(rl env (y,.free)).2=.cell∨(rl env (y,.free)).2=.free:=by
 unfold rl
 split
 ·exact .inl rfl
 ·exact .inr rfl
theorem zgY(env:Env)(y:Str)(k:NameKind)(h:k ≠ .free):(rl env (y,k)).2=k:=by
 unfold rl
 have hb:(k==NameKind.free)=false:=by simpa using h
 simp[hb]
theorem wO(scope:Scope)(env:Env):(relabel scope env).names=scope.names.map (rl env):=rfl
theorem zdN{env:Env}{scope:Scope}{y:Str}(hc:∀z∈scope.names,z.2 ≠ .cell)(h:(relabel scope env).names.lookup y=some .cell∨(relabel scope env).names.lookup y=some .free):(y,NameKind.free)∈scope.names:=by
 rw[wO] at h
 have go:∀k,(k=.cell∨k=.free)→(scope.names.map (rl env)).lookup y=some k→(y,NameKind.free)∈scope.names:=fun k hk q=>by
  obtain⟨k0,m,e⟩:=zaU (ze3 env) q
  by_cases hf:k0=.free
  ·rw[hf] at m;exact m
  ·rw[zgY env y k0 hf] at e
   rcases hk with z | z
   ·exact absurd (e.trans z) (hc _ m)
   ·exact absurd (e.trans z) hf
 rcases h with h | h
 ·exact go _ (.inl rfl) h
 ·exact go _ (.inr rfl) h
theorem za5{env:Env}{scope:Scope}{y:Str}(h:scope.names.lookup y=some .free):(relabel scope env).names.lookup y=some .cell∨(relabel scope env).names.lookup y=some .free:=by
 rw[wO,zah (ze3 env) h]
 rcases rl_free env y with z | z
 ·exact .inl (congrArg some z)
 ·exact .inr (congrArg some z)
def blk(X:Cx)(N:List Str)(scope:Scope)(cl:List (Str×Addr))(C:Addr)(s2:Shared)(H2:Hp)(fp:List Addr):Cx where
 prog:=X.prog
 w:=X.w
 K:=X.K
 mg:=X.mg
 base:=X.base
 A:=X.A
 N:=N
 s₀:=s2
 H₀:=H2
 env:=compEnvC scope cl C X.env
 outer:=X.stack
 stack:=X.stack
 ex:=fp
 fn:=fun _=>false
 calm:=X.calm
 pn:=[]
 xe:=fun _ _=>False
structure CompScope (sc:Scope) (N:List Str) (x:Str) (fr:List Str) (ix:List Nat) (scope:Scope):Prop where
 kind:scope.kind=.function
 nocell:∀y∈scope.names,y.2 ≠ .cell
 lcl:∀y∈scope.names,y.2=.local→scope.names.lookup y.1=some .local
 lx:scope.names.lookup x=some .local
 free:∀y∈scope.names,y.2=.free→sc.names.lookup y.1=some .cell∨sc.names.lookup y.1=some .free
 at':fr.map some=ix.map fun i=>N[i]?
 frk:∀y∈fr,scope.names.lookup y=some .free∧(sc.names.lookup y=some .cell∨sc.names.lookup y=some .free)
 nd:(x::fr).Nodup
def cap(ix:List Nat)(σ:St):St:=ix.map fun i=>(σ[i]?).join
section
variable {X:Cx}{pins:List (Addr×Obj)}{σ:St}{H:Hp}{s:Shared}{x:Str}{fr:List Str}{ix:List Nat}{scope:Scope}{cl:List (Str×Addr)}{fp:List Addr}{C D:Addr}
theorem blk_ok(S:CompScope X.env.scope X.N x fr ix scope)(I:Inv X pins σ H s)(hf:∀b∈fp,zaK X pins H b)(hfo:∀b∈fp,b<s.heap.objs.size)(hC:s.heap.objs.size≤C)
 (h1:∀y c,cl.lookup y=some c→X.env.cells.lookup y=some c) (h2:∀y,(y,NameKind.free)∈scope.names→∃c,cl.lookup y=some c):(blk X (x::fr) scope cl C s H fp).Ok where
 mod:=I.ok.mod
 kind:=S.kind
 glob:=I.ok.glob
 blt:=I.ok.blt
 above:=hC
 inj:=fun y z c a b=>I.ok.inj y z c (h1 y c a) (h1 z c b)
 has:=fun y hy=>h2 y (zdN (env:=X.env) (scope:=scope) S.nocell hy)
 cab:=fun y c h _=>Bool.noConfusion (show false=true from h)
 hd:=I.ok.hd
 frames:=I.ok.frames
 stk:=.inl rfl
 exf:=fun b hb=>⟨fun z=>absurd (hfo b hb) (by rw[z];exact Nat.not_lt.mpr hC),fun y c e=>(hf b hb).2.2.2.2.1 y c (h1 y c e)⟩
 bs:=I.bs
 bsz:=le_trans I.ok.bsz I.sz
 noex:=fun b o e hb=>by
  rcases (hf b hb).2.2.2.1 with z | z
  ·exact I.ok.noex b o e z
  ·exact absurd (lt_of_lt_of_le (lt_size e) (le_trans I.ok.bsz z)) (lt_irrefl _)
 exfs:=fun b hb z=>by
  rcases List.mem_cons.mp (I.stkSub b z)with e | e
  ·exact(hf b hb).2.1 e
  ·exact(hf b hb).2.2.1 e
 funs:=I.stack
 frf:=I.stkFree
theorem zhv:(cap ix σ).length=ix.length:=by unfold cap;rw[length_map]
theorem CompScope.len(S:CompScope X.env.scope X.N x fr ix scope):fr.length=ix.length:=by have:=congrArg List.length S.at';simpa using this
theorem blk_inv{s':Shared}{pn:List (Addr×Obj)}{m:Str→Option Value}(S:CompScope X.env.scope X.N x fr ix scope)(I:Inv X pins σ H s)(hf:∀b∈fp,zaK X pins H b)(hfo:∀b∈fp,b<s.heap.objs.size)(hC:s.heap.objs.size≤C)
 (h1:∀y c,cl.lookup y=some c→X.env.cells.lookup y=some c) (h2:∀y,(y,NameKind.free)∈scope.names→∃c,cl.lookup y=some c)
 (ho:s'.os=s.os) (hg:s'.gens=s.gens) (k:∀b o,s.heap.get? b=some o→s'.heap.get? b=some o) (hn:s'.heap.Ns C m)
 (hp:∀p∈pn,s'.heap.get? p.1=some p.2∧s.heap.objs.size≤p.1∧p.1≠C∧∀v,p.2.data ≠ .cell v) :
 Inv (blk X (x::fr) scope cl C s H fp) pn (none::cap ix σ) H s':=by
 obtain⟨mX,hnX,hlX⟩:=I.loc
 refine⟨blk_ok S I hf hfo hC h1 h2,ho,by rw[hg];exact I.bare,Un.kept k,⟨m,hn,fun i y v e1 e2 e3=>?_⟩,fun y c e=>?_,I.hok.fresh hC,fun y c e=>I.freeC y c (h1 y c e),fun p hp'=>?_,I.hok.kept k,by
  show(none::cap ix σ).length=(x::fr).length
  simp[zhv,S.len]⟩
 ·cases i with
  | zero=>cases e2
  | succ j =>
    have e1':fr[j]? = some y:=e1
    have e2':(cap ix σ)[j]? = some (some v):=e2
    obtain⟨f1,f2⟩:=S.frk y (mem_of_getElem? e1')
    unfold cap at e2'
    rw[getElem?_map] at e2'
    cases ei:ix[j]? with
    | none=>rw[ei] at e2';cases e2'
    | some i =>
      rw[ei] at e2'
      have e3':(σ[i]?).join=some v:=Option.some.inj e2'
      have e4:σ[i]? = some (some v):=by
       cases q:σ[i]? with
       | none=>rw[q] at e3';cases e3'
       | some w=>rw[q] at e3';have:w=some v:=e3';rw[this]
      have e5:X.N[i]? = some y:=by
       have:=congrArg (fun l=>l[j]?) S.at'
       simp only[getElem?_map,e1',ei] at this
       simpa using this.symm
      have vis:Vis X.env.scope y:=by
       rcases f2 with z | z
       ·exact .inr (.inl z)
       ·exact .inr (.inr z)
      obtain⟨u,r,l⟩:=hlX i y v e5 e4 vis
      refine⟨u,r,.inr ⟨za5 f1,?_⟩⟩
      rcases l with⟨z,_⟩|⟨_,c,ec,hc⟩
      ·rcases f2 with q | q
       ·have q':=(show X.env.scope.names.lookup y=some .local from z).symm.trans q;cases q'
       ·have q':=(show X.env.scope.names.lookup y=some .local from z).symm.trans q;cases q'
      ·obtain⟨c',hc'⟩:=h2 y (PySem.mem_of_lookup f1)
       have:c'=c:=by have:=h1 y c' hc';rw[ec] at this;exact(Option.some.inj this).symm
       subst this
       refine⟨c',hc',?_⟩
       obtain⟨o,ho',hd⟩:=hc
       exact⟨o,k _ _ ho',hd⟩
 ·obtain⟨v,o,ho',hd⟩:=I.cell y c (h1 y c e)
  exact⟨v,o,k _ _ ho',hd⟩
 ·have hp'':p∈pn:=by simpa [blk] using hp'
  obtain⟨q1,q2,q3,q4⟩:=hp p hp''
  refine⟨q1,I.hok.fresh q2,q3,fun z=>?_,q4⟩
  obtain⟨_,o,ho',_⟩:=I.stack.mem z
  exact absurd (lt_of_lt_of_le (lt_size ho') q2) (lt_irrefl _)
end
def PIf(X:Cx)(ifs:List Expr)(t:TT):Prop :=
 ∀(pins:List (Addr×Obj)) (s:Shared) (σ:St) (H:Hp) (Q:Bool→Hp→Prop),Inv X pins σ H s→t σ H Q →
  wpAny (model X.prog X.w) X.A (forIn ifs true fun c r=>if r=true then do let ok ←isTrue c X.env (eval c X.env);pure (ForInStep.yield ok)else pure (ForInStep.yield r)) (TP X pins σ Q) X.xe s
def tYes:TT:=fun _ H Q=>Q true H
theorem yM{X:Cx}:PIf X [] tYes:=fun _ _ _ H _ I h=>wpAny_tests_nil ⟨H,I,h⟩
theorem zb6{X:Cx}{c:Expr}{t:TT}(h:PT X c t):PIf X [c] t:=fun pins s σ H Q I q=>wpAny_tests_one (h pins s σ H Q I q)
def zcv(J:It)(c:St)(tc:TT)(te:TE)(H1:Hp)(fin:List V→Hp→Prop):Prop :=
 ∃W:Nat→Nat→List V→Hp→Prop,(∃m,W 0 m [] H1)∧∀i m ys H,W i m ys H →
  (J.stop i H∧ys.length≤sizeLine∧fin ys H) ∨
  (J.go i H∧ys.length<sizeLine∧∃N:List V→Hp→Prop,(∀ys' H',N ys' H'→∃m',m'<m∧W (i+1) m' ys' H')∧∀x H',J.yld i H x H'→tc (some x::c) H' fun b H2=>if b=true then te (some x::c) H2 fun y H3=>N (ys++[y]) H3 else N ys H2)
def tComp(ix:List Nat)(wi:TI)(tc:TT)(te:TE):TE:=fun σ H Q=>wi σ H fun J H1=>zcv J (cap ix σ) tc te H1 fun ys H2=>∀l,H2 l=none→Q (.ref l) (upd H2 l (.lst ys))
theorem zb7{prog:Program}{w:World}{A:Around}{R:Result→Shared→Prop}{s:Shared}{elt tg it0:Expr}{tests:List Expr}{scope:Scope}{pos:Pos}{it acc:Value}{env:Env}(J:Nat→Shared→Prop)
 (turn:∀n s,J n s→wpAny (model prog w) A (pyNext it) (fun r s1=>match r with
   | none=>R (.ok .next) s1
   | some v=>wpAny (model prog w) A (letOwnedTupleGo tg it v) (fun _ s2=>wpAny (model prog w) A (assign tg env v) (fun _ s3 =>
      wpAny (model prog w) A (forIn tests true fun c r=>if r=true then do let ok ←isTrue c env (eval c env);pure (ForInStep.yield ok)else pure (ForInStep.yield r)) (fun ok s4 =>
       if ok=true then wpAny (model prog w) A (eval elt env) (fun x s5 =>
        wpAny (model prog w) A (call (.builtin "list.append") [acc,x]) (fun _ s6=>∃m,m<n∧J m s6) (fun _ _=>False) s5) (fun _ _=>False) s4
       else ∃m,m<n∧J m s4) (fun _ _=>False) s3) (fun _ _=>False) s2) (fun _ _=>False) s1) (fun _ _=>False) s)
 (n:Nat) (h:J n s):codeAny (model prog w) A (.compLoop (.ListComp elt [⟨tg,it0,tests,0⟩] scope pos) 0 it acc env) R s:=by
 have up:∀{α:Type}{t:Sem α}{q q':α→Shared→Prop}{E':Value→Shared→Prop}{s:Shared},wpAny (model prog w) A t q (fun _ _=>False) s→(∀a s,q a s→q' a s)→wpAny (model prog w) A t q' E' s:=fun h k=>wpAny_mono h k fun _ _ z=>False.elim z
 refine codeAny_loop rfl J (fun n s hJ=>?_) n h
 show wpAny _ A ((compTurn (.ListComp elt [⟨tg,it0,tests,0⟩] scope pos) 0 it acc env).onRaise (fun x=>do noteFrame x env;theTreesLotGoes x)) _ _ s
 refine wpAny_noted ?_
 rw[compTurn_list]
 refine wpAny_bind (wpAny_standAt (wpAny_bind (up (turn n s hJ) fun r s1 h1=>?_)))
 cases r with
 | none=>exact wpAny_pure h1
 | some v =>
   refine wpAny_bind (up h1 fun _ s2 h2=>wpAny_bind (up h2 fun _ s3 h3=>wpAny_bind (up h3 fun ok s4 h4=>?_)))
   cases ok with
   | false=>exact wpAny_pure ⟨rfl,h4⟩
   | true =>
     exact wpAny_bind (wpAny_bind (up h4 fun x s5 h5=>wpAny_bind (up h5 fun _ s6 h6=>wpAny_pure (wpAny_pure ⟨rfl,h6⟩))))
section
variable {X:Cx}{x:Str}{fr:List Str}{ix:List Nat}{scope:Scope}{elt iter:Expr}{ifs:List Expr}{px pos:Pos}{wi:TI}{tc:TT}{te:TE}
theorem ziG{use:Option (Value→Sem Unit)}{Q:Value→Shared→Prop}{pins:List (Addr×Obj)}{s2:Shared}{σ:St}{H2:Hp}{it:Addr}{fp:List Addr}{tn:Nat→Heap→Prop}{J:It}{cl:List (Str×Addr)}(S:CompScope X.env.scope X.N x fr ix scope)(hc:X.calm=true)
 (hif:∀cl C s2 H2 fp,PIf (blk X (x::fr) scope cl C s2 H2 fp) ifs tc) (he:∀cl C s2 H2 fp,PE (blk X (x::fr) scope cl C s2 H2 fp) elt te)
 (h1:∀y c,cl.lookup y=some c→X.env.cells.lookup y=some c) (h2:∀y,(y,NameKind.free)∈scope.names→∃c,cl.lookup y=some c)
 (I2:Inv X pins σ H2 s2) (T:Turn X.prog X.w X.K (.Name x px) J fp it tn) (st2:tn 0 s2.heap) (f2:∀b∈fp,zaK X pins H2 b) {fin:List V→Hp→Prop} (wc:zcv J (cap ix σ) tc te H2 fin)
 (hQ:∀(D C:Addr)(ys:List V)(H':Hp)(s':Shared)(m:Str→Option Value),Inv X pins σ (upd H' D (.lst ys)) s'→H' D=none→s'.heap.Ns C m→D≠C→s2.heap.objs.size≤C→H' C=none→fin ys H' →
   compPost (model X.prog X.w) X.A X.xe use Q (.ref D) C (.ok .next) s') :
 wpAny (model X.prog X.w) X.A (newList []) (fun acc s₃=>wpAny (model X.prog X.w) X.A (newFunctionEnv scope X.env.globals cl [] X.env.qual none .none (some X.env)) (fun cenv s₄ =>
  codeAny (model X.prog X.w) X.A (.compStart (.ListComp elt [⟨.Name x px,iter,ifs,0⟩] scope pos) 0 (.ref it) acc { cenv with scope:=relabel scope X.env }) (compPost (model X.prog X.w) X.A X.xe use Q acc cenv.locals) s₄) X.xe s₃) X.xe s2:=by
 have hfo:∀b∈fp,b<s2.heap.objs.size:=fun b hb=>by
  obtain⟨o,e,_⟩:=T.obj 0 _ st2 b hb
  exact lt_size e
 refine wpAny_newObj_type (wpAny_newFunctionEnv S.nocell (by intro y hy;simp at hy) (fun h₁ hns₁ hsb₁=>?_) S.kind)
 dsimp only at hns₁ hsb₁ ⊢
 generalize hHp:s2.heap.push { cls:=.type "list",dict:=none,data:=.seq ([]:List Value).toArray }=Hp2 at hns₁ hsb₁ ⊢
 have hCs:Hp2.objs.size=s2.heap.objs.size+1:=by rw[←hHp,size_push]
 have hDC:s2.heap.objs.size≠Hp2.objs.size:=by rw[hCs];exact ne_of_lt (lt_succ_self _)
 have hCle:s2.heap.objs.size≤Hp2.objs.size:=by rw[hCs];exact le_succ _
 have zc0:∀b,b<s2.heap.objs.size→b≠Hp2.objs.size:=fun b hb=>by rw[hCs];exact ne_of_lt (lt_succ_of_lt hb)
 have old:∀b o,s2.heap.get? b=some o→h₁.get? b=some o:=fun b o e=>hsb₁.extBut b o (zc0 b (lt_size e)) (get?_push_of_some _ (hHp ▸ get?_push_of_some _ e))
 have hacc:h₁.get? s2.heap.objs.size=some { cls:=.type "list",data:=.seq ([]:List Value).toArray 0 }:=hsb₁.extBut _ _ hDC (get?_push_of_some _ (hHp ▸ get?_push_size _ rfl))
 have st1:tn 0 h₁:=T.keep 0 _ _ st2 fun b _ o e=>old b o e
 have fpD:∀b∈fp,b≠s2.heap.objs.size:=fun b hb=>ne_of_lt (hfo b hb)
 generalize hD:s2.heap.objs.size=D at hacc hDC fpD ⊢
 have hDle:s2.heap.objs.size≤D:=le_of_eq hD
 generalize hC:Hp2.objs.size=C at hns₁ hsb₁ hDC hCle ⊢
 have oldD:∀b o,s2.heap.get? b=some o→b≠D:=fun b o e z=>absurd (lt_size e) (by rw[z,←hD];exact lt_irrefl _)
 obtain⟨W,⟨m0,w0⟩,turn⟩:=wc
 have loop:∀s₃:Shared,s₃={ s2 with heap:=h₁,toks:=s2.toks+([]:List (Str×Value)).length } →
  codeAny (model X.prog X.w) X.A (.compLoop (.ListComp elt [⟨.Name x px,iter,ifs,0⟩] scope pos) 0 (.ref it) (.ref D) (compEnvC scope cl C X.env))
   (compPost (model X.prog X.w) X.A X.xe use Q (.ref D) C) s₃:=by
  rintro s₃ rfl
  have I0:Inv (blk X (x::fr) scope cl C s2 H2 fp) [(D,{ cls:=.type "list",data:=.seq ([]:List Value).toArray 0 })] (none::cap ix σ) H2 { s2 with heap:=h₁,toks:=s2.toks+([]:List (Str×Value)).length } :=
   blk_inv S I2 f2 hfo hCle h1 h2 rfl rfl old hns₁ (fun p hp=>by
    have e:p=(D,{ cls:=.type "list",data:=.seq ([]:List Value).toArray 0 }):=by simpa using hp
    subst e
    exact⟨hacc,hDle,hDC,fun v z=>by cases z⟩)
  have stat:∀{its:Obj}{H':Hp},(∀b∈fp,H' b=none)→∀b∈fp,zaK (blk X (x::fr) scope cl C s2 H2 fp) [(D,its)] H' b:=fun {its H'} hn b hb=>by
   refine⟨hn b hb,fun z=>?_,fun z=>(I0.ok.exfs b hb z),.inl hb,fun y c e=>(I0.ok.exf b hb).2 y c e,fun p hp z=>?_⟩
   ·exact(I0.ok.exf b hb).1 z
   ·have e:p=(D,its):=by simpa [blk] using hp
    subst e
    exact fpD b hb (Eq.symm z)
  refine zb7 (env:=compEnvC scope cl C X.env)
   (fun n s'=>∃i ys its k v0 H',Vals ys its∧Inv (blk X (x::fr) scope cl C s2 H2 fp) [(D,{ cls:=.type "list",data:=.seq its.toArray k })] (v0::cap ix σ) H' s'∧tn i s'.heap∧(∀b∈fp,H' b=none)∧W i n ys H') ?_ m0
   ⟨0,[],[],0,none,H2,.nil,I0,st1,fun b hb=>(f2 b hb).1,w0⟩
  rintro n s3 ⟨i,ys,its,k,v0,H3,rv,I3,st3,fr3,w3⟩
  rcases turn i n ys H3 w3 with⟨stop,hz,hfin⟩|⟨go,hz,N,hN,step⟩
  ·refine thn (T.done (blk X (x::fr) scope cl C s2 H2 fp) rfl rfl rfl hc i _ s3 _ H3 _ I3 (stat fr3) st3 stop) fun r s4 ⟨hr,I4⟩=>?_
   subst hr
   have pD:=I4.pin (D,{ cls:=.type "list",data:=.seq its.toArray k }) (by simp[blk])
   obtain⟨mC,hnC,_⟩:=I4.loc
   have hH3D:H3 D=none:=pD.2.1
   have hok':HOk X.prog X.w (upd H3 D (.lst ys)) s4.heap:=fun b u e=>by
    by_cases hb:b=D
    ·subst hb
     rw[zf] at e;cases e
     exact⟨hz,its,k,rv,pD.1⟩
    ·rw[zg hb] at e
     exact(I4.hok b u e).stay (fun c v _ q=>q) (fun c q=>by rw[zg (zj q hH3D)];exact q) fun c xs q=>by rw[zg (zj q hH3D)];exact q
   have b4:Un (frs X.stack) fp H2 H3 s2.heap s4.heap:=I4.base
   have un:Un (frs X.stack) fp H2 (upd H3 D (.lst ys)) s2.heap s4.heap :=
    ⟨b4.keep,b4.slot,fun b o q n hx=>by
     rw[zg (oldD b o q)];exact b4.free b o q n hx,b4.there,fun b xs q=>by rw[zg (zj (b4.tups b xs q) hH3D)];exact b4.tups b xs q,
     fun b o u q=>by rw[zg (zj (b4.frzs b o u q) hH3D)];exact b4.frzs b o u q,fun b ps q=>by
      obtain⟨more,e⟩:=b4.tbls b ps q
      exact⟨more,by rw[zg (zj e hH3D)];exact e⟩⟩
   have I5:Inv X pins σ (upd H3 D (.lst ys)) s4:=I2.call' (ch:=fp) I4.os un hok' I4.bare fun b hb=>by
    obtain⟨g0,g1,g2,g3,g4,g5⟩:=f2 b hb
    exact⟨g3,g1,g4,g5⟩
   exact hQ D C ys H3 s4 mC I5 hH3D hnC hDC hCle I4.free hfin
  ·refine thn (T.item (blk X (x::fr) scope cl C s2 H2 fp) rfl rfl rfl hc i _ s3 _ H3 _ I3 (stat fr3) st3 go) fun r s4 ⟨u,hr,h4⟩=>?_
   subst hr
   refine thn h4 fun _ s5 ⟨y,H5,I5,r5,y5,st5,fr5⟩=>?_
   have I5':=I5.pinned (stat fr5) (T.obj _ _ st5)
   have pg:PG (blk X (x::fr) scope cl C s2 H2 fp) (.Name x px) (zem 0):=yk S.nd rfl (.inl (lookup_relabel_local S.lx)) (.inr (lookup_relabel_local S.lx))
   refine thn (pg _ s5 _ H5 y u (fun σ6 H6=>σ6=some y::cap ix σ∧H6=H5) I5' r5 ⟨rfl,rfl⟩) fun _ s6 ⟨σ6,H6,I6,e6,e6'⟩=>?_
   subst e6 e6'
   refine thn (hif cl C s2 H2 fp _ s6 _ _ _ I6 (step y _ y5)) fun b s7 ⟨H7,I7,q7⟩=>?_
   have again:∀{s8:Shared}{H8:Hp}{its':List Value}{k':Nat}{ys':List V},Vals ys' its'→Inv (blk X (x::fr) scope cl C s2 H2 fp) [(D,{ cls:=.type "list",data:=.seq its'.toArray k' })] (some y::cap ix σ) H8 s8→(∀b∈fp,∀o,s5.heap.get? b=some o→s8.heap.get? b=some o)→(∀b∈fp,H8 b=none)→N ys' H8 →
    ∃m,m<n∧∃i ys its k v0 H',Vals ys its∧Inv (blk X (x::fr) scope cl C s2 H2 fp) [(D,{ cls:=.type "list",data:=.seq its.toArray k })] (v0::cap ix σ) H' s8∧tn i s8.heap∧(∀b∈fp,H' b=none)∧W i m ys H' :=
    fun {s8 H8 its' k' ys'} rv8 I8 kp fr8 nn=>let ⟨m',hm,w8⟩:=hN ys' H8 nn;⟨m',hm,i+1,ys',its',k',some y,H8,rv8,I8,T.keep _ _ _ st5 kp,fr8,w8⟩
   cases b with
   | false =>
     rw[if_neg Bool.false_ne_true] at q7 ⊢
     refine again rv I7.unpinned (fun b hb o e=>(I7.pin (b,o) (by simp[blk];exact .inr (yd hb e))).1) (fun b hb=>?_) q7
     obtain⟨o,e,d⟩:=T.obj _ _ st5 b hb
     exact(I7.pin (b,o) (by simp[blk];exact .inr (yd hb e))).2.1
   | true =>
     rw[if_pos rfl] at q7 ⊢
     refine thn (he cl C s2 H2 fp _ s7 _ _ _ I7 q7) fun v s8 ⟨z,H8,I8,r8,q8⟩=>?_
     have pD:=I8.pin (D,{ cls:=.type "list",data:=.seq its.toArray k }) (by simp[blk])
     have hvl:ys.length=its.length:=rv.length
     refine append_at (hsz:=by show its.toArray.size≤sizeLine;rw[size_toArray];omega) pD.1 fun h₉ hs₉ hD₉=>?_
     have eo:({ cls:=.type "list",data:=.seq (its.toArray.push v) (k+1) }:Obj)={ cls:=.type "list",data:=.seq (its++[v]).toArray (k+1) }:=by rw[push_toArray]
     rw[eo] at hD₉
     have pn8:∀b∈fp,∀o,s5.heap.get? b=some o→s8.heap.get? b=some o∧H8 b=none:=fun b hb o e=>by
      have q:=I8.pin (b,o) (by simp[blk];exact .inr (yd hb e))
      exact⟨q.1,q.2.1⟩
     have J8:=I8.unpinned.pins_of (pins':=[]) (fun p hp=>by cases hp)
     have f2D:zaK (blk X (x::fr) scope cl C s2 H2 fp) [] H8 D:=⟨pD.2.1,pD.2.2.1,pD.2.2.2.1,.inr hDle,fun y c e z=>by
      obtain⟨v,o,ho,_⟩:=I2.cell y c (h1 y c e)
      exact oldD c o ho z,fun p hp=>by cases hp⟩
     have I9:Inv (blk X (x::fr) scope cl C s2 H2 fp) [] (some y::cap ix σ) H8 { s8 with heap:=h₉ }:=J8.turned (t':=s8.toks) (it:=D) (fun b o hb e=>(hs₉.2 b hb).trans e) f2D.1 f2D.2.1 f2D.2.2.2.1 f2D.2.2.2.2.1 f2D.2.2.2.2.2
     refine again (its':=its++[v]) (k':=k+1) (ys':=ys++[z]) (rv.append (.cons r8 .nil)) (I9.pins_of fun p hp=>?_) (fun b hb o e=>(hs₉.2 b (fpD b hb)).trans (pn8 b hb o e).1) (fun b hb=>?_) q8
     ·have e:p=(D,{ cls:=.type "list",data:=.seq (its++[v]).toArray (k+1) }):=by simpa using hp
      subst e
      exact⟨hD₉,f2D.1,f2D.2.1,f2D.2.2.1,fun v z=>by cases z⟩
     ·obtain⟨o,e,d⟩:=T.obj _ _ st5 b hb
      exact(pn8 b hb o e).2
 exact codeAny_compStart_list (loop _ rfl) (T.self X.A 0 _ _ _ st1 (loop _ rfl))
theorem zT(S:CompScope X.env.scope X.N x fr ix scope)(hc:X.calm=true)(hi:PI X (.Name x px) iter wi)(hif:∀cl C s2 H2 fp,PIf (blk X (x::fr) scope cl C s2 H2 fp) ifs tc)(he:∀cl C s2 H2 fp,PE (blk X (x::fr) scope cl C s2 H2 fp) elt te)
 (hs:∀x,foldedSetIterable iter X.env x=pure x:=by intro _;rfl):PE X (.ListComp elt [⟨.Name x px,iter,ifs,0⟩] scope pos) (tComp ix wi tc te):=by
 intro pins s σ H Q I h
 obtain⟨cl,ecl,h1,h2⟩:=zb3 (env:=X.env) (scope:=scope) fun y hy hf=>I.ok.has y.1 (S.free y hy hf)
 rw[eval_ListComp]
 refine wpAny_comprehension_free (use:=none) rfl hs ecl S.kind S.lcl (thn (hi pins s σ H _ I h) fun xv s1 q1=>thn q1 fun itv s2 q2=>?_)
 obtain⟨it,fp,tn,J,H2,rfl,I2,T,st2,f2,wc⟩:=q2
 refine ziG S hc hif he h1 h2 I2 T st2 f2 wc fun D C ys H' s' m I' hD hn hDC hC hHC fin=>?_
 refine⟨m,hn,fun h' sb=>⟨.ref D,upd H' D (.lst ys),?_,rfl,fin D hD⟩⟩
 have hcf:zaK X pins (upd H' D (.lst ys)) C:=by
  have z:=I2.fpOk (H':=upd H' D (.lst ys)) hC (by rw[zg (Ne.symm hDC)];exact hHC)
  exact z
 exact I'.turned (t':=s'.toks) (it:=C) (fun b o hb e=>(sb.2 b hb).trans e) hcf.1 hcf.2.1 hcf.2.2.2.1 hcf.2.2.2.2.1 hcf.2.2.2.2.2
theorem zda{i:Nat}{y:Str}{py spos:Pos}(S:CompScope X.env.scope X.N x fr ix scope)(hc:X.calm=true)(hN:X.N.Nodup)(hiy:X.N[i]? = some y)(hy:Loc X.env.scope y)(hi:PI X (.Name x px) iter wi)(hif:∀cl C s2 H2 fp,PIf (blk X (x::fr) scope cl C s2 H2 fp) ifs tc)(he:∀cl C s2 H2 fp,PE (blk X (x::fr) scope cl C s2 H2 fp) elt te)
 (hsw:swapsWith (.ListComp elt [⟨.Name x px,iter,ifs,0⟩] scope pos) (some (.Name y py)) spos.line X.env=pure true:=by rfl)
 (hf:X.fn y=true∨X.env.scope.names.lookup y=some .local:=by first | exact .inl rfl | exact .inr rfl | assumption)
 (hs:∀x,foldedSetIterable iter X.env x=pure x:=by intro _;rfl) :
 PS X (.Assign [.Name y py] (.ListComp elt [⟨.Name x px,iter,ifs,0⟩] scope pos) spos) (tAsg (tComp ix wi tc te) (zem i)):=by
 intro pins s σ H Dn I h
 obtain⟨cl,ecl,h1,h2⟩:=zb3 (env:=X.env) (scope:=scope) fun y hy hf=>I.ok.has y.1 (S.free y hy hf)
 rw[exec_Assign_Name_used _ _ _ _ hsw]
 refine wpAny_bind (wpAny_standAt (wpAny_bind ?_))
 show wpAny _ X.A (do let _ ←comprehension (.ListComp elt [⟨.Name x px,iter,ifs,0⟩] scope pos) scope X.env _ (newList []) false (eval iter X.env) (some (assign (.Name y py) X.env))) _ _ s
 refine wpAny_bind (thn (Q:=fun _ s'=>SP X pins Dn .next s') ?_ fun _ s' q=>wpAny_pure (wpAny_pure q))
 refine wpAny_comprehension_free (use:=some (assign (.Name y py) X.env)) rfl hs ecl S.kind S.lcl (thn (hi pins s σ H _ I h) fun xv s1 q1=>thn q1 fun itv s2 q2=>?_)
 obtain⟨it,fp,tn,J,H2,rfl,I2,T,st2,f2,wc⟩:=q2
 refine ziG S hc hif he h1 h2 I2 T st2 f2 wc fun D C ys H' s' m I' hD hn hDC hC hHC fin=>?_
 have hcf:zaK X pins (upd H' D (.lst ys)) C:=I2.fpOk (H':=upd H' D (.lst ys)) hC (by rw[zg (Ne.symm hDC)];exact hHC)
 show wpAny _ X.A (assign (.Name y py) X.env (.ref D)) _ _ s'
 refine wpAny_assign_Name (zgw (v:=V.ref D) I' hN hiy hy rfl (fun s'' I'' hsb=>?_) hf)
 obtain⟨a,sb,ha⟩:=hsb
 have hCa:C≠a:=fun z=>by
  rcases ha with q | q
  ·exact hcf.2.1 (z.trans q)
  ·exact hcf.2.2.2.2.1 y a q z.symm
 refine⟨m,hn.sameBut sb hCa,fun h' sb'=>⟨_,_,I''.turned (t':=s''.toks) (it:=C) (fun b o hb e=>(sb'.2 b hb).trans e) hcf.1 hcf.2.1 hcf.2.2.2.1 hcf.2.2.2.2.1 hcf.2.2.2.2.2,fin D hD⟩⟩
end
section
variable {X:Cx}
def ixV(xs:List V)(y:V):Nat:=xs.findIdx fun z=>eqV z y
theorem zhV{x:V}:∀{xs:List V}{us:List Value},Vals xs us→xs.all wt=true→us.findIdx (eqU x)=xs.findIdx fun y=>eqV y x
 | _,_,.nil,_=>rfl
 | y::xs,u::us,.cons r t,f=>by
   rw[all_cons,Bool.and_eq_true] at f
   rw[findIdx_cons,findIdx_cons,zgW r f.1,zhV t f.2]
theorem zgs{x:V}:∀{xs:List V}{us:List Value},Vals xs us→xs.all wt=true→us.countP (eqU x)=xs.countP fun y=>eqV y x
 | _,_,.nil,_=>rfl
 | y::xs,u::us,.cons r t,f=>by
   rw[all_cons,Bool.and_eq_true] at f
   rw[countP_cons,countP_cons,zgW r f.1,zgs t f.2]
def rIndex(K:Frag):V→List V→Hp→VK→Prop:=fun x vs H Q=>∃l xs y,x=.ref l∧vs=[y]∧SqL K H l xs∧wt y=true∧xs.all wt=true∧ixV xs y<xs.length∧Q (.int (ixV xs y:Nat)) H
theorem zjq:(sizeLine:Int)<2 ^ 63-1:=by decide
theorem zh4:MtM X "list.index" (rIndex X.K):=by
 intro pins s σ H x vs v us Q I rx rv h
 obtain⟨l,xs,y,rfl,rfl,hH,fy,fs,hj,q⟩:=h
 cases rx
 obtain⟨u,rfl,ru⟩:=rv.one
 obtain⟨its,r,⟨⟨oc,od,dt,sl⟩,n,e,c1,c2,c3⟩,z⟩:=I.list hH
 simp only at c1 c2 c3
 subst c1 c2 c3
 have hl:=r.length
 have ef:=zhV (x:=y) r fs
 have hj':its.findIdx (eqU y)<its.length:=by rw[ef,←hl];exact hj
 refine call_meets F.slot_list_index ⟨_,e,rfl⟩ F.entry_list_index (F.args_list_index_2 _ _)
  (SeqAt.list_indexAt l its.toArray n none sl u (eqU y) (its.findIdx (eqU y)) (by simpa using hj') (by have:=zjq;omega) (by simpa using List.findIdx_getElem (w:=hj')) (fun m hm hlt=>by simpa using List.not_of_lt_findIdx hlt)) ⟨e,fun w hw=>zbt ru fy r fs w (by simpa using hw),?_⟩
 refine⟨.int (ixV xs y:Nat),H,I.tok _,⟨s.toks,?_⟩,q⟩
 rw[ef];rfl
def rCount(K:Frag):V→List V→Hp→VK→Prop:=fun x vs H Q=>∃l xs y,x=.ref l∧vs=[y]∧SqL K H l xs∧wt y=true∧xs.all wt=true∧Q (.int (xs.countP (fun z=>eqV z y):Nat)) H
theorem mt_count:MtM X "list.count" (rCount X.K):=by
 intro pins s σ H x vs v us Q I rx rv h
 obtain⟨l,xs,y,rfl,rfl,hH,fy,fs,q⟩:=h
 cases rx
 obtain⟨u,rfl,ru⟩:=rv.one
 obtain⟨its,r,⟨⟨oc,od,dt,sl⟩,n,e,c1,c2,c3⟩,z⟩:=I.list hH
 simp only at c1 c2 c3
 subst c1 c2 c3
 refine call_meets F.slot_list_count ⟨_,e,rfl⟩ F.entry_list_count (F.args_list_count_2 _ _)
  (SeqAt.list_countAt l its.toArray n none sl u (eqU y)) ⟨e,fun w hw=>zbt ru fy r fs w (by simpa using hw),?_⟩
 refine⟨.int (xs.countP (fun z=>eqV z y):Nat),H,I.tok _,⟨s.toks,?_⟩,q⟩
 show Value.int ((its.countP (eqU y):Nat):Int) _=_
 rw[zgs (x:=y) r fs]
def isInt:V→Option Bool
 | .int _=>some true
 | .bl _=>some true
 | .str _=>some false
 | .non=>some false
 | _=>none
def isBool:V→Option Bool
 | .int _=>some false
 | .bl _=>some true
 | .str _=>some false
 | .non=>some false
 | _=>none
def isStr:V→Option Bool
 | .int _=>some false
 | .bl _=>some false
 | .str _=>some true
 | .non=>some false
 | _=>none
inductive IsLst (K:Frag) (H:Hp):V→Bool→Prop
 | yes {a:Addr} {xs:List V}:SqL K H a xs→IsLst K H (.ref a) true
 | no {a:Addr} {xs:List V}:SqT K H a xs→IsLst K H (.ref a) false
theorem zg6:wp X (.builtin "isinstance") (fun xs H Q=>∃x b,xs=[x,.ty "int"]∧isInt x=some b∧Q (.bl b) H):=by
 intro pins s σ H xs us Q I r h
 obtain⟨x,b,rfl,e,q⟩:=h
 obtain⟨u,t,rfl,ru,rt⟩:=r.two
 cases rt
 cases x with
 | int i=>obtain⟨t',rfl⟩:=ru;cases e;exact IsiPair.int_int ⟨.bl true,H,I,rfl,q⟩
 | bl i=>cases ru;cases e;exact IsiPair.bool_int ⟨.bl true,H,I,rfl,q⟩
 | str i=>obtain⟨t',rfl⟩:=ru;cases e;exact IsiPair.str_int ⟨.bl false,H,I.tok _,rfl,q⟩
 | non=>cases ru;cases e;exact IsiPair.NoneType_int ⟨.bl false,H,I.tok _,rfl,q⟩
 | _=>cases e
theorem zc1:wp X (.builtin "isinstance") (fun xs H Q=>∃x b,xs=[x,.ty "bool"]∧isBool x=some b∧Q (.bl b) H):=by
 intro pins s σ H xs us Q I r h
 obtain⟨x,b,rfl,e,q⟩:=h
 obtain⟨u,t,rfl,ru,rt⟩:=r.two
 cases rt
 cases x with
 | int i=>obtain⟨t',rfl⟩:=ru;cases e;exact IsiPair.int_bool ⟨.bl false,H,I.tok _,rfl,q⟩
 | bl i=>cases ru;cases e;exact IsiPair.bool_bool ⟨.bl true,H,I,rfl,q⟩
 | str i=>obtain⟨t',rfl⟩:=ru;cases e;exact IsiPair.str_bool ⟨.bl false,H,I.tok _,rfl,q⟩
 | non=>cases ru;cases e;exact IsiPair.NoneType_bool ⟨.bl false,H,I.tok _,rfl,q⟩
 | _=>cases e
theorem zdL:wp X (.builtin "isinstance") (fun xs H Q=>∃x b,xs=[x,.ty "str"]∧isStr x=some b∧Q (.bl b) H):=by
 intro pins s σ H xs us Q I r h
 obtain⟨x,b,rfl,e,q⟩:=h
 obtain⟨u,t,rfl,ru,rt⟩:=r.two
 cases rt
 cases x with
 | int i=>obtain⟨t',rfl⟩:=ru;cases e;exact IsiPair.int_str ⟨.bl false,H,I.tok _,rfl,q⟩
 | bl i=>cases ru;cases e;exact IsiPair.bool_str ⟨.bl false,H,I.tok _,rfl,q⟩
 | str i=>obtain⟨t',rfl⟩:=ru;cases e;exact IsiPair.str_str ⟨.bl true,H,I,rfl,q⟩
 | non=>cases ru;cases e;exact IsiPair.NoneType_str ⟨.bl false,H,I.tok _,rfl,q⟩
 | _=>cases e
theorem zbL:wp X (.builtin "isinstance") (fun xs H Q=>∃x b,xs=[x,.ty "list"]∧IsLst X.K H x b∧Q (.bl b) H):=by
 intro pins s σ H xs us Q I r h
 obtain⟨x,b,rfl,e,q⟩:=h
 obtain⟨u,t,rfl,ru,rt⟩:=r.two
 cases rt
 cases e with
 | yes hq =>
   cases ru
   obtain⟨its,r,⟨o,n,e,c1,c2,c3⟩,z⟩:=I.list hq
   exact IsiPair.list_list e c1 ⟨.bl true,H,I,rfl,q⟩
 | no hq =>
   cases ru
   obtain⟨its,r,⟨o,e,c1,n,c3⟩,z⟩:=I.tuple hq
   exact IsiPair.tuple_list e c1 ⟨.bl false,H,I.tok _,rfl,q⟩
def tRev(K:Frag)(te ts:TE):TE:=fun σ H Q=>te σ H fun x H1=>ts σ H1 fun y H2=>y=.int (-1)∧∃a xs,x=.ref a∧SqL K H2 a xs∧∀p,H2 p=none→Q (.ref p) (upd H2 p (.lst xs.reverse))
theorem pe_rev{e st:Expr}{te ts:TE}{p2 pos:Pos}(he:PE X e te)(hst:PE X st ts):PE X (.Subscript e (.Slice none none (some st) p2) pos) (tRev X.K te ts):=by
 intro pins s σ H Q I h
 refine Subscript_ (thn (he pins s σ H _ I h) fun v s1 ⟨x,H1,I1,r1,q1⟩=>?_)
 refine wpAny_Slice ?_
 rw[evalPart_none]
 refine wpAny_pure (wpAny_pure ?_)
 rw[evalPart_some]
 refine thn (hst pins s1 σ H1 _ I1 q1) fun u s3 ⟨y,H3,I3,r3,q3⟩=>?_
 obtain⟨rfl,a,xs,rfl,hx,q⟩:=q3
 obtain⟨t,rfl⟩:=r3
 cases r1
 have I4:Inv X pins σ H3 { s3 with heap:=s3.heap.push { cls:=.type "slice",data:=.fields #[.none,.none,.int (-1) t] } }:=I3.kept (t':=s3.toks) fun b ob q=>get?_push_of_some _ q
 obtain⟨its,r,ht,hz⟩:=I4.list hx
 have hlen:=r.length
 show wpAny (model X.prog X.w) X.A (subscriptTail e (.Slice none none (some st) p2) (.ref a) (.ref s3.heap.objs.size)) (EP X pins σ Q) X.xe { s3 with heap:=s3.heap.push { cls:=.type "slice",data:=.fields #[.none,.none,.int (-1) t] } }
 refine tail_any (ops:=[.ref a,.ref s3.heap.objs.size]) ht.isList.typeIs slot_list_getitem.lookup ?_ (by with_unfolding_all rfl)
 refine wpAny_getItem_list_slice ht.isList (Heap.IsSliceOf.new ..) .none .none (.int (-1) t) (by decide) ?_ (by rw[size_toArray] <;> omega)
 rw[PySem.W.krv_pick]
 refine⟨.ref _,_,I4.laid (t':=s3.toks) (o:=.lst xs.reverse) (fun b ob q=>get?_push_of_some _ q) (le_refl _) ?_,rfl,q _ (I4.hok.fresh (le_refl _))⟩
 exact⟨by rw[List.length_reverse];exact hz,_,0,r.reverse,get?_push_size _ rfl⟩
end
structure Can (P:Program) (w:World) (K:Frag) (mg:Str→Option Value) (base:Heap) (k:Nat) (x:Str) (ps:List Str) (sp:Sp):Prop where
 ex:∃f fd,FnOk P w K mg base CX0 k f fd ps sp∧mg x=some (.ref f)∧keepIn K (.ref f)=true∧Binds K fd ps []
theorem Can.of{P:Program}{w:World}{K:Frag}{mg:Str→Option Value}{base:Heap}{k:Nat}{x:Str}{ps:List Str}{sp:Sp}{f:Addr}{fd:FuncData}{qual:Str}{st:Stmt}
 (F:Fun K x qual st f fd) (G:FnOk P w K mg base CX0 k f fd ps sp) (hm:mg x=some (.ref f)) (b:Binds K fd ps []):Can P w K mg base k x ps sp:=⟨f,fd,G,hm,F.kp,b⟩
section
variable {X:Cx}{k:Nat}{x:Str}{ps:List Str}{sp:Sp}{p pos:Pos}{e:Expr}{es:List Expr}{t:TA}
theorem zm(C:Can X.prog X.w X.K X.mg X.base k x ps sp)(hr:Room k X.A)(hg:Gl X x)(ha:PA X (e::es) t)(hdb:(x==("__debug__":Str))=false:=by decide)(he:starEach (e::es) X.env=(false,eval e X.env)::starEach es X.env:=by rfl)
 (hpl:(backTo pos (starEach es X.env)).any (·.1)=false:=by rfl):PE X (.Call (.Name x p) (e::es) [] pos) (tCall sp [] E0 t):=by
 obtain⟨f,fd,F,hm,hk,hb⟩:=C.ex
 exact pe_call F hr hg hm hk hb .nil pass0 ha hdb he hpl
end
theorem wz{K:Frag}{a:Addr}{xs:List V}{c:St}{tc:TT}{te:TE}{H:Hp}{fin:List V→Hp→Prop}(Pv:Nat→List V→Hp→Prop)(h0:Pv 0 [] H)(hl:∀i ys H,i≤xs.length→Pv i ys H→SqL K H a xs∧ys.length≤i)(hz:xs.length≤sizeLine)
 (hs:∀i x ys H,xs[i]? = some x→Pv i ys H→tc (some x::c) H fun b H2=>if b=true then te (some x::c) H2 fun y H3=>Pv (i+1) (ys++[y]) H3 else Pv (i+1) ys H2)
 (hd:∀ys H,Pv xs.length ys H→fin ys H):zcv (Itl K a) c tc te H fin:=by
 refine⟨fun i m ys H=>m=xs.length-i∧i≤xs.length∧Pv i ys H,⟨xs.length,by simp,zero_le _,h0⟩,?_⟩
 rintro i m ys H ⟨rfl,hi,p⟩
 obtain⟨q,hy⟩:=hl i ys H hi p
 by_cases hlt:i<xs.length
 ·refine .inr ⟨⟨xs,xs[i],q,by simp[hlt]⟩,by omega,Pv (i+1),fun ys' H' p'=>⟨_,by omega,rfl,hlt,p'⟩,fun x H' y=>?_⟩
  obtain⟨e,y⟩:=y
  subst e
  exact hs i x ys _ (y xs q) p
 ·have e:i=xs.length:=by omega
  subst e
  exact .inl ⟨⟨xs,q,le_refl _⟩,by omega,hd ys H p⟩
theorem zfE{lo:Int}{n:Nat}{c:St}{tc:TT}{te:TE}{H:Hp}{fin:List V→Hp→Prop}(Pv:Nat→List V→Hp→Prop)(h0:Pv 0 [] H)(hl:∀i ys H,i≤n→Pv i ys H→ys.length≤i)(hz:n≤sizeLine)
 (hs:∀i ys H,i<n→Pv i ys H→tc (some (.int (lo+i))::c) H fun b H2=>if b=true then te (some (.int (lo+i))::c) H2 fun y H3=>Pv (i+1) (ys++[y]) H3 else Pv (i+1) ys H2)
 (hd:∀ys H,Pv n ys H→fin ys H):zcv (Itr lo n) c tc te H fin:=by
 refine⟨fun i m ys H=>m=n-i∧i≤n∧Pv i ys H,⟨n,by simp,zero_le _,h0⟩,?_⟩
 rintro i m ys H ⟨rfl,hi,p⟩
 have hy:=hl i ys H hi p
 by_cases hlt:i<n
 ·refine .inr ⟨hlt,by omega,Pv (i+1),fun ys' H' p'=>⟨_,by omega,rfl,hlt,p'⟩,fun x H' y=>?_⟩
  obtain⟨e,y⟩:=y
  subst e y
  exact hs i ys _ hlt p
 ·have e:i=n:=by omega
  subst e
  exact .inl ⟨le_refl _,by omega,hd ys H p⟩
theorem zO{K:Frag}{a:Addr}{xs:List V}{c:St}{te:TE}{H:Hp}{fin:List V→Hp→Prop}(Pv:Nat→List V→Hp→Prop)(h0:Pv 0 [] H)(hl:∀i ys H,i≤xs.length→Pv i ys H→SqL K H a xs∧ys.length≤i)(hz:xs.length≤sizeLine)
 (hs:∀i x ys H,xs[i]? = some x→Pv i ys H→te (some x::c) H fun y H3=>Pv (i+1) (ys++[y]) H3) (hd:∀ys H,Pv xs.length ys H→fin ys H):zcv (Itl K a) c tYes te H fin :=
 wz Pv h0 hl hz (fun i x ys H e p=>zdG (B:=Pv (i+1) ys H) (hs i x ys H e p)) hd
theorem zhU{lo:Int}{n:Nat}{c:St}{te:TE}{H:Hp}{fin:List V→Hp→Prop}(Pv:Nat→List V→Hp→Prop)(h0:Pv 0 [] H)(hl:∀i ys H,i≤n→Pv i ys H→ys.length≤i)(hz:n≤sizeLine)
 (hs:∀i ys H,i<n→Pv i ys H→te (some (.int (lo+i))::c) H fun y H3=>Pv (i+1) (ys++[y]) H3) (hd:∀ys H,Pv n ys H→fin ys H):zcv (Itr lo n) c tYes te H fin :=
 zfE Pv h0 hl hz (fun i ys H e p=>zdG (B:=Pv (i+1) ys H) (hs i ys H e p)) hd
theorem zbV{X:Cx}{x:Str}{i:Int}{pos:Pos}(h:∃t,X.mg x=some (.int i t))(hg:Gl X x)(hd:(x==("__debug__":Str))=false:=by decide):PE X (.Name x pos) (tC (.int i)):=by
 obtain⟨t,h⟩:=h
 exact pe_glob hg h ⟨t,rfl⟩ hd
theorem wk{c A B:Prop} [Decidable c](h1:c→A)(h2:¬c→B):if decide c=true then A else B:=by
 by_cases h:c
 ·rw[if_pos (decide_eq_true h)];exact h1 h
 ·rw[if_neg (by rw[decide_eq_false h];exact Bool.false_ne_true)];exact h2 h
theorem wJ{c A B:Prop} [Decidable c](h1:¬c→A)(h2:c→B):if(!decide c)=true then A else B:=by
 by_cases h:c
 ·rw[decide_eq_true h];exact zao (h2 h)
 ·rw[decide_eq_false h];exact zdG (h1 h)
theorem zge{b:Bool}{A B:Prop}(h1:b=true→A)(h2:b=false→B):if b=true then A else B:=by
 cases b with
 | true=>exact zdG (h1 rfl)
 | false=>exact zao (h2 rfl)
theorem Same.new{H:Hp}{l:Addr}{o:HO}(h:H l=Option.none):Same H (upd H l o):=fun b u e=>by rw[zg (zj e h)];exact e
theorem Same.newT{H H':Hp}{l:Addr}{o:HO}(s:Same H H')(h:H' l=Option.none):Same H (upd H' l o):=s.trans (Same.new h)
theorem Same.put{H H':Hp}{l:Addr}{o:HO}(s:Same H H')(h:H l=Option.none):Same H (upd H' l o):=fun b u e=>by rw[zg (zj e h)];exact s b u e
theorem Same.seqT{K:Frag}{H H':Hp}{a:Addr}{xs:List V}(e:Same H H')(h:SqT K H a xs):SqT K H' a xs:=by
 rcases h with(h | ⟨o,h⟩) | h
 ·exact .inl (.inl (e _ _ h))
 ·exact .inl (.inr ⟨o,e _ _ h⟩)
 ·exact .inr h
theorem SqL.new{K:Frag}{H:Hp}{l:Addr}{xs:List V}:SqL K (upd H l (.lst xs)) l xs:=SqL.of zf
theorem SqT.new{K:Frag}{H:Hp}{l:Addr}{xs:List V}:SqT K (upd H l (.tup xs)) l xs:=SqT.of zf
theorem zfS{xs:List V}{i:Int}{v:V}(h0:0≤i)(h:xs[i.toNat]? = some v):atI xs i=some v:=by
 have:=we h
 rwa [Int.toNat_of_nonneg h0] at this
theorem zcd{ns:List Int}{i:Nat}(h:i<ns.length):(ns.map V.int)[i]? = some (.int (ns.getD i 0)):=by
 rw[getElem?_map,getElem?_eq_getElem h,getD_eq_getElem?_getD,getElem?_eq_getElem h];rfl
theorem zdn{ns:List Int}{i:Int}(h0:0≤i)(h:i<ns.length):atI (ns.map V.int) i=some (.int (ns.getD i.toNat 0)):=zfS h0 (zcd (by omega))
theorem yO(ns:List Int):(ns.map V.int).all wt=true:=by
 rw[all_map];exact List.all_eq_true.mpr fun _ _=>rfl
theorem zeN(ns:List Int)(c:Int):ixV (ns.map V.int) (.int c)=ns.idxOf c:=by
 unfold ixV
 induction ns with
 | nil=>rfl
 | cons a ns ih =>
   rw[map_cons,findIdx_cons,List.idxOf_cons,ih]
   rfl
theorem ziU(ns:List Int)(c:Int):(ns.map V.int).countP (fun z=>eqV z (.int c))=ns.count c:=by
 induction ns with
 | nil=>rfl
 | cons a ns ih=>rw[map_cons,countP_cons,List.count_cons,ih];rfl
theorem zhT(ns:List Int)(c:Int):inV (.int c) (ns.map V.int)=decide (c∈ns):=by
 unfold inV
 induction ns with
 | nil=>rfl
 | cons a ns ih =>
   rw[map_cons,any_cons,ih]
   show((a==c) || _)=_
   by_cases h:a=c
   ·subst h;simp
   ·have:¬c=a:=fun e=>h e.symm
    simp[h,this]
theorem zfg{xs:List V}{k:Int}(h:0≤k):zcH xs (some k) none=xs.drop k.toNat:=by
 obtain⟨n,rfl⟩:=Int.eq_ofNat_of_zero_le h
 unfold zcH
 rw[HT.sIx_none]
 show(xs.drop (HT.sIx xs.length 0 (some ((n:Nat):Int)))).take _=_
 rw[HT.sIx_nat,Int.toNat_natCast]
 by_cases h:n≤xs.length
 ·rw[Nat.min_eq_left h,take_of_length_le (by rw[length_drop];exact le_refl _)]
 ·rw[Nat.min_eq_right (by omega),drop_of_length_le (le_refl _),drop_of_length_le (by omega),List.take_nil]
theorem cut_upto{xs:List V}{k:Int}(h:0≤k):zcH xs none (some k)=xs.take k.toNat:=by
 obtain⟨n,rfl⟩:=Int.eq_ofNat_of_zero_le h
 unfold zcH
 rw[HT.sIx_none,List.drop_zero]
 show xs.take (HT.sIx xs.length xs.length (some ((n:Nat):Int))-0)=_
 rw[HT.sIx_nat,Int.toNat_natCast,Nat.sub_zero]
 by_cases h:n≤xs.length
 ·rw[Nat.min_eq_left h]
 ·rw[Nat.min_eq_right (by omega),take_of_length_le (le_refl _),take_of_length_le (by omega)]
theorem zgu{ns:List Int}{k:Int}(h:0≤k):zcH (ns.map V.int) (some k) none=(ns.drop k.toNat).map V.int:=by rw[zfg h,map_drop]
theorem cut_uptoI{ns:List Int}{k:Int}(h:0≤k):zcH (ns.map V.int) none (some k)=(ns.take k.toNat).map V.int:=by rw[cut_upto h,map_take]
theorem zx:1000000≤sizeLine:=by decide
theorem seqIx_ok{i:Int}{n:Nat}(h0:0≤i)(h1:i<n):seqIndex? i n=some i.toNat:=by
 have e:(if i<0 then i+(n:Int)else i)=i:=if_neg (by omega)
 unfold seqIndex?
 simp only[e]
 rw[if_pos (by simp only[Bool.and_eq_true,decide_eq_true_eq];exact⟨h0,h1⟩)]
theorem zgv{α β:Type}(f:α→β):∀(l:List α)(i:Nat),(l.map f).eraseIdx i=(l.eraseIdx i).map f
 | [],_=>rfl
 | _::_,0=>rfl
 | a::l,i+1=>by
   show f a::(l.map f).eraseIdx i=f a::(l.eraseIdx i).map f
   rw[zgv f l i]
theorem zfk{α:Type}:∀(l:List α)(i:Nat)(h:i<l.length),(l[i]::l.eraseIdx i).Perm l
 | a::l,0,_=>List.Perm.refl _
 | a::l,i+1,h=>(List.Perm.swap a (l[i]'(by simpa using h)) (l.eraseIdx i)).trans ((zfk l i (by simpa using h)).cons a)
theorem yt{ns:List Int}{i:Nat}(hi:i<ns.length):ns.take (i+1)=ns.take i++[ns.getD i 0]:=by
 rw[take_succ,getElem?_eq_getElem hi,getD_eq_getElem?_getD,getElem?_eq_getElem hi];rfl
theorem yV{ns:List Int}{i:Nat}{x:V}(hx:(ns.map V.int)[i]? = some x):i<ns.length∧x=.int (ns.getD i 0):=by
 have hi:i<ns.length:=by have:=(List.getElem?_eq_some_iff.mp hx).1;rwa [length_map] at this
 refine⟨hi,?_⟩
 rw[zcd hi] at hx
 exact(Option.some.inj hx).symm
theorem zeK{ns:List Int}{i:Nat}(hi:i<ns.length):ns.getD i 0=ns[i]:=by rw[getD_eq_getElem?_getD,getElem?_eq_getElem hi];rfl
theorem zam{ns:List Int}{i:Nat}(hi:i<ns.length):ns.getD i 0∈ns:=by rw[zeK hi];exact getElem_mem hi
theorem app_ints(ns:List Int)(x:Int):ns.map V.int++[V.int x]=(ns++[x]).map V.int:=by rw[map_append];rfl
theorem lst_app{H:Hp}{l:Addr}(ns:List Int)(x:Int):upd H l (.lst (ns.map V.int++[V.int x])) l=some (.lst ((ns++[x]).map V.int)):=zf.trans (congrArg (fun l=>some (HO.lst l)) (app_ints ns x))
def eqL:List V→List V→Bool
 | [],[]=>true
 | x::xs,y::ys=>eqV x y && eqL xs ys
 | _,_=>false
def eqAtJ(xs ys:List V)(j:Nat):Bool:=match xs[j]?,ys[j]? with
 | some x,some y=>eqV x y
 | _,_=>false
theorem zd7:∀{xs ys:List V},xs.length=ys.length→(List.range xs.length).all (eqAtJ xs ys)=eqL xs ys
 | [],[],_=>rfl
 | x::xs,y::ys,h=>by
   have h':xs.length=ys.length:=by simpa using h
   show(List.range (xs.length+1)).all _=(eqV x y && eqL xs ys)
   rw[range_succ_eq_map,all_cons,all_map,←zd7 h']
   rfl
theorem zgR:∀{xs ys:List V},xs.length≠ys.length→eqL xs ys=false
 | [],[],h=>absurd rfl h
 | [],_::_,_=>rfl
 | _::_,[],_=>rfl
 | x::xs,y::ys,h=>by
   show(eqV x y && eqL xs ys)=false
   rw[zgR (fun e=>h (by simp[e])),Bool.and_false]
theorem zdC:∀(ns ms:List Int),eqL (ns.map V.int) (ms.map V.int)=decide (ns=ms)
 | [],[]=>rfl
 | [],_::_=>rfl
 | _::_,[]=>rfl
 | a::ns,b::ms=>by
   show((a==b) && eqL (ns.map V.int) (ms.map V.int))=_
   rw[zdC ns ms]
   by_cases h:a=b
   ·subst h;simp
   ·simp[h]
theorem eqAt_j{A:Around}{s:Shared}{xs ys:List V}{us vs:List Value}(ru:Vals xs us)(rv:Vals ys vs)(fx:xs.all wt=true)(fy:ys.all wt=true):
 ∀j (h1:j<us.toArray.size) (h2:j<vs.toArray.size),SeqAt.EqAt A s us.toArray[j] vs.toArray[j] (eqAtJ xs ys j):=fun j h1 h2=>by
 have l1:=ru.length
 have l2:=rv.length
 have h1':j<us.length:=by simpa using h1
 have h2':j<vs.length:=by simpa using h2
 obtain⟨u,eu,r1⟩:=ru.get (i:=j) (x:=xs[j]) (getElem?_eq_getElem (by omega))
 obtain⟨v,ev,r2⟩:=rv.get (i:=j) (x:=ys[j]) (getElem?_eq_getElem (by omega))
 have e1:us.toArray[j]=u:=by rw[List.getElem_toArray];rw[getElem?_eq_getElem h1'] at eu;exact Option.some.inj eu
 have e2:vs.toArray[j]=v:=by rw[List.getElem_toArray];rw[getElem?_eq_getElem h2'] at ev;exact Option.some.inj ev
 rw[e1,e2]
 have ej:eqAtJ xs ys j=eqV xs[j] ys[j]:=by unfold eqAtJ;rw[getElem?_eq_getElem (by omega),getElem?_eq_getElem (by omega)]
 rw[ej]
 exact eqAt_V r1 r2 (List.all_eq_true.mp fx _ (getElem_mem _)) (List.all_eq_true.mp fy _ (getElem_mem _))
section
variable {X:Cx}
def rEqL(K:Frag):R2:=fun x y H Q=>∃a b xs ys,x=.ref a∧y=.ref b∧SqL K H a xs∧SqL K H b ys∧xs.all wt=true∧ys.all wt=true∧Q (.bl (eqL xs ys)) H
theorem zdg(hu:X.A.units<cLine):OpR X (compareOp .Eq) (rEqL X.K):=by
 intro pins s σ H x y v u Q I rx ry h
 obtain⟨a,b,xs,ys,rfl,rfl,ha,hb,fx,fy,q⟩:=h
 cases rx
 cases ry
 obtain⟨its,r1,p1,z1⟩:=I.list ha
 obtain⟨its2,r2,p2,z2⟩:=I.list hb
 have l1:=r1.length
 have l2:=r2.length
 by_cases hl:xs.length=ys.length
 ·refine SeqAt.eq_listAt p1.isList p2.isList (by simp;omega) hu (eqAt_j r1 r2 fx fy) ⟨.bl (eqL xs ys),H,I,?_,q⟩
  rw[size_toArray,←l1,zd7 hl]
  rfl
 ·refine SeqAt.eq_list_lengthsAt p1.isList p2.isList (by simp;omega) hu ⟨.bl (eqL xs ys),H,I,?_,q⟩
  rw[zgR hl]
  rfl
theorem zhB{ns:List Int}:∀{us:List Value},IntsAre us ns→Vals (ns.map V.int) us:=by
 intro us h
 induction h with
 | nil=>exact .nil
 | cons n t _ ih=>exact .cons ⟨t,rfl⟩ ih
theorem zcJ:wp X (.builtin "sorted") (fun xs H Q=>∃(a:Addr)(ns:List Int),xs=[.ref a]∧SqL X.K H a (ns.map V.int)∧ns.length<64∧∀(l:Addr)(ms:List Int),H l=none→ms.Perm ns→ms.Pairwise (·≤ ·)→Q (.ref l) (upd H l (.lst (ms.map V.int)))):=by
 intro pins s σ H xs us Q I r h
 obtain⟨a,ns,rfl,hS,hz,q⟩:=h
 obtain⟨u,rfl,ru⟩:=r.one
 cases ru
 obtain⟨its,r1,p1,z1⟩:=I.list hS
 have l1:=r1.length
 rw[length_map] at l1
 refine sorted_ints p1.isList (zaE r1) (by omega) fun out ns' hI hp hw=>?_
 obtain⟨e,he⟩:=sortedAll_at s.heap its out
 have hf:H (s.heap.objs.size+1)=none:=I.hok.fresh (le_succ _)
 have hv:=zhB hI
 have hlen:ns'.length<64:=by rw[hp.length_eq];exact hz
 refine⟨.ref (s.heap.objs.size+1),upd H (s.heap.objs.size+1) (.lst (ns'.map V.int)),I.laid (t':=s.toks) (fun b o e=>sortedAll_old e) (le_succ _) ⟨?_,out.toList,e,hv,?_⟩,rfl,q _ ns' hf hp hw⟩
 ·rw[length_map];have:=zx;omega
 ·exact he
theorem bools_at{bs:List Bool}{us:List Value}(r:Vals (bs.map V.bl) us){i:Nat}{v:Value}(h:us[i]? = some v):v=.bool (bs.getD i false):=by
 have hl:=r.length
 rw[length_map] at hl
 have hi:i<bs.length:=by rw[hl];exact(List.getElem?_eq_some_iff.mp h).1
 obtain⟨u,e,ru⟩:=r.get (i:=i) (x:=.bl bs[i]) (by rw[getElem?_map,getElem?_eq_getElem hi];rfl)
 rw[e] at h
 cases h
 rw[getD_eq_getElem?_getD,getElem?_eq_getElem hi]
 exact ru
theorem range_all(bs:List Bool):(List.range bs.length).all (fun i=>bs.getD i false)=bs.all id:=by
 induction bs with
 | nil=>rfl
 | cons b bs ih =>
   rw[length_cons,range_succ_eq_map,all_cons,all_map,all_cons,←ih]
   rfl
theorem zdi(hc:X.calm=true):wp X (.builtin "all") (fun xs H Q=>∃(a:Addr)(bs:List Bool),xs=[.ref a]∧SqL X.K H a (bs.map V.bl)∧Q (.bl (bs.all id)) H):=by
 intro pins s σ H xs us Q I r h
 obtain⟨a,bs,rfl,hS,q⟩:=h
 obtain⟨u,rfl,ru⟩:=r.one
 cases ru
 obtain⟨its,r1,p1,z1⟩:=I.list hS
 have l1:=r1.length
 rw[length_map] at l1
 have hlt:a<s.heap.objs.size:=by obtain⟨o,n,e,_⟩:=p1;exact lt_size e
 refine call_all_walk (wpAny_pyIter_list p1.isList ?_)
 have I1:Inv X pins σ H { s with heap:=s.heap.push { cls:=.type "list_iterator",data:=.fields #[.ref a,.int 0 0] } }:=I.kept (t':=s.toks) fun b o e=>get?_push_of_some _ e
 refine⟨s.heap.objs.size,_,_,its.toArray.size,_,_,fun i=>bs.getD i false,rfl,Walks.list (by simpa using I.ok.hd hc) s.heap.objs.size a (ne_of_lt hlt) its.toArray,⟨⟨_,get?_push_size _ rfl,rfl,rfl⟩,p1.isList.push _⟩,?_,fun h' tk hk=>?_⟩
 ·intro i v s' Q' E' hP hQ
  have:=bools_at r1 (i:=i) (v:=v) (by simpa using hP)
  subst this
  exact wpAny_truthy_bool hQ
 ·have f:=I.fpOk (H':=H) (le_refl _) (I.hok.fresh (le_refl _))
  refine⟨.bl (bs.all id),H,I1.turned (it:=s.heap.objs.size) (fun b o hb e=>hk b o (by simpa using hb) e) f.1 f.2.1 f.2.2.2.1 f.2.2.2.2.1 f.2.2.2.2.2,?_,q⟩
  rw[size_toArray,←l1,range_all]
  rfl
theorem zgS(hc:X.calm=true):wp X (.type "set") (fun xs H Q=>∃(a:Addr)(ns:List Int),xs=[.ref a]∧SqL X.K H a (ns.map V.int)∧ns.length<4000 ∧
 ∀l,H l=none→Q (.ref l) (upd H l (.set (fun k=>(firstMet (fun i=>ns.getD i 0) ns.length).any (·== k)) (firstMet (fun i=>ns.getD i 0) ns.length).length))):=by
 intro pins s σ H xs us Q I r h
 obtain⟨a,ns,rfl,hS,hz,q⟩:=h
 obtain⟨u,rfl,ru⟩:=r.one
 cases ru
 obtain⟨its,r1,p1,z1⟩:=I.list hS
 have l1:=r1.length
 rw[length_map] at l1
 have hsb:scanBound=4096:=rfl
 refine call_set_list (ns:=ns) (I.ok.hd hc) p1.isList (by simpa using zaE r1) (by rw[size_toArray];omega) fun h' tk hset hk=>?_
 have esz:its.toArray.size=ns.length:=by rw[size_toArray];omega
 rw[esz] at hset
 refine⟨.ref s.heap.objs.size,_,I.laid (t':=tk) (o:=.set _ _) (fun b o e=>hk b o (lt_size e) e) (le_refl _) hset,rfl,q _ (I.hok.fresh (le_refl _))⟩
theorem call_len_set:wp X (.builtin "len") (fun xs H Q=>∃a S n,xs=[.ref a]∧H a=some (.set S n)∧Q (.int n) H):=by
 intro pins s σ H xs us Q I r h
 obtain⟨a,S,n,rfl,hS,q⟩:=h
 obtain⟨u,rfl,ru⟩:=r.one
 cases ru
 obtain⟨o,es,ep,t,ho,hex,hd,_,_,hsz,hf,hn⟩:=I.hok a _ hS
 have hsb:scanBound=4096:=rfl
 refine PySem.call_len_set ho hex hd hf (by omega) ⟨.int n,H,I.tok _,⟨s.toks+1,?_⟩,q⟩
 rw[hn]
end
theorem zfU(ns:List Int):firstMet (fun i=>ns.getD i 0) ns.length=ns.foldl step_dedup []:=by
 unfold firstMet
 congr 1
 refine ext_getElem (by simp) fun i h1 h2=>?_
 rw[getElem_map,getElem_range,getD_eq_getElem?_getD,getElem?_eq_getElem h2]
 rfl
theorem dedup_le(acc ns:List Int):(ns.foldl step_dedup acc).length≤acc.length+ns.length:=by
 induction ns generalizing acc with
 | nil=>exact le_refl _
 | cons a ns ih =>
   rw[foldl_cons]
   refine le_trans (ih _) ?_
   rw[step_length,length_cons]
   split <;> omega
theorem zjm(acc ns:List Int)(hacc:acc.Nodup):(ns.foldl step_dedup acc).length=acc.length+ns.length↔(acc++ns).Nodup:=by
 induction ns generalizing acc with
 | nil=>simpa using hacc
 | cons a ns ih =>
   rw[foldl_cons]
   by_cases h:acc.any (·== a)=true
   ·have e:step_dedup acc a=acc:=by unfold step_dedup;rw[if_pos h]
    rw[e]
    have hm:a∈acc:=by
     obtain⟨x,hx,hb⟩:=List.any_eq_true.mp h
     have:x=a:=by simpa using hb
     rw[←this];exact hx
    constructor
    ·intro q
     have:=dedup_le acc ns
     rw[length_cons] at q
     omega
    ·intro q
     rw[nodup_append] at q
     exact absurd rfl (q.2.2 a hm a mem_cons_self)
   ·have e:step_dedup acc a=acc++[a]:=by unfold step_dedup;rw[if_neg h]
    have hm:a∉acc:=fun hm=>h (List.any_eq_true.mpr ⟨a,hm,by simp⟩)
    have hn:(acc++[a]).Nodup:=by
     rw[nodup_append]
     exact⟨hacc,by simp,fun x hx y hy z=>hm (by rw[List.mem_singleton.mp hy] at z;rw[←z];exact hx)⟩
    rw[e]
    have:=ih (acc++[a]) hn
    rw[append_assoc,List.singleton_append] at this
    rw[←this,length_append,length_singleton,length_cons]
    omega
theorem ziM(ns:List Int):(firstMet (fun i=>ns.getD i 0) ns.length).length=ns.length↔ns.Nodup:=by
 rw[zfU]
 have:=zjm [] ns nodup_nil
 simpa using this
def tMid(t:TS):TS:=fun D σ H=>∃P:St→Hp→Prop,t { D with nx:=P } σ H∧∀σ' H',P σ' H'→D.nx σ' H'
theorem zbe{X:Cx}{st:Stmt}{t:TS}(h:PS X st t):PS X st (tMid t):=by
 intro pins s σ H D I hw
 obtain⟨P,h1,h2⟩:=hw
 refine thn (h pins s σ H _ I h1) fun f s' q=>?_
 cases f with
 | next=>obtain⟨σ',H',I',q⟩:=q;exact⟨σ',H',I',h2 _ _ q⟩
 | brk=>exact q
 | cont=>exact q
 | ret u=>exact q
structure Fly (P:Program) (w:World) (outer:List Env) (H:Hp) (s:Shared) (x:Addr) (cls:Value) (H':Hp) (s':Shared):Prop where
 os:s'.os=s.os
 bare:AllBare s'.gens
 ex:∃B a0,FlyingW B outer x cls a0 s'.heap∧HOk P w H' B∧(∀b o,s.heap.get? b=some o→H b=none→b∉frs outer→B.get? b=some o)∧∀b o,s.heap.get? b=some o→b∉frs outer→∃o',B.get? b=some o'
 slot:∀b o,s.heap.get? b=some o→H b=none→b∈frs outer→∃sl,s'.heap.get? b=some { o with slots:=sl }
 free:∀b o,s.heap.get? b=some o→H b=none→H' b=none
 tups:∀b xs,H b=some (.tup xs)→H' b=some (.tup xs)
 frzs:∀b o u,H b=some (.frz o u)→H' b=some (.frz o u)
 tbls:∀b ps,H b=some (.tbl ps)→∃more,H' b=some (.tbl (ps++more))
 new:H' x=none
def CX1(P:Program)(w:World):CXT:=fun outer H s E e s'=>∃x cls H',e=.ref x∧Fly P w outer H s x cls H' s'∧E cls none H'
section
variable {P:Program}{w:World}{outer:List Env}{H H':Hp}{s s':Shared}{x:Addr}{cls:Value}
theorem ObjOk.obj{H:Hp}{h:Heap}{a:Addr}{o:HO}(x:ObjOk P w H h a o):∃ob,h.get? a=some ob:=by
 cases o with
 | lst xs=>obtain⟨_,_,_,_,e⟩:=x;exact⟨_,e⟩
 | tup xs=>obtain⟨_,_,_,ob,e,_⟩:=x;exact⟨ob,e⟩
 | dK kvs=>obtain⟨_,_,_,_,o,_,_,e,_⟩:=x;exact⟨o,e⟩
 | dT kvs=>obtain⟨_,_,_,_,o,_,_,e,_⟩:=x;exact⟨o,e⟩
 | set S n=>obtain⟨o,_,_,_,e,_⟩:=x;exact⟨o,e⟩
 | ins C dx fs=>obtain⟨_,_,_,e,_⟩:=x;exact⟨_,e⟩
 | own y=>obtain⟨o,e⟩:=x;exact⟨o,e⟩
 | xd fs=>obtain⟨_,⟨o,_,_,e,_⟩,_⟩:=x;exact⟨o,e⟩
 | rng lo hi=>obtain⟨_,_,_,e⟩:=x;exact⟨_,e⟩
 | frz ob u=>obtain⟨e,_⟩:=x;exact⟨_,e⟩
 | tbl ps=>exact⟨_,(show h.get? a=some _ from x)⟩
 | met f y=>exact⟨_,(show h.get? a=some _ from x)⟩
 | ext φ=>obtain⟨_,⟨o,e⟩,_⟩:=x;exact⟨o,e⟩
theorem Fly.un(f:Fly P w outer H s x cls H' s'){B h:Heap}{a0:Value}{l:List Env}(hB:HOk P w H' B)(k1:∀b o,s.heap.get? b=some o→H b=none→b∉frs outer→B.get? b=some o)(k2:∀b o,s.heap.get? b=some o→b∉frs outer→∃o',B.get? b=some o')
 (st:B.StaysIn h) (sl:∀b o,s.heap.get? b=some o→H b=none→b∈frs outer→∃q,h.get? b=some { o with slots:=q }) (nf:∀b∈frs outer,H b=none):Un (frs outer) [] H H' s.heap h where
 keep:=fun b o q n hb _=>st b o (k1 b o q n hb)
 slot:=fun b o q n hb _=>sl b o q n hb
 free:=fun b o q n _=>f.free b o q n
 there:=fun b o q _=>by
  by_cases hb:b∈frs outer
  ·obtain⟨z,e⟩:=sl b o q (nf b hb) hb
   exact⟨_,e⟩
  ·obtain⟨o',e⟩:=k2 b o q hb
   exact⟨o',st b o' e⟩
 tups:=f.tups
 frzs:=f.frzs
 tbls:=f.tbls
end
section
variable {X:Cx}{pins:List (Addr×Obj)}{σ:St}{H H':Hp}{s s':Shared}{x:Addr}{cls:Value}
theorem Inv.nodata(I:Inv X pins σ H s){b:Addr}(hb:b∈frs X.stack){o:Obj}(e:s.heap.get? b=some o):∀vs,o.data ≠ .fields vs:=by
 obtain⟨_,o',e',d⟩:=I.stack.mem hb
 rw[e] at e';cases e'
 exact d
def za7(h:Heap)(l:List Env):Heap:=hideAll h (frs l)
theorem zbO{h:Heap}{l:List Env}{b:Addr}{o:Obj}(e:h.get? b=some o)(n:b∉frs l):(za7 h l).get? b=some o:=hideAll_get _ e n
theorem zhd{h:Heap}{l:List Env}{b:Addr}{o:Obj}(e:(za7 h l).get? b=some o):h.get? b=some o:=of_hideAll _ e
theorem Inv.frameOk(I:Inv X pins σ H s):HOk X.prog X.w H (za7 s.heap X.stack):=fun a o e =>
 (I.hok a o e).stay (fun b u hb q=>zbO q fun z=>by
   have n:=I.stkFree b z
   rcases hb with hb | hb
   ·rw[hb,e] at n;cases n
   ·rw[n] at hb;cases hb) (fun _ q=>q) fun _ _ q=>q
end
abbrev XW:=St→Value→Hp→Prop
def Fl(X:Cx)(W:XW):Prop:=∀(pins:List (Addr×Obj)) (σ:St) (H:Hp) (s:Shared) (x:Addr) (cls:Value) (H':Hp) (s':Shared),Inv X pins σ H s→Fly X.prog X.w X.stack H s x cls H' s'→W σ cls H'→X.xe (.ref x) s'
def Md(X:Cx)(W:XW):Prop:=∀(pins:List (Addr×Obj)) (σ:St) (H:Hp) (s:Shared) (x:Addr) (cls:Value) (args:List Value) (h':Heap),Inv X pins σ H s→Heap.MadeExcOf s.heap h' x cls args→W σ cls H→X.xe (.ref x) { s with heap:=h' }
section
variable {P:Program}{w:World}{K:Frag}{mg:Str→Option Value}{base:Heap}{N:List Str}{qual:Str}{scope:Scope}{f:Addr}{cd:Value}{A:Around}{outer:List Env}{s0:Shared}{H0:Hp}{E:XK}
theorem fly_def:Fl (zbn (CX1 P w) P w K mg base N qual scope f cd A outer s0 H0 E) fun _ cls H'=>E cls none H':=by
 intro pins σ H s x cls H' s' I fl hE
 obtain⟨B,a0,hfl,hB,k1,k2⟩:=fl.ex
 have hst:frs (envOfC qual scope s0.heap.objs.size f cd::outer)=s0.heap.objs.size::frs outer:=rfl
 have old:∀b o,s0.heap.get? b=some o→b∉frs outer→b∉frs (envOfC qual scope s0.heap.objs.size f cd::outer):=fun b o e hb=>by
  rw[hst]
  exact fun z=>(List.mem_cons.mp z).elim (fun q=>absurd (lt_size e) (by rw[q];exact lt_irrefl _)) hb
 refine wpAny_leaves_onW (base:=B) (L:=s0.heap.objs.size) I.ok.frames rfl hfl fun h2 hfl2 up=>?_
 refine⟨x,cls,H',rfl,⟨fl.os.trans I.os,fl.bare,⟨B,a0,hfl2,hB,fun b o e n hb=>?_,fun b o e hb=>?_⟩,fun b o e n hb=>?_,fun b o e n=>?_,fun b xs e=>fl.tups b xs (I.base.tups b xs e),fun b o u e=>fl.frzs b o u (I.base.frzs b o u e),fun b ps e=>?_,fl.new⟩,hE⟩
 ·exact k1 b o (I.base.keep b o e n hb (by simp[zbn])) (I.base.free b o e n (by simp[zbn])) (old b o e hb)
 ·obtain⟨o1,e1⟩:=I.base.there b o e (by simp[zbn])
  exact k2 b o1 e1 (old b o e hb)
 ·obtain⟨sl,e1⟩:=I.base.slot b o e n hb (by simp[zbn])
  obtain⟨sl2,e2⟩:=fl.slot b _ e1 (I.base.free b o e n (by simp[zbn])) (mem_cons_of_mem _ hb)
  obtain⟨_,o',e',d⟩:=I.ok.funs.mem hb
  have eo:o'=o:=by
   have e'':s0.heap.get? b=some o':=e'
   rw[e] at e'';exact(Option.some.inj e'').symm
  subst eo
  obtain⟨sl3,e3⟩:=up b _ e2 d
  exact⟨sl3,e3⟩
 ·obtain⟨o1,e1⟩:=I.base.there b o e (by simp[zbn])
  exact fl.free b o1 e1 (I.base.free b o e n (by simp[zbn]))
 ·obtain⟨m1,e1⟩:=I.base.tbls b ps e
  obtain⟨m2,e2⟩:=fl.tbls b _ e1
  exact⟨m1++m2,by rw[e2,Array.append_assoc]⟩
theorem md_def:Md (zbn (CX1 P w) P w K mg base N qual scope f cd A outer s0 H0 E) fun _ cls H'=>E cls none H':=by
 intro pins σ H s x cls args h' I mk hE
 have hst:frs (envOfC qual scope s0.heap.objs.size f cd::outer)=s0.heap.objs.size::frs outer:=rfl
 have old:∀b o,s0.heap.get? b=some o→b∉frs outer→b∉frs (envOfC qual scope s0.heap.objs.size f cd::outer):=fun b o e hb=>by
  rw[hst]
  exact fun z=>(List.mem_cons.mp z).elim (fun q=>absurd (lt_size e) (by rw[q];exact lt_irrefl _)) hb
 have hl:s.heap.FunFrames (za7 s.heap (envOfC qual scope s0.heap.objs.size f cd::outer)) (envOfC qual scope s0.heap.objs.size f cd::outer) :=
  PySem.W.funFrames_hide I.stack fun env he b hb=>List.mem_filterMap.mpr ⟨env,he,hb⟩
 have hB:HOk P w H (za7 s.heap (envOfC qual scope s0.heap.objs.size f cd::outer)):=I.frameOk
 have hx:H x=none:=by
  cases q:H x with
  | none=>rfl
  | some o =>
    obtain⟨o',e⟩:=(I.hok x o q).obj
    rw[mk.new] at e;cases e
 refine wpAny_leaves_madeW (L:=s0.heap.objs.size) (h:=s.heap) (base:=za7 s.heap (envOfC qual scope s0.heap.objs.size f cd::outer)) I.ok.frames rfl (fun b o e=>zhd e) hl mk fun h2 t hfl2 _ _ up=>?_
 refine⟨x,cls,H,rfl,⟨I.os,I.bare,⟨_,_,hfl2,hB,fun b o e n hb=>?_,fun b o e hb=>?_⟩,fun b o e n hb=>?_,fun b o e n=>I.base.free b o e n (by simp[zbn]),I.base.tups,I.base.frzs,I.base.tbls,hx⟩,hE⟩
 ·exact zbO (I.base.keep b o e n hb (by simp[zbn])) (old b o e hb)
 ·obtain⟨o1,e1⟩:=I.base.there b o e (by simp[zbn])
  exact⟨o1,zbO e1 (old b o e hb)⟩
 ·obtain⟨sl,e1⟩:=I.base.slot b o e n hb (by simp[zbn])
  obtain⟨_,o',e',d⟩:=I.ok.funs.mem hb
  have eo:o'=o:=by
   have e'':s0.heap.get? b=some o':=e'
   rw[e] at e'';exact(Option.some.inj e'').symm
  subst eo
  obtain⟨sl3,e3⟩:=up b _ (mk.keeps _ _ e1) d
  exact⟨sl3,e3⟩
end
abbrev TJ:=St→Hp→Str→(Str→Hp→Prop)→Prop
def PJ(X:Cx)(es:List Expr)(t:TJ):Prop :=
 ∀(pins:List (Addr×Obj)) (s:Shared) (σ:St) (H:Hp) (acc:Str) (Q:Str→Hp→Prop),Inv X pins σ H s→t σ H acc Q →
  wpAny (model X.prog X.w) X.A (joinParts acc (evalEach es X.env)) (EP X pins σ fun v H'=>∃y,v=.str y∧Q y H') X.xe s
def jNil:TJ:=fun _ H acc Q=>acc.length≤sizeLine∧Q acc H
def jCons(te:TE)(t:TJ):TJ:=fun σ H acc Q=>te σ H fun x H1=>∃y,x=.str y∧(acc++y).length≤sizeLine∧t σ H1 (acc++y) Q
def tFmt(te:TE):TE:=fun σ H Q=>te σ H fun x H1=>(∃i,x=.int i∧i.natAbs.log2<1920∧Q (.str (toString i)) H1)∨(∃y,x=.str y∧y.length≤sizeLine∧Q (.str y) H1)
def tJoin(t:TJ):TE:=fun σ H Q=>t σ H Str.empty fun y H1=>Q (.str y) H1
section
variable {X:Cx}{e v1 v2:Expr}{es:List Expr}{te:TE}{t:TJ}{pos:Pos}
theorem pj_nil:PJ X [] jNil:=fun pins s σ H acc Q I h=>joinParts_nil ⟨.str acc,H,I.tok _,⟨_,rfl⟩,acc,rfl,h.2⟩ h.1
theorem zg8(he:PE X e te)(hr:PJ X es t):PJ X (e::es) (jCons te t):=by
 intro pins s σ H acc Q I h
 show wpAny _ _ (joinParts acc (eval e X.env::evalEach es X.env)) _ _ s
 refine joinParts_cons (thn (he pins s σ H _ I h) fun u s1 ⟨x,H1,I1,r1,y,ey,hz,q⟩=>?_)
 subst ey
 obtain⟨t',rfl⟩:=r1
 exact⟨hz,hr pins s1 σ H1 _ Q I1 q⟩
theorem pe_fmt(he:PE X e te):PE X (.FormattedValue e (-1) none pos) (tFmt te):=by
 intro pins s σ H Q I h
 refine FormattedValue_plain (thn (he pins s σ H _ I h) fun u s1 ⟨x,H1,I1,r1,q⟩=>?_)
 rcases q with⟨i,ex,hd,q⟩|⟨y,ex,hz,q⟩
 ·subst ex
  obtain⟨t',rfl⟩:=r1
  exact formatField_int_small hd ⟨.str (toString i),H1,I1.tok _,⟨_,rfl⟩,q⟩
 ·subst ex
  obtain⟨t',rfl⟩:=r1
  exact formatField_str (fun t2 tk=>⟨.str y,H1,I1.tok _,⟨_,rfl⟩,q⟩) hz
theorem pe_fstr{za3:List Expr}(h:PJ X (v1::v2::za3) t):PE X (.JoinedStr (v1::v2::za3) pos) (tJoin t):=by
 intro pins s σ H Q I q
 exact JoinedStr_many (thn (h pins s σ H Str.empty _ I q) fun u s1 ⟨x,H1,I1,r1,y,ey,q1⟩=>⟨x,H1,I1,r1,by subst ey;exact q1⟩)
end
def bmV:List Value:=[.type "ValueError",.type "Exception",.type "BaseException",.type "object"]
abbrev ExC(K:Frag)(C:Addr):Prop:=excIn K C bmV "ValueError.__new__"=true
def zu(K:Frag)(C D:Addr):Bool:=match K.lookup C with
 | some ⟨_,_,.cls cd,_⟩=>cd.mro.contains (.ref D)
 | _=>false
theorem zhs{K:Frag}{h:Heap}{C:Addr}(hk:K.In h)(q:ExC K C):∃tl N nm qn bs hd sn sb ab cl dd a0 a1 a2 a3 a5 mN,
 h.get? C=some (excClassObj nm qn C N bs tl hd sn sb ab cl dd a0 a1 a2 a3 a5 "ValueError.__new__")∧h.Ns N mN∧mN "__init__"=none∧OwnTail h bmV tl∧∀D,(Value.ref C::tl).contains (.ref D)=zu K C D:=by
 unfold ExC excIn at q
 split at q
 next dd cd sl ho =>
  split at q
  next C' tl a0 a1 a2 a3 n a5 em es =>
   simp only[Bool.and_eq_true,beq_iff_eq,Bool.not_eq_true'] at q
   obtain⟨⟨⟨⟨⟨z1,z2⟩,z3⟩,z4⟩,z5⟩,z6⟩:=q
   subst z1 z2
   have sb:∀D,(Value.ref C'::tl).contains (.ref D)=zu K C' D:=fun D=>by unfold zu;rw[ho];show _=cd.mro.contains _;rw[em]
   obtain⟨nm,bs,mro,ns,qn,hd,sn,sub,ab,cl,del⟩:=cd
   dsimp only at em z3 z5 z6
   subst em z3
   obtain⟨l⟩:=sl
   have es':l=[a0,a1,a2,a3,some (.builtin "ValueError.__new__"),a5]:=es
   subst es'
   exact⟨tl,ns,nm,qn,bs,hd,sn,sub,ab,cl,dd,a0,a1,a2,a3,a5,_,hk _ _ ho,.of_isNs (PySem.W.isNs_of_in hk z5),PySem.W.nsMap_none_of_in hk z5 z6,PySem.W.tail_of_in hk z4,sb⟩
  next=>cases q
 next=>cases q
section
variable {X:Cx}
def tRaise(C:Addr)(W:XW)(ta:TA):TS:=fun _ σ H=>ta σ H fun vs H1=>vs.length≤sizeLine∧W σ (.ref C) H1
theorem wL{x:Str}{C:Addr}{W:XW}{np cpos pos:Pos}{e:Expr}{es:List Expr}{ta:TA}(hc:X.calm=true)(md:Md X W)(hg:Gl X x)(hm:X.mg x=some (.ref C))(hx:ExC X.K C)(ha:PA X (e::es) ta)
 (hdb:(x==("__debug__":Str))=false:=by decide) (he:starEach (e::es) X.env=(false,eval e X.env)::starEach es X.env:=by rfl) (hpl:(backTo cpos (starEach es X.env)).any (·.1)=false:=by rfl) :
 PS X (.Raise (some (.Call (.Name x np) (e::es) [] cpos)) none pos) (tRaise C W ta):=by
 intro pins s σ H D I h
 obtain⟨tl,N,nm,qn,bs,hd,sn,sb,ab,cl,dd,a0,a1,a2,a3,a5,mN,hC,hN,hni,T,_⟩:=zhs I.mod.kin hx
 refine wpAny_Raise_call_subT (C:=C) (bm:=tl) (nm:=nm) (q:=qn) (N:=N) (bs:=bs) (hdct:=hd) (sn:=sn) (sub:=sb) (ab:=ab) (col:=cl) (dd:=dd) (k0:=a0) (k1:=a1) (k2:=a2) (k3:=a3) (k5:=a5) PySem.F.excBase_ValueError (mN:=mN) (T.hasType (by decide)) (I.ok.hd hc) (by rw[he];show(false || (backTo cpos (starEach es X.env)).any (·.1))=false;rw[hpl];rfl) hni (zbC I hg hm ⟨rfl,?_⟩ hdb)
 have hA:=ha cpos pins s σ H _ I h
 rw[he] at hA ⊢
 refine Calls.evalArgs_plain (thn hA fun us s1 ⟨vs,H1,I1,r1,hz,q⟩=>⟨rfl,by show us.length≤sizeLine;rw[←r1.length];exact hz,I1.bk _ _ hC,hN.keeps I1.bk,T.keeps I1.bk,fun h' x mk=>?_⟩)
 exact md pins σ H1 s1 x (.ref C) us h' I1 mk q
end
structure CanX (P:Program) (w:World) (K:Frag) (mg:Str→Option Value) (base:Heap) (k:Nat) (x:Str) (ps:List Str) (sp:Sp):Prop where
 ex:∃f fd,FnOk P w K mg base (CX1 P w) k f fd ps sp∧mg x=some (.ref f)∧keepIn K (.ref f)=true∧Binds K fd ps []
theorem CanX.of{P:Program}{w:World}{K:Frag}{mg:Str→Option Value}{base:Heap}{k:Nat}{x:Str}{ps:List Str}{sp:Sp}{f:Addr}{fd:FuncData}{qual:Str}{st:Stmt}
 (F:Fun K x qual st f fd) (G:FnOk P w K mg base (CX1 P w) k f fd ps sp) (hm:mg x=some (.ref f)) (b:Binds K fd ps []):CanX P w K mg base k x ps sp:=⟨f,fd,G,hm,F.kp,b⟩
theorem Fun.okX{P:Program}{w:World}{K:Frag}{mg:Str→Option Value}{base:Heap}{x qual:Str}{st:Stmt}{f:Addr}{fd:FuncData}{N ps:List Str}{k:Nat}{sp:Sp}(F:Fun K x qual st f fd)(S:FnScope N ps (zb st))(len:∀vs H Q E,sp vs H Q E→vs.length=ps.length)
 (hbody:∀(X:Cx)(W:XW)(cdv:Value)(A:Around)(outer:List Env)(s:Shared)(H:Hp)(vs:List V)(Q:VK)(E:XK),X=zbn (CX1 P w) P w K mg base N qual (zb st) f cdv A outer s H E→W=(fun _ cls H'=>E cls none H')→Fl X W→Md X W→Room k X.A→sp vs H Q E →
   ∃t,PSs X (zk st) t∧t { nx:=fun _ H'=>Q .non H',rt:=Q } (zaY N vs) H):FnOk P w K mg base (CX1 P w) (k+1) f fd ps sp:=by
 obtain⟨oc,od,kV,doc,pm,an,cdv,ct,osl,rfl,lk,hcd⟩:=F.ex
 refine fn_of lk hcd S len fun A outer s H vs Q E hr hsp=>?_
 exact hbody _ _ cdv A outer s H vs Q E rfl rfl fly_def md_def hr hsp
def tCallX(W:XW)(sp:Sp)(t:TA):TE:=fun σ H Q=>t σ H fun vs H1=>sp vs H1 Q fun cls _ H'=>W σ cls H'
section
variable {X:Cx}{k:Nat}{x:Str}{ps:List Str}{sp:Sp}{p pos:Pos}{e:Expr}{es:List Expr}{t:TA}{W:XW}
theorem zhh{pins:List (Addr×Obj)}{σ:St}{H:Hp}{s:Shared}{Q:VK}{us:List Value}{vs:List V}{f:Addr}{fd:FuncData}(F:FnOk X.prog X.w X.K X.mg X.base (CX1 X.prog X.w) k f fd ps sp)(hr:Room k X.A)(hb:Binds X.K fd ps [])(fl:Fl X W)
 (I:Inv X pins σ H s) (r:Vals vs us) (h:sp vs H Q fun cls _ H'=>W σ cls H'):wpAny (model X.prog X.w) X.A (call (.ref f) us) (EP X pins σ Q) X.xe s:=by
 have hl:us.length=ps.length:=by rw[←r.length];exact F.len _ _ _ _ h
 have hb':=hb s us I.kIn (by rw[append_nil];exact hl)
 rw[append_nil] at hb'
 refine wpAny_call (codeAny_mono (F.run X.A X.stack s H ⟨us,[]⟩ us vs Q _ hr I.env0 hb' r h) fun r s' hq=>?_)
 cases r with
 | error e =>
   obtain⟨y,cls,H',rfl,fly,w⟩:=hq
   exact fl pins σ H s y cls H' s' I fly w
 | ok fl' =>
   cases fl' with
   | ret u=>exact I.after hq
   | next=>exact False.elim hq
   | brk=>exact False.elim hq
   | cont=>exact False.elim hq
theorem zcO(C:CanX X.prog X.w X.K X.mg X.base k x ps sp)(fl:Fl X W)(hr:Room k X.A)(hg:Gl X x)(ha:PA X (e::es) t)(hdb:(x==("__debug__":Str))=false:=by decide)(he:starEach (e::es) X.env=(false,eval e X.env)::starEach es X.env:=by rfl)
 (hpl:(backTo pos (starEach es X.env)).any (·.1)=false:=by rfl):PE X (.Call (.Name x p) (e::es) [] pos) (tCallX W sp t):=by
 obtain⟨f,fd,F,hm,hk,hb⟩:=C.ex
 intro pins s σ H Q I h
 refine wpAny_Call_Name_kw (zbC I hg hm ?_ hdb)
 refine callWith_K (h₀:=X.base) I.ok.mod.kin hk (thn (ha pos pins s σ H _ I h) fun us s1 ⟨vs,H1,I1,r,q⟩=>⟨I1.kIn,?_⟩) he hpl
 exact zhh F hr hb fl I1 r q
end
def zco(x:Addr)(cls:Value):HO:=.ext fun h=>∃o,h.get? x=some o∧o.cls=cls
def zbH(X:Cx)(x:Addr):Cx:={ X with A:=X.A.mark (some (.ref x)),calm:=false,xe:=fun _ _=>False }
section
variable {X:Cx}{pins:List (Addr×Obj)}{σ:St}{H H':Hp}{s s':Shared}{x:Addr}{cls:Value}
theorem Cx.Ok.suite(ok:X.Ok):(zbH X x).Ok :=
 ⟨ok.mod,ok.kind,ok.glob,ok.blt,ok.above,ok.inj,ok.has,ok.cab,fun z=>Bool.noConfusion (show false=true from z),ok.frames,ok.stk,ok.exf,ok.bs,ok.bsz,ok.noex,ok.exfs,ok.funs,ok.frf⟩
theorem Inv.suite(I:Inv X pins σ H s):Inv (zbH X x) pins σ H s:=⟨I.ok.suite,I.os,I.bare,I.base,I.loc,I.cell,I.free,I.freeC,I.pin,I.hok,I.len⟩
theorem Inv.unsuite(ok:X.Ok)(I:Inv (zbH X x) pins σ H s):Inv X pins σ H s:=⟨ok,I.os,I.bare,I.base,I.loc,I.cell,I.free,I.freeC,I.pin,I.hok,I.len⟩
theorem Fly.inv(I:Inv X pins σ H s)(f:Fly X.prog X.w X.stack H s x cls H' s'):Inv X pins σ H' s':=by
 obtain⟨B,a0,hfl,hB,k1,k2⟩:=f.ex
 refine I.call' (ch:=[]) f.os (f.un (a0:=a0) (l:=X.stack) hB k1 k2 hfl.1 f.slot I.stkFree) (hB.kept hfl.1) f.bare fun b z=>nomatch z
theorem Fly.to(I:Inv X pins σ H s)(f:Fly X.prog X.w X.stack H s x cls H' s'){B h:Heap}{a0:Value}(hB:HOk X.prog X.w H' B)(k1:∀b o,s.heap.get? b=some o→H b=none→b∉frs X.stack→B.get? b=some o)
 (k2:∀b o,s.heap.get? b=some o→b∉frs X.stack→∃o',B.get? b=some o') (hfl:FlyingW B X.stack x cls a0 h) (up:s'.heap.UpToSlots h):Fly X.prog X.w X.stack H s x cls H' { s' with heap:=h } :=
 ⟨f.os,f.bare,⟨B,a0,hfl,hB,k1,k2⟩,fun b o e n hb=>by
  obtain⟨sl,e1⟩:=f.slot b o e n hb
  obtain⟨sl2,e2⟩:=up b _ e1 (show ∀vs,o.data ≠ .fields vs from I.nodata hb e)
  exact⟨sl2,e2⟩,f.free,f.tups,f.frzs,f.tbls,f.new⟩
theorem fly_land{M:Model}{E:Value→Shared→Prop}{Q:Unit→Shared→Prop}(I:Inv X pins σ H s)(f:Fly X.prog X.w X.stack H s x cls H' s')(hst:X.stack=X.env::X.outer)(hf:X.env.frame=some X.env.locals)
 (k:∀s'',Fly X.prog X.w X.stack H s x cls H' s''→Q () s''):wpAny M X.A (noteFrame (.ref x) X.env) (fun _ s2=>wpAny M X.A (setFlight (.ref x) none) Q E s2) E s':=by
 obtain⟨B,a0,hfl,hB,k1,k2⟩:=f.ex
 have hfl':=hfl
 rw[hst] at hfl'
 refine wpAny_looks_onW (base:=B) (by rw[←hst];exact I.ok.frames) hf hfl' fun h1 hh up1=>?_
 refine wpAny_landsW hh fun h2 hfl2 up2=>?_
 rw[←hst] at hfl2
 exact k _ (f.to I hB k1 k2 hfl2 (up1.trans up2))
theorem zgN{M:Model}{A:Around}{E:Value→Shared→Prop}{Q:Unit→Shared→Prop}(I:Inv X pins σ H s)(f:Fly X.prog X.w X.stack H s x cls H' s')
 (k:∀s'',Fly X.prog X.w X.stack H s x cls H' s''→Q () s''):wpAny M A (setFlight (.ref x) none) Q E s':=by
 obtain⟨B,a0,hfl,hB,k1,k2⟩:=f.ex
 exact lands_againW hfl fun h2 hfl2 up2=>k _ (f.to I hB k1 k2 hfl2 up2)
theorem Fly.there(f:Fly X.prog X.w X.stack H s x cls H' s'):∃o,s'.heap.get? x=some o∧o.cls=cls:=by
 obtain⟨B,a0,hfl,_⟩:=f.ex
 exact hfl.there
theorem Inv.track(I:Inv X pins σ H s)(hx:H x=none)(he:∃o,s.heap.get? x=some o∧o.cls=cls)(ne:x≠X.env.locals)(nc:∀y c,X.env.cells.lookup y=some c→c≠x)(np:∀p∈X.pn++pins,p.1≠x)(nb:X.s₀.heap.get? x=none):Inv X pins σ (upd H x (zco x cls)) s:=by
 obtain⟨o,eo,ec⟩:=he
 refine⟨I.ok,I.os,I.bare,⟨I.base.keep,I.base.slot,fun b ob q n hb=>?_,I.base.there,fun b xs q=>?_,fun b ob u q=>?_,fun b ps q=>?_⟩,I.loc,I.cell,?_,fun y c e=>?_,fun p hp=>?_,fun b u q=>?_,I.len⟩
 ·rw[zg (fun z=>by rw[z,nb] at q;cases q)];exact I.base.free b ob q n hb
 ·have:=I.base.tups b xs q;rw[zg (zj this hx)];exact this
 ·have:=I.base.frzs b ob u q;rw[zg (zj this hx)];exact this
 ·obtain⟨m,e⟩:=I.base.tbls b ps q
  exact⟨m,by rw[zg (zj e hx)];exact e⟩
 ·rw[zg (Ne.symm ne)];exact I.free
 ·rw[zg (nc y c e)];exact I.freeC y c e
 ·obtain⟨p1,p2,p3⟩:=I.pin p hp
  exact⟨p1,by rw[zg (np p hp)];exact p2,p3⟩
 ·by_cases hb:b=x
  ·subst hb
   rw[zf] at q;cases q
   exact⟨⟨o,eo,ec⟩,⟨o,eo⟩,fun h1 h2 ⟨o1,e1,c1⟩ k=>⟨o1,k o1 e1,c1⟩⟩
  ·rw[zg hb] at q
   exact(I.hok b u q).stay (fun c v _ z=>z) (fun c z=>by rw[zg (zj z hx)];exact z) fun c xs z=>by rw[zg (zj z hx)];exact z
theorem zeM{M:Model}{A:Around}{E:Value→Shared→Prop}{i:Nat}{n:Str}{pos:Pos}{Q:Unit→Shared→Prop}(I:Inv X pins σ H s)(hN:X.N.Nodup)(hi:X.N[i]? = some n)(hk:X.env.scope.names.lookup n=some .local)
 (h:∀s',Inv X pins (σ.set i none) H s'→Q () s'):wpAny M A (do bindName X.env n .none;unbindBehindTheSuite X.env n pos) Q E s:=by
 obtain⟨m,hn,hl⟩:=id I.loc
 have hcls:(X.env.scope.kind == .class || (X.env.scope.kind == .module && X.env.locals != X.env.globals))=false:=by rw[I.ok.kind];rfl
 refine wpAny_nameGoes_keeps hk hn hcls fun h' v hn' hs=>?_
 obtain⟨oL,_,_,hoL,_⟩:=id hn
 have lt:∀b o,X.s₀.heap.get? b=some o→b≠X.env.locals:=fun b o e=>ne_of_lt (lt_of_lt_of_le (lt_size e) I.ok.above)
 refine h _ ⟨I.ok,I.os,I.bare,⟨fun b o e q hb hx=>(hs.2 b (lt b o e)).trans (I.base.keep b o e q hb hx),fun b o e q hb hx=>?_,I.base.free,fun b o e hx=>?_,I.base.tups,I.base.frzs,I.base.tbls⟩,⟨_,hn',fun j y w e1 e2 e3=>?_⟩,fun y c e=>?_,I.free,I.freeC,fun p hp=>?_,fun b ob e=>?_,by simpa using I.len⟩
 ·obtain⟨sl,e1⟩:=I.base.slot b o e q hb hx
  exact⟨sl,(hs.2 b (lt b o e)).trans e1⟩
 ·obtain⟨o',e1⟩:=I.base.there b o e hx
  exact⟨o',(hs.2 b (lt b o e)).trans e1⟩
 ·have hji:j≠i:=fun z=>by
   subst z
   rw[List.getElem?_set_self (by rw[I.len];exact(List.getElem?_eq_some_iff.mp hi).1)] at e2
   cases e2
  rw[List.getElem?_set_ne (Ne.symm hji)] at e2
  obtain⟨u,r,q⟩:=hl j y w e1 e2 e3
  refine⟨u,r,?_⟩
  rcases q with⟨k,e⟩|⟨k,c,e,z⟩
  ·refine .inl ⟨k,?_⟩
   have:y≠n:=fun e=>hji (zfe hN e1 (e ▸ hi))
   simp[this,e]
  ·exact .inr ⟨k,c,e,z.sameBut hs (I.cne y c e)⟩
 ·obtain⟨w',z⟩:=I.cell y c e
  exact⟨w',z.sameBut hs (I.cne y c e)⟩
 ·obtain⟨e,q,ne,nf,d⟩:=I.pin p hp
  exact⟨(hs.2 p.1 ne).trans e,q,ne,nf,d⟩
 ·refine(I.hok b ob e).stay (fun c w' hc q=>(hs.2 c ?_).trans q) (fun _ q=>q) fun _ _ q=>q
  rintro rfl
  have nl:=I.free
  rcases hc with hc | hc
  ·rw[hc,e] at nl;cases nl
  ·rw[nl] at hc;cases hc
end
theorem zgo{M:Model}{A:Around}{E:Value→Shared→Prop}{h:Heap}{g:Array GenState}{d:Drawn}{t:Nat}{os:OsState}{K:Frag}{e C D:Addr}{oe:Obj}{Q:Bool→Shared→Prop}(hk:K.In h)(xC:ExC K C)(xD:ExC K D)
 (he:h.get? e=some oe) (hcls:oe.cls=.ref C) (hq:Q (zu K C D) ⟨h,g,d,t,os⟩):wpAny M A (excMatches (.ref e) (.ref D)) Q E ⟨h,g,d,t,os⟩:=by
 obtain⟨tl,N,nm,qn,bs,hd,sn,sb,ab,cl,dd,a0,a1,a2,a3,a5,mN,hC,hN,hni,T,sub⟩:=zhs hk xC
 obtain⟨tl',N',nm',qn',bs',hd',sn',sb',ab',cl',dd',b0,b1,b2,b3,b5,mN',hD,hN',hni',T',sub'⟩:=zhs hk xD
 have cB:(Value.ref D::tl').contains (.type "BaseException")=true:=by rw[List.contains_cons,T'.hasType (X:= "BaseException") (b:=true) (by decide),Bool.or_true]
 have cD:=sub D
 have f:=tc_notTuple
 unfold excMatches
 repeat (first | (with_reducible refine wpAny_loadPart_at he ?_;rw[hcls]) | with_reducible refine wpAny_loadPart_at hD ?_ | (with_reducible refine wpAny_isSubtype_exc hD ?_;rw[cB]) | (with_reducible refine wpAny_isSubtype_exc hC ?_;rw[cD]) | wp_step)
 all_goals (cases hb:zu K C D <;> (rw[hb] at hq;first | exact hq | (wp_walk;exact hq)))
def PH(X:Cx)(hs:List ExceptHandler)(th:Value→TS):Prop :=
 ∀(pins:List (Addr×Obj)) (s0 s:Shared) (σ:St) (H H':Hp) (x:Addr) (cls:Value) (D:Ends),Inv X pins σ H s0→Fly X.prog X.w X.stack H s0 x cls H' s→th cls D σ H'→wpAny (model X.prog X.w) X.A (handleBy (.ref x) X.env hs) (SP X pins D) X.xe s
def thNever:Value→TS:=fun _ _ _ _=>False
theorem ziq{X:Cx}{hs:List ExceptHandler}:PH X hs thNever:=fun _ _ _ _ _ _ _ _ _ _ _ h=>h.elim
def Ends.gone(D:Ends)(i:Nat):Ends:=⟨fun σ H=>D.nx (σ.set i none) H,D.rt,fun σ H=>D.bk (σ.set i none) H,fun σ H=>D.ct (σ.set i none) H⟩
def thAs(K:Frag)(Dx:Addr)(i:Nat)(ts:TS)(tr:Value→TS):Value→TS:=fun cls D σ H=>∃C,cls=.ref C∧ExC K C ∧
 if zu K C Dx=true then ∀x,H x=none→ts (D.gone i) (σ.set i (some (.ref x))) (upd H x (zco x (.ref C)))else tr cls D σ H
def thNo(K:Frag)(Dx:Addr)(ts:TS)(tr:Value→TS):Value→TS:=fun cls D σ H=>∃C,cls=.ref C∧ExC K C∧if zu K C Dx=true then ts D σ H else tr cls D σ H
section
variable {X:Cx}{x n:Str}{Dx:Addr}{np hpos:Pos}{b0:Stmt}{suite:List Stmt}{za3:List ExceptHandler}{ts:TS}{tr:Value→TS}{i:Nat}
theorem SP.back{pins:List (Addr×Obj)}{D:Ends}{y:Addr}(ok:X.Ok){f:Flow}{s:Shared}(h:SP (zbH X y) pins D f s):SP X pins D f s:=by
 cases f with
 | next=>obtain⟨σ',H',I,q⟩:=h;exact⟨σ',H',I.unsuite ok,q⟩
 | brk=>obtain⟨σ',H',I,q⟩:=h;exact⟨σ',H',I.unsuite ok,q⟩
 | cont=>obtain⟨σ',H',I,q⟩:=h;exact⟨σ',H',I.unsuite ok,q⟩
 | ret u=>obtain⟨v,σ',H',I,r,q⟩:=h;exact⟨v,σ',H',I.unsuite ok,r,q⟩
theorem ph_as(hg:Gl X x)(hm:X.mg x=some (.ref Dx))(hx:ExC X.K Dx)(hN:X.N.Nodup)(hi:X.N[i]? = some n)(hk:X.env.scope.names.lookup n=some .local)(hs:∀y,PSs (zbH X y) (b0::suite) ts)(hr:PH X za3 tr)(hex:X.ex=[]:=by rfl)
 (hdb:(x==("__debug__":Str))=false:=by decide):PH X (.ExceptHandler (some (.Name x np)) (some n) (b0::suite) hpos::za3) (thAs X.K Dx i ts tr):=by
 intro pins s0 s σ H H' y cls D I fl h
 obtain⟨C,rfl,hC,h⟩:=h
 have I1:Inv X pins σ H' s:=fl.inv I
 obtain⟨oe,he,hcls⟩:=fl.there
 refine wpAny_handleBy_cons (codeAny_handlers_test ?_) (by intro q;cases q)
 refine zbC (X:=zbH X y) I1.suite hg hm ?_ hdb
 refine zgo (K:=X.K) (g:=s.gens) (d:=s.drawn) (t:=s.toks) (os:=s.os) I1.kIn hC hx he hcls ?_
 cases hb:zu X.K C Dx with
 | false =>
   rw[hb,if_neg Bool.false_ne_true] at h
   exact hr pins s0 s σ H H' y (.ref C) D I fl h
 | true =>
   rw[hb,if_pos rfl] at h
   show codeAny _ _ (.handlers (.ref y) [.ExceptHandler none (some n) (b0::suite) hpos] X.env) _ s
   refine codeAny_handlers_suite_as ?_
   refine zgN I fl fun s2 fl2=>?_
   have I2:Inv X pins σ H' s2:=fl2.inv I
   have hyn:H' y=none:=fl2.new
   obtain⟨B,a0,hfl,hB,k1,k2⟩:=fl2.ex
   have nB:B.get? y=none:=hfl.2.1
   have nst:y∉frs X.stack:=fun z=>by
    obtain⟨_,o1,e1,d⟩:=hfl.2.2.1.mem z
    obtain⟨o2,vs,e2,_,d2,_⟩:=hfl.first
    rw[e1] at e2;cases e2
    exact d _ d2
   have n0:s0.heap.get? y=none:=by
    cases q:s0.heap.get? y with
    | none=>rfl
    | some o=>obtain⟨o',e⟩:=k2 y o q nst;rw[nB] at e;cases e
   have J:Inv X pins σ (upd H' y (zco y (.ref C))) s2:=by
    refine I2.track hyn fl2.there (fun z=>?_) (fun z c e q=>?_) (fun p hp q=>?_) ?_
    ·obtain⟨m,⟨o,_,_,ho,_⟩,_⟩:=I.loc
     rw[←z,n0] at ho;cases ho
    ·obtain⟨v,o,ho,_⟩:=I.cell z c e
     rw[q,n0] at ho;cases ho
    ·have:=(I.pin p hp).1
     rw[q,n0] at this;cases this
    ·cases q:X.s₀.heap.get? y with
     | none=>rfl
     | some o =>
       obtain⟨o',e⟩:=I.base.there y o q (by rw[hex];exact not_mem_nil)
       rw[n0] at e;cases e
   have J':Inv (zbH X y) pins σ (upd H' y (zco y (.ref C))) s2:=J.suite
   refine zeW (X:=zbH X y) J' hN hi (.inl hk) (show RelV (.ref y) (.ref y)from rfl) (fun s3 I3=>?_) (.inr hk)
   refine wpAny_mono (hs y pins s3 _ _ (D.gone i) I3 (h y hyn)) (fun f s4 q4=>?_) fun _ _ z=>False.elim z
   have q5:=SP.back I.ok q4
   cases f with
   | next=>obtain⟨σ',H2,I4,q⟩:=q5;exact zeM I4 hN hi hk fun s5 I5=>⟨_,_,I5,q⟩
   | brk=>obtain⟨σ',H2,I4,q⟩:=q5;exact zeM I4 hN hi hk fun s5 I5=>⟨_,_,I5,q⟩
   | cont=>obtain⟨σ',H2,I4,q⟩:=q5;exact zeM I4 hN hi hk fun s5 I5=>⟨_,_,I5,q⟩
   | ret u=>obtain⟨v,σ',H2,I4,r,q⟩:=q5;exact zeM I4 hN hi hk fun s5 I5=>⟨v,_,_,I5,r,q⟩
theorem zdB(hg:Gl X x)(hm:X.mg x=some (.ref Dx))(hx:ExC X.K Dx)(hs:∀y,PSs (zbH X y) (b0::suite) ts)(hr:PH X za3 tr)(hdb:(x==("__debug__":Str))=false:=by decide):
 PH X (.ExceptHandler (some (.Name x np)) none (b0::suite) hpos::za3) (thNo X.K Dx ts tr):=by
 intro pins s0 s σ H H' y cls D I fl h
 obtain⟨C,rfl,hC,h⟩:=h
 have I1:Inv X pins σ H' s:=fl.inv I
 obtain⟨oe,he,hcls⟩:=fl.there
 refine wpAny_handleBy_cons (codeAny_handlers_test ?_) (by intro q;cases q)
 refine zbC (X:=zbH X y) I1.suite hg hm ?_ hdb
 refine zgo (K:=X.K) (g:=s.gens) (d:=s.drawn) (t:=s.toks) (os:=s.os) I1.kIn hC hx he hcls ?_
 cases hb:zu X.K C Dx with
 | false =>
   rw[hb,if_neg Bool.false_ne_true] at h
   exact hr pins s0 s σ H H' y (.ref C) D I fl h
 | true =>
   rw[hb,if_pos rfl] at h
   show codeAny _ _ (.handlers (.ref y) [.ExceptHandler none none (b0::suite) hpos] X.env) _ s
   refine codeAny_handlers_suite ?_
   refine zgN I fl fun s2 fl2=>?_
   have I2:Inv X pins σ H' s2:=fl2.inv I
   exact wpAny_mono (hs y pins s2 _ _ D I2.suite h) (fun f s4 q4=>SP.back I.ok q4) fun _ _ z=>False.elim z
abbrev _root_.L2.Cx.inTry(X:Cx)(E:Value→Shared→Prop)(pn:List (Addr×Obj)):Cx:={ X with xe:=E,pn:=pn }
def tTry(tb:XW→TS)(th:Value→TS):TS:=fun D σ H=>∃W:XW,tb W D σ H∧∀σ1 cls H1,W σ1 cls H1→th cls D σ1 H1
theorem Inv.tried{E:Value→Shared→Prop}{pins:List (Addr×Obj)}{σ:St}{H:Hp}{s:Shared}(I:Inv X pins σ H s):Inv (X.inTry E (X.pn++pins)) [] σ H s :=
 ⟨⟨I.ok.mod,I.ok.kind,I.ok.glob,I.ok.blt,I.ok.above,I.ok.inj,I.ok.has,I.ok.cab,I.ok.hd,I.ok.frames,I.ok.stk,I.ok.exf,I.ok.bs,I.ok.bsz,I.ok.noex,I.ok.exfs,I.ok.funs,I.ok.frf⟩,I.os,I.bare,I.base,I.loc,I.cell,I.free,I.freeC,fun p hp=>I.pin p (by simpa using hp),I.hok,I.len⟩
theorem Inv.untried{E:Value→Shared→Prop}{pins pins1:List (Addr×Obj)}{σ:St}{H:Hp}{s:Shared}(I:Inv (X.inTry E (X.pn++pins)) pins1 σ H s):Inv X pins σ H s :=
 ⟨⟨I.ok.mod,I.ok.kind,I.ok.glob,I.ok.blt,I.ok.above,I.ok.inj,I.ok.has,I.ok.cab,I.ok.hd,I.ok.frames,I.ok.stk,I.ok.exf,I.ok.bs,I.ok.bsz,I.ok.noex,I.ok.exfs,I.ok.funs,I.ok.frf⟩,I.os,I.bare,I.base,I.loc,I.cell,I.free,I.freeC,fun p hp=>I.pin p (mem_append_left _ hp),I.hok,I.len⟩
theorem ps_try{body:List Stmt}{h0:ExceptHandler}{hs:List ExceptHandler}{pos:Pos}{tb:XW→TS}{th:Value→TS}(hst:X.stack=X.env::X.outer)(hf:X.env.frame=some X.env.locals)
 (hb:∀(E:Value→Shared→Prop)(pn:List (Addr×Obj)) (W:XW),Fl (X.inTry E pn) W→PSs (X.inTry E pn) body (tb W)) (hh:PH X (h0::hs) th):PS X (.Try body (h0::hs) [] [] pos) (tTry tb th):=by
 intro pins s σ H D I h
 obtain⟨W,h1,h2⟩:=h
 refine wpAny_Try_except ?_
 refine wpAny_mono (hb (fun e s₁=>wpAny (model X.prog X.w) X.A (noteFrame e X.env) (fun _ s₂=>wpAny (model X.prog X.w) X.A (setFlight e none) (fun _ s₃=>wpAny (model X.prog X.w) X.A (handleBy e X.env (h0::hs)) (SP X pins D) X.xe s₃) X.xe s₂) X.xe s₁) (X.pn++pins) W ?_ [] s σ H D I.tried h1) (fun f s1 q=>?_) fun e s1 q=>q
 ·intro pins1 σ1 H1 s1 x cls H' s' I1 fly w1
  exact fly_land (X:=X) (pins:=pins) I1.untried fly hst hf fun s2 fly2=>hh pins s1 s2 σ1 H1 H' x cls D I1.untried fly2 (h2 σ1 cls H' w1)
 ·cases f with
  | next=>obtain⟨σ',H',I',q⟩:=q;exact wpAny_execs_nil ⟨σ',H',I'.untried,q⟩
  | brk=>obtain⟨σ',H',I',q⟩:=q;exact⟨σ',H',I'.untried,q⟩
  | cont=>obtain⟨σ',H',I',q⟩:=q;exact⟨σ',H',I'.untried,q⟩
  | ret u=>obtain⟨v,σ',H',I',r,q⟩:=q;exact⟨v,σ',H',I'.untried,r,q⟩
end
theorem zgF{M:Model}{h:Heap}{x:Addr}{o:Obj}{t:Value}(e:h.get? x=some o)(c:o.cls=t):PySem.W.Looks M h (typeOf (.ref x)) t:=by
 intro A Q E s k q
 show wpAny M A (loadHead x >>= fun o=>pure o.cls) Q E s
 unfold loadHead
 exact wpAny_bind (wpAny_loadPart (k _ _ e) (wpAny_pure (by rw[c];exact q)))
section
variable {X:Cx}
end
theorem fl_no{X:Cx}:Fl X fun _ _ _=>False:=fun _ _ _ _ _ _ _ _ _ _ h=>h.elim
abbrev ClsN(K:Frag)(x:Str)(C:Addr):Prop:=nsIn K mainGlobals x=some (some (.ref C))
theorem ClsN.inj{K:Frag}{x:Str}{C D:Addr}(a:ClsN K x C)(b:ClsN K x D):C=D:=by
 have:=a.symm.trans b
 cases this
 rfl
theorem zhC{X:Cx}{x:Str}{C:Addr}{pos:Pos}(hg:Gl X x)(hm:X.mg x=some (.ref C))(hd:(x==("__debug__":Str))=false:=by decide):PE X (.Name x pos) (tC (.ref C)):=pe_glob hg hm rfl hd
section
variable {X:Cx}{K:Frag}
theorem zfO(h:X.K=K):IxR X (rIxL K):=by subst h;exact zz
theorem zhr(h:X.K=K):IxR X (rIxT K):=by subst h;exact ix_tup
theorem mt_indexK(h:X.K=K):MtM X "list.index" (rIndex K):=by subst h;exact zh4
theorem zcZ(h:X.K=K):wp X (.builtin "len") (fun xs H Q=>∃p ys,xs=[.ref p]∧(SqL K H p ys∨SqT K H p ys)∧Q (.int ys.length) H):=by subst h;exact zo
theorem zf2(h:X.K=K):wp X (.type "list") (fun xs H Q=>∃p ys,xs=[.ref p]∧(SqL K H p ys∨SqT K H p ys)∧∀l,H l=none→Q (.ref l) (upd H l (.lst ys))):=by subst h;exact zS
theorem pi_listK{tg l:Expr}{tl:TE}(h:X.K=K)(hl:PE X l tl):PI X tg l (iList K tl):=by subst h;exact zJ hl
theorem pe_bmK{o e:Expr}{es:List Expr}{to:TE}{t:TA}{name:Str}{apos cpos:Pos}{T id:String}{r:V→List V→Hp→VK→Prop}(h:X.K=K)(pa:PlainAttrs T)(slot:Slot T name id)(hty:typeOf (.builtin id)=pure (.type "method_descriptor"))(hm:MtR X id r)(ho:PE X o to)(ha:PA X (e::es) t)
 (hbase:attributeBase o name X.env (eval o X.env)=eval o X.env:=by rfl)
 (hfew:((backTo cpos (starEach (e::es) X.env)).all (fun x => !x.1) && (backToKw cpos (keywordEach [] X.env)).all (fun x=>x.1.isSome)
   && decide ((e::es).length+([]:List Keyword).length+(if([]:List Keyword).isEmpty then 0 else 1)<30))=true:=by rfl)
 (hline:(apos.endLine==cpos.line)=true:=by rfl) (hs:starEach (e::es) X.env=(false,eval e X.env)::starEach es X.env:=by rfl) (hplain:(backTo cpos (starEach es X.env)).any (·.1)=false:=by rfl) :
 PE X (.Call (.Attribute o name apos) (e::es) [] cpos) (tBM K T r to t):=by subst h;exact za0 pa slot hty hm ho ha hbase hfew hline hs hplain
end
theorem zbE{b:Bool}{A B:Prop}(h:b=true)(k:A):if b=true then A else B:=by rw[if_pos h];exact k
theorem zH{b:Bool}{A B:Prop}(h:b=false)(k:B):if b=true then A else B:=by rw[h,if_neg Bool.false_ne_true];exact k
section
variable {α:Type} [DecidableEq α]
def zec(acc:List α)(v:α):List α:=if v∈acc then acc else acc++[v]
def met(val:Nat→α)(i:Nat):List α:=((List.range i).map val).foldl zec []
theorem zeQ(val:Nat→α)(i:Nat):met val (i+1)=zec (met val i) (val i):=by
 unfold met;rw[range_succ,map_append,List.foldl_append];rfl
theorem zeV{acc:List α}{v k:α}:k∈zec acc v↔k∈acc∨k=v:=by
 unfold zec
 split
 ·rename_i h
  exact⟨.inl,fun z=>z.elim id fun e=>by rw[e];exact h⟩
 ·rw[List.mem_append,List.mem_singleton]
theorem zfd(acc:List α)(v:α):(zec acc v).length=if decide (v∈acc)=true then acc.length else acc.length+1:=by
 unfold zec
 by_cases h:v∈acc
 ·rw[if_pos h,decide_eq_true h,if_pos rfl]
 ·rw[if_neg h,decide_eq_false h,if_neg (by decide),length_append];rfl
theorem met_len(val:Nat→α):∀i,(met val i).length≤i
 | 0=>le_refl _
 | i+1=>by
   rw[zeQ,zfd]
   have:=met_len val i
   split <;> omega
theorem met_list(ts:List α)(d:α):met (fun i=>ts.getD i d) ts.length=ts.foldl zec []:=by
 unfold met
 congr 1
 refine ext_getElem (by simp) fun i h1 h2=>?_
 rw[getElem_map,getElem_range,getD_eq_getElem?_getD,getElem?_eq_getElem h2]
 rfl
theorem zhA(acc ts:List α):(ts.foldl zec acc).length≤acc.length+ts.length:=by
 induction ts generalizing acc with
 | nil=>exact le_refl _
 | cons a ts ih =>
   rw[foldl_cons]
   refine le_trans (ih _) ?_
   rw[zfd,length_cons]
   split <;> omega
theorem zfa(acc ts:List α)(hacc:acc.Nodup):(ts.foldl zec acc).length=acc.length+ts.length↔(acc++ts).Nodup:=by
 induction ts generalizing acc with
 | nil=>simpa using hacc
 | cons a ts ih =>
   rw[foldl_cons]
   by_cases h:a∈acc
   ·have e:zec acc a=acc:=by unfold zec;rw[if_pos h]
    rw[e]
    constructor
    ·intro q
     have:=zhA acc ts
     rw[length_cons] at q
     omega
    ·intro q
     rw[nodup_append] at q
     exact absurd rfl (q.2.2 a h a mem_cons_self)
   ·have e:zec acc a=acc++[a]:=by unfold zec;rw[if_neg h]
    have hn:(acc++[a]).Nodup:=by
     rw[nodup_append]
     exact⟨hacc,by simp,fun x hx y hy z=>h (by rw[List.mem_singleton.mp hy] at z;rw[←z];exact hx)⟩
    rw[e]
    have:=ih (acc++[a]) hn
    rw[append_assoc,List.singleton_append] at this
    rw[←this,length_append,length_singleton,length_cons]
    omega
theorem zig(ts:List α)(d:α):(met (fun i=>ts.getD i d) ts.length).length=ts.length↔ts.Nodup:=by
 rw[met_list]
 have:=zfa [] ts nodup_nil
 simpa using this
end
section
variable {prog:Program}{w:World}{A:Around}{R:Result→Shared→Prop}{it:Addr}{fp wr:List Addr}{G:Array GenState→Array GenState→Prop}{n:Nat}{P:Nat→Value→Prop}{St:Nat→Shared→Prop}
variable {α:Type} [DecidableEq α] {knd:KeyKind prog w α}
theorem zen{h h':Heap}{a:Addr}{S:α→Bool}{m:Nat}(x:h.SetOf knd a S m)(k:∀o,h.get? a=some o→h'.get? a=some o):h'.SetOf knd a S m:=by
 obtain⟨o,es,ep,t,ho,r⟩:=x
 exact⟨o,es,ep,t,k _ ho,r⟩
theorem ziF{h:Heap}{a:Addr}{S S':α→Bool}{m m':Nat}(x:h.SetOf knd a S m)(e:S=S')(e':m=m'):h.SetOf knd a S' m':=by subst e;subst e';exact x
theorem set_fill(W:WalksS prog w A.in1 it fp wr G n P St)(S:Addr)(hS:S∉fp)(val:Nat→α)(hv:∀i v,P i v→knd.is (val i) v=true∧v.scannable=true)(hb:n+1<scanBound):
 ∀(k i:Nat)(s:Shared),k+i=n→St i s→s.heap.SetOf knd S (fun x=>decide (x∈met val i)) (met val i).length →
  (∀s',Moved (S::wr) G s s'→s'.heap.SetOf knd S (fun x=>decide (x∈met val n)) (met val n).length→R (.ok (.ret .none)) s') →
  codeAny (model prog w) A (.builtin "set.update.loop" ⟨[.ref S,.ref it],[]⟩) R s:=by
 have hw:S∉wr:=fun z=>hS (W.sub _ z)
 intro k
 induction k with
 | zero =>
   intro i s hk st hs hR
   rw[Nat.zero_add] at hk
   subst hk
   refine codeAny_builtin F.entry_set_update_loop ?_
   rw[Around.under_plainId F.plain_set_update_loop _]
   refine wpAny_bind (W.done s _ _ st fun s' hm=>?_)
   exact wpAny_pure (hR s' (hm.mono fun b z=>mem_cons_of_mem _ z) (zen hs fun o e=>hm.heap S o hw e))
 | succ k ih =>
   intro i s hk st hs hR
   refine codeAny_builtin F.entry_set_update_loop ?_
   rw[Around.under_plainId F.plain_set_update_loop _]
   refine wpAny_bind (W.item i s _ _ (by omega) st fun v s' hP st' hm=>?_)
   obtain⟨kv,sv⟩:=hv i v hP
   have hs':=zen hs fun o e=>hm.heap S o hw e
   refine wpAny_bind (m:=holding [v] (setAdd S v)) (wpAny_holding ?_)
   unfold setAdd
   refine wpAny_holding (wpAny_bind (knd.pyHash kv ?_))
   refine wpAny_setAddHashed_of (knd:=knd) (s:={ s' with toks:=s'.toks+1 }) kv sv hs' (by have:=met_len val i;omega) fun h' hsb hs2=>?_
   have hs3:h'.SetOf knd S (fun x=>decide (x∈met val (i+1))) (met val (i+1)).length:=by
    refine ziF hs2 (funext fun x=>?_) ?_
    ·rw[zeQ]
     by_cases h1:x∈met val i
     ·rw[decide_eq_true h1,decide_eq_true (zeV.mpr (.inl h1)),Bool.true_or]
     ·by_cases h2:x=val i
      ·rw[decide_eq_true h2,decide_eq_true (zeV.mpr (.inr h2)),Bool.or_true]
      ·rw[decide_eq_false h1,decide_eq_false h2,decide_eq_false fun z=>(zeV.mp z).elim h1 h2];rfl
    ·rw[zeQ,zfd]
   refine wpAny_pure ⟨plainId_quiet F.plain_set_update_loop _,ih (i+1) _ (by omega) (W.frame _ s' _ _ st' (le_succ _) fun b hb o e=>?_) hs3 fun s'' hm''=>hR s'' ?_⟩
   ·rw[hsb.2 b fun z=>hS (by rw[←z];exact hb)];exact e
   ·refine Moved.trans W.gtrans ((hm.mono fun b z=>mem_cons_of_mem _ z).then_heap (le_succ _) fun b o hb e=>?_) hm''
    rw[hsb.2 b fun z=>hb (by rw[z];exact mem_cons_self)];exact e
end
section
variable {prog:Program}{w:World}{A:Around}{E:Value→Shared→Prop}{s:Shared}{α:Type} [DecidableEq α] {knd:KeyKind prog w α}
def Filled(knd:KeyKind prog w α)(s:Shared)(ks:List α)(s2:Shared):Prop :=
 ∃(h':Heap)(tk:Nat),s2={ s with heap:=h',toks:=tk }∧h'.SetOf knd s.heap.objs.size (fun k=>decide (k∈ks)) ks.length∧∀b o,b<s.heap.objs.size→s.heap.get? b=some o→h'.get? b=some o
set_option maxHeartbeats 3200000 in
theorem zh1{l:Addr}{items:Array Value}{val:Nat→α}{Q:Value→Shared→Prop}(hh:A.handled=none)(hl:s.heap.IsList l items)(hv:∀i v,items[i]? = some v→knd.is (val i) v=true∧v.scannable=true)(hb:items.size+1<scanBound)
 (h:∀s2,Filled knd s (met val items.size) s2→Q (.ref s.heap.objs.size) s2):wpAny (model prog w) A (call (.type "set") [.ref l]) Q E s:=by
 have hlt:l<s.heap.objs.size:=by obtain⟨o,e,_⟩:=hl;exact lt_size e
 obtain⟨c,tl,hmro⟩:=F.called_set.mro
 have hmade:=F.called_set.made
 have hsub:=F.called_set.sub
 refine wpAny_call (codeAny_of_tree ?_)
 show wpAny _ _ (callAny (.type "set") _) _ _ _
 refine wpAny_pure ⟨Code.quiet_builtin _ (by decide +kernel),codeAny_builtin F.entry_type_call ?_⟩
 rw[Around.under_plain (weight_type_call_type "set" [.ref l] []) rfl]
 have h1:=F.called_set.notType
 have h2:=F.called_set.canCreate
 have h3:=F.typeCall_set_1 (.ref l)
 repeat (any_goals (first | assumption | wp_step))
 refine codeAny_mono (code_set_new_1 (.ref l) (E:=E) (Q₁:=fun v s₁=>∃led:Bool,v=.ref s.heap.objs.size∧s₁={ s with heap:=s.heap.push { cls:=.type "set",dict:=none,data:=.set #[] 0 (.fresh 0 0 led) } }) fun led=>⟨led,rfl,rfl⟩) fun r s₁ hr=>?_
 rcases r with e | fl
 ·exact hr
 cases fl with
 | ret v =>
   obtain⟨led,rfl,rfl⟩:=hr
   generalize hob:({ cls:=.type "set",dict:=none,data:=.set #[] 0 (.fresh 0 0 led) }:Obj)=ob
   have hS:(s.heap.push ob).get? s.heap.objs.size=some ob:=get?_push_size _ (by rw[←hob];rfl)
   have hT:Shared.TypeIs { s with heap:=s.heap.push ob } (.ref s.heap.objs.size) "set":=⟨_,hS,by rw[←hob]⟩
   have h4:=F.called_set.init.lookup
   have h5:=F.called_set.init.bind (.ref s.heap.objs.size)
   repeat (any_goals (first | assumption | wp_step))
   refine codeAny_mono (codeAny_call_builtin (R:=wants (fun r s₂=>r=.none∧Filled knd s (met val items.size) s₂) E) F.called_set.init.plain F.entry_set_init (check_set_init_1 hT ?_)) fun r₂ s₂ hr₂=>?_
   ·have hl1:(s.heap.push ob).IsList l items:=hl.push _
    obtain⟨⟨ocls,odict,odata,oslots⟩,hol,hcl,nl,hdl⟩:=id hl1
    simp only at hcl hdl
    subst hcl hdl
    have h6:=F.sub_list_set
    have h7:=F.sub_list_frozenset
    have h8:(Value.type "list" == Value.type "dict")=false:=by decide
    subst hob
    unfold Builtin.«set.__init__» noKeywords Builtin.Frozenset.updateFrom
    generalize hPI:pyIter=PI
    wp_walk
    subst hPI
    refine wpAny_pyIter_list hl1 (wpAny_bind (wpAny_runValue ?_))
    have hsz:(s.heap.push { cls:=.type "set",dict:=none,data:=.set #[] 0 (.fresh 0 0 led) }).objs.size=s.heap.objs.size+1:=size_push ..
    refine set_fill (knd:=knd) ((Walks.list (by simp[hh]) _ l (by rw[hsz];exact ne_of_lt (lt_succ_of_lt hlt)) items).toS) s.heap.objs.size ?_ val hv hb items.size 0 _ rfl ⟨⟨_,get?_push_size _ rfl,rfl,rfl⟩,hl1.push _⟩ ?_ fun s' hm hS'=>?_
    ·rw[hsz]
     simp only[mem_cons,not_mem_nil,or_false,not_or]
     exact⟨ne_of_lt (lt_succ_self _),ne_of_gt hlt⟩
    ·exact ziF ((setObjOf_fresh (knd:=knd) led).setOf (get?_push_of_some _ hS) (by unfold scanBound;omega)) rfl rfl
    ·obtain⟨h',g',d',tk',os'⟩:=s'
     have eg:g'=s.gens:=hm.gens
     have ed:d'=s.drawn:=hm.drawn
     have eo:os'=s.os:=hm.os
     subst eg ed eo
     refine wpAny_pure (show wpAny _ _ (ret Value.none) _ _ _ from wpAny_pure ⟨rfl,h',tk',rfl,hS',fun b o hb e=>?_⟩)
     refine hm.heap b o ?_ (get?_push_of_some _ (get?_push_of_some _ e))
     rw[hsz]
     simp only[mem_cons,not_mem_nil,or_false,not_or]
     exact⟨ne_of_lt hb,ne_of_lt (lt_succ_of_lt hb)⟩
   ·rcases r₂ with e | fl₂
    ·exact hr₂
    cases fl₂ with
    | ret r =>
      obtain⟨rfl,hf⟩:=hr₂
      repeat (any_goals (first | assumption | wp_step))
      exact h _ hf
    | _=>exact hr₂.elim
 | _=>exact hr.elim
end
section
variable {X:Cx}
theorem zcP:OpR X (compareOp .LtE) (fun x y H Q=>∃i j,x=.str i∧y=.str j∧Q (.bl (!decide (j.cps.toList<i.cps.toList))) H):=by
 intro pins s σ H x y v u Q I rx ry h
 obtain⟨i,j,rfl,rfl,q⟩:=h
 obtain⟨t,rfl⟩:=rx
 obtain⟨t',rfl⟩:=ry
 exact PySem.P.le_str (zN I q rfl)
def rSlS:V→Option Int→Option Int→Hp→VK→Prop:=fun x lo hi H Q=>∃z,x=.str z∧z.length≤sizeLine∧Q (.str (PySem.Txt.slice z lo hi)) H
theorem part_as{v:Value}{o:Option Int}(h:IsPart v o):∃p:Option (Int×Tok),v=partValue p∧p.map (·.1)=o:=by
 cases h with
 | none=>exact⟨none,rfl,rfl⟩
 | int i t=>exact⟨some (i,t),rfl,rfl⟩
theorem sl_str:SlR X rSlS:=by
 intro pins s σ H x v vl vu lo hi sl Q I rx hs pl pu h
 obtain⟨z,rfl,hz,q⟩:=h
 obtain⟨t,rfl⟩:=rx
 obtain⟨l,rfl,rfl⟩:=part_as pl
 obtain⟨u,rfl,rfl⟩:=part_as pu
 refine⟨"str",_,PySem.F.slot_str_getitem.lookup,typeIs_str _ _ _,wpAny_getItem_str_slice (l:=l) (u:=u) (st:=none) hs rfl (post_val_or_str ⟨le_trans (PySem.Txt.slice_le z _ _) hz,fun t' k=>?_⟩)⟩
 exact⟨.str (PySem.Txt.slice z _ _),H,I.tok _,⟨t',rfl⟩,q⟩
def Its(z:Str):It:=⟨fun i _=>i<z.length,fun i H x H'=>H'=H∧∃c,z.cps[i]? = some c∧x=.str ⟨#[c]⟩,fun i _=>i=z.length⟩
theorem zhR{P:Program}{w:World}{K:Frag}{tg:Expr}(it:Addr)(T:String)(z:Str)(t:Tok)
 (hT : ["enumerate","zip","dict_itemiterator","dict_reverseitemiterator","odict_iterator","itertools.zip_longest","itertools.pairwise"].contains T=false)
 (W:∀A:Around,A.handled=none→Walks P w A it [it] [it] z.cps.size (SignAt z) (fun i h=>h.IsStrIter it T z t i))
 (slf:∀(A:Around)(i:Nat)(s:Shared)(Q:Value→Shared→Prop)(E:Value→Shared→Prop),s.heap.IsStrIter it T z t i→Q (.ref it) s→wpAny (model P w) A (pyIter (.ref it)) Q E s) :
 Turn P w K tg (Its z) [it] it (fun i h=>h.IsStrIter it T z t i) where
 mem:=by simp
 obj:=fun i h st b hb=>by
  have e:b=it:=by simpa using hb
  subst e
  obtain⟨o,e,c,d⟩:=st
  exact⟨o,e,fun v z=>by rw[d] at z;cases z⟩
 keep:=fun i h h' st k=>by obtain⟨o,e,r⟩:=st;exact⟨o,k it (by simp) o e,r⟩
 item:=by
  intro X hP hw hK hc i pins s σ H E I hf st hg
  subst hP hw hK
  obtain⟨f0,f1,f2,f3,f4,f5⟩:=hf it (by simp)
  refine(W X.A (I.ok.hd hc)).item i s _ _ hg st fun v h' tk hv st' kk=>?_
  obtain⟨c,u,ec,rfl⟩:=hv
  have I1:Inv X pins σ H { s with heap:=h',toks:=tk }:=I.turned (fun b o hb e=>kk b o (by simpa using hb) e) f0 f1 f3 f4 f5
  obtain⟨o,e,c1,d⟩:=id st'
  exact⟨_,rfl,go_of (s:={ s with heap:=h',toks:=tk }) (n:=T) e c1 d hT ⟨.str ⟨#[c]⟩,H,I1,⟨u,rfl⟩,⟨rfl,c,ec,rfl⟩,st',fun b hb=>(hf b hb).1⟩⟩
 done:=by
  intro X hP hw hK hc i pins s σ H E I hf st hg
  subst hP hw hK
  obtain⟨f0,f1,f2,f3,f4,f5⟩:=hf it (by simp)
  have hg:i=z.cps.size:=hg
  subst hg
  exact(W X.A (I.ok.hd hc)).done s _ _ st fun h' tk kk=>⟨rfl,I.turned (fun b o hb e=>kk b o (by simpa using hb) e) f0 f1 f3 f4 f5⟩
 self:=fun A i s Q E st h=>slf A i s Q E st h
def iStr(tl:TE):TI:=fun σ H R=>tl σ H fun x H1=>∃z,x=.str z∧R (Its z) H1
theorem pi_str{tg l:Expr}{tl:TE}(hl:PE X l tl):PI X tg l (iStr tl):=by
 intro pins s σ H R I h
 refine thn (hl pins s σ H _ I h) fun v s1 ⟨x,H1,I1,r1,q1⟩=>?_
 obtain⟨z,e,q⟩:=q1
 subst e
 obtain⟨t,rfl⟩:=r1
 have hf:∀b ∈ [s1.heap.objs.size],zaK X pins H1 b:=fun b hb=>by
  have e:b=s1.heap.objs.size:=by simpa using hb
  subst e
  exact I1.fpOk (le_refl _) (I1.hok.fresh (le_refl _))
 have hk:∀o:Obj,Inv X pins σ H1 { s1 with heap:=s1.heap.push o }:=fun o=>I1.kept (t':=s1.toks) fun b u e=>get?_push_of_some _ e
 cases ha:z.cps.all (·< 128)
 ·refine wpAny_pyIter_wide ha ⟨s1.heap.objs.size,[s1.heap.objs.size],_,_,H1,rfl,hk _,zhR _ "str_iterator" z t (by decide) (fun A hA=>Walks.strWide hA _ z t) (fun A i s Q E st h=>wpAny_pyIter_striter_wide st h),⟨_,get?_push_size _ rfl,rfl,rfl⟩,hf,q⟩
 ·refine wpAny_pyIter_ascii ha ⟨s1.heap.objs.size,[s1.heap.objs.size],_,_,H1,rfl,hk _,zhR _ "str_ascii_iterator" z t (by decide) (fun A hA=>Walks.strAscii hA _ z t) (fun A i s Q E st h=>wpAny_pyIter_striter_ascii st h),⟨_,get?_push_size _ rfl,rfl,rfl⟩,hf,q⟩
theorem zgm{z:Str}{c:St}{te:TE}{H:Hp}{fin:List V→Hp→Prop}(Pv:Nat→List V→Hp→Prop)(h0:Pv 0 [] H)(hl:∀i ys H,i≤z.length→Pv i ys H→ys.length≤i)(hz:z.length≤sizeLine)
 (hs:∀i d ys H,z.cps.toList[i]? = some d→Pv i ys H→te (some (.str ⟨#[d]⟩)::c) H fun y H3=>Pv (i+1) (ys++[y]) H3) (hd:∀ys H,Pv z.length ys H→fin ys H):zcv (Its z) c tYes te H fin:=by
 refine⟨fun i m ys H=>m=z.length-i∧i≤z.length∧Pv i ys H,⟨z.length,by simp,zero_le _,h0⟩,?_⟩
 rintro i m ys H ⟨rfl,hi,p⟩
 have hy:=hl i ys H hi p
 by_cases hlt:i<z.length
 ·refine .inr ⟨hlt,by omega,Pv (i+1),fun ys' H' p'=>⟨_,by omega,rfl,hlt,p'⟩,fun x H' y=>?_⟩
  obtain⟨e,d,ed,ex⟩:=y
  subst e ex
  exact zdG (B:=Pv (i+1) ys H') (hs i d ys _ (by rw[Array.getElem?_toList];exact ed) p)
 ·have e:i=z.length:=by omega
  subst e
  exact .inl ⟨rfl,by omega,hd ys H p⟩
theorem strs_val{ts:List Str}{us:List Value}(r:Vals (ts.map V.str) us){i:Nat}{v:Value}(h:us[i]? = some v)(d:Str):∃t,v=.str (ts.getD i d) t:=by
 have hl:=r.length
 rw[length_map] at hl
 have hi:i<ts.length:=by rw[hl];exact(List.getElem?_eq_some_iff.mp h).1
 obtain⟨u,e,ru⟩:=r.get (i:=i) (x:=.str ts[i]) (by rw[getElem?_map,getElem?_eq_getElem hi];rfl)
 rw[e] at h
 cases h
 obtain⟨t,rfl⟩:=ru
 exact⟨t,by rw[getD_eq_getElem?_getD,getElem?_eq_getElem hi];rfl⟩
def tLenSetS(K:Frag)(te:TE):TE:=fun σ H Q=>te σ H fun x H1=>∃(a:Addr)(ts:List Str),x=.ref a∧SqL K H1 a (ts.map V.str)∧ts.length<4000∧Q (.int (met (fun i=>ts.getD i "") ts.length).length) H1
theorem zi9{e:Expr}{te:TE}{p p2 pos pos2:Pos}(hc:X.calm=true)(hg:Gl X "len")(hm:X.mg "len"=none)(hg2:Gl X "set")(hm2:X.mg "set"=none)(he:PE X e te)
 (h1:starEach [.Call (.Name "set" p2) [e] [] pos2] X.env=[(false,eval (.Call (.Name "set" p2) [e] [] pos2) X.env)]:=by rfl) (h2:starEach [e] X.env=[(false,eval e X.env)]:=by rfl) :
 PE X (.Call (.Name "len" p) [.Call (.Name "set" p2) [e] [] pos2] [] pos) (tLenSetS X.K te):=by
 intro pins s σ H Q I h
 refine wpAny_Call_Name_kw (zbX I hg hm PySem.boot_len ?_)
 refine callWith_builtin1 ?_ h1 rfl
 rw[h1]
 show wpAny _ _ (spliced ((false,eval (.Call (.Name "set" p2) [e] [] pos2) X.env)::backTo pos [])) _ _ s
 refine Calls.spliced_cons ?_
 refine wpAny_Call_Name_kw (zbX I hg2 hm2 boot_set ?_)
 refine callWith_type1 ?_ h2 rfl
 rw[h2]
 show wpAny _ _ (spliced ((false,eval e X.env)::backTo pos2 [])) _ _ s
 refine Calls.spliced_cons (thn (he pins s σ H _ I h) fun v s1 ⟨x,H1,I1,r1,q1⟩=>?_)
 obtain⟨a,ts,rfl,hS,hz,q⟩:=q1
 cases r1
 obtain⟨its,rv,pl,hz2⟩:=I1.list hS
 have hl:=rv.length
 rw[length_map] at hl
 have hsb:scanBound=4096:=rfl
 refine Calls.spliced_nil ?_
 refine zh1 (knd:=strKind X.prog X.w) (val:=fun i=>ts.getD i "") (I1.ok.hd hc) pl.isList (fun i v hv=>?_) (by rw[size_toArray];omega) fun s2 ⟨h',tk,e2,hs,hk⟩=>?_
 ·obtain⟨t,rfl⟩:=strs_val rv (i:=i) (v:=v) (by simpa using hv) ""
  exact⟨beq_self_eq_true _,rfl⟩
 subst e2
 have I2:Inv X pins σ H1 { s1 with heap:=h',toks:=tk }:=I1.kept (t':=tk) fun b o e=>hk b o (lt_size e) e
 refine Calls.spliced_nil ?_
 have esz:its.toArray.size=ts.length:=by rw[size_toArray];omega
 rw[esz] at hs
 obtain⟨o,es,ep,t,ho,hex,hd,_,_,hsz,hf,hn⟩:=hs
 refine PySem.call_len_set ho hex hd hf (by omega) ⟨.int (met (fun i=>ts.getD i "") ts.length).length,H1,I2.tok _,⟨tk+1,?_⟩,q⟩
 rw[hn]
theorem zdj{ts:List Str}{i:Nat}(h:i<ts.length):(ts.map V.str)[i]? = some (.str (ts.getD i "")):=by
 rw[getElem?_map,getElem?_eq_getElem h,getD_eq_getElem?_getD,getElem?_eq_getElem h];rfl
theorem zhX{ts:List Str}{i:Int}(h0:0≤i)(h:i<ts.length):atI (ts.map V.str) i=some (.str (ts.getD i.toNat "")):=zfS h0 (zdj (by omega))
theorem zgr(ts:List Str):(ts.map V.str).all wt=true:=by
 rw[all_map];exact List.all_eq_true.mpr fun _ _=>rfl
theorem ziH(ts:List Str)(c:Str):inV (.str c) (ts.map V.str)=decide (c∈ts):=by
 unfold inV
 induction ts with
 | nil=>rfl
 | cons a ts ih =>
   rw[map_cons,any_cons,ih]
   show((a==c) || _)=_
   by_cases h:a=c
   ·subst h;simp
   ·have:¬c=a:=fun e=>h e.symm
    simp[h,this]
theorem zdl{ts:List Str}{i:Nat}{x:V}(hx:(ts.map V.str)[i]? = some x):i<ts.length∧x=.str (ts.getD i ""):=by
 have hi:i<ts.length:=by have:=(List.getElem?_eq_some_iff.mp hx).1;rwa [length_map] at this
 refine⟨hi,?_⟩
 rw[zdj hi] at hx
 exact(Option.some.inj hx).symm
theorem zaC{ts:List Str}{i:Nat}(hi:i<ts.length):ts.take (i+1)=ts.take i++[ts.getD i ""]:=by
 rw[take_succ,getElem?_eq_getElem hi,getD_eq_getElem?_getD,getElem?_eq_getElem hi];rfl
theorem zdH{ts:List Str}{i:Nat}(hi:i<ts.length):ts.getD i "" ∈ ts:=by
 rw[getD_eq_getElem?_getD,getElem?_eq_getElem hi];exact getElem_mem hi
theorem lst_appS{H:Hp}{l:Addr}(ts:List Str)(x:Str):upd H l (.lst (ts.map V.str++[V.str x])) l=some (.lst ((ts++[x]).map V.str)):=zf.trans (congrArg (fun l=>some (HO.lst l)) (by rw[map_append];rfl))
theorem wE(x y:Str):(x++y).length=x.length+y.length:=by
 show(x.cps++y.cps).size=x.cps.size+y.cps.size
 exact Array.size_append
abbrev abc:Str:= "abcdefghijklmnopqrstuvwxyz"
def zcC(c:Nat):Bool:=decide (97≤c) && decide (c≤122)
theorem zeo(ns:List Int):∀i,i≤ns.length→preSum (fun i=>ns.getD i 0) i=(ns.take i).sum
 | 0,_=>by simp[preSum]
 | i+1,h=>by
   rw[yt (by omega),List.sum_append,←zeo ns i (by omega)]
   simp[preSum]
theorem ziI(hc:X.calm=true):wp X (.builtin "sum") (fun xs H Q=>∃(a:Addr)(ns:List Int),xs=[.ref a]∧SqL X.K H a (ns.map V.int)∧Q (.int ns.sum) H):=by
 intro pins s σ H xs us Q I r h
 obtain⟨a,ns,rfl,hS,q⟩:=h
 obtain⟨u,rfl,ru⟩:=r.one
 cases ru
 obtain⟨its,r1,p1,z1⟩:=I.list hS
 have l1:=r1.length
 rw[length_map] at l1
 have hlt:a<s.heap.objs.size:=by obtain⟨o,n,e,_⟩:=p1;exact lt_size e
 refine call_sum_walkAnyS (wpAny_pyIter_list p1.isList ?_)
 have I1:Inv X pins σ H { s with heap:=s.heap.push { cls:=.type "list_iterator",data:=.fields #[.ref a,.int 0 0] } }:=I.kept (t':=s.toks) fun b o e=>get?_push_of_some _ e
 refine⟨s.heap.objs.size,_,_,_,its.toArray.size,_,_,fun i=>ns.getD i 0,rfl,(Walks.list (by simpa using I.ok.hd hc) s.heap.objs.size a (ne_of_lt hlt) its.toArray).toS,⟨⟨_,get?_push_size _ rfl,rfl,rfl⟩,p1.isList.push _⟩,?_,?_,fun s' t' hm=>?_⟩
 ·intro b hb
  rw[size_push]
  simp only[mem_cons,not_mem_nil,or_false] at hb
  rcases hb with rfl | rfl
  ·exact lt_succ_self _
  ·exact lt_succ_of_lt hlt
 ·intro i v hP
  exact IntsAre.int_at (zaE r1) i v (by simpa using hP)
 ·obtain⟨h',g',d',tk',os'⟩:=s'
  have eg:g'=s.gens:=hm.gens
  have ed:d'=s.drawn:=hm.drawn
  have eo:os'=s.os:=hm.os
  subst eg ed eo
  have f:=I.fpOk (H':=H) (le_refl _) (I.hok.fresh (le_refl _))
  have I2:=I1.turned (t':=tk') (h':=h') (it:=s.heap.objs.size) (fun b o hb e=>hm.heap b o (by simpa using hb) e) f.1 f.2.1 f.2.2.2.1 f.2.2.2.2.1 f.2.2.2.2.2
  refine⟨.int ns.sum,H,I2,⟨t',?_⟩,q⟩
  rw[size_toArray,←l1,zeo ns _ (le_refl _),take_length]
end
def zaX(X:Cx)(x:Str)(N:List Str)(scope:Scope)(cl:List (Str×Addr))(cx:Addr)(C:Addr)(s2:Shared)(H2:Hp)(fp:List Addr):Cx where
 prog:=X.prog
 w:=X.w
 K:=X.K
 mg:=X.mg
 base:=X.base
 A:=X.A
 N:=N
 s₀:=s2
 H₀:=H2
 env:=compEnvC scope ((x,cx)::cl) C X.env
 outer:=X.stack
 stack:=X.stack
 ex:=fp
 fn:=fun y=>y==x
 calm:=X.calm
 pn:=[]
 xe:=fun _ _=>False
structure CompScopeC (sc:Scope) (N:List Str) (x:Str) (fr:List Str) (ix:List Nat) (scope:Scope):Prop where
 kind:scope.kind=.function
 one:∀a acc,cellsFrom a scope.names acc=(x,a)::acc
 push:∀h:Heap,pushCells h scope.names=h.push { cls:=.type "cell",data:=.cell none }
 cells:∀y∈scope.names,y.2=.cell→y.1=x
 lcl:∀y∈scope.names,y.2=.local→scope.names.lookup y.1=some .local
 lx:scope.names.lookup x=some .cell
 free:∀y∈scope.names,y.2=.free→sc.names.lookup y.1=some .cell∨sc.names.lookup y.1=some .free
 at':fr.map some=ix.map fun i=>N[i]?
 frk:∀y∈fr,scope.names.lookup y=some .free∧(sc.names.lookup y=some .cell∨sc.names.lookup y=some .free)
 nd:(x::fr).Nodup
theorem zel{env:Env}{scope:Scope}{y:Str}(h:scope.names.lookup y=some .cell∨scope.names.lookup y=some .free):(relabel scope env).names.lookup y=some .cell∨(relabel scope env).names.lookup y=some .free:=by
 rcases h with h | h
 ·left
  rw[wO,zah (ze3 env) h,zgY env y .cell (by decide)]
 ·exact za5 h
theorem CompScope.under{env:Env}{sc:Scope}{N:List Str}{x:Str}{fr:List Str}{ix:List Nat}{scope:Scope}(S:CompScope sc N x fr ix scope):CompScope (relabel sc env) N x fr ix scope :=
 ⟨S.kind,S.nocell,S.lcl,S.lx,fun y hy hf=>zel (S.free y hy hf),S.at',fun y hy=>⟨(S.frk y hy).1,zel (S.frk y hy).2⟩,S.nd⟩
theorem zf5{env:Env}{scope:Scope}{x y:Str}(hc:∀z∈scope.names,z.2=.cell→z.1=x)(h:(relabel scope env).names.lookup y=some .cell∨(relabel scope env).names.lookup y=some .free):(y,NameKind.free)∈scope.names∨y=x:=by
 rw[wO] at h
 have go:∀k,(k=.cell∨k=.free)→(scope.names.map (rl env)).lookup y=some k→(y,NameKind.free)∈scope.names∨y=x:=fun k hk q=>by
  obtain⟨k0,m,e⟩:=zaU (ze3 env) q
  by_cases hf:k0=.free
  ·rw[hf] at m;exact .inl m
  ·rw[zgY env y k0 hf] at e
   rcases hk with z | z
   ·exact .inr (hc _ m (e.trans z))
   ·exact absurd (e.trans z) hf
 rcases h with h | h
 ·exact go _ (.inl rfl) h
 ·exact go _ (.inr rfl) h
theorem wZ{x y:Str}{cx c:Addr}{cl:List (Str×Addr)}(h:((x,cx)::cl).lookup y=some c):(y=x∧c=cx)∨(y≠x∧cl.lookup y=some c):=by
 rw[lookup_cons] at h
 by_cases hy:y=x
 ·have hb:(y==x)=true:=by simp[hy]
  rw[hb] at h
  exact .inl ⟨hy,(Option.some.inj h).symm⟩
 ·rw[beq_eq_false_iff_ne.mpr hy] at h
  exact .inr ⟨hy,h⟩
theorem look_ne{x y:Str}{cx:Addr}{cl:List (Str×Addr)}(hy:y≠x):((x,cx)::cl).lookup y=cl.lookup y:=by
 rw[lookup_cons,beq_eq_false_iff_ne.mpr hy]
theorem look_eq{x:Str}{cx:Addr}{cl:List (Str×Addr)}:((x,cx)::cl).lookup x=some cx:=by
 rw[lookup_cons,beq_self_eq_true]
section
variable {X:Cx}{pins:List (Addr×Obj)}{σ:St}{H:Hp}{s:Shared}{x:Str}{fr:List Str}{ix:List Nat}{scope:Scope}{cl:List (Str×Addr)}{fp:List Addr}{C D cx:Addr}
theorem zhI(I:Inv X pins σ H s)(h1:∀y c,cl.lookup y=some c→X.env.cells.lookup y=some c){y:Str}{c:Addr}(e:cl.lookup y=some c):c<s.heap.objs.size:=by
 obtain⟨v,o,ho,_⟩:=I.cell y c (h1 y c e)
 exact lt_size ho
theorem blkC_ok(S:CompScopeC X.env.scope X.N x fr ix scope)(I:Inv X pins σ H s)(hf:∀b∈fp,zaK X pins H b)(hfo:∀b∈fp,b<s.heap.objs.size)(hC:s.heap.objs.size≤C)(hcx:s.heap.objs.size≤cx)
 (h1:∀y c,cl.lookup y=some c→X.env.cells.lookup y=some c) (h2:∀y,(y,NameKind.free)∈scope.names→∃c,cl.lookup y=some c):(zaX X x (x::fr) scope cl cx C s H fp).Ok where
 mod:=I.ok.mod
 kind:=S.kind
 glob:=I.ok.glob
 blt:=I.ok.blt
 above:=hC
 inj:=fun y z c a b=>by
  rcases wZ a with⟨a1,a2⟩|⟨a1,a2⟩
  ·rcases wZ b with⟨b1,b2⟩|⟨b1,b2⟩
   ·exact a1.trans b1.symm
   ·exact absurd (zhI I h1 b2) (by rw[a2];exact Nat.not_lt.mpr hcx)
  ·rcases wZ b with⟨b1,b2⟩|⟨b1,b2⟩
   ·exact absurd (zhI I h1 a2) (by rw[b2];exact Nat.not_lt.mpr hcx)
   ·exact I.ok.inj y z c (h1 y c a2) (h1 z c b2)
 has:=fun y hy=>by
  by_cases e:y=x
  ·subst e;exact⟨cx,look_eq⟩
  ·rcases zf5 (env:=X.env) (scope:=scope) S.cells hy with z | z
   ·obtain⟨c,hc⟩:=h2 y z
    exact⟨c,(look_ne e).trans hc⟩
   ·exact absurd z e
 cab:=fun y c h e=>by
  have hy:y=x:=by simpa [zaX] using h
  rcases wZ e with⟨_,z⟩|⟨z,_⟩
  ·rw[z];exact hcx
  ·exact absurd hy z
 hd:=I.ok.hd
 frames:=I.ok.frames
 stk:=.inl rfl
 exf:=fun b hb=>⟨fun z=>absurd (hfo b hb) (by rw[z];exact Nat.not_lt.mpr hC),fun y c e=>by
  rcases wZ e with⟨_,z⟩|⟨_,z⟩
  ·exact fun q=>absurd (hfo b hb) (by rw[←q,z];exact Nat.not_lt.mpr hcx)
  ·exact(hf b hb).2.2.2.2.1 y c (h1 y c z)⟩
 bs:=I.bs
 bsz:=le_trans I.ok.bsz I.sz
 noex:=fun b o e hb=>by
  rcases (hf b hb).2.2.2.1 with z | z
  ·exact I.ok.noex b o e z
  ·exact absurd (lt_of_lt_of_le (lt_size e) (le_trans I.ok.bsz z)) (lt_irrefl _)
 exfs:=fun b hb z=>by
  rcases List.mem_cons.mp (I.stkSub b z)with e | e
  ·exact(hf b hb).2.1 e
  ·exact(hf b hb).2.2.1 e
 funs:=I.stack
 frf:=I.stkFree
theorem CompScopeC.len(S:CompScopeC X.env.scope X.N x fr ix scope):fr.length=ix.length:=by have:=congrArg List.length S.at';simpa using this
theorem blkC_inv{s':Shared}{pn:List (Addr×Obj)}{m:Str→Option Value}(S:CompScopeC X.env.scope X.N x fr ix scope)(I:Inv X pins σ H s)(hf:∀b∈fp,zaK X pins H b)(hfo:∀b∈fp,b<s.heap.objs.size)(hC:s.heap.objs.size≤C)(hcx:s.heap.objs.size≤cx)
 (h1:∀y c,cl.lookup y=some c→X.env.cells.lookup y=some c) (h2:∀y,(y,NameKind.free)∈scope.names→∃c,cl.lookup y=some c)
 (ho:s'.os=s.os) (hg:s'.gens=s.gens) (k:∀b o,s.heap.get? b=some o→s'.heap.get? b=some o) (hn:s'.heap.Ns C m) (hcell:s'.heap.IsCell cx none)
 (hp:∀p∈pn,s'.heap.get? p.1=some p.2∧s.heap.objs.size≤p.1∧p.1≠C∧∀v,p.2.data ≠ .cell v) :
 Inv (zaX X x (x::fr) scope cl cx C s H fp) pn (none::cap ix σ) H s':=by
 obtain⟨mX,hnX,hlX⟩:=I.loc
 refine⟨blkC_ok S I hf hfo hC hcx h1 h2,ho,by rw[hg];exact I.bare,Un.kept k,⟨m,hn,fun i y v e1 e2 e3=>?_⟩,fun y c e=>?_,I.hok.fresh hC,fun y c e=>?_,fun p hp'=>?_,I.hok.kept k,by
  show(none::cap ix σ).length=(x::fr).length
  simp[zhv,S.len]⟩
 ·cases i with
  | zero=>cases e2
  | succ j =>
    have e1':fr[j]? = some y:=e1
    have e2':(cap ix σ)[j]? = some (some v):=e2
    have hmem:=mem_of_getElem? e1'
    have hyx:y≠x:=fun z=>(List.nodup_cons.mp S.nd).1 (by rw[←z];exact hmem)
    obtain⟨f1,f2⟩:=S.frk y hmem
    unfold cap at e2'
    rw[getElem?_map] at e2'
    cases ei:ix[j]? with
    | none=>rw[ei] at e2';cases e2'
    | some i =>
      rw[ei] at e2'
      have e3':(σ[i]?).join=some v:=Option.some.inj e2'
      have e4:σ[i]? = some (some v):=by
       cases q:σ[i]? with
       | none=>rw[q] at e3';cases e3'
       | some w=>rw[q] at e3';have:w=some v:=e3';rw[this]
      have e5:X.N[i]? = some y:=by
       have:=congrArg (fun l=>l[j]?) S.at'
       simp only[getElem?_map,e1',ei] at this
       simpa using this.symm
      have vis:Vis X.env.scope y:=by
       rcases f2 with z | z
       ·exact .inr (.inl z)
       ·exact .inr (.inr z)
      obtain⟨u,r,l⟩:=hlX i y v e5 e4 vis
      refine⟨u,r,.inr ⟨za5 f1,?_⟩⟩
      rcases l with⟨z,_⟩|⟨_,c,ec,hc⟩
      ·rcases f2 with q | q
       ·have q':=(show X.env.scope.names.lookup y=some .local from z).symm.trans q;cases q'
       ·have q':=(show X.env.scope.names.lookup y=some .local from z).symm.trans q;cases q'
      ·obtain⟨c',hc'⟩:=h2 y (PySem.mem_of_lookup f1)
       have:c'=c:=by have:=h1 y c' hc';rw[ec] at this;exact(Option.some.inj this).symm
       subst this
       refine⟨c',(look_ne hyx).trans hc',?_⟩
       obtain⟨o,ho',hd⟩:=hc
       exact⟨o,k _ _ ho',hd⟩
 ·rcases wZ e with⟨_,z⟩|⟨_,z⟩
  ·subst z;exact⟨none,hcell⟩
  ·obtain⟨v,o,ho',hd⟩:=I.cell y c (h1 y c z)
   exact⟨v,o,k _ _ ho',hd⟩
 ·rcases wZ e with⟨_,z⟩|⟨_,z⟩
  ·subst z;exact I.hok.fresh hcx
  ·exact I.freeC y c (h1 y c z)
 ·have hp'':p∈pn:=by simpa [zaX] using hp'
  obtain⟨q1,q2,q3,q4⟩:=hp p hp''
  refine⟨q1,I.hok.fresh q2,q3,fun z=>?_,q4⟩
  obtain⟨_,o,ho',_⟩:=I.stack.mem z
  exact absurd (lt_of_lt_of_le (lt_size ho') q2) (lt_irrefl _)
end
theorem zjj{M:Model}{A:Around}{E:Value→Shared→Prop}{s:Shared}{sc:Scope}{N:List Str}{x:Str}{fr:List Str}{ix:List Nat}{scope:Scope}{globals:Addr}{cl:List (Str×Addr)}{qual:Str}{outer:Env}{Q:Env→Shared→Prop}(S:CompScopeC sc N x fr ix scope)
 (h:Q (newEnv scope s.heap.objs.size globals ((x,s.heap.objs.size+1)::cl) qual none .none (some outer) builtinsNs) { s with heap:=(s.heap.push { cls:=.type "dict",data:=.dict #[] }).push { cls:=.type "cell",data:=.cell none } }) :
 wpAny M A (newFunctionEnv scope globals cl [] qual none .none (some outer)) Q E s:=by
 simp only[newFunctionEnv,Option.isSome_some,if_true]
 refine wpAny_bind (wpAny_alloc ?_)
 refine wpAny_bind (wpAny_layCells _ (fun name kind cells=>by cases hkc:kind==NameKind.cell <;> simp[hkc]) _ _ _ _ ?_)
 rw[S.one,S.push,show({ s with heap:=s.heap.push { cls:=.type "dict",data:=.dict #[] } }:Shared).heap.objs.size=s.heap.objs.size+1 from size_push ..]
 simp only[forIn_nil]
 exact wpAny_bind (wpAny_pure (wpAny_pure h))
section
variable {X:Cx}{x:Str}{fr:List Str}{ix:List Nat}{scope:Scope}{elt iter:Expr}{ifs:List Expr}{px pos:Pos}{wi:TI}{tc:TT}{te:TE}
theorem comp_runC{use:Option (Value→Sem Unit)}{Q:Value→Shared→Prop}{pins:List (Addr×Obj)}{s2:Shared}{σ:St}{H2:Hp}{it:Addr}{fp:List Addr}{tn:Nat→Heap→Prop}{J:It}{cl:List (Str×Addr)}(S:CompScopeC X.env.scope X.N x fr ix scope)(hc:X.calm=true)
 (hif:∀cl cx C s2 H2 fp,PIf (zaX X x (x::fr) scope cl cx C s2 H2 fp) ifs tc) (he:∀cl cx C s2 H2 fp,PE (zaX X x (x::fr) scope cl cx C s2 H2 fp) elt te)
 (h1:∀y c,cl.lookup y=some c→X.env.cells.lookup y=some c) (h2:∀y,(y,NameKind.free)∈scope.names→∃c,cl.lookup y=some c)
 (I2:Inv X pins σ H2 s2) (T:Turn X.prog X.w X.K (.Name x px) J fp it tn) (st2:tn 0 s2.heap) (f2:∀b∈fp,zaK X pins H2 b) {fin:List V→Hp→Prop} (wc:zcv J (cap ix σ) tc te H2 fin)
 (hQ:∀(D C:Addr)(ys:List V)(H':Hp)(s':Shared)(m:Str→Option Value),Inv X pins σ (upd H' D (.lst ys)) s'→H' D=none→s'.heap.Ns C m→D≠C→s2.heap.objs.size≤C→H' C=none→fin ys H' →
   compPost (model X.prog X.w) X.A X.xe use Q (.ref D) C (.ok .next) s') :
 wpAny (model X.prog X.w) X.A (newList []) (fun acc s₃=>wpAny (model X.prog X.w) X.A (newFunctionEnv scope X.env.globals cl [] X.env.qual none .none (some X.env)) (fun cenv s₄ =>
  codeAny (model X.prog X.w) X.A (.compStart (.ListComp elt [⟨.Name x px,iter,ifs,0⟩] scope pos) 0 (.ref it) acc { cenv with scope:=relabel scope X.env }) (compPost (model X.prog X.w) X.A X.xe use Q acc cenv.locals) s₄) X.xe s₃) X.xe s2:=by
 have hfo:∀b∈fp,b<s2.heap.objs.size:=fun b hb=>by
  obtain⟨o,e,_⟩:=T.obj 0 _ st2 b hb
  exact lt_size e
 refine wpAny_newObj_type (zjj S ?_)
 generalize hHp:s2.heap.push { cls:=.type "list",dict:=none,data:=.seq ([]:List Value).toArray }=Hp2
 have hCs:Hp2.objs.size=s2.heap.objs.size+1:=by rw[←hHp,size_push]
 have hDC:s2.heap.objs.size≠Hp2.objs.size:=by rw[hCs];exact ne_of_lt (lt_succ_self _)
 have hCle:s2.heap.objs.size≤Hp2.objs.size:=by rw[hCs];exact le_succ _
 have hcx:s2.heap.objs.size≤Hp2.objs.size+1:=le_trans hCle (le_succ _)
 have hDcx:s2.heap.objs.size≠Hp2.objs.size+1:=by rw[hCs];exact ne_of_lt (lt_succ_of_lt (lt_succ_self _))
 have hcs:(Hp2.push { cls:=.type "dict",data:=.dict #[] }).objs.size=Hp2.objs.size+1:=size_push ..
 have hcell:((Hp2.push { cls:=.type "dict",data:=.dict #[] }).push { cls:=.type "cell",data:=.cell none }).IsCell (Hp2.objs.size+1) none:=⟨_,by rw[←hcs];exact get?_push_size _ rfl,rfl⟩
 have hns₁:((Hp2.push { cls:=.type "dict",data:=.dict #[] }).push { cls:=.type "cell",data:=.cell none }).Ns Hp2.objs.size fun _=>none:=(Heap.Ns.new Hp2 (.type "dict")).push _
 have old:∀b o,s2.heap.get? b=some o→((Hp2.push { cls:=.type "dict",data:=.dict #[] }).push { cls:=.type "cell",data:=.cell none }).get? b=some o:=fun b o e=>get?_push_of_some _ (get?_push_of_some _ (hHp ▸ get?_push_of_some _ e))
 have hacc:((Hp2.push { cls:=.type "dict",data:=.dict #[] }).push { cls:=.type "cell",data:=.cell none }).get? s2.heap.objs.size=some { cls:=.type "list",data:=.seq ([]:List Value).toArray 0 }:=get?_push_of_some _ (get?_push_of_some _ (hHp ▸ get?_push_size _ rfl))
 generalize hcxe:Hp2.objs.size+1=cx at hcell hcx hDcx ⊢
 generalize hh1:(Hp2.push { cls:=.type "dict",data:=.dict #[] }).push { cls:=.type "cell",data:=.cell none }=h₁ at hcell hns₁ old hacc ⊢
 have st1:tn 0 h₁:=T.keep 0 _ _ st2 fun b _ o e=>old b o e
 have fpD:∀b∈fp,b≠s2.heap.objs.size:=fun b hb=>ne_of_lt (hfo b hb)
 generalize hD:s2.heap.objs.size=D at hacc hDC hDcx fpD ⊢
 have hDle:s2.heap.objs.size≤D:=le_of_eq hD
 generalize hC:Hp2.objs.size=C at hns₁ hDC hCle ⊢
 have oldD:∀b o,s2.heap.get? b=some o→b≠D:=fun b o e z=>absurd (lt_size e) (by rw[z,←hD];exact lt_irrefl _)
 obtain⟨W,⟨m0,w0⟩,turn⟩:=wc
 have loop:∀s₃:Shared,s₃={ s2 with heap:=h₁ } →
  codeAny (model X.prog X.w) X.A (.compLoop (.ListComp elt [⟨.Name x px,iter,ifs,0⟩] scope pos) 0 (.ref it) (.ref D) (compEnvC scope ((x,cx)::cl) C X.env))
   (compPost (model X.prog X.w) X.A X.xe use Q (.ref D) C) s₃:=by
  rintro s₃ rfl
  have I0:Inv (zaX X x (x::fr) scope cl cx C s2 H2 fp) [(D,{ cls:=.type "list",data:=.seq ([]:List Value).toArray 0 })] (none::cap ix σ) H2 { s2 with heap:=h₁ } :=
   blkC_inv S I2 f2 hfo hCle hcx h1 h2 rfl rfl old hns₁ hcell (fun p hp=>by
    have e:p=(D,{ cls:=.type "list",data:=.seq ([]:List Value).toArray 0 }):=by simpa using hp
    subst e
    exact⟨hacc,hDle,hDC,fun v z=>by cases z⟩)
  have stat:∀{its:Obj}{H':Hp},(∀b∈fp,H' b=none)→∀b∈fp,zaK (zaX X x (x::fr) scope cl cx C s2 H2 fp) [(D,its)] H' b:=fun {its H'} hn b hb=>by
   refine⟨hn b hb,fun z=>?_,fun z=>(I0.ok.exfs b hb z),.inl hb,fun y c e=>(I0.ok.exf b hb).2 y c e,fun p hp z=>?_⟩
   ·exact(I0.ok.exf b hb).1 z
   ·have e:p=(D,its):=by simpa [zaX] using hp
    subst e
    exact fpD b hb (Eq.symm z)
  refine zb7 (env:=compEnvC scope ((x,cx)::cl) C X.env)
   (fun n s'=>∃i ys its k v0 H',Vals ys its∧Inv (zaX X x (x::fr) scope cl cx C s2 H2 fp) [(D,{ cls:=.type "list",data:=.seq its.toArray k })] (v0::cap ix σ) H' s'∧tn i s'.heap∧(∀b∈fp,H' b=none)∧W i n ys H') ?_ m0
   ⟨0,[],[],0,none,H2,.nil,I0,st1,fun b hb=>(f2 b hb).1,w0⟩
  rintro n s3 ⟨i,ys,its,k,v0,H3,rv,I3,st3,fr3,w3⟩
  rcases turn i n ys H3 w3 with⟨stop,hz,hfin⟩|⟨go,hz,N,hN,step⟩
  ·refine thn (T.done (zaX X x (x::fr) scope cl cx C s2 H2 fp) rfl rfl rfl hc i _ s3 _ H3 _ I3 (stat fr3) st3 stop) fun r s4 ⟨hr,I4⟩=>?_
   subst hr
   have pD:=I4.pin (D,{ cls:=.type "list",data:=.seq its.toArray k }) (by simp[zaX])
   obtain⟨mC,hnC,_⟩:=I4.loc
   have hH3D:H3 D=none:=pD.2.1
   have hok':HOk X.prog X.w (upd H3 D (.lst ys)) s4.heap:=fun b u e=>by
    by_cases hb:b=D
    ·subst hb
     rw[zf] at e;cases e
     exact⟨hz,its,k,rv,pD.1⟩
    ·rw[zg hb] at e
     exact(I4.hok b u e).stay (fun c v _ q=>q) (fun c q=>by rw[zg (zj q hH3D)];exact q) fun c xs q=>by rw[zg (zj q hH3D)];exact q
   have b4:Un (frs X.stack) fp H2 H3 s2.heap s4.heap:=I4.base
   have un:Un (frs X.stack) fp H2 (upd H3 D (.lst ys)) s2.heap s4.heap :=
    ⟨b4.keep,b4.slot,fun b o q n hx=>by
     rw[zg (oldD b o q)];exact b4.free b o q n hx,b4.there,fun b xs q=>by rw[zg (zj (b4.tups b xs q) hH3D)];exact b4.tups b xs q,
     fun b o u q=>by rw[zg (zj (b4.frzs b o u q) hH3D)];exact b4.frzs b o u q,fun b ps q=>by
      obtain⟨more,e⟩:=b4.tbls b ps q
      exact⟨more,by rw[zg (zj e hH3D)];exact e⟩⟩
   have I5:Inv X pins σ (upd H3 D (.lst ys)) s4:=I2.call' (ch:=fp) I4.os un hok' I4.bare fun b hb=>by
    obtain⟨g0,g1,g2,g3,g4,g5⟩:=f2 b hb
    exact⟨g3,g1,g4,g5⟩
   exact hQ D C ys H3 s4 mC I5 hH3D hnC hDC hCle I4.free hfin
  ·refine thn (T.item (zaX X x (x::fr) scope cl cx C s2 H2 fp) rfl rfl rfl hc i _ s3 _ H3 _ I3 (stat fr3) st3 go) fun r s4 ⟨u,hr,h4⟩=>?_
   subst hr
   refine thn h4 fun _ s5 ⟨y,H5,I5,r5,y5,st5,fr5⟩=>?_
   have I5':=I5.pinned (stat fr5) (T.obj _ _ st5)
   have pg:PG (zaX X x (x::fr) scope cl cx C s2 H2 fp) (.Name x px) (zem 0):=yk S.nd rfl (.inr (by show(relabel scope X.env).names.lookup x=some .cell;rw[wO,zah (ze3 X.env) S.lx,zgY X.env x .cell (by decide)])) (.inl (by simp[zaX]))
   refine thn (pg _ s5 _ H5 y u (fun σ6 H6=>σ6=some y::cap ix σ∧H6=H5) I5' r5 ⟨rfl,rfl⟩) fun _ s6 ⟨σ6,H6,I6,e6,e6'⟩=>?_
   subst e6 e6'
   refine thn (hif cl cx C s2 H2 fp _ s6 _ _ _ I6 (step y _ y5)) fun b s7 ⟨H7,I7,q7⟩=>?_
   have again:∀{s8:Shared}{H8:Hp}{its':List Value}{k':Nat}{ys':List V},Vals ys' its'→Inv (zaX X x (x::fr) scope cl cx C s2 H2 fp) [(D,{ cls:=.type "list",data:=.seq its'.toArray k' })] (some y::cap ix σ) H8 s8→(∀b∈fp,∀o,s5.heap.get? b=some o→s8.heap.get? b=some o)→(∀b∈fp,H8 b=none)→N ys' H8 →
    ∃m,m<n∧∃i ys its k v0 H',Vals ys its∧Inv (zaX X x (x::fr) scope cl cx C s2 H2 fp) [(D,{ cls:=.type "list",data:=.seq its.toArray k })] (v0::cap ix σ) H' s8∧tn i s8.heap∧(∀b∈fp,H' b=none)∧W i m ys H' :=
    fun {s8 H8 its' k' ys'} rv8 I8 kp fr8 nn=>let ⟨m',hm,w8⟩:=hN ys' H8 nn;⟨m',hm,i+1,ys',its',k',some y,H8,rv8,I8,T.keep _ _ _ st5 kp,fr8,w8⟩
   cases b with
   | false =>
     rw[if_neg Bool.false_ne_true] at q7 ⊢
     refine again rv I7.unpinned (fun b hb o e=>(I7.pin (b,o) (by simp[zaX];exact .inr (yd hb e))).1) (fun b hb=>?_) q7
     obtain⟨o,e,d⟩:=T.obj _ _ st5 b hb
     exact(I7.pin (b,o) (by simp[zaX];exact .inr (yd hb e))).2.1
   | true =>
     rw[if_pos rfl] at q7 ⊢
     refine thn (he cl cx C s2 H2 fp _ s7 _ _ _ I7 q7) fun v s8 ⟨z,H8,I8,r8,q8⟩=>?_
     have pD:=I8.pin (D,{ cls:=.type "list",data:=.seq its.toArray k }) (by simp[zaX])
     have hvl:ys.length=its.length:=rv.length
     refine append_at (hsz:=by show its.toArray.size≤sizeLine;rw[size_toArray];omega) pD.1 fun h₉ hs₉ hD₉=>?_
     have eo:({ cls:=.type "list",data:=.seq (its.toArray.push v) (k+1) }:Obj)={ cls:=.type "list",data:=.seq (its++[v]).toArray (k+1) }:=by rw[push_toArray]
     rw[eo] at hD₉
     have pn8:∀b∈fp,∀o,s5.heap.get? b=some o→s8.heap.get? b=some o∧H8 b=none:=fun b hb o e=>by
      have q:=I8.pin (b,o) (by simp[zaX];exact .inr (yd hb e))
      exact⟨q.1,q.2.1⟩
     have J8:=I8.unpinned.pins_of (pins':=[]) (fun p hp=>by cases hp)
     have f2D:zaK (zaX X x (x::fr) scope cl cx C s2 H2 fp) [] H8 D:=⟨pD.2.1,pD.2.2.1,pD.2.2.2.1,.inr hDle,fun y c e z=>by
      rcases wZ e with⟨_,q⟩|⟨_,q⟩
      ·exact hDcx (z.symm.trans q)
      ·obtain⟨v,o,ho,_⟩:=I2.cell y c (h1 y c q)
       exact oldD c o ho z,fun p hp=>by cases hp⟩
     have I9:Inv (zaX X x (x::fr) scope cl cx C s2 H2 fp) [] (some y::cap ix σ) H8 { s8 with heap:=h₉ }:=J8.turned (t':=s8.toks) (it:=D) (fun b o hb e=>(hs₉.2 b hb).trans e) f2D.1 f2D.2.1 f2D.2.2.2.1 f2D.2.2.2.2.1 f2D.2.2.2.2.2
     refine again (its':=its++[v]) (k':=k+1) (ys':=ys++[z]) (rv.append (.cons r8 .nil)) (I9.pins_of fun p hp=>?_) (fun b hb o e=>(hs₉.2 b (fpD b hb)).trans (pn8 b hb o e).1) (fun b hb=>?_) q8
     ·have e:p=(D,{ cls:=.type "list",data:=.seq (its++[v]).toArray (k+1) }):=by simpa using hp
      subst e
      exact⟨hD₉,f2D.1,f2D.2.1,f2D.2.2.1,fun v z=>by cases z⟩
     ·obtain⟨o,e,d⟩:=T.obj _ _ st5 b hb
      exact(pn8 b hb o e).2
 exact codeAny_compStart_list (loop _ rfl) (T.self X.A 0 _ _ _ st1 (loop _ rfl))
theorem pe_compC(S:CompScopeC X.env.scope X.N x fr ix scope)(hc:X.calm=true)(hi:PI X (.Name x px) iter wi)(hif:∀cl cx C s2 H2 fp,PIf (zaX X x (x::fr) scope cl cx C s2 H2 fp) ifs tc)(he:∀cl cx C s2 H2 fp,PE (zaX X x (x::fr) scope cl cx C s2 H2 fp) elt te)
 (hs:∀x,foldedSetIterable iter X.env x=pure x:=by intro _;rfl):PE X (.ListComp elt [⟨.Name x px,iter,ifs,0⟩] scope pos) (tComp ix wi tc te):=by
 intro pins s σ H Q I h
 obtain⟨cl,ecl,h1,h2⟩:=zb3 (env:=X.env) (scope:=scope) fun y hy hf=>I.ok.has y.1 (S.free y hy hf)
 rw[eval_ListComp]
 refine wpAny_comprehension_free (use:=none) rfl hs ecl S.kind S.lcl (thn (hi pins s σ H _ I h) fun xv s1 q1=>thn q1 fun itv s2 q2=>?_)
 obtain⟨it,fp,tn,J,H2,rfl,I2,T,st2,f2,wc⟩:=q2
 refine comp_runC S hc hif he h1 h2 I2 T st2 f2 wc fun D C ys H' s' m I' hD hn hDC hC hHC fin=>?_
 refine⟨m,hn,fun h' sb=>⟨.ref D,upd H' D (.lst ys),?_,rfl,fin D hD⟩⟩
 have hcf:zaK X pins (upd H' D (.lst ys)) C:=by
  have z:=I2.fpOk (H':=upd H' D (.lst ys)) hC (by rw[zg (Ne.symm hDC)];exact hHC)
  exact z
 exact I'.turned (t':=s'.toks) (it:=C) (fun b o hb e=>(sb.2 b hb).trans e) hcf.1 hcf.2.1 hcf.2.2.2.1 hcf.2.2.2.2.1 hcf.2.2.2.2.2
end
section
open PySem.SeqAt
open PySem.AutoSeq1 (wpAny_loadPart')
open PySem.MeetsSeq PySem.MeetsSeq2 PySem.MeetsSeq3
theorem lt_loop(l b:Addr)(items items2:Array Value)(n n2:Nat)(dd dd2:Option Addr)(sl sl2:Array (Option Value))(ns ms:List Int)(hi:IntsAre items.toList ns)(hj:IntsAre items2.toList ms)(k:Nat):
 ∀i:Nat,ns.length-i=k→i≤ns.length→i≤ms.length→Meets (Builtin.«list.__eq__.loop» ⟨[.ref l,.ref b,rawInt i,rawInt 0],[]⟩)
  (fun A R s=>s.heap.get? l=some { cls:=.type "list",dict:=dd,data:=.seq items n,slots:=sl }∧s.heap.get? b=some { cls:=.type "list",dict:=dd2,data:=.seq items2 n2,slots:=sl2 } ∧
    R (.ok (.ret (.bool (HT.lexLt (ns.drop i) (ms.drop i))))) s):=by
 have z1:items.size=ns.length:=by rw[←hi.length];simp
 have z2:items2.size=ms.length:=by rw[←hj.length];simp
 have stop:∀i,(i=ns.length∨i=ms.length)→i≤ns.length→i≤ms.length→HT.lexLt (ns.drop i) (ms.drop i)=decide (items.size<items2.size):=fun i h h1 h2=>by
  rw[z1,z2]
  rcases Nat.lt_or_ge i ns.length with c1 | c1
  ·have e:i=ms.length:=h.elim (fun z=>by omega) id
   rw[drop_of_length_le (le_of_eq e.symm),drop_eq_getElem_cons c1,HT.lexLt_cons_nil]
   exact(decide_eq_false (by omega)).symm
  ·rw[drop_of_length_le c1]
   rcases Nat.lt_or_ge i ms.length with c2 | c2
   ·rw[drop_eq_getElem_cons c2,HT.lexLt_nil_cons]
    exact(decide_eq_true (by omega)).symm
   ·rw[drop_of_length_le c2,HT.lexLt_nil_nil]
    exact(decide_eq_false (by omega)).symm
 induction k with
 | zero =>
   intro i hk h1 h2 prog w A R s h
   obtain⟨hp,g,d,tk,os⟩:=s;obtain⟨hl,hb,h⟩:=h
   rw[stop i (.inl (by omega)) h1 h2] at h
   wp_walk using wpAny_loadPart' hl,wpAny_loadPart' hb
   have hi1:items[((i:Nat):Int).toNat]? = none:=by simp;omega
   rw[hi1]
   wp_walk using wpAny_loadPart' hl,wpAny_loadPart' hb
   exact h
 | succ k ih =>
   intro i hk h1 h2 prog w A R s h
   obtain⟨hp,g,d,tk,os⟩:=s;obtain⟨hl,hb,h⟩:=h
   have hlt:i<items.size:=by omega
   have hi1:items[((i:Nat):Int).toNat]? = some items[i]:=by simp[hlt]
   wp_walk using wpAny_loadPart' hl,wpAny_loadPart' hb
   rw[hi1]
   by_cases hm:i<ms.length
   ·have hlt2:i<items2.size:=by omega
    have hi2:items2[((i:Nat):Int).toNat]? = some items2[i]:=by simp[hlt2]
    have hc:((i:Int)+1)=((i+1:Nat):Int):=by push_cast;rfl
    rw[hi2]
    obtain⟨t,et⟩:=IntsAre.int_at hi i items[i] (by simp[hlt])
    obtain⟨u,eu⟩:=IntsAre.int_at hj i items2[i] (by simp[hlt2])
    have hn':i<ns.length:=by omega
    have en:ns.getD i 0=ns[i]:=by rw[getD_eq_getElem?_getD,getElem?_eq_getElem hn'];rfl
    have em:ms.getD i 0=ms[i]:=by rw[getD_eq_getElem?_getD,getElem?_eq_getElem hm];rfl
    rw[en] at et
    rw[em] at eu
    rw[drop_eq_getElem_cons hn',drop_eq_getElem_cons hm,HT.lexLt_cons] at h
    have heq:EqAt A.in1 ⟨hp,g,d,tk,os⟩ items[i] items2[i] (ns[i]==ms[i]):=by rw[et,eu];exact SeqAt.EqAt.int_int _ _ _ _
    refine wpAny_bind (heq prog w _ _ ?_)
    cases hb':(ns[i]==ms[i])with
    | true =>
      rw[if_pos (by simpa using hb')] at h
      wp_walk
      rw[hc]
      exact⟨plainId_quiet plain_eq_loop _,codeAny_builtin entry_eq_loop (by
       rw[Around.under_plainId plain_eq_loop _]
       exact ih (i+1) (by omega) (by omega) (by omega) prog w A R _ ⟨hl,hb,h⟩)⟩
    | false =>
      rw[if_neg (by simpa using hb')] at h
      wp_walk using wpAny_loadPart' hl,wpAny_loadPart' hb
      rw[hi1,hi2]
      have hri:=HT.rcLt_int A.in1 ⟨hp,g,d,tk,os⟩ ns[i] t ms[i] u prog w
      rw[et,eu]
      wp_walk using hri
      exact h
   ·have hi2:items2[((i:Nat):Int).toNat]? = none:=by simp;omega
    rw[hi2]
    rw[stop i (.inr (by omega)) h1 h2] at h
    wp_walk using wpAny_loadPart' hl,wpAny_loadPart' hb
    exact h
theorem zhb(l b:Addr)(items items2:Array Value)(n n2:Nat)(dd dd2:Option Addr)(sl sl2:Array (Option Value))(ns ms:List Int)(hi:IntsAre items.toList ns)(hj:IntsAre items2.toList ms):
 Meets (Builtin.«list.__lt__» ⟨[.ref l,.ref b],[]⟩)
  (fun _ R s=>s.heap.get? l=some { cls:=.type "list",dict:=dd,data:=.seq items n,slots:=sl }∧s.heap.get? b=some { cls:=.type "list",dict:=dd2,data:=.seq items2 n2,slots:=sl2 } ∧
    R (.ok (.ret (.bool (HT.lexLt ns ms)))) s):=by
 intro prog w A R s h
 obtain⟨hp,g,d,tk,os⟩:=s;obtain⟨hl,hb,h⟩:=h
 have f2:=AutoSeq1.sub_list_list
 wp_walk using wpAny_loadPart' hl,wpAny_loadPart' hb
 exact⟨plainId_quiet plain_eq_loop _,codeAny_builtin entry_eq_loop (by
  rw[Around.under_plainId plain_eq_loop _]
  exact lt_loop l b items items2 n n2 dd dd2 sl sl2 ns ms hi hj _ 0 rfl (zero_le _) (zero_le _) prog w A R _ ⟨hl,hb,h⟩)⟩
end
section
variable {X:Cx}
def rLtL(K:Frag):R2:=fun x y H Q=>∃a b ns ms,x=.ref a∧y=.ref b∧SqL K H a (ns.map V.int)∧SqL K H b (ms.map V.int)∧Q (.bl (HT.lexLt ns ms)) H
theorem zjh(hu:X.A.units<cLine):OpR X (compareOp .Lt) (rLtL X.K):=by
 intro pins s σ H x y v u Q I rx ry h
 obtain⟨a,b,ns,ms,rfl,rfl,ha,hb,q⟩:=h
 cases rx
 cases ry
 obtain⟨its,r1,p1,z1⟩:=I.list ha
 obtain⟨its2,r2,p2,z2⟩:=I.list hb
 obtain⟨⟨cls,dd,data,sl⟩,n,e,c1,c2,c3⟩:=p1
 obtain⟨⟨cls2,dd2,data2,sl2⟩,n2,e2,d1,d2,d3⟩:=p2
 simp only at c1 c2 c3 d1 d2 d3
 subst c1 c2 c3 d1 d2 d3
 have i1:IntsAre its.toArray.toList ns:=zaE r1
 have i2:IntsAre its2.toArray.toList ms:=zaE r2
 exact richCompare_meets_room (op := .Lt) ⟨_,e,rfl⟩ ⟨_,e2,rfl⟩ PySem.F.slot_list_lt PySem.F.entry_list_lt (PySem.F.args_list_lt_2 _ _) (zhb a b its.toArray its2.toArray n n2 _ _ _ _ ns ms i1 i2)
  ⟨e,e2,show Value.bool (HT.lexLt ns ms)≠Value.notImplemented∧EP X pins σ Q (.bool (HT.lexLt ns ms)) s from⟨(fun x=>nomatch x),⟨.bl (HT.lexLt ns ms),H,I,rfl,q⟩⟩⟩ hu
theorem zhJ{K:Frag}(h:X.K=K)(hu:X.A.units<cLine):OpR X (compareOp .Lt) (rLtL K):=by subst h;exact zjh hu
def rNeL(K:Frag):R2:=fun x y H Q=>∃a b xs ys,x=.ref a∧y=.ref b∧SqL K H a xs∧SqL K H b ys∧xs.all wt=true∧ys.all wt=true∧Q (.bl (!eqL xs ys)) H
theorem zfr(hu:X.A.units<cLine):OpR X (compareOp .NotEq) (rNeL X.K):=by
 intro pins s σ H x y v u Q I rx ry h
 obtain⟨a,b,xs,ys,rfl,rfl,ha,hb,fx,fy,q⟩:=h
 cases rx
 cases ry
 obtain⟨its,r1,p1,z1⟩:=I.list ha
 obtain⟨its2,r2,p2,z2⟩:=I.list hb
 have l1:=r1.length
 have l2:=r2.length
 by_cases hl:xs.length=ys.length
 ·refine SeqAt.RcNeAt.lists p1.isList p2.isList (by simp;omega) hu (eqAt_j r1 r2 fx fy) _ _ _ _ ⟨.bl (!eqL xs ys),H,I,?_,q⟩
  rw[size_toArray,←l1,zd7 hl]
  rfl
 ·refine SeqAt.RcNeAt.lists_lengths p1.isList p2.isList (by simp;omega) hu _ _ _ _ ⟨.bl (!eqL xs ys),H,I,?_,q⟩
  rw[zgR hl]
  rfl
end
structure CanM (P:Program) (w:World) (K:Frag) (mg:Str→Option Value) (base:Heap) (k:Nat) (C:Addr) (m:Str) (ps:List Str) (sp:Sp):Prop where
 ex:∃f fd,FnOk P w K mg base CX0 k f fd ps sp∧Meth K C m f∧Binds K fd ps []
structure CanMX (P:Program) (w:World) (K:Frag) (mg:Str→Option Value) (base:Heap) (k:Nat) (C:Addr) (m:Str) (ps:List Str) (sp:Sp):Prop where
 ex:∃f fd,FnOk P w K mg base (CX1 P w) k f fd ps sp∧Meth K C m f∧Binds K fd ps []
def tMethX(C:Addr)(m:Str)(W:XW)(sp:Sp)(ta:TE)(t:TA):TE:=fun σ H Q=>ta σ H fun x H1=>∃a dx fs,x=.ref a∧H1 a=some (.ins C dx fs)∧fs.lookup m=none∧t σ H1 fun vs H2=>sp (.ref a::vs) H2 Q fun cls _ H'=>W σ cls H'
section
variable {X:Cx}{k:Nat}{C:Addr}{m:Str}{ps:List Str}{sp:Sp}{apos pos:Pos}{o e:Expr}{es:List Expr}{ta:TE}{t:TA}{W:XW}{pl:Sem Bool}
theorem zaM(M:CanMX X.prog X.w X.K X.mg X.base k C m ps sp)(c:Cls X.K C)(fl:Fl X W)(hr:Room k X.A)(he:PE X o ta)(ha:PA X (e::es) t)
 (hst:starEach (e::es) X.env=(false,eval e X.env)::starEach es X.env:=by rfl) (hpl:(backTo pos (starEach es X.env)).any (·.1)=false:=by rfl)
 (ht:eval (.Call (.Attribute o m apos) (e::es) [] pos) X.env=(do
   let ov ←eval o X.env
   standAt apos.atName
   let (f,first) ←holding [ov] (getMethod ov m pl)
   callWith pos f first (backTo pos (starEach (e::es) X.env)) (backToKw pos (keywordEach [] X.env))):=by rfl) :
 PE X (.Call (.Attribute o m apos) (e::es) [] pos) (tMethX C m W sp ta t):=by
 obtain⟨f,fd,F,hm,hb⟩:=M.ex
 intro pins s σ H Q I h
 refine methodCall_KW (pl:=pl) (thn (he pins s σ H _ I h) fun u s1 ⟨x,H1,I1,rx,a,dx,fs,ex,ea,l,q⟩=>?_) ht
 subst ex
 obtain rfl:u=Value.ref a:=rx
 refine zc6 I1 ea c hm l ?_
 refine callWith_K (first:=[.ref a]) (h₀:=X.base) I.ok.mod.kin hm.kp (thn (ha pos pins s1 σ H1 _ I1 q) fun us s2 ⟨vs,H2,I2,r,q2⟩=>⟨I2.kIn,?_⟩) hst hpl
 exact zhh (us:=.ref a::us) (vs:=.ref a::vs) F hr hb fl I2 (.cons rfl r) q2
theorem zbS(M:CanMX X.prog X.w X.K X.mg X.base k C m ps sp)(c:Cls X.K C)(fl:Fl X W)(hr:Room k X.A)(he:PE X o ta)
 (ht:eval (.Call (.Attribute o m apos) [] [] pos) X.env=(do
   let ov ←eval o X.env
   standAt apos.atName
   let (f,first) ←holding [ov] (getMethod ov m pl)
   callWith pos f first (backTo pos (starEach [] X.env)) (backToKw pos (keywordEach [] X.env))):=by rfl) :
 PE X (.Call (.Attribute o m apos) [] [] pos) (tMethX C m W sp ta tNil):=by
 obtain⟨f,fd,F,hm,hb⟩:=M.ex
 intro pins s σ H Q I h
 refine methodCall_KW (pl:=pl) (thn (he pins s σ H _ I h) fun u s1 ⟨x,H1,I1,rx,a,dx,fs,ex,ea,l,q⟩=>?_) ht
 subst ex
 obtain rfl:u=Value.ref a:=rx
 refine zc6 I1 ea c hm l ?_
 exact callWith_K0 (first:=[.ref a]) I1.kIn hm.kp (zhh (us:=[.ref a]) (vs:=[.ref a]) F hr hb fl I1 (.cons rfl .nil) q)
theorem yw(M:CanM X.prog X.w X.K X.mg X.base k C m ps sp)(c:Cls X.K C)(hr:Room k X.A)(he:PE X o ta)
 (ht:eval (.Call (.Attribute o m apos) [] [] pos) X.env=(do
   let ov ←eval o X.env
   standAt apos.atName
   let (f,first) ←holding [ov] (getMethod ov m pl)
   callWith pos f first (backTo pos (starEach [] X.env)) (backToKw pos (keywordEach [] X.env))):=by rfl) :
 PE X (.Call (.Attribute o m apos) [] [] pos) (tMeth C m sp [] E0 ta tNil):=by
 obtain⟨f,fd,F,hm,hb⟩:=M.ex
 exact pe_meth0 (pl:=pl) he c hm F hr hb .nil pass0 ht
structure CanK (P:Program) (w:World) (K:Frag) (mg:Str→Option Value) (base:Heap) (k:Nat) (x:Str) (C:Addr) (ps:List Str) (sp:Sp):Prop where
 ex:∃f fd,FnOk P w K mg base (CX1 P w) k f fd ps sp∧mg x=some (.ref C)∧Mk K C f∧Binds K fd ps []
def tMakeX(C:Addr)(W:XW)(sp:Sp)(t:TA):TE:=fun σ H Q=>t σ H fun vs H1=>∀x dx,H1 x=none→H1 dx=none→dx≠x→sp (.ref x::vs) (upd (upd H1 dx (.own x)) x (.ins C dx [])) (fun v H2=>v=.non∧Q (.ref x) H2) fun cls _ H'=>W σ cls H'
theorem run_makeX{pins:List (Addr×Obj)}{σ:St}{H:Hp}{s:Shared}{Q:VK}{us:List Value}{vs:List V}{f:Addr}{fd:FuncData}(M:Mk X.K C f)(F:FnOk X.prog X.w X.K X.mg X.base (CX1 X.prog X.w) k f fd ps sp)(hr:Room (k+1) X.A)(hb:Binds X.K fd ps [])(fl:Fl X W)(I:Inv X pins σ H s)(r:Vals vs us)
 (h:∀x dx,H x=none→H dx=none→dx≠x→sp (.ref x::vs) (upd (upd H dx (.own x)) x (.ins C dx [])) (fun v H2=>v=.non∧Q (.ref x) H2) fun cls _ H'=>W σ cls H') :
 wpAny (model X.prog X.w) X.A (call (.ref C) us) (EP X pins σ Q) X.xe s:=by
 have hq:=h (s.heap.objs.size+1) s.heap.objs.size (I.hok.fresh (le_succ _)) (I.hok.fresh (le_refl _)) (ne_of_lt (lt_succ_self _))
 have I2:=Inv.made (C:=C) I
 have r2:Vals (V.ref (s.heap.objs.size+1)::vs) (Value.ref (s.heap.objs.size+1)::us):=.cons rfl r
 have hl:(Value.ref (s.heap.objs.size+1)::us).length=ps.length:=by
  have e:=r2.length
  rw[F.len _ _ _ _ hq] at e
  exact e.symm
 have hb':=hb { s with heap:=(s.heap.push emptyDict).push (instObj C s.heap.objs.size) } (Value.ref (s.heap.objs.size+1)::us) I2.kIn (by rw[append_nil];exact hl)
 rw[append_nil] at hb'
 refine wpAny_call (make_map (f:=f) I.kIn M.makes M.init (beq_iff_eq.mp M.fn) (codeAny_mono (F.run _ X.stack _ _ ⟨Value.ref (s.heap.objs.size+1)::us,[]⟩ (Value.ref (s.heap.objs.size+1)::us) _ _ _ (hr.make C us [])
  (I2.env0.make C us []) hb' r2 hq) fun r s' hq'=>?_))
 cases r with
 | error e =>
   obtain⟨y,cls,H',rfl,fly,w⟩:=hq'
   exact fl pins σ _ _ y cls H' s' I2 fly w
 | ok fl =>
   cases fl with
   | ret u =>
     obtain⟨v,H',I3,rv,ev,q3⟩:=I2.after hq'
     subst ev
     exact⟨rv,⟨V.ref (s.heap.objs.size+1),H',I3,rfl,q3⟩⟩
   | next=>exact False.elim hq'
   | brk=>exact False.elim hq'
   | cont=>exact False.elim hq'
theorem pe_makeX{x:Str}{p:Pos}(M:CanK X.prog X.w X.K X.mg X.base k x C ps sp)(fl:Fl X W)(hr:Room (k+1) X.A)(hg:Gl X x)(ha:PA X (e::es) t)(hdb:(x==("__debug__":Str))=false:=by decide)
 (he:starEach (e::es) X.env=(false,eval e X.env)::starEach es X.env:=by rfl) (hpl:(backTo pos (starEach es X.env)).any (·.1)=false:=by rfl):PE X (.Call (.Name x p) (e::es) [] pos) (tMakeX C W sp t):=by
 obtain⟨f,fd,F,hm,hk,hb⟩:=M.ex
 intro pins s σ H Q I h
 refine wpAny_Call_Name_kw (zbC I hg hm ?_ hdb)
 refine callWith_K (h₀:=X.base) I.ok.mod.kin hk.kp (thn (ha pos pins s σ H _ I h) fun us s1 ⟨vs,H1,I1,r,q⟩=>⟨I1.kIn,?_⟩) he hpl
 exact run_makeX hk F hr hb fl I1 r q
theorem pe_fldK{K:Frag}{f:Str}(h:X.K=K)(he:PE X e ta)(hb:attributeBase e f X.env (eval e X.env)=eval e X.env):PE X (.Attribute e f pos) (tFld K ta f):=by subst h;exact yB he hb
end
def zE(K:Frag)(x:Str):Addr:=match nsIn K mainGlobals x with
 | some (some (.ref C))=>C
 | _=>0
theorem clsA_of{K:Frag}{x:Str}{C:Addr}(h:nsIn K mainGlobals x=some (some (.ref C))):zE K x=C:=by unfold zE;rw[h]
theorem CanM.of{P:Program}{w:World}{K:Frag}{mg:Str→Option Value}{base:Heap}{k:Nat}{C:Addr}{x m:Str}{ps:List Str}{sp:Sp}{f:Addr}{fd:FuncData}(hC:zE K x=C)(G:FnOk P w K mg base CX0 k f fd ps sp)(hm:Meth K C m f)(b:Binds K fd ps []):CanM P w K mg base k (zE K x) m ps sp:=by rw[hC];exact⟨f,fd,G,hm,b⟩
theorem CanMX.of{P:Program}{w:World}{K:Frag}{mg:Str→Option Value}{base:Heap}{k:Nat}{C:Addr}{x m:Str}{ps:List Str}{sp:Sp}{f:Addr}{fd:FuncData}(hC:zE K x=C)(G:FnOk P w K mg base (CX1 P w) k f fd ps sp)(hm:Meth K C m f)(b:Binds K fd ps []):CanMX P w K mg base k (zE K x) m ps sp:=by rw[hC];exact⟨f,fd,G,hm,b⟩
theorem CanK.of{P:Program}{w:World}{K:Frag}{mg:Str→Option Value}{base:Heap}{k:Nat}{C:Addr}{x:Str}{ps:List Str}{sp:Sp}{f:Addr}{fd:FuncData}(hC:zE K x=C)(G:FnOk P w K mg base (CX1 P w) k f fd ps sp)(hg:mg x=some (.ref C))(hm:Mk K C f)(b:Binds K fd ps []):CanK P w K mg base k x (zE K x) ps sp:=by rw[hC];exact⟨f,fd,G,hg,hm,b⟩
section
variable {X:Cx}
theorem zf3(hc:X.calm=true):wp X (.builtin "max") (fun xs H Q=>∃(a:Addr)(ns:List Int),xs=[.ref a]∧SqL X.K H a (ns.map V.int)∧0<ns.length∧∀M:Int,M∈ns→(∀x∈ns,x≤M)→Q (.int M) H):=by
 intro pins s σ H xs us Q I r h
 obtain⟨a,ns,rfl,hS,hne,q⟩:=h
 obtain⟨u,rfl,ru⟩:=r.one
 cases ru
 obtain⟨its,r1,p1,z1⟩:=I.list hS
 have hi:=zaE r1
 obtain⟨xs,e⟩:=hi.allInts.items
 have hns:ns=xs.toList.map (·.1):=by
  rw[←hi.numsOf,←nums_intItems,←e]
 have hsz:0<xs.size:=by
  have h3:=hne;rw[hns,length_map,Array.length_toList] at h3;exact h3
 have hl:=p1.isList
 rw[e] at hl
 refine max_intList (I.ok.hd hc) hl hsz fun v h' tk hv hk=>?_
 obtain⟨t,rfl⟩:=intItems_at hv
 obtain⟨h1,h2⟩:=argBest_gt (numAt xs) (xs.size-1)
 refine⟨.int _,H,I.kept (t':=tk) hk,⟨t,rfl⟩,q _ ?_ fun a ha=>?_⟩
 ·rw[hns,numAt_eq];exact getD_mem (by rw[length_map,Array.length_toList];omega)
 ·rw[hns] at ha
  obtain⟨j,hj,rfl⟩:=mem_getD ha
  rw[length_map,Array.length_toList] at hj
  rw[←numAt_eq];exact h2 j (by omega)
def rCatS(K:Frag):R2:=fun x y H Q=>∃l b xs zs,x=.ref l∧y=.ref b∧SqL K H l xs∧SqL K H b zs∧xs.length+zs.length≤sizeLine∧∀p,H p=none→Q (.ref p) (upd H p (.lst (xs++zs)))
theorem op_catS:OpR X (binaryOp .Add) (rCatS X.K):=by
 intro pins s σ H x y v u Q I rx ry h
 obtain⟨l,b,xs,zs,rfl,rfl,hH,hB,hz,q⟩:=h
 cases rx
 cases ry
 obtain⟨its,r,p1,z1⟩:=I.list hH
 obtain⟨its2,r2,p2,z2⟩:=I.list hB
 have hl:=r.length
 have hl2:=r2.length
 obtain⟨⟨cls,dd,data,sl⟩,ho,hc,n,hd⟩:=p1.isList
 obtain⟨⟨cls2,dd2,data2,sl2⟩,ho2,hc2,n2,hd2⟩:=p2.isList
 cases hc;cases hd;cases hc2;cases hd2
 refine concat_meets ⟨_,ho,rfl⟩ ⟨_,ho2,rfl⟩ noFill_list_add seq_list_add F.slot_list_add F.entry_list_add (F.args_list_add_2 _ _) (list_addW l b its.toArray its2.toArray n n2 dd dd2 sl sl2 (by rw[size_toArray,size_toArray];omega)) ⟨ho,ho2,?_⟩
 have ea:its.toArray++its2.toArray=(its++its2).toArray:=by simp
 rw[ea]
 exact⟨.ref _,_,I.lnew (t':=s.toks) (r.append r2) (by rw[length_append];omega),rfl,q _ I.fresh⟩
theorem zei{K:Frag}(h:X.K=K)(hu:X.A.units<cLine):OpR X (compareOp .NotEq) (rNeL K):=by subst h;exact zfr hu
theorem ms_index(hc:X.calm=true):MtR X "str.index" (fun x xs H Q=>∃z y,x=.str z∧xs=[.str y]∧0≤Txt.find z y∧Q (.int (Txt.find z y)) H):=by
 intro pins s σ H x xs v us Q I rx rv h
 obtain⟨z,y,rfl,rfl,h0,q⟩:=h
 obtain⟨t,rfl⟩:=rx
 obtain⟨u,rfl,ru⟩:=rv.one
 obtain⟨t2,rfl⟩:=ru
 exact index_or (I.ok.hd hc) (fun e _=>by rw[e] at h0;exact absurd h0 (by decide)) fun _ _=>⟨.int _,H,I.tok _,⟨_,rfl⟩,q⟩
end
end L2
namespace L2
open PySem PySem.Spec PyProof.Rows PySem.W PySem.Calls Builtin Builtin.ObjectAttr Builtin.Getset_descriptor
section
variable {prog:Program}{w:World}{A:Around}{s:Shared}{K:Frag}{x C:Addr}{E:Value→Shared→Prop}
theorem zgc{R:Result→Shared→Prop}{tp:Value}(L0:Looks (model prog w) s.heap (typeOf (.ref x)) (.ref C))(L1:Looks (model prog w) s.heap (isSubtype (.ref C) (.type "object")) true)(hR:R (.ok (.ret (.ref C))) s):
 codeAny (model prog w) A (.call (.builtin "getset_descriptor.__get__") ⟨[.builtin "object.__class__",.ref x,tp],[]⟩) R s:=by
 obtain⟨h1,g1,d1,t1,o1⟩:=s
 refine codeAny_call_builtin KF.slot_gs.plain KF.entry_gs ?_
 refine KF.slot_gs.check _ _ _ _ _ _ _ _ KF.type_class (KF.args_gs _ _ _) ?_
 unfold Builtin.«getset_descriptor.__get__»
 unfold descrGet
 rw[dga_obj]
 refine wpAny_bind ?_
 refine wpAny_pure ?_
 unfold descrGetter descrCheckInstance
 unfold descrNameAndClass isInstance
 simp only[KF.owner_class]
 repeat lk
 refine⟨Code.quiet_builtin _ (by decide +kernel),?_⟩
 refine codeAny_builtin KF.entry_class ?_
 unfold Builtin.«object.__class__»
 unfold shownTypeOf
 repeat lk
 exact hR
theorem exc_find(X:K.In s.heap)(ha:findIn K (.ref C) "__class__"=some (some (.builtin "object.__class__")))(hn:specialIn K (.builtin "object.__class__") "__get__"=some (some (.builtin "getset_descriptor.__get__")))(ht:takesIn K (.builtin "object.__class__")=some true):
 Looks (model prog w) s.heap (find (.ref x) (.ref C) "__class__") (.bind (.builtin "getset_descriptor.__get__") (.builtin "object.__class__")):=by
 have M1:=looks_findIn (M:=model prog w) X ha
 have M2:Looks (model prog w) s.heap (getOf (some (.builtin "object.__class__"))) (some (.builtin "getset_descriptor.__get__")):=looks_specialIn X hn
 have M3:=looks_takesIn (M:=model prog w) X ht
 refine M1.andThen (M2.andThen ?_)
 have M4:Looks (model prog w) s.heap (dataDescriptor? (some (.builtin "object.__class__")) (some (.builtin "getset_descriptor.__get__"))) (some (.builtin "getset_descriptor.__get__",.builtin "object.__class__")):=M3.andThen .now
 exact M4.andThen (Looks.tag .now)
theorem zg3{M:Model}{nm:Value}{Q:Unit→Shared→Prop}(LI:Looks M s.heap (isInstance (.ref x) (.type "BaseException")) true)(hQ:Q () s):wpAny M A (checkBuiltinCall "BaseException.__getattribute__" ⟨[.ref x,nm],[]⟩) Q E s:=by
 have hk:builtinKind "BaseException.__getattribute__"=some .slot:=by decide +kernel
 have hsp:splitId "BaseException.__getattribute__"=some ("BaseException","__getattribute__"):=by decide +kernel
 have hargs:=F.args_bexc_ga (.ref x) nm
 obtain⟨h1,g1,d1,t1,o1⟩:=s
 simp only[checkBuiltinCall,hk,hsp]
 refine wpAny_bind (LI.at ?_)
 repeat (first | wp_step | exact hQ)
theorem exc_ga{R:Result→Shared→Prop}{tk:Tok}(L0:Looks (model prog w) s.heap (typeOf (.ref x)) (.ref C))(F1:Looks (model prog w) s.heap (find (.ref x) (.ref C) "__class__") (.bind (.builtin "getset_descriptor.__get__") (.builtin "object.__class__")))
 (S1:Looks (model prog w) s.heap (isSubtype (.ref C) (.type "object")) true) (S2:Looks (model prog w) s.heap (isSubtype (.ref C) (.type "BaseException")) true) (hR:R (.ok (.ret (.ref C))) s) :
 codeAny (model prog w) A (.call (.builtin "BaseException.__getattribute__") ⟨[.ref x,.str "__class__" tk],[]⟩) R s:=by
 refine codeAny_call_builtin F.excAttr_ValueError.ga.plain F.entry_bexc_ga ?_
 refine zg3 (L0.andThen S2) ?_
 obtain⟨h1,g1,d1,t1,o1⟩:=s
 unfold Builtin.«object.__getattribute__»
 repeat (first | with_reducible refine wpAny_bind (L0.at ?_) | with_reducible refine wpAny_bind (F1.at ?_) | wp_step)
 exact zgc (s:=⟨h1,g1,d1,t1,o1⟩) L0 S1 (wpAny_pure hR)
theorem exc_attr{Q:Option Value→Shared→Prop}(X:K.In s.heap)(he:∃o,s.heap.get? x=some o∧o.cls=.ref C)(hga:findIn K (.ref C) "__getattribute__"=some (some (.builtin "BaseException.__getattribute__")))(hgb:findIn K (.ref C) "__getattr__"=some none)
 (ha:findIn K (.ref C) "__class__"=some (some (.builtin "object.__class__"))) (hn:specialIn K (.builtin "object.__class__") "__get__"=some (some (.builtin "getset_descriptor.__get__"))) (ht:takesIn K (.builtin "object.__class__")=some true) (hm:mroIn K C (.type "object")=some true) (hm2:mroIn K C (.type "BaseException")=some true)
 (hQ:Q (some (.ref C)) { s with toks:=s.toks+1 }):wpAny (model prog w) A (getAttr? (.ref x) "__class__") Q E s:=by
 obtain⟨o,eo,ec⟩:=he
 have F1:=exc_find (s:={ s with toks:=s.toks+1 }) (x:=x) (prog:=prog) (w:=w) X ha hn ht
 obtain⟨h1,g1,d1,t1,o1⟩:=s
 have L0:=zgF (M:=model prog w) eo ec
 have G0:=looks_findIn (M:=model prog w) X hga
 have G1:=looks_findIn (M:=model prog w) X hgb
 have S1:=looks_mroIn (M:=model prog w) X hm
 have S2:=looks_mroIn (M:=model prog w) X hm2
 unfold getAttr? getAttrBy?
 unfold getAttrBy
 refine wpAny_bind (wpAny_mkText ?_)
 refine wpAny_bind (wpAny_attempt ?_)
 refine wpAny_holding ?_
 refine wpAny_bind (L0.at ?_)
 refine wpAny_bind (G0.at ?_)
 have hx2:(onTheHeap (Value.ref C) && Value.builtin "BaseException.__getattribute__" == Value.builtin "object.__getattribute__")=false:=by
  rw[show(Value.builtin "BaseException.__getattribute__" == Value.builtin "object.__getattribute__")=false by decide +kernel]
  rfl
 dsimp only
 rw[if_neg (by rw[hx2];exact Bool.false_ne_true)]
 unfold getAttrByItsOwn hookBefore
 rw[if_pos (show onTheHeap (Value.ref C)=true from rfl)]
 refine wpAny_bind (G1.at ?_)
 unfold callGetattribute
 rw[if_neg (by simp)]
 unfold boundAndCalled
 refine wpAny_bind (wpAny_attempt (wpAny_holding ?_))
 rw[F.excAttr_ValueError.ga.bind]
 refine wpAny_bind (wpAny_pure ?_)
 dsimp only
 refine wpAny_call ?_
 refine exc_ga (s:=⟨h1,g1,d1,t1+1,o1⟩) L0 F1 S1 S2 ?_
 exact handed_on rfl (wpAny_pure hQ)
def exI(K:Frag)(C:Addr):Bool :=
 (findIn K (.ref C) "__getattribute__" == some (some (.builtin "BaseException.__getattribute__")) && findIn K (.ref C) "__getattr__" == some none && findIn K (.ref C) "__class__" == some (some (.builtin "object.__class__"))) &&
 (specialIn K (.builtin "object.__class__") "__get__" == some (some (.builtin "getset_descriptor.__get__")) && takesIn K (.builtin "object.__class__")==some true && mroIn K C (.type "object")==some true && mroIn K C (.type "BaseException")==some true && (clsIn K C).isSome)
theorem kitx_exc(hi:exI K C=true):KitX K (.ref x) (.ref C) (fun h=>∃o,h.get? x=some o∧o.cls=.ref C):=by
 unfold exI at hi
 simp only[Bool.and_eq_true,beq_iff_eq] at hi
 obtain⟨⟨⟨i1,i2⟩,i3⟩,⟨⟨⟨i4,i5⟩,i6⟩,i7⟩,i8⟩:=hi
 obtain⟨cd,hcd⟩:=Option.isSome_iff_exists.mp i8
 have hob:∃a b c,K.lookup C=some ⟨a,b,.cls cd,c⟩:=by
  unfold clsIn at hcd
  split at hcd
  ·rename_i q;cases hcd;exact⟨_,_,_,q⟩
  ·cases hcd
 obtain⟨a1,a2,a3,hob⟩:=hob
 refine⟨fun M h _ ⟨o,eo,ec⟩=>zgF eo ec,fun M h X _=>?_,fun h tp dd its n sl X e=>?_,fun X p k=>exc_attr X p i1 i2 i3 i4 i5 i6 i7 k⟩
 ·intro A' Q' E' s' k q
  unfold isType
  unfold loadHead
  exact wpAny_bind (wpAny_loadPart (k _ _ (X _ _ hob)) (wpAny_pure q))
 ·refine Bool.eq_false_iff.mpr fun q=>?_
  have ez:C=tp:=by injection beq_iff_eq.mp q
  subst ez
  have:=X _ _ hob
  rw[e] at this
  cases this
end
section
variable {X:Cx}
theorem zf0:wp X (.builtin "isinstance") (fun xs H Q=>∃x C v c b,xs=[.ref x,v]∧RelV v c∧H x=some (zco x (.ref C))∧exI X.K C=true∧kitOne X.K (.ref C) c=some b∧Q (.bl b) H):=by
 intro pins s σ H xs us Q I r h
 obtain⟨x,C,v,c,b,rfl,rc,hx,hi,e,q⟩:=h
 obtain⟨u,t,rfl,ru,rt⟩:=r.two
 cases ru
 have no:∀z,kitCls X.K (.ref C) z=none→(Value.ref C==z)=false→kitOne X.K (.ref C) z=none:=fun z h1 h2=>by unfold kitOne;rw[h2];exact h1
 have ect:t=c:=by
  cases v with
  | ref a=>rw[show t=_ from rt,show c=_ from rc]
  | ty n=>rw[show t=_ from rt,show c=_ from rc]
  | non=>rw[show t=_ from rt,show c=_ from rc]
  | bl b=>rw[show t=_ from rt,show c=_ from rc]
  | int i=>obtain⟨k,rfl⟩:=rc;rw[no _ rfl rfl] at e;cases e
  | str i=>obtain⟨k,rfl⟩:=rc;rw[no _ rfl rfl] at e;cases e
  | byt i=>obtain⟨k,rfl⟩:=rc;rw[no _ rfl rfl] at e;cases e
  | flt i=>obtain⟨k,rfl⟩:=rc;rw[no _ rfl rfl] at e;cases e
 subst ect
 obtain⟨ho,_,_⟩:=I.hok x _ hx
 exact kia_one (kitx_exc hi) I.kIn ho e (by intro q;cases q) fun tk=>⟨.bl b,H,I.tok tk,rfl,q⟩
theorem zag{K:Frag}(h:X.K=K):wp X (.builtin "isinstance") (fun xs H Q=>∃x C v c b,xs=[.ref x,v]∧RelV v c∧H x=some (zco x (.ref C))∧exI K C=true∧kitOne K (.ref C) c=some b∧Q (.bl b) H):=by subst h;exact zf0
end
open PySem.Builtin PySem.Builtin.Str
theorem zgG:∀(l:List (PySem.Str×Tok)),Vals (l.map fun p=>V.str p.1) (strValues l)
 | []=>.nil
 | (x,t)::l=>.cons ⟨t,rfl⟩ (zgG l)
section
variable {X:Cx}
theorem ms_split:MtR X "str.split" (fun x xs H Q=>∃z y,x=.str z∧xs=[.str y]∧(y.length==0)=false∧z.length+2≤sizeLine∧(Txt.split z y).length≤sizeLine∧∀l,H l=none→Q (.ref l) (upd H l (.lst ((Txt.split z y).map V.str)))):=by
 intro pins s σ H x xs v us Q I rx rv h
 obtain⟨z,y,rfl,rfl,hy,hz,hn,q⟩:=h
 obtain⟨t,rfl⟩:=rx
 obtain⟨u,rfl,ru⟩:=rv.one
 obtain⟨t2,rfl⟩:=ru
 have hf:H s.heap.objs.size=none:=I.hok.fresh (le_refl _)
 have fin:∀(l:List (PySem.Str×Tok)) (tk:Nat),l.map (·.1)=Txt.split z y→EP X pins σ Q (.ref s.heap.objs.size) { s with toks:=tk,heap:=s.heap.push { cls:=.type "list",data:=.seq (strValues l).toArray } }:=fun l tk e=>by
  refine⟨.ref s.heap.objs.size,upd H s.heap.objs.size (.lst ((Txt.split z y).map V.str)),I.laid (t':=tk) (fun b u e=>get?_push_of_some _ e) (le_refl _) ⟨by rw[length_map];exact hn,strValues l,0,?_,get?_push_size _ rfl⟩,rfl,q _ hf⟩
  rw[←e,map_map]
  exact zgG l
 cases h1:(decide (z.length<y.length) || decide (strKind z<strKind y))with
 | true =>
   have e:Txt.split z y=[z]:=if_pos h1
   exact call_meets F.slot_str_split (typeIs_str _ _ _) F.entry_str_split (F.args_str_split_2 _ _) (meets_str_split_cannot_occur z y t t2 h1) (fin [(z,t)] s.toks e.symm)
 | false =>
   cases h2:(occurrences z y 0 z.length (z.length+1)).isEmpty with
   | true =>
     have e:Txt.split z y=[z]:=(if_neg (ne_true_of_eq_false h1)).trans (if_pos h2)
     exact call_meets F.slot_str_split (typeIs_str _ _ _) F.entry_str_split (F.args_str_split_2 _ _) (meets_str_split_not_found z y t t2 h1 hy h2) (fin [(z,t)] s.toks e.symm)
   | false =>
     have e:Txt.split z y=partsBetween z (occurrences z y 0 z.length (z.length+1)) y.length:=(if_neg (ne_true_of_eq_false h1)).trans (if_neg (ne_true_of_eq_false h2))
     refine call_meets F.slot_str_split (typeIs_str _ _ _) F.entry_str_split (F.args_str_split_2 _ _) (meets_str_split_sep z y t t2 h1 hy h2 (by omega) (by rw[←e];exact hn)) ?_
     show EP X pins σ Q (.ref s.heap.objs.size) { s with toks:=_,heap:=s.heap.push { cls:=.type "list",data:=.seq (strsFrom s.toks (partsBetween z (occurrences z y 0 z.length (z.length+1)) y.length)).toArray } }
     rw[strsFrom_eq]
     exact fin (numbered s.toks _) _ ((numbered_texts _ _).trans e.symm)
theorem zfZ:wp X (.type "int") (fun xs H Q=>∃x n,xs=[.str x]∧PySem.intText? x=some n∧x.length≤640∧Q (.int n) H):=by
 intro pins s σ H vs us Q I rv h
 obtain⟨x,n,rfl,hn,hl,q⟩:=h
 obtain⟨u,rfl,ru⟩:=rv.one
 obtain⟨t,rfl⟩:=ru
 exact PySem.W.KIN.call_text hn hl ⟨.int n,H,I.tok _,⟨_,rfl⟩,q⟩
end
structure CTup (K:Frag) (mg:Str→Option Value) (x:Str) (xs:List Str):Prop where
 ex:∃a,mg x=some (.ref a)∧∀H,SqT K H a (xs.map V.str)
def tCT(K:Frag)(xs:List Str):TE:=fun _ H Q=>∀a,(∀H,SqT K H a (xs.map V.str))→Q (.ref a) H
theorem zdv{X:Cx}{x:Str}{xs:List Str}{pos:Pos}(c:CTup X.K X.mg x xs)(hg:Gl X x)(hd:(x==("__debug__":Str))=false:=by decide):PE X (.Name x pos) (tCT X.K xs):=by
 intro pins s σ H Q I h
 obtain⟨a,hm,ha⟩:=c.ex
 exact zbC I hg hm ⟨.ref a,H,I,rfl,h a ha⟩ hd
theorem zhE{K:Frag}{h:Heap}{mg:Str→Option Value}{x:Str}{a:Addr}{xs:List Str}{oc:Value}{od:Option Addr}{its:Array Value}{n:Nat}{sl:Array (Option Value)}(X:K.In h)(G:h.Ns mainGlobals mg)(e:nsIn K mainGlobals x=some (some (.ref a)))
 (l:K.lookup a=some ⟨oc,od,.seq its n,sl⟩) (hc:oc=.type "tuple") (hz:its.size≤sizeLine) (hv:Vals (xs.map V.str) its.toList):CTup K mg x xs :=
 ⟨a,mg_of X G e,fun H=>.inr ⟨_,its,n,l,hc,rfl,hz,hv⟩⟩
inductive StrEs:List Expr→List Str→Prop
 | nil:StrEs [] []
 | cons {x:Str} {k:Nat} {p:Pos} {es:List Expr} {xs:List Str} (h:StrEs es xs):StrEs (.Constant (.str x) k p::es) (x::xs)
def tStrs(xs:List Str):TA:=fun _ H Q=>Q (xs.map V.str) H
theorem pa_strs{X:Cx}{es:List Expr}{xs:List Str}(h:StrEs es xs):PA X es (tStrs xs):=by
 induction h with
 | nil=>exact zc
 | @cons x k p es xs h ih=>exact(za zw ih:PA X (.Constant (.str x) k p::es) (tCons (tC (.str x)) (tStrs xs)))
def tLstS(xs:List Str):TE:=fun _ H Q=>xs.length≤sizeLine∧∀p,H p=none→Q (.ref p) (upd H p (.lst (xs.map V.str)))
theorem pe_lstS{X:Cx}{es:List Expr}{xs:List Str}{pos:Pos}(h:StrEs es xs):PE X (.List es pos) (tLstS xs):=by
 intro pins s σ H Q I q
 refine yT (pa_strs h) pins s σ H Q I ?_
 exact⟨by rw[length_map];exact q.1,q.2⟩
section
variable {X:Cx}
def rEqLE(K:Frag):R2:=fun x y H Q=>∃a b xs,x=.ref a∧y=.ref b∧SqL K H a xs∧SqL K H b []∧Q (.bl (decide (xs.length=0))) H
theorem zh5(hu:X.A.units<cLine):OpR X (compareOp .Eq) (rEqLE X.K):=by
 intro pins s σ H x y v u Q I rx ry h
 obtain⟨a,b,xs,rfl,rfl,ha,hb,q⟩:=h
 cases xs with
 | nil=>exact zdg hu pins s σ H _ _ v u Q I rx ry ⟨a,b,[],[],rfl,rfl,ha,hb,rfl,rfl,q⟩
 | cons z xs =>
   cases rx
   cases ry
   obtain⟨its,r1,p1,z1⟩:=I.list ha
   obtain⟨its2,r2,p2,z2⟩:=I.list hb
   have l1:=r1.length
   have l2:=r2.length
   exact SeqAt.eq_list_lengthsAt p1.isList p2.isList (by simp at l1 l2;simp;omega) hu ⟨.bl false,H,I,rfl,q⟩
end
end L2
namespace M14
open PySem PySem.W PyProof.Rows
abbrev g(p:Array Nat)(i:Nat):Nat:=p.getD i 0
theorem g_of{p q:Array Nat}{i j:Nat}(h:p[i]? = q[j]?):g p i=g q j:=by
 show p.getD i 0=q.getD j 0
 rw[Array.getD_eq_getD_getElem?,Array.getD_eq_getD_getElem?,h]
theorem zcl{p:Array Nat}{i j:Nat}(hj:j≤p.size)(k:Nat):g (kas_rev p i j) k=if i≤k∧k<j then g p (i+j-1-k)else g p k:=by
 have e:=getElem?_mirror_all (xs:=p) (i:=i) hj k
 by_cases c:i≤k∧k<j
 ·rw[if_pos c] at e ⊢;exact g_of e
 ·rw[if_neg c] at e ⊢;exact g_of e
theorem g_bub{p:Array Nat}{s d:Nat}(hs:s<p.size)(hd:d≤s)(k:Nat):g (bubble p s d) k=if k=s-d then g p s else if s-d<k∧k≤s then g p (k-1)else g p k:=by
 have e:=getElem?_bubble hs d hd k
 by_cases c:k=s-d
 ·rw[if_pos c] at e ⊢;exact g_of e
 ·rw[if_neg c] at e ⊢
  by_cases c2:s-d<k∧k≤s
  ·rw[if_pos c2] at e ⊢;exact g_of e
  ·rw[if_neg c2] at e ⊢;exact g_of e
section
variable (key:Nat→Int)(N:Nat)
def R(a b:Nat):Prop:=key a<key b∨key a=key b∧a<b
structure B (p:Array Nat) (m:Nat):Prop where
 pm:p.Perm (List.range N).toArray
 tl:∀i,m≤i→i<N→g p i=i
 lo:∀i,i<m→g p i<m
 le:m≤N
def I(p:Array Nat)(m:Nat):Prop:=B N p m∧∀i j,i<j→j<m→R key (g p i) (g p j)
def E(p:Array Nat)(m:Nat):Prop:=B N p m∧∀i j,i<j→j<m→R key (g p j) (g p i)
structure D (p:Array Nat) (m b:Nat):Prop where
 bs:B N p m
 lt:b<m
 ds:∀i j,i<j→j<b→R key (g p j) (g p i)
 sp:∀i j,i<b→b≤j→j<m→key (g p j)<key (g p i)
 bk:∀i j,b≤i→i<j→j<m→key (g p i)=key (g p j)∧g p i<g p j
def ck(i j:Nat)(C:Bool→Shared→Prop)(s:Shared):Prop:=i<N∧j<N∧C (decide (key i<key j)) s
variable {key N}
theorem B.size{p:Array Nat}{m:Nat}(b:B N p m):p.size=N:=by
 have:=b.pm.size_eq
 simpa using this
theorem B.lt{p:Array Nat}{m:Nat}(b:B N p m){i:Nat}(h:i<N):g p i<N:=by
 by_cases c:i<m
 ·have:=b.lo i c;have:=b.le;omega
 ·rw[b.tl i (by omega) h];exact h
theorem B.rev{p:Array Nat}{m i j:Nat}(b:B N p m)(hj:j≤m):B N (kas_rev p i j) m:=by
 have hs:j≤p.size:=by have:=b.size;have:=b.le;omega
 refine⟨(mirror_perm _ _ _ _).trans b.pm,fun k h1 h2=>?_,fun k h=>?_,b.le⟩
 ·rw[zcl hs,if_neg (by omega)];exact b.tl k h1 h2
 ·rw[zcl hs]
  split
  ·exact b.lo _ (by omega)
  ·exact b.lo _ h
theorem B.up{p:Array Nat}{m:Nat}(b:B N p m)(h:m<N):B N p (m+1):=by
 refine⟨b.pm,fun i h1 h2=>b.tl i (by omega) h2,fun i hi=>?_,h⟩
 by_cases c:i<m
 ·have:=b.lo i c;omega
 ·have e:i=m:=by omega
  rw[e,b.tl m (le_refl _) h]
  omega
theorem R.le{a b:Nat}(h:R key a b):key a≤key b:=by
 rcases h with h | h
 ·omega
 ·omega
theorem R.of{a b:Nat}(h:key a≤key b)(l:a<b):R key a b:=by
 by_cases c:key a<key b
 ·exact .inl c
 ·exact .inr ⟨by omega,l⟩
theorem I.turn{p:Array Nat}{m:Nat}(h:I key N p m):E key N (kas_rev p 0 m) m:=by
 have hs:m≤p.size:=by have:=h.1.size;have:=h.1.le;omega
 refine⟨h.1.rev (le_refl _),fun i j hij hj=>?_⟩
 rw[zcl hs,zcl hs,if_pos ⟨zero_le _,hj⟩,if_pos ⟨zero_le _,by omega⟩]
 exact h.2 _ _ (by omega) (by omega)
theorem E.turn{p:Array Nat}{m:Nat}(h:E key N p m):I key N (kas_rev p 0 m) m:=by
 have hs:m≤p.size:=by have:=h.1.size;have:=h.1.le;omega
 refine⟨h.1.rev (le_refl _),fun i j hij hj=>?_⟩
 rw[zcl hs,zcl hs,if_pos ⟨zero_le _,by omega⟩,if_pos ⟨zero_le _,hj⟩]
 exact h.2 _ _ (by omega) (by omega)
theorem D.one{p:Array Nat}{m:Nat}(h:D key N p (m+1) m):E key N p (m+1):=by
 refine⟨h.bs,fun i j hij hj=>?_⟩
 by_cases c:j<m
 ·exact h.ds i j hij c
 ·have e:j=m:=by omega
  subst e
  exact .inl (h.sp i j hij (le_refl _) (by omega))
theorem D.turn{p:Array Nat}{m b:Nat}(h:D key N p m b):E key N (kas_rev p b m) m:=by
 have hs:m≤p.size:=by have:=h.bs.size;have:=h.bs.le;omega
 have hl:=h.lt
 refine⟨h.bs.rev (le_refl _),fun i j hij hj=>?_⟩
 rw[zcl hs,zcl hs]
 by_cases c:j<b
 ·rw[if_neg (by omega),if_neg (by omega)]
  exact h.ds i j hij c
 ·rw[if_pos ⟨by omega,hj⟩]
  by_cases c2:i<b
  ·rw[if_neg (by omega)]
   exact .inl (h.sp i _ c2 (by omega) (by omega))
  ·rw[if_pos ⟨by omega,by omega⟩]
   have z:=h.bk (b+m-1-j) (b+m-1-i) (by omega) (by omega) (by omega)
   exact .inr z
theorem E.step{p:Array Nat}{m:Nat}(h:E key N p m)(h1:1≤m)(hm:m<N)(hk:key (g p m)<key (g p (m-1))):D key N p (m+1) m:=by
 refine⟨h.1.up hm,by omega,h.2,fun i j hi h2 h3=>?_,fun i j h2 h3 h4=>by omega⟩
 have e:j=m:=by omega
 subst e
 by_cases c:i=j-1
 ·subst c;exact hk
 ·have:=(h.2 i (j-1) (by omega) (by omega)).le
  omega
theorem D.same{p:Array Nat}{m b:Nat}(h:D key N p m b)(hm:m<N)(hk:key (g p m)=key (g p (m-1))):D key N p (m+1) b:=by
 have hl:=h.lt
 refine⟨h.bs.up hm,by omega,h.ds,fun i j hi h2 h3=>?_,fun i j h2 h3 h4=>?_⟩
 ·by_cases c:j<m
  ·exact h.sp i j hi h2 c
  ·have e:j=m:=by omega
   subst e
   rw[hk]
   exact h.sp i _ hi (by omega) (by omega)
 ·by_cases c:j<m
  ·exact h.bk i j h2 h3 c
  ·have e:j=m:=by omega
   subst e
   refine⟨?_,by rw[h.bs.tl j (le_refl _) hm];exact h.bs.lo i h3⟩
   rw[hk]
   by_cases c2:i=j-1
   ·rw[c2]
   ·exact(h.bk i (j-1) h2 (by omega) (by omega)).1
theorem I.up{p:Array Nat}{m:Nat}(h:I key N p m)(h1:1≤m)(hm:m<N)(hk:¬key (g p m)<key (g p (m-1))):I key N p (m+1):=by
 refine⟨h.1.up hm,fun i j hij hj=>?_⟩
 by_cases c:j<m
 ·exact h.2 i j hij c
 ·have e:j=m:=by omega
  subst e
  refine R.of ?_ (by rw[h.1.tl j (le_refl _) hm];exact h.1.lo i hij)
  by_cases c2:i=j-1
  ·rw[c2];omega
  ·have:=(h.2 i (j-1) (by omega) (by omega)).le
   omega
theorem asc{p:Array Nat}{Q:Nat→Shared→Prop}{s:Shared}:∀(f m:Nat),m+f=N→1≤m→I key N p m→(∀m',m≤m'→m'≤N→I key N p m'→(m'<N→key (g p m')<key (g p (m'-1)))→Q m' s)→(kas_asc p f m).kasWp (ck key N) Q s
 | 0,m,e,h1,h,q=>q m (le_refl _) (by omega) h (by omega)
 | f+1,m,e,h1,h,q=>by
   refine⟨h.1.lt (by omega),h.1.lt (by omega),?_⟩
   by_cases c:key (g p m)<key (g p (m-1))
   ·rw[decide_eq_true c];dsimp only;rw[if_pos rfl]
    exact q m (le_refl _) (by omega) h fun _=>c
   ·rw[decide_eq_false c];dsimp only;rw[if_neg Bool.false_ne_true]
    exact asc f (m+1) (by omega) (by omega) (h.up h1 (by omega) c) fun m' l1 l2=>q m' (by omega) l2
theorem desc{Q:Array Nat×Nat×Nat→Shared→Prop}{s:Shared}:∀(f:Nat)(p:Array Nat)(m q:Nat),m+f=N→q+1≤m→D key N p m (m-(q+1)) →
 (∀p' m' q',m'≤N→q'+1≤m'→D key N p' m' (m'-(q'+1))→Q (p',m',q') s)→(kas_desc f p m q).kasWp (ck key N) Q s
 | 0,p,m,q,e,hq,h,k=>k p m q (by omega) hq h
 | f+1,p,m,q,e,hq,h,k=>by
   refine⟨h.bs.lt (by omega),h.bs.lt (by omega),?_⟩
   by_cases c:key (g p m)<key (g p (m-1))
   ·rw[decide_eq_true c];dsimp only;rw[if_pos rfl]
    by_cases cq:q > 0
    ·rw[if_pos cq]
     refine desc f _ (m+1) 0 (by omega) (by omega) ?_ k
     have hs:m≤p.size:=by have:=h.bs.size;omega
     refine h.turn.step (by omega) (by omega) ?_
     rw[zcl hs,zcl hs,if_neg (by omega),if_pos ⟨by omega,by omega⟩]
     have z:=(h.bk (m-(q+1)) (m-1) (le_refl _) (by omega) (by omega)).1
     rw[show m-(q+1)+m-1-(m-1)=m-(q+1)by omega,z]
     exact c
    ·rw[if_neg cq]
     have e0:q=0:=by omega
     subst e0
     refine desc f _ (m+1) 0 (by omega) (by omega) ?_ k
     obtain⟨r,rfl⟩:∃r,m=r+1:=⟨m-1,by omega⟩
     exact E.step (D.one h) (by omega) (by omega) c
   ·rw[decide_eq_false c];dsimp only;rw[if_neg Bool.false_ne_true]
    refine⟨h.bs.lt (by omega),h.bs.lt (by omega),?_⟩
    by_cases d:key (g p (m-1))<key (g p m)
    ·rw[decide_eq_true d];dsimp only;rw[if_pos rfl]
     exact k p m q (by omega) hq h
    ·rw[decide_eq_false d];dsimp only;rw[if_neg Bool.false_ne_true]
     refine desc f p (m+1) (q+1) (by omega) (by omega) ?_ k
     rw[show m+1-(q+1+1)=m-(q+1)by omega]
     exact h.same (by omega) (by omega)
theorem tail3{p:Array Nat}{m:Nat}{Q:Nat×Array Nat→Shared→Prop}{s:Shared}(h1:1≤m)(h:E key N p m)(q:∀m' p',1≤m'→m'≤N→I key N p' m'→Q (m',p') s):(kas_tail3 m N p).kasWp (ck key N) Q s:=by
 unfold kas_tail3
 rw[KasT.kasWp_bind]
 have:=h.1.le
 exact asc (N-m) m (by omega) h1 h.turn fun m' l1 l2 z _=>q m' _ (by omega) l2 z
theorem zhM{p:Array Nat}{m:Nat}{Q:Nat×Array Nat→Shared→Prop}{s:Shared}(h1:1≤m)(hm:m<N)(h:E key N p m)(hk:key (g p m)<key (g p (m-1)))(q:∀m' p',1≤m'→m'≤N→I key N p' m'→Q (m',p') s):(kas_descPart m N p).kasWp (ck key N) Q s:=by
 unfold kas_descPart
 rw[KasT.kasWp_bind]
 refine desc (N-(m+1)) p (m+1) 0 (by omega) (by omega) (h.step h1 hm hk) fun p' m' q' l1 l2 d=>?_
 dsimp only
 by_cases c:q' > 0
 ·rw[if_pos c]
  exact tail3 (by omega) d.turn q
 ·rw[if_neg c]
  have e0:q'=0:=by omega
  subst e0
  obtain⟨r,rfl⟩:∃r,m'=r+1:=⟨m'-1,by omega⟩
  exact tail3 (by omega) (D.one d) q
theorem count{p:Array Nat}{Q:Nat×Array Nat→Shared→Prop}{s:Shared}(h1:1≤N)(h:I key N p 1)(q:∀m' p',1≤m'→m'≤N→I key N p' m'→Q (m',p') s):(kas_count N p).kasWp (ck key N) Q s:=by
 unfold kas_count
 rw[KasT.kasWp_bind]
 refine asc (N-1) 1 (by omega) (le_refl _) h fun m l1 l2 z hk=>?_
 by_cases c:m=N
 ·rw[if_pos (by rw[c];exact beq_self_eq_true N)]
  exact q m p l1 l2 z
 ·rw[if_neg (by intro b;exact c (eq_of_beq b))]
  have hm:m<N:=by omega
  have hk:=hk hm
  by_cases c1:m > 1
  ·rw[if_pos c1]
   refine⟨z.1.lt (by omega),z.1.lt (by omega),?_⟩
   by_cases d:key (g p 0)<key (g p (m-1))
   ·rw[decide_eq_true d];dsimp only;rw[if_pos rfl]
    exact q m p l1 l2 z
   ·rw[decide_eq_false d];dsimp only;rw[if_neg Bool.false_ne_true]
    have hs:m≤p.size:=by have:=z.1.size;omega
    refine zhM l1 hm z.turn ?_ q
    rw[zcl hs,zcl hs,if_neg (by omega),if_pos ⟨by omega,by omega⟩,show 0+m-1-(m-1)=0 by omega]
    omega
  ·rw[if_neg c1]
   have e:m=1:=by omega
   subst e
   exact zhM l1 hm ⟨z.1,fun i j a b=>by omega⟩ hk q
theorem place{p:Array Nat}{k:Nat}{Q:Nat→Shared→Prop}{s:Shared}(hk:k<N)(h:I key N p k):∀(f l r:Nat),r≤l+f→l≤r→r≤k→(∀i,i<l→key (g p i)≤key (g p k))→(∀i,r≤i→i<k→key (g p k)<key (g p i)) →
 (∀l',l'≤k→(∀i,i<l'→key (g p i)≤key (g p k))→(∀i,l'≤i→i<k→key (g p k)<key (g p i))→Q l' s)→(kas_place p k f l r).kasWp (ck key N) Q s
 | 0,l,r,e,h1,h2,a,b,q=>q l (by omega) a fun i x y=>b i (by omega) y
 | f+1,l,r,e,h1,h2,a,b,q=>by
   unfold kas_place
   by_cases c:l ≥ r
   ·rw[if_pos c]
    exact q l (by omega) a fun i x y=>b i (by omega) y
   ·rw[if_neg c]
    have h3:(l+r)/2<r:=by omega
    have h4:l≤(l+r)/2:=by omega
    generalize (l+r)/2=m at h3 h4
    refine⟨h.1.lt hk,h.1.lt (by omega),?_⟩
    by_cases d:key (g p k)<key (g p m)
    ·rw[decide_eq_true d];dsimp only;rw[if_pos rfl]
     refine place hk h f l m (by omega) h4 (by omega) a (fun i x y=>?_) q
     by_cases c2:i=m
     ·rw[c2];exact d
     ·have:=(h.2 m i (by omega) y).le
      omega
    ·rw[decide_eq_false d];dsimp only;rw[if_neg Bool.false_ne_true]
     refine place hk h f (m+1) r (by omega) (by omega) h2 (fun i x=>?_) b q
     by_cases c2:i=m
     ·rw[c2];omega
     ·have:=(h.2 i m (by omega) (by omega)).le
      omega
theorem I.put{p:Array Nat}{k l:Nat}(hk:k<N)(h:I key N p k)(hl:l≤k)(a:∀i,i<l→key (g p i)≤key (g p k))(b:∀i,l≤i→i<k→key (g p k)<key (g p i)):I key N (bubble p k (k-l)) (k+1):=by
 have hs:k<p.size:=by rw[h.1.size];exact hk
 have hg:=fun i=>g_bub hs (Nat.sub_le k l) i
 rw[show k-(k-l)=l by omega] at hg
 refine⟨⟨(bubble_perm _ _ _).trans h.1.pm,fun i h1 h2=>?_,fun i hi=>?_,hk⟩,fun i j hij hj=>?_⟩
 ·rw[hg,if_neg (by omega),if_neg (by omega)]
  exact h.1.tl i (by omega) h2
 ·rw[hg]
  by_cases c:i=l
  ·rw[if_pos c,h.1.tl k (le_refl _) hk];omega
  ·rw[if_neg c]
   by_cases c2:l<i∧i≤k
   ·rw[if_pos c2];have:=h.1.lo (i-1) (by omega);omega
   ·rw[if_neg c2];have:=h.1.lo i (by omega);omega
 ·rw[hg i,hg j]
  by_cases c1:j<l
  ·rw[if_neg (by omega),if_neg (by omega),if_neg (by omega),if_neg (by omega)]
   exact h.2 i j hij (by omega)
  ·by_cases c2:j=l
   ·rw[if_pos c2,if_neg (by omega),if_neg (by omega)]
    exact R.of (a i (by omega)) (by rw[h.1.tl k (le_refl _) hk];exact h.1.lo i (by omega))
   ·rw[if_neg c2,if_pos (show l<j∧j≤k by omega)]
    by_cases c3:i=l
    ·rw[if_pos c3]
     exact .inl (b (j-1) (by omega) (by omega))
    ·rw[if_neg c3]
     by_cases c4:i<l
     ·rw[if_neg (by omega)]
      exact h.2 i (j-1) (by omega) (by omega)
     ·rw[if_pos (by omega)]
      exact h.2 (i-1) (j-1) (by omega) (by omega)
theorem bin{Q:Array Nat→Shared→Prop}{s:Shared}(q:∀p',I key N p' N→Q p' s):∀(f:Nat)(p:Array Nat)(k:Nat),k+f=N→I key N p k→(kas_bin f p k).kasWp (ck key N) Q s
 | 0,p,k,e,h=>q p (by rw[Nat.add_zero] at e;rw[←e];rw[e] at h ⊢;exact h)
 | f+1,p,k,e,h=>by
   unfold kas_bin
   rw[KasT.kasWp_bind]
   refine place (by omega) h k 0 k (by omega) (zero_le _) (le_refl _) (fun i x=>by omega) (fun i x y=>by omega) fun l l1 a b=>?_
   exact bin q f _ (k+1) (by omega) (h.put (by omega) l1 a b)
theorem zaY(h1:1≤N):I key N (List.range N).toArray 1:=by
 have e:∀i,i<N→g (List.range N).toArray i=i:=fun i h=>by
  show(List.range N).toArray.getD i 0=i
  simp[Array.getD,h]
 exact⟨⟨Array.Perm.refl _,fun i _ h=>e i h,fun i h=>by rw[e i (by omega)];exact h,h1⟩,fun i j a b=>by omega⟩
theorem sort{Q:Array Nat→Shared→Prop}{s:Shared}(h1:1≤N)(q:∀p,I key N p N→Q p s):(kas_sort N).kasWp (ck key N) Q s:=by
 unfold kas_sort
 rw[KasT.kasWp_bind]
 refine count h1 (zaY h1) fun m p l1 l2 h=>?_
 dsimp only
 by_cases c:m<N
 ·rw[if_pos c,show max m 1=m by omega]
  exact bin q (N-m) p m (by omega) h
 ·rw[if_neg c]
  have e:m=N:=by omega
  subst e
  exact q p h
end
end M14
namespace L2
open PySem PySem.W PySem.Calls PyProof.Rows
theorem wp_cmp{α:Type}{c c':Nat→Nat→(Bool→Shared→Prop)→Shared→Prop}{Q:α→Shared→Prop}(m:∀i j C C' s,(∀b s',C b s'→C' b s')→c i j C s→c' i j C' s):
 ∀(t:KasT α)(s:Shared),t.kasWp c Q s→t.kasWp c' Q s
 | .ret _,_,h=>h
 | .ask i j k,s,h=>m i j _ _ s (fun b s' z=>wp_cmp m (k b) s' z) h
section
variable {X:Cx}{pins:List (Addr×Obj)}{σ:St}{H:Hp}{s:Shared}{a kS:Addr}{A:Around}{E:Value→Shared→Prop}
structure Own (X:Cx) (pins:List (Addr×Obj)) (H:Hp) (a:Addr):Prop where
 free:H a=none
 loc:a≠X.env.locals
 new:X.s₀.heap.objs.size≤a
 cell:∀x c,X.env.cells.lookup x=some c→c≠a
 pin:∀p∈X.pn++pins,p.1≠a
 fs:a∉X.fs
theorem Inv.own(I:Inv X pins σ H s){b:Addr}(h:s.heap.objs.size≤b):Own X pins H b:=by
 refine⟨I.hok.fresh h,fun z=>?_,le_trans I.sz h,fun x c e z=>?_,fun p hp z=>?_,I.nofs h⟩
 ·have:=I.lt;rw[←z] at this;exact absurd this (Nat.not_lt.mpr h)
 ·obtain⟨v,hv⟩:=I.cell x c e
  obtain⟨o,ho,_⟩:=hv
  have:=lt_size ho
  rw[z] at this
  exact absurd this (Nat.not_lt.mpr h)
 ·have:=lt_size (I.pin p hp).1
  rw[z] at this
  exact absurd this (Nat.not_lt.mpr h)
theorem Inv.swap{f:Obj→Obj}(I:Inv X pins σ H s)(o:Own X pins H a):Inv X pins σ H { s with heap:=s.heap.update a f } :=
 I.turned (it:=a) (fun b u hb hu=>(get?_update_other s.heap f (Ne.symm hb)).trans hu) o.free o.loc (.inr o.new) o.cell o.pin
theorem Inv.hold{u:Obj}(I:Inv X pins σ H s)(o:Own X pins H a)(e:s.heap.get? a=some u)(hu:∀v,u.data ≠ .cell v):Inv X ((a,u)::pins) σ H s :=
 I.pins_of fun p hp=>by
  rcases List.mem_cons.mp hp with rfl | hp
  ·exact⟨e,o.free,o.loc,o.fs,hu⟩
  ·exact I.pin p (mem_append_right _ hp)
theorem Inv.drop{p:Addr×Obj}(I:Inv X (p::pins) σ H s):Inv X pins σ H s :=
 I.pins_of fun q hq=>I.pin q (mem_append_right _ (mem_cons_of_mem _ hq))
theorem Inv.held{u:Obj}(I:Inv X ((a,u)::pins) σ H s):s.heap.get? a=some u:=(I.pin (a,u) (mem_append_right _ (mem_cons_self ..))).1
theorem Own.more{u:Obj}(o:Own X pins H a)(h:kS≠a):Own X ((kS,u)::pins) H a :=
 ⟨o.free,o.loc,o.new,o.cell,fun p hp=>by
  rcases List.mem_append.mp hp with z | z
  ·exact o.pin p (mem_append_left _ z)
  ·rcases List.mem_cons.mp z with rfl | z
   ·exact h
   ·exact o.pin p (mem_append_right _ z),o.fs⟩
theorem nocell{vs:Array Value}{n:Nat}:∀v,(seqObj "list" vs n).data ≠ .cell v:=fun v z=>by cases z
theorem zed:∀{ks:List Value}{kz:List Int},IntsAre ks kz→∀i,i<kz.length→∃t,ks.getD i Value.none=Value.int (kz.getD i 0) t
 | _,_,.cons n t r,0,_=>⟨t,rfl⟩
 | _,_,.cons n t r,i+1,h=>zed r i (by simpa using h)
theorem ziN{vs:List Value}{kz:List Int}{e1:Nat}{body:Value→PUnit→Sem (ForInStep PUnit)}(hl:kz.length=vs.length)
 (hb:∀(v:Value)(ks:List Value)(e:Nat)(s:Shared),vs[ks.length]? = some v→Inv X ((kS,seqObj "list" ks.toArray e)::(a,seqObj "list" #[] e1)::pins) σ H s→IntsAre ks (kz.take ks.length) →
   wpAny (model X.prog X.w) A (body v ⟨⟩) (fun r s'=>r=.yield ⟨⟩∧∃(k:Value)(e':Nat),Inv X ((kS,seqObj "list" (ks++[k]).toArray e')::(a,seqObj "list" #[] e1)::pins) σ H s'∧IntsAre (ks++[k]) (kz.take (ks++[k]).length)) E s) :
 ∀(r:List Value)(ks:List Value)(e:Nat)(s:Shared),vs.drop ks.length=r→ks.length≤vs.length→Inv X ((kS,seqObj "list" ks.toArray e)::(a,seqObj "list" #[] e1)::pins) σ H s→IntsAre ks (kz.take ks.length) →
  wpAny (model X.prog X.w) A (forIn r PUnit.unit body) (fun _ s'=>∃(ks:List Value)(e:Nat),Inv X ((kS,seqObj "list" ks.toArray e)::(a,seqObj "list" #[] e1)::pins) σ H s'∧IntsAre ks kz) E s
 | [],ks,e,s,hd,hz,I,hi=>by
   rw[forIn_nil]
   have:vs.length≤ks.length:=by
    have:=congrArg List.length hd
    rw[length_drop,length_nil] at this
    omega
   refine wpAny_pure ⟨ks,e,I,?_⟩
   rw[take_of_length_le (by omega)] at hi
   exact hi
 | v::r,ks,e,s,hd,hz,I,hi=>by
   rw[forIn_cons]
   have hv:vs[ks.length]? = some v:=by
    have:=congrArg List.head? hd
    rw[List.head?_drop] at this
    exact this
   have hlt:ks.length<vs.length:=(List.getElem?_eq_some_iff.mp hv).1
   refine wpAny_bind (wpAny_mono (hb v ks e s hv I hi) (fun q s' hq=>?_) fun _ _ x=>x)
   obtain⟨rfl,k,e',I',hi'⟩:=hq
   show wpAny (model X.prog X.w) A (forIn r PUnit.unit body) _ E s'
   have hlen:(ks++[k]).length=ks.length+1:=by rw[length_append,length_singleton]
   refine ziN hl hb r (ks++[k]) e' s' ?_ (by omega) I' hi'
   rw[hlen,←List.drop_drop,hd]
   rfl
theorem key_tail{st:SortSt}{ks out:List Value}{e e1:Nat}(I:Inv X ((kS,seqObj "list" ks.toArray e)::(a,seqObj "list" #[] e1)::pins) σ H s)(o:Own X pins H a)(ok:Own X pins H kS)(hka:kS≠a)(hz:ks.length<64)(hz2:out.length<64)
 (ho:(arrOf st).map (·.2)=List.toArray out) (hf:failedOf st=none) :
 wpAny (model X.prog X.w) A (ksk_tail a false e1 (.ref kS) st) (fun r s'=>r=.done (.ret .none)∧Inv X pins σ H s'∧∃e,s'.heap.get? a=some (seqObj "list" out.toArray e)) E s:=by
 have hln:=zx
 have hk:=I.held
 have ha:=I.drop.held
 have I1:=I.drop.drop.swap (f:=Obj.mapSeq fun _=>(#[]:Array Value)) ok
 have ha1:(s.heap.update kS (Obj.mapSeq fun _=>(#[]:Array Value))).get? a=some (seqObj "list" #[] e1):=(get?_update_other s.heap _ hka).trans ha
 have I2:=I1.swap (f:=Obj.mapSeq fun _=>out.toArray) o
 obtain⟨c2,hc2⟩:∃c2,((s.heap.update kS (Obj.mapSeq fun _=>(#[]:Array Value))).update a (Obj.mapSeq fun _=>out.toArray)).get? a=some (seqObj "list" out.toArray c2):=⟨_,get?_update_seq ha1 fun _=>out.toArray⟩
 unfold ksk_tail
 try dsimp only
 rw[ho]
 refine wpAny_bind (listUpdate_at hk rfl ?_ (by rw[size_toArray];omega) (zero_le _))
 refine wpAny_bind (wpAny_letGo ?_)
 refine wpAny_bind (seqEpoch_at ha1 rfl ?_)
 simp only[Bool.false_eq_true,if_false]
 refine wpAny_bind (listUpdate_at ha1 rfl ?_ (zero_le _) (by rw[size_toArray];omega))
 rw[hf]
 simp only[bne_self_eq_false,Bool.false_eq_true,if_false]
 exact wpAny_pure ⟨rfl,I2,c2,hc2⟩
theorem keyed{f:Value}{vs:List Value}{n:Nat}{kz:List Int}(I:Inv X pins σ H s)(o:Own X pins H a)(ho:s.heap.get? a=some (seqObj "list" vs.toArray n))(h1:1≤vs.length)(h64:vs.length<64)(hl:kz.length=vs.length)
 (calls:∀(i:Nat)(v:Value)(pins':List (Addr×Obj)) (s':Shared),vs[i]? = some v→Inv X pins' σ H s'→wpAny (model X.prog X.w) A (call f [v]) (fun k s''=>Inv X pins' σ H s''∧∃t,k=Value.int (kz.getD i 0) t) (fun _ _=>False) s') :
 wpAny (model X.prog X.w) A (ksk_tree a f false) (fun r s'=>r=.done (.ret .none)∧∃(p:Array Nat)(e:Nat),M14.I (fun k=>kz.getD k 0) vs.length p vs.length∧Inv X pins σ H s'∧s'.heap.get? a=some (seqObj "list" (p.toList.map fun i=>vs.getD i Value.none).toArray e)) E s:=by
 have hln:=zx
 have ha:a<s.heap.objs.size:=lt_size ho
 have I1:=I.swap (f:=Obj.mapSeq fun _=>(#[]:Array Value)) o
 obtain⟨e1,ho1⟩:∃e1,(s.heap.update a (Obj.mapSeq fun _=>(#[]:Array Value))).get? a=some (seqObj "list" #[] e1):=⟨_,get?_update_seq ho fun _ => #[]⟩
 unfold ksk_tree
 refine wpAny_bind (listItems_at ho rfl ?_)
 refine wpAny_bind (listUpdate_at ho rfl ?_ (by rw[size_toArray];omega) (zero_le _))
 refine wpAny_bind (seqEpoch_at ho1 rfl ?_)
 refine wpAny_bind (wpAny_newTuple ?_ (by show vs.length≤_;omega))
 refine wpAny_bind (wpAny_newList ?_ (zero_le _))
 refine wpAny_holding ?_
 have I2:Inv X pins σ H { s with heap:=(s.heap.update a (Obj.mapSeq fun _=>(#[]:Array Value))).push (seqObj "tuple" vs.toArray 0) }:=I1.kept (t':=s.toks) fun b u q=>get?_push_of_some _ q
 have I3:Inv X pins σ H { s with heap:=((s.heap.update a (Obj.mapSeq fun _=>(#[]:Array Value))).push (seqObj "tuple" vs.toArray 0)).push (seqObj "list" #[] 0) }:=I2.kept (t':=s.toks) fun b u q=>get?_push_of_some _ q
 have ok:=I2.own (b:=((s.heap.update a (Obj.mapSeq fun _=>(#[]:Array Value))).push (seqObj "tuple" vs.toArray 0)).objs.size) (le_refl _)
 have hka:((s.heap.update a (Obj.mapSeq fun _=>(#[]:Array Value))).push (seqObj "tuple" vs.toArray 0)).objs.size≠a:=by
  rw[size_push',size_update]
  exact ne_of_gt (lt_succ_of_lt ha)
 have hk0:(((s.heap.update a (Obj.mapSeq fun _=>(#[]:Array Value))).push (seqObj "tuple" vs.toArray 0)).push (seqObj "list" #[] 0)).get? ((s.heap.update a (Obj.mapSeq fun _=>(#[]:Array Value))).push (seqObj "tuple" vs.toArray 0)).objs.size=some (seqObj "list" #[] 0):=get?_push_size _ rfl
 have ha0:(((s.heap.update a (Obj.mapSeq fun _=>(#[]:Array Value))).push (seqObj "tuple" vs.toArray 0)).push (seqObj "list" #[] 0)).get? a=some (seqObj "list" #[] e1):=get?_push_of_some _ (get?_push_of_some _ ho1)
 show wpAny _ _ (ksk_rest a f false vs.toArray e1 (.ref ((s.heap.update a (Obj.mapSeq fun _=>(#[]:Array Value))).push (seqObj "tuple" vs.toArray 0)).objs.size)) _ _ { s with heap:=((s.heap.update a (Obj.mapSeq fun _=>(#[]:Array Value))).push (seqObj "tuple" vs.toArray 0)).push (seqObj "list" #[] 0) }
 generalize ((s.heap.update a (Obj.mapSeq fun _=>(#[]:Array Value))).push (seqObj "tuple" vs.toArray 0)).objs.size=kS at ok hka hk0
 generalize ((s.heap.update a (Obj.mapSeq fun _=>(#[]:Array Value))).push (seqObj "tuple" vs.toArray 0)).push (seqObj "list" #[] 0)=h3 at I3 hk0 ha0
 clear I1 I2 ho1
 have ok':∀e,Own X ((a,seqObj "list" #[] e)::pins) H kS:=fun e=>ok.more (Ne.symm hka)
 have I4:=(I3.hold o ha0 nocell).hold (ok' e1) hk0 nocell
 unfold ksk_rest
 refine wpAny_bind (wpAny_rule ?_)
 rw[forIn_toArray]
 refine wpAny_bind (wpAny_mono (ziN (kz:=kz) (vs:=vs) hl (fun v ks e s' hv I5 hi=>?_) vs [] 0 _ rfl (zero_le _) I4 .nil) (fun _ s' hd=>?_) fun _ _ x=>x)
 ·refine wpAny_bind (wpAny_attempt (wpAny_mono (calls ks.length v _ s' hv I5) (fun k s'' hk=>?_) fun _ _ hF=>hF.elim))
  obtain⟨I6,t,rfl⟩:=hk
  dsimp only
  have hlt:ks.length<vs.length:=(List.getElem?_eq_some_iff.mp hv).1
  have hk6:=I6.held
  obtain⟨c2,hc2⟩:∃c2,(s''.heap.update kS (Obj.mapSeq (·.push (Value.int (kz.getD ks.length 0) t)))).get? kS=some (seqObj "list" (ks++[Value.int (kz.getD ks.length 0) t]).toArray c2) :=
   ⟨_,by rw[show(ks++[Value.int (kz.getD ks.length 0) t]).toArray=ks.toArray.push (Value.int (kz.getD ks.length 0) t)by simp];exact get?_update_seq hk6 (·.push _)⟩
  refine wpAny_bind (listUpdate_at hk6 rfl ?_ (by rw[size_toArray];omega) (by rw[Array.size_push,size_toArray];omega))
  exact wpAny_pure ⟨rfl,_,c2,(I6.drop.swap (ok' e1)).hold (ok' e1) hc2 nocell,by rw[length_append,length_singleton,List.take_add_one];exact hi.append (by rw[getElem?_eq_getElem (by omega),getD_eq_getElem?_getD,getElem?_eq_getElem (by omega)];exact .cons _ t .nil)⟩
 ·obtain⟨ks,e,I7,hi⟩:=hd
  have hk7:=I7.held
  have I8:=I7.drop
  have ha8:=I8.held
  have hkl:ks.length=vs.length:=by rw[hi.length,hl]
  refine wpAny_bind (listItems_at hk7 rfl ?_)
  have fin:∀(st:SortSt)(p:Array Nat),M14.I (fun k=>kz.getD k 0) vs.length p vs.length→arrOf st=p.map (kas_item (ks.toArray.zip vs.toArray))→failedOf st=none →
   wpAny (model X.prog X.w) A (ksk_tail a false e1 (.ref kS) st) (fun r s'=>r=.done (.ret .none)∧∃(p:Array Nat)(e:Nat),M14.I (fun k=>kz.getD k 0) vs.length p vs.length∧Inv X pins σ H s'∧s'.heap.get? a=some (seqObj "list" (p.toList.map fun i=>vs.getD i Value.none).toArray e)) E s':=fun st p hp har hf =>
   wpAny_mono (key_tail (out:=p.toList.map fun i=>vs.getD i Value.none) I7 o ok hka (by omega) (by rw[length_map,Array.length_toList,hp.1.size];exact h64) (kat_snds hkl har) hf) (fun r s2 z=>⟨z.1,p,_,hp,z.2.1,z.2.2.choose_spec⟩) fun _ _ x=>x
  unfold ksk_end
  simp only[Bool.false_eq_true,if_false]
  by_cases h2:vs.length<2
  ·have hs2:vs.toArray.size<2:=by rw[size_toArray];exact h2
   rw[if_pos hs2,if_pos hs2]
   refine wpAny_bind (wpAny_pure ?_)
   refine wpAny_bind (wpAny_pure ?_)
   have hN:vs.length=1:=by omega
   have z:∀m,m=1→M14.I (fun k=>kz.getD k 0) vs.length (List.range vs.length).toArray m:=fun m e=>by rw[e];exact M14.zaY h1
   refine fin _ _ (z _ hN) ?_ rfl
   have e:=kas_range (ks.toArray.zip vs.toArray)
   rw[show(ks.toArray.zip vs.toArray).size=vs.length by simp[hkl]] at e
   exact e.symm
  ·have hs2:¬vs.toArray.size<2:=by rw[size_toArray];exact h2
   rw[if_neg hs2,if_neg hs2,ksk_kind (kz:=kz) (by simpa using hi) (by rw[size_toArray];omega)]
   refine wpAny_bind (wpAny_pure ?_)
   have ask:(kas_sort vs.length).kasWp (kas_ask X.prog X.w A oneType' ks) (fun p s2=>M14.I (fun k=>kz.getD k 0) vs.length p vs.length∧s2=s') s':=by
    refine wp_cmp (c:=M14.ck (fun k=>kz.getD k 0) vs.length) (fun i j C C' s0 m h=>?_) _ _ (M14.sort h1 fun p hp=>⟨hp,rfl⟩)
    obtain⟨hi1,hj1,hc⟩:=h
    obtain⟨t,et⟩:=zed hi i (by omega)
    obtain⟨u,eu⟩:=zed hi j (by omega)
    unfold kas_ask
    rw[et,eu]
    exact kat_lt_int (m _ _ hc)
   refine wpAny_bind (wpAny_mono (kat_run (Q:=fun st' s2=>∃p:Array Nat,M14.I (fun k=>kz.getD k 0) vs.length p vs.length∧arrOf st'=p.map (kas_item (ks.toArray.zip vs.toArray))∧failedOf st'=none∧s2=s') hkl (by omega) h64 (fun p' st' s2 a1 a2 a3 a4=>⟨p',a4.1,a2,a3,a4.2⟩) ask) ?_ fun _ _ x=>x)
   rintro ⟨⟨⟩,st'⟩ s2 ⟨p,hp,har,hf,rfl⟩
   exact fin _ _ hp har hf
end
end L2
namespace L2
open PySem PySem.W
abbrev zf4(h:Heap)(z TI TO T:Addr)(b:Bool):Prop :=
 h.get? z=some { cls:=.type "zip",dict:=none,data:=.fields #[rawInt T,.bool b,.bool false,.ref TI,.ref TO],slots := #[] }
section
variable {P:Program}{w:World}{A:Around}{E:Value→Shared→Prop}{s:Shared}{z TI TO T i1 i2 l1 l2:Addr}{b:Bool}
theorem zit{Q:Bool→Shared→Prop}(hz:zf4 s.heap z TI TO T b)(hT:∃o,s.heap.get? T=some o)(q:∀h',zf4 h' z TI TO T true→SameBut z s.heap h'→Q false { s with heap:=h' }):
 wpAny (model P w) A (Builtin.SmallTypes.ownedTupleIsFree (.ref z)) Q E s:=by
 obtain⟨o,ho⟩:=hT
 unfold Builtin.SmallTypes.ownedTupleIsFree
 refine wpAny_bind (wpAny_field hz rfl (x:=rawInt T) rfl ?_)
 show wpAny _ _ (loadIfAlive ((T:Int).toNat) >>= _) _ _ _
 rw[Int.toNat_natCast]
 refine wpAny_bind (kdx_alive ho ?_)
 simp only[Option.isNone_some,if_false,Bool.false_eq_true]
 refine wpAny_bind (wpAny_field hz rfl (x:=.bool b) rfl ?_)
 cases b with
 | true =>
   rw[if_neg (show ¬((Value.bool true != Value.bool true)=true)by decide)]
   exact wpAny_pure (q _ hz (Heap.SameBut.refl _ _))
 | false =>
   rw[if_pos (show(Value.bool false != Value.bool true)=true by decide)]
   exact wpAny_bind (wpAny_setField_rec hz (by simp) fun h₃ e₃ s₃=>wpAny_pure (q h₃ e₃ s₃))
theorem zip_busy{k1 k2:Nat}{xs ys:Array Value}{x y:Value}{Q:Value→Shared→Prop}(D:ZipApart z TI TO i1 i2 l1 l2)(hz:zf4 s.heap z TI TO T b)(hT:∃o,s.heap.get? T=some o)(hTI:IsPair s.heap TI (.ref i1) (.ref i2))
 (h1:s.heap.IsListIter i1 l1 k1) (h2:s.heap.IsListIter i2 l2 k2) (hl1:s.heap.IsList l1 xs) (hl2:s.heap.IsList l2 ys) (hx:xs[k1]? = some x) (hy:ys[k2]? = some y)
 (q:∀h',zf4 h' z TI TO T true→h'.IsListIter i1 l1 (k1+1)→h'.IsListIter i2 l2 (k2+1)→IsPair h' s.heap.objs.size x y→h'.objs.size=s.heap.objs.size+1 →
   (∀c o,c≠z→c≠i1→c≠i2→s.heap.get? c=some o→h'.get? c=some o)→Q (.ref s.heap.objs.size) { s with heap:=h' }) :
 wpAny (model P w) A (Builtin.«zip.__next__» ⟨[.ref z],[]⟩) (fun r s'=>∃v,r=.done (.ret v)∧Q v s') E s:=by
 show wpAny (model P w) A (field (.ref z) 2 >>= _) _ _ _
 refine wpAny_bind (wpAny_field hz (x:=.bool false) rfl rfl ?_)
 show wpAny (model P w) A (field (.ref z) 3 >>= _) _ _ _
 refine wpAny_bind (wpAny_field hz (x:=.ref TI) rfl rfl ?_)
 refine wpAny_bind (wpAny_seqItems hTI rfl ?_)
 show wpAny (model P w) A (Builtin.SmallTypes.ownedTupleIsFree (.ref z) >>= _) _ _ _
 refine wpAny_bind (zit hz hT fun h₁ z₁ s₁=>?_)
 simp only[if_false,Bool.false_eq_true]
 rw[show(#[Value.ref i1,Value.ref i2]:Array Value)=[Value.ref i1,Value.ref i2].toArray from rfl,forIn_toArray]
 simp only[forIn_cons,forIn_nil]
 refine wpAny_bind (wpAny_bind (wpAny_bind (wpAny_holding ?_)))
 show wpAny (model P w) A (Builtin.SmallTypes.nextOf (.ref i1) >>= _) _ _ _
 refine wpAny_bind (wpAny_nextOf_list_item (h1.extBut s₁.extBut D.i1z) (hl1.extBut s₁.extBut D.l1z) hx fun h₂ a₂ s₂=>wpAny_pure (wpAny_pure ?_))
 refine wpAny_bind (wpAny_bind (wpAny_holding ?_))
 show wpAny (model P w) A (Builtin.SmallTypes.nextOf (.ref i2) >>= _) _ _ _
 refine wpAny_bind (wpAny_nextOf_list_item ((h2.extBut s₁.extBut D.i2z).extBut s₂.extBut D.i12.symm) ((hl2.extBut s₁.extBut D.l2z).extBut s₂.extBut D.l2i1) hy fun h₃ a₃ s₃=>wpAny_pure (wpAny_pure (wpAny_pure ?_)))
 refine wpAny_bind (wpAny_newTuple (wpAny_pure ⟨_,rfl,?_⟩) (by show 2≤sizeLine;decide))
 have hsz:h₃.objs.size=s.heap.objs.size:=by rw[s₃.1,s₂.1,s₁.1]
 show Q (.ref h₃.objs.size) _
 rw[hsz]
 have up:∀c o,h₃.get? c=some o→(h₃.push { cls:=.type "tuple",data:=.seq #[x,y] }).get? c=some o:=fun c o e=>get?_push_of_some _ e
 refine q _ (up _ _ (s₃.extBut _ _ D.i2z.symm (s₂.extBut _ _ D.i1z.symm z₁))) ?_ ?_ ?_ ?_ fun c o c1 c2 c3 e=>up _ _ (s₃.extBut _ _ c3 (s₂.extBut _ _ c2 (s₁.extBut _ _ c1 e)))
 ·exact(a₂.extBut s₃.extBut D.i12).at fun o e=>up _ o e
 ·exact a₃.at fun o e=>up _ o e
 ·rw[←hsz];exact get?_push_size _ rfl
 ·exact(size_push ..).trans (by rw[hsz])
theorem zip_over{k1 k2:Nat}{xs ys:Array Value}{Q:Fin→Shared→Prop}(hh:A.handled=none)(D:ZipApart z TI TO i1 i2 l1 l2)(hz:zf4 s.heap z TI TO T b)(hT:∃o,s.heap.get? T=some o)(hTI:IsPair s.heap TI (.ref i1) (.ref i2))
 (h1:s.heap.IsListIter i1 l1 k1) (hl1:s.heap.IsList l1 xs) (hx:xs[k1]? = none)
 (q:∀h' e,(∀c o,c≠z→c≠i1→c≠i2→s.heap.get? c=some o→h'.get? c=some o)→(∃o,h'.get? e=some o∧o.cls=.type "StopIteration")→E (.ref e) { s with heap:=h' }) :
 wpAny (model P w) A (Builtin.«zip.__next__» ⟨[.ref z],[]⟩) Q E s:=by
 show wpAny (model P w) A (field (.ref z) 2 >>= _) _ _ _
 refine wpAny_bind (wpAny_field hz (x:=.bool false) rfl rfl ?_)
 show wpAny (model P w) A (field (.ref z) 3 >>= _) _ _ _
 refine wpAny_bind (wpAny_field hz (x:=.ref TI) rfl rfl ?_)
 refine wpAny_bind (wpAny_seqItems hTI rfl ?_)
 show wpAny (model P w) A (Builtin.SmallTypes.ownedTupleIsFree (.ref z) >>= _) _ _ _
 refine wpAny_bind (zit hz hT fun h₁ z₁ s₁=>?_)
 simp only[if_false,Bool.false_eq_true]
 rw[show(#[Value.ref i1,Value.ref i2]:Array Value)=[Value.ref i1,Value.ref i2].toArray from rfl,forIn_toArray]
 simp only[forIn_cons,forIn_nil]
 refine wpAny_bind (wpAny_bind (wpAny_bind (wpAny_holding ?_)))
 show wpAny (model P w) A (Builtin.SmallTypes.nextOf (.ref i1) >>= _) _ _ _
 refine wpAny_bind (wpAny_nextOf_list_end hh (h1.extBut s₁.extBut D.i1z) (hl1.extBut s₁.extBut D.l1z) hx fun h₂ e s₂ he=>?_)
 exact q h₂ e (fun c o c1 c2 _ x=>s₂ _ _ c2 (s₁.extBut _ _ c1 x)) he
theorem next_busy{k1 k2:Nat}{xs ys:Array Value}{x y:Value}{Q:Option Value→Shared→Prop}(D:ZipApart z TI TO i1 i2 l1 l2)(hz:zf4 s.heap z TI TO T b)(hT:∃o,s.heap.get? T=some o)(hTI:IsPair s.heap TI (.ref i1) (.ref i2))
 (h1:s.heap.IsListIter i1 l1 k1) (h2:s.heap.IsListIter i2 l2 k2) (hl1:s.heap.IsList l1 xs) (hl2:s.heap.IsList l2 ys) (hx:xs[k1]? = some x) (hy:ys[k2]? = some y)
 (q:∀h',zf4 h' z TI TO T true→h'.IsListIter i1 l1 (k1+1)→h'.IsListIter i2 l2 (k2+1)→IsPair h' s.heap.objs.size x y→h'.objs.size=s.heap.objs.size+1 →
   (∀c o,c≠z→c≠i1→c≠i2→s.heap.get? c=some o→h'.get? c=some o)→Q (some (.ref s.heap.objs.size)) { s with heap:=h' }) :
 wpAny (model P w) A (pyNext (.ref z)) Q E s:=by
 have t:s.TypeIs (.ref z) "zip":=⟨_,hz,rfl⟩
 unfold pyNext
 exact wpAny_bind (wpAny_attempt (wpAny_callSpecial?_slot (name:=Str.ofString "__next__") t F.slot_zip_next (wpAny_call_entry F.slot_zip_next t F.entry_zip_next
  (zip_busy D hz hT hTI h1 h2 hl1 hl2 hx hy fun h' a1 a2 a3 a4 a5 a6=>wpAny_pure (q h' a1 a2 a3 a4 a5 a6)) (F.args_zip_next_1 _))))
theorem next_over{k1:Nat}{xs:Array Value}{Q:Option Value→Shared→Prop}(hh:A.handled=none)(D:ZipApart z TI TO i1 i2 l1 l2)(hz:zf4 s.heap z TI TO T b)(hT:∃o,s.heap.get? T=some o)(hTI:IsPair s.heap TI (.ref i1) (.ref i2))
 (h1:s.heap.IsListIter i1 l1 k1) (hl1:s.heap.IsList l1 xs) (hx:xs[k1]? = none)
 (q:∀h',(∀c o,c≠z→c≠i1→c≠i2→s.heap.get? c=some o→h'.get? c=some o)→Q none { s with heap:=h' }):wpAny (model P w) A (pyNext (.ref z)) Q E s:=by
 have t:s.TypeIs (.ref z) "zip":=⟨_,hz,rfl⟩
 unfold pyNext
 refine wpAny_bind (wpAny_attempt (wpAny_callSpecial?_slot (name:=Str.ofString "__next__") t F.slot_zip_next (wpAny_call_entry F.slot_zip_next t F.entry_zip_next
  (zip_over (k2:=0) (ys := #[]) hh D hz hT hTI h1 hl1 hx fun h' e k he=>?_) (F.args_zip_next_1 _))))
 obtain⟨o,ho,hc⟩:=he
 exact wpAny_bind (wpAny_isInstance (T:= "StopIteration") (b:=true) ⟨o,ho,hc⟩ isSubtype_stop (wpAny_pure (q _ k)))
def ZSt(z TI TO i1 i2 l1 l2:Addr)(xs ys:Array Value)(i:Nat)(s:Shared):Prop :=
 IsPair s.heap TI (.ref i1) (.ref i2)∧s.heap.IsListIter i1 l1 i∧s.heap.IsListIter i2 l2 i∧s.heap.IsList l1 xs∧s.heap.IsList l2 ys ∧
  ((i=0∧IsZip s.heap z TI TO .none∧∃a b,IsPair s.heap TO a b)∨(0<i∧∃(T:Addr)(b:Bool),zf4 s.heap z TI TO T b∧∃o,s.heap.get? T=some o))
end
end L2
namespace L2
open PySem PySem.W PyProof.Rows
section
variable {X:Cx}{pins:List (Addr×Obj)}{σ:St}{H:Hp}{s:Shared}{h':Heap}{t':Nat}{ch:List Addr}
theorem Inv.moved(I:Inv X pins σ H s)(o:∀c∈ch,Own X pins H c)(k:∀b u,b∉ch→s.heap.get? b=some u→h'.get? b=some u):Inv X pins σ H { s with heap:=h',toks:=t' }:=by
 have nit:∀b u,H b=some u→b∉ch:=fun b u e z=>by rw[(o b z).free] at e;cases e
 have nL:X.env.locals∉ch:=fun z=>(o _ z).loc rfl
 refine I.step (g':=s.gens) (d':=s.drawn) (ch:=ch) (fun b hb=>⟨.inr (o b hb).new,(o b hb).loc,(o b hb).cell,(o b hb).pin⟩) (fun b u _ _ hc e _=>k b u hc e) (fun b u _ _ hc e _=>⟨u.slots,k b u hc e⟩)
  (fun _ _ _ _ n=>n) (fun b u hc e=>⟨u,k b u hc e⟩) (fun _ _ e=>e) (fun _ _ _ e=>e) (fun b ps e=>⟨#[],by rw[e];simp⟩) (fun m hm=>?_) (fun b u e=>?_) I.bare
 ·obtain⟨ob,es,ep,ho,r⟩:=hm
  exact⟨ob,es,ep,k _ ob nL ho,r⟩
 ·refine(I.hok b u e).stay (fun c v hc q=>k c v ?_ q) (fun _ q=>q) fun _ _ q=>q
  rcases hc with z | z
  ·rw[z];exact nit b u e
  ·exact nit c _ z
theorem Inv.movedT{T:Addr}{v:HO}(I:Inv X pins σ H s)(o:∀c∈ch,Own X pins H c)(k:∀b u,b∉ch→s.heap.get? b=some u→h'.get? b=some u)(hT:s.heap.objs.size≤T)(new:ObjOk X.prog X.w (upd H T v) h' T v):
 Inv X pins σ (upd H T v) { s with heap:=h',toks:=t' }:=by
 have hf:H T=none:=I.hok.fresh hT
 have nit:∀b u,H b=some u→b∉ch:=fun b u e z=>by rw[(o b z).free] at e;cases e
 have nL:X.env.locals∉ch:=fun z=>(o _ z).loc rfl
 have up:∀b u,H b=some u→upd H T v b=some u:=fun b u e=>by rw[zg (zj e hf)];exact e
 refine I.step (g':=s.gens) (d':=s.drawn) (ch:=ch) (fun b hb=>⟨.inr (o b hb).new,(o b hb).loc,(o b hb).cell,(o b hb).pin⟩) (fun b u _ _ hc e _=>k b u hc e) (fun b u _ _ hc e _=>⟨u.slots,k b u hc e⟩)
  (fun b u _ e n=>?_) (fun b u hc e=>⟨u,k b u hc e⟩) (fun b _ e=>up b _ e) (fun b _ _ e=>up b _ e) (fun b ps e=>⟨#[],by rw[up b _ e];simp⟩) (fun m hm=>?_) (fun b u e=>?_) I.bare
 ·rw[zg (fun z=>by rw[z] at e;exact absurd (lt_size e) (Nat.not_lt.mpr hT))];exact n
 ·obtain⟨ob,es,ep,ho,r⟩:=hm
  exact⟨ob,es,ep,k _ ob nL ho,r⟩
 ·by_cases hb:b=T
  ·subst hb
   rw[zf] at e
   cases e
   exact new
  ·rw[zg hb] at e
   refine(I.hok b u e).stay (fun c w hc q=>k c w ?_ q) (fun c q=>up c _ q) fun c _ q=>up c _ q
   rcases hc with z | z
   ·rw[z];exact nit b u e
   ·exact nit c _ z
theorem Own.upd{c T:Addr}{v:HO}(o:Own X pins H c)(h:c≠T):Own X pins (upd H T v) c:=⟨by rw[zg h];exact o.free,o.loc,o.new,o.cell,o.pin,o.fs⟩
variable {A:Around}{E:Value→Shared→Prop}{z TI TO i1 i2 l1 l2 S:Addr}{xs ys:List Value}{xv yv:List V}
theorem zip_item{i:Nat}{x y:Value}{vx vy:V}{Q:Option Value→Shared→Prop}(I:Inv X pins σ H s)(o:∀c ∈ [z,TO,i1,i2],Own X pins H c)(D:ZipApart z TI TO i1 i2 l1 l2)(st:ZSt z TI TO i1 i2 l1 l2 xs.toArray ys.toArray i s)
 (hx:xs[i]? = some x) (hy:ys[i]? = some y) (rx:RelV vx x) (ry:RelV vy y)
 (q:∀s',Inv X pins σ (L2.upd H s.heap.objs.size (.tup [vx,vy])) s'→ZSt z TI TO i1 i2 l1 l2 xs.toArray ys.toArray (i+1) s'→(∀b u,b ∉ [z,TO,i1,i2]→s.heap.get? b=some u→s'.heap.get? b=some u)→s'.heap.objs.size=s.heap.objs.size+1→Q (some (.ref s.heap.objs.size)) s') :
 wpAny (model X.prog X.w) A (pyNext (.ref z)) Q E s:=by
 obtain⟨hTI,h1,h2,hl1,hl2,hz⟩:=st
 have hx':xs.toArray[i]? = some x:=by simpa using hx
 have hy':ys.toArray[i]? = some y:=by simpa using hy
 have nTI:TI ∉ [z,TO,i1,i2]:=by simp[D.TIz,D.TITO,D.TIi1,D.TIi2]
 have n1:l1 ∉ [z,TO,i1,i2]:=by simp[D.l1z,D.l1TO,D.l1i1,D.l1i2]
 have n2:l2 ∉ [z,TO,i1,i2]:=by simp[D.l2z,D.l2TO,D.l2i1,D.l2i2]
 have fin:∀(h':Heap)(b:Bool)(T:Addr),zf4 h' z TI TO T b→(∃u,h'.get? T=some u)→h'.IsListIter i1 l1 (i+1)→h'.IsListIter i2 l2 (i+1)→IsPair h' s.heap.objs.size x y→h'.objs.size=s.heap.objs.size+1 →
  (∀c u,c ∉ [z,TO,i1,i2]→s.heap.get? c=some u→h'.get? c=some u)→Q (some (.ref s.heap.objs.size)) { s with heap:=h' }:=fun h' b T b1 b2 b3 b4 b5 b6 k=>by
  refine q _ (I.movedT (t':=s.toks) o k (le_refl _) ⟨by show 2≤sizeLine;decide,[x,y],.cons rx (.cons ry .nil),_,b5,rfl,_,rfl⟩) ⟨k _ _ nTI hTI,b3,b4,hl1.at fun u e=>k _ u n1 e,hl2.at fun u e=>k _ u n2 e,.inr ⟨Nat.succ_pos _,T,b,b1,b2⟩⟩ k b6
 rcases hz with⟨rfl,hz,a,b,hTO⟩|⟨hi,T,b,hz,hT⟩
 ·refine wpAny_pyNext_zip_item D hz hTI hTO h1 h2 hl1 hl2 hx' hy' fun h' a1 a2 a3 a4 a5 a6 k=>?_
  exact fin h' false _ a1 ⟨_,a5⟩ a3 a4 a5 a6 fun c u hc e=>k c u (fun w=>hc (by simp[w])) (fun w=>hc (by simp[w])) (fun w=>hc (by simp[w])) (fun w=>hc (by simp[w])) e
 ·refine next_busy D hz hT hTI h1 h2 hl1 hl2 hx' hy' fun h' a1 a2 a3 a4 a5 k=>?_
  have k':∀c u,c ∉ [z,TO,i1,i2]→s.heap.get? c=some u→h'.get? c=some u:=fun c u hc e=>k c u (fun w=>hc (by simp[w])) (fun w=>hc (by simp[w])) (fun w=>hc (by simp[w])) e
  obtain⟨u,hu⟩:=hT
  by_cases c1:T=z
  ·exact fin h' true T a1 ⟨_,by rw[c1];exact a1⟩ a2 a3 a4 a5 k'
  ·by_cases c2:T=i1
   ·obtain⟨w,hw,_⟩:=id a2
    exact fin h' true T a1 ⟨w,by rw[c2];exact hw⟩ a2 a3 a4 a5 k'
   ·by_cases c3:T=i2
    ·obtain⟨w,hw,_⟩:=id a3
     exact fin h' true T a1 ⟨w,by rw[c3];exact hw⟩ a2 a3 a4 a5 k'
    ·exact fin h' true T a1 ⟨u,k T u c1 c2 c3 hu⟩ a2 a3 a4 a5 k'
abbrev Prs(H:Hp)(ts:List Addr)(ps:List (V×V)):Prop:=Paired (fun t (p:V×V)=>H t=some (.tup [p.1,p.2])) ts ps
theorem Prs.upd{T:Addr}{v:HO}{ts:List Addr}{ps:List (V×V)}(h:Prs H ts ps)(hT:H T=none):Prs (L2.upd H T v) ts ps:=by
 induction h with
 | nil=>exact .nil
 | cons e _ ih=>exact .cons (by rw[zg (zj e hT)];exact e) ih
theorem Prs.snoc{t:Addr}{p:V×V}{ts:List Addr}{ps:List (V×V)}(h:Prs H ts ps)(e:H t=some (.tup [p.1,p.2])):Prs H (ts++[t]) (ps++[p]):=by
 induction h with
 | nil=>exact .cons e .nil
 | cons a _ ih=>exact .cons a ih
theorem vals_at:∀{xv:List V}{xs:List Value},Vals xv xs→∀(i:Nat)(h:i<xv.length),∃x,xs[i]? = some x∧RelV xv[i] x:=by
 intro xv xs r
 induction r with
 | nil=>intro i h;exact absurd h (Nat.not_lt_zero _)
 | cons e _ ih =>
   intro i h
   cases i with
   | zero=>exact⟨_,rfl,e⟩
   | succ i=>exact ih i (by simpa using h)
theorem ZSt.keep{i:Nat}{h':Heap}(st:ZSt z TI TO i1 i2 l1 l2 xs.toArray ys.toArray i s)(h0:0<i)(k:∀b u,b≠S→s.heap.get? b=some u→h'.get? b=some u)(he:∃u,h'.get? S=some u)(hS:S ∉ [z,TO,i1,i2])(hSl:S≠TI∧S≠l1∧S≠l2):
 ZSt z TI TO i1 i2 l1 l2 xs.toArray ys.toArray i { s with heap:=h' }:=by
 obtain⟨a1,a2,a3,a4,a5,a6⟩:=st
 have n:∀c ∈ [z,TO,i1,i2],c≠S:=fun c hc e=>hS (e ▸ hc)
 refine⟨k _ _ (Ne.symm hSl.1) a1,a2.at fun u e=>k _ u (n _ (by simp)) e,a3.at fun u e=>k _ u (n _ (by simp)) e,a4.at fun u e=>k _ u (Ne.symm hSl.2.1) e,a5.at fun u e=>k _ u (Ne.symm hSl.2.2) e,?_⟩
 rcases a6 with⟨z0,_⟩|⟨_,T,b,hz,u,hu⟩
 ·omega
 ·refine .inr ⟨h0,T,b,k _ _ (n _ (by simp)) hz,?_⟩
  by_cases c:T=S
  ·rw[c];exact he
  ·exact⟨u,k T u c hu⟩
theorem zip_loop{res:Value}{R:Result→Shared→Prop}(hh:A.in1.handled=none)(D:ZipApart z TI TO i1 i2 l1 l2)(hS:S ∉ [z,TO,i1,i2])(hSl:S≠TI∧S≠l1∧S≠l2)(rx:Vals xv xs)(ry:Vals yv ys)(hl:xv.length=yv.length)(hn:xv.length<64):
 ∀(k i:Nat)(s:Shared)(H:Hp)(ts:List Addr)(c:Nat),xv.length-i=k→i≤xv.length→0<xv.length→Inv X pins σ H s→(∀c ∈ [z,TO,i1,i2],Own X pins H c∧c<s.heap.objs.size)→Own X pins H S→S<s.heap.objs.size →
  ZSt z TI TO i1 i2 l1 l2 xs.toArray ys.toArray i s→s.heap.get? S=some { cls:=.type "list",dict:=none,data:=.seq (ts.map Value.ref).toArray c,slots := #[] }→ts.length=i→Prs H ts ((xv.zip yv).take i) →
  (∀s' H' ts,Inv X pins σ H' s'→Same H H'→Prs H' ts (xv.zip yv)→Own X pins H' S→(∃c,s'.heap.get? S=some { cls:=.type "list",dict:=none,data:=.seq (ts.map Value.ref).toArray c,slots := #[] })→R (.ok (.ret res)) s') →
  codeAny (model X.prog X.w) A (.builtin "list.extend.loop" ⟨[.ref S,.ref z,res],[]⟩) R s:=by
 have lx:=rx.length
 have ly:=ry.length
 intro k
 induction k with
 | zero =>
   intro i s H ts c hk hi h0 I o oS lS st eS et pr q
   have e:i=xv.length:=by omega
   subst e
   refine codeAny_builtin F.entry_extend_loop ?_
   rw[Around.under_plainId F.plain_extend_loop _]
   show wpAny (model X.prog X.w) A.in1 (pyNext (.ref z) >>= _) _ _ s
   obtain⟨hTI,h1,h2,hl1,hl2,hz⟩:=st
   rcases hz with⟨z0,_⟩|⟨_,T,b,hz,hT⟩
   ·omega
   refine wpAny_bind (next_over hh D hz hT hTI h1 hl1 (by simp;omega) fun h' k'=>?_)
   have kk:∀b u,b ∉ [z,TO,i1,i2]→s.heap.get? b=some u→h'.get? b=some u:=fun b u hb e=>k' b u (fun w=>hb (by simp[w])) (fun w=>hb (by simp[w])) (fun w=>hb (by simp[w])) e
   rw[take_of_length_le (by rw[length_zip];omega)] at pr
   exact wpAny_pure (q _ H ts (I.moved (t':=s.toks) (fun c hc=>(o c hc).1) kk) (Same.refl _) pr oS ⟨c,kk S _ hS eS⟩)
 | succ k ih =>
   intro i s H ts c hk hi h0 I o oS lS st eS et pr q
   have hlt:i<xv.length:=by omega
   refine codeAny_builtin F.entry_extend_loop ?_
   rw[Around.under_plainId F.plain_extend_loop _]
   show wpAny (model X.prog X.w) A.in1 (pyNext (.ref z) >>= _) _ _ s
   obtain⟨x,hx,vx⟩:=vals_at rx i hlt
   obtain⟨y,hy,vy⟩:=vals_at ry i (by omega)
   refine wpAny_bind (zip_item I (fun c hc=>(o c hc).1) D st hx hy vx vy fun s' I' st' k' z'=>?_)
   have eS':=k' S _ hS eS
   have hf:H s.heap.objs.size=none:=I.hok.fresh (le_refl _)
   have oS':Own X pins (L2.upd H s.heap.objs.size (.tup [xv[i],yv[i]])) S:=oS.upd (ne_of_lt lS)
   obtain⟨c2,hc2⟩:∃c2,(s'.heap.update S (Obj.mapSeq (·.push (Value.ref s.heap.objs.size)))).get? S=some { cls:=.type "list",dict:=none,data:=.seq ((ts++[s.heap.objs.size]).map Value.ref).toArray c2,slots := #[] } :=
    ⟨_,by rw[show((ts++[s.heap.objs.size]).map Value.ref).toArray=(ts.map Value.ref).toArray.push (Value.ref s.heap.objs.size)by simp];exact get?_update_seq eS' (·.push _)⟩
   have ko:∀b u,b≠S→s'.heap.get? b=some u→(s'.heap.update S (Obj.mapSeq (·.push (Value.ref s.heap.objs.size)))).get? b=some u:=fun b u hb e=>(get?_update_other _ _ (Ne.symm hb)).trans e
   have hln:=zx
   show wpAny (model X.prog X.w) A.in1 (updateSeq S (·.push (Value.ref s.heap.objs.size)) >>= _) _ _ _
   refine wpAny_bind ?_
   refine wpAny_updateSeq eS' rfl (wpAny_pure ⟨plainId_quiet F.plain_extend_loop _,ih (i+1) _ _ (ts++[s.heap.objs.size]) c2 (by omega) (by omega) h0 (I'.swap oS') (fun c hc=>?_) oS' ?_ (st'.keep (Nat.succ_pos _) ko ⟨_,hc2⟩ hS hSl) hc2 (by rw[length_append,et];rfl) ?_ ?_⟩) ?_ ?_
   ·refine⟨((o c hc).1).upd (ne_of_lt (o c hc).2),?_⟩
    show c<(s'.heap.update S _).objs.size
    rw[size_update,z']
    exact lt_succ_of_lt (o c hc).2
   ·show S<(s'.heap.update S _).objs.size
    rw[size_update,z']
    exact lt_succ_of_lt lS
   ·have e:(xv.zip yv).take (i+1)=(xv.zip yv).take i++[(xv[i],yv[i])]:=by
     rw[List.take_add_one,getElem?_eq_getElem (by rw[length_zip];omega)]
     simp
    rw[e]
    exact(pr.upd hf).snoc zf
   ·intro s2 H2 ts2 J1 J2 J3 J4 J5
    exact q s2 H2 ts2 J1 ((Same.new hf).trans J2) J3 J4 J5
   ·rw[size_toArray,length_map,et];omega
   ·rw[Array.size_push,size_toArray,length_map,et];omega
end
end L2
namespace L2
open PySem PySem.W PyProof.Rows PySem.Calls
theorem zip_len:typeLookup (.type "zip") "__len__"=pure none:=by rw[typeLookup_type,builtinLookup_eq_fast];kernel_rfl
theorem zip_hint:typeLookup (.type "zip") "__length_hint__"=pure none:=by rw[typeLookup_type,builtinLookup_eq_fast];kernel_rfl
section
variable {X:Cx}{pins:List (Addr×Obj)}{σ:St}{H:Hp}{s:Shared}{A:Around}{E:Value→Shared→Prop}{z TI TO i1 i2 l1 l2:Addr}{xs ys:List Value}{xv yv:List V}
theorem zii{Q:List Value→Shared→Prop}(hh:A.in1.handled=none)(D:ZipApart z TI TO i1 i2 l1 l2)(rx:Vals xv xs)(ry:Vals yv ys)(hl:xv.length=yv.length)(hn:xv.length<64)(h0:0<xv.length)
 (I:Inv X pins σ H s) (o:∀c ∈ [z,TO,i1,i2],Own X pins H c∧c<s.heap.objs.size) (st:ZSt z TI TO i1 i2 l1 l2 xs.toArray ys.toArray 0 s)
 (q:∀s' H' ts,Inv X pins σ H' s'→Same H H'→Prs H' ts (xv.zip yv)→Q (ts.map Value.ref) s'):wpAny (model X.prog X.w) A (collect (.ref z)) Q E s:=by
 have hz:IsZip s.heap z TI TO .none:=by
  rcases st.2.2.2.2.2 with⟨_,hz,_⟩|⟨w,_⟩
  ·exact hz
  ·omega
 have lt:∀{c u},s.heap.get? c=some u→c<s.heap.objs.size:=fun e=>lt_size e
 have lz:=(o z (by simp)).2
 have hSz:s.heap.objs.size≠z:=ne_of_gt lz
 have oS:=I.own (b:=s.heap.objs.size) (le_refl _)
 unfold collect
 refine wpAny_bind (wpAny_runValue (codeAny_builtin F.entry_proto_collect ?_))
 rw[Around.under_plainId F.plain_proto_collect _]
 show wpAny (model X.prog X.w) A.in1 (newList [] >>= fun l=>again (.builtin "list.__iadd__" ⟨[l,.ref z],[]⟩)) _ _ s
 refine wpAny_bind (wpAny_newList ?_ (zero_le _))
 have I1:Inv X pins σ H { s with heap:=s.heap.push { cls:=.type "list",data:=.seq ([]:List Value).toArray } }:=I.kept (t':=s.toks) fun b u e=>get?_push_of_some _ e
 have hS1:(s.heap.push { cls:=.type "list",data:=.seq ([]:List Value).toArray }).get? s.heap.objs.size=some { cls:=.type "list",data:=.seq ([]:List Value).toArray }:=get?_push_size _ rfl
 have k1:∀b u,s.heap.get? b=some u→(s.heap.push { cls:=.type "list",data:=.seq ([]:List Value).toArray }).get? b=some u:=fun b u e=>get?_push_of_some _ e
 have z1:(s.heap.push { cls:=.type "list",data:=.seq ([]:List Value).toArray }).objs.size=s.heap.objs.size+1:=size_push ..
 show wpAny (model X.prog X.w) A.in1 (again (.builtin "list.__iadd__" ⟨[.ref s.heap.objs.size,.ref z],[]⟩)) _ _ { s with heap:=s.heap.push { cls:=.type "list",data:=.seq ([]:List Value).toArray } }
 generalize s.heap.push { cls:=.type "list",data:=.seq ([]:List Value).toArray }=h1 at I1 hS1 k1 z1
 refine wpAny_pure ⟨plainId_quiet F.plain_list_iadd _,codeAny_builtin F.entry_list_iadd ?_⟩
 rw[Around.under_plainId F.plain_list_iadd _]
 show wpAny (model X.prog X.w) A.in1 (Builtin.List.listExtendWith (.ref s.heap.objs.size) (.ref z) (.ref s.heap.objs.size)) _ _ _
 unfold Builtin.List.listExtendWith
 have tz:Shared.TypeIs { s with heap:=h1 } (.ref z) "zip":=⟨_,k1 _ _ hz,rfl⟩
 refine wpAny_bind (wpAny_typeOf tz ?_)
 have e1:Builtin.List.listSameRef (.ref s.heap.objs.size) (.ref z)=false:=by simp[Builtin.List.listSameRef,hSz]
 have e2:(Value.type "zip" == Value.type "list")=false:=by decide
 have e3:(Value.type "zip" == Value.type "tuple")=false:=by decide
 simp only[e1,e2,e3,Bool.or_false,if_false,Bool.false_eq_true]
 refine wpAny_bind (wpAny_pyIter_zip (k1 _ _ hz) ?_)
 refine wpAny_bind (wpAny_holding ?_)
 unfold Builtin.List.listLengthHint
 refine wpAny_bind (wpAny_specialOf tz zip_len ?_)
 show wpAny (model X.prog X.w) A.in1 (specialOf (Value.ref z) (Str.ofString "__length_hint__") >>= _) _ _ _
 refine wpAny_bind (wpAny_specialOf tz zip_hint (wpAny_pure ?_))
 show wpAny (model X.prog X.w) A.in1 (rule "list.extend.makes-room" >>= fun _=>Builtin.List.listTouch (.ref s.heap.objs.size) >>= fun _=>again (.builtin "list.extend.loop" ⟨[.ref s.heap.objs.size,.ref z,.ref s.heap.objs.size],[]⟩)) _ _ _
 refine wpAny_bind (wpAny_rule (wpAny_bind ?_))
 show wpAny (model X.prog X.w) A.in1 (updateSeq s.heap.objs.size (·.push .none) >>= fun _=>updateSeq s.heap.objs.size (·.pop)) _ _ _
 refine wpAny_bind (wpAny_updateSeq hS1 rfl ?_)
 have hS2:=Heap.get?_update_self (Obj.mapSeq (·.push Value.none)) hS1 rfl
 refine wpAny_updateSeq hS2 rfl ?_
 have hS3:=Heap.get?_update_self (Obj.mapSeq (·.pop)) hS2 rfl
 have I3:=(I1.swap (f:=Obj.mapSeq (·.push Value.none)) oS).swap (f:=Obj.mapSeq (·.pop)) oS
 have k3:∀b u,b≠s.heap.objs.size→s.heap.get? b=some u→((h1.update s.heap.objs.size (Obj.mapSeq (·.push Value.none))).update s.heap.objs.size (Obj.mapSeq (·.pop))).get? b=some u :=
  fun b u hb e=>(get?_update_other _ _ (Ne.symm hb)).trans ((get?_update_other _ _ (Ne.symm hb)).trans (k1 b u e))
 have z3:((h1.update s.heap.objs.size (Obj.mapSeq (·.push Value.none))).update s.heap.objs.size (Obj.mapSeq (·.pop))).objs.size=s.heap.objs.size+1:=by rw[size_update,size_update,z1]
 have kk:∀b u,s.heap.get? b=some u→((h1.update s.heap.objs.size (Obj.mapSeq (·.push Value.none))).update s.heap.objs.size (Obj.mapSeq (·.pop))).get? b=some u:=fun b u e=>k3 b u (ne_of_lt (lt e)) e
 obtain⟨a1,a2,a3,a4,a5,a6⟩:=st
 refine wpAny_pure ⟨plainId_quiet F.plain_extend_loop _,zip_loop (S:=s.heap.objs.size) (xs:=xs) (ys:=ys) (xv:=xv) (yv:=yv) hh D (fun m=>lt_irrefl _ (o _ m).2) ⟨ne_of_gt (lt a1),?_,?_⟩ rx ry hl hn _ 0 _ H [] _ rfl (zero_le _) h0 I3 (fun c hc=>⟨(o c hc).1,?_⟩) oS ?_ ⟨kk _ _ a1,a2.at fun u e=>kk _ u e,a3.at fun u e=>kk _ u e,a4.at fun u e=>kk _ u e,a5.at fun u e=>kk _ u e,?_⟩ hS3 rfl .nil fun s' H' ts J1 J2 J3 J4 J5=>?_⟩
 ·obtain⟨u,hu,_⟩:=a4;exact ne_of_gt (lt hu)
 ·obtain⟨u,hu,_⟩:=a5;exact ne_of_gt (lt hu)
 ·show c<Array.size _
  rw[z3];exact lt_succ_of_lt (o c hc).2
 ·show s.heap.objs.size<Array.size _
  rw[z3];exact lt_succ_self _
 ·rcases a6 with⟨_,b1,a,b,b2⟩|⟨w,_⟩
  ·exact .inl ⟨rfl,kk _ _ b1,a,b,kk _ _ b2⟩
  ·omega
 ·obtain⟨c,J5⟩:=J5
  show wpAny (model X.prog X.w) A (load s.heap.objs.size >>= _) _ _ s'
  refine wpAny_bind (wpAny_load J5 (wpAny_pure ?_))
  exact q s' H' ts J1 J2 J3
end
section
variable {X:Cx}{pins:List (Addr×Obj)}{σ:St}{H:Hp}{s:Shared}{A:Around}{E:Value→Shared→Prop}{z TI TO i1 i2 l1 l2 q:Addr}{xs ys:List Value}{xv yv:List V}{kz:List Int}
theorem Inv.trackO{T:Addr}{v:HO}(I:Inv X pins σ H s)(o:Own X pins H T)(new:ObjOk X.prog X.w (upd H T v) s.heap T v):Inv X pins σ (upd H T v) s:=by
 have hf:=o.free
 have up:∀b u,H b=some u→upd H T v b=some u:=fun b u e=>by rw[zg (zj e hf)];exact e
 refine I.step (h':=s.heap) (g':=s.gens) (d':=s.drawn) (t':=s.toks) (ch:=[T]) (fun b hb=>?_) (fun b u _ _ hc e _=>e) (fun b u _ _ hc e _=>⟨u.slots,e⟩)
  (fun b u hc e n=>by rw[zg (fun w=>hc (by simp[w]))];exact n) (fun b u hc e=>⟨u,e⟩) (fun b _ e=>up b _ e) (fun b _ _ e=>up b _ e) (fun b ps e=>⟨#[],by rw[up b _ e];simp⟩) (fun m hm=>hm) (fun b u e=>?_) I.bare
 ·rw[List.mem_singleton.mp hb]
  exact⟨.inr o.new,o.loc,o.cell,o.pin⟩
 ·by_cases hb:b=T
  ·subst hb
   rw[zf] at e
   cases e
   exact new
  ·rw[zg hb] at e
   exact(I.hok b u e).stay (fun c w hc k=>k) (fun c k=>up c _ k) fun c _ k=>up c _ k
theorem Prs.length{ts:List Addr}{ps:List (V×V)}(h:Prs H ts ps):ts.length=ps.length:=by
 induction h with
 | nil=>rfl
 | cons _ _ ih=>rw[length_cons,length_cons,ih]
theorem ziR{Q:Value→Shared→Prop}(hh:A.in1.in1.handled=none)(D:ZipApart z TI TO i1 i2 l1 l2)(rx:Vals xv xs)(ry:Vals yv ys)(hl:xv.length=yv.length)(hn:xv.length<64)(h0:0<xv.length)(hk:kz.length=xv.length)
 (I:Inv X pins σ H s) (o:∀c ∈ [z,TO,i1,i2],Own X pins H c∧c<s.heap.objs.size) (st:ZSt z TI TO i1 i2 l1 l2 xs.toArray ys.toArray 0 s)
 (calls:∀(H':Hp)(ts:List Addr),Same H H'→Prs H' ts (xv.zip yv)→∀(i:Nat)(v:Value)(pins':List (Addr×Obj)) (s':Shared),(ts.map Value.ref)[i]? = some v→Inv X pins' σ H' s' →
   wpAny (model X.prog X.w) A.in1.in1 (call (.ref q) [v]) (fun k s''=>Inv X pins' σ H' s''∧∃t,k=Value.int (kz.getD i 0) t) (fun _ _=>False) s')
 (fin:∀(s':Shared)(H':Hp)(ts:List Addr)(l:Addr)(p:Array Nat),Same H H'→Prs H' ts (xv.zip yv)→H' l=none→M14.I (fun k=>kz.getD k 0) xv.length p xv.length→Inv X pins σ (upd H' l (.lst (p.toList.map fun i=>V.ref (ts.getD i 0)))) s'→Q (.ref l) s') :
 wpAny (model X.prog X.w) A (call (.builtin "sorted") [.ref z] [(Str.ofString "key",.ref q)]) Q E s:=by
 have hln:=zx
 refine call_function_entry_kw kind_sorted plain_sorted entry_sorted (ksk_s1 _ _) ?_
 unfold Builtin.«sorted»
 refine wpAny_bind (m:=checkCount "sorted" 1 1 _) (wpAny_pure ?_)
 refine wpAny_bind (zii hh D rx ry hl hn h0 I o st fun s1 H1 ts I1 sm pr=>?_)
 have lt:ts.length=xv.length:=by rw[pr.length,length_zip];omega
 refine wpAny_bind (wpAny_newList ?_ (by rw[length_map];omega))
 have I2:Inv X pins σ H1 { s1 with heap:=s1.heap.push (seqObj "list" (ts.map Value.ref).toArray 0) }:=I1.kept (t':=s1.toks) fun b u e=>get?_push_of_some _ e
 have hD:(s1.heap.push (seqObj "list" (ts.map Value.ref).toArray 0)).get? s1.heap.objs.size=some (seqObj "list" (ts.map Value.ref).toArray 0):=get?_push_size _ rfl
 have oD:=I1.own (b:=s1.heap.objs.size) (le_refl _)
 refine wpAny_bind (wpAny_holding (wpAny_call_entry_kw slot_list_sort ⟨_,hD,rfl⟩ entry_list_sort ?body (ksk_l1 _ _)))
 case body =>
  show wpAny (model X.prog X.w) A.in1.in1 (Builtin.«list.sort» ⟨[.ref s1.heap.objs.size],[(Str.ofString "key",.ref q)]⟩) _ _ _
  rw[ksk_t1]
  refine wpAny_mono (keyed (f:=.ref q) (kz:=kz) (vs:=ts.map Value.ref) I2 oD hD (by rw[length_map];omega) (by rw[length_map];omega) (by rw[length_map];omega) (calls H1 ts sm pr)) (fun r s2 w=>?_) fun _ _ w=>w
  obtain⟨rfl,p,e,hp,I3,h3⟩:=w
  rw[length_map,lt] at hp
  refine⟨_,rfl,wpAny_pure ⟨_,rfl,?_⟩⟩
  refine fin s2 H1 ts _ p sm pr oD.free hp (I3.trackO oD ⟨?_,p.toList.map fun i=>(ts.map Value.ref).getD i Value.none,e,?_,h3⟩)
  ·rw[length_map,Array.length_toList,hp.1.size];omega
  ·have hm:∀i∈p.toList,i<ts.length:=fun i hi=>by
    have:=(hp.1.pm.toList.mem_iff (a:=i)).mp hi
    rw[lt]
    simpa using this
   revert hm
   generalize p.toList=l
   intro hm
   induction l with
   | nil=>exact .nil
   | cons a l ih =>
     have ha:=hm a (mem_cons_self ..)
     refine .cons ?_ (ih fun i hi=>hm i (mem_cons_of_mem _ hi))
     have e:(ts.map Value.ref).getD a Value.none=Value.ref (ts.getD a 0):=by simp[ha]
     show RelV (V.ref (ts.getD a 0)) ((ts.map Value.ref).getD a Value.none)
     rw[e]
     rfl
end
section
variable {X:Cx}{pins:List (Addr×Obj)}{σ:St}{H:Hp}{s:Shared}{A:Around}{E:Value→Shared→Prop}{l1 l2:Addr}{xv yv:List V}
theorem made_zip{Q:Value→Shared→Prop}(I:Inv X pins σ H s)(h1:SqL X.K H l1 xv)(h2:SqL X.K H l2 yv)
 (q:∀(s':Shared)(z TI TO i1 i2:Addr)(xs ys:List Value),Vals xv xs→Vals yv ys→Inv X pins σ H s'→ZipApart z TI TO i1 i2 l1 l2→(∀c ∈ [z,TO,i1,i2],Own X pins H c∧c<s'.heap.objs.size)→ZSt z TI TO i1 i2 l1 l2 xs.toArray ys.toArray 0 s'→Q (.ref z) s') :
 wpAny (model X.prog X.w) A (call (.type "zip") [.ref l1,.ref l2]) Q E s:=by
 obtain⟨xs,r1,p1,_⟩:=I.list h1
 obtain⟨ys,r2,p2,_⟩:=I.list h2
 have b1:=p1.isList
 have b2:=p2.isList
 have t1:l1<s.heap.objs.size:=by obtain⟨u,hu,_⟩:=b1;exact lt_size hu
 have t2:l2<s.heap.objs.size:=by obtain⟨u,hu,_⟩:=b2;exact lt_size hu
 refine call_zip_2 b1 b2 fun h' hz hTI hTO hi1 hi2 hsz hk=>?_
 have n:∀(l:Addr)(d:Nat),l<s.heap.objs.size→l≠s.heap.objs.size+d:=fun l d h=>ne_of_lt (lt_of_lt_of_le h (Nat.le_add_right _ _))
 have m:∀d e:Nat,d≠e→s.heap.objs.size+d≠s.heap.objs.size+e:=fun d e h w=>h (Nat.add_left_cancel w)
 refine q _ (s.heap.objs.size+4) (s.heap.objs.size+2) (s.heap.objs.size+3) (s.heap.objs.size+0) (s.heap.objs.size+1) xs ys r1 r2 (I.kept (t':=s.toks) hk)
  ⟨m 2 4 (by decide),m 3 4 (by decide),m 0 4 (by decide),m 1 4 (by decide),m 2 3 (by decide),m 2 0 (by decide),m 2 1 (by decide),m 3 0 (by decide),m 3 1 (by decide),m 0 1 (by decide),n _ 4 t1,n _ 3 t1,n _ 0 t1,n _ 1 t1,n _ 4 t2,n _ 3 t2,n _ 0 t2,n _ 1 t2⟩ (fun c hc=>?_)
  ⟨hTI,hi1,hi2,b1.at fun u e=>hk _ u e,b2.at fun u e=>hk _ u e,.inl ⟨rfl,hz,_,_,hTO⟩⟩
 have hb:∃d,d<5∧c=s.heap.objs.size+d:=by
  simp only[mem_cons,not_mem_nil,or_false] at hc
  rcases hc with w | w | w | w
  ·exact⟨4,by decide,w⟩
  ·exact⟨3,by decide,w⟩
  ·exact⟨0,by decide,w⟩
  ·exact⟨1,by decide,w⟩
 obtain⟨d,hd,rfl⟩:=hb
 refine⟨I.own (Nat.le_add_right _ _),?_⟩
 show s.heap.objs.size+d<Array.size _
 rw[hsz]
 exact Nat.add_lt_add_left hd _
end
end L2
namespace L2
open PySem PySem.W PySem.Spec PyProof.Rows PySem.Calls
def zdI(mg:Str→Option Value)(h:Heap):Prop:=∃bm ob,mg "__builtins__"=some (.ref bm)∧bm≠builtinsNs∧h.get? bm=some ob∧ob.cls=.type "module"∧ob.dict=some builtinsNs∧ob.data=.plain
abbrev fnO(f:Addr)(o:Obj):HO:=.ext fun h=>h.get? f=some o
abbrev zew(c:Addr)(q:Str):HO:=.ext fun h=>h.CodeRec (.ref c) q
def SameN(H H':Hp):Prop:=(∀b u,H b=some u→(∀ps,u ≠ .tbl ps)→H' b=some u)∧∀b ps,H b=some (.tbl ps)→∃qs,H' b=some (.tbl qs)
theorem Same.toN{H H':Hp}(s:Same H H'):SameN H H':=⟨fun b u e _=>s b u e,fun b ps e=>⟨ps,s b _ e⟩⟩
theorem SameN.trans{H H1 H2:Hp}(a:SameN H H1)(b:SameN H1 H2):SameN H H2:=⟨fun c u e n=>b.1 c u (a.1 c u e n) n,fun c ps e=>let ⟨qs,e1⟩:=a.2 c ps e;b.2 c qs e1⟩
theorem SameN.free{H H':Hp}{l:Addr}(s:SameN H H')(h:H' l=none):H l=none:=by
 cases e:H l with
 | none=>rfl
 | some u =>
   by_cases hu:∃ps,u=.tbl ps
   ·obtain⟨ps,rfl⟩:=hu
    obtain⟨qs,e1⟩:=s.2 l ps e
    rw[h] at e1;cases e1
   ·have e1:=s.1 l u e fun ps z=>hu ⟨ps,z⟩
    rw[h] at e1;cases e1
def noT(H:Hp):Hp:=fun b=>match H b with
 | some (.tbl _)=>none
 | x=>x
theorem noT_of{H:Hp}{b:Addr}{u:HO}(e:H b=some u)(n:∀ps,u ≠ .tbl ps):noT H b=some u:=by
 unfold noT
 rw[e]
 cases u <;> first | rfl | exact absurd rfl (n _)
theorem of_noT{H:Hp}{b:Addr}{u:HO}(e:noT H b=some u):H b=some u∧∀ps,u ≠ .tbl ps:=by
 unfold noT at e
 split at e
 ·cases e
 ·rename_i z
  refine⟨e,fun ps w=>?_⟩
  subst w
  exact z ps e
theorem SameN.same{H H':Hp}(s:SameN H H'):Same (noT H) H':=fun b u e=>let ⟨h,n⟩:=of_noT e;s.1 b u h n
theorem SqL.noT{K:Frag}{H:Hp}{a:Addr}{xs:List V}(h:SqL K H a xs):SqL K (L2.noT H) a xs:=by
 rcases h with(h | ⟨o,h⟩) | h
 ·exact .inl (.inl (noT_of h fun _ z=>by cases z))
 ·exact .inl (.inr ⟨o,noT_of h fun _ z=>by cases z⟩)
 ·exact .inr h
section
variable {X:Cx}{pins:List (Addr×Obj)}{σ:St}{H:Hp}{s:Shared}{E:Value→Shared→Prop}
theorem Inv.lam{P c':Addr}{ps more:Array Value}{h':Heap}{fo:Obj}{q:Str}{tk:Nat}(I:Inv X pins σ H s)(hfo:fo.isFreed=false)(hP:H P=some (.tbl ps))(hx:Heap.ExtBut P s.heap h')(hc:s.heap.objs.size≤c')(hlt:c'<h'.objs.size)
 (hcd:h'.CodeRec (.ref c') q) (ht:h'.get? P=some (tabObj (ps++more))) :
 Inv X pins σ (upd (upd (upd H P (.tbl (ps++more))) c' (zew c' q)) h'.objs.size (fnO h'.objs.size fo)) { s with heap:=h'.push fo,toks:=tk }:=by
 have hPs:P<s.heap.objs.size:=I.hok.lt hP
 have nPc:P≠c':=ne_of_lt (lt_of_lt_of_le hPs hc)
 have ncf:c'≠h'.objs.size:=ne_of_lt hlt
 have nPf:P≠h'.objs.size:=ne_of_lt (lt_trans (lt_of_lt_of_le hPs hc) hlt)
 have old:∀b,b<s.heap.objs.size→b≠P→upd (upd (upd H P (.tbl (ps++more))) c' (zew c' q)) h'.objs.size (fnO h'.objs.size fo) b=H b:=fun b hb n=>by
  rw[zg (ne_of_lt (lt_trans (lt_of_lt_of_le hb hc) hlt)),zg (ne_of_lt (lt_of_lt_of_le hb hc)),zg n]
 have atP:upd (upd (upd H P (.tbl (ps++more))) c' (zew c' q)) h'.objs.size (fnO h'.objs.size fo) P=some (.tbl (ps++more)):=by rw[zg nPf,zg nPc,zf]
 have k:∀b u,b≠P→s.heap.get? b=some u→(h'.push fo).get? b=some u:=fun b u n e=>get?_push_of_some _ (hx b u n e)
 have nP:∀b u,H b=some u→(∀w,u ≠ .tbl w)→b≠P:=fun b u e n z=>by rw[z,hP] at e;cases e;exact n _ rfl
 have keepH:∀b u,H b=some u→(∀w,u ≠ .tbl w)→upd (upd (upd H P (.tbl (ps++more))) c' (zew c' q)) h'.objs.size (fnO h'.objs.size fo) b=some u:=fun b u e n=>by
  rw[old b (I.hok.lt e) (nP b u e n)];exact e
 refine I.step (g':=s.gens) (d':=s.drawn) (ch:=[]) (fun _ z=>nomatch z) (fun b o _ _ _ e n=>k b o (fun z=>by rw[z,hP] at n;cases n) e) (fun b o _ _ _ e n=>⟨o.slots,k b o (fun z=>by rw[z,hP] at n;cases n) e⟩)
  (fun b o _ e n=>by rw[old b (lt_size e) (fun z=>by rw[z,hP] at n;cases n)];exact n) (fun b o _ e=>?_) (fun b xs e=>keepH b _ e fun _ z=>by cases z) (fun b o u e=>keepH b _ e fun _ z=>by cases z) (fun b w e=>?_) (fun m hm=>?_) (fun b u e=>?_) I.bare
 ·by_cases hb:b=P
  ·subst hb;exact⟨_,get?_push_of_some _ ht⟩
  ·exact⟨o,k b o hb e⟩
 ·by_cases hb:b=P
  ·subst hb
   rw[hP] at e
   cases e
   exact⟨more,atP⟩
  ·exact⟨#[],by rw[old b (I.hok.lt e) hb,e];simp⟩
 ·have nL:X.env.locals≠P:=fun z=>by have:=I.free;rw[z,hP] at this;cases this
  obtain⟨o,es,ep,ho,r⟩:=hm
  exact⟨o,es,ep,k _ o nL ho,r⟩
 ·by_cases hf:b=h'.objs.size
  ·subst hf
   rw[zf] at e
   cases e
   exact⟨get?_push_size _ hfo,⟨fo,get?_push_size _ hfo⟩,fun h1 h2 a b=>b _ a⟩
  ·by_cases hc':b=c'
   ·subst hc'
    rw[zg ncf,zf] at e
    cases e
    obtain⟨c,oc,vs,t,e1,e2,e3,e4⟩:=hcd
    cases e1
    exact⟨⟨b,oc,vs,t,rfl,get?_push_of_some _ e2,e3,e4⟩,⟨oc,get?_push_of_some _ e2⟩,fun h1 h2 ⟨c,oc,vs,t,e1,e2,e3⟩ q=>by cases e1;exact⟨b,oc,vs,t,rfl,q _ e2,e3⟩⟩
   ·by_cases hb:b=P
    ·subst hb
     rw[atP] at e
     cases e
     exact get?_push_of_some _ ht
    ·rw[zg hf,zg hc',zg hb] at e
     refine(I.hok b u e).stay (fun c v hc q=>k c v ?_ q) (fun c w=>keepH c _ w fun _ z=>by cases z) fun c xs w=>keepH c _ w fun _ z=>by cases z
     rcases hc with rfl | hc
     ·exact hb
     ·exact nP c _ hc fun _ z=>by cases z
end
theorem lam_ok{P:Program}{w:World}{K:Frag}{mg:Str→Option Value}{base:Heap}{k:Nat}{f c':Addr}{name qual:Str}{params:Arguments}{body:Expr}{scope:Scope}{pm ctv:Value}{N ps:List Str}{sp:Sp}(S:FnScope N ps scope)
 (len:∀vs H Q E,sp vs H Q E→vs.length=ps.length)
 (has:∀vs H Q E,sp vs H Q E→H f=some (fnO f (kla_obj name qual params body scope [] pm c' ctv))∧H c'=some (zew c' qual))
 (hbody:∀(A:Around)(outer:List Env)(s:Shared)(H:Hp)(vs:List V)(Q:VK)(E:XK),Room k (A.deeper (envOfC qual scope s.heap.objs.size f (.ref c')))→sp vs H Q E →
   ∃t,PE (zbn CX0 P w K mg base N qual scope f (.ref c') A outer s H E) body t∧t (zaY N vs) H Q) :
 FnOk P w K mg base CX0 (k+1) f (kla_fn name qual params body scope [] pm (.ref c') ctv) ps sp:=by
 refine⟨len,fun A outer s H args us vs Q E hr e0 hb r hsp=>?_⟩
 have hl:=len _ _ _ _ hsp
 obtain⟨a1,a2⟩:=has _ _ _ _ hsp
 obtain⟨o1,_⟩:=e0.hok f _ a1
 obtain⟨o2,_⟩:=e0.hok c' _ a2
 have lim:s.heap.NoLimit:=e0.mod.nolimit.keeps fun b o e=>(e0.bs b o e).1
 have hkind:∀y∈ps.zip us,scope.names.lookup y.1=some .local∨(scope.names.lookup y.1=some .cell∧((cellsFrom (s.heap.objs.size+1) scope.names []).lookup y.1).isSome=true):=fun⟨n,v⟩ hy=>by
  rcases S.par n (of_mem_zip hy).1 with q | q
  ·exact .inl q
  ·exact .inr ⟨q,cellsFrom_some _ _ _ (.inl q)⟩
 refine kla_callFunE hr.depth o1 rfl S.co S.gen rfl o2 (hb _ _ _ _ ?_)
 refine wpAny_newFunctionEnv_cells S.kind hkind fun env he s1 x=>?_
 subst he
 refine⟨lim.keeps x.toInCall.keep,kla_codeExpr ?_⟩
 obtain⟨t,ht,hq⟩:=hbody A outer s H vs Q E (hr.deeper _) hsp
 have I:Inv (zbn CX0 P w K mg base N qual scope f (.ref c') A outer s H E) [] (zaY N vs) H s1:=zgt S hr.hd e0 hl r x
 refine wpAny_mono (ht [] s1 (zaY N vs) H _ I hq) (fun u s' hs=>?_) fun e s' hs=>hs
 obtain⟨v,H',J,rv,q⟩:=hs
 exact⟨v,H',J.os,J.bare,J.base,J.hok,rv,q⟩
def sp_fst(f c':Addr)(o:Obj)(q:Str):Sp:=fun vs H Q _=>H f=some (fnO f o)∧H c'=some (zew c' q)∧∃(t:Addr)(x y:V),vs=[.ref t]∧H t=some (.tup [x,y])∧Q x H
theorem Prs.get{H:Hp}:∀{ts:List Addr}{ps:List (V×V)},Prs H ts ps→∀(i:Nat)(t:Addr),ts[i]? = some t→∃p,ps[i]? = some p∧H t=some (.tup [p.1,p.2])
 | _,_,.nil,i,t,e=>by simp at e
 | _,_,.cons h r,0,t,e=>by
   simp at e
   subst e
   exact⟨_,rfl,h⟩
 | _,_,.cons h r,i+1,t,e=>by
   obtain⟨p,e1,e2⟩:=Prs.get r i t (by simpa using e)
   exact⟨p,by simpa using e1,e2⟩
section
variable {X:Cx}{ex ey:Expr}{t:TA}{c P:Addr}{y:Str}{p1 p2 p3 p4 p5 pos pos2 lpos kp:Pos}{j:Nat}{params:Arguments}{scope:Scope}
end
def zbx(K:Frag)(x:Str):Addr:=match tabIn K x with
 | some (_,P)=>P
 | none=>0
structure Lam (K:Frag) (x:Str) (f:Addr):Prop where
 ex:∃c,codeHdIn K c (zbx K x)=true∧∃(oc:Value)(od:Option Addr)(fd:FuncData)(osl:Array (Option Value)),K.lookup f=some ⟨oc,od,.func fd,osl⟩∧fd.code=.ref c
def LamK(K:Frag)(x:Str):Prop:=(∃c,tabIn K x=some (c,zbx K x))∧K.lookup (zbx K x)=none
theorem lam_mk{K:Frag}{x:Str}{f c P:Addr}{oc o1:Value}{od d1:Option Addr}{fd:FuncData}{osl s1:Array (Option Value)}{vs:Array Value}(a:nsIn K mainGlobals x=some (some (.ref f)))(l:K.lookup f=some ⟨oc,od,.func fd,osl⟩)(e:fd.code=.ref c)
 (lk:K.lookup c=some ⟨o1,d1,.fields vs,s1⟩) (lv:vs[11]? = some (.ref P)) (lh:codeHdIn K c P=true) (ln:K.lookup P=none):Lam K x f∧LamK K x:=by
 have ht:tabIn K x=some (c,P):=by
  unfold tabIn
  rw[a]
  dsimp only
  rw[l]
  dsimp only
  rw[e]
  dsimp only
  rw[lk]
  dsimp only
  rw[lv]
 have hp:zbx K x=P:=by unfold zbx;rw[ht]
 exact⟨⟨c,by rw[hp];exact lh,oc,od,fd,osl,l,e⟩,⟨c,by rw[hp];exact ht⟩,by rw[hp];exact ln⟩
section
variable {P:Program}{w:World}{K:Frag}{mg:Str→Option Value}{base:Heap}
theorem Fun.okC{x qual y:Str}{st:Stmt}{f:Addr}{fd:FuncData}{N ps:List Str}{k:Nat}{sp:Sp}(F:Fun K x qual st f fd)(L:Lam K y f)(S:FnScope N ps (zb st))(len:∀vs H Q E,sp vs H Q E→vs.length=ps.length)
 (hbody:∀(c:Addr)(A:Around)(outer:List Env)(s:Shared)(H:Hp)(vs:List V)(Q:VK)(E:XK),codeHdIn K c (zbx K y)=true→Room k (A.deeper (envOfC qual (zb st) s.heap.objs.size f (.ref c)))→sp vs H Q E →
   ∃t,PSs (zbn CX0 P w K mg base N qual (zb st) f (.ref c) A outer s H E).nox (zk st) t∧t { nx:=fun _ H'=>Q .non H',rt:=Q } (zaY N vs) H):FnOk P w K mg base CX0 (k+1) f fd ps sp:=by
 obtain⟨oc,od,kV,doc,pm,an,cdv,ct,osl,rfl,lk,hcd⟩:=F.ex
 obtain⟨c,hc,oc',od',fd',osl',lk',e⟩:=L.ex
 rw[lk] at lk'
 cases lk'
 have e:cdv=.ref c:=e
 subst e
 refine fn_of lk hcd S len fun A outer s H vs Q E hr hsp=>?_
 obtain⟨t,h,q⟩:=hbody c A outer s H vs Q E hc hr hsp
 exact⟨t,h.nox,q⟩
end
theorem law_callT{P:Program}{w:World}{K:Frag}{mg mb:Str→Option Value}{CX:CXT}{k:Nat}{fa a c T:Addr}{fd:FuncData}{x:Str}{sp:Sp}{s₁:Shared}{vs:List Value}{ns:List Int}
 (KX:K.In s₁.heap) (hns:s₁.heap.Ns mainGlobals mg) (hb:s₁.heap.Ns builtinsNs mb) (hbb:∀x:Str,x≠"__name__"→mb x=bootBuiltins x) (hlim:s₁.heap.NoLimit) (hbm:zdI mg s₁.heap) (hg:s₁.gens = #[])
 (hC:CodeHd s₁.heap c T) (hT:s₁.heap.get? T=some (tabObj #[])) (hTK:K.lookup T=none)
 (ha:s₁.heap.get? a=some { cls:=.type "list",data:=.seq vs.toArray }) (hi:IntsAre vs ns) (hl:ns.length≤sizeLine) (hr:Room k callerA)
 (F:∀base:Heap,K.In base→base.Ns mainGlobals mg→zdI mg base→FnOk P w K mg base CX k fa fd [x] sp) (hbind:∀(s:Shared)(u:Value),BindsTo s fd ⟨[u],[]⟩ [(x,u)])
 (hsp:∀H:Hp,H T=some (.tbl #[])→SqL K H a (ns.map V.int)→sp [.ref a] H (fun v _=>v=.bl true) fun _ _ _=>False)
 (hCX:∀H e s',CX [] H s₁ (fun _ _ _=>False) e s'→False) :
 codeAny (model P w) callerA (.call (.ref fa) ⟨[.ref a],[]⟩) (fun r s'=>r=.ok (.ret (.bool true))∧OldK s₁.heap s'.heap∧s'.os=s₁.os∧AllBare s'.gens) s₁:=by
 have rv:=zgL hi
 have lenV:=hi.length
 have naT:a≠T:=fun z=>by rw[z,hT] at ha;cases ha
 have core:∀H:Hp,(∀b,b≠T→H b=none∨∃o xs,H b=some (.frz o (.lst xs)))→H T=some (.tbl #[])→SqL K H a (ns.map V.int)→HOk P w H s₁.heap→(∀b,H b≠none→b=a∨b=T)→(H a≠none→K.lookup a=none) →
  codeAny (model P w) callerA (.call (.ref fa) ⟨[.ref a],[]⟩) (fun r s'=>r=.ok (.ret (.bool true))∧OldK s₁.heap s'.heap∧s'.os=s₁.os∧AllBare s'.gens) s₁:=by
  intro H hO hHT hS hok hA hK
  have base_of:∀{b:Addr}{o:Obj},s₁.heap.get? b=some o→H b=none→(zgg s₁.heap H).get? b=some o:=fun e n=>hidT_get e n
  have noA:∀{b:Addr}{o:Obj},s₁.heap.get? b=some o→o.cls ≠ .type "list"→o.cls ≠ .none→H b=none:=fun {b o} e d d2=>by
   cases q:H b with
   | none=>rfl
   | some u =>
     rcases hA b (by rw[q];simp)with e' | e'
     ·subst e'
      rw[ha] at e;cases e
      exact absurd rfl d
     ·subst e'
      rw[hT] at e;cases e
      exact absurd rfl d2
  have noD:∀{b:Addr}{o:Obj}{es:Array DictEntry}{ep:Nat},s₁.heap.get? b=some o→o.data=.dict es ep→H b=none:=fun {b o es ep} e d=>by
   cases q:H b with
   | none=>rfl
   | some u =>
     rcases hA b (by rw[q];simp)with e' | e'
     ·subst e'
      rw[ha] at e;cases e
      have d':Data.seq vs.toArray _=Data.dict es ep:=d
      cases d'
     ·subst e'
      rw[hT] at e;cases e
      have d':Data.fields #[]=Data.dict es ep:=d
      cases d'
  have nsK:∀{b:Addr}{m:Str→Option Value},s₁.heap.Ns b m→(zgg s₁.heap H).Ns b m:=fun {b m} ⟨o,es,ep,e,d,r⟩=>⟨o,es,ep,base_of e (noD e d),d,r⟩
  have hKb:K.In (zgg s₁.heap H):=fun b o e=>base_of (KX b o e) (by
   cases q:H b with
   | none=>rfl
   | some u =>
     rcases hA b (by rw[q];simp)with e' | e'
     ·subst e'
      rw[hK (by rw[q];simp)] at e;cases e
     ·subst e'
      rw[hTK] at e;cases e)
  have hM:Mod K mg (zgg s₁.heap H):=⟨hKb,nsK hns,⟨mb,nsK hb,hbb⟩,let ⟨mc,h1,h2⟩:=hlim;⟨mc,nsK h1,h2⟩⟩
  have hBM:zdI mg (zgg s₁.heap H):=let ⟨bm,ob,b1,b2,b3,b4,r⟩:=hbm;⟨bm,ob,b1,b2,base_of b3 (noA b3 (by rw[b4];decide) (by rw[b4];intro z;cases z)),b4,r⟩
  have e0:Env0 P w K mg (zgg s₁.heap H) callerA [] s₁ H:=⟨rfl,hM,fun b o e=>of_hidT e,le_of_eq (hidT_size _ _),trivial,fun b hb=>absurd (show b∈([]:List Addr)from hb) (by simp),hok,.of_eq hg⟩
  refine codeAny_mono ((F _ hKb (nsK hns) hBM).run callerA [] s₁ H ⟨[.ref a],[]⟩ [.ref a] [.ref a] _ _ hr e0 (hbind s₁ (.ref a)) (.cons rfl .nil) (hsp H hHT hS)) fun r s' h=>?_
  cases r with
  | error e=>exact(hCX H e s' h).elim
  | ok fl =>
    cases fl with
    | next=>exact False.elim h
    | brk=>exact False.elim h
    | cont=>exact False.elim h
    | ret u =>
      obtain⟨v,H',os,bare,un,hok',r',q⟩:=h
      have q':v=.bl true:=q
      subst q'
      obtain rfl:u=Value.bool true:=r'
      obtain⟨more,eT⟩:=un.tbls T #[] hHT
      have eT2:s'.heap.get? T=some (tabObj (#[]++more)):=hok' T _ eT
      have kept:∀b o,b≠T→s₁.heap.get? b=some o→s'.heap.get? b=some o:=fun b o n e=>by
       cases q:H b with
       | none=>exact un.keep b o e q (by intro z;exact absurd (show b∈([]:List Addr)from z) (by simp)) (by simp)
       | some u =>
         rcases hO b n with z | ⟨ob,xs,z⟩
         ·rw[q] at z;cases z
         ·have z2:=un.frzs b ob _ z
          obtain⟨e1,_⟩:=hok b _ z
          obtain⟨e2,_⟩:=hok' b _ z2
          rw[e] at e1;cases e1
          exact e2
      refine⟨rfl,⟨fun b o e=>?_,fun b o e=>?_⟩,os,bare⟩
      ·by_cases n:b=T
       ·subst n
        rw[hT] at e
        cases e
        exact .inr (.inl ⟨(hC.tab hT).isCodeTable,rfl,#[],more,rfl,eT2⟩)
       ·exact .inl (kept b o n e)
      ·by_cases n:b=T
       ·subst n;exact⟨_,eT2⟩
       ·exact⟨o,kept b o n e⟩
 cases hk:K.lookup a with
 | some o =>
   have e:=KX a o hk
   rw[ha] at e
   cases e
   refine core (fun b=>if b=T then some (.tbl #[])else none) (fun b n=>.inl (if_neg n)) (if_pos rfl) (.inr ⟨_,vs.toArray,_,hk,rfl,rfl,rfl,by rw[size_toArray,lenV];exact hl,by simpa using rv⟩) (fun b u z=>?_) (fun b z=>?_) fun z=>absurd (if_neg naT) z
   ·by_cases hb:b=T
    ·have z':=(if_pos hb).symm.trans z
     cases z'
     subst hb
     exact hT
    ·have z':=(if_neg hb).symm.trans z
     cases z'
   ·by_cases hb:b=T
    ·exact .inr hb
    ·exact absurd (if_neg hb) z
 | none =>
   refine core (fun b=>if b=a then some (.frz { cls:=.type "list",data:=.seq vs.toArray } (.lst (ns.map V.int)))else if b=T then some (.tbl #[])else none) (fun b n=>?_) ?_ (.inl (.inr ⟨{ cls:=.type "list",data:=.seq vs.toArray },if_pos rfl⟩)) (fun b u z=>?_) (fun b z=>?_) fun _=>hk
   ·by_cases hb:b=a
    ·exact .inr ⟨_,_,if_pos hb⟩
    ·exact .inl ((if_neg hb).trans (if_neg n))
   ·exact(if_neg (Ne.symm naT)).trans (if_pos rfl)
   ·by_cases hb:b=a
    ·have z':=(if_pos hb).symm.trans z
     cases z'
     subst hb
     exact⟨ha,by rw[length_map];exact hl,vs,_,rv,ha⟩
    ·have z':=(if_neg hb).symm.trans z
     by_cases hc:b=T
     ·have z2:=(if_pos hc).symm.trans z'
      cases z2
      subst hc
      exact hT
     ·have z2:=(if_neg hc).symm.trans z'
      cases z2
   ·by_cases hb:b=a
    ·exact .inl hb
    ·by_cases hc:b=T
     ·exact .inr hc
     ·exact absurd ((if_neg hb).trans (if_neg hc)) z
theorem walk_ofT{l:PySem.W.OpenLaw}{n k:Nat}{q:Program}{loose:List Str}{XP:(Str→Option Value)→Heap→Prop}{YP:World→Heap→Prop}{d:DefRec}{K:Params→Frag}{CX:World→CXT}{sp:World→Sp}{x y:Str}
 (hn:l.most=some n) (hn2:n≤sizeLine) (hdf:d.params.defaults=[]) (hr:Room k callerA) (hrec:∃dd,(recsOf q).find? (fun e=>e.name==y)=some dd)
 (hY:∀(w:World)(h:Heap),YP w h→(K w.params).In h)
 (F:∀(w:World)(mg:Str→Option Value)(fa:Addr)(h:Heap),(K w.params).In h→h.Ns mainGlobals mg→mg d.name=some (.ref fa) →
   LamK (K w.params) y∧∃fd:FuncData,(∀(s:Shared)(u:Value),BindsTo s fd ⟨[u],[]⟩ [(x,u)]) ∧
    ∀base:Heap,(K w.params).In base→base.Ns mainGlobals mg→zdI mg base→FnOk l.prog w (K w.params) mg base (CX w) k fa fd [x] (sp w))
 (hsp:∀(w:World)(H:Hp)(a:Addr)(ns:List Int),ns.length≤n→H (zbx (K w.params) y)=some (.tbl #[])→SqL (K w.params) H a (ns.map V.int)→sp w [.ref a] H (fun v _=>v=.bl true) fun _ _ _=>False)
 (hCX:∀(w:World)(H:Hp)(s:Shared)(e:Value)(s':Shared),CX w [] H s (fun _ _ _=>False) e s'→False) :
 PySem.W.WalkO q loose XP YP l.row.toRowW d [] (fun f vs=>PySem.call f vs):=by
 refine Att.attach_call hn hdf fun w s₀ s₁ mg mb fa o pm cd doc a vs ns G Y ho hd hcd hmg hobj hints hlen hg=>?_
 have KX:=hY w _ Y
 obtain⟨⟨⟨c,ht⟩,hTK⟩,fd,hb,hF⟩:=F w mg fa _ KX G.T.g hmg
 obtain⟨dd,hrec⟩:=hrec
 obtain⟨hC,hT⟩:=tab_of G.T KX hrec ht
 exact law_callT KX G.T.g G.T.b G.T.builtins G.T.nolimit G.T.bmain hg hC hT hTK hobj hints (le_trans hlen hn2) hr hF hb (fun H hO hS=>hsp w H a ns hlen hO hS) fun H e s'=>hCX w H s₁ e s'
structure CompScope2 (sc:Scope) (N:List Str) (x x2:Str) (fr:List Str) (ix:List Nat) (scope:Scope):Prop where
 kind:scope.kind=.function
 nocell:∀y∈scope.names,y.2 ≠ .cell
 lcl:∀y∈scope.names,y.2=.local→scope.names.lookup y.1=some .local
 lx:scope.names.lookup x=some .local
 lx2:scope.names.lookup x2=some .local
 free:∀y∈scope.names,y.2=.free→sc.names.lookup y.1=some .cell∨sc.names.lookup y.1=some .free
 at':fr.map some=ix.map fun i=>N[i]?
 frk:∀y∈fr,scope.names.lookup y=some .free∧(sc.names.lookup y=some .cell∨sc.names.lookup y=some .free)
 nd:(x::x2::fr).Nodup
section
variable {X:Cx}{pins:List (Addr×Obj)}{σ:St}{H:Hp}{s:Shared}{x x2:Str}{fr:List Str}{ix:List Nat}{scope:Scope}{cl:List (Str×Addr)}{fp:List Addr}{C D:Addr}
theorem blk_ok2(S:CompScope2 X.env.scope X.N x x2 fr ix scope)(I:Inv X pins σ H s)(hf:∀b∈fp,zaK X pins H b)(hfo:∀b∈fp,b<s.heap.objs.size)(hC:s.heap.objs.size≤C)
 (h1:∀y c,cl.lookup y=some c→X.env.cells.lookup y=some c) (h2:∀y,(y,NameKind.free)∈scope.names→∃c,cl.lookup y=some c):(blk X (x::x2::fr) scope cl C s H fp).Ok where
 mod:=I.ok.mod
 kind:=S.kind
 glob:=I.ok.glob
 blt:=I.ok.blt
 above:=hC
 inj:=fun y z c a b=>I.ok.inj y z c (h1 y c a) (h1 z c b)
 has:=fun y hy=>h2 y (zdN (env:=X.env) (scope:=scope) S.nocell hy)
 cab:=fun y c h _=>Bool.noConfusion (show false=true from h)
 hd:=I.ok.hd
 frames:=I.ok.frames
 stk:=.inl rfl
 exf:=fun b hb=>⟨fun z=>absurd (hfo b hb) (by rw[z];exact Nat.not_lt.mpr hC),fun y c e=>(hf b hb).2.2.2.2.1 y c (h1 y c e)⟩
 bs:=I.bs
 bsz:=le_trans I.ok.bsz I.sz
 noex:=fun b o e hb=>by
  rcases (hf b hb).2.2.2.1 with z | z
  ·exact I.ok.noex b o e z
  ·exact absurd (lt_of_lt_of_le (lt_size e) (le_trans I.ok.bsz z)) (lt_irrefl _)
 exfs:=fun b hb z=>by
  rcases List.mem_cons.mp (I.stkSub b z)with e | e
  ·exact(hf b hb).2.1 e
  ·exact(hf b hb).2.2.1 e
 funs:=I.stack
 frf:=I.stkFree
theorem CompScope2.len(S:CompScope2 X.env.scope X.N x x2 fr ix scope):fr.length=ix.length:=by have:=congrArg List.length S.at';simpa using this
theorem blk_inv2{s':Shared}{pn:List (Addr×Obj)}{m:Str→Option Value}(S:CompScope2 X.env.scope X.N x x2 fr ix scope)(I:Inv X pins σ H s)(hf:∀b∈fp,zaK X pins H b)(hfo:∀b∈fp,b<s.heap.objs.size)(hC:s.heap.objs.size≤C)
 (h1:∀y c,cl.lookup y=some c→X.env.cells.lookup y=some c) (h2:∀y,(y,NameKind.free)∈scope.names→∃c,cl.lookup y=some c)
 (ho:s'.os=s.os) (hg:s'.gens=s.gens) (k:∀b o,s.heap.get? b=some o→s'.heap.get? b=some o) (hn:s'.heap.Ns C m)
 (hp:∀p∈pn,s'.heap.get? p.1=some p.2∧s.heap.objs.size≤p.1∧p.1≠C∧∀v,p.2.data ≠ .cell v) :
 Inv (blk X (x::x2::fr) scope cl C s H fp) pn (none::none::cap ix σ) H s':=by
 obtain⟨mX,hnX,hlX⟩:=I.loc
 refine⟨blk_ok2 S I hf hfo hC h1 h2,ho,by rw[hg];exact I.bare,Un.kept k,⟨m,hn,fun i y v e1 e2 e3=>?_⟩,fun y c e=>?_,I.hok.fresh hC,fun y c e=>I.freeC y c (h1 y c e),fun p hp'=>?_,I.hok.kept k,by
  show(none::none::cap ix σ).length=(x::x2::fr).length
  simp[zhv,S.len]⟩
 ·rcases i with _ | _ | j
  ·cases e2
  ·cases e2
  ·have e1':fr[j]? = some y:=e1
   have e2':(cap ix σ)[j]? = some (some v):=e2
   obtain⟨f1,f2⟩:=S.frk y (mem_of_getElem? e1')
   unfold cap at e2'
   rw[getElem?_map] at e2'
   cases ei:ix[j]? with
   | none=>rw[ei] at e2';cases e2'
   | some i =>
     rw[ei] at e2'
     have e3':(σ[i]?).join=some v:=Option.some.inj e2'
     have e4:σ[i]? = some (some v):=by
      cases q:σ[i]? with
      | none=>rw[q] at e3';cases e3'
      | some w=>rw[q] at e3';have:w=some v:=e3';rw[this]
     have e5:X.N[i]? = some y:=by
      have:=congrArg (fun l=>l[j]?) S.at'
      simp only[getElem?_map,e1',ei] at this
      simpa using this.symm
     have vis:Vis X.env.scope y:=by
      rcases f2 with z | z
      ·exact .inr (.inl z)
      ·exact .inr (.inr z)
     obtain⟨u,r,l⟩:=hlX i y v e5 e4 vis
     refine⟨u,r,.inr ⟨za5 f1,?_⟩⟩
     rcases l with⟨z,_⟩|⟨_,c,ec,hc⟩
     ·rcases f2 with q | q
      ·have q':=(show X.env.scope.names.lookup y=some .local from z).symm.trans q;cases q'
      ·have q':=(show X.env.scope.names.lookup y=some .local from z).symm.trans q;cases q'
     ·obtain⟨c',hc'⟩:=h2 y (PySem.mem_of_lookup f1)
      have:c'=c:=by have:=h1 y c' hc';rw[ec] at this;exact(Option.some.inj this).symm
      subst this
      refine⟨c',hc',?_⟩
      obtain⟨o,ho',hd⟩:=hc
      exact⟨o,k _ _ ho',hd⟩
 ·obtain⟨v,o,ho',hd⟩:=I.cell y c (h1 y c e)
  exact⟨v,o,k _ _ ho',hd⟩
 ·have hp'':p∈pn:=by simpa [blk] using hp'
  obtain⟨q1,q2,q3,q4⟩:=hp p hp''
  refine⟨q1,I.hok.fresh q2,q3,fun z=>?_,q4⟩
  obtain⟨_,o,ho',_⟩:=I.stack.mem z
  exact absurd (lt_of_lt_of_le (lt_size ho') q2) (lt_irrefl _)
end
def zfv(K:Frag)(J:It)(c:St)(tc:TT)(te:TE)(H1:Hp)(fin:List V→Hp→Prop):Prop :=
 ∃W:Nat→Nat→List V→Hp→Prop,(∃m,W 0 m [] H1)∧∀i m ys H,W i m ys H →
  (J.stop i H∧ys.length≤sizeLine∧fin ys H) ∨
  (J.go i H∧ys.length<sizeLine∧∃N:List V→Hp→Prop,(∀ys' H',N ys' H'→∃m',m'<m∧W (i+1) m' ys' H')∧∀x H',J.yld i H x H'→∃t a b,x=.ref t∧SqT K H' t [a,b]∧tc (some a::some b::c) H' fun d H2=>if d=true then te (some a::some b::c) H2 fun y H3=>N (ys++[y]) H3 else N ys H2)
def tComp2(K:Frag)(ix:List Nat)(wi:TI)(tc:TT)(te:TE):TE:=fun σ H Q=>wi σ H fun J H1=>zfv K J (cap ix σ) tc te H1 fun ys H2=>∀l,H2 l=none→Q (.ref l) (upd H2 l (.lst ys))
section
variable {X:Cx}{x x2:Str}{fr:List Str}{ix:List Nat}{scope:Scope}{elt iter:Expr}{ifs:List Expr}{px px2 tp pos:Pos}{tk:Nat}{wi:TI}{tc:TT}{te:TE}
theorem comp_run2{use:Option (Value→Sem Unit)}{Q:Value→Shared→Prop}{pins:List (Addr×Obj)}{s2:Shared}{σ:St}{H2:Hp}{it:Addr}{fp:List Addr}{tn:Nat→Heap→Prop}{J:It}{cl:List (Str×Addr)}(S:CompScope2 X.env.scope X.N x x2 fr ix scope)(hc:X.calm=true)
 (hif:∀cl C s2 H2 fp,PIf (blk X (x::x2::fr) scope cl C s2 H2 fp) ifs tc) (he:∀cl C s2 H2 fp,PE (blk X (x::x2::fr) scope cl C s2 H2 fp) elt te)
 (h1:∀y c,cl.lookup y=some c→X.env.cells.lookup y=some c) (h2:∀y,(y,NameKind.free)∈scope.names→∃c,cl.lookup y=some c)
 (I2:Inv X pins σ H2 s2) (T:Turn X.prog X.w X.K (.Tuple [.Name x px,.Name x2 px2] tk tp) J fp it tn) (st2:tn 0 s2.heap) (f2:∀b∈fp,zaK X pins H2 b) {fin:List V→Hp→Prop} (wc:zfv X.K J (cap ix σ) tc te H2 fin)
 (hQ:∀(D C:Addr)(ys:List V)(H':Hp)(s':Shared)(m:Str→Option Value),Inv X pins σ (upd H' D (.lst ys)) s'→H' D=none→s'.heap.Ns C m→D≠C→s2.heap.objs.size≤C→H' C=none→fin ys H' →
   compPost (model X.prog X.w) X.A X.xe use Q (.ref D) C (.ok .next) s') :
 wpAny (model X.prog X.w) X.A (newList []) (fun acc s₃=>wpAny (model X.prog X.w) X.A (newFunctionEnv scope X.env.globals cl [] X.env.qual none .none (some X.env)) (fun cenv s₄ =>
  codeAny (model X.prog X.w) X.A (.compStart (.ListComp elt [⟨.Tuple [.Name x px,.Name x2 px2] tk tp,iter,ifs,0⟩] scope pos) 0 (.ref it) acc { cenv with scope:=relabel scope X.env }) (compPost (model X.prog X.w) X.A X.xe use Q acc cenv.locals) s₄) X.xe s₃) X.xe s2:=by
 have hfo:∀b∈fp,b<s2.heap.objs.size:=fun b hb=>by
  obtain⟨o,e,_⟩:=T.obj 0 _ st2 b hb
  exact lt_size e
 refine wpAny_newObj_type (wpAny_newFunctionEnv S.nocell (by intro y hy;simp at hy) (fun h₁ hns₁ hsb₁=>?_) S.kind)
 dsimp only at hns₁ hsb₁ ⊢
 generalize hHp:s2.heap.push { cls:=.type "list",dict:=none,data:=.seq ([]:List Value).toArray }=Hp2 at hns₁ hsb₁ ⊢
 have hCs:Hp2.objs.size=s2.heap.objs.size+1:=by rw[←hHp,size_push]
 have hDC:s2.heap.objs.size≠Hp2.objs.size:=by rw[hCs];exact ne_of_lt (lt_succ_self _)
 have hCle:s2.heap.objs.size≤Hp2.objs.size:=by rw[hCs];exact le_succ _
 have zc0:∀b,b<s2.heap.objs.size→b≠Hp2.objs.size:=fun b hb=>by rw[hCs];exact ne_of_lt (lt_succ_of_lt hb)
 have old:∀b o,s2.heap.get? b=some o→h₁.get? b=some o:=fun b o e=>hsb₁.extBut b o (zc0 b (lt_size e)) (get?_push_of_some _ (hHp ▸ get?_push_of_some _ e))
 have hacc:h₁.get? s2.heap.objs.size=some { cls:=.type "list",data:=.seq ([]:List Value).toArray 0 }:=hsb₁.extBut _ _ hDC (get?_push_of_some _ (hHp ▸ get?_push_size _ rfl))
 have st1:tn 0 h₁:=T.keep 0 _ _ st2 fun b _ o e=>old b o e
 have fpD:∀b∈fp,b≠s2.heap.objs.size:=fun b hb=>ne_of_lt (hfo b hb)
 generalize hD:s2.heap.objs.size=D at hacc hDC fpD ⊢
 have hDle:s2.heap.objs.size≤D:=le_of_eq hD
 generalize hC:Hp2.objs.size=C at hns₁ hsb₁ hDC hCle ⊢
 have oldD:∀b o,s2.heap.get? b=some o→b≠D:=fun b o e z=>absurd (lt_size e) (by rw[z,←hD];exact lt_irrefl _)
 obtain⟨W,⟨m0,w0⟩,turn⟩:=wc
 have loop:∀s₃:Shared,s₃={ s2 with heap:=h₁,toks:=s2.toks+([]:List (Str×Value)).length } →
  codeAny (model X.prog X.w) X.A (.compLoop (.ListComp elt [⟨.Tuple [.Name x px,.Name x2 px2] tk tp,iter,ifs,0⟩] scope pos) 0 (.ref it) (.ref D) (compEnvC scope cl C X.env))
   (compPost (model X.prog X.w) X.A X.xe use Q (.ref D) C) s₃:=by
  rintro s₃ rfl
  have I0:Inv (blk X (x::x2::fr) scope cl C s2 H2 fp) [(D,{ cls:=.type "list",data:=.seq ([]:List Value).toArray 0 })] (none::none::cap ix σ) H2 { s2 with heap:=h₁,toks:=s2.toks+([]:List (Str×Value)).length } :=
   blk_inv2 S I2 f2 hfo hCle h1 h2 rfl rfl old hns₁ (fun p hp=>by
    have e:p=(D,{ cls:=.type "list",data:=.seq ([]:List Value).toArray 0 }):=by simpa using hp
    subst e
    exact⟨hacc,hDle,hDC,fun v z=>by cases z⟩)
  have stat:∀{its:Obj}{H':Hp},(∀b∈fp,H' b=none)→∀b∈fp,zaK (blk X (x::x2::fr) scope cl C s2 H2 fp) [(D,its)] H' b:=fun {its H'} hn b hb=>by
   refine⟨hn b hb,fun z=>?_,fun z=>(I0.ok.exfs b hb z),.inl hb,fun y c e=>(I0.ok.exf b hb).2 y c e,fun p hp z=>?_⟩
   ·exact(I0.ok.exf b hb).1 z
   ·have e:p=(D,its):=by simpa [blk] using hp
    subst e
    exact fpD b hb (Eq.symm z)
  refine zb7 (env:=compEnvC scope cl C X.env)
   (fun n s'=>∃i ys its k v0 v1 H',Vals ys its∧Inv (blk X (x::x2::fr) scope cl C s2 H2 fp) [(D,{ cls:=.type "list",data:=.seq its.toArray k })] (v0::v1::cap ix σ) H' s'∧tn i s'.heap∧(∀b∈fp,H' b=none)∧W i n ys H') ?_ m0
   ⟨0,[],[],0,none,none,H2,.nil,I0,st1,fun b hb=>(f2 b hb).1,w0⟩
  rintro n s3 ⟨i,ys,its,k,v0,v1,H3,rv,I3,st3,fr3,w3⟩
  rcases turn i n ys H3 w3 with⟨stop,hz,hfin⟩|⟨go,hz,N,hN,step⟩
  ·refine thn (T.done (blk X (x::x2::fr) scope cl C s2 H2 fp) rfl rfl rfl hc i _ s3 _ H3 _ I3 (stat fr3) st3 stop) fun r s4 ⟨hr,I4⟩=>?_
   subst hr
   have pD:=I4.pin (D,{ cls:=.type "list",data:=.seq its.toArray k }) (by simp[blk])
   obtain⟨mC,hnC,_⟩:=I4.loc
   have hH3D:H3 D=none:=pD.2.1
   have hok':HOk X.prog X.w (upd H3 D (.lst ys)) s4.heap:=fun b u e=>by
    by_cases hb:b=D
    ·subst hb
     rw[zf] at e;cases e
     exact⟨hz,its,k,rv,pD.1⟩
    ·rw[zg hb] at e
     exact(I4.hok b u e).stay (fun c v _ q=>q) (fun c q=>by rw[zg (zj q hH3D)];exact q) fun c xs q=>by rw[zg (zj q hH3D)];exact q
   have b4:Un (frs X.stack) fp H2 H3 s2.heap s4.heap:=I4.base
   have un:Un (frs X.stack) fp H2 (upd H3 D (.lst ys)) s2.heap s4.heap :=
    ⟨b4.keep,b4.slot,fun b o q n hx=>by
     rw[zg (oldD b o q)];exact b4.free b o q n hx,b4.there,fun b xs q=>by rw[zg (zj (b4.tups b xs q) hH3D)];exact b4.tups b xs q,
     fun b o u q=>by rw[zg (zj (b4.frzs b o u q) hH3D)];exact b4.frzs b o u q,fun b ps q=>by
      obtain⟨more,e⟩:=b4.tbls b ps q
      exact⟨more,by rw[zg (zj e hH3D)];exact e⟩⟩
   have I5:Inv X pins σ (upd H3 D (.lst ys)) s4:=I2.call' (ch:=fp) I4.os un hok' I4.bare fun b hb=>by
    obtain⟨g0,g1,g2,g3,g4,g5⟩:=f2 b hb
    exact⟨g3,g1,g4,g5⟩
   exact hQ D C ys H3 s4 mC I5 hH3D hnC hDC hCle I4.free hfin
  ·refine thn (T.item (blk X (x::x2::fr) scope cl C s2 H2 fp) rfl rfl rfl hc i _ s3 _ H3 _ I3 (stat fr3) st3 go) fun r s4 ⟨u,hr,h4⟩=>?_
   subst hr
   refine thn h4 fun _ s5 ⟨y,H5,I5,r5,y5,st5,fr5⟩=>?_
   have I5':=I5.pinned (stat fr5) (T.obj _ _ st5)
   have pg:PG (blk X (x::x2::fr) scope cl C s2 H2 fp) (.Tuple [.Name x px,.Name x2 px2] tk tp) (gTup X.K 2 (gCons (zem 0) (gCons (zem 1) gNil))) :=
    pg_tup hc (zhQ (yk S.nd rfl (.inl (lookup_relabel_local S.lx)) (.inr (lookup_relabel_local S.lx))) (zhQ (yk S.nd rfl (.inl (lookup_relabel_local S.lx2)) (.inr (lookup_relabel_local S.lx2))) pgs_nil))
   obtain⟨t5,y1,y2,ey,ht5,q5⟩:=step y _ y5
   refine thn (pg _ s5 _ H5 y u (fun σ6 H6=>σ6=some y1::some y2::cap ix σ∧H6=H5) I5' r5 ⟨t5,_,ey,ht5,rfl,_,_,rfl,_,_,rfl,rfl,rfl,rfl⟩) fun _ s6 ⟨σ6,H6,I6,e6,e6'⟩=>?_
   subst e6 e6'
   refine thn (hif cl C s2 H2 fp _ s6 _ _ _ I6 q5) fun b s7 ⟨H7,I7,q7⟩=>?_
   have again:∀{s8:Shared}{H8:Hp}{its':List Value}{k':Nat}{ys':List V},Vals ys' its'→Inv (blk X (x::x2::fr) scope cl C s2 H2 fp) [(D,{ cls:=.type "list",data:=.seq its'.toArray k' })] (some y1::some y2::cap ix σ) H8 s8→(∀b∈fp,∀o,s5.heap.get? b=some o→s8.heap.get? b=some o)→(∀b∈fp,H8 b=none)→N ys' H8 →
    ∃m,m<n∧∃i ys its k v0 v1 H',Vals ys its∧Inv (blk X (x::x2::fr) scope cl C s2 H2 fp) [(D,{ cls:=.type "list",data:=.seq its.toArray k })] (v0::v1::cap ix σ) H' s8∧tn i s8.heap∧(∀b∈fp,H' b=none)∧W i m ys H' :=
    fun {s8 H8 its' k' ys'} rv8 I8 kp fr8 nn=>let ⟨m',hm,w8⟩:=hN ys' H8 nn;⟨m',hm,i+1,ys',its',k',some y1,some y2,H8,rv8,I8,T.keep _ _ _ st5 kp,fr8,w8⟩
   cases b with
   | false =>
     rw[if_neg Bool.false_ne_true] at q7 ⊢
     refine again rv I7.unpinned (fun b hb o e=>(I7.pin (b,o) (by simp[blk];exact .inr (yd hb e))).1) (fun b hb=>?_) q7
     obtain⟨o,e,d⟩:=T.obj _ _ st5 b hb
     exact(I7.pin (b,o) (by simp[blk];exact .inr (yd hb e))).2.1
   | true =>
     rw[if_pos rfl] at q7 ⊢
     refine thn (he cl C s2 H2 fp _ s7 _ _ _ I7 q7) fun v s8 ⟨z,H8,I8,r8,q8⟩=>?_
     have pD:=I8.pin (D,{ cls:=.type "list",data:=.seq its.toArray k }) (by simp[blk])
     have hvl:ys.length=its.length:=rv.length
     refine append_at (hsz:=by show its.toArray.size≤sizeLine;rw[size_toArray];omega) pD.1 fun h₉ hs₉ hD₉=>?_
     have eo:({ cls:=.type "list",data:=.seq (its.toArray.push v) (k+1) }:Obj)={ cls:=.type "list",data:=.seq (its++[v]).toArray (k+1) }:=by rw[push_toArray]
     rw[eo] at hD₉
     have pn8:∀b∈fp,∀o,s5.heap.get? b=some o→s8.heap.get? b=some o∧H8 b=none:=fun b hb o e=>by
      have q:=I8.pin (b,o) (by simp[blk];exact .inr (yd hb e))
      exact⟨q.1,q.2.1⟩
     have J8:=I8.unpinned.pins_of (pins':=[]) (fun p hp=>by cases hp)
     have f2D:zaK (blk X (x::x2::fr) scope cl C s2 H2 fp) [] H8 D:=⟨pD.2.1,pD.2.2.1,pD.2.2.2.1,.inr hDle,fun y c e z=>by
      obtain⟨v,o,ho,_⟩:=I2.cell y c (h1 y c e)
      exact oldD c o ho z,fun p hp=>by cases hp⟩
     have I9:Inv (blk X (x::x2::fr) scope cl C s2 H2 fp) [] (some y1::some y2::cap ix σ) H8 { s8 with heap:=h₉ }:=J8.turned (t':=s8.toks) (it:=D) (fun b o hb e=>(hs₉.2 b hb).trans e) f2D.1 f2D.2.1 f2D.2.2.2.1 f2D.2.2.2.2.1 f2D.2.2.2.2.2
     refine again (its':=its++[v]) (k':=k+1) (ys':=ys++[z]) (rv.append (.cons r8 .nil)) (I9.pins_of fun p hp=>?_) (fun b hb o e=>(hs₉.2 b (fpD b hb)).trans (pn8 b hb o e).1) (fun b hb=>?_) q8
     ·have e:p=(D,{ cls:=.type "list",data:=.seq (its++[v]).toArray (k+1) }):=by simpa using hp
      subst e
      exact⟨hD₉,f2D.1,f2D.2.1,f2D.2.2.1,fun v z=>by cases z⟩
     ·obtain⟨o,e,d⟩:=T.obj _ _ st5 b hb
      exact(pn8 b hb o e).2
 exact codeAny_compStart_list (loop _ rfl) (T.self X.A 0 _ _ _ st1 (loop _ rfl))
theorem zih(S:CompScope2 X.env.scope X.N x x2 fr ix scope)(hc:X.calm=true)(hi:PI X (.Tuple [.Name x px,.Name x2 px2] tk tp) iter wi)(hif:∀cl C s2 H2 fp,PIf (blk X (x::x2::fr) scope cl C s2 H2 fp) ifs tc)(he:∀cl C s2 H2 fp,PE (blk X (x::x2::fr) scope cl C s2 H2 fp) elt te)
 (hs:∀x,foldedSetIterable iter X.env x=pure x:=by intro _;rfl):PE X (.ListComp elt [⟨.Tuple [.Name x px,.Name x2 px2] tk tp,iter,ifs,0⟩] scope pos) (tComp2 X.K ix wi tc te):=by
 intro pins s σ H Q I h
 obtain⟨cl,ecl,h1,h2⟩:=zb3 (env:=X.env) (scope:=scope) fun y hy hf=>I.ok.has y.1 (S.free y hy hf)
 rw[eval_ListComp]
 refine wpAny_comprehension_free (use:=none) rfl hs ecl S.kind S.lcl (thn (hi pins s σ H _ I h) fun xv s1 q1=>thn q1 fun itv s2 q2=>?_)
 obtain⟨it,fp,tn,J,H2,rfl,I2,T,st2,f2,wc⟩:=q2
 refine comp_run2 S hc hif he h1 h2 I2 T st2 f2 wc fun D C ys H' s' m I' hD hn hDC hC hHC fin=>?_
 refine⟨m,hn,fun h' sb=>⟨.ref D,upd H' D (.lst ys),?_,rfl,fin D hD⟩⟩
 have hcf:zaK X pins (upd H' D (.lst ys)) C:=by
  have z:=I2.fpOk (H':=upd H' D (.lst ys)) hC (by rw[zg (Ne.symm hDC)];exact hHC)
  exact z
 exact I'.turned (t':=s'.toks) (it:=C) (fun b o hb e=>(sb.2 b hb).trans e) hcf.1 hcf.2.1 hcf.2.2.2.1 hcf.2.2.2.2.1 hcf.2.2.2.2.2
end
section
variable {X:Cx}{pins:List (Addr×Obj)}{σ:St}{H:Hp}{s:Shared}{h':Heap}{t':Nat}{ch:List Addr}
end
section
variable {X:Cx}{ex ey:Expr}{t:TA}{p pos tp:Pos}{elts:List Expr}{tk:Nat}
end
end L2
namespace L2
open PySem PySem.W PySem.Spec PyProof.Rows
theorem zi5{K:Frag}{a:Addr}{xs:List V}{c:St}{tc:TT}{te:TE}{H:Hp}{fin:List V→Hp→Prop}(Pv:Nat→List V→Hp→Prop)(h0:Pv 0 [] H)(hl:∀i ys H,i≤xs.length→Pv i ys H→SqL K H a xs∧ys.length≤i)(hz:xs.length≤sizeLine)
 (hs:∀i x ys H,xs[i]? = some x→Pv i ys H→∃t u v,x=.ref t∧SqT K H t [u,v]∧tc (some u::some v::c) H fun b H2=>if b=true then te (some u::some v::c) H2 fun y H3=>Pv (i+1) (ys++[y]) H3 else Pv (i+1) ys H2) (hd:∀ys H,Pv xs.length ys H→fin ys H):zfv K (Itl K a) c tc te H fin:=by
 refine⟨fun i m ys H=>m=xs.length-i∧i≤xs.length∧Pv i ys H,⟨xs.length,by simp,zero_le _,h0⟩,?_⟩
 rintro i m ys H ⟨rfl,hi,p⟩
 obtain⟨q,hy⟩:=hl i ys H hi p
 by_cases hlt:i<xs.length
 ·refine .inr ⟨⟨xs,xs[i],q,by simp[hlt]⟩,by omega,fun ys' H'=>Pv (i+1) ys' H',fun ys' H' p'=>⟨xs.length-(i+1),by omega,rfl,hlt,p'⟩,fun x H' y=>?_⟩
  obtain⟨e,y⟩:=y
  subst e
  exact hs i x ys _ (y xs q) p
 ·have e:i=xs.length:=by omega
  subst e
  exact .inl ⟨⟨xs,q,le_refl _⟩,by omega,hd ys H p⟩
theorem zil{K:Frag}{a:Addr}{xs:List V}{c:St}{te:TE}{H:Hp}{fin:List V→Hp→Prop}(Pv:Nat→List V→Hp→Prop)(h0:Pv 0 [] H)(hl:∀i ys H,i≤xs.length→Pv i ys H→SqL K H a xs∧ys.length≤i)(hz:xs.length≤sizeLine)
 (hs:∀i x ys H,xs[i]? = some x→Pv i ys H→∃t u v,x=.ref t∧SqT K H t [u,v]∧te (some u::some v::c) H fun y H3=>Pv (i+1) (ys++[y]) H3) (hd:∀ys H,Pv xs.length ys H→fin ys H):zfv K (Itl K a) c tYes te H fin :=
 zi5 Pv h0 hl hz (fun i x ys H e p=>let ⟨t,u,v,e1,e2,h⟩:=hs i x ys H e p;⟨t,u,v,e1,e2,zdG (B:=Pv (i+1) ys H) h⟩) hd
end L2
namespace L2
open PySem PySem.W PySem.Spec PyProof.Rows PySem.Calls
def LamS(P:Addr)(q:Str)(H:Hp):Prop:=∃ps,H P=some (.tbl ps)∧TriplesOk ps.toList∧∀pos cv,codeAmong pos ps.toList=some cv→∃c',cv=.ref c'∧H c'=some (zew c' q)
theorem LamS.new{P:Addr}{q:Str}{H:Hp}(h:H P=some (.tbl #[])):LamS P q H:=⟨#[],h,trivial,fun pos cv e=>by simp[codeAmong] at e⟩
theorem LamS.same{P:Addr}{q:Str}{H H':Hp}(h:LamS P q H)(s:Same H H'):LamS P q H':=by
 obtain⟨ps,h1,h2,h3⟩:=h
 exact⟨ps,s _ _ h1,h2,fun pos cv e=>let ⟨c',e1,e2⟩:=h3 pos cv e;⟨c',e1,s _ _ e2⟩⟩
def zds:Str:=Str.ofString "by_place" ++ ".<locals>." ++ "<lambda>"
theorem zi6{pos:Pos}{a b:Int}{c x:Value}:∀(l:List Value),TriplesOk l→codeAmong pos (l++[rawInt a,rawInt b,c])=some x→codeAmong pos l=some x∨x=c:=by
 intro l h e
 fun_induction TriplesOk l with
 | case1 =>
   simp only[nil_append,codeAmong,rawInt] at e
   split at e
   ·cases e;exact .inr rfl
   ·cases e
 | case2 a' t b' u y za3 ih =>
   simp only[cons_append,codeAmong] at e ⊢
   split at e
   ·rename_i hc;rw[if_pos hc];exact .inl e
   ·rename_i hc;rw[if_neg hc];exact ih h e
 | case3=>exact h.elim
section
variable {X:Cx}{pins:List (Addr×Obj)}{σ:St}{H:Hp}{s:Shared}{E:Value→Shared→Prop}
theorem lam_eval2{params:Arguments}{body:Expr}{scope:Scope}{pos:Pos}{c P:Addr}{Q:Value→Shared→Prop}(I:Inv X pins σ H s)(hL:LamS P (X.env.qual ++ "<lambda>") H)(hcode:X.env.code=.ref c)(C:CodeHd X.base c P)(B:zdI X.mg X.base)
 (hdef:defaultsOf params X.env=([],[])) (hcl:closureFor scope X.env=pure [])
 (q:∀(f c':Addr)(pm ctv:Value)(H3:Hp)(s':Shared),(∀b u,b≠P→s.heap.get? b=some u→s'.heap.get? b=some u)→s.heap.objs.size≤s'.heap.objs.size →
   (∀a,a<s.heap.objs.size→a≠P→H3 a=H a)→H3 f=some (fnO f (kla_obj "<lambda>" (X.env.qual ++ "<lambda>") params body scope [] pm c' ctv))→H3 c'=some (zew c' (X.env.qual ++ "<lambda>"))→SameN H H3→LamS P (X.env.qual ++ "<lambda>") H3→Inv X pins σ H3 s'→Q (.ref f) s') :
 wpAny (model X.prog X.w) X.A (eval (.Lambda params body scope pos) X.env) Q E s:=by
 obtain⟨ps,hP,ht,hh⟩:=hL
 have hb:∀b o,X.base.get? b=some o→b≠P:=fun b o e z=>by have:=(I.bs b o e).2;rw[z,hP] at this;cases this
 have hPg:s.heap.get? P=some (tabObj ps):=I.hok P _ hP
 have hPs:P<s.heap.objs.size:=I.hok.lt hP
 obtain⟨bm,ob,b1,b2,b3,b4,b5,b6⟩:=B
 have hG:mainGlobals≠P:=by obtain⟨o,_,_,e,_⟩:=I.mod.glob;exact hb _ o e
 have hbG:bm≠mainGlobals:=fun z=>by
  obtain⟨o,es,ep,e,hd,_⟩:=I.mod.glob
  rw[z,e] at b3;cases b3;rw[hd] at b6;cases b6
 cases hA:codeAmong pos ps.toList with
 | none =>
   refine kla_eval hdef (kla_makeFunction (ps:=ps) (mg:=X.mg) hcl I.ok.glob (I.mod.glob.keeps I.bk) hcode (C.keeps I.bk) hPg ht hA hG ⟨bm,ob,b1,b2,hbG,hb _ _ b3,I.bk _ _ b3,b4,b5,b6⟩ fun c' ctv h' tk hx hge hlt hrec htb=>?_)
   have J:=I.lam (tk:=tk) (fo:=kla_obj "<lambda>" (X.env.qual ++ "<lambda>") params body scope [] ((X.mg "__name__").getD .none) c' ctv) rfl hP hx hge hlt hrec htb
   have nPc:P≠c':=ne_of_lt (lt_of_lt_of_le hPs hge)
   have ncf:c'≠h'.objs.size:=ne_of_lt hlt
   have nPf:P≠h'.objs.size:=ne_of_lt (lt_trans (lt_of_lt_of_le hPs hge) hlt)
   have old:∀a,a<s.heap.objs.size→a≠P→(upd (upd (upd H P (.tbl (ps ++ #[rawInt ↑pos.line,rawInt ↑pos.col,Value.ref c']))) c' (zew c' (X.env.qual ++ "<lambda>"))) h'.objs.size (fnO h'.objs.size (kla_obj "<lambda>" (X.env.qual ++ "<lambda>") params body scope [] ((X.mg "__name__").getD .none) c' ctv))) a=H a:=fun a h1 h2=>by
    rw[zg (ne_of_lt (lt_trans (lt_of_lt_of_le h1 hge) hlt)),zg (ne_of_lt (lt_of_lt_of_le h1 hge)),zg h2]
   have atP:(upd (upd (upd H P (.tbl (ps ++ #[rawInt ↑pos.line,rawInt ↑pos.col,Value.ref c']))) c' (zew c' (X.env.qual ++ "<lambda>"))) h'.objs.size (fnO h'.objs.size (kla_obj "<lambda>" (X.env.qual ++ "<lambda>") params body scope [] ((X.mg "__name__").getD .none) c' ctv))) P=some (.tbl (ps ++ #[rawInt ↑pos.line,rawInt ↑pos.col,Value.ref c'])):=by rw[zg nPf,zg nPc,zf]
   have hcc:(upd (upd (upd H P (.tbl (ps ++ #[rawInt ↑pos.line,rawInt ↑pos.col,Value.ref c']))) c' (zew c' (X.env.qual ++ "<lambda>"))) h'.objs.size (fnO h'.objs.size (kla_obj "<lambda>" (X.env.qual ++ "<lambda>") params body scope [] ((X.mg "__name__").getD .none) c' ctv))) c'=some (zew c' (X.env.qual ++ "<lambda>")):=by rw[zg ncf,zf]
   refine q h'.objs.size c' ((X.mg "__name__").getD .none) ctv _ _ (fun b u n e=>get?_push_of_some _ (hx b u n e)) ?_ old zf hcc ⟨fun b u e n=>?_,fun b qs e=>?_⟩ ⟨_,atP,?_,fun pos' cv e=>?_⟩ J
   ·show s.heap.objs.size≤(h'.push _).objs.size
    rw[size_push]
    exact le_of_lt (Nat.lt_of_le_of_lt hge (lt_succ_of_lt hlt))
   ·rw[old b (I.hok.lt e) (fun w=>by rw[w,hP] at e;cases e;exact n _ rfl)];exact e
   ·by_cases hb:b=P
    ·subst hb
     exact⟨_,atP⟩
    ·exact⟨qs,by rw[old b (I.hok.lt e) hb];exact e⟩
   ·rw[Array.toList_append]
    exact TriplesOk_snoc _ _ _ _ ht
   ·rw[Array.toList_append] at e
    rcases zi6 _ ht e with e | rfl
    ·obtain⟨c2,e1,e2⟩:=hh pos' cv e
     exact⟨c2,e1,by rw[old c2 (I.hok.lt e2) (fun w=>by rw[w,hP] at e2;cases e2)];exact e2⟩
    ·exact⟨c',rfl,hcc⟩
 | some cv =>
   obtain⟨c',rfl,hcc⟩:=hh pos cv hA
   refine kla_eval hdef (kla_makeFunctionHit (ps:=ps) (mg:=X.mg) hcl I.ok.glob (I.mod.glob.keeps I.bk) hcode (C.keeps I.bk) hPg ht hA ⟨bm,ob,b1,b2,hbG,hb _ _ b3,I.bk _ _ b3,b4,b5,b6⟩ fun ctv h' tk hk hsz=>?_)
   have hn:H h'.objs.size=none:=I.hok.fresh hsz
   have J:Inv X pins σ (upd H h'.objs.size (fnO h'.objs.size (kla_obj "<lambda>" (X.env.qual ++ "<lambda>") params body scope [] ((X.mg "__name__").getD .none) c' ctv))) { s with heap:=h'.push (kla_obj "<lambda>" (X.env.qual ++ "<lambda>") params body scope [] ((X.mg "__name__").getD .none) c' ctv),toks:=tk } :=
    I.laid (t':=tk) (fun b u e=>get?_push_of_some _ (hk b u e)) hsz ⟨get?_push_size _ rfl,⟨_,get?_push_size _ rfl⟩,fun h1 h2 a b=>b _ a⟩
   refine q h'.objs.size c' ((X.mg "__name__").getD .none) ctv _ _ (fun b u n e=>get?_push_of_some _ (hk b u e)) ?_ (fun a h1 h2=>zg (ne_of_lt (lt_of_lt_of_le h1 hsz))) zf ((Same.new hn) _ _ hcc) (Same.new hn).toN (LamS.same ⟨ps,hP,ht,hh⟩ (Same.new hn)) J
   show s.heap.objs.size≤(h'.push _).objs.size
   rw[size_push]
   exact Nat.le_succ_of_le hsz
end
def tSZ2(K:Frag)(P:Addr)(qq:Str)(t:TA):TE:=fun σ H Q=>t σ H fun vs H1=>∃(l1 l2:Addr)(xs:List Int)(yv:List V),vs=[.ref l1,.ref l2]∧SqL K H1 l1 (xs.map V.int)∧SqL K H1 l2 yv∧xs.length=yv.length∧0<xs.length∧xs.length<64∧LamS P qq H1 ∧
 ∀(H2:Hp)(ts:List Addr)(l:Addr)(p:Array Nat),SameN H1 H2→LamS P qq H2→Prs H2 ts ((xs.map V.int).zip yv)→H2 l=none→M14.I (fun k=>xs.getD k 0) xs.length p xs.length→Q (.ref l) (upd H2 l (.lst (p.toList.map fun i=>V.ref (ts.getD i 0))))
section
variable {X:Cx}{ex ey:Expr}{t:TA}{c P:Addr}{y:Str}{p1 p2 p3 p4 p5 pos pos2 lpos kp:Pos}{j:Nat}{params:Arguments}{scope:Scope}
theorem pe_sortz2{qq:Str}(hqq:X.env.qual ++ "<lambda>"=qq)(hr:Room 3 X.A)(hg1:Gl X "sorted")(hm1:X.mg "sorted"=none)(hg2:Gl X "zip")(hm2:X.mg "zip"=none)(hcode:X.env.code=.ref c)(C:codeHdIn X.K c P=true)(B:zdI X.mg X.base)(S:FnScope [y] [y] scope)
 (hy:scope.names.lookup y=some .local) (hdb:(y==("__debug__":Str))=false) (hdc:(y==("__classdict__":Str))=false)
 (hdef:defaultsOf params X.env=([],[])) (hcl:closureFor scope X.env=pure [])
 (hbind:∀(q:Str)(pm cv ctv u:Value)(b:Expr),bindArgs (kla_fn "<lambda>" q params b scope [] pm cv ctv) ⟨[u],[]⟩=pure [(y,u)])
 (ha:PA X [ex,ey] t) (he:starEach [ex,ey] X.env=(false,eval ex X.env)::starEach [ey] X.env:=by rfl) (hpl:(backTo pos2 (starEach [ey] X.env)).any (·.1)=false:=by rfl) :
 PE X (.Call (.Name "sorted" p1) [.Call (.Name "zip" p2) [ex,ey] [] pos2] [⟨some "key",.Lambda params (.Subscript (.Name y p3) (.Constant (.int 0) j p4) p5) scope lpos,kp⟩] pos) (tSZ2 X.K P qq t):=by
 intro pins s σ H Q I h
 refine wpAny_Call_Name_kw (zbX I hg1 hm1 boot_sorted ?_ (by decide) (by decide))
 refine callWith_kw ?_
 refine Calls.spliced_cons ?_
 refine wpAny_Call_Name_kw (zbX I hg2 hm2 boot_zip ?_ (by decide) (by decide))
 refine callWith_type1 (thn (ha pos2 pins s σ H _ I h) fun us s1 hh=>?_) he hpl
 obtain⟨vs,H1,I1,r1,l1,l2,xs,yv,rfl,q1,q2,hl,h0,h64,hP,q⟩:=hh
 obtain⟨u1,u2,rfl⟩:∃u1 u2,us=[u1,u2]:=by
  cases r1 with
  | cons _ r=>cases r with
    | cons _ r=>cases r with
      | nil=>exact⟨_,_,rfl⟩
 cases r1 with
 | cons e1 r=>cases r with
   | cons e2 r =>
     cases (show u1=Value.ref l1 from e1)
     cases (show u2=Value.ref l2 from e2)
     refine made_zip I1 q1 q2 fun s2 z TI TO i1 i2 xv' yv' rx ry I2 D o st=>?_
     refine Calls.spliced_nil ?_
     refine kws_cons ?_
     subst hqq
     refine lam_eval2 (c:=c) (P:=P) I2 hP hcode (codeHd_of_K I2.mod.kin C) B hdef hcl fun f c' pm ctv H3 s3 k hsz old hf hcc sn ls3 I3=>?_
     refine kws_nil ?_
     obtain⟨ps,hP,_⟩:=hP
     have hPg:s2.heap.get? P=some (tabObj ps):=I2.hok P _ hP
     have nO:∀a ∈ [z,TO,i1,i2],a≠P:=fun a ha w=>by have:=(o a ha).1.free;rw[w,hP] at this;cases this
     have nX:∀(a:Addr)(u:Obj),s2.heap.get? a=some u→u.cls ≠ .none→a≠P:=fun a u e n w=>by rw[w,hPg] at e;cases e;exact n rfl
     obtain⟨a1,a2,a3,a4,a5,a6⟩:=st
     obtain⟨b1,ba,bb,b2⟩:IsZip s2.heap z TI TO .none∧∃a b,IsPair s2.heap TO a b:=by
      rcases a6 with⟨_,w⟩|⟨w,_⟩
      ·exact w
      ·exact absurd w (lt_irrefl _)
     have st3:ZSt z TI TO i1 i2 l1 l2 xv'.toArray yv'.toArray 0 s3:=by
      refine⟨k _ _ (nX _ _ a1 (by intro w;cases w)) a1,a2.at fun u e=>k _ u (nO _ (by simp)) e,a3.at fun u e=>k _ u (nO _ (by simp)) e,a4.at fun u e=>k _ u ?_ e,a5.at fun u e=>k _ u ?_ e,.inl ⟨rfl,k _ _ (nO _ (by simp)) b1,ba,bb,k _ _ (nO _ (by simp)) b2⟩⟩
      ·obtain⟨u',e',hc,_⟩:=a4
       exact nX _ _ e' (by rw[hc];intro w;cases w)
      ·obtain⟨u',e',hc,_⟩:=a5
       exact nX _ _ e' (by rw[hc];intro w;cases w)
     have o3:∀a ∈ [z,TO,i1,i2],Own X pins H3 a∧a<s3.heap.objs.size:=fun a ha=>by
      obtain⟨oa,la⟩:=o a ha
      exact⟨⟨by rw[old a la (nO a ha)];exact oa.free,oa.loc,oa.new,oa.cell,oa.pin,oa.fs⟩,lt_of_lt_of_le la hsz⟩
     have lx:(xs.map V.int).length=xs.length:=length_map _
     have F:FnOk X.prog X.w X.K X.mg X.base CX0 1 f (kla_fn "<lambda>" (X.env.qual ++ "<lambda>") params (.Subscript (.Name y p3) (.Constant (.int 0) j p4) p5) scope [] pm (.ref c') ctv) [y] (sp_fst f c' (kla_obj "<lambda>" (X.env.qual ++ "<lambda>") params (.Subscript (.Name y p3) (.Constant (.int 0) j p4) p5) scope [] pm c' ctv) (X.env.qual ++ "<lambda>")):=by
      refine lam_ok S (fun vs H Q E h=>?_) (fun vs H Q E h=>⟨h.1,h.2.1⟩) fun A outer s H vs Q E hr h=>?_
      ·obtain⟨_,_,t,x,y',rfl,_⟩:=h
       rfl
      ·obtain⟨_,_,t,x,y',rfl,ht,hq⟩:=h
       exact⟨_,zI ix_tup (pe_var (i:=0) rfl (.inl hy) hdb hdc) zh (fun _ _=>rfl),⟨_,rfl,t,[x,y'],0,x,rfl,rfl,.inl (.inl ht),rfl,hq⟩⟩
     show wpAny (model X.prog X.w) X.A (call (.builtin "sorted") [.ref z] [(Str.ofString "key",.ref f)]) _ _ s3
     refine ziR (kz:=xs) (xv:=xs.map V.int) (yv:=yv) (q:=f) hr.hd D rx ry (by rw[lx];exact hl) (by rw[lx];exact h64) (by rw[lx];exact h0) lx.symm I3 o3 st3 (fun H4 ts s4 pr i v pins' s5 hv I5=>?_) fun s4 H4 ts l p sm pr hn hi I4=>?_
     ·rw[getElem?_map] at hv
      cases et:ts[i]? with
      | none=>rw[et] at hv;cases hv
      | some a =>
        rw[et] at hv
        cases hv
        obtain⟨⟨pa,pb⟩,ep,ha⟩:=pr.get i a et
        have epa:pa=.int (xs.getD i 0):=by
         rw[List.getElem?_zip_eq_some] at ep
         obtain⟨ep,_⟩:=ep
         rw[getElem?_map] at ep
         rw[getD_eq_getElem?_getD]
         cases ex:xs[i]? with
         | none=>rw[ex] at ep;cases ep
         | some x=>rw[ex] at ep;cases ep;rfl
        subst epa
        refine wpAny_call (codeAny_mono (F.run X.A.in1.in1 X.stack s5 H4 ⟨[.ref a],[]⟩ [.ref a] [.ref a] (fun x H'=>x=.int (xs.getD i 0)∧H'=H4) E0 hr.in1.in1 I5.env0.in1.in1 (.of_eq (hbind _ _ _ _ _ _)) (.cons rfl .nil) ⟨s4 _ _ hf,s4 _ _ hcc,a,_,_,rfl,ha,rfl,rfl⟩) fun r s6 hq=>?_)
        cases r with
        | error e=>exact hq
        | ok fl =>
          cases fl with
          | next=>exact False.elim hq
          | brk=>exact False.elim hq
          | cont=>exact False.elim hq
          | ret u =>
            obtain⟨v,H',I6,rv,rfl,rfl⟩:=I5.after hq
            obtain⟨tk,rfl⟩:=rv
            exact⟨I6,tk,rfl⟩
     ·rw[lx] at hi
      exact⟨.ref l,_,I4,rfl,q H4 ts l p (sn.trans sm.toN) (ls3.same sm) pr hn hi⟩
end
section
variable {X:Cx}
end
section
variable {X:Cx}{tg:Expr}
end
end L2
namespace L2
open PySem PySem.Spec PyProof.Rows PySem.Builtin PySem.Builtin.Str
theorem strs_of:∀{ts:List Str}{us:List Value},Vals (ts.map V.str) us→∃l:List (Str×Tok),us=strValues l∧l.map (·.1)=ts
 | [],_,h=>by cases h;exact⟨[],rfl,rfl⟩
 | x::ts,_,h=>by
   cases h with
   | cons r h =>
     obtain⟨t,rfl⟩:=r
     obtain⟨l,rfl,e⟩:=strs_of h
     exact⟨(x,t)::l,rfl,by rw[map_cons,e]⟩
theorem join_fits{z:Str}{ts:List Str}(hz:z.length≤10)(hl:ts.length≤200)(h:∀t∈ts,t.length≤2000):tooLong (ts.toArray.foldl (·+ ·.length+z.length) 0)=false:=by
 have go:∀(l:List Str)(n:Nat),(∀t∈l,t.length≤2000)→l.foldl (·+ ·.length+z.length) n≤n+2010*l.length:=by
  intro l
  induction l with
  | nil=>intro n _;simp
  | cons t l ih =>
    intro n h
    have:=ih (n+t.length+z.length) fun u hu=>h u (mem_cons_of_mem _ hu)
    have h1:=h t (mem_cons_self ..)
    rw[foldl_cons,length_cons]
    omega
 have:=go ts 0 h
 have hln:=zx
 unfold tooLong
 rw[List.foldl_toArray]
 simp only[gt_iff_lt,decide_eq_false_iff_not]
 omega
section
variable {X:Cx}
theorem zdm:wp X (.type "str") (fun xs H Q=>(∃i:Int,xs=[.int i]∧i.natAbs.log2<1920∧Q (.str (toString i)) H)∨∃y,xs=[.str y]∧Q (.str y) H):=by
 intro pins s σ H xs us Q I r h
 rcases h with⟨i,rfl,hd,q⟩|⟨y,rfl,q⟩
 ·obtain⟨u,rfl,⟨t,rfl⟩⟩:=r.one
  exact P.str_of_int hd ⟨.str _,H,I.tok _,⟨_,rfl⟩,q⟩
 ·obtain⟨u,rfl,⟨t,rfl⟩⟩:=r.one
  exact P.str_of_str ⟨.str _,H,I,⟨_,rfl⟩,q⟩
def rJoin(K:Frag):V→List V→Hp→VK→Prop:=fun x xs H Q=>∃(z:Str)(a:Addr)(ts:List Str),x=.str z∧xs=[.ref a]∧SqL K H a (ts.map V.str)∧z.length≤10∧ts.length≤200∧(∀t∈ts,t.length≤2000)∧Q (.str (Txt.join z ts)) H
theorem ms_join:MtR X "str.join" (rJoin X.K):=by
 intro pins s σ H x xs v us Q I rx rv h
 obtain⟨z,a,ts,rfl,rfl,hq,h1,h2,h3,q⟩:=h
 obtain⟨t,rfl⟩:=rx
 obtain⟨u,rfl,ru⟩:=rv.one
 cases ru
 obtain⟨its,rr,p,_⟩:=I.list hq
 obtain⟨l,rfl,rfl⟩:=strs_of rr
 have hf:=join_fits h1 h2 h3
 exact call_meets F.slot_str_join (typeIs_str _ _ _) F.entry_str_join (F.args_str_join_2 _ _) (meets_str_join_list z t a l hf) ⟨p.isList,post_join l ⟨joinFit_length hf,fun t' k=>⟨.str _,H,I.tok _,⟨_,rfl⟩,q⟩⟩⟩
end
def tN(n:Int):Str:=Str.ofString (toString n)
theorem zd2{i:Int}(h:i.natAbs≤100000):i.natAbs.log2<1920:=by
 by_cases h0:i.natAbs=0
 ·rw[h0];decide
 ·have:i.natAbs.log2<17:=(Nat.log2_lt h0).mpr (by omega)
  omega
section
variable {X:Cx}
theorem zcf:OpR X (binaryOp .Mult) (fun x y H Q=>∃i n,x=.str i∧y=.int n∧MulOk i n∧Q (.str (PySem.Txt.mul i n)) H):=by
 intro pins s σ H x y v u Q I rx ry h
 obtain⟨i,n,rfl,rfl,hz,q⟩:=h
 obtain⟨t,rfl⟩:=rx
 obtain⟨t',rfl⟩:=ry
 exact SB.mul hz (fun t' tk=>⟨.str (PySem.Txt.mul i n),H,I.tok _,⟨_,rfl⟩,q⟩)
end
theorem zhx(x:Str):MulOk x 1:=⟨by decide,fun _ h=>absurd h (by simp),fun _ h=>absurd h (by simp)⟩
theorem zaS(x:Str):MulOk x 0:=⟨by decide,fun h=>absurd (by decide) h,fun h=>absurd (by decide) h⟩
inductive IntEs:List Expr→List Int→Prop
 | nil:IntEs [] []
 | cons {x:Int} {k:Nat} {p:Pos} {es:List Expr} {xs:List Int} (h:IntEs es xs):IntEs (.Constant (.int x) k p::es) (x::xs)
def tIntsW(xs:List Int):TA:=fun _ H Q=>Q (xs.map V.int) H
theorem pa_intsW{X:Cx}{es:List Expr}{xs:List Int}(h:IntEs es xs):PA X es (tIntsW xs):=by
 induction h with
 | nil=>exact zc
 | @cons x k p es xs h ih=>exact(za zh ih:PA X (.Constant (.int x) k p::es) (tCons (tC (.int x)) (tIntsW xs)))
def tLstI(xs:List Int):TE:=fun _ H Q=>xs.length≤sizeLine∧∀p,H p=none→Q (.ref p) (upd H p (.lst (xs.map V.int)))
theorem pe_lstI{X:Cx}{es:List Expr}{xs:List Int}{pos:Pos}(h:IntEs es xs):PE X (.List es pos) (tLstI xs):=by
 intro pins s σ H Q I q
 refine yT (pa_intsW h) pins s σ H Q I ?_
 exact⟨by rw[length_map];exact q.1,q.2⟩
def zfh:List Expr→Option (List Int)
 | []=>some []
 | .Constant (.int x) _ _::es=>match zfh es with
   | some xs=>some (x::xs)
   | none=>none
 | _=>none
theorem zgq:∀{es:List Expr}{xs:List Int},zfh es=some xs→IntEs es xs
 | [],xs,h=>by
   cases h
   exact .nil
 | e::es,xs,h=>by
   unfold zfh at h
   split at h
   ·rename_i e' ;cases e'
   ·rename_i x k p es' e'
    cases e'
    split at h
    ·rename_i ys hy
     cases h
     exact .cons (zgq hy)
    ·cases h
   ·cases h
theorem pe_lstJ{X:Cx}{es:List Expr}{xs:List Int}{pos:Pos}(h:zfh es=some xs):PE X (.List es pos) (tLstI xs):=pe_lstI (zgq h)
theorem pss_pick{X:Cx}{i:Nat}{x:Str}{es:List Expr}{xs:List Int}{b:Expr}{tb:TE}{pos pos' p1 p2:Pos}{za3:List Stmt}{u:TS}(hN:X.N.Nodup)(hi:X.N[i]? = some x)(hx:Loc X.env.scope x)(h:zfh es=some xs)(hb:PE X b tb)(hs:PlainIx b)(hf:X.fn x=true∨X.env.scope.names.lookup x=some .local)(hr:PSs X za3 u):
 PSs X (.Assign [.Name x pos'] (.Subscript (.List es p1) b p2) pos::za3) (tSeq (tAsg (tOp (rIxL X.K) (tLstI xs) tb) (zem i)) u):=ze (zy hN hi hx (zI zz (pe_lstJ h) hb hs) rfl hf) hr
section
variable {κ:Type} [DecidableEq κ]
def zar(kvs:List (κ×V))(k:κ):Option V:=(kvs.find? fun kv=>decide (kv.1=k)).map (·.2)
def zbM(kvs:List (κ×V))(k:κ)(v:V):List (κ×V) :=
 if(kvs.any fun kv=>decide (kv.1=k))=true then kvs.map (fun kv=>if kv.1=k then(kv.1,v)else kv)else kvs++[(k,v)]
theorem wn{p:κ×V}{r:List (κ×V)}{k:κ}(e:p.1=k):zar (p::r) k=some p.2:=by simp[zar,find?_cons,e]
theorem wq{p:κ×V}{r:List (κ×V)}{k:κ}(e:¬p.1=k):zar (p::r) k=zar r k:=by simp[zar,find?_cons,e]
theorem zcq(k:κ):∀kvs:List (κ×V),(kvs.any fun kv=>decide (kv.1=k))=(zar kvs k).isSome
 | []=>rfl
 | p::r=>by
   rw[any_cons]
   by_cases e:p.1=k
   ·simp only[wn e,decide_eq_true e,Bool.true_or,Option.isSome_some]
   ·rw[wq e,decide_eq_false e,Bool.false_or];exact zcq k r
theorem zhS(k j:κ)(y:V):∀kvs:List (κ×V),zar (kvs.map fun kv=>if kv.1=k then(kv.1,y)else kv) j=(zar kvs j).map fun x=>if j=k then y else x
 | []=>rfl
 | p::r=>by
   have ih:=zhS k j y r
   rw[map_cons]
   by_cases h:p.1=k
   ·rw[if_pos h]
    by_cases e:p.1=j
    ·rw[wn (p:=(p.1,y)) e,wn e,Option.map_some,if_pos (e.symm.trans h)]
    ·rw[wq (p:=(p.1,y)) e,wq e,ih]
   ·rw[if_neg h]
    by_cases e:p.1=j
    ·rw[wn (p:=p) e,wn e,Option.map_some,if_neg (fun z=>h (e.trans z))]
    ·rw[wq (p:=p) e,wq e,ih]
theorem zgD(k j:κ)(y:V):∀kvs:List (κ×V),zar kvs k=none→zar (kvs++[(k,y)]) j=if j=k then some y else zar kvs j
 | [],_=>by
   by_cases e:k=j
   ·rw[if_pos e.symm];exact wn (p:=(k,y)) e
   ·rw[if_neg (fun z=>e z.symm)];exact wq (p:=(k,y)) e
 | p::r,hn=>by
   rw[cons_append]
   have hk:¬p.1=k:=fun z=>by rw[wn z] at hn;cases hn
   rw[wq hk] at hn
   have ih:=zgD k j y r hn
   by_cases e:p.1=j
   ·rw[wn e,wn e,if_neg (fun z=>hk (e.trans z))]
   ·rw[wq e,wq e,ih]
theorem zdq(kvs:List (κ×V))(k j:κ)(y:V):zar (zbM kvs k y) j=if j=k then some y else zar kvs j:=by
 unfold zbM
 by_cases a:(kvs.any fun kv=>decide (kv.1=k))=true
 ·rw[if_pos a,zhS]
  rw[zcq] at a
  by_cases e:j=k
  ·obtain⟨x,hx⟩:=Option.isSome_iff_exists.mp a
   rw[if_pos e,e,hx,Option.map_some,if_pos rfl]
  ·rw[if_neg e]
   cases zar kvs j with
   | none=>rfl
   | some x=>rw[Option.map_some,if_neg e]
 ·rw[if_neg a]
  refine zgD k j y kvs ?_
  rw[zcq] at a
  cases q:zar kvs k with
  | none=>rfl
  | some x=>rw[q] at a;exact(a rfl).elim
theorem zcG(kvs:List (κ×V))(k:κ)(v:V):(zbM kvs k v).length≤kvs.length+1:=by
 unfold zbM
 split
 ·rw[length_map];omega
 ·rw[length_append,length_cons,length_nil];omega
theorem RelO.isSome_eq{o:Option V}{u:Option Value}(r:RelO o u):o.isSome=u.isSome:=by
 cases o with
 | none=>cases u with
   | none=>rfl
   | some _=>exact(show False from r).elim
 | some _=>cases u with
   | none=>exact(show False from r).elim
   | some _=>rfl
theorem KV.val{kvs:List (κ×V)}{vs:List (κ×Value)}(r:KV kvs vs)(k:κ):RelO (zar kvs k) (valueAt vs k):=by
 unfold KV at r
 induction r with
 | nil=>exact True.intro
 | @cons p q ps qs h t ih =>
   obtain⟨h1,h2⟩:=h
   by_cases e:p.1=k
   ·have e':q.1=k:=h1.symm.trans e
    have b:valueAt (q::qs) k=some q.2:=by simp[valueAt,find?_cons,e']
    rw[wn e,b];exact h2
   ·have e':¬q.1=k:=fun z=>e (h1.trans z)
    have b:valueAt (q::qs) k=valueAt qs k:=by simp[valueAt,find?_cons,e']
    rw[wq e,b];exact ih
theorem KV.any{kvs:List (κ×V)}{vs:List (κ×Value)}(r:KV kvs vs)(k:κ):(kvs.any fun kv=>decide (kv.1=k))=vs.any fun kv=>decide (kv.1=k):=by
 unfold KV at r
 induction r with
 | nil=>rfl
 | cons h t ih=>rw[any_cons,any_cons,ih,h.1]
theorem KV.repl{kvs:List (κ×V)}{vs:List (κ×Value)}(r:KV kvs vs)(k:κ){y:V}{u:Value}(ry:RelV y u):
 KV (kvs.map fun kv=>if kv.1=k then(kv.1,y)else kv) (vs.map fun kv=>if kv.1=k then(kv.1,u)else kv):=by
 unfold KV at r ⊢
 induction r with
 | nil=>exact .nil
 | @cons p q ps qs h t ih =>
   rw[map_cons,map_cons]
   refine .cons ?_ ih
   obtain⟨h1,h2⟩:=h
   by_cases e:p.1=k
   ·rw[if_pos e,if_pos (h1.symm.trans e)];exact⟨h1,ry⟩
   ·rw[if_neg e,if_neg (fun z=>e (h1.trans z))];exact⟨h1,h2⟩
theorem KV.put{kvs:List (κ×V)}{vs:List (κ×Value)}(r:KV kvs vs)(k:κ){y:V}{u:Value}(ry:RelV y u):KV (zbM kvs k y) (stored vs k u):=by
 unfold zbM stored
 rw[r.any k]
 by_cases e:(vs.any fun kv=>decide (kv.1=k))=true
 ·rw[if_pos e,if_pos e];exact r.repl k ry
 ·rw[if_neg e,if_neg e];exact Paired.snoc r ⟨rfl,ry⟩
theorem KV.length{kvs:List (κ×V)}{vs:List (κ×Value)}(r:KV kvs vs):kvs.length=vs.length:=Paired.length r
end
theorem zh0{P:Program}{w:World}{k:Key}{u:Value}(r:RelV (kV k) u):(wx P w).is k u=true:=by
 cases k with
 | inl i=>obtain⟨t,e⟩:=(show ∃t,u=Value.int i t from r);subst e;exact ziL P w i t
 | inr x=>obtain⟨t,e⟩:=(show ∃t,u=Value.str x t from r);subst e;exact zik P w x t
theorem zgK{P:Program}{w:World}:∀{ks:List Key}{us:List Value},Vals (ks.map kV) us→ItemsAre (wx P w) ks us
 | [],_,r=>by rw[map_nil] at r;cases r;exact .nil
 | k::ks,_,r=>by
   rw[map_cons] at r
   cases r with
   | cons h t=>exact .cons (zh0 h) (zgK t)
abbrev KT(H:Hp):List (List Key×V)→List (List Key×Addr×Value)→Prop:=Paired fun p q=>p.1=q.1∧H q.2.1=some (.tup (p.1.map kV))∧RelV p.2 q.2.2
theorem KT.val{H:Hp}{kvs:List (List Key×V)}{xs:List (List Key×Addr×Value)}(r:KT H kvs xs)(k:List Key):RelO (zar kvs k) ((atKey xs k).map (·.2)):=by
 induction r with
 | nil=>exact True.intro
 | @cons p q ps qs h t ih =>
   obtain⟨h1,_,h2⟩:=h
   by_cases e:p.1=k
   ·have e':q.1=k:=h1.symm.trans e
    have b:atKey (q::qs) k=some q.2:=by simp[atKey,find?_cons,e']
    rw[wn e,b];exact h2
   ·have e':¬q.1=k:=fun z=>e (h1.trans z)
    have b:atKey (q::qs) k=atKey qs k:=by simp[atKey,find?_cons,e']
    rw[wq e,b];exact ih
theorem KT.repl{H:Hp}{kvs:List (List Key×V)}{xs:List (List Key×Addr×Value)}(r:KT H kvs xs)(k:List Key){y:V}{u:Value}(ry:RelV y u):
 KT H (kvs.map fun kv=>if kv.1=k then(kv.1,y)else kv) (xs.map (putAt k u)):=by
 induction r with
 | nil=>exact .nil
 | @cons p q ps qs h t ih =>
   rw[map_cons,map_cons]
   refine .cons ?_ ih
   obtain⟨h1,h2,h3⟩:=h
   unfold putAt
   by_cases e:p.1=k
   ·rw[if_pos e,if_pos (h1.symm.trans e)];exact⟨h1,h2,ry⟩
   ·rw[if_neg e,if_neg (fun z=>e (h1.trans z))];exact⟨h1,h2,h3⟩
theorem KT.put{H:Hp}{kvs:List (List Key×V)}{xs:List (List Key×Addr×Value)}(r:KT H kvs xs)(k:List Key){b:Addr}{y:V}{u:Value}(hb:H b=some (.tup (k.map kV)))(ry:RelV y u):
 KT H (zbM kvs k y) (storedH xs k b u):=by
 have e:(kvs.any fun kv=>decide (kv.1=k))=(atKey xs k).isSome:=by
  rw[zcq,(r.val k).isSome_eq,Option.isSome_map]
 unfold zbM storedH
 rw[e]
 by_cases q:(atKey xs k).isSome=true
 ·rw[if_pos q,if_pos q];exact r.repl k ry
 ·rw[if_neg q,if_neg q];exact Paired.snoc r ⟨rfl,hb,ry⟩
theorem KT.keeps{H H':Hp}{kvs:List (List Key×V)}{xs:List (List Key×Addr×Value)}(r:KT H kvs xs)(ht:∀b ys,H b=some (.tup ys)→H' b=some (.tup ys)):KT H' kvs xs :=
 Paired.mapP r fun _ _ z=>⟨z.1,ht _ _ z.2.1,z.2.2⟩
section
variable {P:Program}{w:World}{H:Hp}{h:Heap}{a:Addr}
theorem rd_of{u:HO}(ok:HOk P w H h)(e:Rd H a u):ObjOk P w H h a u:=e.ok ok
theorem zh3{kvs:List (Key×V)}(ok:HOk P w H h)(e:Rd H a (.dK kvs)):kvs.length≤sizeLine∧(a==sysModules)=false∧∃vs,KV kvs vs∧h.DictOf (wx P w) a vs :=
 show ObjOk P w H h a (.dK kvs)from rd_of ok e
theorem dk_of{kvs:List (Key×V)}(ok:HOk P w H h)(e:H a=some (.dK kvs)):kvs.length≤sizeLine∧(a==sysModules)=false∧∃vs,KV kvs vs∧h.DictOf (wx P w) a vs:=zh3 ok (.inl e)
theorem zfH{ks:List Key}(ok:HOk P w H h)(e:H a=some (.tup (ks.map kV))):(tupleKind (wx P w)).is h ks a:=by
 obtain⟨_,its,r,o,h1,h2,n,h3⟩:=(show ObjOk P w H h a (.tup (ks.map kV))from ok a _ e)
 exact⟨o,its.toArray,n,h1,h2,h3,by simpa using zgK r⟩
theorem zhL{kvs:List (List Key×V)}(ok:HOk P w H h)(e:Rd H a (.dT kvs)):kvs.length≤sizeLine∧(a==sysModules)=false ∧
 ∃xs,KT H kvs xs∧h.DictOfH (tupleKind (wx P w)) a xs:=by
 obtain⟨z,y,xs,r,o,es,ep,h1,h2,h3,h4,h5⟩:=(show ObjOk P w H h a (.dT kvs)from rd_of ok e)
 refine⟨z,y,xs,r,o,es,ep,h1,h2,h3,h4,fun x hx=>?_,h5⟩
 have all:∀{l:List (List Key×V)} {m:List (List Key×Addr×Value)},KT H l m→∀x∈m,(tupleKind (wx P w)).is h x.1 x.2.1:=by
  intro l m q
  induction q with
  | nil=>intro x hx;exact nomatch hx
  | @cons p q ps qs hq t ih =>
    intro x hx
    rcases List.mem_cons.mp hx with e | hx
    ·subst e
     exact zfH ok (by rw[←hq.1];exact hq.2.1)
    ·exact ih x hx
 exact all r x hx
theorem dt_of{kvs:List (List Key×V)}(ok:HOk P w H h)(e:H a=some (.dT kvs)):kvs.length≤sizeLine∧(a==sysModules)=false ∧
 ∃xs,KT H kvs xs∧h.DictOfH (tupleKind (wx P w)) a xs:=zhL ok (.inl e)
end
def DGet(H:Hp)(a:Addr)(y:V)(r:Option V):Prop :=
 (∃kvs k,Rd H a (.dK kvs)∧y=kV k∧r=zar kvs k)∨∃kvs k b,Rd H a (.dT kvs)∧y=.ref b∧H b=some (.tup (k.map kV))∧r=zar kvs k
def DPut(H:Hp)(a:Addr)(y v:V)(H':Hp):Prop :=
 (∃kvs k,H a=some (.dK kvs)∧y=kV k∧kvs.length<sizeLine∧H'=upd H a (.dK (zbM kvs k v))) ∨
 ∃kvs k b,H a=some (.dT kvs)∧y=.ref b∧H b=some (.tup (k.map kV))∧kvs.length<sizeLine∧H'=upd H a (.dT (zbM kvs k v))
theorem DGet.k{H:Hp}{a:Addr}{kvs:List (Key×V)}{k:Key}(e:H a=some (.dK kvs)):DGet H a (kV k) (zar kvs k):=.inl ⟨kvs,k,.inl e,rfl,rfl⟩
theorem DPut.k{H:Hp}{a:Addr}{kvs:List (Key×V)}{k:Key}{v:V}(e:H a=some (.dK kvs))(hl:kvs.length<sizeLine):DPut H a (kV k) v (upd H a (.dK (zbM kvs k v))):=.inl ⟨kvs,k,e,rfl,hl,rfl⟩
section
variable {X:Cx}{pins:List (Addr×Obj)}{σ:St}{H:Hp}{s:Shared}{a:Addr}{y v:V}{u r:Value}{o:Option V}{A:Around}{E:Value→Shared→Prop}
theorem Inv.big(I:Inv X pins σ H s):sysModules<s.heap.objs.size:=by
 have h:mainGlobals<s.heap.objs.size:=(I.mod.glob.keeps I.bk).lt
 exact lt_trans (by decide) h
theorem d_getItem{Q:Value→Shared→Prop}(hu:A.units+1<cLine)(I:Inv X pins σ H s)(g:DGet H a y (some v))(ry:RelV y u)(h:∀w' s',Inv X pins σ H s'→RelV v w'→Q w' s'):
 wpAny (model X.prog X.w) A (getItem (.ref a) u) Q E s:=by
 rcases g with⟨kvs,k,e,ey,l⟩|⟨kvs,k,b,e,ey,eb,l⟩
 ·subst ey
  obtain⟨z,hd,vs,rel,dd⟩:=zh3 I.hok e
  obtain⟨w',hw,rw'⟩:=RelO.some_of (v:=v) (o:=valueAt vs k) (by rw[l];exact rel.val k)
  exact wpAny_getItem_of (zh0 ry) dd.mapOf hw (h w' _ (I.tok _) rw')
 ·subst ey
  cases (show u=Value.ref b from ry)
  obtain⟨z,hd,xs,rel,dd⟩:=zhL I.hok e
  obtain⟨w',hw,rw'⟩:=RelO.some_of (v:=v) (o:=(atKey xs k).map (·.2)) (by rw[l];exact rel.val k)
  obtain⟨p,hp,hp2⟩:=Option.map_eq_some_iff.mp hw
  refine wpAny_getItem_heap (tupleKind_room_in1 hu) (zfH I.hok eb) dd hp ?_
  rw[hp2]
  exact h w' _ (I.tok _) rw'
theorem d_in{Q:Value→Shared→Prop}(hu:A.units+1<cLine)(I:Inv X pins σ H s)(g:DGet H a y o)(ry:RelV y u)(h:∀s',Inv X pins σ H s'→Q (.bool o.isSome) s'):
 wpAny (model X.prog X.w) A (compareOp .In u (.ref a)) Q E s:=by
 rcases g with⟨kvs,k,e,ey,l⟩|⟨kvs,k,b,e,ey,eb,l⟩
 ·subst ey
  obtain⟨z,hd,vs,rel,dd⟩:=zh3 I.hok e
  refine wpAny_in_of (zh0 ry) hd dd.mapOf ?_
  rw[←(rel.val k).isSome_eq,←l]
  exact h _ (I.tok _)
 ·subst ey
  cases (show u=Value.ref b from ry)
  obtain⟨z,hd,xs,rel,dd⟩:=zhL I.hok e
  refine wpAny_in_heap (tupleKind_room_in1 hu) (zfH I.hok eb) hd dd ?_
  have q:=(rel.val k).isSome_eq
  rw[Option.isSome_map] at q
  rw[←q,←l]
  exact h _ (I.tok _)
theorem d_notIn{Q:Value→Shared→Prop}(hu:A.units+1<cLine)(I:Inv X pins σ H s)(g:DGet H a y o)(ry:RelV y u)(h:∀s',Inv X pins σ H s'→Q (.bool (!o.isSome)) s'):
 wpAny (model X.prog X.w) A (compareOp .NotIn u (.ref a)) Q E s:=by
 rcases g with⟨kvs,k,e,ey,l⟩|⟨kvs,k,b,e,ey,eb,l⟩
 ·subst ey
  obtain⟨z,hd,vs,rel,dd⟩:=zh3 I.hok e
  refine wpAny_notIn_of (zh0 ry) hd dd.mapOf ?_
  rw[←(rel.val k).isSome_eq,←l]
  exact h _ (I.tok _)
 ·subst ey
  cases (show u=Value.ref b from ry)
  obtain⟨z,hd,xs,rel,dd⟩:=zhL I.hok e
  refine wpAny_notIn_heap (tupleKind_room_in1 hu) (zfH I.hok eb) hd dd ?_
  have q:=(rel.val k).isSome_eq
  rw[Option.isSome_map] at q
  rw[←q,←l]
  exact h _ (I.tok _)
theorem d_write{h':Heap}{t':Nat}{ob:HO}(I:Inv X pins σ H s)(mu:Mut (H a))(hs:SameBut a s.heap h')(he:∃q,h'.get? a=some q)(new:ObjOk X.prog X.w (upd H a ob) h' a ob):
 Inv X pins σ (upd H a ob) { s with heap:=h',toks:=t' } :=
 I.write (x:=a) (e:=a) mu (.inl rfl) (fun b q hb z=>(hs.2 b hb).trans z) he new
theorem dk_new{P:Program}{w:World}{H':Hp}{h':Heap}{kvs:List (Key×V)}{vs:List (Key×Value)}(z:kvs.length≤sizeLine)(hd:(a==sysModules)=false)(rel:KV kvs vs)(dd:h'.DictOf (wx P w) a vs):
 ObjOk P w H' h' a (.dK kvs):=⟨z,hd,vs,rel,dd⟩
theorem d_setItem{H':Hp}{Q:Unit→Shared→Prop}(hu:A.units+1<cLine)(I:Inv X pins σ H s)(g:DPut H a y v H')(ry:RelV y u)(rv:RelV v r)(h:∀s',Inv X pins σ H' s'→Q () s'):
 wpAny (model X.prog X.w) A (setItem (.ref a) u r) Q E s:=by
 rcases g with⟨kvs,k,e,ey,l,eH⟩|⟨kvs,k,b,e,ey,eb,l,eH⟩
 ·subst ey eH
  obtain⟨z,hd,vs,rel,dd⟩:=dk_of I.hok e
  have hz:vs.length≤sizeLine:=by rw[←rel.length];exact z
  have hl:(zbM kvs k v).length≤sizeLine:=by have:=zcG kvs k v;omega
  refine wpAny_setItem_pairs (hsz:=hz) (zh0 ry) dd fun h' dd' hs=>h _ ?_
  have he:∃q,h'.get? a=some q:=let ⟨q,_,_,hq,_⟩:=dd';⟨q,hq⟩
  exact d_write I (by rw[e];exact True.intro) hs he (dk_new hl hd (rel.put k rv) dd')
 ·subst ey eH
  cases (show u=Value.ref b from ry)
  obtain⟨z,hd,xs,rel,dd⟩:=dt_of I.hok e
  have hz:xs.length≤sizeLine:=by rw[←Paired.length rel];exact z
  have hl:(zbM kvs k v).length≤sizeLine:=by have:=zcG kvs k v;omega
  refine wpAny_setItem_heap (hsz:=hz) (tupleKind_room_in1 hu) (zfH I.hok eb) dd fun h' dd' hs=>h _ ?_
  obtain⟨q,es,ep,hq,h2,h3,h4,_,h5⟩:=dd'
  refine d_write I (by rw[e];exact True.intro) hs ⟨q,hq⟩ ⟨hl,hd,_,(rel.put k eb rv).keeps fun c ys ec=>?_,q,es,ep,hq,h2,h3,h4,h5⟩
  rw[zg (zD ec e (fun z=>nomatch z))]
  exact ec
end
section
variable {X:Cx}{pins:List (Addr×Obj)}{σ:St}{H:Hp}{s:Shared}{a:Addr}{kvs:List (Key×V)}{k:Key}{u:Value}{A:Around}{E:Value→Shared→Prop}
end
def NoSl(i:Expr):Prop:=∀ov iv,subscripted i false ov iv=operate [ov,iv] (getItem ov iv)
theorem subD_of{prog:Program}{w:World}{A:Around}{E:Value→Shared→Prop}{s:Shared}{env:Env}{value slice:Expr}{pos:Pos}{T id:String}{Q:Value→Shared→Prop}
 (hl:typeLookup (.type T) "__getitem__"=pure (some (.builtin id))) (hs:NoSl slice)
 (h:wpAny (model prog w) A (eval value env) (fun o s₁=>wpAny (model prog w) A (eval slice env) (fun i s₂=>s₂.TypeIs o T∧wpAny (model prog w) A (getItem o i) Q E s₂) E s₁) E s) :
 wpAny (model prog w) A (eval (.Subscript value slice pos) env) Q E s:=by
 refine Subscript_ (wpAny_mono h (fun o s₁ h₁=>wpAny_mono h₁ (fun i s₂ h₂=>?_) fun _ _ x=>x) fun _ _ x=>x)
 obtain⟨hT,h₂⟩:=h₂
 unfold subscriptTail
 refine wpAny_bind ?_
 rw[getitemInPython_of_ne hT.not_modules]
 refine wpAny_bind (wpAny_specialOf hT hl ?_)
 have fin:wpAny (model prog w) A (subscripted slice false o i) (fun r s₃=>wpAny (model prog w) A (letTemporaryGo value o r >>= fun _=>pure r) Q E s₃) E s₂:=by
  rw[hs o i]
  exact wpAny_operating (wpAny_mono h₂ (fun r s₃ h₃=>wpAny_bind (wpAny_letTemporaryGo (wpAny_pure h₃))) fun _ _ x=>x)
 first
  | exact wpAny_pure (wpAny_bind fin)
  | exact wpAny_bind (wpAny_pure (wpAny_bind fin))
  | exact wpAny_bind fin
theorem ziK{X:Cx}{pins:List (Addr×Obj)}{σ:St}{H:Hp}{s:Shared}{a:Addr}{y:V}{o:Option V}(I:Inv X pins σ H s)(g:DGet H a y o):s.TypeIs (.ref a) "dict":=by
 rcases g with⟨kvs,k,e,_,_⟩|⟨kvs,k,b,e,_,_,_⟩
 ·obtain⟨_,_,vs,_,dd⟩:=zh3 I.hok e
  exact dd.typeIs
 ·obtain⟨_,_,xs,_,dd⟩:=zhL I.hok e
  exact dd.typeIs
def tDGet(td ty:TE):TE:=fun σ H Q=>td σ H fun x H1=>ty σ H1 fun y H2=>∃a v,x=.ref a∧DGet H2 a y (some v)∧Q v H2
def tDIn(ty td:TE):TE:=fun σ H Q=>ty σ H fun y H1=>td σ H1 fun x H2=>∃a o,x=.ref a∧DGet H2 a y o∧Q (.bl o.isSome) H2
def tDNotIn(ty td:TE):TE:=fun σ H Q=>ty σ H fun y H1=>td σ H1 fun x H2=>∃a o,x=.ref a∧DGet H2 a y o∧Q (.bl (!o.isSome)) H2
def sDPut(td ty tv:TE):TS:=fun D σ H=>tv σ H fun v H1=>td σ H1 fun x H2=>ty σ H2 fun y H3=>∃a H4,x=.ref a∧DPut H3 a y v H4∧D.nx σ H4
section
variable {X:Cx}{o i e value:Expr}{pos pos' tpos:Pos}{td ty tv:TE}
theorem pe_dget(hu:X.A.units+1<cLine)(ho:PE X o td)(hi:PE X i ty)(hs:NoSl i):PE X (.Subscript o i pos) (tDGet td ty):=by
 intro pins s σ H Q I h
 refine subD_of PySem.F.slot_dict_getitem.lookup hs (thn (ho pins s σ H _ I h) fun u s1 ⟨x,H1,I1,rx,q1⟩=>thn (hi pins s1 σ H1 _ I1 q1) fun iv s2 ⟨y,H2,I2,ry,a,v,ex,g,q2⟩=>?_)
 subst ex
 obtain rfl:u=Value.ref a:=rx
 exact⟨ziK I2 g,d_getItem hu I2 g ry fun w' s3 I3 rw'=>⟨v,H2,I3,rw',q2⟩⟩
theorem pc_din(hu:X.A.units+1<cLine)(hi:PE X i ty)(ho:PE X o td):PC X .In i o (tDIn ty td):=by
 intro pins s σ H Q I h
 refine thn (hi pins s σ H _ I h) fun iv s1 ⟨y,H1,I1,ry,q1⟩=>thn (ho pins s1 σ H1 _ I1 q1) fun u s2 ⟨x,H2,I2,rx,a,ov,ex,g,q2⟩=>?_
 subst ex
 obtain rfl:u=Value.ref a:=rx
 exact d_in hu I2 g ry fun s3 I3=>⟨.bl ov.isSome,H2,I3,rfl,q2⟩
theorem pc_dnotin(hu:X.A.units+1<cLine)(hi:PE X i ty)(ho:PE X o td):PC X .NotIn i o (tDNotIn ty td):=by
 intro pins s σ H Q I h
 refine thn (hi pins s σ H _ I h) fun iv s1 ⟨y,H1,I1,ry,q1⟩=>thn (ho pins s1 σ H1 _ I1 q1) fun u s2 ⟨x,H2,I2,rx,a,ov,ex,g,q2⟩=>?_
 subst ex
 obtain rfl:u=Value.ref a:=rx
 exact d_notIn hu I2 g ry fun s3 I3=>⟨.bl (!ov.isSome),H2,I3,rfl,q2⟩
theorem ps_dput(hu:X.A.units+1<cLine)(ho:PE X o td)(hi:PE X i ty)(hv:PE X value tv)(hs:swapsWith value (some (.Subscript o i pos')) pos.line X.env=pure false):
 PS X (.Assign [.Subscript o i pos'] value pos) (sDPut td ty tv):=by
 intro pins s σ H D I h
 refine wpAny_Assign_Subscript (thn (hv pins s σ H _ I h) fun r s1 ⟨v,H1,I1,rv,q1⟩=>thn (ho pins s1 σ H1 _ I1 q1) fun u s2 ⟨x,H2,I2,rx,q2⟩=>thn (hi pins s2 σ H2 _ I2 q2) fun iv s3 ⟨y,H3,I3,ry,a,H4,ex,g,q3⟩=>?_) hs
 subst ex
 obtain rfl:u=Value.ref a:=rx
 exact d_setItem hu I3 g ry rv fun s4 I4=>⟨σ,H4,I4,q3⟩
end
theorem dk_empty{P:Program}{w:World}{H:Hp}(h:Heap)(hb:sysModules<h.objs.size):ObjOk P w H (h.push { cls:=.type "dict",data:=.dict #[] }) h.objs.size (.dK []) :=
 ⟨zero_le _,beq_eq_false_iff_ne.mpr (Ne.symm (ne_of_lt hb)),[],.nil,Heap.DictOf.new h⟩
def tDNewK:TE:=fun _ H Q=>∀p,H p=none→Q (.ref p) (upd H p (.dK []))
section
variable {X:Cx}{pos:Pos}
theorem pe_dnewK:PE X (.Dict [] [] pos) tDNewK:=fun pins s σ H Q I h =>
 wpAny_Dict_empty ⟨.ref s.heap.objs.size,_,I.laid (a:=s.heap.objs.size) (o:=.dK []) (t':=s.toks) (fun _ _ q=>get?_push_of_some _ q) (le_refl _) (dk_empty s.heap I.big),rfl,h _ (I.hok.fresh (le_refl _))⟩
end
structure M1 (X:Cx) (o:Expr) (m:Str) (apos:Pos) (e:Expr) (cpos:Pos):Prop where
 base:attributeBase o m X.env (eval o X.env)=eval o X.env
 few:((backTo cpos (starEach [e] X.env)).all (fun x => !x.1) && (backToKw cpos (keywordEach [] X.env)).all (fun x=>x.1.isSome)
  && decide (([e]:List Expr).length+([]:List Keyword).length+(if([]:List Keyword).isEmpty then 0 else 1)<30))=true
 line:(apos.endLine==cpos.line)=true
 trees:backTo cpos (starEach [e] X.env)=[(false,eval e X.env)]
structure M2 (X:Cx) (o:Expr) (m:Str) (apos:Pos) (e f:Expr) (cpos:Pos):Prop where
 base:attributeBase o m X.env (eval o X.env)=eval o X.env
 few:((backTo cpos (starEach [e,f] X.env)).all (fun x => !x.1) && (backToKw cpos (keywordEach [] X.env)).all (fun x=>x.1.isSome)
  && decide (([e,f]:List Expr).length+([]:List Keyword).length+(if([]:List Keyword).isEmpty then 0 else 1)<30))=true
 line:(apos.endLine==cpos.line)=true
 trees:backTo cpos (starEach [e,f] X.env)=[(false,eval e X.env),(false,eval f X.env)]
section
variable {X:Cx}{pins:List (Addr×Obj)}{σ:St}{H:Hp}{s:Shared}{a:Addr}{y d:V}{u r:Value}{o:Option V}{A:Around}{E:Value→Shared→Prop}
end
section
variable {X:Cx}{o e f:Expr}{apos cpos:Pos}{td ty tx:TE}
end
section
variable {X:Cx}{pins:List (Addr×Obj)}{σ:St}{H:Hp}{s:Shared}{a:Addr}{kvs:List (Key×V)}{A:Around}{E:Value→Shared→Prop}
end
section
variable {X:Cx}{pins:List (Addr×Obj)}{σ:St}{H:Hp}{s:Shared}{a:Addr}{y:V}{u:Value}{A:Around}{E:Value→Shared→Prop}
end
section
variable {X:Cx}
end
section
variable {κ:Type} [DecidableEq κ]
end
end L2
namespace M1
def gap(c:Int):Int:=[1,7,500,998].getD (c%4).toNat 1
def couples(c:Int)(m:Nat):List Int:=(List.range m).map fun(k:Nat)=>(c/4+(k:Int)*gap c)%999+1
theorem zek(c:Int)(m:Nat):(couples c m).length=m:=by unfold couples;simp
theorem zgT(c:Int)(m:Nat):couples c (m+1)=couples c m++[(c/4+(m:Int)*gap c)%999+1]:=by unfold couples;rw[range_succ,map_append];rfl
theorem zf7{c:Int}{m:Nat}{x:Int}(h:x∈couples c m):1≤x∧x≤999:=by
 obtain⟨k,_,rfl⟩:=List.mem_map.mp h
 have h1:=Int.emod_nonneg (c/4+(k:Int)*gap c) (show(999:Int)≠0 by decide)
 have h2:=Int.emod_lt_of_pos (c/4+(k:Int)*gap c) (show(0:Int)<999 by decide)
 omega
theorem gap_cases(c:Int):gap c=1∨gap c=7∨gap c=500∨gap c=998:=by
 have h:c%4=0∨c%4=1∨c%4=2∨c%4=3:=by omega
 unfold gap
 rcases h with h | h | h | h <;> rw[h]
 ·exact .inl rfl
 ·exact .inr (.inl rfl)
 ·exact .inr (.inr (.inl rfl))
 ·exact .inr (.inr (.inr rfl))
theorem zf6{c:Int}{m:Nat}(hm:m≤999):(couples c m).Nodup:=by
 unfold couples
 refine List.pairwise_map.mpr (List.Pairwise.imp_of_mem (fun {i j} hi hj hlt e=>?_) (pairwise_lt_range (n:=m)))
 have hi:=List.mem_range.mp hi
 have hj:=List.mem_range.mp hj
 rcases gap_cases c with g | g | g | g <;> rw[g] at e <;> omega
theorem count_one{l:List Int}(h:l.Nodup){x:Int}(hx:x∈l):l.count x=1:=by
 have h1:=List.nodup_iff_count.mp h x
 have h2:=List.count_pos_iff.mpr hx
 omega
theorem zej:∀{ms ns:List Int},ms.Nodup→(∀x∈ms,x∈ns)→ns.length≤ms.length→ms.Perm ns
 | [],ns,_,_,hl=>by
   have:ns=[]:=List.eq_nil_of_length_eq_zero (by simpa using hl)
   subst this
   exact List.Perm.refl _
 | x::ms,ns,hn,hs,hl=>by
   have hx:x∈ns:=hs x mem_cons_self
   rw[List.nodup_cons] at hn
   have p:=List.perm_cons_erase hx
   have ih:=zej (ms:=ms) (ns:=ns.erase x) hn.2 (fun y hy=>(List.mem_erase_of_ne (by intro e;rw[e] at hy;exact hn.1 hy)).mpr (hs y (mem_cons_of_mem _ hy))) (by
    rw[List.length_erase_of_mem hx]
    simp at hl
    omega)
   exact(ih.cons x).trans p.symm
def zcp(ns:List Int):Bool:=(decide (1≤(ns.length:Int)) && decide ((ns.length:Int)≤24)) && (decide ns.Nodup && (ns.map fun n=>decide (1≤n) && decide (n≤999)).all id)
theorem goodC_iff(ns:List Int):zcp ns=true↔(1≤ns.length∧ns.length≤24)∧ns.Nodup∧∀n∈ns,1≤n∧n≤999:=by
 unfold zcp
 simp only[Bool.and_eq_true,decide_eq_true_eq,all_map,all_eq_true,Function.comp,id]
 constructor
 ·rintro ⟨⟨h1,h2⟩,h3,h4⟩
  exact⟨⟨by omega,by omega⟩,h3,h4⟩
 ·rintro ⟨⟨h1,h2⟩,h3,h4⟩
  exact⟨⟨by omega,by omega⟩,h3,h4⟩
end M1
namespace M2
open PySem L2
def zcA(z:Str):Bool:=(decide (1≤(z.length:Int)) && decide ((z.length:Int)≤8)) && (z.cps.toList.map zcC).all id
def zdJ(ts:List Str):Bool:=(decide (1≤(ts.length:Int)) && decide ((ts.length:Int)≤15)) && (decide ts.Nodup && (ts.map zcA).all id)
theorem za8(z:Str):zcA z=true↔(1≤z.length∧z.length≤8)∧∀c∈z.cps.toList,zcC c=true:=by
 unfold zcA
 simp only[Bool.and_eq_true,decide_eq_true_eq,all_map,all_eq_true,Function.comp,id]
 constructor
 ·rintro ⟨⟨h1,h2⟩,h3⟩
  exact⟨⟨by omega,by omega⟩,h3⟩
 ·rintro ⟨⟨h1,h2⟩,h3⟩
  exact⟨⟨by omega,by omega⟩,h3⟩
theorem zgi(ts:List Str):zdJ ts=true↔(1≤ts.length∧ts.length≤15)∧ts.Nodup∧∀z∈ts,(1≤z.length∧z.length≤8)∧∀c∈z.cps.toList,zcC c=true:=by
 unfold zdJ
 simp only[Bool.and_eq_true,decide_eq_true_eq,all_map,all_eq_true,Function.comp,id,za8]
 constructor
 ·rintro ⟨⟨h1,h2⟩,h3,h4⟩
  exact⟨⟨by omega,by omega⟩,h3,h4⟩
 ·rintro ⟨⟨h1,h2⟩,h3,h4⟩
  exact⟨⟨by omega,by omega⟩,h3,h4⟩
theorem le_a(c:Nat):(!decide ((⟨#[c]⟩:Str).cps.toList<("a":Str).cps.toList))=decide (97≤c):=by
 have e:("a":Str).cps.toList=[97]:=by decide +kernel
 rw[e]
 show(!decide ([c] < [97]))=_
 by_cases h:97≤c
 ·rw[decide_eq_true h,decide_eq_false];rfl
  simp[cons_lt_cons_iff];omega
 ·rw[decide_eq_false h,decide_eq_true];rfl
  simp[cons_lt_cons_iff];omega
theorem le_z(c:Nat):(!decide (("z":Str).cps.toList<(⟨#[c]⟩:Str).cps.toList))=decide (c≤122):=by
 have e:("z":Str).cps.toList=[122]:=by decide +kernel
 rw[e]
 show(!decide ([122] < [c]))=_
 by_cases h:c≤122
 ·rw[decide_eq_true h,decide_eq_false];rfl
  simp[cons_lt_cons_iff];omega
 ·rw[decide_eq_false h,decide_eq_true];rfl
  simp[cons_lt_cons_iff];omega
end M2
namespace M10
open PySem L2 M2
end M10
namespace M3
open PySem L2
def got(ms:List Int)(n:Int):List Int:=ms.filter fun m=>decide (m≤n)
def cnt(ms:List Int)(n:Int):Nat:=(got ms n).length
def sm(ms:List Int)(n:Int):Int:=(got ms n).sum
def isF(ms:List Int)(f:Int):Prop:=ms.length<2*cnt ms f∧2*cnt ms (f-1)≤ms.length
theorem zbs{ms:List Int}{a b:Int}(h:a≤b):cnt ms a≤cnt ms b:=by
 unfold cnt got
 induction ms with
 | nil=>exact le_refl _
 | cons x ms ih =>
   rw[filter_cons,filter_cons]
   by_cases h1:x≤a
   ·rw[if_pos (decide_eq_true h1),if_pos (decide_eq_true (by omega)),length_cons,length_cons];omega
   ·rw[if_neg (by simpa using h1)]
    split
    ·rw[length_cons];omega
    ·exact ih
theorem zc7{ms:List Int}{f g:Int}(h1:isF ms f)(h2:isF ms g):f=g:=by
 unfold isF at h1 h2
 rcases Int.lt_trichotomy f g with h | h | h
 ·have:=zbs (ms:=ms) (show f≤g-1 by omega);omega
 ·exact h
 ·have:=zbs (ms:=ms) (show g≤f-1 by omega);omega
theorem zhy{ms:List Int}{n:Int}(h:∀x∈ms,n<x):cnt ms n=0:=by
 unfold cnt got
 rw[List.filter_eq_nil_iff.mpr]
 ·rfl
 ·intro x hx;have:=h x hx;simp;omega
theorem zfz{ms:List Int}{n:Int}(h:∀x∈ms,x≤n):cnt ms n=ms.length:=by
 unfold cnt got
 rw[List.filter_eq_self.mpr]
 intro x hx;have:=h x hx;simp;omega
theorem zeS(ms:List Int)(n:Int):cnt ms n≤ms.length:=length_filter_le _ _
theorem zdS{ms:List Int}{f:Int}(h:isF ms f)(lo hi:Int)(hl:∀x∈ms,lo≤x∧x≤hi):lo≤f∧f≤hi:=by
 unfold isF at h
 constructor
 ·by_cases c:lo≤f
  ·exact c
  ·have:=zhy (ms:=ms) (n:=f) fun x hx=>by have:=(hl x hx).1;omega
   omega
 ·by_cases c:f≤hi
  ·exact c
  ·have:=zfz (ms:=ms) (n:=f-1) fun x hx=>by have:=(hl x hx).2;omega
   have:=zeS ms f
   omega
theorem zdu{ms:List Int}{i:Nat}(n:Int)(hi:i<ms.length):got (ms.take (i+1)) n=if ms.getD i 0≤n then got (ms.take i) n++[ms.getD i 0] else got (ms.take i) n:=by
 unfold got
 rw[yt hi,filter_append,filter_cons]
 by_cases h:ms.getD i 0≤n
 ·rw[if_pos (decide_eq_true h),if_pos h];rfl
 ·rw[if_neg (by simpa using h),if_neg h];simp
end M3
namespace L2
open PySem
inductive All2 {α β:Type} (R:α→β→Prop):List α→List β→Prop
 | nil:All2 R [] []
 | cons {a:α} {b:β} {as:List α} {bs:List β}:R a b→All2 R as bs→All2 R (a::as) (b::bs)
namespace All2
variable {α β:Type}{R S:α→β→Prop}{as as':List α}{bs bs':List β}
theorem length(h:All2 R as bs):as.length=bs.length:=by
 induction h with
 | nil=>rfl
 | cons _ _ ih=>rw[length_cons,length_cons,ih]
theorem imp(f:∀a b,R a b→S a b)(h:All2 R as bs):All2 S as bs:=by
 induction h with
 | nil=>exact .nil
 | cons r _ ih=>exact .cons (f _ _ r) ih
theorem append(h:All2 R as bs)(h':All2 R as' bs'):All2 R (as++as') (bs++bs'):=by
 induction h with
 | nil=>exact h'
 | cons r _ ih=>exact .cons r ih
theorem snoc{a:α}{b:β}(h:All2 R as bs)(r:R a b):All2 R (as++[a]) (bs++[b]):=h.append (.cons r .nil)
theorem get(h:All2 R as bs):∀{i:Nat}{b:β},bs[i]? = some b→∃a,as[i]? = some a∧R a b:=by
 induction h with
 | nil=>intro i b e;simp at e
 | cons r _ ih =>
   intro i b e
   cases i with
   | zero=>simp only[List.getElem?_cons_zero] at e ⊢;cases e;exact⟨_,rfl,r⟩
   | succ i=>simp only[List.getElem?_cons_succ] at e ⊢;exact ih e
theorem getL(h:All2 R as bs):∀{i:Nat}{a:α},as[i]? = some a→∃b,bs[i]? = some b∧R a b:=by
 induction h with
 | nil=>intro i b e;simp at e
 | cons r _ ih =>
   intro i b e
   cases i with
   | zero=>simp only[List.getElem?_cons_zero] at e ⊢;cases e;exact⟨_,rfl,r⟩
   | succ i=>simp only[List.getElem?_cons_succ] at e ⊢;exact ih e
end All2
def Refs{α:Type}(K:Frag)(R:Hp→Addr→α→Prop)(H:Hp)(a:Addr)(xs:List α):Prop:=∃ls:List Addr,SqL K H a (ls.map V.ref)∧All2 (R H) ls xs
def Stays{α:Type}(R:Hp→Addr→α→Prop):Prop:=∀H H' l x,Same H H'→R H l x→R H' l x
theorem Refs.same{α:Type}{K:Frag}{R:Hp→Addr→α→Prop}(st:Stays R){H H':Hp}{a:Addr}{xs:List α}(s:Same H H')(h:Refs K R H a xs):Refs K R H' a xs:=by
 obtain⟨ls,q,r⟩:=h
 exact⟨ls,s.seq q,r.imp fun a b=>st _ _ _ _ s⟩
def IL(K:Frag)(H:Hp)(l:Addr)(c:List Int):Prop:=SqL K H l (c.map V.int)
def TPl(K:Frag)(H:Hp)(l:Addr)(p:Int×Int):Prop:=SqT K H l [.int p.1,.int p.2]
theorem IL.stays(K:Frag):Stays (IL K):=fun _ _ _ _ s h=>Same.seq s h
theorem TPl.stays(K:Frag):Stays (TPl K):=fun _ _ _ _ s h=>s.seqT h
theorem zdA{ls:List Addr}{i:Nat}{l:Addr}(h:ls[i]? = some l):(ls.map V.ref)[i]? = some (.ref l):=by rw[getElem?_map,h];rfl
theorem zaf{ls:List Addr}{i:Nat}{x:V}(h:(ls.map V.ref)[i]? = some x):∃l,ls[i]? = some l∧x=.ref l:=by
 rw[getElem?_map] at h
 cases e:ls[i]? with
 | none=>rw[e] at h;cases h
 | some l=>rw[e] at h;cases h;exact⟨l,rfl,rfl⟩
theorem comp_got{K:Frag}{a:Addr}{ms:List Int}{n:Int}{c:St}{tc:TT}{te:TE}{H:Hp}{fin:List V→Hp→Prop}(hS:SqL K H a (ms.map V.int))(hz:ms.length≤1000000)
 (hc:∀x (R:Bool→Hp→Prop),R (decide (x≤n)) H→tc (some (.int x)::c) H R) (he:∀x (R:V→Hp→Prop),R (.int x) H→te (some (.int x)::c) H R) (hd:fin ((M3.got ms n).map V.int) H):zcv (Itl K a) c tc te H fin:=by
 refine wz (xs:=ms.map V.int) (fun i ys H2=>H2=H∧ys=(M3.got (ms.take i) n).map V.int) ⟨rfl,rfl⟩ ?_ (by rw[length_map];have:=zx;omega) ?_ ?_
 ·rintro i ys H2 hi ⟨rfl,rfl⟩
  refine⟨hS,?_⟩
  rw[length_map]
  have:=M3.zeS (ms.take i) n
  unfold M3.cnt at this
  rw[length_take] at this
  omega
 ·rintro i x ys H2 hx ⟨rfl,rfl⟩
  obtain⟨hi,rfl⟩:=yV hx
  refine hc _ _ (wk (fun h=>?_) (fun h=>?_))
  ·refine he _ _ ⟨rfl,?_⟩
   rw[M3.zdu n hi,if_pos h,map_append]
   rfl
  ·refine⟨rfl,?_⟩
   rw[M3.zdu n hi,if_neg h]
 ·rintro ys H2 ⟨rfl,rfl⟩
  rw[length_map,take_length]
  exact hd
theorem SqT.put{K:Frag}{H:Hp}{a p:Addr}{xs ys:List V}{o:HO}(h:SqT K H a xs)(hp:H p=some (.lst ys)):SqT K (upd H p o) a xs:=by
 rcases h with(h | ⟨u,h⟩) | h
 ·exact .inl (.inl (by rw[zg (fun e=>by rw[e,hp] at h;cases h)];exact h))
 ·exact .inl (.inr ⟨u,by rw[zg (fun e=>by rw[e,hp] at h;cases h)];exact h⟩)
 ·exact .inr h
theorem TPl.put{K:Frag}{H:Hp}{p:Addr}{ys:List V}{o:HO}{ls:List Addr}{ps:List (Int×Int)}(h:All2 (TPl K H) ls ps)(hp:H p=some (.lst ys)):All2 (TPl K (upd H p o)) ls ps:=h.imp fun _ _ r=>SqT.put r hp
theorem lst_appR{H:Hp}{l:Addr}(ls:List Addr)(x:Addr):upd H l (.lst (ls.map V.ref++[V.ref x])) l=some (.lst ((ls++[x]).map V.ref)):=zf.trans (congrArg (fun l=>some (HO.lst l)) (by rw[map_append];rfl))
theorem pe_both{X:Cx}{e:Expr}{t u:TE}(h1:PE X e t)(h2:PE X e u):PE X e (fun σ H Q=>t σ H Q∨u σ H Q):=by
 intro pins s σ H Q I h
 rcases h with h | h
 ·exact h1 pins s σ H Q I h
 ·exact h2 pins s σ H Q I h
structure Sh where
 couples:List Int
 struck:List Int
 panel:List Str
 card:Str→Option (List Int)
 taken:Nat
 shut:Bool
def wo(c:Int)(l:List Int):List Int:=l.filter fun o => !decide (o=c)
namespace Sh
structure Ok (S:Sh):Prop where
 c1:1≤S.couples.length
 c24:S.couples.length+S.struck.length≤24
 nd:S.couples.Nodup
 rng:∀c∈S.couples,1≤c∧c≤999
 p1:1≤S.panel.length
 p15:S.panel.length≤15
 pnd:S.panel.Nodup
 cd:∀j c,S.card j=some c→j∈S.panel∧c.Perm S.couples
 t200:S.taken≤200
def handed(S:Sh):List Str:=S.panel.filter fun j=>(S.card j).isSome
def cardsIn(S:Sh):List (List Int):=S.handed.map fun j=>(S.card j).getD []
def new(us:List Int)(ts:List Str):Sh:=⟨us,[],ts,fun _=>none,0,false⟩
def hand(S:Sh)(j:Str)(c:List Int):Sh:={ S with card:=fun k=>if k=j then some c else S.card k,taken:=S.taken+1 }
def refuse(S:Sh)(j:Str)(c:List Int):Option Str :=
 if S.shut=true then some "SheetSealed" else if j∈S.panel then(if c.Perm S.couples then(if 200≤S.taken then some "TooManyCards" else none)else some "BadCard")else some "UnknownJudge"
def strike(S:Sh)(c:Int):Sh:={ S with couples:=wo c S.couples,struck:=S.struck++[c],card:=fun j=>(S.card j).map (wo c) }
def refuseS(S:Sh)(c:Int):Option Str :=
 if S.shut=true then some "SheetSealed" else if c∈S.couples then(if S.couples.length=1 then some "LastCouple" else none)else some "UnknownCouple"
def close(S:Sh):Sh:={ S with shut:=true }
theorem Ok.new{us:List Int}{ts:List Str}(h1:M1.zcp us=true)(h2:M2.zdJ ts=true):(new us ts).Ok:=by
 have g1:=h1
 unfold M1.zcp at g1
 simp only[Bool.and_eq_true,decide_eq_true_eq,all_map,all_eq_true,Function.comp,id] at g1
 obtain⟨⟨a1,a2⟩,a3,a4⟩:=g1
 obtain⟨⟨b1,b2⟩,b3,_⟩:=(M2.zgi ts).mp h2
 exact⟨by show 1≤us.length;omega,by show us.length+0≤24;omega,a3,a4,b1,b2,b3,(fun _ _ h=>nomatch h),zero_le _⟩
theorem Ok.hand{S:Sh}(h:S.Ok){j:Str}{c:List Int}(hr:S.refuse j c=none):(S.hand j c).Ok∧j∈S.panel∧c.Perm S.couples∧S.taken<200∧S.shut=false:=by
 unfold refuse at hr
 split at hr
 ·cases hr
 rename_i h1
 split at hr
 rename_i h2
 split at hr
 rename_i h3
 split at hr
 ·cases hr
 rename_i h4
 ·refine⟨⟨h.c1,h.c24,h.nd,h.rng,h.p1,h.p15,h.pnd,fun k d e=>?_,by show S.taken+1≤200;omega⟩,h2,h3,by omega,by simpa using h1⟩
  have e:(if k=j then some c else S.card k)=some d:=e
  by_cases ek:k=j
  ·rw[if_pos ek] at e
   cases e
   subst ek
   exact⟨h2,h3⟩
  ·rw[if_neg ek] at e
   exact h.cd k d e
 ·cases hr
 ·cases hr
theorem wo_len{c:Int}{l:List Int}(nd:l.Nodup)(hc:c∈l):(wo c l).length+1=l.length:=by
 unfold wo
 have e:(l.filter fun o => !decide (o=c))=l.erase c:=by
  rw[nd.erase_eq_filter]
  refine filter_congr fun x _=>?_
  by_cases h:x=c
  ·subst h;simp
  ·simp[h]
 rw[e,List.length_erase_of_mem hc]
 have:=List.length_pos_of_mem hc
 omega
theorem Ok.strike{S:Sh}(h:S.Ok){c:Int}(hr:S.refuseS c=none):(S.strike c).Ok∧c∈S.couples∧2≤S.couples.length∧S.shut=false:=by
 unfold refuseS at hr
 split at hr
 ·cases hr
 rename_i h1
 split at hr
 rename_i h2
 split at hr
 ·cases hr
 rename_i h3
 ·have hl:=wo_len h.nd h2
  have h0:=h.c1
  have h24:=h.c24
  refine⟨⟨?_,?_,h.nd.filter _,fun d hd=>h.rng d (List.mem_filter.mp hd).1,h.p1,h.p15,h.pnd,fun k d e=>?_,h.t200⟩,h2,by omega,by simpa using h1⟩
  ·show 1≤(wo c S.couples).length
   omega
  ·show(wo c S.couples).length+(S.struck++[c]).length≤24
   rw[length_append,length_singleton]
   omega
  ·have e:(S.card k).map (wo c)=some d:=e
   cases q:S.card k with
   | none=>rw[q] at e;cases e
   | some b =>
     rw[q] at e
     cases e
     exact⟨(h.cd k b q).1,(h.cd k b q).2.filter _⟩
 ·cases hr
theorem Ok.close{S:Sh}(h:S.Ok):S.close.Ok:=⟨h.c1,h.c24,h.nd,h.rng,h.p1,h.p15,h.pnd,h.cd,h.t200⟩
end Sh
def shF(a1 a2 a3 d:Addr)(S:Sh):List (Str×V):=[("standing",.ref a1),("struck_so_far",.ref a2),("panel",.ref a3),("card_by_judge",.ref d),("taken_so_far",.int S.taken),("sealed",.bl S.shut)]
structure Shape (K:Frag) (H:Hp) (p:Addr) (F:Addr→Prop) (S:Sh) (dx a1 a2 a3 d:Addr) (kvs:List (Key×V)):Prop where
 ip:H p=some (.ins (zE K "Sheet") dx (shF a1 a2 a3 d S))
 i1:H a1=some (.lst (S.couples.map V.int))
 i2:H a2=some (.lst (S.struck.map V.int))
 i3:H a3=some (.lst (S.panel.map V.str))
 i4:H d=some (.dK kvs)
 kl:kvs.length≤S.taken
 cn:∀j,S.card j=none→zar kvs (Sum.inr j)=none
 cs:∀j c,S.card j=some c→∃l,zar kvs (Sum.inr j)=some (.ref l)∧H l=some (.lst (c.map V.int))∧F l∧l≠a2
 fp:F p
 f1:F a1
 f2:F a2
 f3:F a3
 f4:F d
 n12:a1≠a2
 n32:a3≠a2
 fh:∀b,F b→H b≠none
structure SheetIn (K:Frag) (H:Hp) (p:Addr) (F:Addr→Prop) (S:Sh) (dx a1 a2 a3 d:Addr) (kvs:List (Key×V)):Prop extends Shape K H p F S dx a1 a2 a3 d kvs where
 ok:S.Ok
def ShapeAt(K:Frag)(H:Hp)(p:Addr)(F:Addr→Prop)(S:Sh):Prop:=∃dx a1 a2 a3 d kvs,Shape K H p F S dx a1 a2 a3 d kvs
def SheetAt(K:Frag)(H:Hp)(p:Addr)(F:Addr→Prop)(S:Sh):Prop:=∃dx a1 a2 a3 d kvs,SheetIn K H p F S dx a1 a2 a3 d kvs
theorem SheetIn.off{K:Frag}{H H':Hp}{p:Addr}{F:Addr→Prop}{S:Sh}{dx a1 a2 a3 d:Addr}{kvs:List (Key×V)}(h:SheetIn K H p F S dx a1 a2 a3 d kvs)(e:∀b,F b→H' b=H b):SheetIn K H' p F S dx a1 a2 a3 d kvs :=
 ⟨⟨(e _ h.fp).trans h.ip,(e _ h.f1).trans h.i1,(e _ h.f2).trans h.i2,(e _ h.f3).trans h.i3,(e _ h.f4).trans h.i4,h.kl,h.cn,
  fun j c hc=>let ⟨l,x1,x2,x3,x4⟩:=h.cs j c hc;⟨l,x1,(e _ x3).trans x2,x3,x4⟩,h.fp,h.f1,h.f2,h.f3,h.f4,h.n12,h.n32,fun b hb=>by rw[e b hb];exact h.fh b hb⟩,h.ok⟩
theorem SheetAt.off{K:Frag}{H H':Hp}{p:Addr}{F:Addr→Prop}{S:Sh}(h:SheetAt K H p F S)(e:∀b,F b→H' b=H b):SheetAt K H' p F S:=by
 obtain⟨dx,a1,a2,a3,d,kvs,h⟩:=h
 exact⟨dx,a1,a2,a3,d,kvs,h.off e⟩
theorem SheetAt.fh{K:Frag}{H:Hp}{p:Addr}{F:Addr→Prop}{S:Sh}(h:SheetAt K H p F S):∀b,F b→H b≠none:=by
 obtain⟨dx,a1,a2,a3,d,kvs,h⟩:=h
 exact h.fh
theorem SheetAt.ok{K:Frag}{H:Hp}{p:Addr}{F:Addr→Prop}{S:Sh}(h:SheetAt K H p F S):S.Ok:=by
 obtain⟨dx,a1,a2,a3,d,kvs,h⟩:=h
 exact h.ok
theorem SheetAt.shape{K:Frag}{H:Hp}{p:Addr}{F:Addr→Prop}{S:Sh}(h:SheetAt K H p F S):ShapeAt K H p F S:=by
 obtain⟨dx,a1,a2,a3,d,kvs,h⟩:=h
 exact⟨dx,a1,a2,a3,d,kvs,h.toShape⟩
theorem SheetAt.same{K:Frag}{H H':Hp}{p:Addr}{F:Addr→Prop}{S:Sh}(h:SheetAt K H p F S)(s:Same H H'):SheetAt K H' p F S:=h.off fun b hb=>by
 have:=h.fh b hb
 cases e:H b with
 | none=>exact absurd e this
 | some o=>exact s b o e
theorem SheetAt.put{K:Frag}{H:Hp}{p:Addr}{F:Addr→Prop}{S:Sh}(h:SheetAt K H p F S){l:Addr}{o:HO}(n:¬F l):SheetAt K (upd H l o) p F S:=h.off fun b hb=>zg fun z=>n (z ▸ hb)
def Deed(F:Addr→Prop)(H:Hp)(F':Addr→Prop)(H':Hp):Prop:=∀b o,H b=some o→¬F b→H' b=some o∧¬F' b
def LQ(K:Frag)(F:Addr→Prop)(H:Hp)(a:Addr)(xs:List V):Prop :=
 (Rd H a (.lst xs)∧¬F a)∨∃(o:Obj)(its:Array Value)(n:Nat),K.lookup a=some o∧o.cls=.type "list"∧o.dict=none∧o.data=.seq its n∧its.size≤sizeLine∧Vals xs its.toList
theorem LQ.sq{K:Frag}{F:Addr→Prop}{H:Hp}{a:Addr}{xs:List V}(h:LQ K F H a xs):SqL K H a xs:=h.imp (fun z=>z.1) id
theorem LQ.deed{K:Frag}{F F':Addr→Prop}{H H':Hp}{a:Addr}{xs:List V}(h:LQ K F H a xs)(d:Deed F H F' H'):LQ K F' H' a xs:=by
 rcases h with⟨r | ⟨o,r⟩,n⟩ | h
 ·exact .inl ⟨.inl (d a _ r n).1,(d a _ r n).2⟩
 ·exact .inl ⟨.inr ⟨o,(d a _ r n).1⟩,(d a _ r n).2⟩
 ·exact .inr h
theorem LQ.same{K:Frag}{F:Addr→Prop}{H H':Hp}{a:Addr}{xs:List V}(h:LQ K F H a xs)(s:Same H H'):LQ K F H' a xs:=by
 rcases h with⟨r | ⟨o,r⟩,n⟩ | h
 ·exact .inl ⟨.inl (s a _ r),n⟩
 ·exact .inl ⟨.inr ⟨o,s a _ r⟩,n⟩
 ·exact .inr h
theorem LQ.of{K:Frag}{F:Addr→Prop}{H:Hp}{a:Addr}{xs:List V}(h:H a=some (.lst xs))(n:¬F a):LQ K F H a xs:=.inl ⟨.inl h,n⟩
theorem SqL.none{K:Frag}{H:Hp}{a:Addr}{xs:List V}(h:SqL K H a xs):LQ K (fun _=>False) H a xs:=h.imp (fun z=>⟨z,fun w=>w⟩) id
theorem Deed.same{F:Addr→Prop}{H H':Hp}(s:Same H H'):Deed F H F H':=fun b o e n=>⟨s b o e,n⟩
theorem Deed.trans{F F1 F2:Addr→Prop}{H H1 H2:Hp}(a:Deed F H F1 H1)(b:Deed F1 H1 F2 H2):Deed F H F2 H2:=fun c o e n=>b c o (a c o e n).1 (a c o e n).2
theorem SheetAt.apart{K:Frag}{H:Hp}{p:Addr}{F:Addr→Prop}{S:Sh}(h:SheetAt K H p F S){l:Addr}(n:H l=none):¬F l:=fun z=>h.fh l z n
theorem zdt{H:Hp}{x l:Addr}{o u i:HO}(hx:H x=some i)(hl:H l=none):upd (upd H l o) x u x=some u∧upd (upd H l o) x u l=some o∧l≠x∧∀b v,H b=some v→b≠x→upd (upd H l o) x u b=some v:=by
 have n:l≠x:=fun e=>by rw[e,hx] at hl;cases hl
 exact⟨zf,by rw[zg n];exact zf,n,fun b v e nb=>by rw[zg nb,zg (zj e hl)];exact e⟩
theorem zfD(f:Str)(v x:V)(r:List (Str×V)):zae f v ((f,x)::r)=(f,v)::r:=by rw[zae,if_pos rfl]
theorem zQ{f g:Str}(v x:V)(r:List (Str×V))(h:g≠f):zae f v ((g,x)::r)=(g,x)::zae f v r:=by rw[zae,if_neg h]
theorem pf1(v:V):zae "standing" v []=([("standing",v)]:List (Str×V)):=rfl
theorem pf2(u v:V):zae "struck_so_far" v [("standing",u)]=([("standing",u),("struck_so_far",v)]:List (Str×V)):=by rw[zQ _ _ _ (by decide)];rfl
theorem pf3(u w v:V):zae "panel" v [("standing",u),("struck_so_far",w)]=([("standing",u),("struck_so_far",w),("panel",v)]:List (Str×V)):=by rw[zQ _ _ _ (by decide),zQ _ _ _ (by decide)];rfl
theorem pf4(u w y v:V):zae "card_by_judge" v [("standing",u),("struck_so_far",w),("panel",y)]=([("standing",u),("struck_so_far",w),("panel",y),("card_by_judge",v)]:List (Str×V)):=by rw[zQ _ _ _ (by decide),zQ _ _ _ (by decide),zQ _ _ _ (by decide)];rfl
theorem pf5(u w y z v:V):zae "taken_so_far" v [("standing",u),("struck_so_far",w),("panel",y),("card_by_judge",z)]=([("standing",u),("struck_so_far",w),("panel",y),("card_by_judge",z),("taken_so_far",v)]:List (Str×V)):=by rw[zQ _ _ _ (by decide),zQ _ _ _ (by decide),zQ _ _ _ (by decide),zQ _ _ _ (by decide)];rfl
theorem pf6(u w y z t v:V):zae "sealed" v [("standing",u),("struck_so_far",w),("panel",y),("card_by_judge",z),("taken_so_far",t)]=([("standing",u),("struck_so_far",w),("panel",y),("card_by_judge",z),("taken_so_far",t),("sealed",v)]:List (Str×V)):=by rw[zQ _ _ _ (by decide),zQ _ _ _ (by decide),zQ _ _ _ (by decide),zQ _ _ _ (by decide),zQ _ _ _ (by decide)];rfl
theorem ziO(a1 a2 a3 d b:Addr)(S S':Sh)(h:S'.taken=S.taken)(h2:S'.shut=S.shut):zae "standing" (.ref b) (shF a1 a2 a3 d S)=shF b a2 a3 d S':=by unfold shF;rw[zfD,h,h2]
theorem pf_taken(a1 a2 a3 d:Addr)(S S':Sh)(h2:S'.shut=S.shut):zae "taken_so_far" (.int S'.taken) (shF a1 a2 a3 d S)=shF a1 a2 a3 d S':=by
 unfold shF
 rw[zQ _ _ _ (by decide),zQ _ _ _ (by decide),zQ _ _ _ (by decide),zQ _ _ _ (by decide),zfD,h2]
theorem pf_sealed(a1 a2 a3 d:Addr)(S S':Sh)(h:S'.taken=S.taken):zae "sealed" (.bl S'.shut) (shF a1 a2 a3 d S)=shF a1 a2 a3 d S':=by
 unfold shF
 rw[zQ _ _ _ (by decide),zQ _ _ _ (by decide),zQ _ _ _ (by decide),zQ _ _ _ (by decide),zQ _ _ _ (by decide),zfD,h]
theorem putK_len{kvs:List (Key×V)}{k:Key}{v u:V}(h:zar kvs k=some u):(zbM kvs k v).length=kvs.length:=by
 unfold zbM
 have:(kvs.any fun kv=>decide (kv.1=k))=true:=by rw[zcq,h];rfl
 rw[if_pos this,length_map]
theorem SheetAt.ins{K:Frag}{H:Hp}{p:Addr}{F:Addr→Prop}{S:Sh}(h:SheetAt K H p F S):∃dx a1 a2 a3 d,H p=some (.ins (zE K "Sheet") dx (shF a1 a2 a3 d S)):=by
 obtain⟨dx,a1,a2,a3,d,kvs,h⟩:=h
 exact⟨dx,a1,a2,a3,d,h.ip⟩
def Sh.rows(S:Sh):List (List Int):=S.panel.map fun j=>(S.card j).getD []
def zcY(cs:List (List Int)):List Int:=((List.range cs.length).filter fun k => !decide (cs.getD k []=[])).map fun(k:Nat)=>(k:Int)
theorem map_getD{α:Type}(l:List α)(d:α):(List.range l.length).map (fun k=>l.getD k d)=l:=by
 refine ext_getElem (by simp) fun i h1 h2=>?_
 simp[h2]
theorem zdW{cs:List (List Int)}{x:Int}(h:x∈zcY cs):0≤x∧x.toNat<cs.length∧cs.getD x.toNat []≠[]:=by
 obtain⟨k,hk,rfl⟩:=List.mem_map.mp h
 obtain⟨h1,h2⟩:=List.mem_filter.mp hk
 have h1:=List.mem_range.mp h1
 refine⟨by omega,by simpa using h1,fun z=>?_⟩
 have e:((k:Int)).toNat=k:=by omega
 rw[e] at z
 rw[decide_eq_true z] at h2
 exact absurd h2 (by decide)
theorem intoK_len(cs:List (List Int)):(zcY cs).length≤cs.length:=by
 unfold zcY
 rw[length_map]
 exact le_trans (length_filter_le _ _) (by rw[length_range];exact le_refl _)
theorem Sh.rows_len(S:Sh):S.rows.length=S.panel.length:=by unfold rows;simp
theorem Sh.rows_at(S:Sh){k:Nat}(h:k<S.panel.length):S.rows.getD k []=(S.card (S.panel.getD k "")).getD []:=by
 unfold rows
 rw[getD_eq_getElem?_getD,getD_eq_getElem?_getD,getElem?_map,getElem?_eq_getElem h]
 rfl
theorem Sh.Ok.full{S:Sh}(h:S.Ok){j:Str}{c:List Int}(e:S.card j=some c):c≠[]:=fun z=>by
 have:=(h.cd j c e).2.length_eq
 have h1:=h.c1
 rw[z] at this
 simp at this
 omega
theorem Sh.into_names{S:Sh}(h:S.Ok):(zcY S.rows).map (fun x=>S.panel.getD x.toNat "")=S.handed:=by
 unfold zcY Sh.handed
 rw[map_map]
 conv=>rhs;rw[←map_getD S.panel ""]
 rw[filter_map,Sh.rows_len]
 have e:(List.range S.panel.length).filter (fun k => !decide (S.rows.getD k []=[]))=(List.range S.panel.length).filter ((fun j=>(S.card j).isSome) ∘ fun k=>S.panel.getD k ""):=by
  refine filter_congr fun k hk=>?_
  have hk:=List.mem_range.mp hk
  rw[S.rows_at hk]
  show _=(S.card (S.panel.getD k "")).isSome
  cases e:S.card (S.panel.getD k "")with
  | none=>rfl
  | some c=>rw[show(some c).getD ([]:List Int)=c from rfl,decide_eq_false (h.full e)];rfl
 rw[e]
 refine map_congr_left fun k _=>?_
 show S.panel.getD ((k:Int)).toNat ""=_
 rw[show((k:Int)).toNat=k by omega]
theorem Sh.into_cards{S:Sh}(h:S.Ok):(zcY S.rows).map (fun x=>S.rows.getD x.toNat [])=S.cardsIn:=by
 unfold Sh.cardsIn
 rw[←Sh.into_names h,map_map]
 refine map_congr_left fun x hx=>?_
 have:=zdW hx
 rw[S.rows_at (by rw[←Sh.rows_len];exact this.2.1)]
 rfl
theorem Sh.into_one{S:Sh}(h:S.Ok){x:Int}(hx:x∈zcY S.rows):S.card (S.panel.getD x.toNat "")=some (S.rows.getD x.toNat []):=by
 have hm:=zdW hx
 have e:=S.rows_at (k:=x.toNat) (by rw[←Sh.rows_len];exact hm.2.1)
 cases q:S.card (S.panel.getD x.toNat "")with
 | none=>rw[q] at e;exact absurd e hm.2.2
 | some c=>rw[q] at e;rw[e];rfl
theorem zfc(cs:List (List Int))(i:Nat):(((List.range (i+1)).filter fun k => !decide (cs.getD k []=[])).map fun(k:Nat)=>(k:Int))=(((List.range i).filter fun k => !decide (cs.getD k []=[])).map fun(k:Nat)=>(k:Int))++(if cs.getD i []=[] then [] else [(i:Int)]):=by
 rw[range_succ,filter_append,map_append]
 congr 1
 by_cases h:cs.getD i []=[]
 ·rw[if_pos h,filter_cons,if_neg (by rw[decide_eq_true h];decide)];rfl
 ·rw[if_neg h,filter_cons,if_pos (by rw[decide_eq_false h];rfl)];rfl
theorem All2.at{α β:Type}{R:α→β→Prop}{as:List α}{bs:List β}(h:All2 R as bs){i:Nat}(hi:i<bs.length)(d:β):∃a,as[i]? = some a∧R a (bs.getD i d):=by
 have e:bs[i]? = some (bs.getD i d):=by rw[getD_eq_getElem?_getD,getElem?_eq_getElem hi];rfl
 exact h.get e
theorem All2.impM{α β:Type}{R S:α→β→Prop}{as:List α}{bs:List β}(h:All2 R as bs)(f:∀a∈as,∀b,R a b→S a b):All2 S as bs:=by
 induction h with
 | nil=>exact .nil
 | cons r _ ih=>exact .cons (f _ (mem_cons_self ..) _ r) (ih fun a ha b=>f a (mem_cons_of_mem _ ha) b)
theorem All2.set{α β:Type}{R:α→β→Prop}{as:List α}{bs:List β}(h:All2 R as bs){a:α}{b:β}(r:R a b):∀k,All2 R (as.set k a) (bs.set k b):=by
 induction h with
 | nil=>intro k;exact .nil
 | cons r' h' ih =>
   intro k
   cases k with
   | zero=>exact .cons r h'
   | succ k=>exact .cons r' (ih k)
def Rows(F:Addr→Prop)(H:Hp)(lc:Addr)(ls:List Addr)(cs:List (List Int)):Prop:=H lc=some (.lst (ls.map V.ref))∧¬F lc∧All2 (fun l c=>H l=some (.lst (c.map V.int))∧¬F l) ls cs
theorem Rows.len{F:Addr→Prop}{H:Hp}{lc:Addr}{ls:List Addr}{cs:List (List Int)}(h:Rows F H lc ls cs):ls.length=cs.length:=h.2.2.length
theorem Rows.refs{F:Addr→Prop}{H:Hp}{lc:Addr}{ls:List Addr}{cs:List (List Int)}(K:Frag)(h:Rows F H lc ls cs):Refs K (IL K) H lc cs:=⟨ls,SqL.of h.1,h.2.2.imp fun _ _ z=>SqL.of z.1⟩
theorem Rows.deed{F F':Addr→Prop}{H H':Hp}{lc:Addr}{ls:List Addr}{cs:List (List Int)}(h:Rows F H lc ls cs)(d:Deed F H F' H'):Rows F' H' lc ls cs :=
 ⟨(d _ _ h.1 h.2.1).1,(d _ _ h.1 h.2.1).2,h.2.2.imp fun _ _ z=>d _ _ z.1 z.2⟩
theorem Rows.same{F:Addr→Prop}{H H':Hp}{lc:Addr}{ls:List Addr}{cs:List (List Int)}(h:Rows F H lc ls cs)(s:Same H H'):Rows F H' lc ls cs:=h.deed (Deed.same s)
theorem All2.memL{α β:Type}{R:α→β→Prop}{as:List α}{bs:List β}(h:All2 R as bs){a:α}(ha:a∈as):∃b,R a b:=by
 induction h with
 | nil=>cases ha
 | cons r _ ih =>
   rcases List.mem_cons.mp ha with e | e
   ·exact⟨_,e ▸ r⟩
   ·exact ih e
theorem Rows.put{F:Addr→Prop}{H:Hp}{lc:Addr}{ls:List Addr}{cs:List (List Int)}(h:Rows F H lc ls cs){x:Addr}{o:HO}(n:lc≠x∧∀l∈ls,l≠x):Rows F (upd H x o) lc ls cs :=
 ⟨by rw[zg n.1];exact h.1,h.2.1,h.2.2.impM fun l hl c z=>⟨by rw[zg (n.2 l hl)];exact z.1,z.2⟩⟩
theorem zb2{ls:List Addr}{c:List Int}(h:ls≠[]):(HO.lst (c.map V.int)) ≠ .lst (ls.map V.ref):=fun z=>by
 injection z with z
 cases ls with
 | nil=>exact h rfl
 | cons l ls=>cases c with
   | nil=>cases z
   | cons x c=>simp at z
theorem Rows.set{F:Addr→Prop}{H:Hp}{lc:Addr}{ls:List Addr}{cs:List (List Int)}(h:Rows F H lc ls cs)(hne:ls≠[]){m:Addr}{c:List Int}(hm:H m=some (.lst (c.map V.int)))(nm:¬F m)(k:Nat):
 Rows F (upd H lc (.lst ((ls.map V.ref).set k (.ref m)))) lc (ls.set k m) (cs.set k c):=by
 refine⟨by rw[zf,List.map_set],h.2.1,All2.set (h.2.2.imp fun l c z=>⟨?_,z.2⟩) ⟨?_,nm⟩ k⟩
 ·rw[zg (zD z.1 h.1 (zb2 hne))];exact z.1
 ·rw[zg (zD hm h.1 (zb2 hne))];exact hm
theorem Sh.rows_hand{S:Sh}(h:S.panel.Nodup){k:Nat}(hk:k<S.panel.length)(c:List Int):(S.hand (S.panel.getD k "") c).rows=S.rows.set k c:=by
 unfold Sh.rows
 refine ext_getElem (by simp;rfl) fun i h1 h2=>?_
 have hi:i<S.panel.length:=by simpa using h2
 rw[List.getElem_set]
 have e1:((S.hand (S.panel.getD k "") c).panel.map fun j=>((S.hand (S.panel.getD k "") c).card j).getD [])[i]=(if S.panel[i]=S.panel.getD k "" then some c else S.card S.panel[i]).getD []:=by
  rw[getElem_map]
  rfl
 rw[e1]
 have ek:S.panel.getD k ""=S.panel[k]:=by rw[getD_eq_getElem?_getD,getElem?_eq_getElem hk];rfl
 by_cases hki:k=i
 ·subst hki
  rw[if_pos ek.symm,if_pos rfl]
  rfl
 ·rw[if_neg hki,if_neg (fun z=>hki (List.getElem_inj h |>.mp (z.trans ek)).symm),getElem_map]
theorem ixN_ok{k:Int}{n:Nat}(h0:0≤k)(h:k.toNat<n):ixN n k=some k.toNat:=by
 unfold ixN
 rw[if_pos h0,if_pos (by omega)]
theorem cut_ints(ns:List Int)(i j:Nat)(h:i≤j):∃zs:List Int,zcH (ns.map V.int) (some (i:Int)) (some (j:Int))=zs.map V.int∧zs.length≤j-i∧zs.length≤ns.length:=by
 unfold zcH
 rw[HT.sIx_nat,HT.sIx_nat,length_map,←map_drop,←map_take]
 refine⟨_,rfl,?_,?_⟩
 ·rw[length_take,length_drop];omega
 ·rw[length_take,length_drop];omega
theorem Sh.refuse_cases{S:Sh}{j:Str}{c:List Int}{x:Str}(h:S.refuse j c=some x):x= "SheetSealed"∨x= "UnknownJudge"∨x= "BadCard"∨x= "TooManyCards":=by
 unfold Sh.refuse at h
 split at h
 ·cases h;exact .inl rfl
 split at h
 ·split at h
  ·split at h
   ·cases h;exact .inr (.inr (.inr rfl))
   ·cases h
  ·cases h;exact .inr (.inr (.inl rfl))
 ·cases h;exact .inr (.inl rfl)
theorem Sh.refuseS_cases{S:Sh}{c:Int}{x:Str}(h:S.refuseS c=some x):x= "SheetSealed"∨x= "UnknownCouple"∨x= "LastCouple":=by
 unfold Sh.refuseS at h
 split at h
 ·cases h;exact .inl rfl
 split at h
 ·split at h
  ·cases h;exact .inr (.inr rfl)
  ·cases h
 ·cases h;exact .inr (.inl rfl)
theorem Sh.rows_strike(S:Sh)(c:Int):(S.strike c).rows=S.rows.map (wo c):=by
 unfold Sh.rows
 rw[map_map]
 refine map_congr_left fun j _=>?_
 show((S.card j).map (wo c)).getD []=wo c ((S.card j).getD [])
 cases S.card j with
 | none=>rfl
 | some d=>rfl
theorem Sh.rows_le{S:Sh}(h:S.Ok){d:List Int}(hd:d∈S.rows):d.length≤24:=by
 unfold Sh.rows at hd
 obtain⟨j,_,rfl⟩:=List.mem_map.mp hd
 cases e:S.card j with
 | none=>exact zero_le _
 | some c =>
   have:=(h.cd j c e).2.length_eq
   have:=h.c24
   show c.length≤24
   omega
end L2
namespace M5
open PySem L2 M3
def key(ms:List Int):Nat→List Int
 | 0=>[]
 | k+1=>(fun a:List Int=>if a=[] then [] else a++[-((got ms ((k:Int)+1)).length:Int),(got ms ((k:Int)+1)).sum])
    (if key ms k=[]∧ms.length<2*(got ms ((k:Int)+1)).length then [(k:Int)+1] else key ms k)
def zA(cs:List (List Int))(c:Int):List Int:=cs.map fun card=>(card.idxOf c:Int)+1
def zdO(cs:List (List Int))(us:List Int):List (List Int):=us.map fun c=>key (zA cs c) us.length
def zc0(rs:List (List Int))(m:List Int):Nat:=(rs.filter fun r=>HT.lexLt r m).length
def spots(cs:List (List Int))(us:List Int):List Int:=(zdO cs us).map fun m=>1+(zc0 (zdO cs us) m:Int)
def rows(ps us:List Int):List (Int×Int):=(List.range us.length).flatMap fun(i:Nat)=>(ps.zip us).filter fun p=>decide (p.1=(i:Int)+1)
theorem key_len(ms:List Int):∀k,(key ms k).length≤1+2*k
 | 0=>zero_le _
 | k+1=>by
   have ih:=key_len ms k
   unfold key
   dsimp only
   have go:∀a:List Int,a.length≤1+2*k→(if a=[] then [] else a++[-((got ms ((k:Int)+1)).length:Int),(got ms ((k:Int)+1)).sum]).length≤1+2*(k+1):=fun a h=>by
    split
    ·simp
    ·rw[length_append,length_cons,length_cons,length_nil];omega
   refine go _ ?_
   split
   ·rw[length_cons,length_nil];omega
   ·exact ih
theorem zaI(cs:List (List Int))(c:Int):(zA cs c).length=cs.length:=by unfold zA;simp
end M5
namespace M6
open PySem L2 M3 M5
abbrev Sg:=Option (Int×Int)
def sg(a:List Int)(k:Int):Sg:=if a.length<2*cnt a k then some ((cnt a k:Int),sm a k)else none
def olt:Sg→Sg→Bool
 | some _,none=>true
 | none,_=>false
 | some p,some q=>decide (q.1<p.1) || (decide (p.1=q.1) && decide (p.2<q.2))
def zX:List Sg→List Sg→Bool
 | x::xs,y::ys=>if x=y then zX xs ys else olt x y
 | _,_=>false
def zan(a:List Int)(n:Nat):List Sg:=(List.range n).map fun(i:Nat)=>sg a ((i:Int)+1)
def yi(a b:List Int)(n:Nat):Bool:=zX (zan a n) (zan b n)
theorem zcK(k:Nat)(x:Sg)(xs ys:List Sg):zX (replicate k x++xs) (replicate k x++ys)=zX xs ys:=by
 induction k with
 | zero=>rfl
 | succ k ih=>rw[List.replicate_succ,cons_append,cons_append,zX,if_pos rfl];exact ih
def tl(a:List Int)(f m:Nat):List Int:=(List.range m).flatMap fun(i:Nat)=>[-(cnt a ((f:Int)+i):Int),sm a ((f:Int)+i)]
theorem tl_succ(a:List Int)(f m:Nat):tl a f (m+1)=tl a f m++[-(cnt a ((f:Int)+m):Int),sm a ((f:Int)+m)]:=by
 unfold tl;rw[range_succ,List.flatMap_append];simp
theorem zh9{a:List Int}:∀{k:Nat},(∀j:Nat,j≤k→1≤j→2*cnt a j≤a.length)→key a k=[]
 | 0,_=>rfl
 | k+1,h=>by
   have ih:=zh9 (a:=a) (k:=k) fun j hj h1=>h j (by omega) h1
   have hk:=h (k+1) (le_refl _) (by omega)
   have e:((k+1:Nat):Int)=(k:Int)+1:=by omega
   rw[e] at hk
   unfold cnt at hk
   unfold key
   rw[ih,if_neg (fun z=>absurd z.2 (by omega))]
   rfl
theorem ze5{a:List Int}{f:Nat}(h1:1≤f)(hf:isF a f):∀m:Nat,key a (f+m)=(f:Int)::tl a f (m+1)
 | 0=>by
   obtain⟨g,rfl⟩:∃g,f=g+1:=⟨f-1,by omega⟩
   have e:((g+1:Nat):Int)=(g:Int)+1:=by omega
   have hlow:key a g=[]:=zh9 fun j hj hj1=>by
    have:=zbs (ms:=a) (show(j:Int)≤((g+1:Nat):Int)-1 by omega)
    have:=hf.2
    omega
   have hov:=hf.1
   rw[e] at hov
   unfold cnt at hov
   show key a (g+1)=_
   unfold key
   rw[hlow,if_pos ⟨rfl,hov⟩,tl_succ]
   have e0:((g+1:Nat):Int)+((0:Nat):Int)=(g:Int)+1:=by omega
   rw[e0,e]
   rfl
 | m+1=>by
   have ih:=ze5 h1 hf m
   show key a ((f+m)+1)=_
   unfold key
   rw[ih,if_neg (fun z=>by cases z.1),tl_succ a f (m+1)]
   have e:((f+m:Nat):Int)+1=(f:Int)+((m+1:Nat):Int):=by omega
   rw[e]
   rfl
theorem sg_none{a:List Int}{k:Int}(h:2*cnt a k≤a.length):sg a k=none:=by unfold sg;rw[if_neg (by omega)]
theorem sg_some{a:List Int}{k:Int}(h:a.length<2*cnt a k):sg a k=some ((cnt a k:Int),sm a k):=by unfold sg;rw[if_pos h]
theorem zgx{a:List Int}{f m:Nat}(h1:1≤f)(hf:isF a f):zan a (f+m)=replicate (f-1) none++(List.range (m+1)).map fun(i:Nat)=>some ((cnt a ((f:Int)+i):Int),sm a ((f:Int)+i)):=by
 refine ext_getElem ?_ fun i hi1 hi2=>?_
 ·unfold zan;simp;omega
 ·have hi:i<f+m:=by unfold zan at hi1;simpa using hi1
  have e1:(zan a (f+m))[i]=sg a ((i:Int)+1):=by
   have:(zan a (f+m))[i]? = some (sg a ((i:Int)+1)):=by
    show((List.range (f+m)).map fun(i:Nat)=>sg a ((i:Int)+1))[i]? = _
    rw[getElem?_map,List.getElem?_range hi]
    rfl
   rw[getElem?_eq_getElem hi1] at this
   exact Option.some.inj this
  rw[e1]
  by_cases c:i<f-1
  ·rw[List.getElem_append_left (by simpa using c),List.getElem_replicate]
   refine sg_none ?_
   have:=zbs (ms:=a) (show(i:Int)+1≤(f:Int)-1 by omega)
   have:=hf.2
   omega
  ·rw[List.getElem_append_right (by simpa using c)]
   simp only[List.length_replicate,getElem_map,getElem_range]
   have e2:(f:Int)+((i-(f-1):Nat):Int)=(i:Int)+1:=by omega
   rw[e2]
   refine sg_some ?_
   have:=zbs (ms:=a) (show(f:Int)≤(i:Int)+1 by omega)
   have:=hf.1
   omega
theorem zgy(c s c' s':Nat→Int):∀(m j:Nat),HT.lexLt ((range' j m).flatMap fun(i:Nat)=>[-c i,s i]) ((range' j m).flatMap fun(i:Nat)=>[-c' i,s' i])=zX ((range' j m).map fun(i:Nat)=>some (c i,s i)) ((range' j m).map fun(i:Nat)=>some (c' i,s' i))
 | 0,j=>rfl
 | m+1,j=>by
   rw[List.range'_succ,flatMap_cons,flatMap_cons,map_cons,map_cons]
   show HT.lexLt (-c j::s j::_) (-c' j::s' j::_)=_
   rw[HT.lexLt_cons,HT.lexLt_cons,zX,←zgy c s c' s' m (j+1)]
   by_cases h1:c j=c' j
   ·rw[if_pos (by rw[h1])]
    by_cases h2:s j=s' j
    ·rw[if_pos h2,if_pos (by rw[h1,h2])];rfl
    ·rw[if_neg h2,if_neg (fun z=>h2 (by injection z with z;exact(Prod.mk.inj z).2))]
     show _=(decide (c' j<c j) || (decide (c j=c' j) && decide (s j<s' j)))
     rw[decide_eq_false (show ¬c' j<c j by omega),decide_eq_true h1]
     rfl
   ·rw[if_neg (fun z=>h1 (by omega)),if_neg (fun z=>h1 (by injection z with z;exact(Prod.mk.inj z).1))]
    show _=(decide (c' j<c j) || (decide (c j=c' j) && decide (s j<s' j)))
    rw[decide_eq_false h1,Bool.false_and,Bool.or_false]
    by_cases h3:c' j<c j
    ·rw[decide_eq_true h3,decide_eq_true (by omega)]
    ·rw[decide_eq_false h3,decide_eq_false (by omega)]
theorem rep_add{α:Type}(m n:Nat)(x:α):replicate (m+n) x=replicate m x++replicate n x:=by simp
theorem key_ahead{a b:List Int}{f g n:Nat}(hf1:1≤f)(hg1:1≤g)(hf:isF a f)(hg:isF b g)(hfn:f≤n)(hgn:g≤n):HT.lexLt (key a n) (key b n)=yi a b n:=by
 obtain⟨m,rfl⟩:∃m,n=f+m:=⟨n-f,by omega⟩
 obtain⟨k,hk⟩:∃k,f+m=g+k:=⟨f+m-g,by omega⟩
 unfold yi
 rw[ze5 hf1 hf m,zgx hf1 hf]
 rw[hk,ze5 hg1 hg k,zgx hg1 hg,HT.lexLt_cons]
 rcases Nat.lt_trichotomy f g with h | h | h
 ·rw[if_neg (by omega),decide_eq_true (show(f:Int)<g by omega)]
  obtain⟨d,hd⟩:∃d,g-1=(f-1)+(d+1):=⟨g-1-(f-1)-1,by omega⟩
  rw[hd,rep_add,append_assoc,zcK,range_succ_eq_map,map_cons,List.replicate_succ,cons_append,zX,if_neg (by intro z;cases z)]
  rfl
 ·subst h
  have:k=m:=by omega
  subst this
  rw[if_pos rfl,zcK]
  have:=zgy (fun i=>(cnt a ((f:Int)+i):Int)) (fun i=>sm a ((f:Int)+i)) (fun i=>(cnt b ((f:Int)+i):Int)) (fun i=>sm b ((f:Int)+i)) (k+1) 0
  rw[←List.range_eq_range'] at this
  exact this
 ·rw[if_neg (by omega),decide_eq_false (show ¬(f:Int)<g by omega)]
  obtain⟨d,hd⟩:∃d,f-1=(g-1)+(d+1):=⟨f-1-(g-1)-1,by omega⟩
  rw[hd,rep_add,append_assoc,zcK,range_succ_eq_map (n:=k),map_cons,List.replicate_succ,cons_append,zX,if_neg (by intro z;cases z)]
  rfl
theorem exF{a:List Int}(hlo:∀x∈a,1≤x):∀n:Nat,a.length<2*cnt a n→∃f:Nat,1≤f∧f≤n∧isF a f
 | 0,h=>by
   have:=zhy (ms:=a) (n:=((0:Nat):Int)) fun x hx=>by have:=hlo x hx;omega
   omega
 | n+1,h=>by
   by_cases c:a.length<2*cnt a n
   ·obtain⟨f,h1,h2,h3⟩:=exF hlo n c
    exact⟨f,h1,by omega,h3⟩
   ·refine⟨n+1,by omega,le_refl _,h,?_⟩
    have e:((n+1:Nat):Int)-1=(n:Int):=by omega
    rw[e]
    omega
theorem zh6{a:List Int}{n:Nat}(hne:a≠[])(h:∀x∈a,1≤x∧x≤n):∃f:Nat,1≤f∧f≤n∧isF a f :=
 exF (fun x hx=>(h x hx).1) n (by
  rw[zfz fun x hx=>(h x hx).2]
  have:=List.length_pos_iff.mpr hne
  omega)
theorem sg_high{a:List Int}{n k:Int}(h:∀x∈a,x≤n)(hk:n≤k):sg a k=sg a n:=by
 have e:got a k=got a n:=by
  unfold got
  exact filter_congr fun x hx=>by
   have:=h x hx
   rw[decide_eq_true (by omega),decide_eq_true this]
 unfold sg cnt sm
 rw[e]
theorem zgk(a:List Int)(n:Nat):zan a (n+1)=zan a n++[sg a ((n:Int)+1)]:=by unfold zan;rw[range_succ,map_append];rfl
theorem zdE(a:List Int)(n:Nat):(zan a n).length=n:=by unfold zan;simp
theorem zdo:∀{xs ys:List Sg}{x y:Sg},xs.length=ys.length→(x=y∨xs≠ys)→zX (xs++[x]) (ys++[y])=zX xs ys
 | [],[],x,y,_,h=>by
   rcases h with h | h
   ·subst h;show(if x=x then false else olt x x)=false;rw[if_pos rfl]
   ·exact absurd rfl h
 | p::xs,q::ys,x,y,hl,h=>by
   rw[cons_append,cons_append,zX,zX]
   by_cases e:p=q
   ·subst e
    rw[if_pos rfl,if_pos rfl]
    exact zdo (by simpa using hl) (h.imp id fun z w=>z (by rw[w]))
   ·rw[if_neg e,if_neg e]
theorem zc9{a b:List Int}{n:Nat}(h1:1≤n)(ha:∀x∈a,x≤n)(hb:∀x∈b,x≤n):∀k,yi a b (n+k)=yi a b n
 | 0=>rfl
 | k+1=>by
   rw[←zc9 h1 ha hb k]
   show zX (zan a ((n+k)+1)) (zan b ((n+k)+1))=_
   rw[zgk,zgk]
   refine zdo (by rw[zdE,zdE]) ?_
   by_cases e:zan a (n+k)=zan b (n+k)
   ·left
    have:(zan a (n+k))[n-1]? = (zan b (n+k))[n-1]? := by rw[e]
    unfold zan at this
    rw[getElem?_map,getElem?_map,List.getElem?_range (by omega)] at this
    have this:sg a (((n-1:Nat):Int)+1)=sg b (((n-1:Nat):Int)+1):=Option.some.inj this
    have en:((n-1:Nat):Int)+1=(n:Int):=by omega
    rw[en] at this
    rw[sg_high ha (by omega),sg_high hb (by omega)]
    exact this
   ·exact .inr e
theorem ahead_any{a b:List Int}{n m:Nat}(h1:1≤n)(hm:1≤m)(ha:∀x∈a,x≤n∧x≤m)(hb:∀x∈b,x≤n∧x≤m):yi a b n=yi a b m:=by
 rcases Nat.le_total n m with h | h
 ·obtain⟨k,rfl⟩:=Nat.exists_eq_add_of_le h
  exact(zc9 h1 (fun x hx=>(ha x hx).1) (fun x hx=>(hb x hx).1) k).symm
 ·obtain⟨k,rfl⟩:=Nat.exists_eq_add_of_le h
  exact zc9 hm (fun x hx=>(ha x hx).2) (fun x hx=>(hb x hx).2) k
def word:Sg→Sg→Str
 | some p,some q=>if p.1=q.1 then "sum" else "count"
 | _,_=> "half"
def zcr(a b:List Int)(n:Nat):Option (Nat×Str)→Prop
 | none=>∀k:Nat,1≤k→k≤n→sg a k=sg b k
 | some r=>1≤r.1∧r.1≤n∧(∀j:Nat,1≤j→j<r.1→sg a j=sg b j)∧sg a r.1≠sg b r.1∧r.2=word (sg a r.1) (sg b r.1)
theorem zeO:∀{xs ys:List Sg}(k:Nat)(h1:k<xs.length)(h2:k<ys.length),(∀j,j<k→xs[j]? = ys[j]?)→xs[k]≠ys[k]→zX xs ys=olt xs[k] ys[k]
 | x::xs,y::ys,0,_,_,_,hne=>by rw[zX,if_neg (show ¬x=y from hne)];rfl
 | x::xs,y::ys,k+1,h1,h2,he,hne=>by
   have e:x=y:=by have:=he 0 (by omega);simpa using this
   rw[zX,if_pos e]
   exact zeO k (by simpa using h1) (by simpa using h2) (fun j hj=>by have:=he (j+1) (by omega);simpa using this) (by simpa using hne)
theorem zdr:∀(xs:List Sg),zX xs xs=false
 | []=>rfl
 | x::xs=>by rw[zX,if_pos rfl];exact zdr xs
theorem zeL(a:List Int){n k:Nat}(h:k<n):(zan a n)[k]? = some (sg a ((k:Int)+1)):=by
 unfold zan
 rw[getElem?_map,List.getElem?_range h]
 rfl
theorem zi3{a b:List Int}{n:Nat}(h:zcr a b n none):yi a b n=false:=by
 have e:zan a n=zan b n:=by
  unfold zan
  refine map_congr_left fun i hi=>?_
  have hi:=List.mem_range.mp hi
  have:=h (i+1) (by omega) (by omega)
  have ei:((i+1:Nat):Int)=(i:Int)+1:=by omega
  rw[ei] at this
  exact this
 unfold yi
 rw[e]
 exact zdr _
theorem zdf{a b:List Int}{n:Nat}{r:Nat×Str}(h:zcr a b n (some r)):yi a b n=olt (sg a r.1) (sg b r.1):=by
 obtain⟨k,w⟩:=r
 obtain⟨a1,a2,a3,a4,a5⟩:=h
 dsimp only at a1 a2 a3 a4 a5 ⊢
 obtain⟨j,rfl⟩:∃j,k=j+1:=⟨k-1,by omega⟩
 have ej:((j+1:Nat):Int)=(j:Int)+1:=by omega
 have l1:j<(zan a n).length:=by rw[zdE];omega
 have l2:j<(zan b n).length:=by rw[zdE];omega
 have g1:(zan a n)[j]=sg a ((j+1:Nat):Int):=by
  have:=zeL a (n:=n) (k:=j) (by omega)
  rw[getElem?_eq_getElem l1] at this
  rw[ej];exact Option.some.inj this
 have g2:(zan b n)[j]=sg b ((j+1:Nat):Int):=by
  have:=zeL b (n:=n) (k:=j) (by omega)
  rw[getElem?_eq_getElem l2] at this
  rw[ej];exact Option.some.inj this
 unfold yi
 rw[zeO j l1 l2 (fun i hi=>?_) (by rw[g1,g2];exact a4),g1,g2]
 rw[zeL a (by omega),zeL b (by omega)]
 have:=a3 (i+1) (by omega) (by omega)
 have ei:((i+1:Nat):Int)=(i:Int)+1:=by omega
 rw[ei] at this
 rw[this]
end M6
namespace L2
open PySem
end L2
namespace M6
open PySem L2 M3 M5
def zR(cs:List (List Int))(us:List Int):List Int:=us.map fun c=>1+((us.filter fun d=>yi (zA cs d) (zA cs c) us.length).length:Int)
theorem zaN{cs:List (List Int)}{us:List Int}{c:Int}(hp:∀d∈cs,d.Perm us)(hc:c∈us):∀x∈zA cs c,1≤x∧x≤us.length:=fun x hx=>by
 unfold zA at hx
 obtain⟨d,hd,rfl⟩:=List.mem_map.mp hx
 have h:=hp d hd
 have:d.idxOf c<d.length:=List.idxOf_lt_length_of_mem (h.mem_iff.mpr hc)
 have:=h.length_eq
 omega
theorem zib{cs:List (List Int)}{c:Int}(h:1≤cs.length):zA cs c≠[]:=fun e=>by
 have:=zaI cs c
 rw[e] at this
 simp at this
 omega
theorem key_cs{cs:List (List Int)}{us:List Int}{c d:Int}(hp:∀d∈cs,d.Perm us)(h1:1≤cs.length)(hc:c∈us)(hd:d∈us):HT.lexLt (key (zA cs c) us.length) (key (zA cs d) us.length)=yi (zA cs c) (zA cs d) us.length:=by
 obtain⟨f,f1,f2,f3⟩:=zh6 (zib h1) (zaN hp hc)
 obtain⟨g,g1,g2,g3⟩:=zh6 (zib h1) (zaN hp hd)
 exact key_ahead f1 g1 f3 g3 f2 g2
theorem zgQ{cs:List (List Int)}{us:List Int}(hp:∀d∈cs,d.Perm us)(h1:1≤cs.length):spots cs us=zR cs us:=by
 unfold spots zR zdO
 rw[map_map]
 refine map_congr_left fun c hc=>?_
 show 1+(M5.zc0 (us.map fun c=>key (zA cs c) us.length) (key (zA cs c) us.length):Int)=_
 unfold M5.zc0
 rw[filter_map,length_map]
 congr 3
 exact filter_congr fun d hd=>key_cs hp h1 hd hc
theorem zc2(cs:List (List Int))(us:List Int):(zR cs us).length=us.length:=by unfold zR;simp
theorem word_symm(p q:Sg):word p q=word q p:=by
 cases p with
 | none=>cases q <;> rfl
 | some p=>cases q with
   | none=>rfl
   | some q =>
     show(if p.1=q.1 then("sum":Str)else("count":Str))=if q.1=p.1 then("sum":Str)else("count":Str)
     by_cases h:p.1=q.1
     ·rw[if_pos h,if_pos h.symm]
     ·rw[if_neg h,if_neg fun z=>h z.symm]
theorem zhN{a b:List Int}{n:Nat}{r:Option (Nat×Str)}(h:zcr a b n r):zcr b a n r:=by
 cases r with
 | none=>exact fun k h1 h2=>(h k h1 h2).symm
 | some r=>exact⟨h.1,h.2.1,fun j h1 h2=>(h.2.2.1 j h1 h2).symm,fun z=>h.2.2.2.1 z.symm,by rw[word_symm];exact h.2.2.2.2⟩
end M6
namespace L2
open PySem
end L2
namespace M3
open PySem L2
theorem zhG{a b:List Int}(h:a.Perm b)(n:Int):cnt a n=cnt b n:=(h.filter _).length_eq
theorem zfF(a b:List Int)(n:Int):cnt (a++b) n=cnt a n+cnt b n:=by
 unfold cnt got
 rw[filter_append,length_append]
theorem isF_perm{a b:List Int}(h:a.Perm b){f:Int}(hf:isF a f):isF b f:=by
 unfold isF at *
 rw[←zhG h,←zhG h,←h.length_eq]
 exact hf
theorem zi4{ns:List Int}(hs:ns.Pairwise (·≤ ·))(hne:ns≠[]):isF ns (ns.getD (ns.length/2) 0):=by
 have hn:=List.length_pos_iff.mpr hne
 have hk:ns.length/2<ns.length:=by omega
 generalize hK:ns.length/2=k at hk ⊢
 have e:ns=ns.take k++ns.drop k:=(List.take_append_drop k ns).symm
 have ed:ns.drop k=ns.getD k 0::ns.drop (k+1):=by rw[zeK hk];exact drop_eq_getElem_cons hk
 generalize ns.getD k 0=f at ed ⊢
 have lt:(ns.take k).length=k:=by rw[length_take];omega
 rw[e] at hs
 obtain⟨h1,h2,h3⟩:=List.pairwise_append.mp hs
 rw[ed] at h2 h3
 have h4:=List.pairwise_cons.mp h2
 unfold isF
 constructor
 ·have a1:cnt (ns.take k) f=k:=by rw[zfz fun x hx=>h3 x hx f (mem_cons_self ..),lt]
  have a2:1≤cnt (ns.drop k) f:=by
   rw[ed]
   unfold cnt got
   rw[filter_cons,if_pos (decide_eq_true (Int.le_refl f)),length_cons]
   omega
  have a3:cnt ns f=cnt (ns.take k) f+cnt (ns.drop k) f:=by rw[←zfF,←e]
  omega
 ·have a1:=zeS (ns.take k) (f-1)
  have a2:cnt (ns.drop k) (f-1)=0:=by
   refine zhy fun x hx=>?_
   rw[ed] at hx
   rcases List.mem_cons.mp hx with z | z
   ·omega
   ·have:=h4.1 x z;omega
  have a3:cnt ns (f-1)=cnt (ns.take k) (f-1)+cnt (ns.drop k) (f-1):=by rw[←zfF,←e]
  omega
end M3
namespace M6
open PySem L2 M3 M5
def zia(a b:List Int)(f:Int):Option Int→Prop
 | none=>∀k,f≤k→cnt a k=cnt b k∧sm a k=sm b k
 | some n=>f≤n∧n≤24∧(∀j,f≤j→j<n→cnt a j=cnt b j∧sm a j=sm b j)∧¬(cnt a n=cnt b n∧sm a n=sm b n)
theorem zbK{a:List Int}{f j:Int}(hf:isF a f)(hj:j<f):sg a j=none:=by
 refine sg_none ?_
 have:=zbs (ms:=a) (show j≤f-1 by omega)
 have:=hf.2
 omega
theorem zbT{a:List Int}{f j:Int}(hf:isF a f)(hj:f≤j):sg a j=some ((cnt a j:Int),sm a j):=by
 refine sg_some ?_
 have:=zbs (ms:=a) hj
 have:=hf.1
 omega
theorem part_lt{a b:List Int}{f g:Int}(hf:isF a f)(hg:isF b g)(h:f<g)(h1:1≤f)(h2:f≤24):zcr a b 24 (some (f.toNat,"half")):=by
 have e:((f.toNat:Nat):Int)=f:=by omega
 refine⟨by dsimp only;omega,by dsimp only;omega,fun j j1 j2=>?_,?_,?_⟩
 ·dsimp only at j2
  rw[zbK hf (by omega),zbK hg (by omega)]
 ·dsimp only
  rw[e,zbT hf (Int.le_refl _),zbK hg h]
  exact fun z=>nomatch z
 ·dsimp only
  rw[e,zbT hf (Int.le_refl _),zbK hg h]
  rfl
theorem part_gt{a b:List Int}{f g:Int}(hf:isF a f)(hg:isF b g)(h:g<f)(h1:1≤g)(h2:g≤24):zcr a b 24 (some (g.toNat,"half")):=zhN (part_lt hg hf h h1 h2)
theorem part_none{a b:List Int}{f:Int}(hf:isF a f)(hg:isF b f)(h:zia a b f none):zcr a b 24 none:=fun k k1 k2=>by
 by_cases c:(k:Int)<f
 ·rw[zbK hf c,zbK hg c]
 ·obtain⟨e1,e2⟩:=h k (by omega)
  rw[zbT hf (by omega),zbT hg (by omega),e1,e2]
theorem part_some{a b:List Int}{f n:Int}(hf:isF a f)(hg:isF b f)(h1:1≤f)(h:zia a b f (some n)):zcr a b 24 (some (n.toNat,if(cnt a n:Int)=cnt b n then "sum" else "count")):=by
 obtain⟨a1,a2,a3,a4⟩:=h
 have e:((n.toNat:Nat):Int)=n:=by omega
 refine⟨by dsimp only;omega,by dsimp only;omega,fun j j1 j2=>?_,?_,?_⟩
 ·dsimp only at j2
  by_cases c:(j:Int)<f
  ·rw[zbK hf c,zbK hg c]
  ·obtain⟨e1,e2⟩:=a3 j (by omega) (by omega)
   rw[zbT hf (by omega),zbT hg (by omega),e1,e2]
 ·dsimp only
  rw[e,zbT hf a1,zbT hg a1]
  intro z
  injection z with z
  injection z with z1 z2
  exact a4 ⟨by omega,z2⟩
 ·dsimp only
  rw[e,zbT hf a1,zbT hg a1]
  rfl
theorem ahead_lt{a b:List Int}{f g:Int}(hf:isF a f)(hg:isF b g)(h:f<g)(h1:1≤f)(h2:f≤24):yi a b 24=true:=by
 rw[zdf (part_lt hf hg h h1 h2)]
 dsimp only
 have e:((f.toNat:Nat):Int)=f:=by omega
 rw[e,zbT hf (Int.le_refl _),zbK hg h]
 rfl
theorem ahead_gt{a b:List Int}{f g:Int}(hf:isF a f)(hg:isF b g)(h:g<f)(h1:1≤g)(h2:g≤24):yi a b 24=false:=by
 rw[zdf (part_gt hf hg h h1 h2)]
 dsimp only
 have e:((g.toNat:Nat):Int)=g:=by omega
 rw[e,zbK hf h]
 rfl
theorem ahead_at{a b:List Int}{f n:Int}(hf:isF a f)(hg:isF b f)(h1:1≤f)(h:zia a b f (some n)):yi a b 24=if(cnt a n:Int)=cnt b n then decide (sm a n<sm b n)else decide ((cnt b n:Int)<cnt a n):=by
 rw[zdf (part_some hf hg h1 h)]
 dsimp only
 have e:((n.toNat:Nat):Int)=n:=by have:=h.1;omega
 rw[e,zbT hf h.1,zbT hg h.1]
 show(decide ((cnt b n:Int)<cnt a n) || (decide ((cnt a n:Int)=cnt b n) && decide (sm a n<sm b n)))=_
 by_cases c:(cnt a n:Int)=cnt b n
 ·rw[if_pos c,decide_eq_true c,decide_eq_false (show ¬(cnt b n:Int)<cnt a n by omega)]
  rfl
 ·rw[if_neg c,decide_eq_false c,Bool.false_and,Bool.or_false]
theorem ziQ{a b:List Int}{f M:Int}(ha:∀x∈a,x≤M)(hb:∀x∈b,x≤M)(hM:f≤M)(h:∀j,f≤j→j≤M→cnt a j=cnt b j∧sm a j=sm b j):zia a b f none:=fun k hk=>by
 by_cases c:k≤M
 ·exact h k hk c
 ·have ea:got a k=got a M:=by
   unfold got
   exact filter_congr fun x hx=>by have:=ha x hx;rw[decide_eq_true (by omega),decide_eq_true this]
  have eb:got b k=got b M:=by
   unfold got
   exact filter_congr fun x hx=>by have:=hb x hx;rw[decide_eq_true (by omega),decide_eq_true this]
  have:=h M hM (Int.le_refl _)
  unfold cnt sm at *
  rw[ea,eb]
  exact this
theorem places_24{cs:List (List Int)}{us:List Int}(hp:∀d∈cs,d.Perm us)(h1:1≤us.length)(h24:us.length≤24):zR cs us=us.map fun c=>1+(((us.map (zA cs)).filter fun r=>yi r (zA cs c) 24).length:Int):=by
 unfold zR
 refine map_congr_left fun c hc=>?_
 rw[filter_map,length_map]
 congr 3
 refine filter_congr fun d hd=>?_
 refine ahead_any h1 (by omega) (fun x hx=>?_) (fun x hx=>?_)
 ·have:=zaN hp hd x hx;omega
 ·have:=zaN hp hc x hx;omega
end M6
namespace L2
open PySem
theorem Sh.cardsIn_perm{S:Sh}(ok:S.Ok):∀d∈S.cardsIn,d.Perm S.couples:=fun d hd=>by
 obtain⟨j,hj,rfl⟩:=List.mem_map.mp hd
 have h2:=(List.mem_filter.mp hj).2
 cases e:S.card j with
 | none=>rw[e] at h2;cases h2
 | some c=>exact(ok.cd j c e).2
theorem Sh.cardsIn_len(S:Sh):S.cardsIn.length=S.handed.length:=by unfold Sh.cardsIn;simp
def Sh.cardsWo(S:Sh)(j:Str):List (List Int):=(S.handed.filter fun i => !decide (i=j)).map fun i=>(S.card i).getD []
theorem Sh.row_some{S:Sh}(ok:S.Ok)(j:Str):(!decide ((S.card j).getD []=[]))=(S.card j).isSome:=by
 cases e:S.card j with
 | none=>rfl
 | some c=>rw[show(some c).getD ([]:List Int)=c from rfl,decide_eq_false (ok.full e)];rfl
theorem Sh.cardsIn_rows{S:Sh}(ok:S.Ok):S.cardsIn=S.rows.filter fun d => !decide (d=[]):=by
 unfold Sh.cardsIn Sh.handed Sh.rows
 rw[filter_map]
 congr 1
 exact filter_congr fun j _=>(Sh.row_some ok j).symm
theorem comp_some{K:Frag}{a:Addr}{ls:List Addr}{cs:List (List Int)}{c:St}{tc:TT}{te:TE}{H:Hp}{fin:List V→Hp→Prop}(hA:SqL K H a (ls.map V.ref))(hR:All2 (IL K H) ls cs)(hz:cs.length≤1000)
 (htc:∀(m:Addr)(d:List Int)(H':Hp)(Q:Bool→Hp→Prop),SqL K H' m (d.map V.int)→(∀H2,Same H' H2→Q (!decide (d=[])) H2)→tc (some (.ref m)::c) H' Q)
 (hte:∀(m:Addr)(H':Hp)(Q:VK),Q (.ref m) H'→te (some (.ref m)::c) H' Q)
 (hd:∀(ks:List Addr)(H':Hp),Same H H'→All2 (IL K H') ks (cs.filter fun d => !decide (d=[]))→fin (ks.map V.ref) H'):zcv (Itl K a) c tc te H fin:=by
 have hln:=zx
 have hl:=hR.length
 refine wz (xs:=ls.map V.ref) (fun i ys H2=>∃ks:List Addr,ys=ks.map V.ref∧Same H H2∧All2 (IL K H2) ks ((cs.take i).filter fun d => !decide (d=[]))) ⟨[],rfl,Same.refl _,.nil⟩ ?_ (by rw[length_map];omega) ?_ ?_
 ·rintro i ys H2 hi ⟨ks,rfl,s2,r2⟩
  refine⟨s2.seq hA,?_⟩
  have h3:=r2.length
  have h4:=length_filter_le (fun d:List Int => !decide (d=[])) (cs.take i)
  rw[length_take] at h4
  rw[length_map]
  omega
 ·rintro i x ys H2 hx ⟨ks,rfl,s2,r2⟩
  obtain⟨m,em,rfl⟩:=zaf hx
  obtain⟨d,ed,rd⟩:=hR.getL em
  refine htc m d H2 _ (s2.seq rd) fun H3 s3=>?_
  have e:(cs.take (i+1)).filter (fun d => !decide (d=[]))=(cs.take i).filter (fun d => !decide (d=[]))++if(!decide (d=[]))=true then [d] else []:=by
   rw[take_succ,ed,filter_append]
   congr 1
   show filter _ [d]=_
   rw[filter_cons]
   rfl
  refine zge (fun hb=>?_) (fun hb=>?_)
  ·refine hte m H3 _ ⟨ks++[m],by rw[map_append];rfl,s2.trans s3,?_⟩
   rw[e,if_pos hb]
   exact(r2.imp fun _ _=>IL.stays K _ _ _ _ s3).snoc ((s2.trans s3).seq rd)
  ·refine⟨ks,rfl,s2.trans s3,?_⟩
   rw[e,if_neg (by rw[hb];exact Bool.false_ne_true),append_nil]
   exact r2.imp fun _ _=>IL.stays K _ _ _ _ s3
 ·rintro ys H2 ⟨ks,rfl,s2,r2⟩
  rw[length_map,hl,take_length] at r2
  exact hd ks H2 s2 r2
end L2
namespace M6
open PySem L2 M3 M5
def front(cs:List (List Int))(us:List Int)(c:Int):Nat:=(us.filter fun d=>yi (zA cs d) (zA cs c) us.length).length
end M6
namespace L2
open PySem
end L2
namespace M6
open PySem L2 M3 M5
variable {cs:List (List Int)}{us:List Int}{c:Int}
end M6
namespace L2
open PySem
end L2
namespace M6
open PySem L2 M3 M5
end M6
namespace L2
open PySem
end L2
namespace M6
open PySem L2 M3 M5
def partFind(a b:List Int)(n:Nat):Option (Nat×Str):=((List.range n).find? fun(i:Nat)=>decide (sg a ((i:Int)+1)≠sg b ((i:Int)+1))).map fun(i:Nat)=>(i+1,word (sg a ((i:Int)+1)) (sg b ((i:Int)+1)))
abbrev R4:=Int×Int×Int×Str
def nb(cs:List (List Int))(us:List Int)(p q:Int×Int):Option R4:=if p.1=q.1 then none else(partFind (zA cs p.2) (zA cs q.2) us.length).map fun r=>(p.2,q.2,(r.1:Int),r.2)
def zhe(cs:List (List Int))(us:List Int)(c:Int):Int:=1+((us.filter fun d=>yi (zA cs d) (zA cs c) us.length).length:Int)
theorem zir{cs:List (List Int)}{us:List Int}{p:Int×Int}(h:p∈rows (zR cs us) us):p.2∈us∧p.1=zhe cs us p.2:=by
 unfold rows at h
 obtain⟨i,_,hi⟩:=List.mem_flatMap.mp h
 have hz:=(List.mem_filter.mp hi).1
 have e:(zR cs us).zip us=us.map fun c=>(zhe cs us c,c):=by
  show(us.map fun c=>zhe cs us c).zip us=_
  rw[List.zip_map_left]
  have:us.zip us=us.map fun c=>(c,c):=by
   induction us with
   | nil=>rfl
   | cons a us ih=>rw[List.zip_cons_cons,map_cons];congr 1;rw[List.zip_eq_zipWith,List.zipWith_self]
  rw[this,map_map]
  rfl
 rw[e] at hz
 obtain⟨c,hc,rfl⟩:=List.mem_map.mp hz
 exact⟨hc,rfl⟩
end M6
namespace L2
open PySem
def F4(K:Frag)(H:Hp)(l:Addr)(p:M6.R4):Prop:=SqT K H l [.int p.1,.int p.2.1,.int p.2.2.1,.str p.2.2.2]
end L2
namespace M9
open PySem L2 M3 M5
end M9
namespace M6
open PySem L2 M3 M5 M9
variable {cs:List (List Int)}{us:List Int}{c d f:Int}
end M6
namespace L2
open PySem
end L2
namespace M6
open PySem L2 M3 M5
def Rise1(c:Int)(d d':List Int):Prop:=d'.Perm d∧d'.idxOf c≤d.idxOf c∧∀e∈d,e≠c→d.idxOf e≤d'.idxOf e
theorem Rise1.nil{c:Int}{d d':List Int}(h:Rise1 c d d'):d=[]↔d'=[]:=by
 constructor
 ·intro e;rw[e] at h;exact List.Perm.eq_nil h.1
 ·intro e;rw[e] at h;exact List.Perm.eq_nil h.1.symm
variable {cs cs':List (List Int)}{us:List Int}{c:Int}
end M6
namespace L2
open PySem M6 M5
def Sh.more(S:Sh)(n:Nat):Sh:={ S with taken:=S.taken+n }
section
variable {S:Sh}{j:Str}{d:List Int}{k:Nat}
end
end L2
namespace M6
open PySem L2 M3 M5
section
variable {A B C:List Int}{c:Int}
end
end M6
namespace L2
open PySem
def firstsK(ps us:List Int)(n:Nat):List Int:=((List.range n).filter fun k=>decide (ps.getD k 0=1)).map fun k=>us.getD k 0
def firstsC(cs:List (List Int))(us:List Int):List Int:=firstsK (M6.zR cs us) us us.length
def Sh.decide(S:Sh):List Str:=S.handed.filter fun j => !Decidable.decide (firstsC (S.cardsWo j) S.couples=firstsC S.cardsIn S.couples)
end L2
namespace M6
open PySem L2 M3 M5
variable {cs:List (List Int)}{us:List Int}{c:Int}
end M6
namespace L2
open PySem
end L2
namespace M6
open PySem L2 M3 M5
theorem zip_fn(f:Int→Int):∀us:List Int,(us.map f).zip us=us.map fun c=>(f c,c)
 | []=>rfl
 | c::us=>by rw[map_cons,List.zip_cons_cons,zip_fn f us];rfl
def blk(f:Int→Int)(us:List Int)(i:Nat):List (Int×Int):=(us.filter fun c=>decide (f c=(i:Int)+1)).map fun c=>(f c,c)
theorem rows_blk(f:Int→Int)(us:List Int):rows (us.map f) us=(List.range us.length).flatMap (blk f us):=by
 unfold rows blk
 congr 1
 funext i
 rw[zip_fn,filter_map]
 rfl
variable {cs:List (List Int)}{us:List Int}{c:Int}
def plc(cs:List (List Int))(us:List Int)(c:Int):Int:=1+(front cs us c:Int)
theorem zhW(cs:List (List Int))(us:List Int):rows (zR cs us) us=(List.range us.length).flatMap (blk (plc cs us) us):=rows_blk _ _
end M6
namespace L2
open PySem
theorem SameN.lst{H H':Hp}(s:SameN H H'){a:Addr}{xs:List V}(e:H a=some (.lst xs)):H' a=some (.lst xs):=s.1 _ _ e fun _ z=>by cases z
theorem SameN.seq{K:Frag}{H H':Hp}(s:SameN H H'){a:Addr}{xs:List V}(h:SqL K H a xs):SqL K H' a xs:=s.same.seq h.noT
end L2
namespace M6
open PySem L2 M3 M5 M9
section
variable {φ:Sg→Sg}{cs cs':List (List Int)}{us:List Int}
end
end M6
namespace M6
open PySem L2 M3 M5
section
variable {cs:List (List Int)}{us d:List Int}
end
end M6
namespace L2
open PySem
end L2
namespace M6
open PySem L2 M3 M5
def sl:Str:=Str.ofString "/"
def wM:Str:=Str.ofString " "
theorem emp_app(y:Str):Str.empty++y=y:=by
 refine PySem.Str.ext' ?_
 show(#[]:Array Nat)++y.cps=y.cps
 simp
end M6
namespace L2
open PySem
inductive WordOf:V→Str→Prop
 | int {i:Int}:i.natAbs≤100000→WordOf (.int i) (tN i)
 | str {y:Str}:WordOf (.str y) y
theorem zfw:∀{ns:List Int},(∀n∈ns,n.natAbs≤100000)→All2 WordOf (ns.map V.int) (ns.map tN)
 | [],_=>.nil
 | n::ns,h=>.cons (.int (h n (mem_cons_self ..))) (zfw fun m hm=>h m (mem_cons_of_mem _ hm))
theorem zfp:∀(ts:List Str),All2 WordOf (ts.map V.str) ts
 | []=>.nil
 | t::ts=>.cons .str (zfp ts)
theorem zeR{K:Frag}{a:Addr}{ls:List Addr}{rs:List (Int×Int)}{f:Int×Int→Str}{c:St}{te:TE}{H:Hp}{fin:List V→Hp→Prop}(hA:SqL K H a (ls.map V.ref))(hR:All2 (TPl K H) ls rs)(hz:rs.length≤1000)
 (hte:∀(p:Int×Int)(H':Hp)(Q:VK),p∈rs→Same H H'→(∀H2,Same H' H2→Q (.str (f p)) H2)→te (some (.int p.1)::some (.int p.2)::c) H' Q)
 (hd:∀(H':Hp),Same H H'→fin ((rs.map f).map V.str) H'):zfv K (Itl K a) c tYes te H fin:=by
 have hln:=zx
 have hl:=hR.length
 refine zil (xs:=ls.map V.ref) (fun i ys H3=>Same H H3∧ys=((rs.take i).map f).map V.str) ⟨Same.refl _,rfl⟩ ?_ (by rw[length_map];omega) ?_ ?_
 ·rintro i ys H3 hi ⟨s3,rfl⟩
  refine⟨s3.seq hA,?_⟩
  rw[length_map,length_map,length_take]
  omega
 ·rintro i x ys H3 hx ⟨s3,rfl⟩
  obtain⟨p,ep,rfl⟩:=zaf hx
  obtain⟨m,em,rm⟩:=hR.getL ep
  refine⟨p,.int m.1,.int m.2,rfl,s3.seqT rm,hte m H3 _ (mem_of_getElem? em) s3 fun H4 s4=>⟨s3.trans s4,?_⟩⟩
  rw[take_succ,em,map_append,map_append]
  rfl
 ·rintro ys H3 ⟨s3,rfl⟩
  rw[length_map,hl,take_length]
  exact hd H3 s3
end L2
namespace M19
open PySem
theorem zbc(y x:PySem.Str)(z:PySem.Str)(r:List PySem.Str):Str.join y (x::z::r)=x++y++Str.join y (z::r):=rfl
theorem zfu(x y:PySem.Str):(x++y).cps.toList=x.cps.toList++y.cps.toList:=by
 show(x.cps++y.cps).toList=_
 simp
theorem zid{c:Nat}:∀{a b r q:List Nat},c∉a→c∉b→a++c::r=b++c::q→a=b∧r=q
 | [],[],r,q,_,_,h=>⟨rfl,by simpa using h⟩
 | [],y::b,r,q,_,hb,h=>by
   simp only[nil_append,cons_append,List.cons.injEq] at h
   exact absurd (h.1 ▸ mem_cons_self ..) hb
 | x::a,[],r,q,ha,_,h=>by
   simp only[nil_append,cons_append,List.cons.injEq] at h
   exact absurd (h.1 ▸ mem_cons_self ..) ha
 | x::a,y::b,r,q,ha,hb,h=>by
   simp only[cons_append,List.cons.injEq] at h
   obtain⟨e1,e2⟩:=zid (fun z=>ha (mem_cons_of_mem _ z)) (fun z=>hb (mem_cons_of_mem _ z)) h.2
   exact⟨by rw[h.1,e1],e2⟩
theorem no_c{c:Nat}{a b r:List Nat}(ha:c∉a)(h:a=b++c::r):False:=ha (by rw[h];simp)
theorem zjk{x y:PySem.Str}(h:x.cps.toList=y.cps.toList):x=y:=by
 cases x;cases y
 have:_=_:=Array.toList_inj.mp h
 simpa using this
theorem zcS(c:Nat)(x z:PySem.Str)(r:List PySem.Str):(Str.join ⟨#[c]⟩ (x::z::r)).cps.toList=x.cps.toList++c::(Str.join ⟨#[c]⟩ (z::r)).cps.toList:=by
 rw[zbc,zfu,zfu,append_assoc]
 rfl
theorem ziE{c:Nat}:∀{ws vs:List PySem.Str},(∀w∈ws,c∉w.cps.toList)→(∀w∈vs,c∉w.cps.toList)→ws≠[]→vs≠[]→Str.join ⟨#[c]⟩ ws=Str.join ⟨#[c]⟩ vs→ws=vs
 | [],_,_,_,h,_,_=>absurd rfl h
 | _::_,[],_,_,_,h,_=>absurd rfl h
 | [x],[y],_,_,_,_,h=>by
   have h:x=y:=h
   rw[h]
 | [x],y::z::r,hx,_,_,_,h=>by
   have:=congrArg (fun s:PySem.Str=>s.cps.toList) h
   rw[zcS] at this
   exact(no_c (hx x (mem_cons_self ..)) this).elim
 | x::z::r,[y],_,hy,_,_,h=>by
   have:=congrArg (fun s:PySem.Str=>s.cps.toList) h
   rw[zcS] at this
   exact(no_c (hy y (mem_cons_self ..)) this.symm).elim
 | x::z::r,y::z'::r',hx,hy,_,_,h=>by
   have:=congrArg (fun s:PySem.Str=>s.cps.toList) h
   rw[zcS,zcS] at this
   obtain⟨e1,e2⟩:=zid (hx x (mem_cons_self ..)) (hy y (mem_cons_self ..)) this
   have ih:=ziE (ws:=z::r) (vs:=z'::r') (fun w hw=>hx w (mem_cons_of_mem _ hw)) (fun w hw=>hy w (mem_cons_of_mem _ hw)) (by simp) (by simp) (zjk e2)
   rw[zjk e1,ih]
theorem split_ne(x y:PySem.Str):Txt.split x y≠[]:=by
 unfold Txt.split
 split
 ·simp
 ·split
  ·simp
  ·rw[StrLaws.partsBetween_eq]
   obtain⟨p,r,e⟩:=StrLaws.partsFrom_ne x y.length 0 (Builtin.Str.occurrences x y 0 x.length (x.length+1))
   rw[e]
   simp
theorem zjl{c:Nat}{ws:List PySem.Str}(h:∀w∈ws,c∉w.cps.toList)(h0:ws≠[]):Txt.split (Str.join ⟨#[c]⟩ ws) ⟨#[c]⟩=ws :=
 ziE (StrLaws.split_free _ c) h (split_ne _ _) h0 (StrLaws.join_split _ _)
end M19
namespace M20
open PySem L2
def BARE:List Str:=["seal","couples","places","parts","deciders"]
def zbo:List Str:=["card","show","leave","step"]
def zch:List Str:=["strike","step","row"]
def zbY(n:Int):Str:=Str.ofString (toString n)
def wM:Str:=⟨#[32]⟩
theorem ze1:(" ":Str)=wM:=by decide +kernel
theorem ziC:∀m:Fin 1000,0<m.val→((toDigits 10 m.val).map Char.toNat).length≤3∧((toDigits 10 m.val).map Char.toNat).head? ≠ some 48∧((toDigits 10 m.val).map Char.toNat)≠[]∧(((toDigits 10 m.val).map Char.toNat).all fun c=>decide (48≤c) && decide (c≤57))=true:=by decide +kernel
theorem strN_list{n:Int}(h0:0≤n):(zbY n).cps.toList=(toDigits 10 n.toNat).map Char.toNat:=by
 obtain⟨m,rfl⟩:=Int.eq_ofNat_of_zero_le h0
 exact PySem.W.KIN.signs_num m
structure Num (z:Str):Prop where
 len:z.length≤3
 ex:∃c r,z.cps.toList=c::r∧c≠48
 all:∀c∈z.cps.toList,48≤c∧c≤57
theorem zfi(z:Str):z.length=z.cps.toList.length:=by simp[PySem.Str.length]
theorem zfj{n:Int}(h:1≤n∧n≤999):Num (zbY n):=by
 have e:=strN_list (n:=n) (by omega)
 obtain⟨d1,d2,d3,d4⟩:=ziC ⟨n.toNat,by omega⟩ (by show 0<n.toNat;omega)
 dsimp only at d1 d2 d3 d4
 rw[←e] at d1 d2 d3 d4
 refine⟨by rw[zfi];exact d1,?_,fun c hc=>?_⟩
 ·cases q:(zbY n).cps.toList with
  | nil=>exact absurd q d3
  | cons c r =>
    rw[q] at d2
    exact⟨c,r,rfl,fun z=>d2 (by rw[z];rfl)⟩
 ·have:=List.all_eq_true.mp d4 c hc
  simpa using this
theorem ziP{n:Int}(h:1≤n∧n≤999):PySem.intText? (zbY n)=some n:=PySem.W.KIN.num_reads (by omega) (by omega)
structure Wd (z:Str):Prop where
 ne:z≠Str.ofString ""
 no:(32:Nat)∉z.cps.toList
 len:z.length≤12
theorem zfA:(Str.ofString "").cps.toList=[]:=by decide +kernel
theorem strN_wd{n:Int}(h:1≤n∧n≤999):Wd (zbY n):=by
 have q:=zfj h
 obtain⟨c,r,e,_⟩:=q.ex
 refine⟨fun z=>?_,fun z=>?_,by have:=q.len;omega⟩
 ·rw[z,zfA] at e;cases e
 ·have:=q.all 32 z;omega
def inW(f:Str)(l:List Str):Bool:=inV (.str f) (l.map V.str)
def due(f:Str):Int:=if inW f zch=true then 1 else 0
structure Row (f j:Str) (ns:List Int):Prop where
 inAll:inW f (BARE++zbo++zch)=true
 fw:Wd f
 jud:inW f zbo=true→Wd j
 nojud:inW f zbo=false→j=Str.ofString ""
 due:f=Str.ofString "card"∨(ns.length:Int)=due f
 rng:∀n∈ns,1≤n∧n≤999
 len:ns.length≤24
def zap(f j:Str)(ns:List Int):List Str:=f::((if inW f zbo=true then [j] else [])++ns.map zbY)
def row(f j:Str)(ns:List Int):Str:=Str.join wM (zap f j ns)
theorem zfQ{f j:Str}{ns:List Int}(h:Row f j ns):∀w∈zap f j ns,Wd w:=fun w hw=>by
 unfold zap at hw
 rcases List.mem_cons.mp hw with e | hw
 ·rw[e];exact h.fw
 ·rcases List.mem_append.mp hw with hw | hw
  ·by_cases c:inW f zbo=true
   ·rw[if_pos c] at hw
    rw[List.mem_singleton.mp hw]
    exact h.jud c
   ·rw[if_neg c] at hw;cases hw
  ·obtain⟨n,hn,rfl⟩:=List.mem_map.mp hw
   exact strN_wd (h.rng n hn)
theorem zgz{f j:Str}{ns:List Int}(h:Row f j ns):(zap f j ns).length≤26:=by
 unfold zap
 have:=h.len
 rw[length_cons,length_append,length_map]
 split <;> simp <;> omega
theorem split_row{f j:Str}{ns:List Int}(h:Row f j ns):Txt.split (row f j ns) wM=zap f j ns :=
 M19.zjl (fun w hw=>(zfQ h w hw).no) (by unfold zap;simp)
theorem sum_le:∀(ws:List Str),(∀w∈ws,w.length≤12)→(ws.map (·.length)).sum≤12*ws.length
 | [],_=>le_refl _
 | w::ws,h=>by
   have:=sum_le ws fun x hx=>h x (mem_cons_of_mem _ hx)
   have:=h w (mem_cons_self ..)
   simp only[map_cons,List.sum_cons,length_cons]
   omega
theorem zje{ws:List Str}(h:∀w∈ws,w.length≤12):(Str.join wM ws).length≤13*ws.length:=by
 have:=StrLaws.join_length_le wM ws
 have h2:=sum_le ws h
 have e:wM.length=1:=rfl
 rw[e] at this
 omega
theorem row_len{f j:Str}{ns:List Int}(h:Row f j ns):(row f j ns).length≤338:=by
 have:=zje (ws:=zap f j ns) fun w hw=>(zfQ h w hw).len
 have:=zgz h
 unfold row
 omega
theorem no_empty{f j:Str}{ns:List Int}(h:Row f j ns):inV (.str (Str.ofString "")) ((zap f j ns).map V.str)=false:=by
 unfold inV
 rw[List.any_eq_false]
 intro y hy
 obtain⟨w,hw,rfl⟩:=List.mem_map.mp hy
 have:=(zfQ h w hw).ne
 show ¬(w==Str.ofString "")=true
 simpa using this
theorem zgp(ws:List Str):(ws.map V.str).all wt=true:=by
 rw[all_eq_true]
 intro y hy
 obtain⟨w,_,rfl⟩:=List.mem_map.mp hy
 rfl
def fig(c:Nat):Bool:=decide (48≤c) && decide (c≤57)
theorem le_0(c:Nat):(!decide ((⟨#[c]⟩:Str).cps.toList<("0":Str).cps.toList))=decide (48≤c):=by
 have e:("0":Str).cps.toList=[48]:=by decide +kernel
 rw[e]
 show(!decide ([c] < [48]))=_
 by_cases h:48≤c
 ·rw[decide_eq_true h,decide_eq_false];rfl
  simp[cons_lt_cons_iff];omega
 ·rw[decide_eq_false h,decide_eq_true];rfl
  simp[cons_lt_cons_iff];omega
theorem le_9(c:Nat):(!decide (("9":Str).cps.toList<(⟨#[c]⟩:Str).cps.toList))=decide (c≤57):=by
 have e:("9":Str).cps.toList=[57]:=by decide +kernel
 rw[e]
 show(!decide ([57] < [c]))=_
 by_cases h:c≤57
 ·rw[decide_eq_true h,decide_eq_false];rfl
  simp[cons_lt_cons_iff];omega
 ·rw[decide_eq_false h,decide_eq_true];rfl
  simp[cons_lt_cons_iff];omega
def L14:List Str:=["seal","couples","places","parts","deciders","show","leave","strike","row","step","card","card","card","step"]
def fineB(f:Str):Bool:=inW f (BARE++zbo++zch) && (f != Str.ofString "") && (!decide ((32:Nat)∈f.cps.toList)) && decide (f.length≤12) && (inW f ["show","leave","step","card"]==inW f zbo) && (inW f ["strike","row","step"]==inW f zch)
theorem L14_fine:L14.all fineB=true:=by decide +kernel
structure Fine (f:Str):Prop where
 inAll:inW f (BARE++zbo++zch)=true
 fw:Wd f
 jd:inW f ["show","leave","step","card"]=inW f zbo
 cp:inW f ["strike","row","step"]=inW f zch
theorem zeJ{f:Str}(h:f∈L14):Fine f:=by
 have:=List.all_eq_true.mp L14_fine f h
 unfold fineB at this
 simp only[Bool.and_eq_true,Bool.not_eq_true',bne_iff_ne,ne_eq,decide_eq_false_iff_not,decide_eq_true_eq,beq_iff_eq] at this
 obtain⟨⟨⟨⟨⟨a1,a2⟩,a3⟩,a4⟩,a5⟩,a6⟩:=this
 exact⟨a1,⟨a2,a3,a4⟩,a5,a6⟩
def pre(f j:Str):List Str:=f::(if inW f zbo=true then [j] else [])
end M20
namespace M6
open PySem L2
theorem zbQ(x y z:Str):x++y++z=x++(y++z):=M19.zjk (by simp only[M19.zfu,append_assoc])
theorem join_head(z x y:Str)(r:List Str):Str.join z ((x++z++y)::r)=x++z++Str.join z (y::r):=by
 cases r with
 | nil=>rfl
 | cons w r=>rw[M19.zbc,M19.zbc,zbQ,zbQ,zbQ,zbQ,zbQ]
theorem zeP(z:Str):∀(r:List Str)(x:Str),Builtin.Str.glued z (x::r)=Str.join z (x::r)
 | [],x=>rfl
 | y::r,x=>by
   have ih:=zeP z r (x++z++y)
   rw[M19.zbc,←join_head,←ih]
   rfl
theorem join_txt(z:Str)(ts:List Str):Txt.join z ts=Str.join z ts:=by
 cases ts with
 | nil=>rfl
 | cons x r=>exact zeP z r x
theorem blank_is:wM=M20.wM:=M20.ze1
theorem ziV:Str.ofString "card "=Str.ofString "card" ++ M20.wM:=by decide +kernel
theorem zh2:M20.inW (Str.ofString "card") M20.zbo=true:=by decide +kernel
theorem Row_card{j:Str}{us:List Int}(hj:M20.Wd j)(hr:∀n∈us,1≤n∧n≤999)(hl:us.length≤24):M20.Row (Str.ofString "card") j us :=
 ⟨by decide +kernel,(M20.zeJ (by decide)).fw,fun _=>hj,(fun z=>by rw[zh2] at z;cases z),.inl rfl,hr,hl⟩
theorem name_wd{j:Str}(h:M2.zcA j=true):M20.Wd j:=by
 obtain⟨⟨h1,h2⟩,h3⟩:=(M2.za8 j).mp h
 refine⟨fun z=>?_,fun z=>?_,by omega⟩
 ·rw[z,M20.zfi,M20.zfA] at h1
  simp at h1
 ·have:=h3 _ z
  revert this
  decide
end M6
namespace M6
open PySem L2 M3 M5
def zfR(c:Str):Str :=
 if c=("SheetSealed":Str)then Str.ofString "refused: sealed" else if c=("UnknownJudge":Str)then Str.ofString "refused: judge" else if c=("BadCard":Str)then Str.ofString "refused: card" else
 if c=("TooManyCards":Str)then Str.ofString "refused: full" else if c=("UnknownCouple":Str)then Str.ofString "refused: couple" else if c=("LastCouple":Str)then Str.ofString "refused: last" else
 if c=("NoCard":Str)then Str.ofString "refused: none" else if c=("TooFewCards":Str)then Str.ofString "refused: few" else Str.ofString "refused: top"
def okW(d:Int):Str:=if d=0 then Str.ofString "taken" else if d=1 then Str.ofString "struck" else Str.ofString "sealed"
def colon:Str:=Str.ofString ":"
def zcI(p:Int×Int):Str:=tN p.1++colon++tN p.2
theorem zd3:colon.length=1:=by decide +kernel
theorem zdD{n:Int}(h:1≤n∧n≤999):(tN n).length≤12:=(M20.strN_wd h).len
theorem zcR{p:Int×Int}(h1:1≤p.1∧p.1≤999)(h2:1≤p.2∧p.2≤999):(tN p.1).length≤12∧(tN p.2).length≤12∧(zcI p).length≤25:=by
 have a:=zdD h1
 have b:=zdD h2
 refine⟨a,b,?_⟩
 unfold zcI
 rw[wE,wE,zd3]
 omega
theorem zfl:M20.inW (Str.ofString "strike") M20.zbo=false:=by decide +kernel
theorem ziX(c:Int):Str.ofString "strike " ++ tN c=M20.row (Str.ofString "strike") (Str.ofString "") [c]:=by
 unfold M20.row M20.zap
 rw[zfl,if_neg Bool.false_ne_true]
 show _=Str.join M20.wM (Str.ofString "strike" :: [M20.zbY c])
 rw[M19.zbc]
 have e:Str.ofString "strike "=Str.ofString "strike" ++ M20.wM:=by decide +kernel
 rw[e]
 rfl
theorem zjf{c:Int}(h:1≤c∧c≤999):M20.Row (Str.ofString "strike") (Str.ofString "") [c] :=
 ⟨by decide +kernel,(M20.zeJ (by decide)).fw,(fun z=>by rw[zfl] at z;cases z),fun _=>rfl,.inr (by show(1:Int)=M20.due (Str.ofString "strike");decide +kernel),(fun n hn=>by rw[List.mem_singleton.mp hn];exact h),by show 1≤24;omega⟩
theorem zio:M20.row (Str.ofString "seal") (Str.ofString "") []=Str.ofString "seal"∧M20.row (Str.ofString "places") (Str.ofString "") []=Str.ofString "places":=by decide +kernel
theorem Row_seal:M20.Row (Str.ofString "seal") (Str.ofString "") [] :=
 ⟨by decide +kernel,(M20.zeJ (by decide)).fw,fun h=>absurd h (by decide +kernel),fun _=>rfl,.inr (by decide +kernel),(fun n hn=>by cases hn),by decide⟩
theorem zfb:M20.Row (Str.ofString "places") (Str.ofString "") [] :=
 ⟨by decide +kernel,(M20.zeJ (by decide)).fw,fun h=>absurd h (by decide +kernel),fun _=>rfl,.inr (by decide +kernel),(fun n hn=>by cases hn),by decide⟩
theorem row_words{j:Str}{us:List Int}:Str.ofString "card " ++ Txt.join wM (j::us.map tN)=M20.row (Str.ofString "card") j us:=by
 unfold M20.row M20.zap
 rw[zh2,if_pos rfl,join_txt,blank_is,ziV]
 show _=Str.join M20.wM (Str.ofString "card" :: j::us.map M20.zbY)
 rw[M19.zbc]
 rfl
end M6
namespace L2
open PySem
def Sh.refD(S:Sh)(d:Int)(j:Str)(c:Int)(ns:List Int):Option Str:=if d=0 then S.refuse j ns else if d=1 then S.refuseS c else if S.shut=true then some ("SheetSealed":Str)else none
def Sh.doD(S:Sh)(d:Int)(j:Str)(c:Int)(ns:List Int):Sh:=if d=0 then S.hand j ns else if d=1 then S.strike c else S.close
def Sh.dueD(S:Sh)(d:Int)(j:Str)(c:Int)(ns:List Int):Str:=match S.refD d j c ns with
 | some z=>M6.zfR z
 | none=>M6.okW d
theorem Sh.refD_cases{S:Sh}{d:Int}{j:Str}{c:Int}{ns:List Int}{z:Str}(h:S.refD d j c ns=some z)(hj:d=0→j∈S.panel∧S.taken<200):z= "SheetSealed"∨z= "BadCard"∨z= "UnknownCouple"∨z= "LastCouple":=by
 unfold Sh.refD at h
 split at h
 ·rename_i h0
  obtain⟨h1,h2⟩:=hj h0
  unfold Sh.refuse at h
  rw[if_pos h1] at h
  split at h
  ·cases h;exact .inl rfl
  ·first | rw[if_pos h1] at h | skip
   split at h
   ·rw[if_neg (by omega)] at h;cases h
   ·cases h;exact .inr (.inl rfl)
 ·split at h
  ·rcases Sh.refuseS_cases h with e | e | e
   ·exact .inl e
   ·exact .inr (.inr (.inl e))
   ·exact .inr (.inr (.inr e))
  ·split at h
   ·cases h;exact .inl rfl
   ·cases h
end L2
namespace M6
open M5
theorem zhf(xs:List Sg):zX xs xs=false:=by
 induction xs with
 | nil=>rfl
 | cons x xs ih=>rw[zX,if_pos rfl];exact ih
theorem zi0(a:List Int)(n:Nat):yi a a n=false:=zhf _
theorem zgI{α:Type}{p:α→Bool}:∀{l:List α}{x:α},x∈l→p x=false→(l.filter p).length<l.length
 | y::l,x,h,hp=>by
   rcases List.mem_cons.mp h with e | h
   ·subst e
    rw[filter_cons_of_neg (by rw[hp];exact Bool.false_ne_true),length_cons]
    exact Nat.lt_succ_of_le (length_filter_le _ _)
   ·have:=zgI h hp
    rw[filter_cons]
    split
    ·rw[length_cons,length_cons];omega
    ·rw[length_cons];omega
theorem zfo(cs:List (List Int))(us:List Int):∀k,k<us.length→1≤(zR cs us).getD k 0∧(zR cs us).getD k 0≤us.length:=fun k hk=>by
 have e:(zR cs us).getD k 0=1+((us.filter fun d=>yi (zA cs d) (zA cs us[k]) us.length).length:Int):=by
  unfold zR
  rw[getD_eq_getElem?_getD,getElem?_map,getElem?_eq_getElem hk]
  rfl
 have:=zgI (p:=fun d=>yi (zA cs d) (zA cs us[k]) us.length) (getElem_mem hk) (zi0 _ _)
 rw[e]
 omega
end M6
namespace M6
open PySem L2 M3 M5
theorem zgj{α:Type}{g g':Nat→List α}:∀l:List Nat,(∀i∈l,g' i=g i)→l.flatMap g'=l.flatMap g
 | [],_=>rfl
 | j::l,h=>by rw[flatMap_cons,flatMap_cons,h j (by simp),zgj l fun i hi=>h i (mem_cons_of_mem _ hi)]
theorem zhK{α:Type}{x:α}{g g':Nat→List α}{i0:Nat}:∀l:List Nat,l.Nodup→i0∈l→g' i0=x::g i0→(∀i,i≠i0→g' i=g i)→(l.flatMap g').Perm (x::l.flatMap g)
 | [],_,h,_,_=>by cases h
 | j::l,nd,h,h1,h2=>by
   obtain⟨n1,n2⟩:=List.nodup_cons.mp nd
   rw[flatMap_cons,flatMap_cons]
   by_cases e:j=i0
   ·subst e
    rw[h1,zgj l fun i hi=>h2 i (fun z=>n1 (z ▸ hi))]
    exact List.Perm.refl _
   ·have hm:i0∈l:=by
     rcases List.mem_cons.mp h with z | z
     ·exact absurd z.symm e
     ·exact z
    rw[h2 j e]
    exact((zhK l n2 hm h1 h2).append_left (g j)).trans List.perm_middle
theorem ziB(f:Int→Int)(n:Nat):∀us:List Int,(∀u∈us,1≤f u∧f u≤n)→((List.range n).flatMap (blk f us)).Perm (us.map fun c=>(f c,c))
 | [],_=>by
   rw[show(List.range n).flatMap (blk f [])=[] from List.flatMap_eq_nil_iff.mpr fun i _=>rfl]
   exact List.Perm.refl _
 | u::us,h=>by
   have hu:=h u (by simp)
   have ih:=ziB f n us fun v hv=>h v (mem_cons_of_mem _ hv)
   have e:=zhK (x:=(f u,u)) (g:=blk f us) (g':=blk f (u::us)) (i0:=(f u-1).toNat) (List.range n) List.nodup_range (List.mem_range.mpr (by omega)) (by
    unfold blk
    rw[filter_cons,if_pos (by rw[decide_eq_true (by omega)])]
    rfl) (fun i hi=>by
    unfold blk
    rw[filter_cons,if_neg (by rw[decide_eq_false (by omega)];decide)])
   exact e.trans (ih.cons _)
theorem zhn{cs:List (List Int)}{us:List Int}{u:Int}(h:u∈us):1≤plc cs us u∧plc cs us u≤us.length:=by
 obtain⟨i,hi,rfl⟩:=List.getElem_of_mem h
 have:=zfo cs us i hi
 have e:(zR cs us).getD i 0=plc cs us us[i]:=by
  unfold zR
  rw[getD_eq_getElem?_getD,getElem?_map,getElem?_eq_getElem hi]
  rfl
 rw[e] at this
 exact this
theorem rows_perm(cs:List (List Int))(us:List Int):(rows (zR cs us) us).Perm (us.map fun c=>(plc cs us c,c)):=by
 rw[zhW]
 exact ziB _ _ _ fun u hu=>zhn hu
theorem zic(cs:List (List Int))(us:List Int):(rows (zR cs us) us).length=us.length:=by rw[(rows_perm cs us).length_eq,length_map]
end M6
namespace M13
open PySem L2 M2
theorem sub_len{α:Type} [DecidableEq α]:∀{l m:List α},l.Nodup→(∀x∈l,x∈m)→l.length≤m.length
 | [],_,_,_=>zero_le _
 | a::l,m,nd,h=>by
   have hn:=List.nodup_cons.mp nd
   have:=sub_len (l:=l) (m:=m.erase a) hn.2 fun x hx=>(List.mem_erase_of_ne (fun e=>hn.1 (by rw[←e];exact hx))).mpr (h x (mem_cons_of_mem _ hx))
   have hm:=h a (mem_cons_self ..)
   rw[List.length_erase_of_mem hm] at this
   have:=List.length_pos_of_mem hm
   rw[length_cons]
   omega
def tx(l:List Nat):Str:=⟨l.toArray⟩
theorem tx_inj{a b:List Nat}(h:tx a=tx b):a=b:=by
 have:=congrArg (fun s:Str=>s.cps.toList) h
 simpa [tx] using this
theorem zdR(l:List Nat):(tx l).length=l.length:=by show l.toArray.size=_;simp
theorem tx_add(l:List Nat)(c:Nat):tx l++⟨#[c]⟩=tx (l++[c]):=by
 show(⟨l.toArray ++ #[c]⟩:Str)=⟨(l++[c]).toArray⟩
 congr 1
 simp
theorem tx_cut(b:List Nat)(c:Nat):PySem.Txt.slice (tx (b++[c])) none (some (-1))=tx b:=by
 have hl:(tx (b++[c])).length=b.length+1:=by rw[zdR];simp
 have e:Builtin.Str.strSliceIndices none (some (-1)) 1 (b.length+1)=List.range b.length:=by
  have h3:∀x:Int,x=(b.length:Int)→map (fun(k:Nat)=>((0:Int)+1*(k:Int)).toNat) (List.range (if(0:Int)<x then(x-0+1-1)/1 else 0).toNat)=List.range b.length:=fun x hx=>by
   have e1:(if(0:Int)<x then(x-0+1-1)/1 else 0).toNat=b.length:=by
    split
    ·rw[Int.ediv_one];omega
    ·omega
   rw[e1]
   conv=>rhs;rw[←List.map_id (List.range b.length)]
   refine map_congr_left fun k _=>?_
   show(0+1*(k:Int)).toNat=k
   omega
  exact h3 (max 0 (min (-1+((b.length+1:Nat):Int)) ((b.length+1:Nat):Int))) (by omega)
 unfold PySem.Txt.slice
 rw[hl,e,if_neg (by simp)]
 unfold tx
 congr 2
 show filterMap (fun i=>(b++[c]).toArray[i]?) (List.range b.length)=b
 have:filterMap (fun i=>(b++[c]).toArray[i]?) (List.range b.length)=(List.range b.length).map fun i=>b.getD i 0:=by
  have go:∀n,n≤b.length→filterMap (fun i=>(b++[c]).toArray[i]?) (List.range n)=(List.range n).map fun i=>b.getD i 0:=fun n=>by
   induction n with
   | zero=>intro _;rfl
   | succ n ih =>
     intro hn
     rw[range_succ,List.filterMap_append,map_append,ih (by omega)]
     congr 1
     have:(b++[c]).toArray[n]? = some (b.getD n 0):=by
      rw[List.getElem?_toArray,List.getElem?_append_left (by omega),getD_eq_getElem?_getD,getElem?_eq_getElem (by omega)]
      rfl
     show filterMap (fun i=>(b++[c]).toArray[i]?) [n]=[b.getD n 0]
     rw[filterMap_cons,this]
     rfl
  exact go _ (le_refl _)
 rw[this]
 refine ext_getElem (by simp) fun i h1 h2=>?_
 simp[h2]
theorem find_abc(k:Fin 26):PySem.Txt.find abc ⟨#[97+k.val]⟩=(k.val:Int):=by
 revert k
 decide +kernel
def turn(b:List Nat)(t s:Nat):Str:=tx (b++[97+(t+s)%26])
theorem turn_inj{b:List Nat}{t s s':Nat}(h:s<26)(h':s'<26)(e:turn b t s=turn b t s'):s=s':=by
 have:=tx_inj e
 have:=List.append_cancel_left this
 have:=(List.cons.inj this).1
 omega
theorem zgH{b:List Nat}{t:Nat}{ts:List Str}(h:∀s,s<26→turn b t s∈ts):26≤ts.length:=by
 have nd:((List.range 26).map (turn b t)).Nodup:=by
  refine List.pairwise_map.mpr (List.Pairwise.imp_of_mem (fun {i j} hi hj hlt e=>?_) (pairwise_lt_range (n:=26)))
  have:=turn_inj (List.mem_range.mp hi) (List.mem_range.mp hj) e
  omega
 have sub:((List.range 26).map (turn b t)) ⊆ ts:=fun x hx=>by
  obtain⟨s,hs,rfl⟩:=List.mem_map.mp hx
  exact h s (List.mem_range.mp hs)
 have:=sub_len nd sub
 simpa using this
end M13
namespace M15
open M14
def idx(key:Nat→Int)(n:Nat):List Nat:=(List.range n).flatMap fun(i:Nat)=>(List.range n).filter fun k=>decide (key k=(i:Int)+1)
theorem zjc(key:Nat→Int)(n:Nat):(idx key n).Pairwise (R key):=by
 unfold idx
 rw[List.pairwise_flatMap]
 refine⟨fun i _=>?_,?_⟩
 ·rw[List.pairwise_filter]
  refine List.Pairwise.imp ?_ (pairwise_lt_range (n:=n))
  intro a b l ha hb
  have ha:=of_decide_eq_true ha
  have hb:=of_decide_eq_true hb
  exact .inr ⟨by omega,l⟩
 ·refine List.Pairwise.imp ?_ (pairwise_lt_range (n:=n))
  intro i j l x hx y hy
  have hx:=of_decide_eq_true (List.mem_filter.mp hx).2
  have hy:=of_decide_eq_true (List.mem_filter.mp hy).2
  exact .inl (by omega)
theorem idx_mem(key:Nat→Int)(n:Nat)(h:∀k,k<n→1≤key k∧key k≤n)(x:Nat):x∈idx key n↔x∈List.range n:=by
 unfold idx
 rw[List.mem_flatMap]
 constructor
 ·rintro ⟨i,_,z⟩
  exact(List.mem_filter.mp z).1
 ·intro z
  have hx:=List.mem_range.mp z
  have:=h x hx
  exact⟨(key x-1).toNat,List.mem_range.mpr (by omega),List.mem_filter.mpr ⟨z,decide_eq_true (by omega)⟩⟩
theorem R.asymm{key:Nat→Int}{a b:Nat}(h:R key a b)(k:R key b a):False:=by
 rcases h with h | h <;> rcases k with k | k <;> omega
theorem one{key:Nat→Int}:∀{l m:List Nat},l.Pairwise (R key)→m.Pairwise (R key)→(∀x,x∈l↔x∈m)→l=m
 | [],[],_,_,_=>rfl
 | [],b::m,_,_,h=>absurd ((h b).mpr (mem_cons_self ..)) (not_mem_nil)
 | a::l,[],_,_,h=>absurd ((h a).mp (mem_cons_self ..)) (not_mem_nil)
 | a::l,b::m,hl,hm,h=>by
   rw[List.pairwise_cons] at hl hm
   have e:a=b:=by
    rcases List.mem_cons.mp ((h a).mp (mem_cons_self ..))with e | z
    ·exact e
    ·rcases List.mem_cons.mp ((h b).mpr (mem_cons_self ..))with e | y
     ·exact e.symm
     ·exact(R.asymm (hm.1 a z) (hl.1 b y)).elim
   subst e
   refine congrArg _ (one hl.2 hm.2 fun x=>?_)
   have nl:∀{l:List Nat},(∀y,y∈l→R key a y)→a∉l:=fun q z=>R.asymm (q a z) (q a z)
   constructor
   ·intro z
    rcases List.mem_cons.mp ((h x).mp (mem_cons_of_mem _ z))with e | y
    ·subst e;exact(nl hl.1 z).elim
    ·exact y
   ·intro z
    rcases List.mem_cons.mp ((h x).mpr (mem_cons_of_mem _ z))with e | y
    ·subst e;exact(nl hm.1 z).elim
    ·exact y
theorem zhH{key:Nat→Int}{n:Nat}{p:Array Nat}(h:I key n p n):p.toList.Pairwise (R key):=by
 rw[List.pairwise_iff_getElem]
 intro i j hi hj l
 have hz:=h.1.size
 have e:∀(k:Nat)(hk:k<p.toList.length),p.toList[k]=g p k:=fun k hk=>by
  have hk':k<p.size:=by simpa using hk
  show _=p.getD k 0
  simp[Array.getD,hk']
 rw[e i hi,e j hj]
 refine h.2 i j l ?_
 rw[←hz]
 simpa using hj
theorem is_idx{key:Nat→Int}{n:Nat}{p:Array Nat}(h:I key n p n)(hk:∀k,k<n→1≤key k∧key k≤n):p.toList=idx key n:=by
 refine one (zhH h) (zjc key n) fun x=>?_
 rw[idx_mem key n hk]
 have:=h.1.pm.toList.mem_iff (a:=x)
 simpa using this
theorem zip_get(ps us:List Int)(h:ps.length=us.length):(List.range us.length).map (fun k=>(ps.getD k 0,us.getD k 0))=ps.zip us:=by
 refine ext_getElem (by simp[h]) fun i h1 h2=>?_
 have hi:i<us.length:=by simpa using h1
 have hp:i<ps.length:=by omega
 simp[hi,hp]
theorem rows_of{ps us:List Int}{p:Array Nat}(hl:ps.length=us.length)(hk:∀k,k<us.length→1≤ps.getD k 0∧ps.getD k 0≤us.length)(h:I (fun k=>ps.getD k 0) us.length p us.length):
 p.toList.map (fun k=>(ps.getD k 0,us.getD k 0))=M5.rows ps us:=by
 rw[is_idx h hk]
 unfold idx M5.rows
 rw[List.map_flatMap]
 congr 1
 funext i
 rw[←zip_get ps us hl,filter_map]
 rfl
end M15
namespace L2
open PySem PySem.W
theorem zhY{K:Frag}{H:Hp}{ts:List Addr}{ps us:List Int}(hl:ps.length=us.length)(pr:Prs H ts ((ps.map V.int).zip (us.map V.int))):∀(l:List Nat),(∀i∈l,i<us.length)→All2 (TPl K H) (l.map fun i=>ts.getD i 0) (l.map fun i=>(ps.getD i 0,us.getD i 0))
 | [],_=>.nil
 | i::l,h=>by
   have hi:=h i (mem_cons_self ..)
   have lt:ts.length=us.length:=by rw[pr.length,length_zip,length_map,length_map];omega
   refine .cons ?_ (zhY hl pr l fun j hj=>h j (mem_cons_of_mem _ hj))
   have ht:ts[i]? = some (ts.getD i 0):=by rw[getD_eq_getElem?_getD,getElem?_eq_getElem (by omega)];rfl
   obtain⟨⟨pa,pb⟩,ep,e⟩:=pr.get i _ ht
   rw[List.getElem?_zip_eq_some] at ep
   obtain⟨e1,e2⟩:=ep
   rw[getElem?_map,getElem?_eq_getElem (by omega)] at e1 e2
   cases e1
   cases e2
   have h1:ps.getD i 0=ps[i]:=by rw[getD_eq_getElem?_getD,getElem?_eq_getElem (by omega)];rfl
   have h2:us.getD i 0=us[i]:=by rw[getD_eq_getElem?_getD,getElem?_eq_getElem (by omega)];rfl
   show SqT K H (ts.getD i 0) [.int (ps.getD i 0),.int (us.getD i 0)]
   rw[h1,h2]
   exact .inl (.inl e)
end L2
namespace M6
open PySem L2 M3 M5
end M6
namespace L2
open PySem
theorem ziW{K:Frag}{F:Addr→Prop}{a:Addr}{ls:List Addr}{cs:List (List Int)}{f:List Int→List Int}{c:St}{te:TE}{H:Hp}{fin:List V→Hp→Prop}(hA:SqL K H a (ls.map V.ref))(hR:All2 (fun l d=>H l=some (.lst (d.map V.int))) ls cs)(hz:cs.length≤1000)
 (hte:∀(m:Addr)(d:List Int)(H':Hp)(Q:VK),d∈cs→H' m=some (.lst (d.map V.int))→Same H H'→(∀(l:Addr)(H2:Hp),Same H' H2→H2 l=some (.lst ((f d).map V.int))→¬F l→Q (.ref l) H2)→te (some (.ref m)::c) H' Q)
 (hd:∀(ks:List Addr)(H':Hp),Same H H'→All2 (fun l d=>H' l=some (.lst (d.map V.int))∧¬F l) ks (cs.map f)→fin (ks.map V.ref) H'):zcv (Itl K a) c tYes te H fin:=by
 have hln:=zx
 have hl:=hR.length
 refine zO (xs:=ls.map V.ref) (fun k ys H5=>∃ks:List Addr,ys=ks.map V.ref∧Same H H5∧All2 (fun l d=>H5 l=some (.lst (d.map V.int))∧¬F l) ks ((cs.take k).map f)) ⟨[],rfl,Same.refl _,.nil⟩ ?_ (by rw[length_map];omega) ?_ ?_
 ·rintro k ys H5 hk ⟨ks,rfl,s5,r5⟩
  refine⟨s5.seq hA,?_⟩
  have:=r5.length
  rw[length_map,length_take] at this
  rw[length_map]
  omega
 ·rintro k x ys H5 hx ⟨ks,rfl,s5,r5⟩
  obtain⟨m,em,rfl⟩:=zaf hx
  obtain⟨d,ed,rm⟩:=hR.getL em
  refine hte m d H5 _ (mem_of_getElem? ed) (s5 _ _ rm) s5 fun l H2 s2 r2 n2=>⟨ks++[l],by rw[map_append];rfl,s5.trans s2,?_⟩
  rw[take_succ,ed,map_append]
  exact(r5.imp fun _ _ z=>⟨s2 _ _ z.1,z.2⟩).snoc ⟨r2,n2⟩
 ·rintro ys H5 ⟨ks,rfl,s5,r5⟩
  rw[length_map,hl,take_length] at r5
  exact hd ks H5 s5 r5
end L2
set_option maxHeartbeats 4000000
namespace Pp
open PySem L2
def top(i:Nat):Stmt:=PySem.Challenge.pw_panelplace_k49_whole_desk_and_sheet.main.body.getD i (.Pass ⟨0,0,0,0⟩)
structure Txt (K:Frag) (mg:Str→Option Value):Prop where
 b_all:mg "all"=none
 b_bool:mg "bool"=none
 b_int:mg "int"=none
 b_isinstance:mg "isinstance"=none
 b_len:mg "len"=none
 b_list:mg "list"=none
 b_max:mg "max"=none
 b_range:mg "range"=none
 b_set:mg "set"=none
 b_sorted:mg "sorted"=none
 b_str:mg "str"=none
 b_sum:mg "sum"=none
 b_zip:mg "zip"=none
 c_BARE_WORDS:CTup K mg "BARE_WORDS" ["seal","couples","places","parts","deciders"]
 c_JUDGE_WORDS:CTup K mg "JUDGE_WORDS" ["card","show","leave","step"]
 c_COUPLE_WORDS:CTup K mg "COUPLE_WORDS" ["strike","step","row"]
 c_MOST_FIGURES:∃t,mg "MOST_FIGURES"=some (.int 3 t)
 c_MOST_COUPLES:∃t,mg "MOST_COUPLES"=some (.int 24 t)
 c_MOST_JUDGES:∃t,mg "MOST_JUDGES"=some (.int 15 t)
 c_MOST_NUMBER:∃t,mg "MOST_NUMBER"=some (.int 999 t)
 c_MOST_SIGNS:∃t,mg "MOST_SIGNS"=some (.int 8 t)
 c_MOST_CARDS:∃t,mg "MOST_CARDS"=some (.int 200 t)
 x_PanelError:∃C,ClsN K "PanelError" C∧mg "PanelError"=some (.ref C)∧ExC K C
 x_BadCouples:∃C,ClsN K "BadCouples" C∧mg "BadCouples"=some (.ref C)∧ExC K C
 x_BadJudges:∃C,ClsN K "BadJudges" C∧mg "BadJudges"=some (.ref C)∧ExC K C
 x_SheetSealed:∃C,ClsN K "SheetSealed" C∧mg "SheetSealed"=some (.ref C)∧ExC K C
 i_SheetSealed:∀C,ClsN K "SheetSealed" C→exI K C=true
 s_SheetSealed_PanelError:∀C D,ClsN K "SheetSealed" C→ClsN K "PanelError" D→zu K C D=true
 s_SheetSealed_SheetSealed:∀C D,ClsN K "SheetSealed" C→ClsN K "SheetSealed" D→zu K C D=true
 k_SheetSealed_SheetSealed:∀C D,ClsN K "SheetSealed" C→ClsN K "SheetSealed" D→kitOne K (.ref C) (.ref D)=some true
 k_SheetSealed_BadCard:∀C D,ClsN K "SheetSealed" C→ClsN K "BadCard" D→kitOne K (.ref C) (.ref D)=some false
 k_SheetSealed_UnknownCouple:∀C D,ClsN K "SheetSealed" C→ClsN K "UnknownCouple" D→kitOne K (.ref C) (.ref D)=some false
 k_SheetSealed_LastCouple:∀C D,ClsN K "SheetSealed" C→ClsN K "LastCouple" D→kitOne K (.ref C) (.ref D)=some false
 s_SheetSealed_BadRow:∀C D,ClsN K "SheetSealed" C→ClsN K "BadRow" D→zu K C D=false
 x_UnknownJudge:∃C,ClsN K "UnknownJudge" C∧mg "UnknownJudge"=some (.ref C)∧ExC K C
 s_UnknownJudge_SheetSealed:∀C D,ClsN K "UnknownJudge" C→ClsN K "SheetSealed" D→zu K C D=false
 s_UnknownJudge_UnknownJudge:∀C D,ClsN K "UnknownJudge" C→ClsN K "UnknownJudge" D→zu K C D=true
 s_UnknownJudge_BadRow:∀C D,ClsN K "UnknownJudge" C→ClsN K "BadRow" D→zu K C D=false
 x_BadCard:∃C,ClsN K "BadCard" C∧mg "BadCard"=some (.ref C)∧ExC K C
 i_BadCard:∀C,ClsN K "BadCard" C→exI K C=true
 s_BadCard_PanelError:∀C D,ClsN K "BadCard" C→ClsN K "PanelError" D→zu K C D=true
 s_BadCard_SheetSealed:∀C D,ClsN K "BadCard" C→ClsN K "SheetSealed" D→zu K C D=false
 k_BadCard_SheetSealed:∀C D,ClsN K "BadCard" C→ClsN K "SheetSealed" D→kitOne K (.ref C) (.ref D)=some false
 s_BadCard_UnknownJudge:∀C D,ClsN K "BadCard" C→ClsN K "UnknownJudge" D→zu K C D=false
 s_BadCard_BadCard:∀C D,ClsN K "BadCard" C→ClsN K "BadCard" D→zu K C D=true
 k_BadCard_BadCard:∀C D,ClsN K "BadCard" C→ClsN K "BadCard" D→kitOne K (.ref C) (.ref D)=some true
 k_BadCard_UnknownCouple:∀C D,ClsN K "BadCard" C→ClsN K "UnknownCouple" D→kitOne K (.ref C) (.ref D)=some false
 k_BadCard_LastCouple:∀C D,ClsN K "BadCard" C→ClsN K "LastCouple" D→kitOne K (.ref C) (.ref D)=some false
 s_BadCard_BadRow:∀C D,ClsN K "BadCard" C→ClsN K "BadRow" D→zu K C D=false
 x_TooManyCards:∃C,ClsN K "TooManyCards" C∧mg "TooManyCards"=some (.ref C)∧ExC K C
 s_TooManyCards_SheetSealed:∀C D,ClsN K "TooManyCards" C→ClsN K "SheetSealed" D→zu K C D=false
 s_TooManyCards_UnknownJudge:∀C D,ClsN K "TooManyCards" C→ClsN K "UnknownJudge" D→zu K C D=false
 s_TooManyCards_BadCard:∀C D,ClsN K "TooManyCards" C→ClsN K "BadCard" D→zu K C D=false
 s_TooManyCards_TooManyCards:∀C D,ClsN K "TooManyCards" C→ClsN K "TooManyCards" D→zu K C D=true
 s_TooManyCards_BadRow:∀C D,ClsN K "TooManyCards" C→ClsN K "BadRow" D→zu K C D=false
 x_UnknownCouple:∃C,ClsN K "UnknownCouple" C∧mg "UnknownCouple"=some (.ref C)∧ExC K C
 i_UnknownCouple:∀C,ClsN K "UnknownCouple" C→exI K C=true
 s_UnknownCouple_PanelError:∀C D,ClsN K "UnknownCouple" C→ClsN K "PanelError" D→zu K C D=true
 s_UnknownCouple_SheetSealed:∀C D,ClsN K "UnknownCouple" C→ClsN K "SheetSealed" D→zu K C D=false
 k_UnknownCouple_SheetSealed:∀C D,ClsN K "UnknownCouple" C→ClsN K "SheetSealed" D→kitOne K (.ref C) (.ref D)=some false
 s_UnknownCouple_UnknownJudge:∀C D,ClsN K "UnknownCouple" C→ClsN K "UnknownJudge" D→zu K C D=false
 s_UnknownCouple_BadCard:∀C D,ClsN K "UnknownCouple" C→ClsN K "BadCard" D→zu K C D=false
 k_UnknownCouple_BadCard:∀C D,ClsN K "UnknownCouple" C→ClsN K "BadCard" D→kitOne K (.ref C) (.ref D)=some false
 s_UnknownCouple_TooManyCards:∀C D,ClsN K "UnknownCouple" C→ClsN K "TooManyCards" D→zu K C D=false
 s_UnknownCouple_UnknownCouple:∀C D,ClsN K "UnknownCouple" C→ClsN K "UnknownCouple" D→zu K C D=true
 k_UnknownCouple_UnknownCouple:∀C D,ClsN K "UnknownCouple" C→ClsN K "UnknownCouple" D→kitOne K (.ref C) (.ref D)=some true
 k_UnknownCouple_LastCouple:∀C D,ClsN K "UnknownCouple" C→ClsN K "LastCouple" D→kitOne K (.ref C) (.ref D)=some false
 s_UnknownCouple_BadRow:∀C D,ClsN K "UnknownCouple" C→ClsN K "BadRow" D→zu K C D=false
 x_LastCouple:∃C,ClsN K "LastCouple" C∧mg "LastCouple"=some (.ref C)∧ExC K C
 i_LastCouple:∀C,ClsN K "LastCouple" C→exI K C=true
 s_LastCouple_PanelError:∀C D,ClsN K "LastCouple" C→ClsN K "PanelError" D→zu K C D=true
 s_LastCouple_SheetSealed:∀C D,ClsN K "LastCouple" C→ClsN K "SheetSealed" D→zu K C D=false
 k_LastCouple_SheetSealed:∀C D,ClsN K "LastCouple" C→ClsN K "SheetSealed" D→kitOne K (.ref C) (.ref D)=some false
 s_LastCouple_UnknownJudge:∀C D,ClsN K "LastCouple" C→ClsN K "UnknownJudge" D→zu K C D=false
 s_LastCouple_BadCard:∀C D,ClsN K "LastCouple" C→ClsN K "BadCard" D→zu K C D=false
 k_LastCouple_BadCard:∀C D,ClsN K "LastCouple" C→ClsN K "BadCard" D→kitOne K (.ref C) (.ref D)=some false
 s_LastCouple_TooManyCards:∀C D,ClsN K "LastCouple" C→ClsN K "TooManyCards" D→zu K C D=false
 s_LastCouple_UnknownCouple:∀C D,ClsN K "LastCouple" C→ClsN K "UnknownCouple" D→zu K C D=false
 k_LastCouple_UnknownCouple:∀C D,ClsN K "LastCouple" C→ClsN K "UnknownCouple" D→kitOne K (.ref C) (.ref D)=some false
 s_LastCouple_LastCouple:∀C D,ClsN K "LastCouple" C→ClsN K "LastCouple" D→zu K C D=true
 k_LastCouple_LastCouple:∀C D,ClsN K "LastCouple" C→ClsN K "LastCouple" D→kitOne K (.ref C) (.ref D)=some true
 s_LastCouple_BadRow:∀C D,ClsN K "LastCouple" C→ClsN K "BadRow" D→zu K C D=false
 x_NoCard:∃C,ClsN K "NoCard" C∧mg "NoCard"=some (.ref C)∧ExC K C
 x_TooFewCards:∃C,ClsN K "TooFewCards" C∧mg "TooFewCards"=some (.ref C)∧ExC K C
 s_TooFewCards_SheetSealed:∀C D,ClsN K "TooFewCards" C→ClsN K "SheetSealed" D→zu K C D=false
 s_TooFewCards_UnknownJudge:∀C D,ClsN K "TooFewCards" C→ClsN K "UnknownJudge" D→zu K C D=false
 s_TooFewCards_BadCard:∀C D,ClsN K "TooFewCards" C→ClsN K "BadCard" D→zu K C D=false
 s_TooFewCards_TooManyCards:∀C D,ClsN K "TooFewCards" C→ClsN K "TooManyCards" D→zu K C D=false
 s_TooFewCards_UnknownCouple:∀C D,ClsN K "TooFewCards" C→ClsN K "UnknownCouple" D→zu K C D=false
 s_TooFewCards_LastCouple:∀C D,ClsN K "TooFewCards" C→ClsN K "LastCouple" D→zu K C D=false
 s_TooFewCards_NoCard:∀C D,ClsN K "TooFewCards" C→ClsN K "NoCard" D→zu K C D=false
 s_TooFewCards_TooFewCards:∀C D,ClsN K "TooFewCards" C→ClsN K "TooFewCards" D→zu K C D=true
 s_TooFewCards_BadRow:∀C D,ClsN K "TooFewCards" C→ClsN K "BadRow" D→zu K C D=false
 x_BadRow:∃C,ClsN K "BadRow" C∧mg "BadRow"=some (.ref C)∧ExC K C
 cl_Sheet:Cls K (zE K "Sheet")
 n_Sheet_standing:NoAttr K (zE K "Sheet") "standing"
 n_Sheet_struck_so_far:NoAttr K (zE K "Sheet") "struck_so_far"
 n_Sheet_panel:NoAttr K (zE K "Sheet") "panel"
 n_Sheet_card_by_judge:NoAttr K (zE K "Sheet") "card_by_judge"
 n_Sheet_taken_so_far:NoAttr K (zE K "Sheet") "taken_so_far"
 n_Sheet_sealed:NoAttr K (zE K "Sheet") "sealed"
abbrev yY:Stmt:=wg (top 73) 10
theorem zfN:FnScope ["self"] ["self"] (zb yY):=⟨rfl,rfl,rfl,by decide +kernel,rfl,by decide +kernel,by decide +kernel⟩
abbrev zZ:Stmt:=wg (top 73) 11
theorem zc3:FnScope ["self"] ["self"] (zb zZ):=⟨rfl,rfl,rfl,by decide +kernel,rfl,by decide +kernel,by decide +kernel⟩
abbrev zG:Stmt:=wg (top 73) 12
theorem zbv:FnScope ["self"] ["self"] (zb zG):=⟨rfl,rfl,rfl,by decide +kernel,rfl,by decide +kernel,by decide +kernel⟩
abbrev zC:Stmt:=wg (top 73) 13
theorem zaL:FnScope ["self","judge"] ["self","judge"] (zb zC):=⟨rfl,rfl,rfl,by decide +kernel,rfl,by decide +kernel,by decide +kernel⟩
abbrev yn:Stmt:=wg (top 73) 4
theorem zd0:FnScope ["self"] ["self"] (zb yn):=⟨rfl,rfl,rfl,by decide +kernel,rfl,by decide +kernel,by decide +kernel⟩
abbrev yP:Stmt:=wg (top 73) 5
theorem zeI:FnScope ["self"] ["self"] (zb yP):=⟨rfl,rfl,rfl,by decide +kernel,rfl,by decide +kernel,by decide +kernel⟩
abbrev yI:Stmt:=wg (top 73) 6
theorem zeD:FnScope ["self"] ["self"] (zb yI):=⟨rfl,rfl,rfl,by decide +kernel,rfl,by decide +kernel,by decide +kernel⟩
abbrev yh:Stmt:=wg (top 73) 7
theorem zey:FnScope ["self"] ["self"] (zb yh):=⟨rfl,rfl,rfl,by decide +kernel,rfl,by decide +kernel,by decide +kernel⟩
abbrev zaB:Stmt:=top 101
theorem zbA:FnScope ["_law_spots_here","_law_couples_here","_law_rows_here","_law_place","_law_k"] ["_law_spots_here","_law_couples_here"] (zb zaB):=⟨rfl,rfl,rfl,by decide +kernel,rfl,by decide +kernel,by decide +kernel⟩
abbrev zax:Stmt:=top 103
theorem zee:FnScope ["_law_card_here","_law_couples_here","_law_couple"] ["_law_card_here","_law_couples_here"] (zb zax):=⟨rfl,rfl,rfl,by decide +kernel,rfl,by decide +kernel,by decide +kernel⟩
abbrev yH:Stmt:=top 104
theorem zfJ:FnScope ["_law_card_here","_law_couple"] ["_law_card_here","_law_couple"] (zb yH):=⟨rfl,rfl,rfl,by decide +kernel,rfl,by decide +kernel,by decide +kernel⟩
abbrev wu:Stmt:=top 105
theorem zhj:FnScope ["_law_things"] ["_law_things"] (zb wu):=⟨rfl,rfl,rfl,by decide +kernel,rfl,by decide +kernel,by decide +kernel⟩
abbrev wG:Stmt:=top 15
theorem zgf:FnScope ["card","couples"] ["card","couples"] (zb wG):=⟨rfl,rfl,rfl,by decide +kernel,rfl,by decide +kernel,by decide +kernel⟩
abbrev za9:Stmt:=top 16
theorem ziZ:FnScope ["card","couple"] ["card","couple"] (zb za9):=⟨rfl,rfl,rfl,by decide +kernel,rfl,by decide +kernel,by decide +kernel⟩
abbrev zW:Stmt:=top 17
theorem zdF:FnScope ["card","couple"] ["card","couple"] (zb zW):=⟨rfl,rfl,rfl,by decide +kernel,rfl,by decide +kernel,by decide +kernel⟩
abbrev wa:Stmt:=top 20
theorem zfP:FnScope ["many"] ["many"] (zb wa):=⟨rfl,rfl,rfl,by decide +kernel,rfl,by decide +kernel,by decide +kernel⟩
abbrev wR:Stmt:=top 24
theorem zh8:FnScope ["marks","number"] ["marks","number"] (zb wR):=⟨rfl,rfl,rfl,by decide +kernel,rfl,by decide +kernel,by decide +kernel⟩
abbrev wb:Stmt:=top 55
theorem ze7:FnScope ["first"] ["first"] (zb wb):=⟨rfl,rfl,rfl,by decide +kernel,rfl,by decide +kernel,by decide +kernel⟩
abbrev zbW:Stmt:=top 58
theorem sc_figure:FnScope ["sign"] ["sign"] (zb zbW):=⟨rfl,rfl,rfl,by decide +kernel,rfl,by decide +kernel,by decide +kernel⟩
abbrev y9:Stmt:=top 66
theorem ze0:FnScope ["couple"] ["couple"] (zb y9):=⟨rfl,rfl,rfl,by decide +kernel,rfl,by decide +kernel,by decide +kernel⟩
abbrev yJ:Stmt:=top 68
theorem zeA:FnScope ["sign"] ["sign"] (zb yJ):=⟨rfl,rfl,rfl,by decide +kernel,rfl,by decide +kernel,by decide +kernel⟩
abbrev yW:Stmt:=top 69
theorem zfx:FnScope ["things","most"] ["things","most"] (zb yW):=⟨rfl,rfl,rfl,by decide +kernel,rfl,by decide +kernel,by decide +kernel⟩
abbrev wI:Stmt:=top 70
theorem zfW:FnScope ["things"] ["things"] (zb wI):=⟨rfl,rfl,rfl,by decide +kernel,rfl,by decide +kernel,by decide +kernel⟩
abbrev ye:Stmt:=top 82
theorem zeu:FnScope ["rows"] ["rows"] (zb ye):=⟨rfl,rfl,rfl,by decide +kernel,rfl,by decide +kernel,by decide +kernel⟩
abbrev zad:Stmt:=top 87
theorem zhw:FnScope ["_law_found"] ["_law_found"] (zb zad):=⟨rfl,rfl,rfl,by decide +kernel,rfl,by decide +kernel,by decide +kernel⟩
abbrev zbP:Stmt:=top 88
theorem sc_law_at:FnScope ["_law_script","_law_k"] ["_law_script","_law_k"] (zb zbP):=⟨rfl,rfl,rfl,by decide +kernel,rfl,by decide +kernel,by decide +kernel⟩
abbrev wW:Stmt:=top 90
theorem zdp:FnScope ["_law_found","_law_due_here","_law_k"] ["_law_found","_law_due_here"] (zb wW):=⟨rfl,rfl,rfl,by decide +kernel,rfl,by decide +kernel,by decide +kernel⟩
abbrev zbb:Stmt:=top 92
theorem zff:FnScope ["_law_cell","_law_place","_law_once"] ["_law_cell","_law_place"] (zb zbb):=⟨rfl,rfl,rfl,by decide +kernel,rfl,by decide +kernel,by decide +kernel⟩
abbrev zat:Stmt:=top 93
theorem zix:FnScope ["_law_mode","_law_cell","_law_least","_law_few","_law_most"] ["_law_mode","_law_cell","_law_least","_law_few","_law_most"] (zb zat):=⟨rfl,rfl,rfl,by decide +kernel,rfl,by decide +kernel,by decide +kernel⟩
abbrev yE:Stmt:=top 94
theorem zcD:FnScope ["_law_cell","_law_many_here","_law_gap"] ["_law_cell","_law_many_here"] (zb yE):=⟨rfl,rfl,rfl,by decide +kernel,rfl,by decide +kernel,by decide +kernel⟩
abbrev wl:Stmt:=top 98
theorem zhm:FnScope ["_law_cards","_law_couple"] ["_law_cards","_law_couple"] (zb wl):=⟨rfl,rfl,rfl,by decide +kernel,rfl,by decide +kernel,by decide +kernel⟩
abbrev zay:Stmt:=top 99
theorem zb8:FnScope ["_law_marks_here","_law_last","_law_key_here","_law_number","_law_got"] ["_law_marks_here","_law_last"] (zb zay):=⟨rfl,rfl,rfl,by decide +kernel,rfl,by decide +kernel,by decide +kernel⟩
abbrev yq:Stmt:=wg (top 73) 1
theorem zeb:FnScope ["self","judge","card"] ["self","judge","card"] (zb yq):=⟨rfl,rfl,rfl,by decide +kernel,rfl,by decide +kernel,by decide +kernel⟩
abbrev yN:Stmt:=wg (top 73) 2
theorem zck:FnScope ["self","couple","judge"] ["self","couple"] (zb yN):=⟨rfl,rfl,rfl,by decide +kernel,rfl,by decide +kernel,by decide +kernel⟩
abbrev wH:Stmt:=wg (top 73) 3
theorem zga:FnScope ["self"] ["self"] (zb wH):=⟨rfl,rfl,rfl,by decide +kernel,rfl,by decide +kernel,by decide +kernel⟩
abbrev yo:Stmt:=wg (top 73) 9
theorem zd5:FnScope ["self","judge"] ["self","judge"] (zb yo):=⟨rfl,rfl,rfl,by decide +kernel,rfl,by decide +kernel,by decide +kernel⟩
abbrev yR:Stmt:=top 100
theorem zdk:FnScope ["_law_cards","_law_couples_here","_law_ranks"] ["_law_cards","_law_couples_here"] (zb yR):=⟨rfl,rfl,rfl,by decide +kernel,rfl,by decide +kernel,by decide +kernel⟩
abbrev ya:Stmt:=top 106
theorem zdP:FnScope ["_law_spots_here","_law_couples_here"] ["_law_spots_here","_law_couples_here"] (zb ya):=⟨rfl,rfl,rfl,by decide +kernel,rfl,by decide +kernel,by decide +kernel⟩
abbrev za6:Stmt:=top 109
theorem zjo:FnScope ["_law_deed_here","_law_shut","_law_couples_here","_law_couple","_law_card_here"] ["_law_deed_here","_law_shut","_law_couples_here","_law_couple","_law_card_here"] (zb za6):=⟨rfl,rfl,rfl,by decide +kernel,rfl,by decide +kernel,by decide +kernel⟩
abbrev wT:Stmt:=top 21
theorem zin:FnScope ["cards","couple"] ["cards","couple"] (zb wT):=⟨rfl,rfl,rfl,by decide +kernel,rfl,by decide +kernel,by decide +kernel⟩
abbrev zba:Stmt:=top 22
theorem zjb:FnScope ["marks","number"] ["marks","number"] (zb zba):=⟨rfl,rfl,rfl,by decide +kernel,rfl,by decide +kernel,by decide +kernel⟩
abbrev wd:Stmt:=top 23
theorem ze8:FnScope ["marks","number"] ["marks","number"] (zb wd):=⟨rfl,rfl,rfl,by decide +kernel,rfl,by decide +kernel,by decide +kernel⟩
abbrev yK:Stmt:=top 25
theorem zev:FnScope ["marks"] ["marks"] (zb yK):=⟨rfl,rfl,rfl,by decide +kernel,rfl,by decide +kernel,by decide +kernel⟩
abbrev zP:Stmt:=top 45
theorem zcn:FnScope ["sheet","least"] ["sheet","least"] (zb zP):=⟨rfl,rfl,rfl,by decide +kernel,rfl,by decide +kernel,by decide +kernel⟩
abbrev yA:Stmt:=top 57
theorem zfB:FnScope ["word"] ["word"] (zb yA):=⟨rfl,rfl,rfl,by decide +kernel,rfl,by decide +kernel,by decide +kernel⟩
abbrev yf:Stmt:=top 64
theorem zex:FnScope ["couples"] ["couples"] (zb yf):=⟨rfl,rfl,rfl,by decide +kernel,rfl,by decide +kernel,by decide +kernel⟩
abbrev wj:Stmt:=top 67
theorem zhp:FnScope ["judge"] ["judge"] (zb wj):=⟨rfl,rfl,rfl,by decide +kernel,rfl,by decide +kernel,by decide +kernel⟩
abbrev zaD:Stmt:=top 89
theorem zeh:FnScope ["_law_found","_law_due_here","_law_k"] ["_law_found","_law_due_here"] (zb zaD):=⟨rfl,rfl,rfl,by decide +kernel,rfl,by decide +kernel,by decide +kernel⟩
abbrev wY:Stmt:=top 95
theorem zK:FnScope ["_law_cell","_law_many_here","_law_letters","_law_made","_law_left","_law_k","_law_name","_law_size","_law_j"] ["_law_cell","_law_many_here"] (zb wY):=⟨rfl,rfl,rfl,by decide +kernel,rfl,by decide +kernel,by decide +kernel⟩
abbrev zaF:Stmt:=top 96
theorem zU:FnScope ["_law_cell","_law_couples_here","_law_style","_law_pool","_law_turn","_law_left","_law_made","_law_k","_law_spot"] ["_law_cell","_law_couples_here","_law_style"] (zb zaF):=⟨rfl,rfl,rfl,by decide +kernel,rfl,by decide +kernel,by decide +kernel⟩
abbrev yF:Stmt:=wg (top 73) 8
theorem zfs:FnScope ["self"] ["self"] (zb yF):=⟨rfl,rfl,rfl,by decide +kernel,rfl,by decide +kernel,by decide +kernel⟩
abbrev yp:Stmt:=top 107
theorem yL:FnScope ["_law_sheet","_law_deed_here","_law_judge","_law_couple","_law_card_here","_law_told","e"] ["_law_sheet","_law_deed_here","_law_judge","_law_couple","_law_card_here"] (zb yp):=⟨rfl,rfl,rfl,by decide +kernel,rfl,by decide +kernel,by decide +kernel⟩
abbrev zaa:Stmt:=top 29
theorem zdK:FnScope ["one","other","number"] ["one","other"] (zb zaa):=⟨rfl,rfl,rfl,by decide +kernel,rfl,by decide +kernel,by decide +kernel⟩
abbrev yZ:Stmt:=top 56
theorem zfI:FnScope ["word"] ["word"] (zb yZ):=⟨rfl,rfl,rfl,by decide +kernel,rfl,by decide +kernel,by decide +kernel⟩
abbrev yC:Stmt:=top 65
theorem zft:FnScope ["judges"] ["judges"] (zb yC):=⟨rfl,rfl,rfl,by decide +kernel,rfl,by decide +kernel,by decide +kernel⟩
abbrev zab:Stmt:=top 91
theorem zdz:FnScope ["_law_found","_law_due_here","_law_k"] ["_law_found","_law_due_here"] (zb zab):=⟨rfl,rfl,rfl,by decide +kernel,rfl,by decide +kernel,by decide +kernel⟩
abbrev wX:Stmt:=top 97
theorem zg5:FnScope ["_law_cell","_law_used","_law_couples_here","_law_style"] ["_law_cell","_law_used","_law_couples_here","_law_style"] (zb wX):=⟨rfl,rfl,rfl,by decide +kernel,rfl,by decide +kernel,by decide +kernel⟩
abbrev wA:Stmt:=wg (top 73) 0
theorem zfX:FnScope ["self","couples","judges"] ["self","couples","judges"] (zb wA):=⟨rfl,rfl,rfl,by decide +kernel,rfl,by decide +kernel,by decide +kernel⟩
abbrev yb:Stmt:=top 102
theorem wN:FnScope ["_law_sheet","_law_names_here","_law_couples_here","_law_gone","_law_cards","_law_many_here","_law_shut","_law_into","_law_k","_law_count","_law_sealed"] ["_law_sheet","_law_names_here","_law_couples_here","_law_gone","_law_cards","_law_many_here","_law_shut"] (zb yb):=⟨rfl,rfl,rfl,by decide +kernel,rfl,by decide +kernel,by decide +kernel⟩
abbrev zaA:Stmt:=top 28
theorem zef:FnScope ["one","other","number"] ["one","other"] (zb zaA):=⟨rfl,rfl,rfl,by decide +kernel,rfl,by decide +kernel,by decide +kernel⟩
abbrev yj:Stmt:=top 54
theorem zeF:FnScope ["first","words"] ["first","words"] (zb yj):=⟨rfl,rfl,rfl,by decide +kernel,rfl,by decide +kernel,by decide +kernel⟩
abbrev yD:Stmt:=top 31
theorem ze6:FnScope ["rows","own"] ["rows","own"] (zb yD):=⟨rfl,rfl,rfl,by decide +kernel,rfl,by decide +kernel,by decide +kernel⟩
abbrev zaz:Stmt:=top 53
theorem zcB:FnScope ["row","words","first"] ["row"] (zb zaz):=⟨rfl,rfl,rfl,by decide +kernel,rfl,by decide +kernel,by decide +kernel⟩
abbrev yS:Stmt:=top 30
theorem zdM:FnScope ["cards","couples","rows"] ["cards","couples"] (zb yS):=⟨rfl,rfl,rfl,by decide +kernel,rfl,by decide +kernel,by decide +kernel⟩
abbrev zbU:Stmt:=top 38
theorem sc_places:FnScope ["sheet"] ["sheet"] (zb zbU):=⟨rfl,rfl,rfl,by decide +kernel,rfl,by decide +kernel,by decide +kernel⟩
abbrev zau:Stmt:=top 33
theorem ziJ:FnScope ["places","couples"] ["places","couples"] (zb zau):=⟨rfl,rfl,rfl,by decide +kernel,rfl,by decide +kernel,by decide +kernel⟩
abbrev wC:Stmt:=top 32
theorem zgb:FnScope ["cards","couples"] ["cards","couples"] (zb wC):=⟨rfl,rfl,rfl,by decide +kernel,rfl,by decide +kernel,by decide +kernel⟩
abbrev zbd:Stmt:=top 39
theorem zja:FnScope ["sheet"] ["sheet"] (zb zbd):=⟨rfl,rfl,rfl,by decide +kernel,rfl,by decide +kernel,by decide +kernel⟩
abbrev zac:Stmt:=top 80
theorem zht:FnScope ["sheet","first","judge","couples"] ["sheet","first","judge","couples"] (zb zac):=⟨rfl,rfl,rfl,by decide +kernel,rfl,by decide +kernel,by decide +kernel⟩
abbrev yr:Stmt:=top 79
theorem zd1:FnScope ["sheet","first","judge","couples"] ["sheet","first","judge","couples"] (zb yr):=⟨rfl,rfl,rfl,by decide +kernel,rfl,by decide +kernel,by decide +kernel⟩
abbrev zbR:Stmt:=top 78
theorem zgM:FnScope ["sheet","row","said"] ["sheet","row"] (zb zbR):=⟨rfl,rfl,rfl,by decide +kernel,rfl,by decide +kernel,by decide +kernel⟩
abbrev wy:Stmt:=top 108
theorem zcX:FnScope ["_law_sheet","_law_deed_here","_law_judge","_law_couple","_law_card_here","_law_row"] ["_law_sheet","_law_deed_here","_law_judge","_law_couple","_law_card_here"] (zb wy):=⟨rfl,rfl,rfl,by decide +kernel,rfl,by decide +kernel,by decide +kernel⟩
abbrev wU:Stmt:=top 110
theorem yc:FnScope ["_law_sheet","_law_cell","_law_names_here","_law_state","_law_style","_law_couples_here","_law_deed_here","_law_who","_law_couple","_law_card_here","_law_due_here","_law_found"] ["_law_sheet","_law_cell","_law_names_here","_law_state","_law_style"] (zb wU):=⟨rfl,rfl,rfl,by decide +kernel,rfl,by decide +kernel,by decide +kernel⟩
abbrev zcz:Stmt:=top 111
theorem zbJ:FnScope ["_law_script","_law_mode","_law_couples_here","_law_names_here","_law_sheet","_law_state","_law_cell","_law_cards","_law_spots_here"] ["_law_script"] (zb zcz):=⟨rfl,rfl,rfl,by decide +kernel,rfl,by decide +kernel,by decide +kernel⟩
def zbm(K:Frag):Sp:=fun vs H Q _=>∃(p:Addr)(F:Addr→Prop)(S:Sh),vs=[.ref p]∧SheetAt K H p F S∧Q (.int S.taken) H
section
variable {P:Program}{w:World}{K:Frag}{mg:Str→Option Value}{base:Heap}
theorem zfn{f:Addr}{fd:FuncData}(F:Fun K "taken" "Sheet.taken" yY f fd)(T:Txt K mg):FnOk P w K mg base CX0 1 f fd ["self"] (zbm K):=by
 refine F.ok zfN (fun vs H Q E h=>?_) (fun cdv A outer s H vs Q E hr h=>?_)
 ·obtain⟨p,F,S,rfl,_⟩:=h
  rfl
 ·obtain⟨p,F,S,rfl,⟨dx,a1,a2,a3,d,kvs,h⟩,q⟩:=h
  refine⟨_,(zd (zi (yB (pv 0) rfl))),?_⟩
  exact⟨_,rfl,p,_,dx,_,_,rfl,h.ip,T.cl_Sheet,T.n_Sheet_taken_so_far,rfl,q⟩
def wS(K:Frag):Sp:=fun vs H Q _=>∃(p:Addr)(F:Addr→Prop)(S:Sh),vs=[.ref p]∧SheetAt K H p F S∧Q (.bl S.shut) H
theorem zdb{f:Addr}{fd:FuncData}(F:Fun K "is_sealed" "Sheet.is_sealed" zZ f fd)(T:Txt K mg):FnOk P w K mg base CX0 1 f fd ["self"] (wS K):=by
 refine F.ok zc3 (fun vs H Q E h=>?_) (fun cdv A outer s H vs Q E hr h=>?_)
 ·obtain⟨p,F,S,rfl,_⟩:=h
  rfl
 ·obtain⟨p,F,S,rfl,⟨dx,a1,a2,a3,d,kvs,h⟩,q⟩:=h
  refine⟨_,(zd (zi (yB (pv 0) rfl))),?_⟩
  exact⟨_,rfl,p,_,dx,_,_,rfl,h.ip,T.cl_Sheet,T.n_Sheet_sealed,rfl,q⟩
def zL(K:Frag):Sp:=fun vs H Q E=>∃(p:Addr)(F:Addr→Prop)(S:Sh),vs=[.ref p]∧SheetAt K H p F S∧(S.shut=true→∀C,ClsN K "SheetSealed" C→E (.ref C) none H)∧(S.shut=false→Q .non H)
theorem zbw{f:Addr}{fd:FuncData}(F:Fun K "refuse_if_sealed" "Sheet.refuse_if_sealed" zG f fd)(T:Txt K mg):FnOk P w K mg base (CX1 P w) 1 f fd ["self"] (zL K):=by
 obtain⟨c_SheetSealed,n_SheetSealed,m_SheetSealed,x_SheetSealed⟩:=T.x_SheetSealed
 refine F.okX zbv (fun vs H Q E h=>?_) (fun X W cdv A outer s H vs Q E hX hW fl md hr h=>?_)
 ·obtain⟨p,F,S,rfl,_⟩:=h
  rfl
 ·obtain⟨p,F,S,rfl,⟨dx,a1,a2,a3,d,kvs,h⟩,qE,q⟩:=h
  subst hX
  refine⟨_,(zd (zB (ym (yB (pv 0) rfl)) (zd (wL rfl md rfl m_SheetSealed x_SheetSealed (za zw zc))) zr)),?_⟩
  refine⟨_,rfl,p,_,dx,_,_,rfl,h.ip,T.cl_Sheet,T.n_Sheet_sealed,rfl,_,rfl,zge (fun hs=>?_) (fun hs=>q hs)⟩
  exact⟨(by show 1≤sizeLine;decide),by rw[hW];exact qE hs _ n_SheetSealed⟩
def zM(K:Frag):Sp:=fun vs H Q E=>∃(p:Addr)(F:Addr→Prop)(S:Sh)(j:Str),vs=[.ref p,.str j]∧SheetAt K H p F S∧(j∉S.panel→∀C,ClsN K "UnknownJudge" C→E (.ref C) none H)∧(j∈S.panel→Q .non H)
theorem zaJ{f:Addr}{fd:FuncData}(F:Fun K "refuse_unknown_judge" "Sheet.refuse_unknown_judge" zC f fd)(T:Txt K mg):FnOk P w K mg base (CX1 P w) 1 f fd ["self","judge"] (zM K):=by
 obtain⟨c_UnknownJudge,n_UnknownJudge,m_UnknownJudge,x_UnknownJudge⟩:=T.x_UnknownJudge
 refine F.okX zaL (fun vs H Q E h=>?_) (fun X W cdv A outer s H vs Q E hX hW fl md hr h=>?_)
 ·obtain⟨p,F,S,j,rfl,_⟩:=h
  rfl
 ·obtain⟨p,F,S,j,rfl,⟨dx,a1,a2,a3,d,kvs,h⟩,qE,q⟩:=h
  subst hX
  refine⟨_,(zd (zB (zp zal (pv 1) (yB (pv 0) rfl) (by first | exact zq _ | rfl)) (zd (wL rfl md rfl m_UnknownJudge x_UnknownJudge (za zw zc))) zr)),?_⟩
  refine⟨_,rfl,_,rfl,p,_,dx,_,_,rfl,h.ip,T.cl_Sheet,T.n_Sheet_panel,rfl,_,_,rfl,.inl (SqL.of h.i3),rfl,zgr _,_,rfl,?_⟩
  rw[ziH]
  refine wJ (fun hj=>?_) (fun hj=>q hj)
  exact⟨(by show 1≤sizeLine;decide),by rw[hW];exact qE hj _ n_UnknownJudge⟩
def yQ(K:Frag):Sp:=fun vs H Q _=>∃(p:Addr)(F:Addr→Prop)(S:Sh),vs=[.ref p]∧SheetAt K H p F S∧∀(l:Addr)(H':Hp),Same H H'→H l=none→H' l=some (.lst (S.couples.map V.int))→Q (.ref l) H'
theorem zdT{f:Addr}{fd:FuncData}(F:Fun K "couples" "Sheet.couples" yn f fd)(T:Txt K mg):FnOk P w K mg base CX0 1 f fd ["self"] (yQ K):=by
 refine F.ok zd0 (fun vs H Q E h=>?_) (fun cdv A outer s H vs Q E hr h=>?_)
 ·obtain⟨p,F,S,rfl,_⟩:=h
  rfl
 ·obtain⟨p,F,S,rfl,⟨dx,a1,a2,a3,d,kvs,h⟩,q⟩:=h
  refine⟨_,(zd (zi (zF zS (by rfl) T.b_list boot_list (za (yB (pv 0) rfl) zc)))),?_⟩
  exact⟨_,rfl,p,_,dx,_,_,rfl,h.ip,T.cl_Sheet,T.n_Sheet_standing,rfl,_,_,rfl,.inl (SqL.of h.i1),fun l hl=>q l _ (Same.new hl) hl zf⟩
def zaT(K:Frag):Sp:=fun vs H Q _=>∃(p:Addr)(F:Addr→Prop)(S:Sh),vs=[.ref p]∧SheetAt K H p F S∧∀(l:Addr)(H':Hp),Same H H'→H l=none→H' l=some (.lst (S.struck.map V.int))→Q (.ref l) H'
theorem zeH{f:Addr}{fd:FuncData}(F:Fun K "struck" "Sheet.struck" yP f fd)(T:Txt K mg):FnOk P w K mg base CX0 1 f fd ["self"] (zaT K):=by
 refine F.ok zeI (fun vs H Q E h=>?_) (fun cdv A outer s H vs Q E hr h=>?_)
 ·obtain⟨p,F,S,rfl,_⟩:=h
  rfl
 ·obtain⟨p,F,S,rfl,⟨dx,a1,a2,a3,d,kvs,h⟩,q⟩:=h
  refine⟨_,(zd (zi (zF zS (by rfl) T.b_list boot_list (za (yB (pv 0) rfl) zc)))),?_⟩
  exact⟨_,rfl,p,_,dx,_,_,rfl,h.ip,T.cl_Sheet,T.n_Sheet_struck_so_far,rfl,_,_,rfl,.inl (SqL.of h.i2),fun l hl=>q l _ (Same.new hl) hl zf⟩
def zaV(K:Frag):Sp:=fun vs H Q _=>∃(p:Addr)(F:Addr→Prop)(S:Sh),vs=[.ref p]∧SheetAt K H p F S∧∀(l:Addr)(H':Hp),Same H H'→H l=none→H' l=some (.lst (S.panel.map V.str))→Q (.ref l) H'
theorem zeq{f:Addr}{fd:FuncData}(F:Fun K "judges" "Sheet.judges" yI f fd)(T:Txt K mg):FnOk P w K mg base CX0 1 f fd ["self"] (zaV K):=by
 refine F.ok zeD (fun vs H Q E h=>?_) (fun cdv A outer s H vs Q E hr h=>?_)
 ·obtain⟨p,F,S,rfl,_⟩:=h
  rfl
 ·obtain⟨p,F,S,rfl,⟨dx,a1,a2,a3,d,kvs,h⟩,q⟩:=h
  refine⟨_,(zd (zi (zF zS (by rfl) T.b_list boot_list (za (yB (pv 0) rfl) zc)))),?_⟩
  exact⟨_,rfl,p,_,dx,_,_,rfl,h.ip,T.cl_Sheet,T.n_Sheet_panel,rfl,_,_,rfl,.inl (SqL.of h.i3),fun l hl=>q l _ (Same.new hl) hl zf⟩
def yu(K:Frag):Sp:=fun vs H Q _=>∃(p:Addr)(F:Addr→Prop)(S:Sh),vs=[.ref p]∧ShapeAt K H p F S∧S.panel.length≤15∧∀(l:Addr)(H':Hp),Same H H'→H l=none→H' l=some (.lst (S.handed.map V.str))→Q (.ref l) H'
theorem zet{f:Addr}{fd:FuncData}(F:Fun K "handed" "Sheet.handed" yh f fd)(T:Txt K mg):FnOk P w K mg base CX0 1 f fd ["self"] (yu K):=by
 refine F.ok zey (fun vs H Q E h=>?_) (fun cdv A outer s H vs Q E hr h=>?_)
 ·obtain⟨p,F,S,rfl,_⟩:=h
  rfl
 ·obtain⟨p,F,S,rfl,⟨dx,a1,a2,a3,d,kvs,h⟩,h15,q⟩:=h
  refine⟨_,(zd (zi (zT (show CompScope (zb yh) ["self"] "judge" ["self"] [0] _ from⟨rfl,by decide +kernel,by decide +kernel,rfl,by decide +kernel,rfl,by decide +kernel,by decide +kernel⟩) rfl (zJ (yB (pv 0) rfl)) (fun _ _ _ _ _=>(zb6 (pt_cmp (pc_din (zgn hr) (pv 0) (pe_fldK (K:=K) rfl (pv 1) rfl))))) (fun _ _ _ _ _=>(pv 0))))),?_⟩
  have hln:=zx
  refine⟨_,rfl,p,_,dx,_,_,rfl,h.ip,T.cl_Sheet,T.n_Sheet_panel,rfl,a3,rfl,⟨_,SqL.of h.i3⟩,?_⟩
  refine wz (xs:=S.panel.map V.str) (fun i ys H2=>H2=H∧ys=((S.panel.take i).filter fun j=>(S.card j).isSome).map V.str) ⟨rfl,rfl⟩ ?_ (by rw[length_map];omega) ?_ ?_
  ·rintro i ys H2 hi ⟨rfl,rfl⟩
   refine⟨SqL.of h.i3,?_⟩
   rw[length_map]
   exact le_trans (length_filter_le _ _) (by rw[length_take];omega)
  ·rintro i x ys H2 hx ⟨rfl,rfl⟩
   obtain⟨hi,rfl⟩:=zdl hx
   refine⟨_,rfl,_,rfl,p,_,dx,_,_,rfl,h.ip,T.cl_Sheet,T.n_Sheet_card_by_judge,rfl,d,_,rfl,DGet.k (k:=Sum.inr (S.panel.getD i "")) h.i4,_,rfl,?_⟩
   have hv:(zar kvs (Sum.inr (S.panel.getD i ""))).isSome=(S.card (S.panel.getD i "")).isSome:=by
    cases e:S.card (S.panel.getD i "")with
    | none=>rw[h.cn _ e];rfl
    | some c=>obtain⟨l,e1,_⟩:=h.cs _ _ e;rw[e1];rfl
   rw[hv]
   refine zge (fun hb=>?_) (fun hb=>?_)
   ·refine⟨_,rfl,rfl,?_⟩
    rw[zaC hi,filter_append,filter_cons,if_pos hb,map_append]
    rfl
   ·refine⟨rfl,?_⟩
    rw[zaC hi,filter_append,filter_cons,if_neg (by rw[hb];exact Bool.false_ne_true)]
    simp
  ·rintro ys H2 ⟨rfl,rfl⟩ l hl
   rw[length_map,take_length]
   exact q l _ (Same.new hl) hl zf
def zcF(K:Frag):Sp:=fun vs H Q _=>∃(a b:Addr)(ps us:List Int),vs=[.ref a,.ref b]∧SqL K H a (ps.map V.int)∧SqL K H b (us.map V.int)∧ps.length=us.length∧us.length≤500∧∀(l:Addr)(H':Hp)(ls:List Addr),Same H H'→H l=none→H' l=some (.lst (ls.map V.ref))→All2 (TPl K H') ls (M5.rows ps us)→Q (.ref l) H'
theorem zhP{ps us:List Int}{j:Nat}(h1:j<ps.length)(h2:j<us.length):(ps.zip us).take (j+1)=(ps.zip us).take j++[(ps.getD j 0,us.getD j 0)]:=by
 have e:(ps.zip us)[j]? = some (ps.getD j 0,us.getD j 0):=by
  rw[getElem?_eq_getElem (by rw[length_zip];omega),List.getElem_zip,zeK h1,zeK h2]
 rw[take_succ,e]
 rfl
theorem ziA{f:Addr}{fd:FuncData}(F:Fun K "_law_rows" "_law_rows" zaB f fd)(T:Txt K mg):FnOk P w K mg base CX0 1 f fd ["_law_spots_here","_law_couples_here"] (zcF K):=by
 refine F.ok zbA (fun vs H Q E h=>?_) (fun cdv A outer s H vs Q E hr h=>?_)
 ·obtain⟨a,b,ps,us,rfl,_⟩:=h
  rfl
 ·obtain⟨a,b,ps,us,rfl,hA,hB,hl,hz,q⟩:=h
  refine⟨_,(ze (zy (i:=2) zbA.nd rfl (Or.inl rfl) (yT zc))
   (ze (zak PassesOwn.never rfl (zdU rfl T.b_range (za zh (za (zv yg (zn zo (by rfl) T.b_len PySem.boot_len (za (pv 1) zc)) zh) zc))) (yk (i:=3) zbA.nd rfl (Or.inl rfl))
     (zd (zak PassesOwn.never rfl (wB rfl T.b_range (za (zn zo (by rfl) T.b_len PySem.boot_len (za (pv 1) zc)) zc)) (yk (i:=4) zbA.nd rfl (Or.inl rfl))
     (zd (zB (zp zV (zI zz (pv 0) (pv 4) (fun _ _=>rfl)) (pv 3) (zq _)) (zd (zY (za0 PySem.F.plainAttrs_list PySem.F.slot_list_append PySem.F.type_list_append wV (pv 2) (za (zjp (za (pv 3) (za (zI zz (pv 1) (pv 4) (fun _ _=>rfl)) zc))) zc)))) zr)))))
   (zd (zi (pv 2))))),?_⟩
  have hln:=zx
  let F:=fun(i:Nat)=>(ps.zip us).filter fun p=>decide (p.1=(i:Int)+1)
  have hF:∀i,(F i).length≤us.length:=fun i=>by
   have:=length_filter_le (fun p=>decide (p.1=(i:Int)+1)) (ps.zip us)
   rw[length_zip] at this
   show(filter _ _).length≤_
   omega
  have hR:∀i,((List.range i).flatMap F).length≤i*us.length:=fun i=>by
   induction i with
   | zero=>simp
   | succ i ih =>
     rw[range_succ,List.flatMap_append,length_append]
     have e:flatMap F [i]=F i:=by simp
     rw[e,Nat.succ_mul]
     have:=hF i
     omega
  refine⟨by decide,fun p0 hp0=>?_⟩
  refine⟨_,rfl,b,_,rfl,.inl ((Same.new hp0).seq hB),_,_,rfl,rfl,_,_,rfl,⟨by decide,by decide,by rw[length_map];omega,by rw[length_map];omega⟩,?_⟩
  refine yX (fun i σ H2=>∃(v3 v4:Option V)(ls:List Addr),σ=[some (.ref a),some (.ref b),some (.ref p0),v3,v4]∧Same H H2∧H2 p0=some (.lst (ls.map V.ref))∧All2 (TPl K H2) ls ((List.range i).flatMap F)) ⟨_,_,[],rfl,Same.new hp0,zf,.nil⟩ ?_ ?_
  ·rintro i σ H2 hi ⟨v3,v4,ls,rfl,s2,e2,r2⟩
   have hi:i<us.length:=by rw[length_map] at hi;omega
   have hri:=hR i
   have hmul:i*us.length≤500*500:=Nat.mul_le_mul (by omega) hz
   refine⟨_,rfl,b,_,rfl,.inl (s2.seq hB),_,rfl,by omega,by rw[length_map];omega,?_⟩
   refine yX (fun j σ H3=>∃(v4:Option V)(ls:List Addr),σ=[some (.ref a),some (.ref b),some (.ref p0),some (.int (1+(i:Int))),v4]∧Same H H3∧H3 p0=some (.lst (ls.map V.ref))∧All2 (TPl K H3) ls ((List.range i).flatMap F++(((ps.zip us).take j).filter fun p=>decide (p.1=(i:Int)+1)))) ⟨_,ls,rfl,s2,e2,by rw[List.take_zero,filter_nil,append_nil];exact r2⟩ ?_ ?_
   ·rintro j σ H3 hj ⟨v4,ls,rfl,s3,e3,r3⟩
    have hj:j<us.length:=by rw[length_map] at hj;omega
    have hjp:j<ps.length:=by omega
    have e1:atI (ps.map V.int) (0+(j:Int))=some (.int (ps.getD j 0)):=by rw[Int.zero_add];exact we (zcd hjp)
    have e4:atI (us.map V.int) (0+(j:Int))=some (.int (us.getD j 0)):=by rw[Int.zero_add];exact we (zcd hj)
    have hlen:=r3.length
    rw[length_append] at hlen
    have hfl:=length_filter_le (fun p=>decide (p.1=(i:Int)+1)) ((ps.zip us).take j)
    rw[length_take] at hfl
    refine⟨_,rfl,_,rfl,a,_,_,_,rfl,rfl,s3.seq hA,e1,_,rfl,rfl,_,rfl,wk (fun h=>?_) (fun h=>?_)⟩
    ·have h:ps.getD j 0=(i:Int)+1:=by injection h with h;omega
     refine⟨_,rfl,.inl ⟨rfl,_,SqL.of e3⟩,_,rfl,_,rfl,_,rfl,b,_,_,_,rfl,rfl,s3.seq hB,e4,(by show 2≤sizeLine;decide),fun p5 hp5=>?_⟩
     have n05:p0≠p5:=zj e3 hp5
     refine⟨p0,_,_,rfl,rfl,(by rw[zg n05];exact e3),(by rw[length_map];omega),?_⟩
     refine⟨_,ls++[p5],rfl,(s3.newT hp5).put hp0,lst_appR ls p5,?_⟩
     rw[zhP hjp hj,filter_append,filter_cons_of_pos (by simpa using h),filter_nil,←append_assoc]
     refine All2.snoc (TPl.put (r3.imp fun _ _=>TPl.stays K _ _ _ _ (Same.new hp5)) (by rw[zg n05];exact e3)) ?_
     refine SqT.put (ys:=ls.map V.ref) ?_ (by rw[zg n05];exact e3)
     show SqT K _ p5 [.int (ps.getD j 0),.int (us.getD j 0)]
     rw[h,Int.add_comm]
     exact SqT.new
    ·have h:¬ps.getD j 0=(i:Int)+1:=fun z=>h (by rw[z,Int.add_comm])
     refine⟨_,ls,rfl,s3,e3,?_⟩
     rw[zhP hjp hj,filter_append,filter_cons_of_neg (by simpa using h),filter_nil,append_nil]
     exact r3
   ·rintro σ H3 ⟨v4,ls,rfl,s3,e3,r3⟩
    refine⟨_,_,ls,rfl,s3,e3,?_⟩
    rw[range_succ,List.flatMap_append]
    have e:flatMap F [i]=F i:=by simp
    have et:(ps.zip us).take ((us.map V.int).length:Int).toNat=ps.zip us:=take_of_length_le (by rw[length_zip,length_map];omega)
    rw[et] at r3
    rw[e]
    exact r3
  ·rintro σ H2 ⟨v3,v4,ls,rfl,s2,e2,r2⟩
   have e:(((us.map V.int).length:Int)+1-1).toNat=us.length:=by rw[length_map];omega
   rw[e] at r2
   exact⟨_,rfl,q p0 _ ls s2 hp0 e2 r2⟩
def zcM(K:Frag):Sp:=fun vs H Q _=>∃(a b:Addr)(ns ms:List Int),vs=[.ref a,.ref b]∧SqL K H a (ns.map V.int)∧SqL K H b (ms.map V.int)∧ms.Nodup∧Q (.bl (decide (ns.Perm ms))) H
theorem good_perm{ns ms:List Int}(hn:ms.Nodup)(h:∀x∈ms,ns.count x=1)(hl:ns.length=ms.length):ns.Perm ms :=
 (M1.zej hn (fun x hx=>List.count_pos_iff.mp (by rw[h x hx];decide)) (le_of_eq hl)).symm
theorem good_count{ns ms:List Int}(hn:ms.Nodup)(h:ns.Perm ms){x:Int}(hx:x∈ms):ns.count x=1:=by
 rw[h.count_eq]
 exact M1.count_one hn hx
theorem ziu{f:Addr}{fd:FuncData}(F:Fun K "_law_good" "_law_good" zax f fd)(T:Txt K mg):FnOk P w K mg base CX0 1 f fd ["_law_card_here","_law_couples_here"] (zcM K):=by
 refine F.ok zee (fun vs H Q E h=>?_) (fun cdv A outer s H vs Q E hr h=>?_)
 ·obtain⟨a,b,ns,ms,rfl,_⟩:=h
  rfl
 ·obtain⟨a,b,ns,ms,rfl,hA,hB,hn,q⟩:=h
  refine⟨_,(ze (zak PassesOwn.never rfl (zJ (pv 1)) (yk (i:=2) zee.nd rfl (Or.inl rfl))
   (zd (zB (zp zaZ (za0 PySem.F.plainAttrs_list PySem.F.slot_list_count PySem.F.type_list_count mt_count (pv 0) (za (pv 2) zc)) zh (zq _)) (zd (zi wK)) zr)))
   (zd (zi (wf zV (zn zo (by rfl) T.b_len PySem.boot_len (za (pv 0) zc)) (zn zo (by rfl) T.b_len PySem.boot_len (za (pv 1) zc)) (zq _))))),?_⟩
  refine⟨_,rfl,b,rfl,⟨_,hB⟩,zdy (K:=K) (a:=b) (xs:=ms.map V.int) (fun i σ H3=>∃(v2:Option V),σ=[some (.ref a),some (.ref b),v2]∧H3=H∧∀x∈ms.take i,ns.count x=1)
   ⟨_,rfl,rfl,fun x hx=>by simp at hx⟩ (fun i σ H3 _ ⟨_,_,e,_⟩=>by rw[e];exact hB) ?_ ?_⟩
  ·rintro i x σ H3 hx ⟨v2,rfl,rfl,hc⟩
   obtain⟨hi,rfl⟩:=yV hx
   refine⟨_,rfl,.inl ⟨rfl,_,hA⟩,_,rfl,a,_,_,rfl,rfl,hA,rfl,yO _,?_⟩
   rw[ziU]
   refine⟨rfl,_,rfl,wJ (fun hne=>?_) (fun he=>?_)⟩
   ·show Q (.bl false) _
    have:¬ns.Perm ms:=fun p=>hne (by rw[good_count hn p (zam hi)];rfl)
    rw[decide_eq_false this] at q
    exact q
   ·refine⟨_,rfl,rfl,fun x hx=>?_⟩
    rw[yt hi] at hx
    rcases List.mem_append.mp hx with h | h
    ·exact hc x h
    ·rw[List.mem_singleton.mp h]
     injection he with he
     exact Int.ofNat.inj he
  ·rintro σ H3 ⟨v2,rfl,rfl,hc⟩
   rw[length_map,take_length] at hc
   refine⟨_,rfl,a,_,rfl,.inl hA,_,rfl,b,_,rfl,.inl hB,rfl,?_⟩
   rw[length_map,length_map]
   have e:decide (V.int (ns.length:Int)=V.int (ms.length:Int))=decide (ns.Perm ms):=by
    by_cases h:ns.Perm ms
    ·rw[decide_eq_true h,h.length_eq];exact decide_eq_true rfl
    ·rw[decide_eq_false h]
     refine decide_eq_false fun z=>h (good_perm hn hc ?_)
     injection z with z
     exact Int.ofNat.inj z
   rw[e]
   exact q
def zbk(K:Frag):Sp:=fun vs H Q _=>∃(a:Addr)(ns:List Int)(c:Int),vs=[.ref a,.int c]∧SqL K H a (ns.map V.int)∧ns.length≤1000∧∀(l:Addr)(H':Hp),Same H H'→H l=none→H' l=some (.lst ((ns.filter fun o => !decide (o=c)).map V.int))→Q (.ref l) H'
theorem ze4{f:Addr}{fd:FuncData}(F:Fun K "_law_without" "_law_without" yH f fd)(T:Txt K mg):FnOk P w K mg base CX0 1 f fd ["_law_card_here","_law_couple"] (zbk K):=by
 refine F.ok zfJ (fun vs H Q E h=>?_) (fun cdv A outer s H vs Q E hr h=>?_)
 ·obtain⟨a,ns,c,rfl,_⟩:=h
  rfl
 ·obtain⟨a,ns,c,rfl,hS,hz,q⟩:=h
  refine⟨_,(zd (zi (zT (show CompScope (zb yH) ["_law_card_here","_law_couple"] "_law_other" ["_law_couple"] [1] _ from⟨rfl,by decide +kernel,by decide +kernel,rfl,by decide +kernel,rfl,by decide +kernel,by decide +kernel⟩) rfl (zJ (pv 0)) (fun _ _ _ _ _=>(zb6 (zp zaZ (pv 0) (pv 1) (zq _)))) (fun _ _ _ _ _=>(pv 0))))),?_⟩
  refine⟨_,rfl,a,rfl,⟨_,hS⟩,?_⟩
  refine wz (xs:=ns.map V.int) (fun i ys H2=>H2=H∧ys=((ns.take i).filter fun o => !decide (o=c)).map V.int) ⟨rfl,rfl⟩ ?_ (by rw[length_map];have:=zx;omega) ?_ ?_
  ·rintro i ys H2 hi ⟨rfl,rfl⟩
   refine⟨hS,?_⟩
   rw[length_map]
   have:=length_filter_le (fun o => !decide (o=c)) (ns.take i)
   rw[length_take] at this
   omega
  ·rintro i x ys H2 hx ⟨rfl,rfl⟩
   obtain⟨hi,rfl⟩:=yV hx
   refine⟨_,rfl,_,rfl,rfl,_,rfl,wJ (fun h=>?_) (fun h=>?_)⟩
   ·have h:¬ns.getD i 0=c:=fun z=>h (by rw[z])
    refine⟨_,rfl,rfl,?_⟩
    rw[yt hi,filter_append,filter_cons_of_pos (by simpa using h),map_append]
    rfl
   ·have h:ns.getD i 0=c:=by injection h
    refine⟨rfl,?_⟩
    rw[yt hi,filter_append,filter_cons_of_neg (by simpa using h),filter_nil,append_nil]
  ·rintro ys H2 ⟨rfl,rfl⟩ l hl
   rw[length_map,take_length]
   exact q l _ (Same.new hl) hl zf
def za2(K:Frag):Sp:=fun vs H Q _=>∃(a:Addr)(xs:List V)(ws:List Str),vs=[.ref a]∧SqL K H a xs∧All2 WordOf xs ws∧ws.length≤200∧(∀w∈ws,w.length≤2000)∧∀H',Same H H'→Q (.str (Txt.join M6.wM ws)) H'
theorem zgZ{f:Addr}{fd:FuncData}(F:Fun K "_law_words" "_law_words" wu f fd)(T:Txt K mg):FnOk P w K mg base CX0 1 f fd ["_law_things"] (za2 K):=by
 refine F.ok zhj (fun vs H Q E h=>?_) (fun cdv A outer s H vs Q E hr h=>?_)
 ·obtain⟨a,xs,ws,rfl,_⟩:=h
  rfl
 ·obtain⟨a,xs,ws,rfl,hA,hW,hl,hw,q⟩:=h
  refine⟨_,(zd (zi (za0 PySem.F.plainAttrs_str PySem.F.slot_str_join PySem.F.type_str_join ms_join zw (za (zT (show CompScope (zb wu) ["_law_things"] "_law_thing" [] [] _ from⟨rfl,by decide +kernel,by decide +kernel,rfl,by decide +kernel,rfl,by decide +kernel,by decide +kernel⟩) rfl (zJ (pv 0)) (fun _ _ _ _ _=>yM) (fun _ _ _ _ _=>(zF zdm (by rfl) T.b_str boot_str (za (pv 0) zc)))) zc)))),?_⟩
  have hln:=zx
  have hxl:=hW.length
  refine⟨rfl,_,rfl,a,rfl,⟨_,hA⟩,?_⟩
  refine zO (xs:=xs) (fun i ys H2=>H2=H∧ys=(ws.take i).map V.str) ⟨rfl,rfl⟩ ?_ (by omega) ?_ ?_
  ·rintro i ys H2 hi ⟨rfl,rfl⟩
   exact⟨hA,by rw[length_map,length_take];omega⟩
  ·rintro i x ys H2 hx ⟨rfl,rfl⟩
   obtain⟨w,ew,rw'⟩:=hW.getL hx
   have e:(ws.take (i+1)).map V.str=(ws.take i).map V.str++[.str w]:=by rw[take_succ,ew,map_append];rfl
   cases rw' with
   | int hb=>exact⟨_,rfl,.inl ⟨_,rfl,zd2 hb,rfl,e.symm⟩⟩
   | str=>exact⟨_,rfl,.inr ⟨_,rfl,rfl,e.symm⟩⟩
  rintro ys H2 ⟨rfl,rfl⟩ l hl'
  rw[hxl,take_length]
  refine⟨_,l,ws,rfl,rfl,SqL.new,by decide +kernel,hl,hw,?_⟩
  exact q _ (Same.new hl')
def zbF(K:Frag):Sp:=fun vs H Q _=>∃(a b:Addr)(ns ms:List Int),vs=[.ref a,.ref b]∧SqL K H a (ns.map V.int)∧SqL K H b (ms.map V.int)∧ns.length<64∧ms.length<64∧∀H',Same H H'→Q (.bl (decide (ns.Perm ms))) H'
theorem zis{ns ms ns' ms':List Int}(h1:ns'.Perm ns)(h2:ns'.Pairwise (·≤ ·))(h3:ms'.Perm ms)(h4:ms'.Pairwise (·≤ ·)):decide (ns'=ms')=decide (ns.Perm ms):=by
 by_cases h:ns.Perm ms
 ·rw[decide_eq_true h]
  exact decide_eq_true (List.Perm.eq_of_pairwise (fun a b _ _ x y=>Int.le_antisymm x y) h2 h4 (h1.trans (h.trans h3.symm)))
 ·rw[decide_eq_false h]
  refine decide_eq_false fun e=>h ?_
  subst e
  exact h1.symm.trans h3
theorem zfY{f:Addr}{fd:FuncData}(F:Fun K "whole_card" "whole_card" wG f fd)(T:Txt K mg):FnOk P w K mg base CX0 1 f fd ["card","couples"] (zbF K):=by
 refine F.ok zgf (fun vs H Q E h=>?_) (fun cdv A outer s H vs Q E hr h=>?_)
 ·obtain⟨a,b,ns,ms,rfl,_⟩:=h
  rfl
 ·obtain⟨a,b,ns,ms,rfl,hA,hB,hz1,hz2,q⟩:=h
  refine⟨_,(zd (zi (wf (zdg hr.units0) (zn zcJ (by rfl) T.b_sorted PyProof.Rows.boot_sorted (za (pv 0) zc)) (zn zcJ (by rfl) T.b_sorted PyProof.Rows.boot_sorted (za (pv 1) zc)) (zq _)))),?_⟩
  refine⟨_,rfl,a,ns,rfl,hA,hz1,fun l1 ns' hl1 p1 w1=>?_⟩
  refine⟨_,rfl,b,ms,rfl,(Same.new hl1).seq hB,hz2,fun l2 ms' hl2 p2 w2=>?_⟩
  refine⟨l1,l2,_,_,rfl,rfl,(Same.new hl2).seq SqL.new,SqL.new,yO _,yO _,?_⟩
  rw[zdC,zis p1 w1 p2 w2]
  exact q _ ((Same.new hl1).newT hl2)
def zdd(K:Frag):Sp:=fun vs H Q _=>∃(a:Addr)(ns:List Int)(c:Int),vs=[.ref a,.int c]∧SqL K H a (ns.map V.int)∧c∈ns∧Q (.int ((ns.idxOf c:Nat)+1)) H
theorem zjr{f:Addr}{fd:FuncData}(F:Fun K "mark_on" "mark_on" za9 f fd)(T:Txt K mg):FnOk P w K mg base CX0 1 f fd ["card","couple"] (zdd K):=by
 refine F.ok ziZ (fun vs H Q E h=>?_) (fun cdv A outer s H vs Q E hr h=>?_)
 ·obtain⟨a,ns,c,rfl,_⟩:=h
  rfl
 ·obtain⟨a,ns,c,rfl,hS,hc,q⟩:=h
  refine⟨_,(zd (zi (zv yg (za0 PySem.F.plainAttrs_list PySem.F.slot_list_index PySem.F.type_list_index zh4 (pv 0) (za (pv 1) zc)) zh))),?_⟩
  refine⟨_,rfl,.inl ⟨rfl,_,hS⟩,_,rfl,a,_,_,rfl,rfl,hS,rfl,yO _,?_,_,_,rfl,rfl,?_⟩
  ·rw[zeN,length_map];exact List.idxOf_lt_length_iff.mpr hc
  ·rw[zeN];exact q
def zai(K:Frag):Sp:=fun vs H Q _=>∃(a:Addr)(ns:List Int)(c:Int),vs=[.ref a,.int c]∧SqL K H a (ns.map V.int)∧ns.length≤1000∧∀l H',Same H H'→H l=none→H' l=some (.lst ((ns.filter fun o => !decide (o=c)).map V.int))→Q (.ref l) H'
theorem zdh{f:Addr}{fd:FuncData}(F:Fun K "without_couple" "without_couple" zW f fd)(T:Txt K mg):FnOk P w K mg base CX0 1 f fd ["card","couple"] (zai K):=by
 refine F.ok zdF (fun vs H Q E h=>?_) (fun cdv A outer s H vs Q E hr h=>?_)
 ·obtain⟨a,ns,c,rfl,_⟩:=h
  rfl
 ·obtain⟨a,ns,c,rfl,hS,hz,q⟩:=h
  refine⟨_,(zd (zi (zT (show CompScope (zb zW) ["card","couple"] "other" ["couple"] [1] _ from⟨rfl,by decide +kernel,by decide +kernel,rfl,by decide +kernel,rfl,by decide +kernel,by decide +kernel⟩) rfl (zJ (pv 0)) (fun _ _ _ _ _=>(zb6 (zp zaZ (pv 0) (pv 1) (zq _)))) (fun _ _ _ _ _=>(pv 0))))),?_⟩
  refine⟨_,rfl,a,rfl,⟨_,hS⟩,?_⟩
  refine wz (xs:=ns.map V.int) (fun i ys H2=>H2=H∧ys=((ns.take i).filter fun o => !decide (o=c)).map V.int) ⟨rfl,rfl⟩ ?_ (by rw[length_map];exact le_trans hz (le_trans (by decide) zx)) ?_ ?_
  ·rintro i ys H2 hi ⟨rfl,rfl⟩
   refine⟨hS,?_⟩
   rw[length_map]
   exact le_trans (length_filter_le _ _) (by rw[length_take];omega)
  ·rintro i x ys H2 hx ⟨rfl,rfl⟩
   obtain⟨hi,rfl⟩:=yV hx
   refine⟨_,rfl,_,rfl,rfl,_,rfl,wJ (fun hne=>?_) (fun he=>?_)⟩
   ·refine⟨_,rfl,rfl,?_⟩
    have:¬ns.getD i 0=c:=fun e=>hne (by rw[e])
    rw[yt hi,filter_append,filter_cons_of_pos (by show(!decide (ns.getD i 0=c))=true;rw[decide_eq_false this];rfl),map_append]
    rfl
   ·refine⟨rfl,?_⟩
    have:ns.getD i 0=c:=by injection he
    rw[yt hi,filter_append,filter_cons_of_neg (by show ¬(!decide (ns.getD i 0=c))=true;rw[decide_eq_true this];decide),map_append]
    simp
  ·rintro ys H2 ⟨rfl,rfl⟩ l hl
   rw[length_map,take_length]
   exact q l _ (Same.new hl) hl zf
def zbq(K:Frag):Sp:=fun vs H Q _=>∃(n:Int),vs=[.int n]∧Q (.int (n/2+1)) H
theorem zfK{f:Addr}{fd:FuncData}(F:Fun K "majority_of" "majority_of" wa f fd)(T:Txt K mg):FnOk P w K mg base CX0 1 f fd ["many"] (zbq K):=by
 refine F.ok zfP (fun vs H Q E h=>?_) (fun cdv A outer s H vs Q E hr h=>?_)
 ·obtain⟨n,rfl,_⟩:=h
  rfl
 ·obtain⟨n,rfl,q⟩:=h
  refine⟨_,(zd (zi (zv yg (zv ww (pv 0) zh) zh))),?_⟩
  exact⟨_,rfl,_,_,rfl,rfl,⟨by decide,by decide⟩,_,_,rfl,rfl,q⟩
def zbz(K:Frag):Sp:=fun vs H Q _=>∃(a:Addr)(ms:List Int)(n:Int),vs=[.ref a,.int n]∧SqL K H a (ms.map V.int)∧ms.length≤1000∧∀(l:Addr)(H':Hp),Same H H'→H l=none→H' l=some (.lst ((M3.got ms n).map V.int))→Q (.ref l) H'
theorem ziz{f:Addr}{fd:FuncData}(F:Fun K "granting" "granting" wR f fd)(T:Txt K mg):FnOk P w K mg base CX0 1 f fd ["marks","number"] (zbz K):=by
 refine F.ok zh8 (fun vs H Q E h=>?_) (fun cdv A outer s H vs Q E hr h=>?_)
 ·obtain⟨a,ms,n,rfl,_⟩:=h
  rfl
 ·obtain⟨a,ms,n,rfl,hS,hz,q⟩:=h
  refine⟨_,(zd (zi (zT (show CompScope (zb wR) ["marks","number"] "mark" ["number"] [1] _ from⟨rfl,by decide +kernel,by decide +kernel,rfl,by decide +kernel,rfl,by decide +kernel,by decide +kernel⟩) rfl (zJ (pv 0)) (fun _ _ _ _ _=>(zb6 (zp zfm (pv 0) (pv 1) (zq _)))) (fun _ _ _ _ _=>(pv 0))))),?_⟩
  refine⟨_,rfl,a,rfl,⟨_,hS⟩,?_⟩
  refine wz (xs:=ms.map V.int) (fun i ys H2=>H2=H∧ys=(M3.got (ms.take i) n).map V.int) ⟨rfl,rfl⟩ ?_ (by rw[length_map];have:=zx;omega) ?_ ?_
  ·rintro i ys H2 hi ⟨rfl,rfl⟩
   refine⟨hS,?_⟩
   rw[length_map]
   have:=M3.zeS (ms.take i) n
   unfold M3.cnt at this
   rw[length_take] at this
   omega
  ·rintro i x ys H2 hx ⟨rfl,rfl⟩
   obtain⟨hi,rfl⟩:=yV hx
   refine⟨_,rfl,_,rfl,_,_,rfl,rfl,_,rfl,wk (fun h=>?_) (fun h=>?_)⟩
   ·refine⟨_,rfl,rfl,?_⟩
    rw[M3.zdu n hi,if_pos h,map_append]
    rfl
   ·refine⟨rfl,?_⟩
    rw[M3.zdu n hi,if_neg h]
  ·rintro ys H2 ⟨rfl,rfl⟩ l hl
   rw[length_map,take_length]
   exact q l _ (Same.new hl) hl zf
def zbg(K:Frag):Sp:=fun vs H Q _=>∃(f:Str),vs=[.str f]∧Q (.int (M20.due f)) H
theorem zfM{f:Addr}{fd:FuncData}(F:Fun K "due_couples" "due_couples" wb f fd)(T:Txt K mg):FnOk P w K mg base CX0 1 f fd ["first"] (zbg K):=by
 refine F.ok ze7 (fun vs H Q E h=>?_) (fun cdv A outer s H vs Q E hr h=>?_)
 ·obtain⟨f,rfl,_⟩:=h
  rfl
 ·obtain⟨f,rfl,q⟩:=h
  refine⟨_,(zd (zi (pe_ifExp (zp zdY (pv 0) (zdv T.c_COUPLE_WORDS rfl) (by first | exact zq _ | rfl)) zh zh))),?_⟩
  unfold M20.due at q
  refine⟨_,rfl,fun a ha=>⟨a,_,rfl,.inr (ha _),rfl,M20.zgp _,_,rfl,?_⟩⟩
  refine zge (fun h1=>?_) (fun h1=>?_)
  ·rw[if_pos (show M20.inW f M20.zch=true from h1)] at q
   exact q
  ·rw[if_neg (by rw[show M20.inW f M20.zch=false from h1];exact Bool.false_ne_true)] at q
   exact q
def zd6(K:Frag):Sp:=fun vs H Q _=>∃(c:Nat),vs=[.str ⟨#[c]⟩]∧Q (.bl (M20.fig c)) H
theorem ok_figure{f:Addr}{fd:FuncData}(F:Fun K "figure" "figure" zbW f fd)(T:Txt K mg):FnOk P w K mg base CX0 1 f fd ["sign"] (zd6 K):=by
 refine F.ok sc_figure (fun vs H Q E h=>?_) (fun cdv A outer s H vs Q E hr h=>?_)
 ·obtain⟨c,rfl,_⟩:=h
  rfl
 ·obtain⟨c,rfl,q⟩:=h
  refine⟨_,(zd (zi (zdx zcP zcP zw (pv 0) zw))),?_⟩
  unfold M20.fig at q
  refine⟨_,rfl,_,_,rfl,rfl,_,rfl,?_⟩
  rw[M20.le_0]
  refine wk (fun h1=>?_) (fun h1=>?_)
  ·rw[decide_eq_true h1,Bool.true_and] at q
   refine⟨_,_,rfl,rfl,?_⟩
   rw[M20.le_9]
   exact q
  ·rw[decide_eq_false h1,Bool.false_and] at q
   exact q
def zbr(K:Frag):Sp:=fun vs H Q _=>∃(n:Int),vs=[.int n]∧Q (.bl (decide (1≤n) && decide (n≤999))) H
theorem zeT{f:Addr}{fd:FuncData}(F:Fun K "good_number" "good_number" y9 f fd)(T:Txt K mg):FnOk P w K mg base CX0 1 f fd ["couple"] (zbr K):=by
 refine F.ok ze0 (fun vs H Q E h=>?_) (fun cdv A outer s H vs Q E hr h=>?_)
 ·obtain⟨n,rfl,_⟩:=h
  rfl
 ·obtain⟨n,rfl,q⟩:=h
  refine⟨_,(zd (zi (zdx zfm zfm zh (pv 0) (zbV T.c_MOST_NUMBER rfl)))),?_⟩
  refine⟨_,rfl,_,_,rfl,rfl,_,rfl,wk (fun h1=>?_) (fun h1=>?_)⟩
  ·rw[decide_eq_true h1,Bool.true_and] at q
   exact⟨_,_,rfl,rfl,q⟩
  ·rw[decide_eq_false h1,Bool.false_and] at q
   exact q
def zaQ(K:Frag):Sp:=fun vs H Q _=>∃(c:Nat),vs=[.str ⟨#[c]⟩]∧Q (.bl (zcC c)) H
theorem zeB{f:Addr}{fd:FuncData}(F:Fun K "small_letter" "small_letter" yJ f fd)(T:Txt K mg):FnOk P w K mg base CX0 1 f fd ["sign"] (zaQ K):=by
 refine F.ok zeA (fun vs H Q E h=>?_) (fun cdv A outer s H vs Q E hr h=>?_)
 ·obtain⟨c,rfl,_⟩:=h
  rfl
 ·obtain⟨c,rfl,q⟩:=h
  refine⟨_,(zd (zi (zdx zcP zcP zw (pv 0) zw))),?_⟩
  unfold zcC at q
  refine⟨_,rfl,_,_,rfl,rfl,_,rfl,?_⟩
  rw[M2.le_a]
  refine wk (fun h1=>?_) (fun h1=>?_)
  ·rw[decide_eq_true h1,Bool.true_and] at q
   refine⟨_,_,rfl,rfl,?_⟩
   rw[M2.le_z]
   exact q
  ·rw[decide_eq_false h1,Bool.false_and] at q
   exact q
def wm(K:Frag):Sp:=fun vs H Q _=>∃(x:V)(n:Nat)(m:Int),vs=[x,.int m]∧LenV K x H n∧Q (.bl (decide (1≤(n:Int)) && decide ((n:Int)≤m))) H
theorem zfC{f:Addr}{fd:FuncData}(F:Fun K "good_length" "good_length" yW f fd)(T:Txt K mg):FnOk P w K mg base CX0 1 f fd ["things","most"] (wm K):=by
 refine F.ok zfx (fun vs H Q E h=>?_) (fun cdv A outer s H vs Q E hr h=>?_)
 ·obtain⟨x,n,m,rfl,_⟩:=h
  rfl
 ·obtain⟨x,n,m,rfl,hx,q⟩:=h
  refine⟨_,(zd (zi (zdx zfm zfm zh (zn call_len (by rfl) T.b_len PySem.boot_len (za (pv 0) zc)) (pv 1)))),?_⟩
  refine⟨_,rfl,x,n,rfl,hx,_,_,rfl,rfl,_,rfl,wk (fun h1=>?_) (fun h1=>?_)⟩
  ·rw[decide_eq_true h1,Bool.true_and] at q
   exact⟨_,rfl,_,_,rfl,rfl,q⟩
  ·rw[decide_eq_false h1,Bool.false_and] at q
   exact q
def zaG(K:Frag):Sp:=fun vs H Q _=>∃a:Addr,vs=[.ref a]∧((∃ns:List Int,SqL K H a (ns.map V.int)∧ns.length<4000∧∀H',Same H H'→Q (.bl (decide ns.Nodup)) H')∨∃ts:List Str,SqL K H a (ts.map V.str)∧ts.length<4000∧Q (.bl (decide ts.Nodup)) H)
theorem zgh{f:Addr}{fd:FuncData}(F:Fun K "all_unlike" "all_unlike" wI f fd)(T:Txt K mg):FnOk P w K mg base CX0 1 f fd ["things"] (zaG K):=by
 refine F.ok zfW (fun vs H Q E h=>?_) (fun cdv A outer s H vs Q E hr h=>?_)
 ·obtain⟨a,rfl,_⟩:=h
  rfl
 ·obtain⟨a,rfl,h⟩:=h
  refine⟨_,(zd (zi (wf zV (pe_both (zn call_len_set (by rfl) T.b_len PySem.boot_len (za (zF (zgS rfl) (by rfl) T.b_set boot_set (za (pv 0) zc)) zc)) (zi9 rfl (by rfl) T.b_len (by rfl) T.b_set (pv 0))) (zn zo (by rfl) T.b_len PySem.boot_len (za (pv 0) zc)) (zq _)))),?_⟩
  rcases h with⟨ns,hS,hz,q⟩|⟨ts,hS,hz,q⟩
  ·refine .inl ⟨_,rfl,a,ns,rfl,hS,hz,fun l hl=>?_⟩
   refine⟨l,_,_,rfl,zf,_,rfl,a,_,rfl,.inl ((Same.new hl).seq hS),rfl,?_⟩
   have e:decide (V.int ((PyProof.Rows.firstMet (fun i=>ns.getD i 0) ns.length).length:Int)=V.int ((ns.map V.int).length:Int))=decide ns.Nodup:=by
    rw[length_map]
    by_cases h:ns.Nodup
    ·rw[decide_eq_true h,(ziM ns).mpr h];exact decide_eq_true rfl
    ·rw[decide_eq_false h]
     refine decide_eq_false fun z=>h ((ziM ns).mp ?_)
     injection z with z
     exact Int.ofNat.inj z
   rw[e]
   exact q _ (Same.new hl)
  ·refine .inr ⟨_,rfl,a,ts,rfl,hS,hz,?_⟩
   refine⟨_,rfl,a,_,rfl,.inl hS,rfl,?_⟩
   have e:decide (V.int ((met (fun i=>ts.getD i "") ts.length).length:Int)=V.int ((ts.map V.str).length:Int))=decide ts.Nodup:=by
    rw[length_map]
    by_cases h:ts.Nodup
    ·rw[decide_eq_true h,(zig ts "").mpr h];exact decide_eq_true rfl
    ·rw[decide_eq_false h]
     refine decide_eq_false fun z=>h ((zig ts "").mp ?_)
     injection z with z
     exact Int.ofNat.inj z
   rw[e]
   exact q
def zaR(K:Frag):Sp:=fun vs H Q _=>∃(a:Addr)(ls:List Addr)(rs:List (Int×Int)),vs=[.ref a]∧SqL K H a (ls.map V.ref)∧All2 (TPl K H) ls rs∧rs.length≤24∧(∀p∈rs,(1≤p.1∧p.1≤999)∧1≤p.2∧p.2≤999)∧∀H',Same H H'→Q (.str (Txt.join M6.wM (rs.map M6.zcI))) H'
theorem zeC{f:Addr}{fd:FuncData}(F:Fun K "ranking_text" "ranking_text" ye f fd)(T:Txt K mg):FnOk P w K mg base CX0 1 f fd ["rows"] (zaR K):=by
 refine F.ok zeu (fun vs H Q E h=>?_) (fun cdv A outer s H vs Q E hr h=>?_)
 ·obtain⟨a,ls,rs,rfl,_⟩:=h
  rfl
 ·obtain⟨a,ls,rs,rfl,hA,hR,hl,hr9,q⟩:=h
  refine⟨_,(zd (zi (za0 PySem.F.plainAttrs_str PySem.F.slot_str_join PySem.F.type_str_join ms_join zw (za (zih (show CompScope2 (zb ye) ["rows"] "place" "couple" [] [] _ from⟨rfl,by decide +kernel,by decide +kernel,rfl,rfl,by decide +kernel,rfl,by decide +kernel,by decide +kernel⟩) rfl (zJ (pv 0)) (fun _ _ _ _ _=>yM) (fun _ _ _ _ _=>(pe_fstr (zg8 (pe_fmt (pv 0)) (zg8 zw (zg8 (pe_fmt (pv 1)) pj_nil)))))) zc)))),?_⟩
  have hln:=zx
  refine⟨rfl,_,rfl,a,rfl,⟨_,hA⟩,?_⟩
  refine zeR (f:=M6.zcI) hA hR (by omega) (fun pr H' R hpr s' h=>?_) fun H6 s6=>?_
  ·obtain⟨p1,p2⟩:=hr9 pr hpr
   obtain⟨l1,l2,l3⟩:=M6.zcR p1 p2
   have l0:Str.empty.length=0:=rfl
   have lc:(Str.ofString ":").length=1:=M6.zd3
   unfold tN at l1 l2
   refine⟨_,rfl,.inl ⟨_,rfl,zd2 (by omega),_,rfl,?_,_,rfl,?_,_,rfl,.inl ⟨_,rfl,zd2 (by omega),_,rfl,?_,?_,?_⟩⟩⟩
   ·rw[wE];omega
   ·rw[wE,wE];omega
   ·rw[wE,wE,wE];omega
   ·rw[wE,wE,wE];omega
   ·rw[M6.emp_app]
    exact h H' (Same.refl _)
  intro l6 hl6
  refine⟨_,l6,rs.map M6.zcI,rfl,rfl,SqL.new,by decide +kernel,by rw[length_map];omega,fun w hw=>?_,q _ (s6.newT hl6)⟩
  obtain⟨p,hp,rfl⟩:=List.mem_map.mp hw
  have:=(M6.zcR (hr9 p hp).1 (hr9 p hp).2).2.2
  omega
def za4(K:Frag):Sp:=fun vs H Q _=>∃x b1 b2,vs=[x]∧isInt x=some b1∧isBool x=some b2∧Q (.bl (b1 && !b2)) H
theorem zho{f:Addr}{fd:FuncData}(F:Fun K "_law_whole" "_law_whole" zad f fd)(T:Txt K mg):FnOk P w K mg base CX0 1 f fd ["_law_found"] (za4 K):=by
 refine F.ok zhw (fun vs H Q E h=>?_) (fun cdv A outer s H vs Q E hr h=>?_)
 ·obtain⟨x,b1,b2,rfl,_⟩:=h
  rfl
 ·obtain⟨x,b1,b2,rfl,h1,h2,k⟩:=h
  refine⟨_,(zd (zi (zas (zn zg6 (by rfl) T.b_isinstance boot_isinstance (za (pv 0) (za (zbB (v:=V.ty "int") rfl T.b_int boot_int rfl) zc))) (zca (pe_not (zn zc1 (by rfl) T.b_isinstance boot_isinstance (za (pv 0) (za (zbB (v:=V.ty "bool") rfl T.b_bool boot_bool rfl) zc)))))))),?_⟩
  refine⟨_,rfl,x,b1,rfl,h1,_,rfl,?_⟩
  cases b1 with
  | false=>exact zao k
  | true=>exact zdG ⟨_,rfl,x,b2,rfl,h2,_,rfl,k⟩
def zdX(K:Frag):Sp:=fun vs H Q _=>∃(a:Addr)(ns:List Int)(k:Int),vs=[.ref a,.int k]∧SqL K H a (ns.map V.int)∧0≤k∧Q (.int (ns.getD k.toNat 0)) H
theorem ok_law_at{f:Addr}{fd:FuncData}(F:Fun K "_law_at" "_law_at" zbP f fd)(T:Txt K mg):FnOk P w K mg base CX0 1 f fd ["_law_script","_law_k"] (zdX K):=by
 refine F.ok sc_law_at (fun vs H Q E h=>?_) (fun cdv A outer s H vs Q E hr h=>?_)
 ·obtain⟨a,ns,k,rfl,_⟩:=h
  rfl
 ·obtain⟨a,ns,k,rfl,hS,h0,q⟩:=h
  refine⟨_,(ze (zB (zp op_lt (pv 1) (zn zo (by rfl) T.b_len PySem.boot_len (za (pv 0) zc)) (zq _)) (zd (zi (zI zz (pv 0) (pv 1) (fun _ _=>rfl)))) zr)
   (zd (zi zh))),?_⟩
  refine⟨_,rfl,_,rfl,a,_,rfl,.inl hS,_,_,rfl,rfl,_,rfl,wk (fun hk=>?_) (fun hk=>?_)⟩
  ·rw[length_map] at hk
   exact⟨_,rfl,_,rfl,a,_,k,_,rfl,rfl,hS,zdn h0 hk,q⟩
  ·rw[length_map] at hk
   show Q (.int 0) H
   rw[getD_eq_getElem?_getD,List.getElem?_eq_none (by omega)] at q
   exact q
def zcg(K:Frag):Sp:=fun vs H Q _=>∃(a b:Addr)(ts us:List Str),vs=[.ref a,.ref b]∧SqL K H a (ts.map V.str)∧SqL K H b (us.map V.str)∧us.length≤1000000∧Q (.bl (decide (ts=us))) H
theorem texts_all{ts us:List Str}(hl:ts.length=us.length)(h:∀j,j<us.length→ts.getD j ""=us.getD j ""):ts=us:=by
 refine ext_getElem hl fun j h1 h2=>?_
 have:=h j h2
 rwa [getD_eq_getElem?_getD,getD_eq_getElem?_getD,getElem?_eq_getElem h1,getElem?_eq_getElem h2] at this
theorem zhu{f:Addr}{fd:FuncData}(F:Fun K "_law_texts" "_law_texts" wW f fd)(T:Txt K mg):FnOk P w K mg base CX0 1 f fd ["_law_found","_law_due_here"] (zcg K):=by
 refine F.ok zdp (fun vs H Q E h=>?_) (fun cdv A outer s H vs Q E hr h=>?_)
 ·obtain⟨a,b,ts,us,rfl,_⟩:=h
  rfl
 ·obtain⟨a,b,ts,us,rfl,hA,hB,hz,q⟩:=h
  refine⟨_,(ze (zB (PW.pt (zfy (yU (ym (zn zbL (by rfl) T.b_isinstance boot_isinstance (za (pv 0) (za (zbB (v:=V.ty "list") rfl T.b_list boot_list rfl) zc))))) (zde (zp zaZ (zn zo (by rfl) T.b_len PySem.boot_len (za (pv 0) zc)) (zn zo (by rfl) T.b_len PySem.boot_len (za (pv 1) zc)) (zq _))))) (zd (zi wK)) zr)
   (ze (zak PassesOwn.never rfl (wB rfl T.b_range (za (zn zo (by rfl) T.b_len PySem.boot_len (za (pv 1) zc)) zc)) (yk (i:=2) zdp.nd rfl (Or.inl rfl))
     (zd (zB (PW.pt (zfy (yU (ym (zn zdL (by rfl) T.b_isinstance boot_isinstance (za (zI zz (pv 0) (pv 2) (fun _ _=>rfl)) (za (zbB (v:=V.ty "str") rfl T.b_str boot_str rfl) zc))))) (zde (zp zaZ (zI zz (pv 0) (pv 2) (fun _ _=>rfl)) (zI zz (pv 1) (pv 2) (fun _ _=>rfl)) (zq _))))) (zd (zi wK)) zr)))
   (zd (zi wK)))),?_⟩
  refine⟨_,rfl,_,_,rfl,.yes hA,_,rfl,zao ?_⟩
  refine⟨_,rfl,a,_,rfl,.inl hA,_,rfl,b,_,rfl,.inl hB,rfl,_,rfl,?_⟩
  rw[length_map,length_map]
  refine wJ (fun hne=>?_) (fun he=>?_)
  ·show Q (.bl false) H
   have:ts≠us:=fun e=>hne (by rw[e])
   rw[decide_eq_false this] at q
   exact q
  ·have hl:ts.length=us.length:=by injection he with he;exact Int.ofNat.inj he
   refine⟨_,rfl,b,_,rfl,.inl hB,_,rfl,by omega,by rw[length_map];omega,?_⟩
   rw[length_map]
   refine yX (fun i σ H2=>∃v,σ=[some (.ref a),some (.ref b),v]∧H2=H∧∀j,j<i→ts.getD j ""=us.getD j "") ⟨_,rfl,rfl,fun j hj=>by omega⟩ ?_ ?_
   ·rintro i σ H2 hi ⟨v,rfl,rfl,hj⟩
    have hi':i<us.length:=by simpa using hi
    have e1:atI (ts.map V.str) (0+(i:Int))=some (.str (ts.getD i "")):=by rw[Int.zero_add];exact we (zdj (by omega))
    have e2:atI (us.map V.str) (0+(i:Int))=some (.str (us.getD i "")):=by rw[Int.zero_add];exact we (zdj hi')
    refine⟨_,rfl,_,rfl,a,_,_,_,rfl,rfl,hA,e1,_,_,rfl,rfl,_,rfl,zao ?_⟩
    refine⟨_,rfl,_,rfl,a,_,_,_,rfl,rfl,hA,e1,_,rfl,_,rfl,b,_,_,_,rfl,rfl,hB,e2,rfl,_,rfl,wJ (fun hne=>?_) (fun he=>?_)⟩
    ·show Q (.bl false) _
     have:ts≠us:=fun e=>hne (by rw[e])
     rw[decide_eq_false this] at q
     exact q
    ·refine⟨_,rfl,rfl,fun j hj'=>?_⟩
     by_cases hji:j=i
     ·subst hji;injection he
     ·exact hj j (by omega)
   ·rintro σ H2 ⟨v,rfl,rfl,hj⟩
    show Q (.bl true) _
    have:ts=us:=texts_all hl fun j h=>hj j (by simpa using h)
    rw[decide_eq_true this] at q
    exact q
def mixZ(c p:Int):Int:=(c*48271%2147483647+p+1)*69621%2147483647
def zbh(K:Frag):Sp:=fun vs H Q _=>∃c p,vs=[.int c,.int p]∧Q (.int (mixZ c p)) H
theorem ziS{f:Addr}{fd:FuncData}(F:Fun K "_law_mix" "_law_mix" zbb f fd)(T:Txt K mg):FnOk P w K mg base CX0 1 f fd ["_law_cell","_law_place"] (zbh K):=by
 refine F.ok zff (fun vs H Q E h=>?_) (fun cdv A outer s H vs Q E hr h=>?_)
 ·obtain⟨c,p,rfl,_⟩:=h
  rfl
 ·obtain⟨c,p,rfl,q⟩:=h
  refine⟨_,(ze (zy (i:=2) zff.nd rfl (Or.inl rfl) (zv yG (zv zg2 (pv 0) zh) zh))
   (zd (zi (zv yG (zv zg2 (zv yg (zv yg (pv 2) (pv 1)) zh) zh) zh)))),?_⟩
  refine⟨_,rfl,_,_,rfl,rfl,.inr ⟨by decide,by decide⟩,_,_,rfl,rfl,(by show(0:Int)<2147483647;decide),?_⟩
  exact⟨_,rfl,_,rfl,_,_,rfl,rfl,_,_,rfl,rfl,_,_,rfl,rfl,.inr ⟨by decide,by decide⟩,_,_,rfl,rfl,(by show(0:Int)<2147483647;decide),q⟩
def zcE(K:Frag):Sp:=fun vs H Q _=>∃(md c a b d:Int),vs=[.int md,.int c,.int a,.int b,.int d]∧a≤b∧b≤d∧∀r:Int,a≤r→r≤d→Q (.int r) H
theorem zij{f:Addr}{fd:FuncData}(F:Fun K "_law_many" "_law_many" zat f fd)(T:Txt K mg):FnOk P w K mg base CX0 1 f fd ["_law_mode","_law_cell","_law_least","_law_few","_law_most"] (zcE K):=by
 refine F.ok zix (fun vs H Q E h=>?_) (fun cdv A outer s H vs Q E hr h=>?_)
 ·obtain⟨md,c,a,b,d,rfl,_⟩:=h
  rfl
 ·obtain⟨md,c,a,b,d,rfl,h1,h2,q⟩:=h
  refine⟨_,(ze (zB (zp zV (pv 0) zh (zq _)) (zd (zi (pv 4))) zr)
   (ze (zB (zp zV (pv 0) zh (zq _)) (zd (zi (zv yg (pv 2) (zv yG (pv 1) (zv zi8 (zv yg (pv 4) zh) (pv 2)))))) zr)
   (zd (zi (zv yg (pv 2) (zv yG (pv 1) (zv zi8 (zv yg (pv 3) zh) (pv 2)))))))),?_⟩
  have e1:=Int.emod_nonneg c (show d+1-a≠0 by omega)
  have e2:=Int.emod_lt_of_pos c (show 0<d+1-a by omega)
  have e3:=Int.emod_nonneg c (show b+1-a≠0 by omega)
  have e4:=Int.emod_lt_of_pos c (show 0<b+1-a by omega)
  refine⟨_,rfl,rfl,_,rfl,wk (fun _=>⟨_,rfl,q d (by omega) (by omega)⟩) (fun _=>?_)⟩
  refine⟨_,rfl,rfl,_,rfl,wk (fun _=>?_) (fun _=>?_)⟩
  ·exact⟨_,rfl,_,rfl,_,rfl,_,_,rfl,rfl,_,rfl,_,_,rfl,rfl,_,_,rfl,rfl,(by show 0<d+1-a;omega),_,_,rfl,rfl,q _ (by omega) (by omega)⟩
  ·exact⟨_,rfl,_,rfl,_,rfl,_,_,rfl,rfl,_,rfl,_,_,rfl,rfl,_,_,rfl,rfl,(by show 0<b+1-a;omega),_,_,rfl,rfl,q _ (by omega) (by omega)⟩
def zbl(K:Frag):Sp:=fun vs H Q _=>∃c m,vs=[.int c,.int m]∧0≤m∧m≤1000∧∀l H',Same H H'→H l=none→H' l=some (.lst ((M1.couples c m.toNat).map V.int))→Q (.ref l) H'
theorem zfG{f:Addr}{fd:FuncData}(F:Fun K "_law_couples" "_law_couples" yE f fd)(T:Txt K mg):FnOk P w K mg base CX0 1 f fd ["_law_cell","_law_many_here"] (zbl K):=by
 refine F.ok zcD (fun vs H Q E h=>?_) (fun cdv A outer s H vs Q E hr h=>?_)
 ·obtain⟨c,m,rfl,_⟩:=h
  rfl
 ·obtain⟨c,m,rfl,h0,h1,q⟩:=h
  refine⟨_,(ze (zy (i:=2) zcD.nd rfl (Or.inr rfl) (zI zz (yT (za zh (za zh (za zh (za zh zc))))) (zv yG (pv 0) zh) (fun _ _=>rfl)))
   (zd (zi (zT (show CompScope (zb yE) ["_law_cell","_law_many_here","_law_gap"] "_law_k" ["_law_cell","_law_gap"] [0,2] _ from⟨rfl,by decide +kernel,by decide +kernel,rfl,by decide +kernel,rfl,by decide +kernel,by decide +kernel⟩) rfl (wB rfl T.b_range (za (pv 1) zc)) (fun _ _ _ _ _=>yM) (fun _ _ _ _ _=>(zv yg (zv yG (zv yg (zv ww (pv 1) zh) (zv zg2 (pv 0) (pv 2))) zh) zh)))))),?_⟩
  refine⟨by decide,fun p hp=>?_⟩
  have g4:0≤c%4∧c%4<4:=⟨Int.emod_nonneg _ (by decide),Int.emod_lt_of_pos _ (by decide)⟩
  have eg:atI [V.int 1,V.int 7,V.int 500,V.int 998] (c%4)=some (.int (M1.gap c)):=by
   have h:c%4=0∨c%4=1∨c%4=2∨c%4=3:=by omega
   unfold M1.gap
   rcases h with h | h | h | h <;> rw[h] <;> rfl
  refine⟨_,rfl,_,_,rfl,rfl,(by show(0:Int)<4;decide),p,_,_,_,rfl,rfl,SqL.new,eg,?_⟩
  refine⟨_,rfl,m,rfl,by omega,by omega,?_⟩
  refine zhU (fun i ys H2=>H2=upd H p (.lst [V.int 1,V.int 7,V.int 500,V.int 998])∧ys=(M1.couples c i).map V.int) ⟨rfl,rfl⟩ ?_ (le_trans (by omega) zx) ?_ ?_
  ·rintro i ys H2 hi ⟨_,rfl⟩
   rw[length_map,M1.zek]
   exact le_refl _
  ·rintro i ys H2 hi ⟨rfl,rfl⟩
   refine⟨_,rfl,_,_,rfl,rfl,⟨by decide,by decide⟩,_,rfl,_,rfl,_,_,rfl,rfl,.inl ⟨by omega,by omega⟩,_,_,rfl,rfl,_,_,rfl,rfl,(by show(0:Int)<999;decide),_,_,rfl,rfl,rfl,?_⟩
   rw[M1.zgT,map_append,Int.zero_add]
   rfl
  ·rintro ys H2 ⟨rfl,rfl⟩ l hl
   exact q l _ ((Same.new hp).newT hl) (Same.free (Same.new hp) hl) zf
def zb9(K:Frag):Sp:=fun vs H Q _=>∃(a:Addr)(cs:List (List Int)) (c:Int),vs=[.ref a,.int c]∧Refs K (IL K) H a cs∧cs.length≤1000∧(∀d∈cs,c∈d)∧∀(l:Addr)(H':Hp),Same H H'→H l=none→H' l=some (.lst ((M5.zA cs c).map V.int))→Q (.ref l) H'
theorem zhz{f:Addr}{fd:FuncData}(F:Fun K "_law_marks" "_law_marks" wl f fd)(T:Txt K mg):FnOk P w K mg base CX0 1 f fd ["_law_cards","_law_couple"] (zb9 K):=by
 refine F.ok zhm (fun vs H Q E h=>?_) (fun cdv A outer s H vs Q E hr h=>?_)
 ·obtain⟨a,cs,c,rfl,_⟩:=h
  rfl
 ·obtain⟨a,cs,c,rfl,⟨ls,hS,hR⟩,hz,hm,q⟩:=h
  refine⟨_,(zd (zi (zT (show CompScope (zb wl) ["_law_cards","_law_couple"] "_law_card_here" ["_law_couple"] [1] _ from⟨rfl,by decide +kernel,by decide +kernel,rfl,by decide +kernel,rfl,by decide +kernel,by decide +kernel⟩) rfl (zJ (pv 0)) (fun _ _ _ _ _=>yM) (fun _ _ _ _ _=>(zv yg (pe_bmK (K:=K) rfl PySem.F.plainAttrs_list PySem.F.slot_list_index PySem.F.type_list_index (mt_indexK (K:=K) rfl) (pv 0) (za (pv 1) zc)) zh))))),?_⟩
  have hl:=hR.length
  refine⟨_,rfl,a,rfl,⟨_,hS⟩,?_⟩
  refine zO (xs:=ls.map V.ref) (fun i ys H2=>H2=H∧ys=(M5.zA (cs.take i) c).map V.int) ⟨rfl,rfl⟩ ?_ (by rw[length_map];have:=zx;omega) ?_ ?_
  ·rintro i ys H2 hi ⟨rfl,rfl⟩
   refine⟨hS,?_⟩
   rw[length_map,M5.zaI,length_take]
   omega
  ·rintro i x ys H2 hx ⟨rfl,rfl⟩
   obtain⟨l,el,rfl⟩:=zaf hx
   obtain⟨d,ed,rd⟩:=hR.getL el
   have hmem:=hm d (mem_of_getElem? ed)
   refine⟨_,rfl,.inl ⟨rfl,_,rd⟩,_,rfl,l,_,_,rfl,rfl,rd,rfl,yO _,?_⟩
   rw[zeN,length_map]
   refine⟨List.idxOf_lt_length_of_mem hmem,_,_,rfl,rfl,rfl,?_⟩
   rw[take_succ,ed]
   unfold M5.zA
   rw[map_append,map_append]
   rfl
  ·rintro ys H2 ⟨rfl,rfl⟩ l hl'
   rw[length_map,hl,take_length]
   exact q l _ (Same.new hl') hl' zf
def zc5(K:Frag):Sp:=fun vs H Q _=>∃(a:Addr)(ms:List Int)(n:Int),vs=[.ref a,.int n]∧SqL K H a (ms.map V.int)∧ms.length≤1000∧0≤n∧n≤1000∧∀(l:Addr)(H':Hp),Same H H'→H l=none→H' l=some (.lst ((M5.key ms n.toNat).map V.int))→Q (.ref l) H'
theorem eqL_nil(ns:List Int):eqL (ns.map V.int) []=decide (ns=[]):=by cases ns <;> rfl
theorem zi7{f:Addr}{fd:FuncData}(F:Fun K "_law_key" "_law_key" zay f fd)(T:Txt K mg):FnOk P w K mg base CX0 1 f fd ["_law_marks_here","_law_last"] (zc5 K):=by
 refine F.ok zb8 (fun vs H Q E h=>?_) (fun cdv A outer s H vs Q E hr h=>?_)
 ·obtain⟨a,ms,n,rfl,_⟩:=h
  rfl
 ·obtain⟨a,ms,n,rfl,hS,hz,n0,n1,q⟩:=h
  refine⟨_,(ze (zy (i:=2) zb8.nd rfl (Or.inl rfl) (yT zc))
   (ze (zak PassesOwn.never rfl (zdU rfl T.b_range (za zh (za (zv yg (pv 1) zh) zc))) (yk (i:=3) zb8.nd rfl (Or.inr rfl))
     (ze (zda (i:=4) (show CompScope (zb zay) ["_law_marks_here","_law_last","_law_key_here","_law_number","_law_got"] "_law_mark" ["_law_number"] [3] _ from⟨rfl,by decide +kernel,by decide +kernel,rfl,by decide +kernel,rfl,by decide +kernel,by decide +kernel⟩) rfl zb8.nd rfl (Or.inl rfl) (zJ (pv 0)) (fun _ _ _ _ _=>(zb6 (zp zfm (pv 0) (pv 1) (zq _)))) (fun _ _ _ _ _=>(pv 0)))
   (ze (zbe (zB (PW.pt (zd4 (zp (zdg hr.units0) (pv 2) (yT zc) (zq _)) (zcV (zp op_gt (zv zg2 zh (zn zo (by rfl) T.b_len PySem.boot_len (za (pv 4) zc))) (zn zo (by rfl) T.b_len PySem.boot_len (za (pv 0) zc)) (zq _))))) (zd (zY (za0 PySem.F.plainAttrs_list PySem.F.slot_list_append PySem.F.type_list_append wV (pv 2) (za (pv 3) zc)))) zr))
   (zd (zbe (zB (zp (zfr hr.units0) (pv 2) (yT zc) (zq _)) (ze (zY (za0 PySem.F.plainAttrs_list PySem.F.slot_list_append PySem.F.type_list_append wV (pv 2) (za (pe_un zhl (zn zo (by rfl) T.b_len PySem.boot_len (za (pv 4) zc))) zc)))
   (zd (zY (za0 PySem.F.plainAttrs_list PySem.F.slot_list_append PySem.F.type_list_append wV (pv 2) (za (zn (ziI rfl) (by rfl) T.b_sum boot_sum (za (pv 4) zc)) zc))))) zr))))))
   (zd (zi (pv 2))))),?_⟩
  have hln:=zx
  refine⟨by decide,fun p0 hp0=>?_⟩
  refine⟨_,rfl,_,_,rfl,rfl,_,_,rfl,⟨by decide,by decide,by omega,by omega⟩,?_⟩
  refine yX (fun i σ H2=>∃(v3 v4:Option V),σ=[some (.ref a),some (.int n),some (.ref p0),v3,v4]∧Same H H2∧H2 p0=some (.lst ((M5.key ms i).map V.int))) ⟨_,_,rfl,Same.new hp0,zf⟩ ?_ ?_
  ·rintro i σ H2 hi ⟨v3,v4,rfl,s2,e2⟩
   have hi:i<1000:=by omega
   have hkl:=M5.key_len ms i
   have hS2:=s2.seq hS
   refine⟨_,rfl,a,rfl,⟨_,hS2⟩,?_⟩
   refine comp_got (ms:=ms) (n:=1+(i:Int)) hS2 (by omega) (fun x R h=>⟨_,rfl,_,rfl,_,_,rfl,rfl,_,rfl,h⟩) (fun x R h=>⟨_,rfl,h⟩) ?_
   intro l3 hl3
   have en:(1:Int)+(i:Int)=(i:Int)+1:=by omega
   rw[en]
   have hgl:(M3.got ms ((i:Int)+1)).length≤ms.length:=M3.zeS ms _
   have hkey:M5.key ms (i+1)=(fun a:List Int=>if a=[] then [] else a++[-((M3.got ms ((i:Int)+1)).length:Int),(M3.got ms ((i:Int)+1)).sum]) (if M5.key ms i=[]∧ms.length<2*(M3.got ms ((i:Int)+1)).length then [(i:Int)+1] else M5.key ms i):=rfl
   generalize M3.got ms ((i:Int)+1)=g at hgl hkey ⊢
   generalize M5.key ms i=ks at hkl hkey e2 ⊢
   generalize hH3:upd H2 l3 _=H3
   have s3:Same H H3:=by rw[←hH3];exact s2.newT hl3
   have n03:p0≠l3:=zj e2 hl3
   have e3:H3 p0=some (.lst (ks.map V.int)):=by rw[←hH3,zg n03];exact e2
   have t3:H3 l3=some (.lst (g.map V.int)):=by rw[←hH3];exact zf
   have f3:H l3=none:=s2.free hl3
   refine⟨fun σ' H'=>σ'=[some (.ref a),some (.int n),some (.ref p0),some (.int ((i:Int)+1)),some (.ref l3)]∧Same H H'∧H' l3=some (.lst (g.map V.int))∧H' p0=some (.lst ((if ks=[]∧ms.length<2*g.length then [(i:Int)+1] else ks).map V.int)),?_,?_⟩
   ·refine⟨_,rfl,by decide,fun p4 hp4=>?_⟩
    have s4:=s3.newT (o:=.lst []) hp4
    have n04:p0≠p4:=zj e3 hp4
    have n34:l3≠p4:=zj t3 hp4
    refine⟨p0,p4,_,_,rfl,rfl,SqL.of (by rw[zg n04];exact e3),SqL.new,yO _,rfl,_,rfl,?_⟩
    rw[eqL_nil]
    refine wk (fun hk=>?_) (fun hk=>zao ⟨rfl,s4,by rw[zg n34];exact t3,by rw[zg n04,if_neg (fun z=>hk z.1)];exact e3⟩)
    refine⟨_,rfl,l3,_,rfl,.inl (SqL.of (by rw[zg n34];exact t3)),_,_,rfl,rfl,.inl ⟨by decide,by decide⟩,_,rfl,a,_,rfl,.inl (s4.seq hS),_,_,rfl,rfl,_,rfl,?_⟩
    rw[length_map,length_map]
    refine wk (fun h2=>?_) (fun h2=>⟨rfl,s4,by rw[zg n34];exact t3,by rw[zg n04,if_neg (fun z=>h2 (by omega))];exact e3⟩)
    refine⟨_,rfl,.inl ⟨rfl,_,SqL.of (by rw[zg n04];exact e3)⟩,_,rfl,p0,_,_,rfl,rfl,(by rw[zg n04];exact e3),(by rw[length_map];omega),?_⟩
    refine⟨rfl,s4.put hp0,by rw[zg (Ne.symm n03),zg n34];exact t3,?_⟩
    rw[lst_app,if_pos ⟨hk,by omega⟩,hk]
    rfl
   rintro σ' H5 ⟨rfl,s5,t5,e5⟩
   have hal:(if ks=[]∧ms.length<2*g.length then [(i:Int)+1] else ks).length≤1+2*i:=by
    split
    ·rw[length_cons,length_nil];omega
    ·exact hkl
   generalize (if ks=[]∧ms.length<2*g.length then [(i:Int)+1] else ks)=as at e5 hkey hal
   refine⟨fun σ' H'=>σ'=[some (.ref a),some (.int n),some (.ref p0),some (.int ((i:Int)+1)),some (.ref l3)]∧Same H H'∧H' p0=some (.lst ((if as=[] then [] else as++[-(g.length:Int),g.sum]).map V.int)),?_,?_⟩
   ·refine⟨_,rfl,by decide,fun p4 hp4=>?_⟩
    have s4:=s5.newT (o:=.lst []) hp4
    have n04:p0≠p4:=zj e5 hp4
    have n34:l3≠p4:=zj t5 hp4
    refine⟨p0,p4,_,_,rfl,rfl,SqL.of (by rw[zg n04];exact e5),SqL.new,yO _,rfl,_,rfl,?_⟩
    rw[eqL_nil]
    refine wJ (fun hk=>?_) (fun hk=>⟨rfl,s4,by rw[zg n04,if_pos hk];rw[hk] at e5;exact e5⟩)
    refine⟨_,rfl,.inl ⟨rfl,_,SqL.of (by rw[zg n04];exact e5)⟩,_,rfl,l3,_,rfl,.inl (SqL.of (by rw[zg n34];exact t5)),_,rfl,p0,_,_,rfl,rfl,(by rw[zg n04];exact e5),(by rw[length_map];omega),?_⟩
    rw[length_map]
    refine⟨_,rfl,.inl ⟨rfl,_,SqL.of zf⟩,_,rfl,l3,g,rfl,SqL.of (by rw[zg (Ne.symm n03),zg n34];exact t5),p0,_,_,rfl,rfl,zf,(by rw[length_append,length_map,length_cons,length_nil];omega),?_⟩
    refine⟨rfl,(s4.put hp0).put hp0,?_⟩
    rw[zf,if_neg hk,map_append,append_assoc]
    rfl
   rintro σ' H6 ⟨rfl,s6,e6⟩
   exact⟨_,_,rfl,s6,by rw[hkey];exact e6⟩
  ·rintro σ H2 ⟨v3,v4,rfl,s2,e2⟩
   have e:(n+1-1).toNat=n.toNat:=by omega
   rw[e] at e2
   exact⟨_,rfl,q p0 _ s2 hp0 e2⟩
def wD(K:Frag):Sp:=fun vs H Q E=>∃(p:Addr)(F:Addr→Prop)(S:Sh)(j:Str)(a:Addr)(ns:List Int),vs=[.ref p,.str j,.ref a]∧SheetAt K H p F S∧SqL K H a (ns.map V.int)∧ns.length<64 ∧
 (∀c,S.refuse j ns=some c→∀C H',ClsN K c C→Same H H'→E (.ref C) none H')∧(S.refuse j ns=none→∀H' F',SheetAt K H' p F' (S.hand j ns)→Deed F H F' H'→Q .non H')
theorem zdQ{f:Addr}{fd:FuncData}(F:Fun K "hand_in" "Sheet.hand_in" yq f fd)(T:Txt K mg)(C_whole_card:Can P w K mg base 1 "whole_card" ["card","couples"] (zbF K))(C_Sheet_refuse_if_sealed:CanMX P w K mg base 1 (zE K "Sheet") "refuse_if_sealed" ["self"] (zL K))(C_Sheet_refuse_unknown_judge:CanMX P w K mg base 1 (zE K "Sheet") "refuse_unknown_judge" ["self","judge"] (zM K)):FnOk P w K mg base (CX1 P w) 2 f fd ["self","judge","card"] (wD K):=by
 obtain⟨c_BadCard,n_BadCard,m_BadCard,x_BadCard⟩:=T.x_BadCard
 obtain⟨c_TooManyCards,n_TooManyCards,m_TooManyCards,x_TooManyCards⟩:=T.x_TooManyCards
 refine F.okX zeb (fun vs H Q E h=>?_) (fun X W cdv A outer s H vs Q E hX hW fl md hr h=>?_)
 ·obtain⟨p,F,S,j,a,ns,rfl,_⟩:=h
  rfl
 ·obtain⟨p,F,S,j,a,ns,rfl,hSh,hA,hz,qE,q⟩:=h
  obtain⟨dx,a1,a2,a3,d,kvs,h⟩:=id hSh
  subst hX
  refine⟨_,(ze (zY (zbS C_Sheet_refuse_if_sealed T.cl_Sheet fl (hM hr) (pv 0)))
   (ze (zY (zaM C_Sheet_refuse_unknown_judge T.cl_Sheet fl (hM hr) (pv 0) (za (pv 1) zc)))
   (ze (zB (yU (ym (zm C_whole_card (hM hr) rfl (za (pv 2) (za (yB (pv 0) rfl) zc))))) (zd (wL rfl md rfl m_BadCard x_BadCard (za zw zc))) zr)
   (ze (zB (zp op_ge (yB (pv 0) rfl) (zbV T.c_MOST_CARDS rfl) (zq _)) (zd (wL rfl md rfl m_TooManyCards x_TooManyCards (za zw zc))) zr)
   (ze (ps_dput (zgn hr) (yB (pv 0) rfl) (pv 1) (zF zS (by rfl) T.b_list boot_list (za (pv 2) zc)) rfl)
   (zd (zce (pv 0) (zv yg (yB (pv 0) rfl) zh) rfl))))))),?_⟩
  have hln:=zx
  have h24:=h.ok.c24
  refine⟨_,rfl,p,dx,_,rfl,h.ip,rfl,p,F,S,rfl,hSh,(fun hs C hC=>?_),fun hs=>?_⟩
  ·rw[hW]
   exact qE "SheetSealed" (by unfold Sh.refuse;rw[if_pos hs]) C _ hC (Same.refl _)
  refine⟨_,rfl,p,dx,_,rfl,h.ip,rfl,_,rfl,p,F,S,j,rfl,hSh,(fun hj C hC=>?_),fun hj=>?_⟩
  ·rw[hW]
   exact qE "UnknownJudge" (by unfold Sh.refuse;rw[if_neg (by rw[hs];exact Bool.false_ne_true),if_neg hj]) C _ hC (Same.refl _)
  refine⟨_,rfl,_,rfl,p,_,dx,_,_,rfl,h.ip,T.cl_Sheet,T.n_Sheet_standing,rfl,a,a1,ns,S.couples,rfl,hA,SqL.of h.i1,hz,by omega,fun H2 s2=>⟨_,rfl,?_⟩⟩
  refine wJ (fun hp=>?_) (fun hp=>?_)
  ·refine⟨(by show 1≤sizeLine;decide),?_⟩
   rw[hW]
   exact qE "BadCard" (by unfold Sh.refuse;rw[if_neg (by rw[hs];exact Bool.false_ne_true),if_pos hj,if_neg hp]) _ _ n_BadCard s2
  have ip:=s2 _ _ h.ip
  have i1:=s2 _ _ h.i1
  have i2:=s2 _ _ h.i2
  have i3:=s2 _ _ h.i3
  have i4:=s2 _ _ h.i4
  refine⟨_,rfl,p,_,dx,_,_,rfl,ip,T.cl_Sheet,T.n_Sheet_taken_so_far,rfl,_,_,rfl,rfl,_,rfl,wk (fun ht=>?_) (fun ht=>?_)⟩
  ·refine⟨(by show 1≤sizeLine;decide),?_⟩
   rw[hW]
   exact qE "TooManyCards" (by unfold Sh.refuse;rw[if_neg (by rw[hs];exact Bool.false_ne_true),if_pos hj,if_pos hp,if_pos (by omega)]) _ _ n_TooManyCards s2
  have hn:S.refuse j ns=none:=by unfold Sh.refuse;rw[if_neg (by rw[hs];exact Bool.false_ne_true),if_pos hj,if_pos hp,if_neg (by omega)]
  have hk:=h.kl
  have ht2:=h.ok.t200
  refine⟨_,rfl,a,_,rfl,.inl (s2.seq hA),fun l hl=>?_⟩
  have kp:∀b o,H2 b=some o→upd H2 l (.lst (ns.map V.int)) b=some o:=fun b o e=>Same.new hl b o e
  refine⟨_,rfl,p,_,dx,_,_,rfl,kp _ _ ip,T.cl_Sheet,T.n_Sheet_card_by_judge,rfl,_,rfl,d,_,rfl,DPut.k (k:=Sum.inr j) (kp _ _ i4) (by omega),?_⟩
  have n1:a1≠p:=zD i1 ip (by intro z;cases z)
  have n2:a2≠p:=zD i2 ip (by intro z;cases z)
  have n3:a3≠p:=zD i3 ip (by intro z;cases z)
  have n4:d≠p:=zD i4 ip (by intro z;cases z)
  have m1:a1≠d:=zD i1 i4 (by intro z;cases z)
  have m2:a2≠d:=zD i2 i4 (by intro z;cases z)
  have m3:a3≠d:=zD i3 i4 (by intro z;cases z)
  have lp:l≠p:=fun z=>by rw[z,ip] at hl;cases hl
  have ld:l≠d:=fun z=>by rw[z,i4] at hl;cases hl
  have l2:l≠a2:=fun z=>by rw[z,i2] at hl;cases hl
  have ip':upd (upd H2 l (.lst (ns.map V.int))) d (.dK (zbM kvs (Sum.inr j) (.ref l))) p=some (.ins (zE K "Sheet") dx (shF a1 a2 a3 d S)):=by rw[zg (Ne.symm n4)];exact kp _ _ ip
  refine⟨_,rfl,p,_,dx,_,_,rfl,ip',T.cl_Sheet,T.n_Sheet_taken_so_far,rfl,_,_,rfl,rfl,?_⟩
  refine⟨_,rfl,p,_,dx,_,rfl,ip',T.cl_Sheet,T.n_Sheet_taken_so_far,(by show 6<1000;decide),?_⟩
  have et:(V.int ((S.taken:Int)+1))=.int ((S.hand j ns).taken:Nat):=by show V.int _=V.int ((S.taken+1:Nat):Int);congr 1
  show _
  dsimp only
  rw[et,pf_taken a1 a2 a3 d S (S.hand j ns) rfl]
  obtain⟨ok',_⟩:=h.ok.hand hn
  have up:∀b o,H2 b=some o→b≠p→b≠d→upd (upd (upd H2 l (.lst (ns.map V.int))) d (.dK (zbM kvs (Sum.inr j) (.ref l)))) p (.ins (zE K "Sheet") dx (shF a1 a2 a3 d (S.hand j ns))) b=some o:=fun b o e nb nd=>by rw[zg nb,zg nd];exact kp b o e
  have el:upd (upd (upd H2 l (.lst (ns.map V.int))) d (.dK (zbM kvs (Sum.inr j) (.ref l)))) p (.ins (zE K "Sheet") dx (shF a1 a2 a3 d (S.hand j ns))) l=some (.lst (ns.map V.int)):=by rw[zg lp,zg ld];exact zf
  refine q hn _ (fun b=>F b∨b=l) ⟨dx,a1,a2,a3,d,zbM kvs (Sum.inr j) (.ref l),⟨⟨zf,up _ _ i1 n1 m1,up _ _ i2 n2 m2,up _ _ i3 n3 m3,by rw[zg n4];exact zf,?_,fun k hk'=>?_,fun k c hc=>?_,.inl h.fp,.inl h.f1,.inl h.f2,.inl h.f3,.inl h.f4,h.n12,h.n32,fun b hb=>?_⟩,ok'⟩⟩ fun b o e n=>⟨up b o (s2 _ _ e) (fun z=>n (z ▸ h.fp)) (fun z=>n (z ▸ h.f4)),?_⟩
  ·have:=zcG kvs (Sum.inr j) (.ref l)
   show _≤S.taken+1
   omega
  ·have hk':(if k=j then some ns else S.card k)=none:=hk'
   rw[zdq]
   by_cases ek:k=j
   ·rw[if_pos ek] at hk';cases hk'
   ·rw[if_neg ek] at hk'
    rw[if_neg (fun z=>ek (by injection z))]
    exact h.cn k hk'
  ·have hc:(if k=j then some ns else S.card k)=some c:=hc
   rw[zdq]
   by_cases ek:k=j
   ·rw[if_pos ek] at hc
    cases hc
    rw[if_pos (by rw[ek])]
    exact⟨l,rfl,el,.inr rfl,l2⟩
   ·rw[if_neg ek] at hc
    rw[if_neg (fun z=>ek (by injection z))]
    obtain⟨l',x1,x2,x3,x4⟩:=h.cs k c hc
    exact⟨l',x1,up _ _ (s2 _ _ x2) (zD x2 h.ip (by intro z;cases z)) (zD x2 h.i4 (by intro z;cases z)),.inl x3,x4⟩
  ·by_cases hbp:b=p
   ·rw[hbp,zf];exact fun z=>nomatch z
   rw[zg hbp]
   by_cases hbd:b=d
   ·rw[hbd,zf];exact fun z=>nomatch z
   rw[zg hbd]
   rcases hb with hb | hb
   ·have:=h.fh b hb
    cases e:H b with
    | none=>exact absurd e this
    | some o=>rw[kp _ _ (s2 _ _ e)];exact fun z=>nomatch z
   ·rw[hb,zf];exact fun z=>nomatch z
  ·rintro (z | z)
   ·exact n z
   ·have:=s2 _ _ e
    rw[z,hl] at this
    cases this
def wQ(K:Frag):Sp:=fun vs H Q E=>∃(p:Addr)(F:Addr→Prop)(S:Sh)(c:Int),vs=[.ref p,.int c]∧SheetAt K H p F S ∧
 (∀x,S.refuseS c=some x→∀C,ClsN K x C→E (.ref C) none H)∧(S.refuseS c=none→∀H' F',SheetAt K H' p F' (S.strike c)→Deed F H F' H'→Q .non H')
theorem zeE{f:Addr}{fd:FuncData}(F:Fun K "strike" "Sheet.strike" yN f fd)(T:Txt K mg)(C_without_couple:Can P w K mg base 1 "without_couple" ["card","couple"] (zai K))(C_Sheet_handed:CanM P w K mg base 1 (zE K "Sheet") "handed" ["self"] (yu K))(C_Sheet_refuse_if_sealed:CanMX P w K mg base 1 (zE K "Sheet") "refuse_if_sealed" ["self"] (zL K)):FnOk P w K mg base (CX1 P w) 2 f fd ["self","couple"] (wQ K):=by
 obtain⟨c_UnknownCouple,n_UnknownCouple,m_UnknownCouple,x_UnknownCouple⟩:=T.x_UnknownCouple
 obtain⟨c_LastCouple,n_LastCouple,m_LastCouple,x_LastCouple⟩:=T.x_LastCouple
 refine F.okX zck (fun vs H Q E h=>?_) (fun X W cdv A outer s H vs Q E hX hW fl md hr h=>?_)
 ·obtain⟨p,F,S,c,rfl,_⟩:=h
  rfl
 ·obtain⟨p,F,S,c,rfl,hSh,qE,q⟩:=h
  obtain⟨dx,a1,a2,a3,d,kvs,h⟩:=id hSh
  subst hX
  refine⟨_,(ze (zY (zbS C_Sheet_refuse_if_sealed T.cl_Sheet fl (hM hr) (pv 0)))
   (ze (zB (zp zal (pv 1) (yB (pv 0) rfl) (by first | exact zq _ | rfl)) (zd (wL rfl md rfl m_UnknownCouple x_UnknownCouple (za zw zc))) zr)
   (ze (zB (zp zV (zn zo (by rfl) T.b_len PySem.boot_len (za (yB (pv 0) rfl) zc)) zh (zq _)) (zd (wL rfl md rfl m_LastCouple x_LastCouple (za zw zc))) zr)
   (ze (zce (pv 0) (zm C_without_couple (hM hr) rfl (za (yB (pv 0) rfl) (za (pv 1) zc))) rfl)
   (ze (zY (za0 PySem.F.plainAttrs_list PySem.F.slot_list_append PySem.F.type_list_append wV (yB (pv 0) rfl) (za (pv 1) zc)))
   (zd (zak PassesOwn.leaving rfl (zJ (yw C_Sheet_handed T.cl_Sheet (hM hr) (pv 0))) (yk (i:=2) zck.nd rfl (Or.inl rfl))
     (zd (ps_dput (zgn hr) (yB (pv 0) rfl) (pv 2) (zm C_without_couple (hM hr) rfl (za (pe_dget (zgn hr) (yB (pv 0) rfl) (pv 2) (fun _ _=>rfl)) (za (pv 1) zc))) rfl))))))))),?_⟩
  have hln:=zx
  have h24:=h.ok.c24
  refine⟨_,rfl,p,dx,_,rfl,h.ip,rfl,p,F,S,rfl,hSh,(fun hs C hC=>?_),fun hs=>?_⟩
  ·rw[hW]
   exact qE "SheetSealed" (by unfold Sh.refuseS;rw[if_pos hs]) C hC
  have hs':¬S.shut=true:=by rw[hs];exact Bool.false_ne_true
  refine⟨_,rfl,_,rfl,p,_,dx,_,_,rfl,h.ip,T.cl_Sheet,T.n_Sheet_standing,rfl,a1,_,rfl,.inl (SqL.of h.i1),rfl,yO _,_,rfl,?_⟩
  rw[zhT]
  refine wJ (fun hc=>?_) (fun hc=>?_)
  ·refine⟨(by show 1≤sizeLine;decide),?_⟩
   rw[hW]
   exact qE "UnknownCouple" (by unfold Sh.refuseS;rw[if_neg hs',if_neg hc]) _ n_UnknownCouple
  refine⟨_,rfl,p,_,dx,_,_,rfl,h.ip,T.cl_Sheet,T.n_Sheet_standing,rfl,a1,_,rfl,.inl (SqL.of h.i1),rfl,_,rfl,?_⟩
  rw[length_map]
  refine wk (fun h1=>?_) (fun h1=>?_)
  ·refine⟨(by show 1≤sizeLine;decide),?_⟩
   rw[hW]
   injection h1 with h1
   exact qE "LastCouple" (by unfold Sh.refuseS;rw[if_neg hs',if_pos hc,if_pos (by omega)]) _ n_LastCouple
  have h1:S.couples.length≠1:=fun z=>h1 (by rw[z];rfl)
  have hn:S.refuseS c=none:=by unfold Sh.refuseS;rw[if_neg hs',if_pos hc,if_neg h1]
  refine⟨_,rfl,p,_,dx,_,_,rfl,h.ip,T.cl_Sheet,T.n_Sheet_standing,rfl,_,rfl,a1,S.couples,c,rfl,SqL.of h.i1,by omega,fun b1 H2 s2 f2 e2=>?_⟩
  have ip:=s2 _ _ h.ip
  have i2:=s2 _ _ h.i2
  have i3:=s2 _ _ h.i3
  have i4:=s2 _ _ h.i4
  refine⟨_,rfl,p,_,dx,_,rfl,ip,T.cl_Sheet,T.n_Sheet_standing,(by show 6<1000;decide),?_⟩
  rw[ziO a1 a2 a3 d b1 S (S.strike c) rfl rfl]
  have n2:a2≠p:=zD i2 ip (by intro z;cases z)
  have n3:a3≠p:=zD i3 ip (by intro z;cases z)
  have n4:d≠p:=zD i4 ip (by intro z;cases z)
  have n1:b1≠p:=zD e2 ip (by intro z;cases z)
  have m2:a2≠d:=zD i2 i4 (by intro z;cases z)
  have b2:b1≠a2:=fun z=>by rw[z,h.i2] at f2;cases f2
  have ni2:upd H2 p (.ins (zE K "Sheet") dx (shF b1 a2 a3 d (S.strike c))) a2=some (.lst (S.struck.map V.int)):=by rw[zg n2];exact i2
  refine⟨_,rfl,p,_,dx,_,_,rfl,zf,T.cl_Sheet,T.n_Sheet_struck_so_far,rfl,.inl ⟨rfl,_,SqL.of ni2⟩,_,rfl,a2,_,_,rfl,rfl,ni2,(by rw[length_map];omega),?_⟩
  have up:∀b o,H2 b=some o→b≠p→b≠a2→upd (upd H2 p (.ins (zE K "Sheet") dx (shF b1 a2 a3 d (S.strike c)))) a2 (.lst (S.struck.map V.int++[V.int c])) b=some o:=fun b o e nb nd=>by rw[zg nd,zg nb];exact e
  have up1:upd (upd H2 p (.ins (zE K "Sheet") dx (shF b1 a2 a3 d (S.strike c)))) a2 (.lst (S.struck.map V.int++[V.int c])) p=some (.ins (zE K "Sheet") dx (shF b1 a2 a3 d (S.strike c))):=by rw[zg (Ne.symm n2)];exact zf
  have up2:upd (upd H2 p (.ins (zE K "Sheet") dx (shF b1 a2 a3 d (S.strike c)))) a2 (.lst (S.struck.map V.int++[V.int c])) a2=some (.lst ((S.strike c).struck.map V.int)):=lst_app _ _
  generalize hH3:upd (upd H2 p _) a2 _=H3 at up up1 up2 ⊢
  have F3:∀b,(F b∨b=b1)→H3 b≠none:=fun b hb=>by
   by_cases hbp:b=p
   ·rw[hbp,up1];exact fun z=>nomatch z
   by_cases hba:b=a2
   ·rw[hba,up2];exact fun z=>nomatch z
   rcases hb with hb | hb
   ·have:=h.fh b hb
    cases e:H b with
    | none=>exact absurd e this
    | some o=>rw[up _ _ (s2 _ _ e) hbp hba];exact fun z=>nomatch z
   ·rw[hb,up _ _ e2 n1 b2];exact fun z=>nomatch z
  have D3:Deed F H (fun b=>F b∨b=b1) H3:=fun b o e n=>⟨up b o (s2 _ _ e) (fun z=>n (z ▸ h.fp)) (fun z=>n (z ▸ h.f2)),fun z=>z.elim n fun z=>by rw[z,f2] at e;cases e⟩
  have hcs:∀j cd,S.card j=some cd→∃l,zar kvs (Sum.inr j)=some (.ref l)∧H3 l=some (.lst (cd.map V.int))∧(F l∨l=b1)∧l≠a2:=fun j cd e=>by
   obtain⟨l,x1,x2,x3,x4⟩:=h.cs j cd e
   exact⟨l,x1,up _ _ (s2 _ _ x2) (zD x2 h.ip (by intro z;cases z)) x4,.inl x3,x4⟩
  obtain⟨ok',_⟩:=h.ok.strike hn
  refine⟨_,rfl,p,dx,_,rfl,up1,rfl,p,(fun b=>F b∨b=b1),⟨wo c S.couples,S.struck++[c],S.panel,S.card,S.taken,S.shut⟩,rfl,⟨dx,b1,a2,a3,d,kvs,⟨up1,up _ _ e2 n1 b2,up2,up _ _ i3 n3 h.n32,up _ _ i4 n4 (Ne.symm m2),h.kl,h.cn,hcs,.inl h.fp,.inr rfl,.inl h.f2,.inl h.f3,.inl h.f4,b2,h.n32,F3⟩⟩,h.ok.p15,fun a H4 s4 f4 e4=>?_⟩
  have hhl:S.handed.length≤15:=le_trans (length_filter_le _ _) h.ok.p15
  refine⟨a,rfl,⟨_,SqL.of e4⟩,?_⟩
  refine zdy (xs:=S.handed.map V.str) (fun i σ H5=>∃(v:Option V)(kvs':List (Key×V)) (F':Addr→Prop),σ=[some (.ref p),some (.int c),v]∧H5 p=some (.ins (zE K "Sheet") dx (shF b1 a2 a3 d (S.strike c)))∧H5 b1=some (.lst ((wo c S.couples).map V.int))∧H5 a2=some (.lst ((S.strike c).struck.map V.int))∧H5 a3=some (.lst (S.panel.map V.str))∧H5 d=some (.dK kvs')∧H5 a=some (.lst (S.handed.map V.str)) ∧
   kvs'.length≤S.taken∧(∀j,S.card j=none→zar kvs' (Sum.inr j)=none)∧(∀j cd,S.card j=some cd→∃l,zar kvs' (Sum.inr j)=some (.ref l)∧H5 l=some (.lst ((if j∈S.handed.take i then wo c cd else cd).map V.int))∧F' l∧l≠a2)∧(∀b,F b→F' b)∧F' b1∧(∀b,F' b→H5 b≠none)∧Deed F H F' H5)
   ⟨_,kvs,fun b=>F b∨b=b1,rfl,s4 _ _ up1,s4 _ _ (up _ _ e2 n1 b2),s4 _ _ up2,s4 _ _ (up _ _ i3 n3 h.n32),s4 _ _ (up _ _ i4 n4 (Ne.symm m2)),e4,h.kl,h.cn,(fun j cd e=>?_),(fun b hb=>.inl hb),.inr rfl,(fun b hb=>?_),fun b o e n=>⟨s4 _ _ (D3 b o e n).1,(D3 b o e n).2⟩⟩ ?_ ?_ ?_
  ·obtain⟨l,x1,x2,x3,x4⟩:=hcs j cd e
   exact⟨l,x1,by rw[if_neg (by rw[List.take_zero];exact not_mem_nil)];exact s4 _ _ x2,x3,x4⟩
  ·have:=F3 b hb
   cases e:H3 b with
   | none=>exact absurd e this
   | some o=>rw[s4 _ _ e];exact fun z=>nomatch z
  ·rintro i σ H5 hi ⟨v,kvs',F',rfl,w1,w2,w3,w4,w5,w6,_⟩
   exact SqL.of w6
  ·rintro i x σ H5 hx ⟨v,kvs',F',rfl,w1,w2,w3,w4,w5,w6,w7,w8,w9,w10,w11,w12,w13⟩
   obtain⟨hi,rfl⟩:=zdl hx
   have hm:=List.mem_filter.mp (show S.handed.getD i "" ∈ S.panel.filter fun j=>(S.card j).isSome from zdH hi)
   generalize hj:S.handed.getD i ""=j at hm
   cases e:S.card j with
   | none=>rw[e] at hm;exact absurd hm.2 Bool.false_ne_true
   | some cd =>
     have hnd:S.handed.Nodup:=h.ok.pnd.filter _
     have hnt:j∉S.handed.take i:=fun z=>by
      have e1:S.handed.take (i+1)=S.handed.take i++[j]:=by rw[zaC hi,hj]
      have e2:(S.handed.take (i+1)).Nodup:=hnd.sublist (List.take_sublist _ _)
      rw[e1] at e2
      exact(List.nodup_append.mp e2).2.2 j z j (List.mem_singleton.mpr rfl) rfl
     obtain⟨l,x1,x2,x3,x4⟩:=w9 j cd e
     rw[if_neg hnt] at x2
     have hcl:cd.length≤24:=by have:=(h.ok.cd j cd e).2.length_eq;omega
     refine⟨_,rfl,p,_,dx,_,_,rfl,w1,T.cl_Sheet,T.n_Sheet_card_by_judge,rfl,_,rfl,d,.ref l,rfl,x1 ▸ DGet.k (k:=Sum.inr j) w5,_,rfl,l,cd,c,rfl,SqL.of x2,by omega,fun l' H6 s6 f6 e6=>?_⟩
     refine⟨_,rfl,p,_,dx,_,_,rfl,s6 _ _ w1,T.cl_Sheet,T.n_Sheet_card_by_judge,rfl,_,rfl,d,_,rfl,DPut.k (k:=Sum.inr j) (s6 _ _ w5) (by have:=h.ok.t200;omega),?_⟩
     have nd:∀b o,H6 b=some o→(∀k,o ≠ .dK k)→upd H6 d (.dK (zbM kvs' (Sum.inr j) (.ref l'))) b=some o:=fun b o e n=>by rw[zg (zD e (s6 _ _ w5) (n _))];exact e
     have ld:l'≠d:=zD e6 (s6 _ _ w5) (by intro z;cases z)
     refine⟨_,zbM kvs' (Sum.inr j) (.ref l'),fun b=>F' b∨b=l',rfl,nd _ _ (s6 _ _ w1) (fun _ z=>nomatch z),nd _ _ (s6 _ _ w2) (fun _ z=>nomatch z),nd _ _ (s6 _ _ w3) (fun _ z=>nomatch z),nd _ _ (s6 _ _ w4) (fun _ z=>nomatch z),zf,nd _ _ (s6 _ _ w6) (fun _ z=>nomatch z),by rw[putK_len x1];exact w7,fun k hk=>?_,fun k b hk=>?_,fun b hb=>.inl (w10 b hb),.inl w11,fun b hb=>?_,fun b o e' n=>?_⟩
     ·rw[zdq,if_neg (fun z=>by injection z with z;rw[z,e] at hk;cases hk)]
      exact w8 k hk
     ·rw[zdq,zaC hi,hj]
      by_cases ek:k=j
      ·subst ek
       rw[e] at hk
       cases hk
       rw[if_pos rfl]
       refine⟨l',rfl,?_,.inr rfl,fun z=>by rw[z,w3] at f6;cases f6⟩
       rw[if_pos (mem_append_right _ (List.mem_singleton.mpr rfl))]
       exact nd _ _ e6 (fun _ z=>nomatch z)
      ·rw[if_neg (fun z=>ek (by injection z))]
       obtain⟨m,y1,y2,y3,y4⟩:=w9 k b hk
       refine⟨m,y1,?_,.inl y3,y4⟩
       have:(k∈S.handed.take i++[j])↔k∈S.handed.take i:=by
        rw[List.mem_append,List.mem_singleton]
        exact⟨fun z=>z.elim id fun w=>absurd w ek,.inl⟩
       simp only[this]
       exact nd _ _ (s6 _ _ y2) (fun _ z=>nomatch z)
     ·by_cases hbd:b=d
      ·rw[hbd,zf];exact fun z=>nomatch z
      rw[zg hbd]
      rcases hb with hb | hb
      ·have:=w12 b hb
       cases e7:H5 b with
       | none=>exact absurd e7 this
       | some o=>rw[s6 _ _ e7];exact fun z=>nomatch z
      ·rw[hb,e6];exact fun z=>nomatch z
     ·obtain⟨y1,y2⟩:=w13 b o e' n
      refine⟨?_,fun z=>z.elim y2 fun w=>by rw[w,f6] at y1;cases y1⟩
      have nbd:b≠d:=fun z=>n (by rw[z];exact h.f4)
      rw[zg nbd]
      exact s6 _ _ y1
  ·rintro σ H5 ⟨v,kvs',F',rfl,w1,w2,w3,w4,w5,w6,w7,w8,w9,w10,w11,w12,w13⟩
   rw[length_map,take_length] at w9
   refine q hn H5 F' ⟨dx,b1,a2,a3,d,kvs',⟨⟨w1,w2,w3,w4,w5,w7,fun j hj=>?_,fun j b hj=>?_,w10 _ h.fp,w11,w10 _ h.f2,w10 _ h.f3,w10 _ h.f4,b2,h.n32,w12⟩,ok'⟩⟩ w13
   ·have hj:(S.card j).map (wo c)=none:=hj
    exact w8 j (Option.map_eq_none_iff.mp hj)
   ·have hj:(S.card j).map (wo c)=some b:=hj
    obtain⟨cd,e,rfl⟩:=Option.map_eq_some_iff.mp hj
    obtain⟨l,x1,x2,x3,x4⟩:=w9 j cd e
    refine⟨l,x1,?_,x3,x4⟩
    have hin:j∈S.handed:=List.mem_filter.mpr ⟨(h.ok.cd j cd e).1,by rw[e];rfl⟩
    rw[if_pos hin] at x2
    exact x2
def zaH(K:Frag):Sp:=fun vs H Q E=>∃(p:Addr)(F:Addr→Prop)(S:Sh),vs=[.ref p]∧SheetAt K H p F S∧(S.shut=true→∀C,ClsN K "SheetSealed" C→E (.ref C) none H) ∧
 (S.shut=false→∀H',SheetAt K H' p F S.close→Deed F H F H'→Q .non H')
theorem zgd{f:Addr}{fd:FuncData}(F:Fun K "seal" "Sheet.seal" wH f fd)(T:Txt K mg)(C_Sheet_refuse_if_sealed:CanMX P w K mg base 1 (zE K "Sheet") "refuse_if_sealed" ["self"] (zL K)):FnOk P w K mg base (CX1 P w) 2 f fd ["self"] (zaH K):=by
 refine F.okX zga (fun vs H Q E h=>?_) (fun X W cdv A outer s H vs Q E hX hW fl md hr h=>?_)
 ·obtain⟨p,F,S,rfl,_⟩:=h
  rfl
 ·obtain⟨p,F,S,rfl,⟨dx,a1,a2,a3,d,kvs,h⟩,qE,q⟩:=h
  subst hX
  refine⟨_,(ze (zY (zbS C_Sheet_refuse_if_sealed T.cl_Sheet fl (hM hr) (pv 0)))
   (zd (zce (pv 0) wK rfl))),?_⟩
  refine⟨_,rfl,p,dx,_,rfl,h.ip,rfl,p,F,S,rfl,⟨dx,a1,a2,a3,d,kvs,h⟩,fun hs C hC=>by rw[hW];exact qE hs C hC,fun hs=>?_⟩
  refine⟨_,rfl,p,_,dx,_,rfl,h.ip,T.cl_Sheet,T.n_Sheet_sealed,(by show 6<1000;decide),?_⟩
  rw[show V.bl true=V.bl S.close.shut from rfl,pf_sealed a1 a2 a3 d S S.close rfl]
  have up:∀b o,H b=some o→b≠p→upd H p (.ins (zE K "Sheet") dx (shF a1 a2 a3 d S.close)) b=some o:=fun b o e n=>by rw[zg n];exact e
  have n1:a1≠p:=zD h.i1 h.ip (by intro z;cases z)
  have n2:a2≠p:=zD h.i2 h.ip (by intro z;cases z)
  have n3:a3≠p:=zD h.i3 h.ip (by intro z;cases z)
  have n4:d≠p:=zD h.i4 h.ip (by intro z;cases z)
  refine q hs _ ⟨dx,a1,a2,a3,d,kvs,⟨⟨zf,up _ _ h.i1 n1,up _ _ h.i2 n2,up _ _ h.i3 n3,up _ _ h.i4 n4,h.kl,h.cn,fun j c hc=>?_,h.fp,h.f1,h.f2,h.f3,h.f4,h.n12,h.n32,fun b hb=>?_⟩,h.ok.close⟩⟩ fun b o e n=>⟨up b o e fun z=>n (z ▸ h.fp),n⟩
  ·obtain⟨l,x1,x2,x3,x4⟩:=h.cs j c hc
   exact⟨l,x1,up _ _ x2 (zD x2 h.ip (by intro z;cases z)),x3,x4⟩
  ·by_cases hbp:b=p
   ·rw[hbp,zf];exact fun z=>nomatch z
   ·rw[zg hbp];exact h.fh b hb
def wF(K:Frag):Sp:=fun vs H Q E=>∃(p:Addr)(F:Addr→Prop)(S:Sh)(j:Str),vs=[.ref p,.str j]∧SheetAt K H p F S∧(j∉S.panel→∀C,ClsN K "UnknownJudge" C→E (.ref C) none H)∧(j∈S.panel→S.card j=none→∀C,ClsN K "NoCard" C→E (.ref C) none H) ∧
 (∀c,S.card j=some c→∀(l:Addr)(H':Hp),Same H H'→H l=none→H' l=some (.lst (c.map V.int))→Q (.ref l) H')
theorem zea{f:Addr}{fd:FuncData}(F:Fun K "card_of" "Sheet.card_of" yo f fd)(T:Txt K mg)(C_Sheet_refuse_unknown_judge:CanMX P w K mg base 1 (zE K "Sheet") "refuse_unknown_judge" ["self","judge"] (zM K)):FnOk P w K mg base (CX1 P w) 2 f fd ["self","judge"] (wF K):=by
 obtain⟨c_NoCard,n_NoCard,m_NoCard,x_NoCard⟩:=T.x_NoCard
 refine F.okX zd5 (fun vs H Q E h=>?_) (fun X W cdv A outer s H vs Q E hX hW fl md hr h=>?_)
 ·obtain⟨p,F,S,j,rfl,_⟩:=h
  rfl
 ·obtain⟨p,F,S,j,rfl,⟨dx,a1,a2,a3,d,kvs,h⟩,qU,qN,q⟩:=h
  subst hX
  refine⟨_,(ze (zY (zaM C_Sheet_refuse_unknown_judge T.cl_Sheet fl (hM hr) (pv 0) (za (pv 1) zc)))
   (ze (zB (pt_cmp (pc_dnotin (zgn hr) (pv 1) (yB (pv 0) rfl))) (zd (wL rfl md rfl m_NoCard x_NoCard (za zw zc))) zr)
   (zd (zi (zF zS (by rfl) T.b_list boot_list (za (pe_dget (zgn hr) (yB (pv 0) rfl) (pv 1) (fun _ _=>rfl)) zc)))))),?_⟩
  refine⟨_,rfl,p,dx,_,rfl,h.ip,rfl,_,rfl,p,F,S,j,rfl,⟨dx,a1,a2,a3,d,kvs,h⟩,fun hj C hC=>by rw[hW];exact qU hj C hC,fun hj=>?_⟩
  refine⟨_,rfl,_,rfl,p,_,dx,_,_,rfl,h.ip,T.cl_Sheet,T.n_Sheet_card_by_judge,rfl,d,_,rfl,DGet.k (k:=Sum.inr j) h.i4,_,rfl,?_⟩
  cases e:S.card j with
  | none =>
    rw[h.cn _ e]
    exact⟨(by show 1≤sizeLine;decide),by rw[hW];exact qN hj e _ n_NoCard⟩
  | some c =>
    obtain⟨l,e1,e2,_⟩:=h.cs _ _ e
    rw[e1]
    refine⟨_,rfl,p,_,dx,_,_,rfl,h.ip,T.cl_Sheet,T.n_Sheet_card_by_judge,rfl,_,rfl,d,.ref l,rfl,e1 ▸ DGet.k (k:=Sum.inr j) h.i4,l,_,rfl,.inl (SqL.of e2),fun l' hl'=>?_⟩
    exact q c e l' _ (Same.new hl') hl' zf
def zb0(K:Frag):Sp:=fun vs H Q _=>∃(a b:Addr)(cs:List (List Int)) (us:List Int),vs=[.ref a,.ref b]∧Refs K (IL K) H a cs∧SqL K H b (us.map V.int)∧cs.length≤500∧us.length≤500∧(∀u∈us,∀d∈cs,u∈d)∧∀(l:Addr)(H':Hp),Same H H'→H l=none→H' l=some (.lst ((M5.spots cs us).map V.int))→Q (.ref l) H'
theorem zgP{f:Addr}{fd:FuncData}(F:Fun K "_law_spots" "_law_spots" yR f fd)(T:Txt K mg)(C_law_marks:Can P w K mg base 1 "_law_marks" ["_law_cards","_law_couple"] (zb9 K))(C_law_key:Can P w K mg base 1 "_law_key" ["_law_marks_here","_law_last"] (zc5 K)):FnOk P w K mg base CX0 2 f fd ["_law_cards","_law_couples_here"] (zb0 K):=by
 refine F.ok zdk (fun vs H Q E h=>?_) (fun cdv A outer s H vs Q E hr h=>?_)
 ·obtain⟨a,b,cs,us,rfl,_⟩:=h
  rfl
 ·obtain⟨a,b,cs,us,rfl,hA,hB,hz,hu,hm,q⟩:=h
  refine⟨_,(ze (zy (i:=2) zdk.nd rfl (Or.inr rfl) (zT (show CompScope (zb yR) ["_law_cards","_law_couples_here","_law_ranks"] "_law_couple" ["_law_cards","_law_couples_here"] [0,1] _ from⟨rfl,by decide +kernel,by decide +kernel,rfl,by decide +kernel,rfl,by decide +kernel,by decide +kernel⟩) rfl (zJ (pv 1)) (fun _ _ _ _ _=>yM) (fun _ _ _ _ _=>(zm C_law_key (hM hr) rfl (za (zm C_law_marks (hM hr) rfl (za (pv 1) (za (pv 0) zc))) (za (zn (zcZ (K:=K) rfl) (by rfl) T.b_len PySem.boot_len (za (pv 2) zc)) zc))))))
   (zd (zi (pe_compC (show CompScopeC (zb yR) ["_law_cards","_law_couples_here","_law_ranks"] "_law_mine" ["_law_ranks"] [2] _ from⟨rfl,fun _ _=>rfl,fun _=>rfl,by decide +kernel,by decide +kernel,rfl,by decide +kernel,rfl,by decide +kernel,by decide +kernel⟩) rfl (zJ (pv 2)) (fun _ _ _ _ _ _=>yM) (fun _ _ _ _ _ _=>(zv yg zh (zn (zcZ (K:=K) rfl) (by rfl) T.b_len PySem.boot_len (za (zT (CompScope.under (show CompScope _ ["_law_mine","_law_ranks"] "_law_rank" ["_law_mine"] [0] _ from⟨rfl,by decide +kernel,by decide +kernel,rfl,by decide +kernel,rfl,by decide +kernel,by decide +kernel⟩)) rfl (pi_listK (K:=K) rfl (pv 1)) (fun _ _ _ _ _=>(zb6 (zp (zhJ (K:=K) rfl hr.units0) (pv 0) (pv 1) (zq _)))) (fun _ _ _ _ _=>(pv 0))) zc)))))))),?_⟩
  have hln:=zx
  refine⟨_,rfl,b,rfl,⟨_,hB⟩,?_⟩
  refine zO (xs:=us.map V.int) (fun i ys H2=>Same H H2∧∃ls:List Addr,ys=ls.map V.ref∧All2 (IL K H2) ls ((us.take i).map fun c=>M5.key (M5.zA cs c) us.length)) ⟨Same.refl _,[],rfl,.nil⟩ ?_ (by rw[length_map];omega) ?_ ?_
  ·rintro i ys H2 hi ⟨s2,ls,rfl,r⟩
   refine⟨s2.seq hB,?_⟩
   have:=r.length
   rw[length_map,length_take] at this
   rw[length_map]
   omega
  ·rintro i x ys H2 hx ⟨s2,ls,rfl,r⟩
   obtain⟨hi,rfl⟩:=yV hx
   refine⟨_,rfl,_,rfl,a,cs,_,rfl,hA.same (IL.stays K) s2,by omega,hm _ (zam hi),fun l3 H3 s3 f3 e3=>?_⟩
   have s03:=s2.trans s3
   refine⟨_,rfl,b,_,rfl,.inl (s03.seq hB),l3,_,_,rfl,SqL.of e3,by rw[M5.zaI];omega,by omega,by rw[length_map];omega,fun l4 H4 s4 f4 e4=>?_⟩
   have el:(((us.map V.int).length:Nat):Int).toNat=us.length:=by rw[length_map];omega
   rw[el] at e4
   refine⟨s03.trans s4,ls++[l4],by rw[map_append];rfl,?_⟩
   rw[yt hi,map_append]
   exact(r.imp fun x y=>IL.stays K _ _ _ _ (s3.trans s4)).snoc (show IL K H4 l4 _ from SqL.of e4)
  rintro ys H2 ⟨s2,ls,rfl,r⟩ l5 hl5
  rw[length_map,take_length] at r
  generalize hH5:upd H2 l5 _=H5
  have s5:Same H2 H5:=by rw[←hH5];exact Same.new hl5
  have t5:H5 l5=some (.lst (ls.map V.ref)):=by rw[←hH5];exact zf
  have r5:All2 (IL K H5) ls (M5.zdO cs us):=r.imp fun x y=>IL.stays K _ _ _ _ s5
  have lr:(M5.zdO cs us).length=us.length:=by unfold M5.zdO;rw[length_map]
  have ll:=r5.length
  have hsp:M5.spots cs us=(M5.zdO cs us).map fun m=>1+(M5.zc0 (M5.zdO cs us) m:Int):=rfl
  rw[hsp] at q
  generalize M5.zdO cs us=rs at r5 lr ll q
  refine⟨_,rfl,l5,rfl,⟨_,SqL.of t5⟩,?_⟩
  refine zO (xs:=ls.map V.ref) (fun i ys H6=>Same H5 H6∧ys=((rs.take i).map fun m=>1+(M5.zc0 rs m:Int)).map V.int) ⟨Same.refl _,rfl⟩ ?_ (by rw[length_map];omega) ?_ ?_
  ·rintro i ys H6 hi ⟨s6,rfl⟩
   refine⟨s6.seq (SqL.of t5),?_⟩
   rw[length_map,length_map,length_take]
   omega
  ·rintro i x ys H6 hx ⟨s6,rfl⟩
   obtain⟨l,el,rfl⟩:=zaf hx
   obtain⟨m,em,rm⟩:=r5.getL el
   have q6:SqL K H6 l5 (ls.map V.ref):=s6.seq (SqL.of t5)
   have m6:=IL.stays K _ _ _ _ s6 rm
   refine⟨_,rfl,l5,rfl,⟨_,q6⟩,?_⟩
   refine wz (xs:=ls.map V.ref) (fun j zs H7=>H7=H6∧zs.length=((rs.take j).filter fun r=>HT.lexLt r m).length) ⟨rfl,rfl⟩ ?_ (by rw[length_map];omega) ?_ ?_
   ·rintro j zs H7 hj ⟨rfl,e⟩
    refine⟨q6,?_⟩
    have:=length_filter_le (fun r=>HT.lexLt r m) (rs.take j)
    rw[length_take] at this
    omega
   ·rintro j y zs H7 hy ⟨rfl,e⟩
    obtain⟨k,ek,rfl⟩:=zaf hy
    obtain⟨r',er,rr⟩:=r5.getL ek
    have r6:=IL.stays K _ _ _ _ s6 rr
    refine⟨_,rfl,_,rfl,k,l,_,_,rfl,rfl,r6,m6,_,rfl,zge (fun h=>?_) (fun h=>?_)⟩
    ·refine⟨_,rfl,rfl,?_⟩
     rw[take_succ,er,filter_append,length_append,length_append,e]
     show _+1=_+(filter (fun r=>HT.lexLt r m) [r']).length
     rw[filter_cons_of_pos (by simpa using h)]
     rfl
    ·refine⟨rfl,?_⟩
     rw[take_succ,er,filter_append,length_append,e]
     show _=_+(filter (fun r=>HT.lexLt r m) [r']).length
     rw[filter_cons_of_neg (by simpa using h)]
     rfl
   rintro zs H7 ⟨rfl,e⟩ l8 hl8
   rw[length_map,ll,take_length] at e
   refine⟨l8,_,rfl,.inl SqL.new,_,_,rfl,rfl,s6.newT hl8,?_⟩
   rw[e,take_succ,em,map_append,map_append]
   rfl
  ·rintro ys H6 ⟨s6,rfl⟩ l9 hl9
   rw[length_map,ll,take_length]
   exact q l9 _ ((s2.trans (s5.trans s6)).newT hl9) ((s2.trans (s5.trans s6)).free hl9) zf
def zav(K:Frag):Sp:=fun vs H Q _=>∃(a b:Addr)(cs:List (List Int)) (us:List Int),vs=[.ref a,.ref b]∧SqL K H a ((M6.zR cs us).map V.int)∧SqL K H b (us.map V.int)∧us.length≤24∧(∀u∈us,1≤u∧u≤999)∧∀H',Same H H'→Q (.str (Txt.join M6.wM ((M5.rows (M6.zR cs us) us).map M6.zcI))) H'
theorem zdV{f:Addr}{fd:FuncData}(F:Fun K "_law_spot_text" "_law_spot_text" ya f fd)(T:Txt K mg)(C_law_rows:Can P w K mg base 1 "_law_rows" ["_law_spots_here","_law_couples_here"] (zcF K))(C_law_words:Can P w K mg base 1 "_law_words" ["_law_things"] (za2 K)):FnOk P w K mg base CX0 2 f fd ["_law_spots_here","_law_couples_here"] (zav K):=by
 refine F.ok zdP (fun vs H Q E h=>?_) (fun cdv A outer s H vs Q E hr h=>?_)
 ·obtain⟨a,b,cs,us,rfl,_⟩:=h
  rfl
 ·obtain⟨a,b,cs,us,rfl,hA,hB,hl,hu,q⟩:=h
  refine⟨_,(zd (zi (zm C_law_words (hM hr) rfl (za (zih (show CompScope2 (zb ya) ["_law_spots_here","_law_couples_here"] "_law_place" "_law_couple" [] [] _ from⟨rfl,by decide +kernel,by decide +kernel,rfl,rfl,by decide +kernel,rfl,by decide +kernel,by decide +kernel⟩) rfl (zJ (zm C_law_rows (hM hr) rfl (za (pv 0) (za (pv 1) zc)))) (fun _ _ _ _ _=>yM) (fun _ _ _ _ _=>(zv yz (zv yz (zF zdm (by rfl) T.b_str boot_str (za (pv 0) zc)) zw) (zF zdm (by rfl) T.b_str boot_str (za (pv 1) zc))))) zc)))),?_⟩
  have hln:=zx
  have hrg:∀p∈M5.rows (M6.zR cs us) us,(1≤p.1∧p.1≤999)∧1≤p.2∧p.2≤999:=fun pr hpr=>by
   obtain⟨m1,m2⟩:=M6.zir hpr
   have hr1:=M6.zhn (cs:=cs) m1
   have hr2:=hu _ m1
   have m2:pr.1=M6.plc cs us pr.2:=m2
   omega
  have hrl:=M6.zic cs us
  refine⟨_,rfl,_,rfl,a,b,_,us,rfl,hA,hB,by rw[M6.zc2],by omega,fun l1 H1 ls s1 f1 e1 r1=>?_⟩
  refine⟨l1,rfl,⟨_,SqL.of e1⟩,?_⟩
  refine zeR (f:=M6.zcI) (SqL.of e1) r1 (by omega) (fun pr H' R hpr s' h=>?_) fun H2 s2=>?_
  ·obtain⟨p1,p2⟩:=hrg pr hpr
   obtain⟨l1,l2,l3⟩:=M6.zcR p1 p2
   have lc:(Str.ofString ":").length=1:=M6.zd3
   unfold tN at l1 l2
   refine⟨_,rfl,.inl ⟨_,rfl,zd2 (by omega),_,_,rfl,rfl,(by omega),_,rfl,.inl ⟨_,rfl,zd2 (by omega),_,_,rfl,rfl,(by rw[wE];omega),?_⟩⟩⟩
   exact h H' (Same.refl _)
  intro l3 hl3
  refine⟨l3,_,(M5.rows (M6.zR cs us) us).map M6.zcI,rfl,SqL.new,zfp _,by rw[length_map];omega,fun w hw=>?_,fun H4 s4=>q _ (s1.trans ((s2.newT hl3).trans s4))⟩
  obtain⟨p,hp,rfl⟩:=List.mem_map.mp hw
  have:=(M6.zcR (hrg p hp).1 (hrg p hp).2).2.2
  omega
def zc4(K:Frag):Sp:=fun vs H Q _=>∃(S:Sh)(d:Int)(j:Str)(u:Addr)(c:Int)(a:Addr)(ns:List Int),vs=[.int d,.bl S.shut,.ref u,.int c,.ref a]∧SqL K H u (S.couples.map V.int)∧SqL K H a (ns.map V.int)∧S.couples.Nodup∧(d=0∨d=1∨d=2)∧j∈S.panel∧S.taken<200∧∀H',Same H H'→Q (.str (S.dueD d j c ns)) H'
theorem zjn{f:Addr}{fd:FuncData}(F:Fun K "_law_due" "_law_due" za6 f fd)(T:Txt K mg)(C_law_good:Can P w K mg base 1 "_law_good" ["_law_card_here","_law_couples_here"] (zcM K)):FnOk P w K mg base CX0 2 f fd ["_law_deed_here","_law_shut","_law_couples_here","_law_couple","_law_card_here"] (zc4 K):=by
 refine F.ok zjo (fun vs H Q E h=>?_) (fun cdv A outer s H vs Q E hr h=>?_)
 ·obtain⟨S,d,j,u,c,a,ns,rfl,_⟩:=h
  rfl
 ·obtain⟨S,d,j,u,c,a,ns,rfl,hU,hA,hnd,hd,hj,ht,q⟩:=h
  refine⟨_,(ze (zB (ym (pv 1)) (zd (zi zw)) zr)
   (ze (zB (PW.pt (zd4 (zp zV (pv 0) zh (zq _)) (zcV (yU (ym (zm C_law_good (hM hr) rfl (za (pv 4) (za (pv 2) zc)))))))) (zd (zi zw)) zr)
   (ze (zB (PW.pt (zd4 (zp zV (pv 0) zh (zq _)) (zcV (zp zal (pv 3) (pv 2) (by first | exact zq _ | rfl))))) (zd (zi zw)) zr)
   (ze (zB (PW.pt (zd4 (zp zV (pv 0) zh (zq _)) (zcV (zp zV (zn zo (by rfl) T.b_len PySem.boot_len (za (pv 2) zc)) zh (zq _))))) (zd (zi zw)) zr)
   (zd (zi (zI zz (pe_lstS (StrEs.cons (StrEs.cons (StrEs.cons StrEs.nil)))) (pv 0) (fun _ _=>rfl)))))))),?_⟩
  have e0:S.dueD 0 j c ns=if S.shut=true then Str.ofString "refused: sealed" else if ns.Perm S.couples then Str.ofString "taken" else Str.ofString "refused: card":=by
   unfold Sh.dueD Sh.refD
   rw[if_pos rfl]
   unfold Sh.refuse
   cases hs:S.shut with
   | true=>rfl
   | false =>
     rw[if_neg Bool.false_ne_true,if_neg Bool.false_ne_true,if_pos hj]
     by_cases hp:ns.Perm S.couples
     ·rw[if_pos hp,if_pos hp,if_neg (by omega)];rfl
     ·rw[if_neg hp,if_neg hp];decide +kernel
  have e1:S.dueD 1 j c ns=if S.shut=true then Str.ofString "refused: sealed" else if c∈S.couples then(if S.couples.length=1 then Str.ofString "refused: last" else Str.ofString "struck")else Str.ofString "refused: couple":=by
   unfold Sh.dueD Sh.refD Sh.refuseS
   rw[if_neg (by decide),if_pos rfl]
   cases S.shut with
   | true=>rfl
   | false =>
     rw[if_neg Bool.false_ne_true,if_neg Bool.false_ne_true]
     by_cases hc:c∈S.couples
     ·rw[if_pos hc,if_pos hc]
      by_cases h1:S.couples.length=1
      ·rw[if_pos h1,if_pos h1];decide +kernel
      ·rw[if_neg h1,if_neg h1];rfl
     ·rw[if_neg hc,if_neg hc];decide +kernel
  have e2:S.dueD 2 j c ns=if S.shut=true then Str.ofString "refused: sealed" else Str.ofString "sealed":=by
   unfold Sh.dueD Sh.refD
   rw[if_neg (by decide),if_neg (by decide)]
   cases S.shut with
   | true=>rfl
   | false=>rfl
  refine⟨_,rfl,_,rfl,?_⟩
  by_cases hs:S.shut=true
  ·refine zbE hs ?_
   rw[if_pos hs] at e0 e1 e2
   have:=q H (Same.refl _)
   rcases hd with rfl | rfl | rfl
   ·rw[e0] at this;exact this
   ·rw[e1] at this;exact this
   ·rw[e2] at this;exact this
  ·refine zH (by simpa using hs) ?_
   rw[if_neg hs] at e0 e1 e2
   rcases hd with rfl | rfl | rfl
   ·refine⟨_,rfl,rfl,_,rfl,zbE (by decide) ?_⟩
    refine⟨_,rfl,_,rfl,a,u,ns,S.couples,rfl,hA,hU,hnd,_,rfl,?_⟩
    refine wJ (fun hp=>?_) (fun hp=>?_)
    ·rw[if_neg hp] at e0
     have:=q H (Same.refl _)
     rw[e0] at this
     exact this
    ·rw[if_pos hp] at e0
     refine⟨_,rfl,rfl,_,rfl,zH (by decide) (zao ?_)⟩
     refine⟨_,rfl,rfl,_,rfl,zH (by decide) (zao ?_)⟩
     refine⟨(by show 3≤sizeLine;decide),fun l1 hl1=>⟨_,rfl,l1,_,_,_,rfl,rfl,SqL.new,rfl,?_⟩⟩
     have:=q _ (Same.new (o:=.lst (map V.str [Str.ofString "taken",Str.ofString "struck",Str.ofString "sealed"])) hl1)
     rw[e0] at this
     exact this
   ·refine⟨_,rfl,rfl,_,rfl,zH (by decide) (zao ?_)⟩
    refine⟨_,rfl,rfl,_,rfl,zbE (by decide) ?_⟩
    refine⟨_,rfl,_,rfl,u,_,rfl,.inl hU,rfl,yO _,_,rfl,?_⟩
    rw[show inV (V.int c) (S.couples.map V.int)=decide (c∈S.couples)from zhT ..]
    refine wJ (fun hc=>?_) (fun hc=>?_)
    ·rw[if_neg hc] at e1
     have:=q H (Same.refl _)
     rw[e1] at this
     exact this
    ·rw[if_pos hc] at e1
     refine⟨_,rfl,rfl,_,rfl,zbE (by decide) ?_⟩
     refine⟨_,rfl,u,_,rfl,.inl hU,rfl,_,rfl,?_⟩
     rw[length_map]
     refine wk (fun h1=>?_) (fun h1=>?_)
     ·have h1:S.couples.length=1:=by have:=V.int.inj h1;omega
      rw[if_pos h1] at e1
      have:=q H (Same.refl _)
      rw[e1] at this
      exact this
     ·have h1:¬S.couples.length=1:=fun z=>h1 (by rw[z];rfl)
      rw[if_neg h1] at e1
      refine⟨(by show 3≤sizeLine;decide),fun l1 hl1=>⟨_,rfl,l1,_,_,_,rfl,rfl,SqL.new,rfl,?_⟩⟩
      have:=q _ (Same.new (o:=.lst (map V.str [Str.ofString "taken",Str.ofString "struck",Str.ofString "sealed"])) hl1)
      rw[e1] at this
      exact this
   ·refine⟨_,rfl,rfl,_,rfl,zH (by decide) (zao ?_)⟩
    refine⟨_,rfl,rfl,_,rfl,zH (by decide) (zao ?_)⟩
    refine⟨_,rfl,rfl,_,rfl,zH (by decide) (zao ?_)⟩
    refine⟨(by show 3≤sizeLine;decide),fun l1 hl1=>⟨_,rfl,l1,_,_,_,rfl,rfl,SqL.new,rfl,?_⟩⟩
    have:=q _ (Same.new (o:=.lst (map V.str [Str.ofString "taken",Str.ofString "struck",Str.ofString "sealed"])) hl1)
    rw[e2] at this
    exact this
def zcs(K:Frag):Sp:=fun vs H Q _=>∃(a:Addr)(cs:List (List Int)) (c:Int),vs=[.ref a,.int c]∧Refs K (IL K) H a cs∧cs.length≤1000∧(∀d∈cs,c∈d)∧∀(l:Addr)(H':Hp),Same H H'→H l=none→H' l=some (.lst ((M5.zA cs c).map V.int))→Q (.ref l) H'
theorem ziy{f:Addr}{fd:FuncData}(F:Fun K "marks_of" "marks_of" wT f fd)(T:Txt K mg)(C_mark_on:Can P w K mg base 1 "mark_on" ["card","couple"] (zdd K)):FnOk P w K mg base CX0 2 f fd ["cards","couple"] (zcs K):=by
 refine F.ok zin (fun vs H Q E h=>?_) (fun cdv A outer s H vs Q E hr h=>?_)
 ·obtain⟨a,cs,c,rfl,_⟩:=h
  rfl
 ·obtain⟨a,cs,c,rfl,⟨ls,hS,hR⟩,hz,hc,q⟩:=h
  refine⟨_,(zd (zi (zT (show CompScope (zb wT) ["cards","couple"] "card" ["couple"] [1] _ from⟨rfl,by decide +kernel,by decide +kernel,rfl,by decide +kernel,rfl,by decide +kernel,by decide +kernel⟩) rfl (zJ (pv 0)) (fun _ _ _ _ _=>yM) (fun _ _ _ _ _=>(zm C_mark_on (hM hr) rfl (za (pv 0) (za (pv 1) zc))))))),?_⟩
  have hlen:=hR.length
  refine⟨_,rfl,a,rfl,⟨_,hS⟩,?_⟩
  refine zO (xs:=ls.map V.ref) (fun i ys H2=>H2=H∧ys=(M5.zA (cs.take i) c).map V.int) ⟨rfl,rfl⟩ ?_ (by rw[length_map];have:=zx;omega) ?_ ?_
  ·rintro i ys H2 hi ⟨rfl,rfl⟩
   refine⟨hS,?_⟩
   rw[length_map,M5.zaI,length_take]
   omega
  ·rintro i x ys H2 hx ⟨rfl,rfl⟩
   obtain⟨l,el,rfl⟩:=zaf hx
   obtain⟨d,ed,rd⟩:=hR.getL el
   refine⟨_,rfl,_,rfl,l,d,c,rfl,rd,hc d (mem_of_getElem? ed),rfl,?_⟩
   rw[take_succ,ed]
   unfold M5.zA
   rw[map_append,map_append]
   rfl
  ·rintro ys H2 ⟨rfl,rfl⟩ l hl
   rw[length_map,hlen,take_length]
   exact q l _ (Same.new hl) hl zf
def zb5(K:Frag):Sp:=fun vs H Q _=>∃(a:Addr)(ms:List Int)(n:Int),vs=[.ref a,.int n]∧SqL K H a (ms.map V.int)∧ms.length≤1000∧∀(H':Hp),Same H H'→Q (.int (M3.cnt ms n)) H'
theorem zji{f:Addr}{fd:FuncData}(F:Fun K "granted" "granted" zba f fd)(T:Txt K mg)(C_granting:Can P w K mg base 1 "granting" ["marks","number"] (zbz K)):FnOk P w K mg base CX0 2 f fd ["marks","number"] (zb5 K):=by
 refine F.ok zjb (fun vs H Q E h=>?_) (fun cdv A outer s H vs Q E hr h=>?_)
 ·obtain⟨a,ms,n,rfl,_⟩:=h
  rfl
 ·obtain⟨a,ms,n,rfl,hS,hz,q⟩:=h
  refine⟨_,(zd (zi (zn zo (by rfl) T.b_len PySem.boot_len (za (zm C_granting (hM hr) rfl (za (pv 0) (za (pv 1) zc))) zc)))),?_⟩
  refine⟨_,rfl,_,rfl,a,ms,n,rfl,hS,hz,fun l H1 s1 f1 e1=>?_⟩
  refine⟨l,_,rfl,.inl (SqL.of e1),?_⟩
  rw[length_map]
  exact q _ s1
def zaj(K:Frag):Sp:=fun vs H Q _=>∃(a:Addr)(ms:List Int)(n:Int),vs=[.ref a,.int n]∧SqL K H a (ms.map V.int)∧ms.length≤1000∧∀(H':Hp),Same H H'→Q (.int (M3.sm ms n)) H'
theorem ze2{f:Addr}{fd:FuncData}(F:Fun K "granted_sum" "granted_sum" wd f fd)(T:Txt K mg)(C_granting:Can P w K mg base 1 "granting" ["marks","number"] (zbz K)):FnOk P w K mg base CX0 2 f fd ["marks","number"] (zaj K):=by
 refine F.ok ze8 (fun vs H Q E h=>?_) (fun cdv A outer s H vs Q E hr h=>?_)
 ·obtain⟨a,ms,n,rfl,_⟩:=h
  rfl
 ·obtain⟨a,ms,n,rfl,hS,hz,q⟩:=h
  refine⟨_,(zd (zi (zn (ziI rfl) (by rfl) T.b_sum boot_sum (za (zm C_granting (hM hr) rfl (za (pv 0) (za (pv 1) zc))) zc)))),?_⟩
  refine⟨_,rfl,_,rfl,a,ms,n,rfl,hS,hz,fun l H1 s1 f1 e1=>?_⟩
  exact⟨l,_,rfl,SqL.of e1,q _ s1⟩
def wP(K:Frag):Sp:=fun vs H Q _=>∃(a:Addr)(ms:List Int),vs=[.ref a]∧SqL K H a (ms.map V.int)∧ms≠[]∧ms.length≤60∧(∀x∈ms,1≤x∧x≤24)∧∀(H':Hp)(f:Int),Same H H'→M3.isF ms f→Q (.int f) H'
theorem zeG{f:Addr}{fd:FuncData}(F:Fun K "first_number" "first_number" yK f fd)(T:Txt K mg)(C_majority_of:Can P w K mg base 1 "majority_of" ["many"] (zbq K)):FnOk P w K mg base CX0 2 f fd ["marks"] (wP K):=by
 refine F.ok zev (fun vs H Q E h=>?_) (fun cdv A outer s H vs Q E hr h=>?_)
 ·obtain⟨a,ms,rfl,_⟩:=h
  rfl
 ·obtain⟨a,ms,rfl,hS,hne,hz,hx,q⟩:=h
  refine⟨_,(zd (zi (zI zz (zn zcJ (by rfl) T.b_sorted PyProof.Rows.boot_sorted (za (pv 0) zc)) (zv zi8 (zm C_majority_of (hM hr) rfl (za (zn zo (by rfl) T.b_len PySem.boot_len (za (pv 0) zc)) zc)) zh) (fun _ _=>rfl)))),?_⟩
  refine⟨_,rfl,a,ms,rfl,hS,by omega,fun l ns hl p w=>?_⟩
  refine⟨_,rfl,a,_,rfl,.inl ((Same.new hl).seq hS),_,rfl,_,_,rfl,rfl,?_⟩
  have hlen:=p.length_eq
  have hn:=List.length_pos_iff.mpr hne
  rw[length_map]
  refine⟨l,_,_,_,rfl,rfl,SqL.new,zdn (by omega) (by omega),?_⟩
  have e:(((ms.length:Nat):Int)/2+1-1).toNat=ns.length/2:=by omega
  rw[e]
  exact q _ _ (Same.new hl) (M3.isF_perm p (M3.zi4 w fun z=>by rw[z] at hlen;simp at hlen;omega))
def yl(K:Frag):Sp:=fun vs H Q E=>∃(p:Addr)(F:Addr→Prop)(S:Sh)(n:Int),vs=[.ref p,.int n]∧SheetAt K H p F S∧(¬n≤S.handed.length→∀C H',ClsN K "TooFewCards" C→Same H H'→E (.ref C) none H')∧(n≤S.handed.length→∀H',Same H H'→Q .non H')
theorem zcm{f:Addr}{fd:FuncData}(F:Fun K "refuse_fewer_cards" "refuse_fewer_cards" zP f fd)(T:Txt K mg)(C_Sheet_handed:CanM P w K mg base 1 (zE K "Sheet") "handed" ["self"] (yu K)):FnOk P w K mg base (CX1 P w) 2 f fd ["sheet","least"] (yl K):=by
 obtain⟨c_TooFewCards,n_TooFewCards,m_TooFewCards,x_TooFewCards⟩:=T.x_TooFewCards
 refine F.okX zcn (fun vs H Q E h=>?_) (fun X W cdv A outer s H vs Q E hX hW fl md hr h=>?_)
 ·obtain⟨p,F,S,n,rfl,_⟩:=h
  rfl
 ·obtain⟨p,F,S,n,rfl,hSh,qE,q⟩:=h
  subst hX
  refine⟨_,(zd (zB (zp op_lt (zn zo (by rfl) T.b_len PySem.boot_len (za (yw C_Sheet_handed T.cl_Sheet (hM hr) (pv 0)) zc)) (pv 1) (zq _)) (zd (wL rfl md rfl m_TooFewCards x_TooFewCards (za zw zc))) zr)),?_⟩
  obtain⟨dx,b1,b2,b3,d,hip⟩:=hSh.ins
  refine⟨_,rfl,p,dx,_,rfl,hip,rfl,p,F,S,rfl,hSh.shape,hSh.ok.p15,fun l1 H1 s1 f1 e1=>?_⟩
  refine⟨l1,_,rfl,.inl (SqL.of e1),_,rfl,_,_,rfl,rfl,_,rfl,wk (fun h=>?_) (fun h=>?_)⟩
  ·rw[length_map] at h
   exact⟨(by show 1≤sizeLine;decide),by rw[hW];exact qE (by omega) _ _ n_TooFewCards s1⟩
  ·rw[length_map] at h
   exact q (by omega) H1 s1
def zbp(K:Frag):Sp:=fun vs H Q _=>∃(z:Str),vs=[.str z]∧M20.Num z∧∀H',Same H H'→Q (.bl true) H'
theorem ze9{f:Addr}{fd:FuncData}(F:Fun K "couple_word" "couple_word" yA f fd)(T:Txt K mg)(C_figure:Can P w K mg base 1 "figure" ["sign"] (zd6 K)):FnOk P w K mg base CX0 2 f fd ["word"] (zbp K):=by
 refine F.ok zfB (fun vs H Q E h=>?_) (fun cdv A outer s H vs Q E hr h=>?_)
 ·obtain⟨z,rfl,_⟩:=h
  rfl
 ·obtain⟨z,rfl,hz,q⟩:=h
  refine⟨_,(zd (zi (zas (wf zfm (zn zg4 (by rfl) T.b_len PySem.boot_len (za (pv 0) zc)) (zbV T.c_MOST_FIGURES rfl) (zq _)) (zas (wf zaZ (zI zgV (pv 0) zh (fun _ _=>rfl)) zw (zq _)) (zca (zn (zdi rfl) (by rfl) T.b_all boot_all (za (zT (show CompScope (zb yA) ["word"] "sign" [] [] _ from⟨rfl,by decide +kernel,by decide +kernel,rfl,by decide +kernel,rfl,by decide +kernel,by decide +kernel⟩) rfl (pi_str (pv 0)) (fun _ _ _ _ _=>yM) (fun _ _ _ _ _=>(zm C_figure (hM hr) rfl (za (pv 0) zc)))) zc))))))),?_⟩
  have hl:=zx
  have hz3:=hz.len
  obtain⟨c0,r0,e0,n0⟩:=hz.ex
  refine⟨_,rfl,z,rfl,by omega,_,_,rfl,rfl,_,rfl,wk (fun _=>?_) (fun h1=>absurd (show(z.length:Int)≤3 by omega) h1)⟩
  refine⟨_,rfl,z,0,c0,rfl,rfl,by omega,by rw[e0];exact we (j:=0) rfl,rfl,_,rfl,?_⟩
  refine wJ (fun _=>?_) (fun h1=>?_)
  ·refine⟨_,rfl,z,rfl,?_⟩
   refine zgm (fun i ys H2=>H2=H∧ys=((z.cps.toList.take i).map M20.fig).map V.bl) ⟨rfl,rfl⟩ ?_ (by omega) ?_ ?_
   ·rintro i ys H2 hi ⟨rfl,rfl⟩
    simp only[length_map,length_take]
    omega
   ·rintro i d ys H2 hx ⟨rfl,rfl⟩
    refine⟨_,rfl,d,rfl,rfl,?_⟩
    rw[take_succ,hx,map_append,map_append]
    rfl
   ·rintro ys H2 ⟨rfl,rfl⟩ l hl
    have e:z.cps.toList.take z.length=z.cps.toList:=take_of_length_le (by rw[M20.zfi];exact le_refl _)
    rw[e]
    refine⟨l,_,rfl,SqL.new,?_⟩
    have ea:(z.cps.toList.map M20.fig).all id=true:=by
     rw[all_eq_true]
     intro b hb
     obtain⟨c,hc,rfl⟩:=List.mem_map.mp hb
     obtain⟨a1,a2⟩:=hz.all c hc
     show(decide (48≤c) && decide (c≤57))=true
     rw[decide_eq_true a1,decide_eq_true a2]
     rfl
    rw[ea]
    exact q _ (Same.new hl)
  ·exfalso
   have e48:(("0":Str))=⟨#[48]⟩:=by decide +kernel
   rw[e48] at h1
   injection h1 with h1
   injection h1 with h1
   have:=congrArg (fun a:Array Nat=>a.toList) h1
   simp at this
   exact n0 this
def zaW(K:Frag):Sp:=fun vs H Q _=>∃(a:Addr)(ns:List Int),vs=[.ref a]∧SqL K H a (ns.map V.int)∧ns.length<4000∧∀H',Same H H'→Q (.bl (M1.zcp ns)) H'
theorem zes{f:Addr}{fd:FuncData}(F:Fun K "good_couples" "good_couples" yf f fd)(T:Txt K mg)(C_good_number:Can P w K mg base 1 "good_number" ["couple"] (zbr K))(C_good_length:Can P w K mg base 1 "good_length" ["things","most"] (wm K))(C_all_unlike:Can P w K mg base 1 "all_unlike" ["things"] (zaG K)):FnOk P w K mg base CX0 2 f fd ["couples"] (zaW K):=by
 refine F.ok zex (fun vs H Q E h=>?_) (fun cdv A outer s H vs Q E hr h=>?_)
 ·obtain⟨a,ns,rfl,_⟩:=h
  rfl
 ·obtain⟨a,ns,rfl,hS,hz,q⟩:=h
  refine⟨_,(zd (zi (zas (zm C_good_length (hM hr) rfl (za (pv 0) (za (zbV T.c_MOST_COUPLES rfl) zc))) (zas (zm C_all_unlike (hM hr) rfl (za (pv 0) zc)) (zca (zn (zdi rfl) (by rfl) T.b_all boot_all (za (zT (show CompScope (zb yf) ["couples"] "couple" [] [] _ from⟨rfl,by decide +kernel,by decide +kernel,rfl,by decide +kernel,rfl,by decide +kernel,by decide +kernel⟩) rfl (zJ (pv 0)) (fun _ _ _ _ _=>yM) (fun _ _ _ _ _=>(zm C_good_number (hM hr) rfl (za (pv 0) zc)))) zc))))))),?_⟩
  refine⟨_,rfl,_,_,_,rfl,.inl ⟨_,hS,rfl⟩,_,rfl,?_⟩
  rw[length_map]
  unfold M1.zcp at q
  refine zge (fun h1=>?_) (fun h1=>?_)
  ·rw[h1,Bool.true_and] at q
   refine⟨_,rfl,a,rfl,.inl ⟨ns,hS,hz,fun H1 s1=>⟨_,rfl,wk (fun h2=>?_) (fun h2=>?_)⟩⟩⟩
   ·rw[decide_eq_true h2,Bool.true_and] at q
    have hS1:=s1.seq hS
    refine⟨_,rfl,a,rfl,⟨_,hS1⟩,?_⟩
    refine zO (xs:=ns.map V.int) (fun i ys H2=>H2=H1∧ys=((ns.take i).map fun n=>decide (1≤n) && decide (n≤999)).map V.bl) ⟨rfl,rfl⟩ ?_ (by rw[length_map];have:=zx;omega) ?_ ?_
    ·rintro i ys H2 hi ⟨rfl,rfl⟩
     exact⟨hS1,by simp only[length_map,length_take];omega⟩
    ·rintro i x ys H2 hx ⟨rfl,rfl⟩
     obtain⟨hi,rfl⟩:=yV hx
     refine⟨_,rfl,_,rfl,rfl,?_⟩
     rw[yt hi,map_append,map_append]
     rfl
    ·rintro ys H2 ⟨rfl,rfl⟩ l hl
     rw[length_map,take_length]
     exact⟨l,_,rfl,SqL.new,q _ (s1.newT hl)⟩
   ·rw[decide_eq_false h2,Bool.false_and] at q
    exact q _ s1
  ·rw[h1,Bool.false_and] at q
   exact q _ (Same.refl _)
def zcj(K:Frag):Sp:=fun vs H Q _=>∃(z:Str),vs=[.str z]∧z.length≤1000∧∀H',Same H H'→Q (.bl (M2.zcA z)) H'
theorem zhc{f:Addr}{fd:FuncData}(F:Fun K "good_name" "good_name" wj f fd)(T:Txt K mg)(C_small_letter:Can P w K mg base 1 "small_letter" ["sign"] (zaQ K))(C_good_length:Can P w K mg base 1 "good_length" ["things","most"] (wm K)):FnOk P w K mg base CX0 2 f fd ["judge"] (zcj K):=by
 refine F.ok zhp (fun vs H Q E h=>?_) (fun cdv A outer s H vs Q E hr h=>?_)
 ·obtain⟨z,rfl,_⟩:=h
  rfl
 ·obtain⟨z,rfl,hz,q⟩:=h
  refine⟨_,(zd (zi (zas (zm C_good_length (hM hr) rfl (za (pv 0) (za (zbV T.c_MOST_SIGNS rfl) zc))) (zca (zn (zdi rfl) (by rfl) T.b_all boot_all (za (zT (show CompScope (zb wj) ["judge"] "sign" [] [] _ from⟨rfl,by decide +kernel,by decide +kernel,rfl,by decide +kernel,rfl,by decide +kernel,by decide +kernel⟩) rfl (pi_str (pv 0)) (fun _ _ _ _ _=>yM) (fun _ _ _ _ _=>(zm C_small_letter (hM hr) rfl (za (pv 0) zc)))) zc)))))),?_⟩
  have hl:=zx
  refine⟨_,rfl,_,_,_,rfl,⟨by omega,rfl⟩,_,rfl,?_⟩
  unfold M2.zcA at q
  refine zge (fun h1=>?_) (fun h1=>?_)
  ·rw[h1,Bool.true_and] at q
   refine⟨_,rfl,z,rfl,?_⟩
   refine zgm (fun i ys H2=>H2=H∧ys=((z.cps.toList.take i).map zcC).map V.bl) ⟨rfl,rfl⟩ ?_ (by omega) ?_ ?_
   ·rintro i ys H2 hi ⟨rfl,rfl⟩
    simp only[length_map,length_take]
    omega
   ·rintro i d ys H2 hx ⟨rfl,rfl⟩
    refine⟨_,rfl,d,rfl,rfl,?_⟩
    rw[take_succ,hx,map_append,map_append]
    rfl
   ·rintro ys H2 ⟨rfl,rfl⟩ l hl
    have e:z.cps.toList.take z.length=z.cps.toList:=take_of_length_le (by show z.cps.toList.length≤z.cps.size;rw[Array.length_toList];exact le_refl _)
    rw[e]
    exact⟨l,_,rfl,SqL.new,q _ (Same.new hl)⟩
  ·rw[h1,Bool.false_and] at q
   exact q _ (Same.refl _)
def zaO(K:Frag):Sp:=fun vs H Q _=>∃(a b:Addr)(ns ms:List Int),vs=[.ref a,.ref b]∧SqL K H a (ns.map V.int)∧SqL K H b (ms.map V.int)∧ms.length≤1000000∧Q (.bl (decide (ns=ms))) H
theorem same_all{ns ms:List Int}(hl:ns.length=ms.length)(h:∀j,j<ms.length→ns.getD j 0=ms.getD j 0):ns=ms:=by
 refine ext_getElem hl fun j h1 h2=>?_
 have:=h j h2
 rwa [getD_eq_getElem?_getD,getD_eq_getElem?_getD,getElem?_eq_getElem h1,getElem?_eq_getElem h2] at this
theorem zhZ{f:Addr}{fd:FuncData}(F:Fun K "_law_same" "_law_same" zaD f fd)(T:Txt K mg)(C_law_whole:Can P w K mg base 1 "_law_whole" ["_law_found"] (za4 K)):FnOk P w K mg base CX0 2 f fd ["_law_found","_law_due_here"] (zaO K):=by
 refine F.ok zeh (fun vs H Q E h=>?_) (fun cdv A outer s H vs Q E hr h=>?_)
 ·obtain⟨a,b,ns,ms,rfl,_⟩:=h
  rfl
 ·obtain⟨a,b,ns,ms,rfl,hA,hB,hz,q⟩:=h
  refine⟨_,(ze (zB (PW.pt (zfy (yU (ym (zn zbL (by rfl) T.b_isinstance boot_isinstance (za (pv 0) (za (zbB (v:=V.ty "list") rfl T.b_list boot_list rfl) zc))))) (zde (zp zaZ (zn zo (by rfl) T.b_len PySem.boot_len (za (pv 0) zc)) (zn zo (by rfl) T.b_len PySem.boot_len (za (pv 1) zc)) (zq _))))) (zd (zi wK)) zr)
   (ze (zak PassesOwn.never rfl (wB rfl T.b_range (za (zn zo (by rfl) T.b_len PySem.boot_len (za (pv 1) zc)) zc)) (yk (i:=2) zeh.nd rfl (Or.inl rfl))
     (zd (zB (PW.pt (zfy (yU (ym (zm C_law_whole (hM hr) rfl (za (zI zz (pv 0) (pv 2) (fun _ _=>rfl)) zc)))) (zde (zp zaZ (zI zz (pv 0) (pv 2) (fun _ _=>rfl)) (zI zz (pv 1) (pv 2) (fun _ _=>rfl)) (zq _))))) (zd (zi wK)) zr)))
   (zd (zi wK)))),?_⟩
  refine⟨_,rfl,_,_,rfl,.yes hA,_,rfl,zao ?_⟩
  refine⟨_,rfl,a,_,rfl,.inl hA,_,rfl,b,_,rfl,.inl hB,rfl,_,rfl,?_⟩
  rw[length_map,length_map]
  refine wJ (fun hne=>?_) (fun he=>?_)
  ·show Q (.bl false) H
   have:ns≠ms:=fun e=>hne (by rw[e])
   rw[decide_eq_false this] at q
   exact q
  ·have hl:ns.length=ms.length:=by injection he with he;exact Int.ofNat.inj he
   refine⟨_,rfl,b,_,rfl,.inl hB,_,rfl,by omega,by rw[length_map];omega,?_⟩
   rw[length_map]
   refine yX (fun i σ H2=>∃v,σ=[some (.ref a),some (.ref b),v]∧H2=H∧∀j,j<i→ns.getD j 0=ms.getD j 0) ⟨_,rfl,rfl,fun j hj=>by omega⟩ ?_ ?_
   ·rintro i σ H2 hi ⟨v,rfl,rfl,hj⟩
    have hi':i<ms.length:=by simpa using hi
    have e1:atI (ns.map V.int) (0+(i:Int))=some (.int (ns.getD i 0)):=by rw[Int.zero_add];exact we (zcd (by omega))
    have e2:atI (ms.map V.int) (0+(i:Int))=some (.int (ms.getD i 0)):=by rw[Int.zero_add];exact we (zcd hi')
    refine⟨_,rfl,_,rfl,a,_,_,_,rfl,rfl,hA,e1,_,true,false,rfl,rfl,rfl,_,rfl,zao ?_⟩
    refine⟨_,rfl,_,rfl,a,_,_,_,rfl,rfl,hA,e1,_,rfl,_,rfl,b,_,_,_,rfl,rfl,hB,e2,rfl,_,rfl,wJ (fun hne=>?_) (fun he=>?_)⟩
    ·show Q (.bl false) _
     have:ns≠ms:=fun e=>hne (by rw[e])
     rw[decide_eq_false this] at q
     exact q
    ·refine⟨_,rfl,rfl,fun j hj'=>?_⟩
     by_cases hji:j=i
     ·subst hji;injection he
     ·exact hj j (by omega)
   ·rintro σ H2 ⟨v,rfl,rfl,hj⟩
    show Q (.bl true) _
    have:ns=ms:=same_all hl fun j h=>hj j (by simpa using h)
    rw[decide_eq_true this] at q
    exact q
def zci(K:Frag):Sp:=fun vs H Q _=>∃(c m:Int),vs=[.int c,.int m]∧0≤m∧m≤15∧∀(l:Addr)(H':Hp)(ts:List Str),Same H H'→H l=none→H' l=some (.lst (ts.map V.str))→ts.length=m.toNat→ts.Nodup→(∀z∈ts,M2.zcA z=true)→Q (.ref l) H'
theorem abc_at{i:Int}(h0:0≤i)(h1:i<26):atI abc.cps.toList i=some (97+i.toNat):=by
 have:∀k:Fin 26,abc.cps.toList[k.val]? = some (97+k.val):=by decide +kernel
 have:=we (this ⟨i.toNat,by omega⟩)
 rwa [show((i.toNat:Nat):Int)=i by omega] at this
theorem ziv{k:Nat}(h:k<26):zcC (97+k)=true:=by
 unfold zcC
 rw[decide_eq_true (by omega),decide_eq_true (by omega)]
 rfl
theorem zgU{f:Addr}{fd:FuncData}(F:Fun K "_law_names" "_law_names" wY f fd)(T:Txt K mg)(C_law_mix:Can P w K mg base 1 "_law_mix" ["_law_cell","_law_place"] (zbh K)):FnOk P w K mg base CX0 2 f fd ["_law_cell","_law_many_here"] (zci K):=by
 refine F.ok zK (fun vs H Q E h=>?_) (fun cdv A outer s H vs Q E hr h=>?_)
 ·obtain⟨c,m,rfl,_⟩:=h
  rfl
 ·obtain⟨c,m,rfl,m0,m1,q⟩:=h
  refine⟨_,(ze (zy (i:=2) zK.nd rfl (Or.inl rfl) zw)
   (ze (zy (i:=3) zK.nd rfl (Or.inl rfl) (yT zc))
   (ze (zy (i:=4) zK.nd rfl (Or.inl rfl) (zv ww (pv 0) zh))
   (ze (zak PassesOwn.never rfl (wB rfl T.b_range (za (pv 1) zc)) (yk (i:=5) zK.nd rfl (Or.inl rfl))
     (ze (zbe (zB (zp zV (zv yG (pv 0) zh) zh (zq _)) (zd (zy (i:=4) zK.nd rfl (Or.inl rfl) (zm C_law_mix (hM hr) rfl (za (zv yg (pv 4) (pv 0)) (za (pv 5) zc))))) zr))
   (ze (zy (i:=6) zK.nd rfl (Or.inl rfl) zw)
   (ze (zy (i:=7) zK.nd rfl (Or.inl rfl) (zv yg zh (zv yG (pv 4) zh)))
   (ze (zy (i:=4) zK.nd rfl (Or.inl rfl) (zv ww (pv 4) zh))
   (ze (zak PassesOwn.never rfl (wB rfl T.b_range (za (pv 7) zc)) (yk (i:=8) zK.nd rfl (Or.inl rfl))
     (ze (zy (i:=6) zK.nd rfl (Or.inl rfl) (zv yz (pv 6) (zI zgV (pv 2) (zv yG (pv 4) zh) (fun _ _=>rfl))))
   (zd (zy (i:=4) zK.nd rfl (Or.inl rfl) (zv ww (pv 4) zh)))))
   (ze (ps_while PassesOwn.never (zp zdY (pv 6) (pv 3) (by first | exact zq _ | rfl)) (zd (zy (i:=6) zK.nd rfl (Or.inl rfl) (zv yz (zbf sl_str (pv 6) zcN (zby (pe_un zhl zh))) (zI zgV (pv 2) (zv yG (zv yg (za0 PySem.F.plainAttrs_str PySem.F.slot_str_index PySem.F.type_str_index (ms_index rfl) (pv 2) (za (zI zgV (pv 6) (pe_un zhl zh) (fun _ _=>rfl)) zc)) zh) zh) (fun _ _=>rfl))))))
   (zd (zY (za0 PySem.F.plainAttrs_list PySem.F.slot_list_append PySem.F.type_list_append wV (pv 3) (za (pv 6) zc)))))))))))
   (zd (zi (pv 3))))))),?_⟩
  have hln:=zx
  refine⟨(by show 0≤sizeLine;decide),fun l hl=>?_⟩
  refine⟨_,rfl,_,_,rfl,rfl,⟨by decide,by decide⟩,?_⟩
  generalize hH1:upd H l _=H1
  have s1:Same H H1:=by rw[←hH1];exact Same.new hl
  have e1:H1 l=some (.lst (([]:List Str).map V.str)):=by rw[←hH1];exact zf
  refine⟨_,rfl,m,rfl,by omega,by omega,?_⟩
  refine yX (fun i σ H2=>∃(left:Int)(ts:List Str)(v5 v6 v7 v8:Option V),σ=[some (.int c),some (.int m),some (.str abc),some (.ref l),some (.int left),v5,v6,v7,v8]∧H2 l=some (.lst (ts.map V.str))∧(∀b o,H b=some o→H2 b=some o)∧ts.length=i∧ts.Nodup∧∀z∈ts,M2.zcA z=true) ⟨_,[],_,_,_,_,rfl,e1,s1,rfl,nodup_nil,fun z hz=>nomatch hz⟩ ?_ ?_
  ·rintro i σ H2 hi ⟨left,ts,v5,v6,v7,v8,rfl,e2,s2,hlen,hnd,hgd⟩
   have hi:i<15:=by omega
   refine⟨fun σ' H'=>∃left:Int,σ'=[some (.int c),some (.int m),some (.str abc),some (.ref l),some (.int left),some (.int (0+(i:Int))),v6,v7,v8]∧H'=H2,?_,?_⟩
   ·refine⟨_,rfl,_,_,rfl,rfl,(by show(0:Int)<2;decide),rfl,_,rfl,wk (fun _=>?_) (fun _=>⟨_,rfl,rfl⟩)⟩
    exact⟨_,rfl,_,rfl,_,_,rfl,rfl,_,rfl,_,_,rfl,_,rfl,rfl⟩
   rintro σ' H' ⟨left,rfl,rfl⟩
   have h80:0≤left%8:=Int.emod_nonneg _ (by decide)
   have h81:left%8<8:=Int.emod_lt_of_pos _ (by decide)
   refine⟨_,rfl,_,_,rfl,rfl,(by show(0:Int)<8;decide),_,_,rfl,rfl,?_⟩
   refine⟨_,rfl,_,_,rfl,rfl,⟨by decide,by decide⟩,?_⟩
   dsimp only
   generalize hsz:1+left%8=size
   refine⟨_,rfl,size,rfl,by omega,by omega,?_⟩
   refine yX (fun j σ H3=>∃(left:Int)(z:List Nat)(v8:Option V),σ=[some (.int c),some (.int m),some (.str abc),some (.ref l),some (.int left),some (.int (0+(i:Int))),some (.str (M13.tx z)),some (.int size),v8]∧H3=H'∧z.length=j∧∀x∈z,zcC x=true) ⟨_,[],_,rfl,rfl,rfl,fun x hx=>nomatch hx⟩ ?_ ?_
   ·rintro j σ H3 hj ⟨left,z,v8,rfl,rfl,hz,hs⟩
    have h0:0≤left%26:=Int.emod_nonneg _ (by decide)
    have h1:left%26<26:=Int.emod_lt_of_pos _ (by decide)
    refine⟨_,rfl,_,rfl,_,rfl,_,_,rfl,rfl,(by show(0:Int)<26;decide),abc,_,_,rfl,rfl,(by decide),abc_at h0 h1,_,_,rfl,rfl,(by rw[M13.zdR];show z.length+1≤sizeLine;omega),?_⟩
    refine⟨_,rfl,_,_,rfl,rfl,⟨by decide,by decide⟩,?_⟩
    rw[M13.tx_add]
    refine⟨_,_,_,rfl,rfl,by rw[length_append,hz];rfl,fun x hx=>?_⟩
    rcases List.mem_append.mp hx with w | w
    ·exact hs x w
    ·rw[List.mem_singleton.mp w]
     exact ziv (by omega)
   rintro σ H3 ⟨left,z,v8,rfl,rfl,hz,hs⟩
   have hzl:z.length=size.toNat:=hz
   obtain⟨b,y,rfl⟩:∃b y,z=b++[y]:=by
    have:z≠[]:=fun e=>by rw[e] at hzl;simp at hzl;omega
    exact⟨z.dropLast,z.getLast this,(List.dropLast_concat_getLast this).symm⟩
   have hy:=hs y (mem_append_right _ (List.mem_singleton.mpr rfl))
   have hb:∀x∈b,zcC x=true:=fun x hx=>hs x (mem_append_left _ hx)
   have hbl:b.length≤7:=by rw[length_append,length_singleton] at hzl;omega
   obtain⟨t,ht,rfl⟩:∃t,t<26∧y=97+t:=by
    unfold zcC at hy
    simp only[Bool.and_eq_true,decide_eq_true_eq] at hy
    exact⟨y-97,by omega,by omega⟩
   have e0:M13.tx (b++[97+t])=M13.turn b t 0:=by unfold M13.turn;rw[Nat.add_zero,Nat.mod_eq_of_lt ht]
   rw[e0]
   refine⟨fun n σ H4=>∃s,n+s=26∧(∀r,r<s→M13.turn b t r∈ts)∧σ=[some (.int c),some (.int m),some (.str abc),some (.ref l),some (.int left),some (.int (0+(i:Int))),some (.str (M13.turn b t s)),some (.int size),v8]∧H4=H3,⟨26,0,rfl,fun r hr=>by omega,rfl,rfl⟩,?_⟩
   rintro n σ H4 ⟨r,hn,hin,rfl,rfl⟩
   refine⟨_,rfl,_,rfl,l,_,rfl,.inl (SqL.of e2),rfl,zgr _,_,rfl,?_⟩
   rw[ziH]
   have hr26:(t+r)%26<26:=Nat.mod_lt _ (by decide)
   refine wk (fun hm=>?_) (fun hm=>?_)
   ·have hin':∀r',r'<r+1→M13.turn b t r'∈ts:=fun r' hr'=>by
     by_cases er:r'=r
     ·rw[er];exact hm
     ·exact hin r' (by omega)
    have hr:r<26:=by
     refine Nat.lt_of_not_le fun z=>?_
     have:=M13.zgH (b:=b) (t:=t) (ts:=ts) fun r' hr'=>hin r' (by omega)
     omega
    refine⟨fun σ' H'=>σ'=[some (.int c),some (.int m),some (.str abc),some (.ref l),some (.int left),some (.int (0+(i:Int))),some (.str (M13.turn b t (r+1))),some (.int size),v8]∧H'=H4,?_,?_⟩
    ·rintro σ' H' ⟨rfl,rfl⟩
     by_cases h26:r+1=26
     ·exfalso
      have:=M13.zgH (b:=b) (t:=t) (ts:=ts) fun r' hr'=>hin' r' (by omega)
      omega
     ·exact⟨n-1,by omega,r+1,by omega,hin',rfl,rfl⟩
    ·have hlast:atI (M13.turn b t r).cps.toList (-1)=some (97+(t+r)%26):=by
      unfold M13.turn M13.tx
      show atI ((b++[97+(t+r)%26]).toArray.toList) (-1)=_
      rw[List.toList_toArray]
      exact atI_last _ _
     have hfind:=M13.find_abc ⟨(t+r)%26,hr26⟩
     dsimp only at hfind
     have i0:(0:Int)≤(((t+r)%26:Nat)+1:Int)%26:=Int.emod_nonneg _ (by decide)
     have i1:(((t+r)%26:Nat)+1:Int)%26<26:=Int.emod_lt_of_pos _ (by decide)
     refine⟨_,rfl,_,rfl,_,rfl,_,rfl,(by unfold M13.turn;rw[M13.zdR,length_append,length_singleton];omega),?_⟩
     rw[show PySem.Txt.slice (M13.turn b t r) none (some (-1))=M13.tx b from M13.tx_cut b _]
     refine⟨_,rfl,_,rfl,rfl,_,rfl,_,rfl,M13.turn b t r,_,_,rfl,rfl,(by unfold M13.turn;rw[M13.zdR,length_append,length_singleton];omega),hlast,abc,_,rfl,rfl,by rw[hfind];omega,?_⟩
     rw[hfind]
     refine⟨_,_,rfl,rfl,_,_,rfl,rfl,(by show(0:Int)<26;decide),abc,_,_,rfl,rfl,(by decide),abc_at i0 i1,_,_,rfl,rfl,(by rw[M13.zdR];show b.length+1≤sizeLine;omega),?_⟩
     rw[M13.tx_add]
     refine⟨?_,rfl⟩
     have:97+((((t+r)%26:Nat)+1:Int)%26).toNat=97+(t+(r+1))%26:=by omega
     rw[this]
     rfl
   ·refine⟨_,rfl,.inl ⟨rfl,_,SqL.of e2⟩,_,rfl,l,_,_,rfl,rfl,e2,(by rw[length_map];omega),?_⟩
    refine⟨left,ts++[M13.turn b t r],_,_,_,_,rfl,lst_appS _ _,fun a o e=>?_,by rw[length_append,hlen];rfl,?_,fun z hz=>?_⟩
    ·rw[zg (fun z=>by rw[z,hl] at e;cases e)]
     exact s2 a o e
    ·refine List.nodup_append.mpr ⟨hnd,List.pairwise_singleton _ _,fun x hx y hy e=>?_⟩
     rw[List.mem_singleton.mp hy] at e
     exact hm (e ▸ hx)
    ·rcases List.mem_append.mp hz with w | w
     ·exact hgd z w
     ·rw[List.mem_singleton.mp w,M2.za8]
      have hll:(M13.turn b t r).length=b.length+1:=by unfold M13.turn;rw[M13.zdR,length_append,length_singleton]
      refine⟨by omega,fun x hx=>?_⟩
      have hx:x∈b++[97+(t+r)%26]:=by
       unfold M13.turn M13.tx at hx
       simpa using hx
      rcases List.mem_append.mp hx with w | w
      ·exact hb x w
      ·rw[List.mem_singleton.mp w]
       exact ziv hr26
  ·rintro σ H2 ⟨left,ts,v5,v6,v7,v8,rfl,e2,s2,hlen,hnd,hgd⟩
   exact⟨_,rfl,q l H2 ts s2 hl e2 hlen hnd hgd⟩
def zcy(K:Frag):Sp:=fun vs H Q _=>∃(c:Int)(a:Addr)(ns:List Int)(y:Int),vs=[.int c,.ref a,.int y]∧SqL K H a (ns.map V.int)∧ns≠[]∧ns.length≤1000∧∀(l:Addr)(H':Hp)(ms:List Int),Same H H'→H l=none→H' l=some (.lst (ms.map V.int))→ms.Perm ns→Q (.ref l) H'
theorem zim{f:Addr}{fd:FuncData}(F:Fun K "_law_card" "_law_card" zaF f fd)(T:Txt K mg)(C_law_mix:Can P w K mg base 1 "_law_mix" ["_law_cell","_law_place"] (zbh K)):FnOk P w K mg base CX0 2 f fd ["_law_cell","_law_couples_here","_law_style"] (zcy K):=by
 refine F.ok zU (fun vs H Q E h=>?_) (fun cdv A outer s H vs Q E hr h=>?_)
 ·obtain⟨c,a,ns,y,rfl,_⟩:=h
  rfl
 ·obtain⟨c,a,ns,y,rfl,hS,hne,hz,q⟩:=h
  refine⟨_,(ze (zy (i:=3) zU.nd rfl (Or.inl rfl) (zF zS (by rfl) T.b_list boot_list (za (pv 1) zc)))
   (ze (zB (zp zV (pv 2) zh (zq _)) (ze (zy (i:=4) zU.nd rfl (Or.inl rfl) (zv yG (pv 0) (zn zo (by rfl) T.b_len PySem.boot_len (za (pv 1) zc))))
   (ze (zy (i:=3) zU.nd rfl (Or.inl rfl) (zv zjd (zbf zcW (pv 3) (zby (pv 4)) zcN) (zbf zcW (pv 3) zcN (zby (pv 4)))))
   (ze (zB (zp zV (zv yG (zv ww (pv 0) (zn zo (by rfl) T.b_len PySem.boot_len (za (pv 1) zc))) zh) zh (zq _)) (zd (zy (i:=3) zU.nd rfl (Or.inl rfl) (pe_rev (pv 3) (pe_un zhl zh)))) zr)
   (zd (zi (pv 3)))))) zr)
   (ze (zy (i:=5) zU.nd rfl (Or.inl rfl) (pv 0))
   (ze (zB (zp zV (pv 2) zh (zq _)) (zd (zy (i:=5) zU.nd rfl (Or.inl rfl) (zm C_law_mix (hM hr) rfl (za (pv 0) (za (zn zo (by rfl) T.b_len PySem.boot_len (za (pv 1) zc)) zc))))) zr)
   (ze (zy (i:=6) zU.nd rfl (Or.inl rfl) (yT zc))
   (ze (zak PassesOwn.never rfl (wB rfl T.b_range (za (zn zo (by rfl) T.b_len PySem.boot_len (za (pv 1) zc)) zc)) (yk (i:=7) zU.nd rfl (Or.inl rfl))
     (ze (zy (i:=8) zU.nd rfl (Or.inl rfl) (zv yG (pv 5) (zn zo (by rfl) T.b_len PySem.boot_len (za (pv 3) zc))))
   (ze (zy (i:=5) zU.nd rfl (Or.inl rfl) (zv ww (pv 5) (zn zo (by rfl) T.b_len PySem.boot_len (za (pv 3) zc))))
   (ze (zY (za0 PySem.F.plainAttrs_list PySem.F.slot_list_append PySem.F.type_list_append wV (pv 6) (za (za0 PySem.F.plainAttrs_list PySem.F.slot_list_pop PySem.F.type_list_pop mt_popAt (pv 3) (za (pv 8) zc)) zc)))
   (zd (zB (zp zV (pv 2) zh (zq _)) (zd (zy (i:=5) zU.nd rfl (Or.inl rfl) (zm C_law_mix (hM hr) rfl (za (zv yg (pv 5) (pv 8)) (za (pv 7) zc))))) zr))))))
   (zd (zi (pv 6))))))))),?_⟩
  have hpos:0<ns.length:=List.length_pos_iff.mpr hne
  -- pool=list(couples)
  refine⟨_,rfl,a,_,rfl,.inl hS,fun p0 hp0=>?_⟩
  have s0:Same H (upd H p0 (.lst (ns.map V.int))):=Same.new hp0
  refine⟨_,rfl,rfl,_,rfl,wk (fun _=>?_) (fun _=>?_)⟩
  ·-- a turn,maybe turned round
   have ht:0≤c%(ns.map V.int).length:=Int.emod_nonneg _ (by rw[length_map];omega)
   refine⟨_,rfl,_,rfl,a,_,rfl,.inl (s0.seq hS),_,_,rfl,rfl,(by show(0:Int)<(ns.map V.int).length;rw[length_map];omega),?_⟩
   refine⟨_,rfl,_,rfl,_,rfl,p0,_,rfl,SqL.new,fun p1 hp1=>?_⟩
   rw[zgu ht]
   refine⟨_,rfl,_,rfl,_,rfl,p0,_,rfl,(Same.new hp1).seq SqL.new,fun p2 hp2=>?_⟩
   rw[cut_uptoI ht]
   have n21:p1≠p2:=zj zf hp2
   refine⟨p1,p2,_,_,rfl,rfl,by rw[zg n21];exact zf,zf,?_,fun p3 hp3=>?_⟩
   ·simp only[length_map,length_take,length_drop];have:=zx;omega
   rw[←map_append]
   have f1:H p1=none:=s0.free hp1
   have s1:=s0.newT (o:=.lst ((ns.drop (c%(ns.map V.int).length).toNat).map V.int)) hp1
   have s2:=s1.newT (o:=.lst ((ns.take (c%(ns.map V.int).length).toNat).map V.int)) hp2
   have s3:=s2.newT (o:=.lst ((ns.drop (c%(ns.map V.int).length).toNat++ns.take (c%(ns.map V.int).length).toNat).map V.int)) hp3
   have pm:(ns.drop (c%(ns.map V.int).length).toNat++ns.take (c%(ns.map V.int).length).toNat).Perm ns:=by
    have:=List.perm_append_comm (l₁:=ns.drop (c%(ns.map V.int).length).toNat) (l₂:=ns.take (c%(ns.map V.int).length).toNat)
    rwa [List.take_append_drop] at this
   refine⟨_,rfl,_,rfl,a,_,rfl,.inl (s3.seq hS),_,_,rfl,rfl,⟨by rw[length_map];omega,by rw[length_map];omega⟩,_,_,rfl,rfl,(by show(0:Int)<2;decide),rfl,_,rfl,wk (fun _=>?_) (fun _=>?_)⟩
   ·refine⟨_,rfl,_,rfl,rfl,p3,_,rfl,SqL.new,fun p4 hp4=>?_⟩
    rw[←List.map_reverse]
    exact⟨_,rfl,q p4 _ _ (s3.newT hp4) (s3.free hp4) zf ((List.reverse_perm _).trans pm)⟩
   ·exact⟨_,rfl,q p3 _ _ s3 (s2.free hp3) zf pm⟩
  ·-- dealt out of the pool
   refine⟨_,rfl,?_⟩
   refine⟨_,rfl,rfl,_,rfl,wk (fun _=>?_) (fun _=>?_)⟩
   all_goals
    first
     | refine⟨by decide,fun m0 hm0=>?_⟩
     | refine⟨_,rfl,_,rfl,a,_,rfl,.inl (s0.seq hS),_,_,rfl,?_⟩
       refine⟨by decide,fun m0 hm0=>?_⟩
    have s1:=s0.newT (o:=.lst []) hm0
    have fm:H m0=none:=s0.free hm0
    have npm:p0≠m0:=zj zf hm0
    refine⟨_,rfl,a,_,rfl,.inl (s1.seq hS),_,rfl,by omega,by rw[length_map];omega,?_⟩
    rw[length_map]
    refine yX (fun i σ H2=>∃(pool made:List Int)(left:Int)(v4 v7 v8:Option V),σ=[some (.int c),some (.ref a),some (.int y),some (.ref p0),v4,some (.int left),some (.ref m0),v7,v8]∧Same H H2∧H2 p0=some (.lst (pool.map V.int))∧H2 m0=some (.lst (made.map V.int))∧pool.length+i=ns.length∧(made++pool).Perm ns)
     ⟨ns,[],_,_,_,_,rfl,s1,by rw[zg npm];exact zf,zf,rfl,List.Perm.refl _⟩ ?_ ?_
    ·rintro i σ H2 hi ⟨pool,made,left,v4,v7,v8,rfl,s2,e1,e2,hlen,pm⟩
     have hi':i<ns.length:=by simpa using hi
     have hpl:0<pool.length:=by omega
     have hr0:0≤left%((pool.map V.int).length:Int):=Int.emod_nonneg _ (by rw[length_map];omega)
     have hr1:left%((pool.map V.int).length:Int)<pool.length:=by
      have:=Int.emod_lt_of_pos left (b:=((pool.map V.int).length:Int)) (by rw[length_map];omega)
      rwa [length_map] at this ⊢
     have hsl:(left%((pool.map V.int).length:Int)).toNat<pool.length:=by omega
     have hix:seqIndex? (left%((pool.map V.int).length:Int)) (pool.map V.int).length=some (left%((pool.map V.int).length:Int)).toNat:=seqIx_ok hr0 (by rw[length_map] at hr1 ⊢;exact hr1)
     refine⟨_,rfl,_,rfl,p0,_,rfl,.inl (SqL.of e1),_,_,rfl,rfl,(by show(0:Int)<(pool.map V.int).length;rw[length_map];omega),?_⟩
     refine⟨_,rfl,_,rfl,p0,_,rfl,.inl (SqL.of e1),_,_,rfl,rfl,⟨by rw[length_map];omega,by rw[length_map];omega⟩,?_⟩
     refine⟨_,rfl,.inl ⟨rfl,_,SqL.of e2⟩,_,rfl,.inl ⟨rfl,_,SqL.of e1⟩,_,rfl,p0,_,_,_,_,rfl,rfl,e1,by omega,by omega,hix,zcd hsl,?_⟩
     generalize (left%((pool.map V.int).length:Int)).toNat=j at hsl
     rw[zgv]
     have s3:Same H (upd H2 p0 (.lst ((pool.eraseIdx j).map V.int))):=s2.put hp0
     refine⟨m0,_,_,rfl,rfl,by rw[zg (Ne.symm npm)];exact e2,by rw[length_map];have:=pm.length_eq;rw[length_append] at this;have:=zx;omega,?_⟩
     have s4:Same H (upd (upd H2 p0 (.lst ((pool.eraseIdx j).map V.int))) m0 (.lst ((made++[pool.getD j 0]).map V.int))):=s3.put fm
     have pm2:(made++[pool.getD j 0]++pool.eraseIdx j).Perm ns:=by
      refine List.Perm.trans ?_ pm
      rw[append_assoc]
      refine List.Perm.append_left _ ?_
      have e:pool.getD j 0=pool[j]:=by rw[getD_eq_getElem?_getD,getElem?_eq_getElem hsl];rfl
      rw[e]
      exact zfk pool j hsl
     have hl2:(pool.eraseIdx j).length+(i+1)=ns.length:=by rw[List.length_eraseIdx_of_lt hsl];omega
     have e1':upd (upd H2 p0 (.lst ((pool.eraseIdx j).map V.int))) m0 (.lst ((made++[pool.getD j 0]).map V.int)) p0=some (.lst ((pool.eraseIdx j).map V.int)):=by rw[zg npm];exact zf
     have eap:made.map V.int++[V.int (pool.getD j 0)]=(made++[pool.getD j 0]).map V.int:=by rw[map_append];rfl
     rw[eap]
     refine⟨_,rfl,rfl,_,rfl,wk (fun _=>?_) (fun _=>?_)⟩
     ·refine⟨_,rfl,_,rfl,_,_,rfl,rfl,_,rfl,_,_,rfl,?_⟩
      exact⟨_,_,_,_,_,_,rfl,s4,e1',zf,hl2,pm2⟩
     ·exact⟨_,_,_,_,_,_,rfl,s4,e1',zf,hl2,pm2⟩
    ·rintro σ H2 ⟨pool,made,left,v4,v7,v8,rfl,s2,e1,e2,hlen,pm⟩
     have hl0:(ns.length:Int).toNat=ns.length:=Int.toNat_natCast _
     have hp:pool=[]:=List.eq_nil_of_length_eq_zero (by omega)
     subst hp
     rw[append_nil] at pm
     exact⟨_,rfl,q m0 _ _ s2 fm e2 pm⟩
def wv(K:Frag):Sp:=fun vs H Q _=>∃(p:Addr)(F:Addr→Prop)(S:Sh),vs=[.ref p]∧SheetAt K H p F S∧∀(l:Addr)(H':Hp)(ks:List Addr),Same H H'→H l=none→H' l=some (.lst (ks.map V.ref))→All2 (fun k c=>H k=none∧H' k=some (.lst (c.map V.int))) ks S.cardsIn→Q (.ref l) H'
theorem zeX{f:Addr}{fd:FuncData}(F:Fun K "cards" "Sheet.cards" yF f fd)(T:Txt K mg)(C_Sheet_handed:CanM P w K mg base 1 (zE K "Sheet") "handed" ["self"] (yu K))(C_Sheet_card_of:CanMX P w K mg base 2 (zE K "Sheet") "card_of" ["self","judge"] (wF K)):FnOk P w K mg base CX0 3 f fd ["self"] (wv K):=by
 refine F.ok zfs (fun vs H Q E h=>?_) (fun cdv A outer s H vs Q E hr h=>?_)
 ·obtain⟨p,F,S,rfl,_⟩:=h
  rfl
 ·obtain⟨p,F,S,rfl,hSh,q⟩:=h
  refine⟨_,(zd (zi (zT (show CompScope (zb yF) ["self"] "judge" ["self"] [0] _ from⟨rfl,by decide +kernel,by decide +kernel,rfl,by decide +kernel,rfl,by decide +kernel,by decide +kernel⟩) rfl (zJ (yw C_Sheet_handed T.cl_Sheet (hM hr) (pv 0))) (fun _ _ _ _ _=>yM) (fun _ _ _ _ _=>(zaM C_Sheet_card_of T.cl_Sheet fl_no (hM hr) (pv 1) (za (pv 0) zc)))))),?_⟩
  have hln:=zx
  have h15:=hSh.ok.p15
  have hip:∃dx fs,H p=some (.ins (zE K "Sheet") dx fs)∧fs.lookup ("handed":Str)=none∧fs.lookup ("card_of":Str)=none:=by
   obtain⟨dx,a1,a2,a3,d,kvs,h⟩:=hSh
   exact⟨dx,_,h.ip,rfl,rfl⟩
  obtain⟨dx,fs,hip,fs1,fs2⟩:=hip
  refine⟨_,rfl,p,dx,_,rfl,hip,fs1,p,F,S,rfl,hSh.shape,h15,fun a H1 s1 f1 e1=>?_⟩
  have hl2:S.handed.length≤15:=le_trans (length_filter_le _ _) h15
  refine⟨a,rfl,⟨_,SqL.of e1⟩,?_⟩
  refine zO (xs:=S.handed.map V.str) (fun i ys H2=>∃ks:List Addr,ys=ks.map V.ref∧Same H1 H2∧All2 (fun k c=>H k=none∧H2 k=some (.lst (c.map V.int))) ks ((S.handed.take i).map fun j=>(S.card j).getD [])) ⟨[],rfl,Same.refl _,.nil⟩ ?_ (by rw[length_map];omega) ?_ ?_
  ·rintro i ys H2 hi ⟨ks,rfl,s2,r2⟩
   refine⟨s2.seq (SqL.of e1),?_⟩
   have:=r2.length
   rw[length_map,length_take] at this
   rw[length_map]
   omega
  ·rintro i x ys H2 hx ⟨ks,rfl,s2,r2⟩
   obtain⟨hi,rfl⟩:=zdl hx
   have hm:=List.mem_filter.mp (show S.handed.getD i "" ∈ S.panel.filter fun j=>(S.card j).isSome from zdH hi)
   have s12:=s1.trans s2
   cases e:S.card (S.handed.getD i "")with
   | none=>rw[e] at hm;exact absurd hm.2 Bool.false_ne_true
   | some c =>
     refine⟨_,rfl,p,dx,_,rfl,s12 _ _ hip,fs2,_,rfl,p,F,S,_,rfl,hSh.same s12,fun hj=>absurd hm.1 hj,(fun _ z=>by rw[e] at z;cases z),fun c' e' l H3 s3 f3 e3=>?_⟩
     rw[e] at e'
     cases e'
     refine⟨ks++[l],by rw[map_append];rfl,s2.trans s3,?_⟩
     rw[zaC hi,map_append]
     refine(r2.imp fun _ _ z=>⟨z.1,s3 _ _ z.2⟩).snoc ⟨s12.free f3,?_⟩
     dsimp only
     rw[e]
     exact e3
  ·rintro ys H2 ⟨ks,rfl,s2,r2⟩ l hl
   rw[length_map,take_length] at r2
   exact q l _ ks ((s1.trans s2).newT hl) ((s1.trans s2).free hl) zf (r2.imp fun _ _ z=>⟨z.1,Same.new hl _ _ z.2⟩)
def zaw(K:Frag):Sp:=fun vs H Q _=>∃(p:Addr)(F:Addr→Prop)(S:Sh)(d:Int)(j:Str)(c:Int)(a:Addr)(ns:List Int),vs=[.ref p,.int d,.str j,.int c,.ref a]∧SheetAt K H p F S∧SqL K H a (ns.map V.int)∧ns.length<64∧(d=0∨d=1∨d=2)∧(d=0→j∈S.panel∧S.taken<200) ∧
 (∀x,S.refD d j c ns=some x→∀H',Same H H'→Q (.str (M6.zfR x)) H')∧(S.refD d j c ns=none→∀H' F',SheetAt K H' p F' (S.doD d j c ns)→Deed F H F' H'→Q (.str (M6.okW d)) H')
theorem zd8{f:Addr}{fd:FuncData}(F:Fun K "_law_by_method" "_law_by_method" yp f fd)(T:Txt K mg)(C_Sheet_hand_in:CanMX P w K mg base 2 (zE K "Sheet") "hand_in" ["self","judge","card"] (wD K))(C_Sheet_strike:CanMX P w K mg base 2 (zE K "Sheet") "strike" ["self","couple"] (wQ K))(C_Sheet_seal:CanMX P w K mg base 2 (zE K "Sheet") "seal" ["self"] (zaH K)):FnOk P w K mg base CX0 3 f fd ["_law_sheet","_law_deed_here","_law_judge","_law_couple","_law_card_here"] (zaw K):=by
 obtain⟨c_PanelError,n_PanelError,m_PanelError,x_PanelError⟩:=T.x_PanelError
 obtain⟨c_SheetSealed,n_SheetSealed,m_SheetSealed,x_SheetSealed⟩:=T.x_SheetSealed
 obtain⟨c_BadCard,n_BadCard,m_BadCard,x_BadCard⟩:=T.x_BadCard
 obtain⟨c_UnknownCouple,n_UnknownCouple,m_UnknownCouple,x_UnknownCouple⟩:=T.x_UnknownCouple
 obtain⟨c_LastCouple,n_LastCouple,m_LastCouple,x_LastCouple⟩:=T.x_LastCouple
 refine F.ok yL (fun vs H Q E h=>?_) (fun cdv A outer s H vs Q E hr h=>?_)
 ·obtain⟨p,F,S,d,j,c,a,ns,rfl,_⟩:=h
  rfl
 ·obtain⟨p,F,S,d,j,c,a,ns,rfl,hSh,hA,hz,hd,hj,qE,q⟩:=h
  refine⟨_,(ze (zy (i:=5) yL.nd rfl (Or.inl rfl) (zI zz (pe_lstS (StrEs.cons (StrEs.cons (StrEs.cons StrEs.nil)))) (pv 1) (fun _ _=>rfl)))
   (ze (ps_try rfl rfl (fun _ _ _ fl=>(zd (zB (zp zV (pv 1) zh (zq _)) (zd (zY (zaM C_Sheet_hand_in T.cl_Sheet fl (hM hr) (pv 0) (za (pv 2) (za (zF (zf2 (K:=K) rfl) (by rfl) T.b_list boot_list (za (pv 4) zc)) zc))))) (zd (zB (zp zV (pv 1) zh (zq _)) (zd (zY (zaM C_Sheet_strike T.cl_Sheet fl (hM hr) (pv 0) (za (pv 3) zc)))) (zd (zY (zbS C_Sheet_seal T.cl_Sheet fl (hM hr) (pv 0))))))))) (ph_as (i:=6) rfl m_PanelError x_PanelError yL.nd rfl rfl (fun _=>(ze (zy (i:=5) yL.nd rfl (Or.inl rfl) (zv yz (zv yz zw (zv zcf zw (zF zcU (by rfl) T.b_int boot_int (za (zn (zag (K:=K) rfl) (by rfl) T.b_isinstance boot_isinstance (za (pv 6) (za (zhC rfl m_SheetSealed) zc))) zc)))) (zv zcf zw (zF zcU (by rfl) T.b_int boot_int (za (zn (zag (K:=K) rfl) (by rfl) T.b_isinstance boot_isinstance (za (pv 6) (za (zhC rfl m_BadCard) zc))) zc)))))
   (zd (zy (i:=5) yL.nd rfl (Or.inl rfl) (zv yz (zv yz (pv 5) (zv zcf zw (zF zcU (by rfl) T.b_int boot_int (za (zn (zag (K:=K) rfl) (by rfl) T.b_isinstance boot_isinstance (za (pv 6) (za (zhC rfl m_UnknownCouple) zc))) zc)))) (zv zcf zw (zF zcU (by rfl) T.b_int boot_int (za (zn (zag (K:=K) rfl) (by rfl) T.b_isinstance boot_isinstance (za (pv 6) (za (zhC rfl m_LastCouple) zc))) zc)))))))) ziq))
   (zd (zi (pv 5))))),?_⟩
  have hat:atI [V.str (Str.ofString "taken"),V.str (Str.ofString "struck"),V.str (Str.ofString "sealed")] d=some (.str (M6.okW d)):=by
   rcases hd with rfl | rfl | rfl <;> rfl
  refine⟨(by show 3≤sizeLine;decide),fun l1 hl1=>?_⟩
  have s1:=Same.new (o:=.lst (map V.str [Str.ofString "taken",Str.ofString "struck",Str.ofString "sealed"])) hl1
  refine⟨_,rfl,l1,_,_,_,rfl,rfl,SqL.new,hat,?_⟩
  generalize hH1:upd H l1 _=H1 at s1 ⊢
  refine⟨fun σ1 cls H2=>σ1=[some (.ref p),some (.int d),some (.str j),some (.int c),some (.ref a),some (.str (M6.okW d)),none]∧Same H H2∧∃x C,S.refD d j c ns=some x∧ClsN K x C∧cls=.ref C,?_,?_⟩
  ·have h1:=hSh.same s1
   obtain⟨dx,b1,b2,b3,dd,hip⟩:=h1.ins
   have D1:∀{F':Addr→Prop}{H2 H':Hp},Same H H2→Deed F H2 F' H'→Deed F H F' H':=fun s d b o e n=>d b o (s _ _ e) n
   rcases hd with rfl | rfl | rfl
   ·refine⟨_,rfl,rfl,_,rfl,zbE (by decide) ?_⟩
    refine⟨_,rfl,p,dx,_,rfl,hip,rfl,_,rfl,_,rfl,a,_,rfl,.inl (s1.seq hA),fun l2 hl2=>?_⟩
    have s2:=s1.newT (o:=.lst (ns.map V.int)) hl2
    exact⟨p,F,S,j,l2,ns,rfl,hSh.same s2,SqL.new,hz,fun x hx C H' hC s'=>⟨rfl,s2.trans s',x,C,hx,hC,rfl⟩,fun hn H' F' h' d'=>⟨_,rfl,q hn H' F' h' (D1 s2 d')⟩⟩
   ·refine⟨_,rfl,rfl,_,rfl,zH (by decide) ?_⟩
    refine⟨_,rfl,rfl,_,rfl,zbE (by decide) ?_⟩
    exact⟨_,rfl,p,dx,_,rfl,hip,rfl,_,rfl,p,F,S,c,rfl,h1,fun x hx C hC=>⟨rfl,s1,x,C,hx,hC,rfl⟩,fun hn H' F' h' d'=>⟨_,rfl,q hn H' F' h' (D1 s1 d')⟩⟩
   ·refine⟨_,rfl,rfl,_,rfl,zH (by decide) ?_⟩
    refine⟨_,rfl,rfl,_,rfl,zH (by decide) ?_⟩
    exact⟨_,rfl,p,dx,_,rfl,hip,rfl,p,F,S,rfl,h1,fun hs C hC=>⟨rfl,s1,_,C,(by show(if S.shut=true then some ("SheetSealed":Str)else none)=_;rw[if_pos hs]),hC,rfl⟩,fun hs H' h' d'=>⟨_,rfl,q (by show(if S.shut=true then some ("SheetSealed":Str)else none)=none;rw[if_neg (by rw[hs];decide)]) H' F h' (D1 s1 d')⟩⟩
  ·rintro σ1 cls H2 ⟨rfl,s2,x,C,hx,hC,rfl⟩
   have qx:=qE x hx
   have hx:=Sh.refD_cases hx hj
   clear qE q
   rcases hx with rfl | rfl | rfl | rfl
   ·cases ClsN.inj hC n_SheetSealed
    have i0:=T.i_SheetSealed _ n_SheetSealed
    refine⟨c_SheetSealed,rfl,x_SheetSealed,zbE (T.s_SheetSealed_PanelError _ _ n_SheetSealed n_PanelError) fun y hy=>?_⟩
    have s3:=s2.newT (o:=zco y (.ref c_SheetSealed)) hy
    have e3:upd H2 y (zco y (.ref c_SheetSealed)) y=some (zco y (.ref c_SheetSealed)):=zf
    generalize hH3:upd H2 y _=H3 at s3 e3 ⊢
    refine⟨_,rfl,y,c_SheetSealed,_,_,_,rfl,rfl,e3,i0,T.k_SheetSealed_SheetSealed _ _ n_SheetSealed n_SheetSealed,.inr ⟨_,rfl,_,_,rfl,rfl,zhx _,_,_,rfl,rfl,(by decide),_,rfl,y,c_SheetSealed,_,_,_,rfl,rfl,e3,i0,T.k_SheetSealed_BadCard _ _ n_SheetSealed n_BadCard,.inr ⟨_,rfl,_,_,rfl,rfl,zaS _,_,_,rfl,rfl,(by decide),_,rfl,_,rfl,y,c_SheetSealed,_,_,_,rfl,rfl,e3,i0,T.k_SheetSealed_UnknownCouple _ _ n_SheetSealed n_UnknownCouple,.inr ⟨_,rfl,_,_,rfl,rfl,zaS _,_,_,rfl,rfl,(by decide),_,rfl,y,c_SheetSealed,_,_,_,rfl,rfl,e3,i0,T.k_SheetSealed_LastCouple _ _ n_SheetSealed n_LastCouple,.inr ⟨_,rfl,_,_,rfl,rfl,zaS _,_,_,rfl,rfl,(by decide),_,rfl,?_⟩⟩⟩⟩⟩
    exact qx _ s3
   ·cases ClsN.inj hC n_BadCard
    have i0:=T.i_BadCard _ n_BadCard
    refine⟨c_BadCard,rfl,x_BadCard,zbE (T.s_BadCard_PanelError _ _ n_BadCard n_PanelError) fun y hy=>?_⟩
    have s3:=s2.newT (o:=zco y (.ref c_BadCard)) hy
    have e3:upd H2 y (zco y (.ref c_BadCard)) y=some (zco y (.ref c_BadCard)):=zf
    generalize hH3:upd H2 y _=H3 at s3 e3 ⊢
    refine⟨_,rfl,y,c_BadCard,_,_,_,rfl,rfl,e3,i0,T.k_BadCard_SheetSealed _ _ n_BadCard n_SheetSealed,.inr ⟨_,rfl,_,_,rfl,rfl,zaS _,_,_,rfl,rfl,(by decide),_,rfl,y,c_BadCard,_,_,_,rfl,rfl,e3,i0,T.k_BadCard_BadCard _ _ n_BadCard n_BadCard,.inr ⟨_,rfl,_,_,rfl,rfl,zhx _,_,_,rfl,rfl,(by decide),_,rfl,_,rfl,y,c_BadCard,_,_,_,rfl,rfl,e3,i0,T.k_BadCard_UnknownCouple _ _ n_BadCard n_UnknownCouple,.inr ⟨_,rfl,_,_,rfl,rfl,zaS _,_,_,rfl,rfl,(by decide),_,rfl,y,c_BadCard,_,_,_,rfl,rfl,e3,i0,T.k_BadCard_LastCouple _ _ n_BadCard n_LastCouple,.inr ⟨_,rfl,_,_,rfl,rfl,zaS _,_,_,rfl,rfl,(by decide),_,rfl,?_⟩⟩⟩⟩⟩
    exact qx _ s3
   ·cases ClsN.inj hC n_UnknownCouple
    have i0:=T.i_UnknownCouple _ n_UnknownCouple
    refine⟨c_UnknownCouple,rfl,x_UnknownCouple,zbE (T.s_UnknownCouple_PanelError _ _ n_UnknownCouple n_PanelError) fun y hy=>?_⟩
    have s3:=s2.newT (o:=zco y (.ref c_UnknownCouple)) hy
    have e3:upd H2 y (zco y (.ref c_UnknownCouple)) y=some (zco y (.ref c_UnknownCouple)):=zf
    generalize hH3:upd H2 y _=H3 at s3 e3 ⊢
    refine⟨_,rfl,y,c_UnknownCouple,_,_,_,rfl,rfl,e3,i0,T.k_UnknownCouple_SheetSealed _ _ n_UnknownCouple n_SheetSealed,.inr ⟨_,rfl,_,_,rfl,rfl,zaS _,_,_,rfl,rfl,(by decide),_,rfl,y,c_UnknownCouple,_,_,_,rfl,rfl,e3,i0,T.k_UnknownCouple_BadCard _ _ n_UnknownCouple n_BadCard,.inr ⟨_,rfl,_,_,rfl,rfl,zaS _,_,_,rfl,rfl,(by decide),_,rfl,_,rfl,y,c_UnknownCouple,_,_,_,rfl,rfl,e3,i0,T.k_UnknownCouple_UnknownCouple _ _ n_UnknownCouple n_UnknownCouple,.inr ⟨_,rfl,_,_,rfl,rfl,zhx _,_,_,rfl,rfl,(by decide),_,rfl,y,c_UnknownCouple,_,_,_,rfl,rfl,e3,i0,T.k_UnknownCouple_LastCouple _ _ n_UnknownCouple n_LastCouple,.inr ⟨_,rfl,_,_,rfl,rfl,zaS _,_,_,rfl,rfl,(by decide),_,rfl,?_⟩⟩⟩⟩⟩
    exact qx _ s3
   ·cases ClsN.inj hC n_LastCouple
    have i0:=T.i_LastCouple _ n_LastCouple
    refine⟨c_LastCouple,rfl,x_LastCouple,zbE (T.s_LastCouple_PanelError _ _ n_LastCouple n_PanelError) fun y hy=>?_⟩
    have s3:=s2.newT (o:=zco y (.ref c_LastCouple)) hy
    have e3:upd H2 y (zco y (.ref c_LastCouple)) y=some (zco y (.ref c_LastCouple)):=zf
    generalize hH3:upd H2 y _=H3 at s3 e3 ⊢
    refine⟨_,rfl,y,c_LastCouple,_,_,_,rfl,rfl,e3,i0,T.k_LastCouple_SheetSealed _ _ n_LastCouple n_SheetSealed,.inr ⟨_,rfl,_,_,rfl,rfl,zaS _,_,_,rfl,rfl,(by decide),_,rfl,y,c_LastCouple,_,_,_,rfl,rfl,e3,i0,T.k_LastCouple_BadCard _ _ n_LastCouple n_BadCard,.inr ⟨_,rfl,_,_,rfl,rfl,zaS _,_,_,rfl,rfl,(by decide),_,rfl,_,rfl,y,c_LastCouple,_,_,_,rfl,rfl,e3,i0,T.k_LastCouple_UnknownCouple _ _ n_LastCouple n_UnknownCouple,.inr ⟨_,rfl,_,_,rfl,rfl,zaS _,_,_,rfl,rfl,(by decide),_,rfl,y,c_LastCouple,_,_,_,rfl,rfl,e3,i0,T.k_LastCouple_LastCouple _ _ n_LastCouple n_LastCouple,.inr ⟨_,rfl,_,_,rfl,rfl,zhx _,_,_,rfl,rfl,(by decide),_,rfl,?_⟩⟩⟩⟩⟩
    exact qx _ s3
def unlV:Option Int→V
 | none=>.non
 | some n=>.int n
def zbZ(K:Frag):Sp:=fun vs H Q _=>∃(a b:Addr)(ms us:List Int)(f:Int),vs=[.ref a,.ref b]∧SqL K H a (ms.map V.int)∧SqL K H b (us.map V.int)∧1≤ms.length∧ms.length≤60∧us.length≤60∧(∀x∈ms,1≤x∧x≤24)∧(∀x∈us,1≤x∧x≤24)∧M3.isF ms f∧M3.isF us f∧∀(r:Option Int)(H':Hp),Same H H'→M6.zia ms us f r→Q (unlV r) H'
theorem zg9{f:Addr}{fd:FuncData}(F:Fun K "unlike_at" "unlike_at" zaa f fd)(T:Txt K mg)(C_granted:Can P w K mg base 2 "granted" ["marks","number"] (zb5 K))(C_granted_sum:Can P w K mg base 2 "granted_sum" ["marks","number"] (zaj K))(C_first_number:Can P w K mg base 2 "first_number" ["marks"] (wP K)):FnOk P w K mg base CX0 3 f fd ["one","other"] (zbZ K):=by
 refine F.ok zdK (fun vs H Q E h=>?_) (fun cdv A outer s H vs Q E hr h=>?_)
 ·obtain⟨a,b,ms,us,f,rfl,_⟩:=h
  rfl
 ·obtain⟨a,b,ms,us,f,rfl,hA,hB,h1,hz,hz2,hm,hu,fF,fG,q⟩:=h
  refine⟨_,(ze (zak PassesOwn.never rfl (zdU rfl T.b_range (za (zm C_first_number (hM hr) rfl (za (pv 0) zc)) (za (zv yg (zn (zf3 rfl) (by rfl) T.b_max boot_max (za (zv op_catS (pv 0) (pv 1)) zc)) zh) zc))) (yk (i:=2) zdK.nd rfl (Or.inl rfl))
   (ze (zbe (zB (zp zaZ (zm C_granted (hM hr) rfl (za (pv 0) (za (pv 2) zc))) (zm C_granted (hM hr) rfl (za (pv 1) (za (pv 2) zc))) (zq _)) (zd (zi (pv 2))) zr))
   (zd (zbe (zB (zp zaZ (zm C_granted_sum (hM hr) rfl (za (pv 0) (za (pv 2) zc))) (zm C_granted_sum (hM hr) rfl (za (pv 1) (za (pv 2) zc))) (zq _)) (zd (zi (pv 2))) zr)))))
   (zd (zi pe_non))),?_⟩
  have hln:=zx
  have hne:ms≠[]:=by intro z;rw[z] at h1;simp at h1
  refine⟨_,rfl,a,ms,rfl,hA,hne,hz,hm,fun H1 f' s1 hf'=>?_⟩
  have ef:=M3.zc7 hf' fF
  subst ef
  refine⟨_,rfl,_,rfl,a,b,_,_,rfl,rfl,s1.seq hA,s1.seq hB,(by rw[length_map,length_map];omega),fun l hl=>?_⟩
  rw[←map_append]
  refine⟨l,ms++us,rfl,SqL.new,(by rw[length_append];omega),fun M hM hMx=>?_⟩
  have hMr:1≤M∧M≤24:=by
   rcases List.mem_append.mp hM with z | z
   ·exact hm M z
   ·exact hu M z
  have hma:∀x∈ms,x≤M:=fun x hx=>hMx x (mem_append_left _ hx)
  have hub:∀x∈us,x≤M:=fun x hx=>hMx x (mem_append_right _ hx)
  have hfr:=M3.zdS hf' 1 M fun x hx=>⟨(hm x hx).1,hma x hx⟩
  refine⟨_,_,rfl,rfl,_,_,rfl,⟨by omega,by omega,by omega,by omega⟩,?_⟩
  generalize hH2:upd H1 l _=H2
  have s2:Same H H2:=by rw[←hH2];exact s1.newT hl
  refine yX (fun i σ H3=>∃v,σ=[some (.ref a),some (.ref b),v]∧Same H H3∧∀j,f'≤j→j<f'+i→M3.cnt ms j=M3.cnt us j∧M3.sm ms j=M3.sm us j) ⟨_,rfl,s2,fun j j1 j2=>by omega⟩ ?_ ?_
  ·rintro i σ H3 hi ⟨v,rfl,s3,hj⟩
   refine⟨fun σ' H'=>σ'=[some (.ref a),some (.ref b),some (.int (f'+i))]∧Same H H'∧M3.cnt ms (f'+i)=M3.cnt us (f'+i),?_,?_⟩
   ·refine⟨_,rfl,_,rfl,a,ms,_,rfl,s3.seq hA,by omega,fun H4 s4=>?_⟩
    refine⟨_,rfl,_,rfl,b,us,_,rfl,(s3.trans s4).seq hB,by omega,fun H5 s5=>?_⟩
    refine⟨rfl,_,rfl,wJ (fun hne=>?_) (fun he=>?_)⟩
    ·refine⟨_,rfl,q (some (f'+i)) _ ((s3.trans s4).trans s5) ⟨by omega,by omega,hj,fun z=>hne (by rw[z.1])⟩⟩
    ·refine⟨rfl,(s3.trans s4).trans s5,?_⟩
     injection he with he
     omega
   ·rintro σ' H' ⟨rfl,s4,hcnt⟩
    refine⟨fun σ' H'=>σ'=[some (.ref a),some (.ref b),some (.int (f'+i))]∧Same H H'∧M3.sm ms (f'+i)=M3.sm us (f'+i),?_,?_⟩
    ·refine⟨_,rfl,_,rfl,a,ms,_,rfl,s4.seq hA,by omega,fun H5 s5=>?_⟩
     refine⟨_,rfl,_,rfl,b,us,_,rfl,(s4.trans s5).seq hB,by omega,fun H6 s6=>?_⟩
     refine⟨rfl,_,rfl,wJ (fun hne=>?_) (fun he=>?_)⟩
     ·refine⟨_,rfl,q (some (f'+i)) _ ((s4.trans s5).trans s6) ⟨by omega,by omega,hj,fun z=>hne (by rw[z.2])⟩⟩
     ·refine⟨rfl,(s4.trans s5).trans s6,?_⟩
      injection he with he
    ·rintro σ' H'' ⟨rfl,s5,hsm⟩
     refine⟨_,rfl,s5,fun j j1 j2=>?_⟩
     by_cases c:j<f'+i
     ·exact hj j j1 c
     ·have:j=f'+i:=by omega
      subst this
      exact⟨hcnt,hsm⟩
  ·rintro σ H3 ⟨v,rfl,s3,hj⟩
   exact q none _ s3 (M6.ziQ hma hub hfr.2 fun j j1 j2=>hj j j1 (by omega))
def zbi(K:Frag):Sp:=fun vs H Q _=>∃(n:Int),vs=[.str (M20.zbY n)]∧(1≤n∧n≤999)∧∀H',Same H H'→Q (.int n) H'
theorem zeU{f:Addr}{fd:FuncData}(F:Fun K "read_couple" "read_couple" yZ f fd)(T:Txt K mg)(C_couple_word:Can P w K mg base 2 "couple_word" ["word"] (zbp K)):FnOk P w K mg base CX0 3 f fd ["word"] (zbi K):=by
 refine F.ok zfI (fun vs H Q E h=>?_) (fun cdv A outer s H vs Q E hr h=>?_)
 ·obtain⟨n,rfl,_⟩:=h
  rfl
 ·obtain⟨n,rfl,hn,q⟩:=h
  refine⟨_,(ze (zB (yU (ym (zm C_couple_word (hM hr) rfl (za (pv 0) zc)))) (zd yx) zr)
   (zd (zi (zF zfZ (by rfl) T.b_int boot_int (za (pv 0) zc))))),?_⟩
  refine⟨_,rfl,_,rfl,M20.zfj hn,fun H1 s1=>⟨_,rfl,zao ?_⟩⟩
  exact⟨_,rfl,_,n,rfl,M20.ziP hn,by have:=(M20.zfj hn).len;omega,q _ s1⟩
def zbj(K:Frag):Sp:=fun vs H Q _=>∃(a:Addr)(ts:List Str),vs=[.ref a]∧SqL K H a (ts.map V.str)∧ts.length<4000∧(∀z∈ts,z.length≤1000)∧∀H',Same H H'→Q (.bl (M2.zdJ ts)) H'
theorem zfq{f:Addr}{fd:FuncData}(F:Fun K "good_judges" "good_judges" yC f fd)(T:Txt K mg)(C_good_name:Can P w K mg base 2 "good_name" ["judge"] (zcj K))(C_good_length:Can P w K mg base 1 "good_length" ["things","most"] (wm K))(C_all_unlike:Can P w K mg base 1 "all_unlike" ["things"] (zaG K)):FnOk P w K mg base CX0 3 f fd ["judges"] (zbj K):=by
 refine F.ok zft (fun vs H Q E h=>?_) (fun cdv A outer s H vs Q E hr h=>?_)
 ·obtain⟨a,ts,rfl,_⟩:=h
  rfl
 ·obtain⟨a,ts,rfl,hS,hz,ht,q⟩:=h
  refine⟨_,(zd (zi (zas (zm C_good_length (hM hr) rfl (za (pv 0) (za (zbV T.c_MOST_JUDGES rfl) zc))) (zas (zm C_all_unlike (hM hr) rfl (za (pv 0) zc)) (zca (zn (zdi rfl) (by rfl) T.b_all boot_all (za (zT (show CompScope (zb yC) ["judges"] "judge" [] [] _ from⟨rfl,by decide +kernel,by decide +kernel,rfl,by decide +kernel,rfl,by decide +kernel,by decide +kernel⟩) rfl (zJ (pv 0)) (fun _ _ _ _ _=>yM) (fun _ _ _ _ _=>(zm C_good_name (hM hr) rfl (za (pv 0) zc)))) zc))))))),?_⟩
  refine⟨_,rfl,_,_,_,rfl,.inl ⟨_,hS,rfl⟩,_,rfl,?_⟩
  rw[length_map]
  unfold M2.zdJ at q
  refine zge (fun h1=>?_) (fun h1=>?_)
  ·rw[h1,Bool.true_and] at q
   refine⟨_,rfl,a,rfl,.inr ⟨ts,hS,hz,_,rfl,wk (fun h2=>?_) (fun h2=>?_)⟩⟩
   ·rw[decide_eq_true h2,Bool.true_and] at q
    refine⟨_,rfl,a,rfl,⟨_,hS⟩,?_⟩
    refine zO (xs:=ts.map V.str) (fun i ys H2=>Same H H2∧ys=((ts.take i).map M2.zcA).map V.bl) ⟨Same.refl _,rfl⟩ ?_ (by rw[length_map];have:=zx;omega) ?_ ?_
    ·rintro i ys H2 hi ⟨s2,rfl⟩
     exact⟨s2.seq hS,by simp only[length_map,length_take];omega⟩
    ·rintro i x ys H2 hx ⟨s2,rfl⟩
     obtain⟨hi,rfl⟩:=zdl hx
     refine⟨_,rfl,_,rfl,ht _ (zdH hi),fun H3 s3=>⟨s2.trans s3,?_⟩⟩
     rw[zaC hi,map_append,map_append]
     rfl
    ·rintro ys H2 ⟨s2,rfl⟩ l hl
     rw[length_map,take_length]
     exact⟨l,_,rfl,SqL.new,q _ (s2.newT hl)⟩
   ·rw[decide_eq_false h2,Bool.false_and] at q
    exact q _ (Same.refl _)
  ·rw[h1,Bool.false_and] at q
   exact q _ (Same.refl _)
def zb1(K:Frag):Sp:=fun vs H Q _=>∃(a b:Addr)(cs:List (List Int)),vs=[.ref a,.ref b]∧Refs K (IL K) H a cs∧Refs K (IL K) H b cs∧cs.length≤1000∧(∀d∈cs,d.length≤1000)∧Q (.bl true) H
theorem zhq{f:Addr}{fd:FuncData}(F:Fun K "_law_lists" "_law_lists" zab f fd)(T:Txt K mg)(C_law_same:Can P w K mg base 2 "_law_same" ["_law_found","_law_due_here"] (zaO K)):FnOk P w K mg base CX0 3 f fd ["_law_found","_law_due_here"] (zb1 K):=by
 refine F.ok zdz (fun vs H Q E h=>?_) (fun cdv A outer s H vs Q E hr h=>?_)
 ·obtain⟨a,b,cs,rfl,_⟩:=h
  rfl
 ·obtain⟨a,b,cs,rfl,⟨ls,hA,rA⟩,⟨ks,hB,rB⟩,hz,hd,q⟩:=h
  refine⟨_,(ze (zB (PW.pt (zfy (yU (ym (zn zbL (by rfl) T.b_isinstance boot_isinstance (za (pv 0) (za (zbB (v:=V.ty "list") rfl T.b_list boot_list rfl) zc))))) (zde (zp zaZ (zn zo (by rfl) T.b_len PySem.boot_len (za (pv 0) zc)) (zn zo (by rfl) T.b_len PySem.boot_len (za (pv 1) zc)) (zq _))))) (zd (zi wK)) zr)
   (ze (zak PassesOwn.never rfl (wB rfl T.b_range (za (zn zo (by rfl) T.b_len PySem.boot_len (za (pv 1) zc)) zc)) (yk (i:=2) zdz.nd rfl (Or.inl rfl))
     (zd (zB (yU (ym (zm C_law_same (hM hr) rfl (za (zI zz (pv 0) (pv 2) (fun _ _=>rfl)) (za (zI zz (pv 1) (pv 2) (fun _ _=>rfl)) zc))))) (zd (zi wK)) zr)))
   (zd (zi wK)))),?_⟩
  have la:=rA.length
  have lb:=rB.length
  refine⟨_,rfl,_,_,rfl,.yes hA,_,rfl,zao ?_⟩
  refine⟨_,rfl,a,_,rfl,.inl hA,_,rfl,b,_,rfl,.inl hB,rfl,_,rfl,?_⟩
  rw[length_map,length_map]
  refine wJ (fun hne=>absurd (by rw[la,lb]) hne) (fun he=>?_)
  refine⟨_,rfl,b,_,rfl,.inl hB,_,rfl,by omega,by rw[length_map];omega,?_⟩
  rw[length_map]
  refine yX (fun i σ H2=>∃v,σ=[some (.ref a),some (.ref b),v]∧H2=H) ⟨_,rfl,rfl⟩ ?_ ?_
  ·rintro i σ H2 hi ⟨v,rfl,rfl⟩
   have hi':i<cs.length:=by rw[←lb];simpa using hi
   obtain⟨l,el,rl⟩:=rA.get (getElem?_eq_getElem hi')
   obtain⟨k,ek,rk⟩:=rB.get (getElem?_eq_getElem hi')
   have e1:atI (ls.map V.ref) (0+(i:Int))=some (.ref l):=by rw[Int.zero_add];exact we (zdA el)
   have e2:atI (ks.map V.ref) (0+(i:Int))=some (.ref k):=by rw[Int.zero_add];exact we (zdA ek)
   refine⟨_,rfl,_,rfl,a,_,_,_,rfl,rfl,hA,e1,_,rfl,_,rfl,b,_,_,_,rfl,rfl,hB,e2,l,k,_,_,rfl,rl,rk,by have:=hd _ (getElem_mem hi');omega,?_⟩
   rw[decide_eq_true rfl]
   exact⟨_,rfl,zao ⟨_,rfl,rfl⟩⟩
  ·rintro σ H2 ⟨v,rfl,rfl⟩
   exact q
def zb4(K:Frag):Sp:=fun vs H Q _=>∃(c u:Int)(a:Addr)(ns:List Int)(y:Int),vs=[.int c,.int u,.ref a,.int y]∧1≤u∧u≤1000000∧SqL K H a (ns.map V.int)∧ns≠[]∧ns.length≤1000∧∀(l:Addr)(H':Hp)(ms:List Int),Same H H'→H l=none→H' l=some (.lst (ms.map V.int))→ms.Perm ns→Q (.ref l) H'
theorem zha{f:Addr}{fd:FuncData}(F:Fun K "_law_dealt" "_law_dealt" wX f fd)(T:Txt K mg)(C_law_mix:Can P w K mg base 1 "_law_mix" ["_law_cell","_law_place"] (zbh K))(C_law_card:Can P w K mg base 2 "_law_card" ["_law_cell","_law_couples_here","_law_style"] (zcy K)):FnOk P w K mg base CX0 3 f fd ["_law_cell","_law_used","_law_couples_here","_law_style"] (zb4 K):=by
 refine F.ok zg5 (fun vs H Q E h=>?_) (fun cdv A outer s H vs Q E hr h=>?_)
 ·obtain⟨c,u,a,ns,y,rfl,_⟩:=h
  rfl
 ·obtain⟨c,u,a,ns,y,rfl,u0,u1,hS,hne,hz,q⟩:=h
  refine⟨_,(ze (zB (zp zV (pv 3) zh (zq _)) (zd (zi (zm C_law_card (hM hr) rfl (za (pv 0) (za (pv 2) (za zh zc)))))) zr)
   (ze (zB (zp zV (pv 3) zh (zq _)) (zd (zi (zm C_law_card (hM hr) rfl (za (zm C_law_mix (hM hr) rfl (za (pv 0) (za zh zc))) (za (pv 2) (za zh zc)))))) zr)
   (zd (zi (zm C_law_card (hM hr) rfl (za (zv ww (pv 0) (pv 1)) (za (pv 2) (za (pv 3) zc)))))))),?_⟩
  refine⟨_,rfl,rfl,_,rfl,wk (fun _=>?_) (fun _=>?_)⟩
  ·exact⟨_,rfl,_,rfl,_,a,ns,_,rfl,hS,hne,hz,q⟩
  refine⟨_,rfl,rfl,_,rfl,wk (fun _=>?_) (fun _=>?_)⟩
  ·exact⟨_,rfl,_,_,rfl,_,rfl,_,a,ns,_,rfl,hS,hne,hz,q⟩
  ·exact⟨_,rfl,_,rfl,_,_,rfl,rfl,⟨by omega,by omega⟩,_,rfl,_,rfl,_,a,ns,_,rfl,hS,hne,hz,q⟩
def zbN(K:Frag):Sp:=fun vs H Q E=>∃(x dx a b:Addr)(us:List Int)(ts:List Str),vs=[.ref x,.ref a,.ref b]∧H x=some (.ins (zE K "Sheet") dx [])∧SqL K H a (us.map V.int)∧us.length<4000∧SqL K H b (ts.map V.str)∧ts.length<4000∧(∀z∈ts,z.length≤1000) ∧
 (M1.zcp us=false→∀C H',ClsN K "BadCouples" C→Same H H'→E (.ref C) none H')∧(M1.zcp us=true→M2.zdJ ts=false→∀C H',ClsN K "BadJudges" C→Same H H'→E (.ref C) none H') ∧
 (M1.zcp us=true→M2.zdJ ts=true→∀H' F,SheetAt K H' x F (Sh.new us ts)→(∀b o,H b=some o→b≠x→H' b=some o∧¬F b)→Q .non H')
theorem zf9{f:Addr}{fd:FuncData}(F:Fun K "__init__" "Sheet.__init__" wA f fd)(T:Txt K mg)(C_good_couples:Can P w K mg base 2 "good_couples" ["couples"] (zaW K))(C_good_judges:Can P w K mg base 3 "good_judges" ["judges"] (zbj K)):FnOk P w K mg base (CX1 P w) 4 f fd ["self","couples","judges"] (zbN K):=by
 obtain⟨c_BadCouples,n_BadCouples,m_BadCouples,x_BadCouples⟩:=T.x_BadCouples
 obtain⟨c_BadJudges,n_BadJudges,m_BadJudges,x_BadJudges⟩:=T.x_BadJudges
 refine F.okX zfX (fun vs H Q E h=>?_) (fun X W cdv A outer s H vs Q E hX hW fl md hr h=>?_)
 ·obtain⟨x,dx,a,b,us,ts,rfl,_⟩:=h
  rfl
 ·obtain⟨x,dx,a,b,us,ts,rfl,hx,hA,hzA,hB,hzB,hzz,qC,qJ,q⟩:=h
  subst hX
  refine⟨_,(ze (zB (yU (ym (zm C_good_couples (hM hr) rfl (za (pv 1) zc)))) (zd (wL rfl md rfl m_BadCouples x_BadCouples (za zw zc))) zr)
   (ze (zB (yU (ym (zm C_good_judges (hM hr) rfl (za (pv 2) zc)))) (zd (wL rfl md rfl m_BadJudges x_BadJudges (za zw zc))) zr)
   (ze (zce (pv 0) (zF zS (by rfl) T.b_list boot_list (za (pv 1) zc)) rfl)
   (ze (zce (pv 0) (yT zc) rfl)
   (ze (zce (pv 0) (zF zS (by rfl) T.b_list boot_list (za (pv 2) zc)) rfl)
   (ze (zce (pv 0) pe_dnewK rfl)
   (ze (zce (pv 0) zh rfl)
   (zd (zce (pv 0) wK rfl))))))))),?_⟩
  refine⟨_,rfl,a,us,rfl,hA,hzA,fun H1 s1=>⟨_,rfl,?_⟩⟩
  cases hg:M1.zcp us with
  | false=>exact⟨(by show 1≤sizeLine;decide),by rw[hW];exact qC hg _ _ n_BadCouples s1⟩
  | true =>
    refine⟨_,rfl,b,ts,rfl,s1.seq hB,hzB,hzz,fun H2 s2=>⟨_,rfl,?_⟩⟩
    have s12:=s1.trans s2
    cases hj:M2.zdJ ts with
    | false=>exact⟨(by show 1≤sizeLine;decide),by rw[hW];exact qJ hg hj _ _ n_BadJudges s12⟩
    | true =>
      have x2:=s12 _ _ hx
      have k2:∀c o,H c=some o→c≠x→H2 c=some o:=fun c o e _=>s12 c o e
      refine⟨_,rfl,a,_,rfl,.inl (s12.seq hA),fun l1 hl1=>?_⟩
      have f1:=s12.free hl1
      obtain⟨x3,e1,n1,k3⟩:=zdt (o:=.lst (us.map V.int)) (u:=.ins (zE K "Sheet") dx [("standing",.ref l1)]) x2 hl1
      refine⟨_,rfl,x,_,dx,_,rfl,(by rw[zg (zj x2 hl1)];exact x2),T.cl_Sheet,T.n_Sheet_standing,(by decide),?_⟩
      rw[pf1]
      generalize hH3:upd (upd H2 l1 _) x _=H3 at x3 e1 k3 ⊢
      refine⟨(by show 0≤sizeLine;decide),fun l2 hl2=>?_⟩
      obtain⟨x4,e2,n2,k4⟩:=zdt (o:=.lst []) (u:=.ins (zE K "Sheet") dx [("standing",.ref l1),("struck_so_far",.ref l2)]) x3 hl2
      refine⟨_,rfl,x,_,dx,_,rfl,(by rw[zg (zj x3 hl2)];exact x3),T.cl_Sheet,T.n_Sheet_struck_so_far,(by show 1<1000;decide),?_⟩
      rw[pf2]
      generalize hH4:upd (upd H3 l2 _) x _=H4 at x4 e2 k4 ⊢
      have k24:∀c o,H c=some o→c≠x→H4 c=some o:=fun c o e n=>k4 c o (k3 c o (k2 c o e n) n) n
      have hB4:SqL K H4 b (ts.map V.str):=by
       rcases hB with(e | ⟨o,e⟩) | e
       ·exact .inl (.inl (k24 _ _ e (zD e hx (by intro z;cases z))))
       ·exact .inl (.inr ⟨o,k24 _ _ e (zD e hx (by intro z;cases z))⟩)
       ·exact .inr e
      refine⟨_,rfl,b,_,rfl,.inl hB4,fun l3 hl3=>?_⟩
      obtain⟨x5,e3,n3,k5⟩:=zdt (o:=.lst (ts.map V.str)) (u:=.ins (zE K "Sheet") dx [("standing",.ref l1),("struck_so_far",.ref l2),("panel",.ref l3)]) x4 hl3
      refine⟨_,rfl,x,_,dx,_,rfl,(by rw[zg (zj x4 hl3)];exact x4),T.cl_Sheet,T.n_Sheet_panel,(by show 2<1000;decide),?_⟩
      rw[pf3]
      generalize hH5:upd (upd H4 l3 _) x _=H5 at x5 e3 k5 ⊢
      intro d hd
      obtain⟨x6,e4,n4,k6⟩:=zdt (o:=.dK []) (u:=.ins (zE K "Sheet") dx [("standing",.ref l1),("struck_so_far",.ref l2),("panel",.ref l3),("card_by_judge",.ref d)]) x5 hd
      refine⟨_,rfl,x,_,dx,_,rfl,(by rw[zg (zj x5 hd)];exact x5),T.cl_Sheet,T.n_Sheet_card_by_judge,(by show 3<1000;decide),?_⟩
      rw[pf4]
      generalize hH6:upd (upd H5 d _) x _=H6 at x6 e4 k6 ⊢
      refine⟨_,rfl,x,_,dx,_,rfl,x6,T.cl_Sheet,T.n_Sheet_taken_so_far,(by show 4<1000;decide),?_⟩
      rw[pf5]
      refine⟨_,rfl,x,_,dx,_,rfl,zf,T.cl_Sheet,T.n_Sheet_sealed,(by show 5<1000;decide),?_⟩
      rw[pf6,upd_upd]
      have keep:∀c o,H6 c=some o→c≠x→upd H6 x (.ins (zE K "Sheet") dx (shF l1 l2 l3 d (Sh.new us ts))) c=some o:=fun c o e n=>by rw[zg n];exact e
      have g1:H6 l1=some (.lst (us.map V.int)):=k6 _ _ (k5 _ _ (k4 _ _ e1 n1) n1) n1
      have g2:H6 l2=some (.lst []):=k6 _ _ (k5 _ _ e2 n2) n2
      have g3:H6 l3=some (.lst (ts.map V.str)):=k6 _ _ e3 n3
      refine q hg hj (upd H6 x (.ins (zE K "Sheet") dx (shF l1 l2 l3 d (Sh.new us ts)))) (fun c=>c=x∨c=l1∨c=l2∨c=l3∨c=d) ⟨dx,l1,l2,l3,d,[],?_⟩ fun c o e n=>⟨?_,?_⟩
      ·refine⟨⟨zf,keep _ _ g1 n1,keep _ _ g2 n2,keep _ _ g3 n3,keep _ _ e4 n4,zero_le _,fun _ _=>rfl,(fun _ _ z=>nomatch z),.inl rfl,.inr (.inl rfl),.inr (.inr (.inl rfl)),.inr (.inr (.inr (.inl rfl))),.inr (.inr (.inr (.inr rfl))),?_,?_,?_⟩,Sh.Ok.new hg hj⟩
       ·exact zj e1 hl2
       ·exact fun z=>zj (k4 _ _ (show H3 l1=_ from e1) n1) hl3 (by rw[z] at hl3;rw[e2] at hl3;cases hl3)
       ·rintro c (rfl | rfl | rfl | rfl | rfl)
        ·rw[zf];exact fun z=>nomatch z
        ·rw[keep _ _ g1 n1];exact fun z=>nomatch z
        ·rw[keep _ _ g2 n2];exact fun z=>nomatch z
        ·rw[keep _ _ g3 n3];exact fun z=>nomatch z
        ·rw[keep _ _ e4 n4];exact fun z=>nomatch z
      ·exact keep _ _ (k6 _ _ (k5 _ _ (k24 _ _ e n) n) n) n
      ·have e2':=k2 _ _ e n
       have e3':=k3 _ _ e2' n
       have e4':=k4 _ _ e3' n
       have e5':=k5 _ _ e4' n
       rintro (z | z | z | z | z)
       ·exact n z
       ·rw[z,hl1] at e2';cases e2'
       ·rw[z,hl2] at e3';cases e3'
       ·rw[z,hl3] at e4';cases e4'
       ·rw[z,hd] at e5';cases e5'
def zbI(K:Frag):Sp:=fun vs H Q _=>∃(p:Addr)(F:Addr→Prop)(S:Sh)(a1 a2 a3 a4:Addr),vs=[.ref p,.ref a1,.ref a2,.ref a3,.ref a4,.int S.taken,.bl S.shut]∧SheetAt K H p F S∧SqL K H a1 (S.panel.map V.str)∧SqL K H a2 (S.couples.map V.int)∧SqL K H a3 (S.struck.map V.int)∧Refs K (IL K) H a4 S.rows∧∀H',Same H H'→Q (.bl true) H'
theorem zf1{f:Addr}{fd:FuncData}(F:Fun K "_law_stands" "_law_stands" yb f fd)(T:Txt K mg)(C_law_whole:Can P w K mg base 1 "_law_whole" ["_law_found"] (za4 K))(C_law_same:Can P w K mg base 2 "_law_same" ["_law_found","_law_due_here"] (zaO K))(C_law_texts:Can P w K mg base 1 "_law_texts" ["_law_found","_law_due_here"] (zcg K))(C_law_lists:Can P w K mg base 3 "_law_lists" ["_law_found","_law_due_here"] (zb1 K))(C_Sheet_couples:CanM P w K mg base 1 (zE K "Sheet") "couples" ["self"] (yQ K))(C_Sheet_struck:CanM P w K mg base 1 (zE K "Sheet") "struck" ["self"] (zaT K))(C_Sheet_judges:CanM P w K mg base 1 (zE K "Sheet") "judges" ["self"] (zaV K))(C_Sheet_handed:CanM P w K mg base 1 (zE K "Sheet") "handed" ["self"] (yu K))(C_Sheet_cards:CanM P w K mg base 3 (zE K "Sheet") "cards" ["self"] (wv K))(C_Sheet_card_of:CanMX P w K mg base 2 (zE K "Sheet") "card_of" ["self","judge"] (wF K))(C_Sheet_taken:CanM P w K mg base 1 (zE K "Sheet") "taken" ["self"] (zbm K))(C_Sheet_is_sealed:CanM P w K mg base 1 (zE K "Sheet") "is_sealed" ["self"] (wS K)):FnOk P w K mg base CX0 4 f fd ["_law_sheet","_law_names_here","_law_couples_here","_law_gone","_law_cards","_law_many_here","_law_shut"] (zbI K):=by
 refine F.ok wN (fun vs H Q E h=>?_) (fun cdv A outer s H vs Q E hr h=>?_)
 ·obtain⟨p,F,S,a1,a2,a3,a4,rfl,_⟩:=h
  rfl
 ·obtain⟨p,F,S,a1,a2,a3,a4,rfl,hSh,hA1,hA2,hA3,⟨ls,hA4,hR⟩,q⟩:=h
  refine⟨_,(ze (zB (PW.pt (zfy (yU (ym (zm C_law_same (hM hr) rfl (za (yw C_Sheet_couples T.cl_Sheet (hM hr) (pv 0)) (za (pv 2) zc))))) (zde (yU (ym (zm C_law_same (hM hr) rfl (za (yw C_Sheet_struck T.cl_Sheet (hM hr) (pv 0)) (za (pv 3) zc)))))))) (zd (zi wK)) zr)
   (ze (zda (i:=7) (show CompScope (zb yb) ["_law_sheet","_law_names_here","_law_couples_here","_law_gone","_law_cards","_law_many_here","_law_shut","_law_into","_law_k","_law_count","_law_sealed"] "_law_k" ["_law_cards"] [4] _ from⟨rfl,by decide +kernel,by decide +kernel,rfl,by decide +kernel,rfl,by decide +kernel,by decide +kernel⟩) rfl wN.nd rfl (Or.inl rfl) (wB rfl T.b_range (za (zn zo (by rfl) T.b_len PySem.boot_len (za (pv 1) zc)) zc)) (fun _ _ _ _ _=>(zb6 (zp (zei (K:=K) rfl hr.units0) (zI (zfO (K:=K) rfl) (pv 1) (pv 0) (fun _ _=>rfl)) (yT zc) (zq _)))) (fun _ _ _ _ _=>(pv 0)))
   (ze (zB (PW.pt (zfy (yU (ym (zm C_law_texts (hM hr) rfl (za (yw C_Sheet_judges T.cl_Sheet (hM hr) (pv 0)) (za (pv 1) zc))))) (zde (yU (ym (zm C_law_texts (hM hr) rfl (za (yw C_Sheet_handed T.cl_Sheet (hM hr) (pv 0)) (za (zT (show CompScope (zb yb) ["_law_sheet","_law_names_here","_law_couples_here","_law_gone","_law_cards","_law_many_here","_law_shut","_law_into","_law_k","_law_count","_law_sealed"] "_law_k" ["_law_names_here"] [1] _ from⟨rfl,by decide +kernel,by decide +kernel,rfl,by decide +kernel,rfl,by decide +kernel,by decide +kernel⟩) rfl (zJ (pv 7)) (fun _ _ _ _ _=>yM) (fun _ _ _ _ _=>(zI (zfO (K:=K) rfl) (pv 1) (pv 0) (fun _ _=>rfl)))) zc)))))))) (zd (zi wK)) zr)
   (ze (zB (yU (ym (zm C_law_lists (hM hr) rfl (za (yw C_Sheet_cards T.cl_Sheet (hM hr) (pv 0)) (za (zT (show CompScope (zb yb) ["_law_sheet","_law_names_here","_law_couples_here","_law_gone","_law_cards","_law_many_here","_law_shut","_law_into","_law_k","_law_count","_law_sealed"] "_law_k" ["_law_cards"] [4] _ from⟨rfl,by decide +kernel,by decide +kernel,rfl,by decide +kernel,rfl,by decide +kernel,by decide +kernel⟩) rfl (zJ (pv 7)) (fun _ _ _ _ _=>yM) (fun _ _ _ _ _=>(zI (zfO (K:=K) rfl) (pv 1) (pv 0) (fun _ _=>rfl)))) zc))))) (zd (zi wK)) zr)
   (ze (zak PassesOwn.never rfl (zJ (pv 7)) (yk (i:=8) wN.nd rfl (Or.inl rfl))
     (zd (zB (yU (ym (zm C_law_same (hM hr) rfl (za (zaM C_Sheet_card_of T.cl_Sheet fl_no (hM hr) (pv 0) (za (zI zz (pv 1) (pv 8) (fun _ _=>rfl)) zc)) (za (zI zz (pv 4) (pv 8) (fun _ _=>rfl)) zc))))) (zd (zi wK)) zr)))
   (ze (zy (i:=9) wN.nd rfl (Or.inl rfl) (yw C_Sheet_taken T.cl_Sheet (hM hr) (pv 0)))
   (ze (zy (i:=10) wN.nd rfl (Or.inl rfl) (yw C_Sheet_is_sealed T.cl_Sheet (hM hr) (pv 0)))
   (zd (zi (zas (zm C_law_whole (hM hr) rfl (za (pv 9) zc)) (zas (wf zV (pv 9) (pv 5) (zq _)) (zas (zn zc1 (by rfl) T.b_isinstance boot_isinstance (za (pv 10) (za (zbB (v:=V.ty "bool") rfl T.b_bool boot_bool rfl) zc))) (zca (wf zV (pv 10) (pv 6) (zq _))))))))))))))),?_⟩
  have hln:=zx
  have ok:=hSh.ok
  have c24:=ok.c24
  have p15:=ok.p15
  obtain⟨dx,b1,b2,b3,d,hip⟩:=hSh.ins
  have hrl:=S.rows_len
  have hll:=hR.length
  refine⟨_,rfl,p,dx,_,rfl,hip,rfl,p,F,S,rfl,hSh,fun l1 H1 s1 f1 e1=>?_⟩
  refine⟨_,rfl,l1,a2,S.couples,S.couples,rfl,SqL.of e1,s1.seq hA2,by omega,?_⟩
  rw[decide_eq_true rfl]
  refine⟨_,rfl,zao ?_⟩
  refine⟨_,rfl,p,dx,_,rfl,s1 _ _ hip,rfl,p,F,S,rfl,hSh.same s1,fun l2 H2 s2 f2 e2=>?_⟩
  have t2:=s1.trans s2
  refine⟨_,rfl,l2,a3,S.struck,S.struck,rfl,SqL.of e2,t2.seq hA3,by omega,?_⟩
  rw[decide_eq_true rfl]
  refine⟨_,rfl,zao ?_⟩
  refine⟨_,rfl,a1,_,rfl,.inl (t2.seq hA1),_,rfl,by omega,by rw[length_map];omega,?_⟩
  rw[length_map,show((S.panel.length:Nat):Int).toNat=S.panel.length by omega]
  refine zfE (fun i ys H3=>Same H2 H3∧ys=(((List.range i).filter fun k => !decide (S.rows.getD k []=[])).map fun(k:Nat)=>(k:Int)).map V.int) ⟨Same.refl _,rfl⟩ ?_ (by omega) ?_ ?_
  ·rintro i ys H3 hi ⟨s3,rfl⟩
   rw[length_map,length_map]
   exact le_trans (length_filter_le _ _) (by rw[length_range];exact le_refl _)
  ·rintro i ys H3 hi ⟨s3,rfl⟩
   have t3:=t2.trans s3
   obtain⟨m,em,rm⟩:=hR.at (i:=i) (by omega) []
   refine⟨_,rfl,_,rfl,a4,_,_,_,rfl,rfl,t3.seq hA4,zfS (by omega) (by rw[show((0:Int)+(i:Int)).toNat=i by omega];exact zdA em),(by show 0≤sizeLine;decide),fun l3 hl3=>?_⟩
   refine⟨m,l3,_,[],rfl,rfl,(t3.newT hl3).seq rm,SqL.new,yO _,rfl,_,rfl,?_⟩
   rw[show eqL ((S.rows.getD i []).map V.int) []=decide (S.rows.getD i []=[])from zdC _ []]
   refine wJ (fun hb=>?_) (fun hb=>?_)
   ·refine⟨_,rfl,s3.newT hl3,?_⟩
    rw[zfc,if_neg hb,map_append,show(0:Int)+(i:Int)=(i:Int)by omega]
    rfl
   ·refine⟨s3.newT hl3,?_⟩
    rw[zfc,if_pos hb,append_nil]
  ·rintro ys H3 ⟨s3,rfl⟩ l3 hl3
   rw[show(((List.range S.panel.length).filter fun k => !decide (S.rows.getD k []=[])).map fun(k:Nat)=>(k:Int))=zcY S.rows by unfold zcY;rw[hrl]]
   have hin:=@zdW S.rows
   have hil:=intoK_len S.rows
   have n1:=Sh.into_names ok
   have n2:=Sh.into_cards ok
   have n3:=@Sh.into_one S ok
   generalize zcY S.rows=is at hin hil n1 n2 n3 ⊢
   generalize hH4:upd H3 l3 _=H4
   have s4:Same H2 H4:=by rw[←hH4];exact s3.newT hl3
   have e3:H4 l3=some (.lst (is.map V.int)):=by rw[←hH4];exact zf
   have t4:=t2.trans s4
   refine⟨_,rfl,p,dx,_,rfl,t4 _ _ hip,rfl,p,F,S,rfl,hSh.same t4,fun l5 H5 s5 f5 e5=>?_⟩
   have t5:=t4.trans s5
   refine⟨_,rfl,l5,a1,S.panel,S.panel,rfl,SqL.of e5,t5.seq hA1,by omega,?_⟩
   rw[decide_eq_true rfl]
   refine⟨_,rfl,zao ?_⟩
   refine⟨_,rfl,p,dx,_,rfl,t5 _ _ hip,rfl,p,F,S,rfl,(hSh.same t5).shape,p15,fun l6 H6 s6 f6 e6=>?_⟩
   have t6:=t5.trans s6
   have i6:=SqL.of (K:=K) (s6 _ _ (s5 _ _ e3))
   refine⟨_,rfl,l3,rfl,⟨_,i6⟩,?_⟩
   refine zO (xs:=is.map V.int) (fun i ys H7=>H7=H6∧ys=((is.take i).map fun x=>S.panel.getD x.toNat "").map V.str) ⟨rfl,rfl⟩ ?_ (by rw[length_map];omega) ?_ ?_
   ·rintro i ys H7 hi ⟨rfl,rfl⟩
    refine⟨i6,?_⟩
    rw[length_map,length_map,length_take]
    omega
   ·rintro i x ys H7 hx ⟨rfl,rfl⟩
    obtain⟨hi,rfl⟩:=yV hx
    have hx:=hin (zam hi)
    refine⟨_,rfl,_,rfl,a1,_,_,_,rfl,rfl,t6.seq hA1,zhX hx.1 (by omega),rfl,?_⟩
    rw[yt hi,map_append,map_append]
    rfl
   rintro ys H7 ⟨rfl,rfl⟩ l7 hl7
   rw[length_map,take_length,n1]
   generalize hH8:upd H7 l7 _=H8
   have s8:Same H7 H8:=by rw[←hH8];exact Same.new hl7
   have e8:H8 l7=some (.lst (S.handed.map V.str)):=by rw[←hH8];exact zf
   have hhl:S.handed.length≤15:=le_trans (length_filter_le _ _) p15
   refine⟨l6,l7,S.handed,S.handed,rfl,SqL.of (s8 _ _ e6),SqL.of e8,by omega,?_⟩
   rw[decide_eq_true rfl]
   refine⟨_,rfl,zao ?_⟩
   have t8:=t6.trans s8
   refine⟨_,rfl,p,dx,_,rfl,t8 _ _ hip,rfl,p,F,S,rfl,hSh.same t8,fun l9 H9 ks s9 f9 e9 r9=>?_⟩
   have t9:=t8.trans s9
   have i9:=(s8.trans s9).seq i6
   refine⟨_,rfl,l3,rfl,⟨_,i9⟩,?_⟩
   have at9:∀x∈is,∃m,ls[x.toNat]? = some m∧IL K H m (S.rows.getD x.toNat []):=fun x hx=>hR.at (hin hx).2.1 []
   refine zO (xs:=is.map V.int) (fun i ys H10=>H10=H9∧∃ms:List Addr,ys=ms.map V.ref∧All2 (IL K H) ms ((is.take i).map fun x=>S.rows.getD x.toNat [])) ⟨rfl,[],rfl,.nil⟩ ?_ (by rw[length_map];omega) ?_ ?_
   ·rintro i ys H10 hi ⟨rfl,ms,rfl,r10⟩
    refine⟨i9,?_⟩
    have:=r10.length
    rw[length_map,length_take] at this
    rw[length_map]
    omega
   ·rintro i x ys H10 hx ⟨rfl,ms,rfl,r10⟩
    obtain⟨hi,rfl⟩:=yV hx
    have hx:=hin (zam hi)
    obtain⟨m,em,rm⟩:=at9 _ (zam hi)
    refine⟨_,rfl,_,rfl,a4,_,_,_,rfl,rfl,t9.seq hA4,zfS hx.1 (zdA em),rfl,ms++[m],by rw[map_append];rfl,?_⟩
    rw[yt hi,map_append]
    exact r10.snoc rm
   rintro ys H10 ⟨rfl,ms,rfl,r10⟩ l10 hl10
   rw[length_map,take_length,n2] at r10
   have s11:=Same.new (o:=.lst (ms.map V.ref)) hl10
   have hcl:S.cardsIn.length≤15:=by unfold Sh.cardsIn;rw[length_map];exact hhl
   refine⟨l9,l10,S.cardsIn,rfl,⟨ks,SqL.of (s11 _ _ e9),r9.imp fun _ _ z=>SqL.of (s11 _ _ z.2)⟩,⟨ms,SqL.new,r10.imp fun _ _=>IL.stays K _ _ _ _ (t9.trans s11)⟩,by omega,fun c hc=>?_,?_⟩
   ·unfold Sh.cardsIn at hc
    obtain⟨j,hj,rfl⟩:=List.mem_map.mp hc
    cases e:S.card j with
    | none=>exact zero_le _
    | some c =>
      have:=(ok.cd j c e).2.length_eq
      show c.length≤1000
      omega
   refine⟨_,rfl,zao ?_⟩
   generalize hH11:upd H10 l10 _=H11 at s11
   have t11:=t9.trans s11
   have i11:=s11.seq i9
   refine⟨_,rfl,l3,rfl,⟨_,i11⟩,?_⟩
   refine zdy (xs:=is.map V.int) (fun i σ H12=>∃v,σ=[some (.ref p),some (.ref a1),some (.ref a2),some (.ref a3),some (.ref a4),some (.int S.taken),some (.bl S.shut),some (.ref l3),v,none,none]∧Same H11 H12) ⟨_,rfl,Same.refl _⟩ ?_ ?_ ?_
   ·rintro i σ H12 hi ⟨v,rfl,s12⟩
    exact s12.seq i11
   ·rintro i x σ H12 hx ⟨v,rfl,s12⟩
    obtain⟨hi,rfl⟩:=yV hx
    have hx:=hin (zam hi)
    have hone:=n3 (zam hi)
    obtain⟨m,em,rm⟩:=at9 _ (zam hi)
    have t12:=t11.trans s12
    refine⟨_,rfl,p,dx,_,rfl,t12 _ _ hip,rfl,_,rfl,_,rfl,a1,_,_,_,rfl,rfl,t12.seq hA1,zhX hx.1 (by omega),p,F,S,_,rfl,hSh.same t12,(fun z=>absurd (ok.cd _ _ hone).1 z),(fun _ z=>by rw[hone] at z;cases z),fun c hc l13 H13 s13 f13 e13=>?_⟩
    rw[hone] at hc
    cases hc
    have t13:=t12.trans s13
    have hcl:(S.rows.getD (is.getD i 0).toNat []).length≤24:=by have:=(ok.cd _ _ hone).2.length_eq;omega
    refine⟨_,rfl,_,rfl,a4,_,_,_,rfl,rfl,t13.seq hA4,zfS hx.1 (zdA em),l13,m,_,_,rfl,SqL.of e13,t13.seq rm,by omega,?_⟩
    rw[decide_eq_true rfl]
    exact⟨_,rfl,zao ⟨_,rfl,s12.trans s13⟩⟩
   rintro σ H12 ⟨v,rfl,s12⟩
   have t12:=t11.trans s12
   refine⟨_,rfl,p,dx,_,rfl,t12 _ _ hip,rfl,p,F,S,rfl,hSh.same t12,?_⟩
   refine⟨_,rfl,p,dx,_,rfl,t12 _ _ hip,rfl,p,F,S,rfl,hSh.same t12,?_⟩
   refine⟨_,rfl,.int S.taken,true,false,rfl,rfl,rfl,_,rfl,zdG ?_⟩
   refine⟨_,rfl,_,rfl,rfl,_,rfl,?_⟩
   rw[decide_eq_true rfl]
   refine zdG ⟨_,rfl,.bl S.shut,true,rfl,rfl,_,rfl,zdG ?_⟩
   refine⟨_,rfl,_,rfl,rfl,?_⟩
   rw[decide_eq_true rfl]
   exact q _ t12
def zcx(K:Frag):Sp:=fun vs H Q _=>∃(a b:Addr)(ms us:List Int),vs=[.ref a,.ref b]∧SqL K H a (ms.map V.int)∧SqL K H b (us.map V.int)∧ms.length=us.length∧1≤ms.length∧ms.length≤60∧(∀x∈ms,1≤x∧x≤24)∧(∀x∈us,1≤x∧x≤24)∧∀H',Same H H'→Q (.bl (M6.yi ms us 24)) H'
theorem ziD{f:Addr}{fd:FuncData}(F:Fun K "is_ahead" "is_ahead" zaA f fd)(T:Txt K mg)(C_granted:Can P w K mg base 2 "granted" ["marks","number"] (zb5 K))(C_granted_sum:Can P w K mg base 2 "granted_sum" ["marks","number"] (zaj K))(C_first_number:Can P w K mg base 2 "first_number" ["marks"] (wP K))(C_unlike_at:Can P w K mg base 3 "unlike_at" ["one","other"] (zbZ K)):FnOk P w K mg base CX0 4 f fd ["one","other"] (zcx K):=by
 refine F.ok zef (fun vs H Q E h=>?_) (fun cdv A outer s H vs Q E hr h=>?_)
 ·obtain⟨a,b,ms,us,rfl,_⟩:=h
  rfl
 ·obtain⟨a,b,ms,us,rfl,hA,hB,hl,h1,hz,hm,hu,q⟩:=h
  refine⟨_,(ze (zB (zp zaZ (zm C_first_number (hM hr) rfl (za (pv 0) zc)) (zm C_first_number (hM hr) rfl (za (pv 1) zc)) (zq _)) (zd (zi (wf op_lt (zm C_first_number (hM hr) rfl (za (pv 0) zc)) (zm C_first_number (hM hr) rfl (za (pv 1) zc)) (zq _)))) zr)
   (ze (zy (i:=2) zef.nd rfl (Or.inl rfl) (zm C_unlike_at (hM hr) rfl (za (pv 0) (za (pv 1) zc))))
   (ze (zB (zp op_isN (pv 2) pe_non (zq _)) (zd (zi wK)) zr)
   (ze (zB (zp zaZ (zm C_granted (hM hr) rfl (za (pv 0) (za (pv 2) zc))) (zm C_granted (hM hr) rfl (za (pv 1) (za (pv 2) zc))) (zq _)) (zd (zi (wf op_gt (zm C_granted (hM hr) rfl (za (pv 0) (za (pv 2) zc))) (zm C_granted (hM hr) rfl (za (pv 1) (za (pv 2) zc))) (zq _)))) zr)
   (zd (zi (wf op_lt (zm C_granted_sum (hM hr) rfl (za (pv 0) (za (pv 2) zc))) (zm C_granted_sum (hM hr) rfl (za (pv 1) (za (pv 2) zc))) (zq _)))))))),?_⟩
  have hne:ms≠[]:=by intro z;rw[z] at h1;simp at h1
  have hne2:us≠[]:=by intro z;rw[z] at hl;have:ms.length=0:=hl;omega
  refine⟨_,rfl,a,ms,rfl,hA,hne,hz,hm,fun H1 f s1 hf=>?_⟩
  refine⟨_,rfl,b,us,rfl,s1.seq hB,hne2,by omega,hu,fun H2 g s2 hg=>?_⟩
  have fr:=M3.zdS hf 1 24 hm
  have gr:=M3.zdS hg 1 24 hu
  have t2:=s1.trans s2
  refine⟨rfl,_,rfl,wJ (fun hfg=>?_) (fun hfg=>?_)⟩
  ·refine⟨_,rfl,a,ms,rfl,t2.seq hA,hne,hz,hm,fun H3 f' s3 hf'=>?_⟩
   have t3:=t2.trans s3
   refine⟨_,rfl,b,us,rfl,t3.seq hB,hne2,by omega,hu,fun H4 g' s4 hg'=>?_⟩
   have ef:=M3.zc7 hf' hf
   have eg:=M3.zc7 hg' hg
   subst ef eg
   refine⟨_,_,rfl,rfl,?_⟩
   have hfg:f'≠g':=fun z=>hfg (by rw[z])
   have e:decide (f'<g')=M6.yi ms us 24:=by
    by_cases c:f'<g'
    ·rw[decide_eq_true c,M6.ahead_lt hf' hg' c fr.1 fr.2]
    ·rw[decide_eq_false c,M6.ahead_gt hf' hg' (by omega) gr.1 gr.2]
   show Q (.bl (decide (f'<g'))) H4
   rw[e]
   exact q _ (t3.trans s4)
  ·injection hfg with hfg
   subst hfg
   refine⟨_,rfl,_,rfl,a,b,ms,us,f,rfl,t2.seq hA,t2.seq hB,h1,hz,by omega,hm,hu,hf,hg,fun r H3 s3 hr'=>?_⟩
   have t3:=t2.trans s3
   cases r with
   | none =>
     refine⟨_,rfl,rfl,_,rfl,wk (fun _=>?_) (fun z=>absurd rfl z)⟩
     rw[M6.zi3 (M6.part_none hf hg hr')] at q
     exact q _ t3
   | some n =>
     refine⟨_,rfl,rfl,_,rfl,wk (fun z=>nomatch z) (fun _=>?_)⟩
     rw[M6.ahead_at hf hg fr.1 hr'] at q
     refine⟨_,rfl,_,rfl,a,ms,_,rfl,t3.seq hA,by omega,fun H4 s4=>?_⟩
     refine⟨_,rfl,_,rfl,b,us,_,rfl,(t3.trans s4).seq hB,by omega,fun H5 s5=>?_⟩
     have t5:=(t3.trans s4).trans s5
     refine⟨rfl,_,rfl,wJ (fun hc=>?_) (fun hc=>?_)⟩
     ·rw[if_neg fun z=>hc (by rw[z])] at q
      refine⟨_,rfl,_,rfl,a,ms,_,rfl,t5.seq hA,by omega,fun H6 s6=>?_⟩
      refine⟨_,rfl,_,rfl,b,us,_,rfl,(t5.trans s6).seq hB,by omega,fun H7 s7=>?_⟩
      exact⟨_,_,rfl,rfl,q _ ((t5.trans s6).trans s7)⟩
     ·injection hc with hc
      rw[if_pos hc] at q
      refine⟨_,rfl,_,rfl,a,ms,_,rfl,t5.seq hA,by omega,fun H6 s6=>?_⟩
      refine⟨_,rfl,_,rfl,b,us,_,rfl,(t5.trans s6).seq hB,by omega,fun H7 s7=>?_⟩
      exact⟨_,_,rfl,rfl,q _ ((t5.trans s6).trans s7)⟩
def zaP(K:Frag):Sp:=fun vs H Q _=>∃(f:Str)(a:Addr)(ns:List Int),vs=[.str f,.ref a]∧SqL K H a ((ns.map M20.zbY).map V.str)∧(f=Str.ofString "card"∨(ns.length:Int)=M20.due f)∧(∀n∈ns,1≤n∧n≤999)∧ns.length≤1000∧∀(l:Addr)(H':Hp),Same H H'→H l=none→H' l=some (.lst (ns.map V.int))→Q (.ref l) H'
theorem zer{f:Addr}{fd:FuncData}(F:Fun K "read_couples" "read_couples" yj f fd)(T:Txt K mg)(C_due_couples:Can P w K mg base 1 "due_couples" ["first"] (zbg K))(C_read_couple:Can P w K mg base 3 "read_couple" ["word"] (zbi K)):FnOk P w K mg base CX0 4 f fd ["first","words"] (zaP K):=by
 refine F.ok zeF (fun vs H Q E h=>?_) (fun cdv A outer s H vs Q E hr h=>?_)
 ·obtain⟨f,a,ns,rfl,_⟩:=h
  rfl
 ·obtain⟨f,a,ns,rfl,hA,hd,hn,hz,q⟩:=h
  refine⟨_,(ze (zbe (zB (PW.pt (zd4 (zp zaZ (pv 0) zw (zq _)) (zcV (zp zaZ (zn zo (by rfl) T.b_len PySem.boot_len (za (pv 1) zc)) (zm C_due_couples (hM hr) rfl (za (pv 0) zc)) (zq _))))) (zd yx) zr))
   (zd (zi (zT (show CompScope (zb yj) ["first","words"] "word" [] [] _ from⟨rfl,by decide +kernel,by decide +kernel,rfl,by decide +kernel,rfl,by decide +kernel,by decide +kernel⟩) rfl (zJ (pv 1)) (fun _ _ _ _ _=>yM) (fun _ _ _ _ _=>(zm C_read_couple (hM hr) rfl (za (pv 0) zc))))))),?_⟩
  have hln:=zx
  refine⟨fun σ' H'=>σ'=[some (.str f),some (.ref a)]∧H'=H,?_,?_⟩
  ·refine⟨_,rfl,rfl,_,rfl,wJ (fun hc=>?_) (fun hc=>?_)⟩
   ·have hd':(ns.length:Int)=M20.due f:=by
     rcases hd with e | e
     ·exact absurd (by rw[e]) hc
     ·exact e
    exact⟨_,rfl,a,_,rfl,.inl hA,_,rfl,f,rfl,rfl,_,rfl,iteNS (by rw[length_map,length_map,hd']) ⟨rfl,rfl⟩⟩
   ·exact⟨rfl,rfl⟩
  rintro σ' H1 ⟨rfl,rfl⟩
  refine⟨_,rfl,a,rfl,⟨_,hA⟩,?_⟩
  refine zO (xs:=(ns.map M20.zbY).map V.str) (fun i ys H2=>Same H1 H2∧ys=(ns.take i).map V.int) ⟨Same.refl _,rfl⟩ ?_ (by rw[length_map,length_map];omega) ?_ ?_
  ·rintro i ys H2 hi ⟨s2,rfl⟩
   refine⟨s2.seq hA,?_⟩
   rw[length_map,length_take]
   omega
  ·rintro i x ys H2 hx ⟨s2,rfl⟩
   rw[getElem?_map,getElem?_map] at hx
   cases en:ns[i]? with
   | none=>rw[en] at hx;cases hx
   | some n =>
     rw[en] at hx
     cases hx
     refine⟨_,rfl,n,rfl,hn n (mem_of_getElem? en),fun H3 s3=>⟨s2.trans s3,?_⟩⟩
     rw[take_succ,en,map_append]
     rfl
  ·rintro ys H2 ⟨s2,rfl⟩ l hl
   rw[length_map,length_map,take_length]
   exact q l _ (s2.newT hl) (s2.free hl) zf
def zbu(K:Frag):Sp:=fun vs H Q _=>∃(a b:Addr)(rs:List (List Int)) (ms:List Int),vs=[.ref a,.ref b]∧Refs K (IL K) H a rs∧SqL K H b (ms.map V.int)∧(∀r∈rs,r.length=ms.length∧∀x∈r,1≤x∧x≤24)∧(∀x∈ms,1≤x∧x≤24)∧1≤ms.length∧ms.length≤60∧rs.length≤1000∧∀H',Same H H'→Q (.int (1+((rs.filter fun r=>M6.yi r ms 24).length:Int))) H'
theorem zfL{f:Addr}{fd:FuncData}(F:Fun K "place_among" "place_among" yD f fd)(T:Txt K mg)(C_is_ahead:Can P w K mg base 4 "is_ahead" ["one","other"] (zcx K)):FnOk P w K mg base CX0 5 f fd ["rows","own"] (zbu K):=by
 refine F.ok ze6 (fun vs H Q E h=>?_) (fun cdv A outer s H vs Q E hr h=>?_)
 ·obtain⟨a,b,rs,ms,rfl,_⟩:=h
  rfl
 ·obtain⟨a,b,rs,ms,rfl,⟨ls,hS,hR⟩,hB,hrs,hm,h1,hz,hzr,q⟩:=h
  refine⟨_,(zd (zi (zv yg zh (zn zo (by rfl) T.b_len PySem.boot_len (za (zT (show CompScope (zb yD) ["rows","own"] "marks" ["own"] [1] _ from⟨rfl,by decide +kernel,by decide +kernel,rfl,by decide +kernel,rfl,by decide +kernel,by decide +kernel⟩) rfl (zJ (pv 0)) (fun _ _ _ _ _=>(zb6 (ym (zm C_is_ahead (hM hr) rfl (za (pv 0) (za (pv 1) zc)))))) (fun _ _ _ _ _=>(pv 0))) zc))))),?_⟩
  have hlen:=hR.length
  refine⟨_,rfl,a,rfl,⟨_,hS⟩,?_⟩
  refine wz (xs:=ls.map V.ref) (fun i ys H2=>Same H H2∧ys.length=((rs.take i).filter fun r=>M6.yi r ms 24).length) ⟨Same.refl _,rfl⟩ ?_ (by rw[length_map];have:=zx;omega) ?_ ?_
  ·rintro i ys H2 hi ⟨s2,e2⟩
   refine⟨s2.seq hS,?_⟩
   rw[e2]
   have:=length_filter_le (fun r=>M6.yi r ms 24) (rs.take i)
   rw[length_take] at this
   omega
  ·rintro i x ys H2 hx ⟨s2,e2⟩
   obtain⟨l,el,rfl⟩:=zaf hx
   obtain⟨d,ed,rd⟩:=hR.getL el
   have hd:=hrs d (mem_of_getElem? ed)
   refine⟨_,rfl,_,rfl,l,b,d,ms,rfl,s2.seq rd,s2.seq hB,hd.1,by omega,by omega,hd.2,hm,fun H3 s3=>⟨_,rfl,zge (fun hb=>?_) (fun hb=>?_)⟩⟩
   ·refine⟨_,rfl,s2.trans s3,?_⟩
    rw[take_succ,ed,filter_append,length_append,length_append,e2]
    show _=_+(filter (fun r=>M6.yi r ms 24) [d]).length
    rw[filter_cons,if_pos hb]
    rfl
   ·refine⟨s2.trans s3,?_⟩
    rw[take_succ,ed,filter_append,length_append,e2]
    show _=_+(filter (fun r=>M6.yi r ms 24) [d]).length
    rw[filter_cons,if_neg (by rw[hb];exact Bool.false_ne_true)]
    rfl
  ·rintro ys H2 ⟨s2,e2⟩ l hl
   rw[length_map,hlen,take_length] at e2
   refine⟨l,_,rfl,.inl SqL.new,_,_,rfl,rfl,?_⟩
   rw[e2]
   exact q _ (s2.newT hl)
def zcL(K:Frag):Sp:=fun vs H Q _=>∃(f j:Str)(ns:List Int),vs=[.str (M20.row f j ns)]∧M20.Row f j ns∧∀(t l:Addr)(H':Hp),Same H H'→H t=none→H l=none→H' t=some (.tup [.str f,.str j,.ref l])→H' l=some (.lst (ns.map V.int))→Q (.ref t) H'
theorem zhF{f:Addr}{fd:FuncData}(F:Fun K "read_row" "read_row" zaz f fd)(T:Txt K mg)(C_read_couples:Can P w K mg base 4 "read_couples" ["first","words"] (zaP K)):FnOk P w K mg base CX0 5 f fd ["row"] (zcL K):=by
 refine F.ok zcB (fun vs H Q E h=>?_) (fun cdv A outer s H vs Q E hr h=>?_)
 ·obtain⟨f,j,ns,rfl,_⟩:=h
  rfl
 ·obtain⟨f,j,ns,rfl,hR,q⟩:=h
  refine⟨_,(ze (zy (i:=1) zcB.nd rfl (Or.inl rfl) (za0 PySem.F.plainAttrs_str PySem.F.slot_str_split PySem.F.type_str_split ms_split (pv 0) (za zw zc)))
   (ze (zB (zp zdY zw (pv 1) (by first | exact zq _ | rfl)) (zd yx) zr)
   (ze (zy (i:=2) zcB.nd rfl (Or.inl rfl) (zI zz (pv 1) zh (fun _ _=>rfl)))
   (ze (zB (zp zal (pv 2) (zv op_catT (zv op_catT (zdv T.c_BARE_WORDS rfl) (zdv T.c_JUDGE_WORDS rfl)) (zdv T.c_COUPLE_WORDS rfl)) (by first | exact zq _ | rfl)) (zd yx) zr)
   (ze (zB (zp zal (pv 2) (zdv T.c_JUDGE_WORDS rfl) (by first | exact zq _ | rfl)) (zd (zi (zjp (za (pv 2) (za zw (za (zm C_read_couples (hM hr) rfl (za (pv 2) (za (zbf zcW (pv 1) (zby zh) zcN) zc))) zc)))))) zr)
   (ze (zB (zp zV (zn zo (by rfl) T.b_len PySem.boot_len (za (pv 1) zc)) zh (zq _)) (zd yx) zr)
   (zd (zi (zjp (za (pv 2) (za (zI zz (pv 1) zh (fun _ _=>rfl)) (za (zm C_read_couples (hM hr) rfl (za (pv 2) (za (zbf zcW (pv 1) (zby zh) zcN) zc))) zc)))))))))))),?_⟩
  have hln:=zx
  have hrl:=M20.row_len hR
  have hwl:=M20.zgz hR
  have hsp:=M20.split_row hR
  refine⟨_,rfl,rfl,_,_,rfl,rfl,by decide +kernel,by omega,by rw[M20.ze1,hsp];omega,fun l1 hl1=>?_⟩
  rw[M20.ze1,hsp]
  have s1:=Same.new (o:=.lst ((M20.zap f j ns).map V.str)) hl1
  have e1:upd H l1 (.lst ((M20.zap f j ns).map V.str)) l1=some (.lst ((M20.zap f j ns).map V.str)):=zf
  generalize hH1:upd H l1 _=H1 at s1 e1 ⊢
  refine⟨_,rfl,l1,_,rfl,.inl (SqL.of e1),rfl,M20.zgp _,_,rfl,zH (M20.no_empty hR) ?_⟩
  refine⟨_,rfl,l1,_,_,.str f,rfl,rfl,SqL.of e1,we (j:=0) rfl,?_⟩
  refine⟨_,rfl,fun a1 h1=>fun a2 h2=>⟨a1,a2,_,_,rfl,rfl,h1 _,h2 _,by decide,by decide,(fun z=>by cases z),fun _ p hp=>fun a3 h3=>⟨p,a3,_,_,rfl,rfl,.inl (.inl zf),h3 _,by decide,by decide,(fun z=>by cases z),fun _ p2 hp2=>?_⟩⟩⟩
  have s3:=(Same.newT s1 (o:=.tup (map V.str ["seal","couples","places","parts","deciders"]++map V.str ["card","show","leave","step"])) hp).newT (o:=.tup ((map V.str ["seal","couples","places","parts","deciders"]++map V.str ["card","show","leave","step"])++map V.str ["strike","step","row"])) hp2
  have e3:=(Same.newT (Same.new (o:=.tup (map V.str ["seal","couples","places","parts","deciders"]++map V.str ["card","show","leave","step"])) hp) (o:=.tup ((map V.str ["seal","couples","places","parts","deciders"]++map V.str ["card","show","leave","step"])++map V.str ["strike","step","row"])) hp2) _ _ e1
  refine⟨p2,_,rfl,.inr (.inl (.inl zf)),rfl,by rfl,_,rfl,zH ?_ ?_⟩
  ·show(!M20.inW f (M20.BARE++M20.zbo++M20.zch))=false
   rw[hR.inAll]
   rfl
  generalize hH3:upd (upd H1 p _) p2 _=H3 at s3 e3 ⊢
  refine⟨_,rfl,fun a4 h4=>⟨a4,_,rfl,.inr (h4 _),rfl,by rfl,_,rfl,?_⟩⟩
  show if(!M20.inW f M20.zbo)=true then _ else _
  cases hJ:M20.inW f M20.zbo with
  | false =>
    have ej:=hR.nojud hJ
    have ew:(M20.zap f j ns).map V.str=.str f::(ns.map M20.zbY).map V.str:=by
     unfold M20.zap
     rw[if_neg (by rw[hJ];exact Bool.false_ne_true)]
     rfl
    rw[ew] at e3
    refine zdG ?_
    refine⟨_,rfl,_,rfl,_,rfl,_,rfl,l1,_,rfl,SqL.of e3,fun l5 hl5=>?_⟩
    have s5:=Same.new (o:=.lst (zcH (.str f::(ns.map M20.zbY).map V.str) (some 1) none)) hl5
    have e5:upd H3 l5 (.lst (zcH (.str f::(ns.map M20.zbY).map V.str) (some 1) none)) l5=some (.lst ((ns.map M20.zbY).map V.str)):=by rw[zf,zfg (by decide)];rfl
    refine⟨f,l5,ns,rfl,SqL.of e5,hR.due,hR.rng,by have:=hR.len;omega,fun l6 H6 s6 f6 e6=>⟨(by show 3≤sizeLine;decide),fun t7 ht7=>?_⟩⟩
    have sA:=(s3.trans s5).trans s6
    rw[←ej]
    exact q t7 l6 _ (sA.newT ht7) (sA.free ht7) ((s3.trans s5).free f6) zf ((Same.new ht7) _ _ e6)
  | true =>
    have ew:(M20.zap f j ns).map V.str=.str f :: .str j::(ns.map M20.zbY).map V.str:=by
     unfold M20.zap
     rw[if_pos hJ]
     rfl
    rw[ew] at e3
    refine zao ?_
    refine⟨_,rfl,l1,_,rfl,.inl (SqL.of e3),rfl,_,rfl,zH ?_ ?_⟩
    ·refine decide_eq_false fun z=>?_
     injection z with z
     simp only[length_cons,length_map] at z
     omega
    refine⟨_,rfl,_,rfl,l1,_,_,.str j,rfl,rfl,SqL.of e3,we (j:=1) rfl,_,rfl,_,rfl,_,rfl,l1,_,rfl,SqL.of e3,fun l5 hl5=>?_⟩
    have s5:=Same.new (o:=.lst (zcH (.str f :: .str j::(ns.map M20.zbY).map V.str) (some 2) none)) hl5
    have e5:upd H3 l5 (.lst (zcH (.str f :: .str j::(ns.map M20.zbY).map V.str) (some 2) none)) l5=some (.lst ((ns.map M20.zbY).map V.str)):=by rw[zf,zfg (by decide)];rfl
    refine⟨f,l5,ns,rfl,SqL.of e5,hR.due,hR.rng,by have:=hR.len;omega,fun l6 H6 s6 f6 e6=>⟨(by show 3≤sizeLine;decide),fun t7 ht7=>?_⟩⟩
    have sA:=(s3.trans s5).trans s6
    exact q t7 l6 _ (sA.newT ht7) (sA.free ht7) ((s3.trans s5).free f6) zf ((Same.new ht7) _ _ e6)
def za1(K:Frag):Sp:=fun vs H Q _=>∃(a b:Addr)(cs:List (List Int)) (us:List Int),vs=[.ref a,.ref b]∧Refs K (IL K) H a cs∧SqL K H b (us.map V.int)∧us.Nodup∧(∀d∈cs,d.Perm us)∧1≤cs.length∧cs.length≤15∧1≤us.length∧us.length≤24∧∀(l:Addr)(H':Hp),Same H H'→H l=none→H' l=some (.lst ((M6.zR cs us).map V.int))→Q (.ref l) H'
theorem zg7{f:Addr}{fd:FuncData}(F:Fun K "places_of" "places_of" yS f fd)(T:Txt K mg)(C_marks_of:Can P w K mg base 2 "marks_of" ["cards","couple"] (zcs K))(C_place_among:Can P w K mg base 5 "place_among" ["rows","own"] (zbu K)):FnOk P w K mg base CX0 6 f fd ["cards","couples"] (za1 K):=by
 refine F.ok zdM (fun vs H Q E h=>?_) (fun cdv A outer s H vs Q E hr h=>?_)
 ·obtain⟨a,b,cs,us,rfl,_⟩:=h
  rfl
 ·obtain⟨a,b,cs,us,rfl,hC,hU,hnd,hp,c1,c2,u1,u2,q⟩:=h
  refine⟨_,(ze (zy (i:=2) zdM.nd rfl (Or.inr rfl) (zT (show CompScope (zb yS) ["cards","couples","rows"] "couple" ["cards"] [0] _ from⟨rfl,by decide +kernel,by decide +kernel,rfl,by decide +kernel,rfl,by decide +kernel,by decide +kernel⟩) rfl (zJ (pv 1)) (fun _ _ _ _ _=>yM) (fun _ _ _ _ _=>(zm C_marks_of (hM hr) rfl (za (pv 1) (za (pv 0) zc))))))
   (zd (zi (zT (show CompScope (zb yS) ["cards","couples","rows"] "own" ["rows"] [2] _ from⟨rfl,by decide +kernel,by decide +kernel,rfl,by decide +kernel,rfl,by decide +kernel,by decide +kernel⟩) rfl (zJ (pv 2)) (fun _ _ _ _ _=>yM) (fun _ _ _ _ _=>(zm C_place_among (hM hr) rfl (za (pv 1) (za (pv 0) zc)))))))),?_⟩
  have hln:=zx
  refine⟨_,rfl,b,rfl,⟨_,hU⟩,?_⟩
  refine zO (xs:=us.map V.int) (fun i ys H2=>∃ks:List Addr,ys=ks.map V.ref∧Same H H2∧All2 (IL K H2) ks ((us.take i).map (M5.zA cs))) ⟨[],rfl,Same.refl _,.nil⟩ ?_ (by rw[length_map];omega) ?_ ?_
  ·rintro i ys H2 hi ⟨ks,rfl,s2,r2⟩
   refine⟨s2.seq hU,?_⟩
   have:=r2.length
   rw[length_map,length_take] at this
   rw[length_map]
   omega
  ·rintro i x ys H2 hx ⟨ks,rfl,s2,r2⟩
   obtain⟨hi,rfl⟩:=yV hx
   refine⟨_,rfl,_,rfl,a,cs,_,rfl,hC.same (IL.stays K) s2,by omega,fun d hd=>(hp d hd).mem_iff.mpr (zam hi),fun l H3 s3 f3 e3=>?_⟩
   refine⟨ks++[l],by rw[map_append];rfl,s2.trans s3,?_⟩
   rw[yt hi,map_append]
   exact(r2.imp fun _ _=>IL.stays K _ _ _ _ s3).snoc (show IL K _ l _ from SqL.of e3)
  ·rintro ys H2 ⟨ks,rfl,s2,r2⟩ l hl
   rw[length_map,take_length] at r2
   generalize hH3:upd H2 l _=H3
   have s23:Same H2 H3:=by rw[←hH3];exact Same.new hl
   have e3:H3 l=some (.lst (ks.map V.ref)):=by rw[←hH3];exact zf
   have r3:=r2.imp fun _ _=>IL.stays K _ _ _ _ s23
   have s3:=s2.trans s23
   have hk:=r3.length
   rw[length_map] at hk
   refine⟨_,rfl,l,rfl,⟨_,SqL.of e3⟩,?_⟩
   refine zO (xs:=ks.map V.ref) (fun i ys H4=>Same H3 H4∧ys=((us.take i).map fun c=>1+(((us.map (M5.zA cs)).filter fun r=>M6.yi r (M5.zA cs c) 24).length:Int)).map V.int) ⟨Same.refl _,rfl⟩ ?_ (by rw[length_map];omega) ?_ ?_
   ·rintro i ys H4 hi ⟨s4,rfl⟩
    refine⟨s4.seq (SqL.of e3),?_⟩
    rw[length_map,length_map,length_take]
    omega
   ·rintro i x ys H4 hx ⟨s4,rfl⟩
    obtain⟨p,ep,rfl⟩:=zaf hx
    obtain⟨m,em,rm⟩:=r3.getL ep
    rw[getElem?_map] at em
    cases eu:us[i]? with
    | none=>rw[eu] at em;cases em
    | some c =>
      rw[eu] at em
      cases em
      have hc:=mem_of_getElem? eu
      have rng:∀d∈us,(M5.zA cs d).length=cs.length∧∀x∈M5.zA cs d,1≤x∧x≤24:=fun d hd=>⟨M5.zaI cs d,fun x hx=>by have:=M6.zaN hp hd x hx;omega⟩
      refine⟨_,rfl,_,rfl,l,p,us.map (M5.zA cs),M5.zA cs c,rfl,⟨ks,s4.seq (SqL.of e3),r3.imp fun _ _=>IL.stays K _ _ _ _ s4⟩,s4.seq rm,fun r hr=>?_,(rng c hc).2,by rw[(rng c hc).1];exact c1,by rw[(rng c hc).1];omega,by rw[length_map];omega,fun H5 s5=>⟨s4.trans s5,?_⟩⟩
      ·obtain⟨d,hd,rfl⟩:=List.mem_map.mp hr
       exact⟨by rw[(rng d hd).1,(rng c hc).1],(rng d hd).2⟩
      ·rw[take_succ,eu,map_append,map_append]
       rfl
   ·rintro ys H4 ⟨s4,rfl⟩ p hp'
    rw[length_map,hk,take_length]
    have st:=s3.trans s4
    refine q p _ (st.newT hp') ?_ ?_
    ·cases e:H p with
     | none=>rfl
     | some u=>have:=st p u e;rw[hp'] at this;cases this
    ·rw[M6.places_24 hp u1 u2]
     exact zf
def zcT(K:Frag):Sp:=fun vs H Q E=>∃(p:Addr)(F:Addr→Prop)(S:Sh),vs=[.ref p]∧SheetAt K H p F S∧(S.handed.length=0→∀C H',ClsN K "TooFewCards" C→Same H H'→E (.ref C) none H')∧(1≤S.handed.length→∀(l:Addr)(H':Hp),Same H H'→H l=none→H' l=some (.lst ((M6.zR S.cardsIn S.couples).map V.int))→Q (.ref l) H')
theorem ok_places{f:Addr}{fd:FuncData}(F:Fun K "places" "places" zbU f fd)(T:Txt K mg)(C_places_of:Can P w K mg base 6 "places_of" ["cards","couples"] (za1 K))(C_refuse_fewer_cards:CanX P w K mg base 2 "refuse_fewer_cards" ["sheet","least"] (yl K))(C_Sheet_couples:CanM P w K mg base 1 (zE K "Sheet") "couples" ["self"] (yQ K))(C_Sheet_cards:CanM P w K mg base 3 (zE K "Sheet") "cards" ["self"] (wv K)):FnOk P w K mg base (CX1 P w) 7 f fd ["sheet"] (zcT K):=by
 refine F.okX sc_places (fun vs H Q E h=>?_) (fun X W cdv A outer s H vs Q E hX hW fl md hr h=>?_)
 ·obtain⟨p,F,S,rfl,_⟩:=h
  rfl
 ·obtain⟨p,F,S,rfl,hSh,qE,q⟩:=h
  subst hX
  refine⟨_,(ze (zY (zcO C_refuse_fewer_cards fl (hM hr) rfl (za (pv 0) (za zh zc))))
   (zd (zi (zm C_places_of (hM hr) rfl (za (yw C_Sheet_cards T.cl_Sheet (hM hr) (pv 0)) (za (yw C_Sheet_couples T.cl_Sheet (hM hr) (pv 0)) zc)))))),?_⟩
  have ok:=hSh.ok
  have h15:S.handed.length≤15:=le_trans (length_filter_le _ _) ok.p15
  have c24:=ok.c24
  obtain⟨dx,b1,b2,b3,d,hip⟩:=hSh.ins
  refine⟨_,rfl,p,F,S,1,rfl,hSh,(fun h C H1 hC s1=>by rw[hW];exact qE (by omega) C H1 hC s1),fun h0 H1 s1=>?_⟩
  have h1:1≤S.handed.length:=by omega
  refine⟨_,rfl,p,dx,_,rfl,s1 _ _ hip,rfl,p,F,S,rfl,hSh.same s1,fun l2 H2 ls s2 f2 e2 r2=>?_⟩
  have t2:=s1.trans s2
  refine⟨_,rfl,p,dx,_,rfl,t2 _ _ hip,rfl,p,F,S,rfl,hSh.same t2,fun l3 H3 s3 f3 e3=>?_⟩
  have t3:=t2.trans s3
  refine⟨l2,l3,S.cardsIn,S.couples,rfl,⟨ls,SqL.of (s3 _ _ e2),r2.imp fun _ _ z=>SqL.of (s3 _ _ z.2)⟩,SqL.of e3,ok.nd,Sh.cardsIn_perm ok,by rw[Sh.cardsIn_len];exact h1,by rw[Sh.cardsIn_len];exact h15,ok.c1,by omega,fun l4 H4 s4 f4 e4=>?_⟩
  exact q h1 l4 H4 (t3.trans s4) (t3.free f4) e4
def zcw(K:Frag):Sp:=fun vs H Q _=>∃(a b:Addr)(ps us:List Int),vs=[.ref a,.ref b]∧SqL K H a (ps.map V.int)∧SqL K H b (us.map V.int)∧ps.length=us.length∧(∀k,k<us.length→1≤ps.getD k 0∧ps.getD k 0≤us.length)∧1≤us.length∧us.length≤24∧LamS (zbx K "by_place") zds H∧∀(l:Addr)(H':Hp)(ls:List Addr),SameN H H'→LamS (zbx K "by_place") zds H'→H l=none→H' l=some (.lst (ls.map V.ref))→All2 (TPl K H') ls (M5.rows ps us)→Q (.ref l) H'
theorem ziw{f:Addr}{fd:FuncData}(F:Fun K "by_place" "by_place" zau f fd)(T:Txt K mg)(L:Lam K "by_place" f)(B:zdI mg base)(C_places:CanX P w K mg base 7 "places" ["sheet"] (zcT K)):FnOk P w K mg base CX0 11 f fd ["places","couples"] (zcw K):=by
 refine F.okC L ziJ (fun vs H Q E h=>?_) (fun c A outer s H vs Q E hC hr h=>?_)
 ·obtain⟨a,b,ps,us,rfl,_⟩:=h
  rfl
 ·obtain⟨a,b,ps,us,rfl,hA,hB,hl,hk,u1,u2,hT,q⟩:=h
  refine⟨_,(zd (zi (pe_sortz2 rfl (hM hr) (by rfl) T.b_sorted (by rfl) T.b_zip rfl hC B ⟨rfl,rfl,rfl,by decide,rfl,by decide +kernel,by decide +kernel⟩ rfl (by decide) (by decide) rfl rfl (fun _ _ _ _ _ _=>rfl) (za (pv 0) (za (pv 1) zc))))),?_⟩
  refine⟨_,rfl,_,rfl,a,b,ps,us.map V.int,rfl,hA,hB,by rw[length_map];exact hl,by omega,by omega,hT,fun H2 ts l p sn ls pr hn hi=>?_⟩
  rw[hl] at hi
  have hm:∀i∈p.toList,i<us.length:=fun i h=>by
   rw[M15.is_idx hi hk] at h
   exact List.mem_range.mp ((M15.idx_mem _ _ hk i).mp h)
  have rr:=zhY (K:=K) hl pr p.toList hm
  rw[M15.rows_of hl hk hi] at rr
  refine q l _ (p.toList.map fun i=>ts.getD i 0) (sn.trans (Same.new hn).toN) (ls.same (Same.new hn)) (sn.free hn) ?_ (rr.imp fun _ _=>TPl.stays K _ _ _ _ (Same.new hn))
  rw[map_map]
  exact zf
def zbG(K:Frag):Sp:=fun vs H Q _=>∃(a b:Addr)(cs:List (List Int)) (us:List Int),vs=[.ref a,.ref b]∧Refs K (IL K) H a cs∧SqL K H b (us.map V.int)∧us.Nodup∧(∀d∈cs,d.Perm us)∧1≤cs.length∧cs.length≤15∧1≤us.length∧us.length≤24∧LamS (zbx K "by_place") zds H∧∀(l:Addr)(H':Hp)(ls:List Addr),SameN H H'→LamS (zbx K "by_place") zds H'→H l=none→H' l=some (.lst (ls.map V.ref))→All2 (TPl K H') ls (M5.rows (M6.zR cs us) us)→Q (.ref l) H'
theorem zf8{f:Addr}{fd:FuncData}(F:Fun K "ranking_of" "ranking_of" wC f fd)(T:Txt K mg)(C_places_of:Can P w K mg base 6 "places_of" ["cards","couples"] (za1 K))(C_by_place:Can P w K mg base 11 "by_place" ["places","couples"] (zcw K)):FnOk P w K mg base CX0 12 f fd ["cards","couples"] (zbG K):=by
 refine F.ok zgb (fun vs H Q E h=>?_) (fun cdv A outer s H vs Q E hr h=>?_)
 ·obtain⟨a,b,cs,us,rfl,_⟩:=h
  rfl
 ·obtain⟨a,b,cs,us,rfl,hC,hU,hnd,hp,c1,c2,u1,u2,hT,q⟩:=h
  refine⟨_,(zd (zi (zm C_by_place (hM hr) rfl (za (zm C_places_of (hM hr) rfl (za (pv 0) (za (pv 1) zc))) (za (pv 1) zc))))),?_⟩
  refine⟨_,rfl,_,rfl,a,b,cs,us,rfl,hC,hU,hnd,hp,c1,c2,u1,u2,fun l1 H1 s1 f1 e1=>?_⟩
  refine⟨_,rfl,l1,b,M6.zR cs us,us,rfl,SqL.of e1,s1.seq hU,M6.zc2 cs us,M6.zfo cs us,u1,u2,hT.same s1,fun l H' ls s2 z2 f2 e2 r2=>?_⟩
  exact q l H' ls (s1.toN.trans s2) z2 (s1.toN.free f2) e2 r2
def zdc(K:Frag):Sp:=fun vs H Q E=>∃(p:Addr)(F:Addr→Prop)(S:Sh),vs=[.ref p]∧SheetAt K H p F S∧LamS (zbx K "by_place") zds H∧(S.handed.length=0→∀C H',ClsN K "TooFewCards" C→Same H H'→E (.ref C) none H')∧(1≤S.handed.length→∀(l:Addr)(H':Hp)(ls:List Addr),SameN H H'→LamS (zbx K "by_place") zds H'→H l=none→H' l=some (.lst (ls.map V.ref))→All2 (TPl K H') ls (M5.rows (M6.zR S.cardsIn S.couples) S.couples)→Q (.ref l) H')
theorem zjs{f:Addr}{fd:FuncData}(F:Fun K "ranking" "ranking" zbd f fd)(T:Txt K mg)(C_ranking_of:Can P w K mg base 12 "ranking_of" ["cards","couples"] (zbG K))(C_refuse_fewer_cards:CanX P w K mg base 2 "refuse_fewer_cards" ["sheet","least"] (yl K))(C_Sheet_couples:CanM P w K mg base 1 (zE K "Sheet") "couples" ["self"] (yQ K))(C_Sheet_cards:CanM P w K mg base 3 (zE K "Sheet") "cards" ["self"] (wv K)):FnOk P w K mg base (CX1 P w) 13 f fd ["sheet"] (zdc K):=by
 refine F.okX zja (fun vs H Q E h=>?_) (fun X W cdv A outer s H vs Q E hX hW fl md hr h=>?_)
 ·obtain⟨p,F,S,rfl,_⟩:=h
  rfl
 ·obtain⟨p,F,S,rfl,hSh,hT,qE,q⟩:=h
  subst hX
  refine⟨_,(ze (zY (zcO C_refuse_fewer_cards fl (hM hr) rfl (za (pv 0) (za zh zc))))
   (zd (zi (zm C_ranking_of (hM hr) rfl (za (yw C_Sheet_cards T.cl_Sheet (hM hr) (pv 0)) (za (yw C_Sheet_couples T.cl_Sheet (hM hr) (pv 0)) zc)))))),?_⟩
  have ok:=hSh.ok
  have h15:S.handed.length≤15:=le_trans (length_filter_le _ _) ok.p15
  have c24:=ok.c24
  obtain⟨dx,b1,b2,b3,d,hip⟩:=hSh.ins
  refine⟨_,rfl,p,F,S,1,rfl,hSh,(fun h C H1 hC s1=>by rw[hW];exact qE (by omega) C H1 hC s1),fun h0 H1 s1=>?_⟩
  have h1:1≤S.handed.length:=by omega
  refine⟨_,rfl,p,dx,_,rfl,s1 _ _ hip,rfl,p,F,S,rfl,hSh.same s1,fun l2 H2 ls s2 f2 e2 r2=>?_⟩
  have t2:=s1.trans s2
  refine⟨_,rfl,p,dx,_,rfl,t2 _ _ hip,rfl,p,F,S,rfl,hSh.same t2,fun l3 H3 s3 f3 e3=>?_⟩
  have t3:=t2.trans s3
  refine⟨l2,l3,S.cardsIn,S.couples,rfl,⟨ls,SqL.of (s3 _ _ e2),r2.imp fun _ _ z=>SqL.of (s3 _ _ z.2)⟩,SqL.of e3,ok.nd,Sh.cardsIn_perm ok,by rw[Sh.cardsIn_len];exact h1,by rw[Sh.cardsIn_len];exact h15,ok.c1,by omega,hT.same t3,fun l4 H4 ls4 s4 z4 f4 e4 r4=>?_⟩
  exact q h1 l4 H4 ls4 (t3.toN.trans s4) z4 (t3.free f4) e4 r4
def zcb(K:Frag):Sp:=fun vs H Q E=>∃(p:Addr)(F:Addr→Prop)(S:Sh)(j l:V),vs=[.ref p,.str (Str.ofString "places"),j,l]∧SheetAt K H p F S∧LamS (zbx K "by_place") zds H∧(S.handed.length=0→∀C H',ClsN K "TooFewCards" C→Same H H'→E (.ref C) none H')∧(1≤S.handed.length→∀H',SameN H H'→LamS (zbx K "by_place") zds H'→Q (.str (Txt.join M6.wM ((M5.rows (M6.zR S.cardsIn S.couples) S.couples).map M6.zcI))) H')
theorem zg0{f:Addr}{fd:FuncData}(F:Fun K "only_told" "only_told" zac f fd)(T:Txt K mg)(C_ranking:CanX P w K mg base 13 "ranking" ["sheet"] (zdc K))(C_ranking_text:Can P w K mg base 1 "ranking_text" ["rows"] (zaR K)):FnOk P w K mg base (CX1 P w) 14 f fd ["sheet","first","judge","couples"] (zcb K):=by
 refine F.okX zht (fun vs H Q E h=>?_) (fun X W cdv A outer s H vs Q E hX hW fl md hr h=>?_)
 ·obtain⟨p,F,S,j,l,rfl,_⟩:=h
  rfl
 ·obtain⟨p,F,S,j,l,rfl,hS,hL,qE,q⟩:=h
  subst hX
  refine⟨_,(ze (zB (zp zV (pv 1) zw (zq _)) (zd yx) zr)
   (ze (zB (zp zV (pv 1) zw (zq _)) (zd yx) zr)
   (ze (zB (zp zV (pv 1) zw (zq _)) (zd (zi (zm C_ranking_text (hM hr) rfl (za (zcO C_ranking fl (hM hr) rfl (za (pv 0) zc)) zc)))) zr)
   (ze yx
   (ze yx
   (ze yx
   (ze yx
   (zd yx)))))))),?_⟩
  have ok:=hS.ok
  have c24:=ok.c24
  refine⟨_,rfl,rfl,_,rfl,zH (by decide) ?_⟩
  refine⟨_,rfl,rfl,_,rfl,zH (by decide) ?_⟩
  refine⟨_,rfl,rfl,_,rfl,zbE (by decide) ?_⟩
  refine⟨_,rfl,p,F,S,rfl,hS,hL,fun h0 C H' hC s'=>by rw[hW];exact qE h0 C H' hC s',fun h1 l1 H1 ls s1 z1 f1 e1 r1=>?_⟩
  refine⟨l1,ls,_,rfl,SqL.of e1,r1,by rw[M6.zic];omega,fun pr hpr=>?_,fun H2 s2=>q h1 H2 (s1.trans s2.toN) (z1.same s2)⟩
  obtain⟨m1,m2⟩:=M6.zir hpr
  have hr1:=M6.zhn (cs:=S.cardsIn) m1
  have hr2:=ok.rng _ m1
  have m2:pr.1=M6.plc S.cardsIn S.couples pr.2:=m2
  omega
def zaq(K:Frag):Sp:=fun vs H Q E=>∃(p:Addr)(F:Addr→Prop)(S:Sh)(f j:Str)(a:Addr)(ns:List Int),vs=[.ref p,.str f,.str j,.ref a]∧SheetAt K H p F S∧SqL K H a (ns.map V.int)∧ns.length<64 ∧
 ((f=Str.ofString "card"∧(∀c,S.refuse j ns=some c→∀C H',ClsN K c C→Same H H'→E (.ref C) none H')∧(S.refuse j ns=none→∀H' F',SheetAt K H' p F' (S.hand j ns)→Deed F H F' H'→Q (.str (Str.ofString "taken")) H')) ∨
  (f=Str.ofString "strike"∧∃n,ns=[n]∧(∀c,S.refuseS n=some c→∀C,ClsN K c C→E (.ref C) none H)∧(S.refuseS n=none→∀H' F',SheetAt K H' p F' (S.strike n)→Deed F H F' H'→Q (.str (Str.ofString "struck")) H')) ∨
  (f=Str.ofString "seal"∧(S.shut=true→∀C,ClsN K "SheetSealed" C→E (.ref C) none H)∧(S.shut=false→∀H',SheetAt K H' p F S.close→Deed F H F H'→Q (.str (Str.ofString "sealed")) H')) ∨
  (f=Str.ofString "places"∧LamS (zbx K "by_place") zds H∧(S.handed.length=0→∀C H',ClsN K "TooFewCards" C→Same H H'→E (.ref C) none H')∧(1≤S.handed.length→∀H',SameN H H'→LamS (zbx K "by_place") zds H'→Q (.str (Txt.join M6.wM ((M5.rows (M6.zR S.cardsIn S.couples) S.couples).map M6.zcI))) H')))
theorem zd9{f:Addr}{fd:FuncData}(F:Fun K "done_and_told" "done_and_told" yr f fd)(T:Txt K mg)(C_only_told:CanX P w K mg base 14 "only_told" ["sheet","first","judge","couples"] (zcb K))(C_Sheet_hand_in:CanMX P w K mg base 2 (zE K "Sheet") "hand_in" ["self","judge","card"] (wD K))(C_Sheet_strike:CanMX P w K mg base 2 (zE K "Sheet") "strike" ["self","couple"] (wQ K))(C_Sheet_seal:CanMX P w K mg base 2 (zE K "Sheet") "seal" ["self"] (zaH K)):FnOk P w K mg base (CX1 P w) 15 f fd ["sheet","first","judge","couples"] (zaq K):=by
 refine F.okX zd1 (fun vs H Q E h=>?_) (fun X W cdv A outer s H vs Q E hX hW fl md hr h=>?_)
 ·obtain⟨p,F,S,f,j,a,ns,rfl,_⟩:=h
  rfl
 ·obtain⟨p,F,S,f,j,a,ns,rfl,hS,hA,hz,h⟩:=h
  subst hX
  refine⟨_,(ze (zB (zp zV (pv 1) zw (zq _)) (ze (zY (zaM C_Sheet_hand_in T.cl_Sheet fl (hM hr) (pv 0) (za (pv 2) (za (pv 3) zc))))
   (zd (zi zw))) zr)
   (ze (zB (zp zV (pv 1) zw (zq _)) (ze (zY (zaM C_Sheet_strike T.cl_Sheet fl (hM hr) (pv 0) (za (zI zz (pv 3) zh (fun _ _=>rfl)) zc)))
   (zd (zi zw))) zr)
   (ze (zB (zp zV (pv 1) zw (zq _)) (ze (zY (zbS C_Sheet_seal T.cl_Sheet fl (hM hr) (pv 0)))
   (zd (zi zw))) zr)
   (zd (zi (zcO C_only_told fl (hM hr) rfl (za (pv 0) (za (pv 1) (za (pv 2) (za (pv 3) zc)))))))))),?_⟩
  obtain⟨dx,b1,b2,b3,d,hip⟩:=hS.ins
  rcases h with⟨rfl,qE,q⟩|⟨rfl,n,rfl,qE,q⟩|⟨rfl,qE,q⟩|⟨rfl,hL,qE,q⟩
  ·refine⟨_,rfl,rfl,_,rfl,zbE (by decide) ?_⟩
   exact⟨_,rfl,p,dx,_,rfl,hip,rfl,_,rfl,_,rfl,p,F,S,j,a,ns,rfl,hS,hA,hz,fun c hc C H' hC s'=>by rw[hW];exact qE c hc C H' hC s',fun hn H' F' h' d'=>q hn H' F' h' d'⟩
  ·refine⟨_,rfl,rfl,_,rfl,zH (by decide) ?_⟩
   refine⟨_,rfl,rfl,_,rfl,zbE (by decide) ?_⟩
   exact⟨_,rfl,p,dx,_,rfl,hip,rfl,_,rfl,a,_,_,_,rfl,rfl,hA,rfl,p,F,S,n,rfl,hS,fun c hc C hC=>by rw[hW];exact qE c hc C hC,fun hn H' F' h' d'=>q hn H' F' h' d'⟩
  ·refine⟨_,rfl,rfl,_,rfl,zH (by decide) ?_⟩
   refine⟨_,rfl,rfl,_,rfl,zH (by decide) ?_⟩
   refine⟨_,rfl,rfl,_,rfl,zbE (by decide) ?_⟩
   exact⟨_,rfl,p,dx,_,rfl,hip,rfl,p,F,S,rfl,hS,fun hs C hC=>by rw[hW];exact qE hs C hC,fun hs H' h' d'=>q hs H' h' d'⟩
  ·refine⟨_,rfl,rfl,_,rfl,zH (by decide) ?_⟩
   refine⟨_,rfl,rfl,_,rfl,zH (by decide) ?_⟩
   refine⟨_,rfl,rfl,_,rfl,zH (by decide) ?_⟩
   exact⟨_,rfl,_,rfl,_,rfl,_,rfl,p,F,S,_,_,rfl,hS,hL,fun h0 C H' hC s'=>by rw[hW];exact qE h0 C H' hC s',q⟩
def zcQ(K:Frag):Sp:=fun vs H Q _=>∃(p:Addr)(F:Addr→Prop)(S:Sh)(f j:Str)(ns:List Int),vs=[.ref p,.str (M20.row f j ns)]∧SheetAt K H p F S∧M20.Row f j ns ∧
 ((f=Str.ofString "card"∧(∀c,S.refuse j ns=some c→∀H',Same H H'→Q (.str (M6.zfR c)) H')∧(S.refuse j ns=none→∀H' F',SheetAt K H' p F' (S.hand j ns)→Deed F H F' H'→Q (.str (Str.ofString "taken")) H')) ∨
  (f=Str.ofString "strike"∧∃n,ns=[n]∧(∀c,S.refuseS n=some c→∀H',Same H H'→Q (.str (M6.zfR c)) H')∧(S.refuseS n=none→∀H' F',SheetAt K H' p F' (S.strike n)→Deed F H F' H'→Q (.str (Str.ofString "struck")) H')) ∨
  (f=Str.ofString "seal"∧(S.shut=true→∀H',Same H H'→Q (.str (M6.zfR ("SheetSealed":Str))) H')∧(S.shut=false→∀H',SheetAt K H' p F S.close→Deed F H F H'→Q (.str (Str.ofString "sealed")) H')) ∨
  (f=Str.ofString "places"∧LamS (zbx K "by_place") zds H∧(S.handed.length=0→∀H',Same H H'→Q (.str (M6.zfR ("TooFewCards":Str))) H')∧(1≤S.handed.length→∀H',SameN H H'→LamS (zbx K "by_place") zds H'→Q (.str (Txt.join M6.wM ((M5.rows (M6.zR S.cardsIn S.couples) S.couples).map M6.zcI))) H')))
theorem ok_answer{f:Addr}{fd:FuncData}(F:Fun K "answer" "answer" zbR f fd)(T:Txt K mg)(C_read_row:Can P w K mg base 5 "read_row" ["row"] (zcL K))(C_done_and_told:CanX P w K mg base 15 "done_and_told" ["sheet","first","judge","couples"] (zaq K)):FnOk P w K mg base CX0 16 f fd ["sheet","row"] (zcQ K):=by
 obtain⟨c_SheetSealed,n_SheetSealed,m_SheetSealed,x_SheetSealed⟩:=T.x_SheetSealed
 obtain⟨c_UnknownJudge,n_UnknownJudge,m_UnknownJudge,x_UnknownJudge⟩:=T.x_UnknownJudge
 obtain⟨c_BadCard,n_BadCard,m_BadCard,x_BadCard⟩:=T.x_BadCard
 obtain⟨c_TooManyCards,n_TooManyCards,m_TooManyCards,x_TooManyCards⟩:=T.x_TooManyCards
 obtain⟨c_UnknownCouple,n_UnknownCouple,m_UnknownCouple,x_UnknownCouple⟩:=T.x_UnknownCouple
 obtain⟨c_LastCouple,n_LastCouple,m_LastCouple,x_LastCouple⟩:=T.x_LastCouple
 obtain⟨c_NoCard,n_NoCard,m_NoCard,x_NoCard⟩:=T.x_NoCard
 obtain⟨c_TooFewCards,n_TooFewCards,m_TooFewCards,x_TooFewCards⟩:=T.x_TooFewCards
 obtain⟨c_BadRow,n_BadRow,m_BadRow,x_BadRow⟩:=T.x_BadRow
 refine F.ok zgM (fun vs H Q E h=>?_) (fun cdv A outer s H vs Q E hr h=>?_)
 ·obtain⟨p,F,S,f,j,ns,rfl,_⟩:=h
  rfl
 ·obtain⟨p,F,S,f,j,ns,rfl,hS,hR,h⟩:=h
  refine⟨_,(zd (ps_try rfl rfl (fun _ _ _ fl=>(ze (zy (i:=2) zgM.nd rfl (Or.inl rfl) (zm C_read_row (hM hr) rfl (za (pv 1) zc)))
   (zd (zi (zcO C_done_and_told fl (hM hr) rfl (za (pv 0) (za (zI (zhr (K:=K) rfl) (pv 2) zh (fun _ _=>rfl)) (za (zI (zhr (K:=K) rfl) (pv 2) zh (fun _ _=>rfl)) (za (zI (zhr (K:=K) rfl) (pv 2) zh (fun _ _=>rfl)) zc))))))))) (zdB rfl m_BadRow x_BadRow (fun _=>(zd yx)) (zdB rfl m_SheetSealed x_SheetSealed (fun _=>(zd (zi zw))) (zdB rfl m_UnknownJudge x_UnknownJudge (fun _=>(zd (zi zw))) (zdB rfl m_BadCard x_BadCard (fun _=>(zd (zi zw))) (zdB rfl m_TooManyCards x_TooManyCards (fun _=>(zd (zi zw))) (zdB rfl m_UnknownCouple x_UnknownCouple (fun _=>(zd (zi zw))) (zdB rfl m_LastCouple x_LastCouple (fun _=>(zd (zi zw))) (zdB rfl m_NoCard x_NoCard (fun _=>(zd yx)) (zdB rfl m_TooFewCards x_TooFewCards (fun _=>(zd (zi zw))) ziq))))))))))),?_⟩
  refine⟨fun σ1 cls H2=>∃c C,ClsN K c C∧cls=.ref C∧Same H H2∧(∀H',Same H H'→Q (.str (M6.zfR c)) H')∧(c=("SheetSealed":Str)∨c=("UnknownJudge":Str)∨c=("BadCard":Str)∨c=("TooManyCards":Str)∨c=("UnknownCouple":Str)∨c=("LastCouple":Str)∨c=("TooFewCards":Str)),?_,?_⟩
  ·refine⟨_,rfl,_,_,_,rfl,hR,fun t l H1 s1 f1 f2 e1 e2=>?_⟩
   have q1:SqT K H1 t [.str f,.str j,.ref l]:=.inl (.inl e1)
   have hl:=hR.len
   refine⟨_,rfl,_,rfl,t,_,_,_,rfl,rfl,q1,rfl,_,rfl,t,_,_,_,rfl,rfl,q1,rfl,_,rfl,t,_,_,_,rfl,rfl,q1,rfl,p,F,S,f,j,l,ns,rfl,hS.same s1,SqL.of e2,by omega,?_⟩
   have D1:∀{F':Addr→Prop}{H':Hp},Deed F H1 F' H'→Deed F H F' H':=fun d b o e n=>d b o (s1 _ _ e) n
   rcases h with⟨rfl,qE,q⟩|⟨rfl,n,rfl,qE,q⟩|⟨rfl,qE,q⟩|⟨rfl,hL,qE,q⟩
   ·refine .inl ⟨rfl,fun c hc C H' hC s'=>⟨c,C,hC,rfl,s1.trans s',qE c hc,?_⟩,fun hn H' F' h' d'=>q hn H' F' h' (D1 d')⟩
    rcases Sh.refuse_cases hc with rfl | rfl | rfl | rfl <;> simp
   ·refine .inr (.inl ⟨rfl,n,rfl,fun c hc C hC=>⟨c,C,hC,rfl,s1,qE c hc,?_⟩,fun hn H' F' h' d'=>q hn H' F' h' (D1 d')⟩)
    rcases Sh.refuseS_cases hc with rfl | rfl | rfl <;> simp
   ·exact .inr (.inr (.inl ⟨rfl,fun hs C hC=>⟨_,C,hC,rfl,s1,qE hs,.inl rfl⟩,fun hs H' h' d'=>q hs H' h' (D1 d')⟩))
   ·exact .inr (.inr (.inr ⟨rfl,hL.same s1,fun h0 C H' hC s'=>⟨_,C,hC,rfl,s1.trans s',qE h0,by simp⟩,fun h1 H' s' z'=>q h1 H' (s1.toN.trans s') z'⟩))
  ·rintro σ1 cls H2 ⟨c,C,hC,rfl,s2,qc,hc⟩
   have qc:=qc _ s2
   rcases hc with rfl | rfl | rfl | rfl | rfl | rfl | rfl
   ·cases ClsN.inj hC n_SheetSealed
    refine⟨_,rfl,x_SheetSealed,zH (T.s_SheetSealed_BadRow _ _ n_SheetSealed n_BadRow) ?_⟩
    refine⟨_,rfl,x_SheetSealed,zbE (T.s_SheetSealed_SheetSealed _ _ n_SheetSealed n_SheetSealed) ?_⟩
    exact qc
   ·cases ClsN.inj hC n_UnknownJudge
    refine⟨_,rfl,x_UnknownJudge,zH (T.s_UnknownJudge_BadRow _ _ n_UnknownJudge n_BadRow) ?_⟩
    refine⟨_,rfl,x_UnknownJudge,zH (T.s_UnknownJudge_SheetSealed _ _ n_UnknownJudge n_SheetSealed) ?_⟩
    refine⟨_,rfl,x_UnknownJudge,zbE (T.s_UnknownJudge_UnknownJudge _ _ n_UnknownJudge n_UnknownJudge) ?_⟩
    exact qc
   ·cases ClsN.inj hC n_BadCard
    refine⟨_,rfl,x_BadCard,zH (T.s_BadCard_BadRow _ _ n_BadCard n_BadRow) ?_⟩
    refine⟨_,rfl,x_BadCard,zH (T.s_BadCard_SheetSealed _ _ n_BadCard n_SheetSealed) ?_⟩
    refine⟨_,rfl,x_BadCard,zH (T.s_BadCard_UnknownJudge _ _ n_BadCard n_UnknownJudge) ?_⟩
    refine⟨_,rfl,x_BadCard,zbE (T.s_BadCard_BadCard _ _ n_BadCard n_BadCard) ?_⟩
    exact qc
   ·cases ClsN.inj hC n_TooManyCards
    refine⟨_,rfl,x_TooManyCards,zH (T.s_TooManyCards_BadRow _ _ n_TooManyCards n_BadRow) ?_⟩
    refine⟨_,rfl,x_TooManyCards,zH (T.s_TooManyCards_SheetSealed _ _ n_TooManyCards n_SheetSealed) ?_⟩
    refine⟨_,rfl,x_TooManyCards,zH (T.s_TooManyCards_UnknownJudge _ _ n_TooManyCards n_UnknownJudge) ?_⟩
    refine⟨_,rfl,x_TooManyCards,zH (T.s_TooManyCards_BadCard _ _ n_TooManyCards n_BadCard) ?_⟩
    refine⟨_,rfl,x_TooManyCards,zbE (T.s_TooManyCards_TooManyCards _ _ n_TooManyCards n_TooManyCards) ?_⟩
    exact qc
   ·cases ClsN.inj hC n_UnknownCouple
    refine⟨_,rfl,x_UnknownCouple,zH (T.s_UnknownCouple_BadRow _ _ n_UnknownCouple n_BadRow) ?_⟩
    refine⟨_,rfl,x_UnknownCouple,zH (T.s_UnknownCouple_SheetSealed _ _ n_UnknownCouple n_SheetSealed) ?_⟩
    refine⟨_,rfl,x_UnknownCouple,zH (T.s_UnknownCouple_UnknownJudge _ _ n_UnknownCouple n_UnknownJudge) ?_⟩
    refine⟨_,rfl,x_UnknownCouple,zH (T.s_UnknownCouple_BadCard _ _ n_UnknownCouple n_BadCard) ?_⟩
    refine⟨_,rfl,x_UnknownCouple,zH (T.s_UnknownCouple_TooManyCards _ _ n_UnknownCouple n_TooManyCards) ?_⟩
    refine⟨_,rfl,x_UnknownCouple,zbE (T.s_UnknownCouple_UnknownCouple _ _ n_UnknownCouple n_UnknownCouple) ?_⟩
    exact qc
   ·cases ClsN.inj hC n_LastCouple
    refine⟨_,rfl,x_LastCouple,zH (T.s_LastCouple_BadRow _ _ n_LastCouple n_BadRow) ?_⟩
    refine⟨_,rfl,x_LastCouple,zH (T.s_LastCouple_SheetSealed _ _ n_LastCouple n_SheetSealed) ?_⟩
    refine⟨_,rfl,x_LastCouple,zH (T.s_LastCouple_UnknownJudge _ _ n_LastCouple n_UnknownJudge) ?_⟩
    refine⟨_,rfl,x_LastCouple,zH (T.s_LastCouple_BadCard _ _ n_LastCouple n_BadCard) ?_⟩
    refine⟨_,rfl,x_LastCouple,zH (T.s_LastCouple_TooManyCards _ _ n_LastCouple n_TooManyCards) ?_⟩
    refine⟨_,rfl,x_LastCouple,zH (T.s_LastCouple_UnknownCouple _ _ n_LastCouple n_UnknownCouple) ?_⟩
    refine⟨_,rfl,x_LastCouple,zbE (T.s_LastCouple_LastCouple _ _ n_LastCouple n_LastCouple) ?_⟩
    exact qc
   ·cases ClsN.inj hC n_TooFewCards
    refine⟨_,rfl,x_TooFewCards,zH (T.s_TooFewCards_BadRow _ _ n_TooFewCards n_BadRow) ?_⟩
    refine⟨_,rfl,x_TooFewCards,zH (T.s_TooFewCards_SheetSealed _ _ n_TooFewCards n_SheetSealed) ?_⟩
    refine⟨_,rfl,x_TooFewCards,zH (T.s_TooFewCards_UnknownJudge _ _ n_TooFewCards n_UnknownJudge) ?_⟩
    refine⟨_,rfl,x_TooFewCards,zH (T.s_TooFewCards_BadCard _ _ n_TooFewCards n_BadCard) ?_⟩
    refine⟨_,rfl,x_TooFewCards,zH (T.s_TooFewCards_TooManyCards _ _ n_TooFewCards n_TooManyCards) ?_⟩
    refine⟨_,rfl,x_TooFewCards,zH (T.s_TooFewCards_UnknownCouple _ _ n_TooFewCards n_UnknownCouple) ?_⟩
    refine⟨_,rfl,x_TooFewCards,zH (T.s_TooFewCards_LastCouple _ _ n_TooFewCards n_LastCouple) ?_⟩
    refine⟨_,rfl,x_TooFewCards,zH (T.s_TooFewCards_NoCard _ _ n_TooFewCards n_NoCard) ?_⟩
    refine⟨_,rfl,x_TooFewCards,zbE (T.s_TooFewCards_TooFewCards _ _ n_TooFewCards n_TooFewCards) ?_⟩
    exact qc
def zbD(K:Frag):Sp:=fun vs H Q _=>∃(p:Addr)(F:Addr→Prop)(S:Sh)(d:Int)(j:Str)(c:Int)(a:Addr)(ns:List Int),vs=[.ref p,.int d,.str j,.int c,.ref a]∧SheetAt K H p F S∧H a=some (.lst (ns.map V.int))∧ns.length≤24∧(∀n∈ns,1≤n∧n≤999)∧(1≤c∧c≤999)∧M2.zcA j=true∧(d=0∨d=1∨d=2) ∧
 (∀x,S.refD d j c ns=some x→∀H',Same H H'→Q (.str (M6.zfR x)) H')∧(S.refD d j c ns=none→∀H' F',SheetAt K H' p F' (S.doD d j c ns)→Deed F H F' H'→Q (.str (M6.okW d)) H')
theorem zfT{f:Addr}{fd:FuncData}(F:Fun K "_law_by_row" "_law_by_row" wy f fd)(T:Txt K mg)(C_answer:Can P w K mg base 16 "answer" ["sheet","row"] (zcQ K))(C_law_words:Can P w K mg base 1 "_law_words" ["_law_things"] (za2 K)):FnOk P w K mg base CX0 17 f fd ["_law_sheet","_law_deed_here","_law_judge","_law_couple","_law_card_here"] (zbD K):=by
 refine F.ok zcX (fun vs H Q E h=>?_) (fun cdv A outer s H vs Q E hr h=>?_)
 ·obtain⟨p,F,S,d,j,c,a,ns,rfl,_⟩:=h
  rfl
 ·obtain⟨p,F,S,d,j,c,a,ns,rfl,hSh,hA,hl,hn,hc,hg,hd,qE,q⟩:=h
  refine⟨_,(ze (zy (i:=5) zcX.nd rfl (Or.inl rfl) (zI zz (yT (za (zv yz zw (zm C_law_words (hM hr) rfl (za (zv zjd (yT (za (pv 2) zc)) (pv 4)) zc))) (za (zv yz zw (zF zdm (by rfl) T.b_str boot_str (za (pv 3) zc))) (za zw zc)))) (pv 1) (fun _ _=>rfl)))
   (zd (zi (zm C_answer (hM hr) rfl (za (pv 0) (za (pv 5) zc)))))),?_⟩
  have hln:=zx
  have hjl:=((M2.za8 j).mp hg).1.2
  have hR0:=M6.Row_card (M6.name_wd hg) hn hl
  have hrl:=M20.row_len hR0
  have hcl:=M6.zdD hc
  have lst:(Str.ofString "strike ").length=7:=by decide +kernel
  refine⟨_,rfl,(by show 1≤sizeLine;decide),fun l1 hl1=>?_⟩
  have s1:=Same.new (o:=.lst [V.str j]) hl1
  refine⟨_,rfl,l1,a,_,_,rfl,rfl,zf,s1 _ _ hA,by rw[length_map];simp only[length_cons,length_nil];omega,fun l2 hl2=>?_⟩
  have s2:=s1.newT (o:=.lst ([V.str j]++ns.map V.int)) hl2
  have e2:upd (upd H l1 (.lst [V.str j])) l2 (.lst ([V.str j]++ns.map V.int)) l2=some (.lst ([V.str j]++ns.map V.int)):=zf
  generalize hH2:upd (upd H l1 _) l2 _=H2 at s2 e2 ⊢
  refine⟨l2,V.str j::ns.map V.int,j::ns.map tN,rfl,SqL.of e2,.cons .str (zfw fun n h=>by have:=hn n h;omega),by simp only[length_cons,length_map];omega,fun w hw=>?_,fun H3 s3=>?_⟩
  ·rcases List.mem_cons.mp hw with rfl | hw
   ·omega
   ·obtain⟨n,h,rfl⟩:=List.mem_map.mp hw
    have:=M6.zdD (hn n h)
    omega
  have t3:=s2.trans s3
  have hrow:Str.ofString "card " ++ Txt.join M6.wM (j::ns.map tN)=M20.row (Str.ofString "card") j ns:=M6.row_words
  refine⟨_,_,rfl,rfl,(by rw[←wE];rw[hrow];omega),?_⟩
  rw[hrow]
  refine⟨_,rfl,.inl ⟨_,rfl,zd2 (by omega),_,_,rfl,rfl,(by show(Str.ofString "strike ").length+(tN c).length≤sizeLine;omega),?_⟩⟩
  have hrow1:Str.ofString "strike " ++ Str.ofString (toString c)=M20.row (Str.ofString "strike") (Str.ofString "") [c]:=M6.ziX c
  rw[hrow1]
  refine⟨(by show 3≤sizeLine;decide),fun l4 hl4=>?_⟩
  have s4:=t3.newT (o:=.lst [V.str (M20.row (Str.ofString "card") j ns),V.str (M20.row (Str.ofString "strike") (Str.ofString "") [c]),V.str (Str.ofString "seal")]) hl4
  have h4:=hSh.same s4
  have D1:∀{F':Addr→Prop}{H2 H':Hp},Same H H2→Deed F H2 F' H'→Deed F H F' H':=fun s d b o e n=>d b o (s _ _ e) n
  rcases hd with rfl | rfl | rfl
  ·refine⟨_,rfl,l4,_,_,_,rfl,rfl,SqL.new,rfl,?_⟩
   exact⟨_,rfl,_,rfl,p,F,S,_,j,ns,rfl,h4,hR0,.inl ⟨rfl,fun x hx H' s'=>qE x hx H' (s4.trans s'),fun hnn H' F' h' d'=>q hnn H' F' h' (D1 s4 d')⟩⟩
  ·refine⟨_,rfl,l4,_,_,_,rfl,rfl,SqL.new,rfl,?_⟩
   exact⟨_,rfl,_,rfl,p,F,S,_,_,[c],rfl,h4,M6.zjf hc,.inr (.inl ⟨rfl,c,rfl,fun x hx H' s'=>qE x hx H' (s4.trans s'),fun hnn H' F' h' d'=>q hnn H' F' h' (D1 s4 d')⟩)⟩
  ·refine⟨_,rfl,l4,_,_,_,rfl,rfl,SqL.new,rfl,?_⟩
   have er:∀b:Bool,S.shut=b→S.refD 2 j c ns=if b=true then some ("SheetSealed":Str)else none:=fun b hb=>by
    unfold Sh.refD
    rw[if_neg (by decide),if_neg (by decide),hb]
   refine⟨_,rfl,_,rfl,p,F,S,_,_,[],(by rw[M6.zio.1];rfl),h4,M6.Row_seal,.inr (.inr (.inl ⟨rfl,fun hs H' s'=>qE _ ?_ H' (s4.trans s'),fun hs H' h' d'=>q ?_ H' F h' (D1 s4 d')⟩))⟩
   ·rw[er true hs,if_pos rfl]
   ·rw[er false hs,if_neg Bool.false_ne_true]
/-- the law's own state of a sheet -/
structure St5 (H:Hp) (F:Addr→Prop) (S:Sh) (st u g k:Addr) (ls:List Addr):Prop where
 hst:H st=some (.lst [.ref u,.ref g,.ref k,.int S.taken,.bl S.shut])
 nst:¬F st
 hu:H u=some (.lst (S.couples.map V.int))
 nu:¬F u
 hg:H g=some (.lst (S.struck.map V.int))
 ng:¬F g
 hr:Rows F H k ls S.rows
 ug:u≠g
 lg:∀l∈ls,l≠g
theorem St5.same{H H':Hp}{F:Addr→Prop}{S:Sh}{st u g k:Addr}{ls:List Addr}(h:St5 H F S st u g k ls)(s:Same H H'):St5 H' F S st u g k ls :=
 ⟨s _ _ h.hst,h.nst,s _ _ h.hu,h.nu,s _ _ h.hg,h.ng,h.hr.same s,h.ug,h.lg⟩
def zcu(K:Frag):Sp:=fun vs H Q _=>∃(p:Addr)(F:Addr→Prop)(S:Sh)(cell:Int)(n st u g k:Addr)(ls:List Addr)(y:Int),vs=[.ref p,.int cell,.ref n,.ref st,.int y]∧SheetAt K H p F S∧(H n=some (.lst (S.panel.map V.str))∧¬F n)∧(∀z∈S.panel,M2.zcA z=true)∧S.taken<200∧St5 H F S st u g k ls ∧
 ∀(H':Hp)(F':Addr→Prop)(S':Sh)(u' k':Addr)(ls':List Addr),SheetAt K H' p F' S'→St5 H' F' S' st u' g k' ls'→S'.panel=S.panel→S'.taken≤S.taken+1→(∀b o,H b=some o→¬F b→b≠st→b≠g→b≠k→H' b=some o∧¬F' b)→Q (.bl true) H'
theorem zh7{f:Addr}{fd:FuncData}(F:Fun K "_law_deed" "_law_deed" wU f fd)(T:Txt K mg)(C_law_dealt:Can P w K mg base 3 "_law_dealt" ["_law_cell","_law_used","_law_couples_here","_law_style"] (zb4 K))(C_law_without:Can P w K mg base 1 "_law_without" ["_law_card_here","_law_couple"] (zbk K))(C_law_by_method:Can P w K mg base 3 "_law_by_method" ["_law_sheet","_law_deed_here","_law_judge","_law_couple","_law_card_here"] (zaw K))(C_law_by_row:Can P w K mg base 17 "_law_by_row" ["_law_sheet","_law_deed_here","_law_judge","_law_couple","_law_card_here"] (zbD K))(C_law_due:Can P w K mg base 2 "_law_due" ["_law_deed_here","_law_shut","_law_couples_here","_law_couple","_law_card_here"] (zc4 K)):FnOk P w K mg base CX0 18 f fd ["_law_sheet","_law_cell","_law_names_here","_law_state","_law_style"] (zcu K):=by
 refine F.ok yc (fun vs H Q E h=>?_) (fun cdv A outer s H vs Q E hr h=>?_)
 ·obtain⟨p,F,S,cell,n,st,u,g,k,ls,y,rfl,_⟩:=h
  rfl
 ·obtain⟨p,F,S,cell,n,st,u,g,k,ls,y,rfl,hSh,hN,hg9,ht,hT,q⟩:=h
  refine⟨_,(ze (zy (i:=5) yc.nd rfl (Or.inl rfl) (zI zz (pv 3) zh (fun _ _=>rfl)))
   (@pss_pick _ 6 _ _ [0,0,0,0,0,0,1,1,1,2] _ _ _ _ _ _ _ _ yc.nd rfl (Or.inl rfl) rfl (zv yG (pv 1) zh) (fun _ _=>rfl) (.inl rfl)
   (ze (zy (i:=7) yc.nd rfl (Or.inl rfl) (zv yG (zv ww (pv 1) zh) (zn zo (by rfl) T.b_len PySem.boot_len (za (pv 2) zc))))
   (ze (zy (i:=8) yc.nd rfl (Or.inr rfl) (zI zz (zv zjd (pv 5) (yT (za zh (za zh zc)))) (zv yG (zv ww (pv 1) zh) (zv yg (zn zo (by rfl) T.b_len PySem.boot_len (za (pv 5) zc)) zh)) (fun _ _=>rfl)))
   (ze (zy (i:=9) yc.nd rfl (Or.inl rfl) (zm C_law_dealt (hM hr) rfl (za (pv 1) (za zh (za (pv 5) (za (pv 4) zc))))))
   (ze (zbe (zB (zp zV (zv yG (zv ww (pv 1) zh) zh) zh (zq _)) (zd (zy (i:=9) yc.nd rfl (Or.inl rfl) (zbf zcW (pv 9) (zby zh) zcN))) zr))
   (ze (zbe (zB (PW.pt (zd4 (zp zV (pv 6) zh (zq _)) (zcV (zp zaZ (zv yG (zv ww (pv 1) zh) zh) zh (zq _))))) (zd (zi wK)) zr))
   (ze (zy (i:=10) yc.nd rfl (Or.inl rfl) (zm C_law_due (hM hr) rfl (za (pv 6) (za (zI zz (pv 3) zh (fun _ _=>rfl)) (za (pv 5) (za (pv 8) (za (pv 9) zc)))))))
   (ze (zbe (zB (zp zV (zv yG (zv ww (pv 1) zh) zh) zh (zq _)) (zd (zy (i:=11) yc.nd rfl (Or.inl rfl) (zm C_law_by_row (hM hr) rfl (za (pv 0) (za (pv 6) (za (zI zz (pv 2) (pv 7) (fun _ _=>rfl)) (za (pv 8) (za (pv 9) zc)))))))) (zd (zy (i:=11) yc.nd rfl (Or.inl rfl) (zm C_law_by_method (hM hr) rfl (za (pv 0) (za (pv 6) (za (zI zz (pv 2) (pv 7) (fun _ _=>rfl)) (za (pv 8) (za (pv 9) zc))))))))))
   (ze (zbe (zB (zp zV (pv 10) zw (zq _)) (ze (zeZ (pv 9) (zeY (zI zz (pv 3) zh (fun _ _=>rfl)) (pv 7) zct))
   (zd (zeZ (zv yg (zI zz (pv 3) zh (fun _ _=>rfl)) zh) (zeY (pv 3) zh zct)))) zr))
   (ze (zbe (zB (zp zV (pv 10) zw (zq _)) (ze (zY (za0 PySem.F.plainAttrs_list PySem.F.slot_list_append PySem.F.type_list_append wV (zI zz (pv 3) zh (fun _ _=>rfl)) (za (pv 8) zc)))
   (ze (zeZ (zm C_law_without (hM hr) rfl (za (pv 5) (za (pv 8) zc))) (zeY (pv 3) zh zct))
   (zd (zeZ (zT (show CompScope (zb wU) ["_law_sheet","_law_cell","_law_names_here","_law_state","_law_style","_law_couples_here","_law_deed_here","_law_who","_law_couple","_law_card_here","_law_due_here","_law_found"] "_law_row" ["_law_couple"] [8] _ from⟨rfl,by decide +kernel,by decide +kernel,rfl,by decide +kernel,rfl,by decide +kernel,by decide +kernel⟩) rfl (zJ (zI zz (pv 3) zh (fun _ _=>rfl))) (fun _ _ _ _ _=>yM) (fun _ _ _ _ _=>(zm C_law_without (hM hr) rfl (za (pv 0) (za (pv 1) zc))))) (zeY (pv 3) zh zct))))) zr))
   (ze (zeZ (pe_or (zI zz (pv 3) zh (fun _ _=>rfl)) (zca (wf zV (pv 6) zh (zq _)))) (zeY (pv 3) zh zct))
   (zd (zi (zas (zn zdL (by rfl) T.b_isinstance boot_isinstance (za (pv 11) (za (zbB (v:=V.ty "str") rfl T.b_str boot_str rfl) zc))) (zca (wf zV (pv 11) (pv 10) (zq _)))))))))))))))))),?_⟩
  have hln:=zx
  have ok:=hSh.ok
  have c1:=ok.c1
  have c24:=ok.c24
  have p1:=ok.p1
  have p15:=ok.p15
  refine⟨_,rfl,st,_,_,_,rfl,rfl,SqL.of hT.hst,rfl,?_⟩
  refine⟨(by show 10≤sizeLine;decide),fun ld hld=>?_⟩
  have sd:=Same.new (o:=.lst (([0,0,0,0,0,0,1,1,1,2]:List Int).map V.int)) hld
  have x0:0≤cell%10:=Int.emod_nonneg _ (by decide)
  have x1:cell%10<10:=Int.emod_lt_of_pos _ (by decide)
  refine⟨_,rfl,_,_,rfl,rfl,(by show(0:Int)<10;decide),ld,_,_,_,rfl,rfl,SqL.new,zdn x0 (by simpa using x1),?_⟩
  have hd:([0,0,0,0,0,0,1,1,1,2]:List Int).getD (cell%10).toNat 0∈([0,1,2]:List Int):=by
   have h1:=zam (ns:=([0,0,0,0,0,0,1,1,1,2]:List Int)) (i:=(cell%10).toNat) (by simp;omega)
   exact(by decide:∀z∈([0,0,0,0,0,0,1,1,1,2]:List Int),z∈([0,1,2]:List Int)) _ h1
  generalize ([0,0,0,0,0,0,1,1,1,2]:List Int).getD (cell%10).toNat 0=d at hd
  have hd:d=0∨d=1∨d=2:=by simpa using hd
  generalize hHd:upd H ld _=Hd at sd ⊢
  have hSd:=hSh.same sd
  have hTd:=hT.same sd
  -- who
  refine⟨_,rfl,_,_,rfl,rfl,⟨by decide,by decide⟩,_,rfl,n,_,rfl,.inl (SqL.of (sd _ _ hN.1)),?_⟩
  rw[length_map]
  refine⟨_,_,rfl,rfl,(by show(0:Int)<S.panel.length;omega),?_⟩
  dsimp only
  have w0:=Int.emod_nonneg (cell/10) (b:=(S.panel.length:Int)) (by omega)
  have w1:=Int.emod_lt_of_pos (cell/10) (b:=(S.panel.length:Int)) (by omega)
  obtain⟨who,hwh,hwho⟩:∃who:Nat,cell/10%(S.panel.length:Int)=(who:Int)∧who<S.panel.length:=⟨(cell/10%(S.panel.length:Int)).toNat,by omega,by omega⟩
  rw[hwh]
  have hj:=zdH (ts:=S.panel) hwho
  have ej:atI (S.panel.map V.str) (who:Int)=some (.str (S.panel.getD who "")):=we (zdj hwho)
  generalize hjn:S.panel.getD who ""=j at hj ej
  -- a couple
  refine⟨_,rfl,(by show 2≤sizeLine;decide),fun lp hlp=>?_⟩
  have sp:=Same.new (o:=.lst [V.int 1,V.int 999]) hlp
  refine⟨u,lp,S.couples.map V.int,[V.int 1,V.int 999],rfl,rfl,sp _ _ hTd.hu,zf,by rw[length_map];show _+2≤_;omega,fun lq hlq=>?_⟩
  have sq:=sp.newT (o:=.lst (S.couples.map V.int++[V.int 1,V.int 999])) hlq
  have eq:S.couples.map V.int++[V.int 1,V.int 999]=(S.couples++[1,999]).map V.int:=by rw[map_append];rfl
  refine⟨_,rfl,_,_,rfl,rfl,⟨by decide,by decide⟩,_,rfl,u,_,rfl,.inl (SqL.of (sq _ _ hTd.hu)),?_⟩
  rw[length_map]
  have y0:0≤cell/10%((S.couples.length:Int)+2):=Int.emod_nonneg _ (by omega)
  have y1:cell/10%((S.couples.length:Int)+2)<(S.couples.length:Int)+2:=Int.emod_lt_of_pos _ (by omega)
  refine⟨_,_,rfl,rfl,_,_,rfl,rfl,(by show(0:Int)<(S.couples.length:Int)+2;omega),lq,_,_,_,rfl,rfl,SqL.new,(by rw[eq];exact zdn y0 (by rw[length_append];exact y1)),?_⟩
  have hc:1≤(S.couples++[1,999]).getD (cell/10%((S.couples.length:Int)+2)).toNat 0∧(S.couples++[1,999]).getD (cell/10%((S.couples.length:Int)+2)).toNat 0≤999:=by
   have h1:=zam (ns:=S.couples++[1,999]) (i:=(cell/10%((S.couples.length:Int)+2)).toNat) (by rw[length_append];show _<_+2;omega)
   rcases List.mem_append.mp h1 with z | z
   ·exact ok.rng _ z
   ·simp at z
    rcases z with z | z <;> rw[getD_eq_getElem?_getD,z] <;> decide
  generalize (S.couples++[1,999]).getD (cell/10%((S.couples.length:Int)+2)).toNat 0=c at hc
  generalize hHq:upd _ lq _=Hq at sq ⊢
  have t1:=sd.trans sq
  have hSq:=hSd.same sq
  have hTq:=hTd.same sq
  have hcne:S.couples≠[]:=fun z=>by rw[z] at c1;simp at c1
  -- the card
  refine⟨_,rfl,_,rfl,_,rfl,cell,150,u,S.couples,y,rfl,by decide,by decide,SqL.of hTq.hu,hcne,by omega,fun lk0 H2 ms0 s2 f2 e2 hp2=>?_⟩
  have hml0:=hp2.length_eq
  have t2:=t1.trans s2
  refine⟨fun σ' H'=>∃(lk:Addr)(ms:List Int),σ'=[some (.ref p),some (.int cell),some (.ref n),some (.ref st),some (.int y),some (.ref u),some (.int d),some (.int who),some (.int c),some (.ref lk),none,none]∧Same H H'∧H' lk=some (.lst (ms.map V.int))∧H lk=none∧ms.length≤24∧(∀m∈ms,1≤m∧m≤999),?_,?_⟩
  ·have f20:H lk0=none:=t1.free f2
   refine⟨_,rfl,_,_,rfl,rfl,⟨by decide,by decide⟩,_,_,rfl,rfl,(by show(0:Int)<5;decide),rfl,_,rfl,wk (fun _=>?_) (fun _=>⟨lk0,ms0,rfl,t2,e2,f20,by omega,fun m hm=>ok.rng m (hp2.mem_iff.mp hm)⟩)⟩
   refine⟨_,rfl,_,rfl,lk0,_,rfl,SqL.of e2,fun l3 hl3=>?_⟩
   rw[zgu (by decide),show(1:Int).toNat=1 from rfl]
   exact⟨l3,ms0.drop 1,rfl,t2.newT hl3,zf,t2.free hl3,by rw[length_drop];omega,fun m hm=>ok.rng m (hp2.mem_iff.mp (List.mem_of_mem_drop hm))⟩
  clear hml0 e2 f2 hp2 s2 t2
  rintro σ' H3 ⟨lk,ms,rfl,s3,e3,f3,hml,hmr⟩
  have hS3:=hSh.same s3
  have hT3:=hT.same s3
  have n3:¬F lk:=hSh.apart f3
  have kg:lk≠g:=fun z=>by rw[z,hT.hg] at f3;cases f3
  -- no seal,mostly
  refine⟨fun σ' H'=>σ'=[some (.ref p),some (.int cell),some (.ref n),some (.ref st),some (.int y),some (.ref u),some (.int d),some (.int who),some (.int c),some (.ref lk),none,none]∧H'=H3,?_,?_⟩
  ·have fin:=q H3 F S u k ls hS3 hT3 rfl (by omega) (fun b o e nb _ _ _=>⟨s3 _ _ e,nb⟩)
   refine⟨_,rfl,rfl,_,rfl,wk (fun _=>?_) (fun _=>zao ⟨rfl,rfl⟩)⟩
   exact⟨_,rfl,_,_,rfl,rfl,⟨by decide,by decide⟩,_,_,rfl,rfl,(by show(0:Int)<4;decide),rfl,_,rfl,wJ (fun _=>fin) (fun _=>⟨rfl,rfl⟩)⟩
  rintro σ' H3 ⟨rfl,rfl⟩
  -- what is due
  refine⟨_,rfl,_,rfl,st,_,_,_,rfl,rfl,SqL.of hT3.hst,rfl,_,rfl,_,rfl,_,rfl,S,d,j,u,c,lk,ms,rfl,SqL.of hT3.hu,SqL.of e3,ok.nd,hd,hj,ht,fun H4 s4=>?_⟩
  have t4:=s3.trans s4
  have hS4:=hSh.same t4
  have hT4:=hT.same t4
  have e4:=s4 _ _ e3
  have hN4:=t4 _ _ hN.1
  -- the deed
  refine⟨fun σ' H'=>∃(F':Addr→Prop)(S':Sh),σ'=[some (.ref p),some (.int cell),some (.ref n),some (.ref st),some (.int y),some (.ref u),some (.int d),some (.int who),some (.int c),some (.ref lk),some (.str (S.dueD d j c ms)),some (.str (S.dueD d j c ms))]∧SheetAt K H' p F' S'∧S'=(if S.refD d j c ms=none then S.doD d j c ms else S)∧Deed F H4 F' H',?_,?_⟩
  ·have r1:∀z,S.refD d j c ms=some z→∀H',Same H4 H'→∃(F':Addr→Prop)(S':Sh),[some (V.ref p),some (.int cell),some (.ref n),some (.ref st),some (.int y),some (.ref u),some (.int d),some (.int who),some (.int c),some (.ref lk),some (.str (S.dueD d j c ms)),some (.str (M6.zfR z))]=[some (.ref p),some (.int cell),some (.ref n),some (.ref st),some (.int y),some (.ref u),some (.int d),some (.int who),some (.int c),some (.ref lk),some (.str (S.dueD d j c ms)),some (.str (S.dueD d j c ms))]∧SheetAt K H' p F' S'∧S'=(if S.refD d j c ms=none then S.doD d j c ms else S)∧Deed F H4 F' H':=fun z hz H' s'=>by
    have ed:S.dueD d j c ms=M6.zfR z:=by unfold Sh.dueD;rw[hz]
    exact⟨F,S,by rw[ed],hS4.same s',by rw[hz,if_neg (by intro w;cases w)],Deed.same s'⟩
   have r2:S.refD d j c ms=none→∀H' F',SheetAt K H' p F' (S.doD d j c ms)→Deed F H4 F' H'→∃(F':Addr→Prop)(S':Sh),[some (V.ref p),some (.int cell),some (.ref n),some (.ref st),some (.int y),some (.ref u),some (.int d),some (.int who),some (.int c),some (.ref lk),some (.str (S.dueD d j c ms)),some (.str (M6.okW d))]=[some (.ref p),some (.int cell),some (.ref n),some (.ref st),some (.int y),some (.ref u),some (.int d),some (.int who),some (.int c),some (.ref lk),some (.str (S.dueD d j c ms)),some (.str (S.dueD d j c ms))]∧SheetAt K H' p F' S'∧S'=(if S.refD d j c ms=none then S.doD d j c ms else S)∧Deed F H4 F' H':=fun hn H' F' h' d'=>by
    have ed:S.dueD d j c ms=M6.okW d:=by unfold Sh.dueD;rw[hn]
    exact⟨F',_,by rw[ed],h',by rw[if_pos hn],d'⟩
   refine⟨_,rfl,_,_,rfl,rfl,⟨by decide,by decide⟩,_,_,rfl,rfl,(by show(0:Int)<2;decide),rfl,_,rfl,wk (fun _=>?_) (fun _=>?_)⟩
   ·exact⟨_,rfl,_,rfl,_,rfl,_,rfl,n,_,_,_,rfl,rfl,SqL.of hN4,ej,_,rfl,_,rfl,p,F,S,d,j,c,lk,ms,rfl,hS4,e4,hml,hmr,hc,hg9 j hj,hd,r1,r2⟩
   ·exact⟨_,rfl,_,rfl,_,rfl,_,rfl,n,_,_,_,rfl,rfl,SqL.of hN4,ej,_,rfl,_,rfl,p,F,S,d,j,c,lk,ms,rfl,hS4,SqL.of e4,by omega,hd,fun _=>⟨hj,ht⟩,r1,r2⟩
  rintro σ' H5 ⟨F',S',rfl,h5,hS',d5⟩
  have k5:=d5 _ _ e4 n3
  have y1':=d5 _ _ hT4.hst hT4.nst
  have y2':=d5 _ _ hT4.hu hT4.nu
  have y3':=d5 _ _ hT4.hg hT4.ng
  have T5:St5 H5 F' S st u g k ls:=⟨y1'.1,y1'.2,y2'.1,y2'.2,y3'.1,y3'.2,hT4.hr.deed d5,hT4.ug,hT4.lg⟩
  have out5:∀b o,H b=some o→¬F b→H5 b=some o∧¬F' b:=fun b o e nb=>d5 b o (t4 _ _ e) nb
  have hrl:=T5.hr.len
  rw[S.rows_len] at hrl
  have hls:ls≠[]:=fun z=>by rw[z] at hrl;simp at hrl;omega
  have dj0:∀z,S.refD d j c ms=some z→S.dueD d j c ms≠Str.ofString "taken"∧S.dueD d j c ms≠Str.ofString "struck":=fun z hz=>by
   have ed:S.dueD d j c ms=M6.zfR z:=by unfold Sh.dueD;rw[hz]
   rw[ed]
   rcases Sh.refD_cases hz (fun _=>⟨hj,ht⟩)with rfl | rfl | rfl | rfl <;> decide +kernel
  -- taken
  refine⟨fun σ' H'=>∃(S3:Sh)(ls':List Addr),σ'=[some (.ref p),some (.int cell),some (.ref n),some (.ref st),some (.int y),some (.ref u),some (.int d),some (.int who),some (.int c),some (.ref lk),some (.str (S.dueD d j c ms)),some (.str (S.dueD d j c ms))]∧SheetAt K H' p F' S'∧S3=(if S.refD d j c ms=none∧d=0 then S.hand j ms else S)∧St5 H' F' S3 st u g k ls'∧(∀b o,H b=some o→¬F b→b≠st→b≠g→b≠k→H' b=some o∧¬F' b),?_,?_⟩
  ·refine⟨_,rfl,rfl,_,rfl,wk (fun hy=>?_) (fun hy=>?_)⟩
   ·have hy:S.dueD d j c ms=Str.ofString "taken":=V.str.inj hy
    have hn:S.refD d j c ms=none:=by
     cases e:S.refD d j c ms with
     | none=>rfl
     | some z=>exact absurd hy (dj0 z e).1
    have hd0:d=0:=by
     have ed:S.dueD d j c ms=M6.okW d:=by unfold Sh.dueD;rw[hn]
     rw[ed] at hy
     rcases hd with rfl | rfl | rfl
     ·rfl
     ·exact absurd hy (by decide +kernel)
     ·exact absurd hy (by decide +kernel)
    have hrw:(S.hand j ms).rows=S.rows.set who ms:=by
     have:=Sh.rows_hand (S:=S) ok.pnd (k:=who) hwho ms
     rw[hjn] at this
     exact this
    refine⟨_,rfl,_,rfl,st,_,_,_,rfl,rfl,SqL.of T5.hst,rfl,_,rfl,k,_,_,who,rfl,rfl,T5.hr.1,ixN_ok (by omega) (by rw[length_map];show who<ls.length;omega),?_⟩
    have re:=T5.hr.set hls k5.1 k5.2 who
    rw[←hrw] at re
    have he:=h5.put (o:=.lst ((ls.map V.ref).set who (.ref lk))) T5.hr.2.1
    have stk:st≠k:=zD T5.hst T5.hr.1 fun z=>by
     injection z with z
     have z4:=congrArg (fun l=>l[4]?) z
     simp only[getElem?_map] at z4
     cases h:ls[4]? with
     | none=>rw[h] at z4;cases z4
     | some l=>rw[h] at z4;cases z4
    have uk:u≠k:=zD T5.hu T5.hr.1 (zb2 hls)
    have gk:g≠k:=zD T5.hg T5.hr.1 (zb2 hls)
    have st6:upd H5 k (.lst ((ls.map V.ref).set who (.ref lk))) st=some (.lst [.ref u,.ref g,.ref k,.int S.taken,.bl S.shut]):=by rw[zg stk];exact T5.hst
    have u6:upd H5 k (.lst ((ls.map V.ref).set who (.ref lk))) u=some (.lst (S.couples.map V.int)):=by rw[zg uk];exact T5.hu
    have g6:upd H5 k (.lst ((ls.map V.ref).set who (.ref lk))) g=some (.lst (S.struck.map V.int)):=by rw[zg gk];exact T5.hg
    have out6:∀b o,H b=some o→¬F b→b≠k→upd H5 k (.lst ((ls.map V.ref).set who (.ref lk))) b=some o∧¬F' b:=fun b o e nb nk=>⟨by rw[zg nk];exact(out5 b o e nb).1,(out5 b o e nb).2⟩
    generalize hH6:upd H5 k _=H6 at re he st6 u6 g6 out6 ⊢
    refine⟨_,rfl,st,_,_,_,rfl,rfl,SqL.of st6,rfl,_,_,rfl,rfl,_,rfl,st,_,_,3,rfl,rfl,st6,rfl,?_⟩
    have ust:u≠st:=zD u6 st6 fun z=>by
     injection z with z
     have z0:=congrArg (fun l=>l[0]?) z
     simp only[getElem?_map] at z0
     cases h:S.couples[0]? with
     | none=>rw[h] at z0;cases z0
     | some l=>rw[h] at z0;cases z0
    have gst:g≠st:=zD g6 st6 fun z=>by
     injection z with z
     have z0:=congrArg (fun l=>l[0]?) z
     simp only[getElem?_map] at z0
     cases h:S.struck[0]? with
     | none=>rw[h] at z0;cases z0
     | some l=>rw[h] at z0;cases z0
    have lst:∀{l:Addr}{w:List Int},H6 l=some (.lst (w.map V.int))→l≠st:=fun {l w} z=>zD z st6 fun z=>by
     injection z with z
     have z0:=congrArg (fun l=>l[0]?) z
     simp only[getElem?_map] at z0
     cases h:w[0]? with
     | none=>rw[h] at z0;cases z0
     | some l=>rw[h] at z0;cases z0
    refine⟨S.hand j ms,ls.set who lk,rfl,he.put T5.nst,by rw[if_pos ⟨hn,hd0⟩],⟨zf,T5.nst,by rw[zg ust];exact u6,T5.nu,by rw[zg gst];exact g6,T5.ng,?_,T5.ug,fun l hl=>?_⟩,fun b o e nb n1 n2 n3=>⟨by rw[zg n1];exact(out6 b o e nb n3).1,(out6 b o e nb n3).2⟩⟩
    ·exact re.put ⟨stk.symm,fun l hl=>by obtain⟨w,z⟩:=re.2.2.memL hl;exact lst z.1⟩
    ·rcases List.mem_or_eq_of_mem_set hl with hl | rfl
     ·exact T5.lg l hl
     ·exact kg
   ·have hno:¬(S.refD d j c ms=none∧d=0):=fun z=>hy (by
     have ed:S.dueD d j c ms=M6.okW d:=by unfold Sh.dueD;rw[z.1]
     rw[ed,z.2]
     rfl)
    exact⟨S,ls,rfl,h5,by rw[if_neg hno],T5,fun b o e nb _ _ _=>out5 b o e nb⟩
  clear T5 out5 y1' y2' y3' d5 h5
  rintro σ' H6 ⟨S3,ls',rfl,h6,hS3',T6,out6⟩
  have lsl:ls'.length=S.panel.length:=by
   have:=T6.hr.len
   rw[S3.rows_len,hS3'] at this
   rw[this]
   split <;> rfl
  have hls':ls'≠[]:=fun z=>by rw[z] at lsl;simp at lsl;omega
  -- struck
  refine⟨fun σ' H'=>∃(S4:Sh)(u' k':Addr)(ls':List Addr),σ'=[some (.ref p),some (.int cell),some (.ref n),some (.ref st),some (.int y),some (.ref u),some (.int d),some (.int who),some (.int c),some (.ref lk),some (.str (S.dueD d j c ms)),some (.str (S.dueD d j c ms))]∧SheetAt K H' p F' S'∧S4=(if S.refD d j c ms=none∧d=1 then S.strike c else S3)∧St5 H' F' S4 st u' g k' ls'∧(∀b o,H b=some o→¬F b→b≠st→b≠g→b≠k→H' b=some o∧¬F' b),?_,?_⟩
  ·refine⟨_,rfl,rfl,_,rfl,wk (fun hy=>?_) (fun hy=>?_)⟩
   ·have hy:S.dueD d j c ms=Str.ofString "struck":=V.str.inj hy
    have hn:S.refD d j c ms=none:=by
     cases e:S.refD d j c ms with
     | none=>rfl
     | some z=>exact absurd hy (dj0 z e).2
    have hd1:d=1:=by
     have ed:S.dueD d j c ms=M6.okW d:=by unfold Sh.dueD;rw[hn]
     rw[ed] at hy
     rcases hd with rfl | rfl | rfl
     ·exact absurd hy (by decide +kernel)
     ·rfl
     ·exact absurd hy (by decide +kernel)
    rw[if_neg (by rw[hd1];intro z;exact absurd z.2 (by decide))] at hS3'
    subst hS3'
    have hgl:S3.struck.length≤24:=by omega
    refine⟨_,rfl,st,_,_,_,rfl,rfl,SqL.of T6.hst,rfl,.inl ⟨rfl,_,SqL.of T6.hg⟩,_,rfl,g,_,_,rfl,rfl,T6.hg,by rw[length_map];omega,?_⟩
    have stg:st≠g:=(zD T6.hg T6.hst fun z=>by
     injection z with z
     have z0:=congrArg (fun l=>l[0]?) z
     simp only[getElem?_map] at z0
     cases h:S3.struck[0]? with
     | none=>rw[h] at z0;cases z0
     | some l=>rw[h] at z0;cases z0).symm
    have kg':k≠g:=(zD T6.hg T6.hr.1 (zb2 hls')).symm
    have st7:upd H6 g (.lst (S3.struck.map V.int++[V.int c])) st=some (.lst [.ref u,.ref g,.ref k,.int S3.taken,.bl S3.shut]):=by rw[zg stg];exact T6.hst
    have u7:upd H6 g (.lst (S3.struck.map V.int++[V.int c])) u=some (.lst (S3.couples.map V.int)):=by rw[zg T6.ug];exact T6.hu
    have g7:upd H6 g (.lst (S3.struck.map V.int++[V.int c])) g=some (.lst ((S3.struck++[c]).map V.int)):=by rw[zf,map_append];rfl
    have h7:=h6.put (o:=.lst (S3.struck.map V.int++[V.int c])) T6.ng
    have r7:=T6.hr.put (o:=.lst (S3.struck.map V.int++[V.int c])) ⟨kg',T6.lg⟩
    have out7:∀b o,H b=some o→¬F b→b≠st→b≠g→b≠k→upd H6 g (.lst (S3.struck.map V.int++[V.int c])) b=some o∧¬F' b:=fun b o e nb n1 n2 n3=>⟨by rw[zg n2];exact(out6 b o e nb n1 n2 n3).1,(out6 b o e nb n1 n2 n3).2⟩
    generalize hH7:upd H6 g _=H7 at st7 u7 g7 h7 r7 out7 ⊢
    refine⟨_,rfl,_,rfl,u,S3.couples,c,rfl,SqL.of u7,by omega,fun lv H8 s8 f8 e8=>?_⟩
    have e8:H8 lv=some (.lst ((wo c S3.couples).map V.int)):=e8
    refine⟨_,rfl,st,_,_,0,rfl,rfl,s8 _ _ st7,rfl,?_⟩
    have nv:¬F' lv:=h7.apart f8
    have vg:lv≠g:=fun z=>by rw[z,g7] at f8;cases f8
    have ne8:∀{l:Addr}{w:List Int},H8 l=some (.lst (w.map V.int))→l≠st:=fun {l w} z=>zD z (s8 _ _ st7) fun z=>by
     injection z with z
     have z0:=congrArg (fun l=>l[0]?) z
     simp only[getElem?_map] at z0
     cases h:w[0]? with
     | none=>rw[h] at z0;cases z0
     | some l=>rw[h] at z0;cases z0
    have kst:k≠st:=(zD (s8 _ _ st7) (s8 _ _ r7.1) fun z=>by
     injection z with z
     have z4:=congrArg (fun l=>l[4]?) z
     simp only[getElem?_map] at z4
     cases h:ls'[4]? with
     | none=>rw[h] at z4;cases z4
     | some l=>rw[h] at z4;cases z4).symm
    have st9:upd H8 st (.lst [.ref lv,.ref g,.ref k,.int S3.taken,.bl S3.shut]) st=some (.lst [.ref lv,.ref g,.ref k,.int S3.taken,.bl S3.shut]):=zf
    have v9:upd H8 st (.lst [.ref lv,.ref g,.ref k,.int S3.taken,.bl S3.shut]) lv=some (.lst ((wo c S3.couples).map V.int)):=by rw[zg (ne8 e8)];exact e8
    have g9:upd H8 st (.lst [.ref lv,.ref g,.ref k,.int S3.taken,.bl S3.shut]) g=some (.lst ((S3.struck++[c]).map V.int)):=by rw[zg (ne8 (s8 _ _ g7))];exact s8 _ _ g7
    have h9:=(h7.same s8).put (o:=.lst [.ref lv,.ref g,.ref k,.int S3.taken,.bl S3.shut]) T6.nst
    have r9:=(r7.same s8).put (o:=.lst [.ref lv,.ref g,.ref k,.int S3.taken,.bl S3.shut]) ⟨kst,fun l hl=>by obtain⟨w,z⟩:=(r7.same s8).2.2.memL hl;exact ne8 z.1⟩
    have out9:∀b o,H b=some o→¬F b→b≠st→b≠g→b≠k→upd H8 st (.lst [.ref lv,.ref g,.ref k,.int S3.taken,.bl S3.shut]) b=some o∧¬F' b:=fun b o e nb n1 n2 n3=>⟨by rw[zg n1];exact s8 _ _ (out7 b o e nb n1 n2 n3).1,(out7 b o e nb n1 n2 n3).2⟩
    have e99:HO.lst (List.set [V.ref u,.ref g,.ref k,.int S3.taken,.bl S3.shut] 0 (.ref lv))=.lst [.ref lv,.ref g,.ref k,.int S3.taken,.bl S3.shut]:=rfl
    rw[e99]
    generalize hH9:upd H8 st (.lst [.ref lv,.ref g,.ref k,.int S3.taken,.bl S3.shut])=H9 at st9 v9 g9 h9 r9 out9 ⊢
    have hrl9:S3.rows.length≤15:=by rw[S3.rows_len];exact p15
    refine⟨_,rfl,st,_,_,_,rfl,rfl,SqL.of st9,rfl,k,rfl,⟨_,SqL.of r9.1⟩,?_⟩
    refine ziW (F:=fun b=>F' b∨b=g) (f:=wo c) (SqL.of r9.1) (r9.2.2.imp fun _ _ z=>z.1) (by omega) (fun m dd H' R hdd hm s' h=>?_) fun kn H11 s11 rn=>?_
    ·refine⟨_,rfl,_,rfl,m,dd,c,rfl,SqL.of hm,by have:=Sh.rows_le ok hdd;omega,fun l H2 s2 f2 e2=>h l H2 s2 e2 (fun z=>?_)⟩
     rcases z with z | z
     ·exact(h9.same s').fh l z f2
     ·rw[z,s' _ _ g9] at f2;cases f2
    intro lw hlw
    have s12:=s11.newT (o:=.lst (kn.map V.ref)) hlw
    have nw:¬F' lw:=(h9.same s11).apart hlw
    refine⟨_,rfl,st,_,_,2,rfl,rfl,s12 _ _ st9,rfl,?_⟩
    have knl:kn.length=S3.panel.length:=by have:=rn.length;rw[length_map,S3.rows_len] at this;exact this
    have w12:upd H11 lw (.lst (kn.map V.ref)) lw=some (.lst (kn.map V.ref)):=zf
    have rn12:All2 (fun(l:Addr) (dd:List Int)=>upd H11 lw (.lst (kn.map V.ref)) l=some (.lst (dd.map V.int))∧¬(F' l∨l=g)) kn (S3.rows.map (wo c)):=rn.imp fun _ _ z=>⟨(Same.new hlw) _ _ z.1,z.2⟩
    generalize hH12:upd H11 lw _=H12 at s12 w12 rn12 ⊢
    have st12:=s12 _ _ st9
    have ne12:∀{l:Addr}{w:List Int},H12 l=some (.lst (w.map V.int))→l≠st:=fun {l w} z=>zD z st12 fun z=>by
     injection z with z
     have z0:=congrArg (fun l=>l[0]?) z
     simp only[getElem?_map] at z0
     cases h:w[0]? with
     | none=>rw[h] at z0;cases z0
     | some l=>rw[h] at z0;cases z0
    have wst:lw≠st:=(zD st12 w12 fun z=>by
     injection z with z
     have z4:=congrArg (fun l=>l[4]?) z
     simp only[getElem?_map] at z4
     cases h:kn[4]? with
     | none=>rw[h] at z4;cases z4
     | some l=>rw[h] at z4;cases z4).symm
    refine⟨S3.strike c,lv,lw,kn,rfl,(h9.same s12).put T6.nst,by rw[if_pos ⟨hn,hd1⟩],⟨zf,T6.nst,?_,nv,?_,T6.ng,⟨by rw[zg wst];exact w12,nw,?_⟩,vg,fun l hl=>?_⟩,fun b o e nb n1 n2 n3=>⟨by rw[zg n1];exact s12 _ _ (out9 b o e nb n1 n2 n3).1,(out9 b o e nb n1 n2 n3).2⟩⟩
    ·rw[zg (ne12 (s12 _ _ v9))];exact s12 _ _ v9
    ·rw[zg (ne12 (s12 _ _ g9))];exact s12 _ _ g9
    ·rw[Sh.rows_strike]
     exact rn12.imp fun l w z=>⟨by rw[zg (ne12 z.1)];exact z.1,fun w=>z.2 (.inl w)⟩
    ·obtain⟨_,z⟩:=rn12.memL hl
     exact fun w=>z.2 (.inr w)
   ·have hno:¬(S.refD d j c ms=none∧d=1):=fun z=>hy (by
     have ed:S.dueD d j c ms=M6.okW d:=by unfold Sh.dueD;rw[z.1]
     rw[ed,z.2]
     rfl)
    exact⟨S3,u,k,ls',rfl,h6,by rw[if_neg hno],T6,out6⟩
  clear T6 out6 h6
  rintro σ' H10 ⟨S4,u',k',ls4,rfl,h10,hS4',T10,out10⟩
  have hfin:S'.couples=S4.couples∧S'.struck=S4.struck∧S'.rows=S4.rows∧S'.taken=S4.taken∧S'.panel=S.panel∧S'.taken≤S.taken+1∧S'.shut=(S4.shut || decide (d=2)):=by
   have h3:∀{a b:Sh},(if S.refD d j c ms=none∧d=3 then a else b)=b:=fun {a b}=>if_neg fun z=>by rcases hd with rfl | rfl | rfl <;> exact absurd z.2 (by decide)
   cases e:S.refD d j c ms with
   | some z =>
     rw[e,if_neg (by intro w;cases w)] at hS'
     rw[e,if_neg (by intro w;cases w.1)] at hS3' hS4'
     subst hS'
     subst hS3'
     subst hS4'
     refine⟨rfl,rfl,rfl,rfl,rfl,by omega,?_⟩
     rcases hd with rfl | rfl | rfl
     ·rw[show decide ((0:Int)=2)=false from rfl,Bool.or_false]
     ·rw[show decide ((1:Int)=2)=false from rfl,Bool.or_false]
     ·rw[show decide ((2:Int)=2)=true from rfl,Bool.or_true]
      unfold Sh.refD at e
      rw[if_neg (by decide),if_neg (by decide)] at e
      by_cases hs:S4.shut=true
      ·exact hs
      ·rw[if_neg hs] at e;cases e
   | none =>
     rw[e,if_pos rfl] at hS'
     rw[e] at hS3' hS4'
     rcases hd with rfl | rfl | rfl
     ·rw[if_pos ⟨rfl,rfl⟩] at hS3'
      rw[if_neg (by intro w;exact absurd w.2 (by decide))] at hS4'
      subst hS3'
      subst hS4'
      subst hS'
      exact⟨rfl,rfl,rfl,rfl,rfl,le_refl _,by rw[show decide ((0:Int)=2)=false from rfl,Bool.or_false];rfl⟩
     ·rw[if_neg (by intro w;exact absurd w.2 (by decide))] at hS3'
      rw[if_pos ⟨rfl,rfl⟩] at hS4'
      subst hS4'
      subst hS'
      exact⟨rfl,rfl,rfl,rfl,rfl,le_succ _,by rw[show decide ((1:Int)=2)=false from rfl,Bool.or_false];rfl⟩
     ·rw[if_neg (by intro w;exact absurd w.2 (by decide))] at hS3'
      rw[if_neg (by intro w;exact absurd w.2 (by decide))] at hS4'
      subst hS3'
      subst hS4'
      subst hS'
      exact⟨rfl,rfl,rfl,rfl,rfl,le_succ _,by rw[show decide ((2:Int)=2)=true from rfl,Bool.or_true];rfl⟩
  obtain⟨z1,z2,z3,z4,z5,z6,z7⟩:=hfin
  have ne10:∀{l:Addr}{w:List Int},H10 l=some (.lst (w.map V.int))→l≠st:=fun {l w} z=>zD z T10.hst fun z=>by
   injection z with z
   have z0:=congrArg (fun l=>l[0]?) z
   simp only[getElem?_map] at z0
   cases h:w[0]? with
   | none=>rw[h] at z0;cases z0
   | some l=>rw[h] at z0;cases z0
  have kst:k'≠st:=(zD T10.hst T10.hr.1 fun z=>by
   injection z with z
   have z4:=congrArg (fun l=>l[4]?) z
   simp only[getElem?_map] at z4
   cases h:ls4[4]? with
   | none=>rw[h] at z4;cases z4
   | some l=>rw[h] at z4;cases z4).symm
  have fin:∀b:Bool,b=S'.shut→Q (.bl true) (upd H10 st (.lst [.ref u',.ref g,.ref k',.int S4.taken,.bl b])):=fun b hb=>by
   subst hb
   rw[←z4]
   refine q _ F' S' u' k' ls4 (h10.put T10.nst) ⟨zf,T10.nst,?_,T10.nu,?_,T10.ng,?_,T10.ug,T10.lg⟩ z5 z6 (fun b o e nb n1 n2 n3=>⟨by rw[zg n1];exact(out10 b o e nb n1 n2 n3).1,(out10 b o e nb n1 n2 n3).2⟩)
   ·rw[zg (ne10 T10.hu),z1];exact T10.hu
   ·rw[zg (ne10 T10.hg),z2];exact T10.hg
   ·rw[z3]
    exact T10.hr.put ⟨kst,fun l hl=>by obtain⟨w,z⟩:=T10.hr.2.2.memL hl;exact ne10 z.1⟩
  refine⟨_,rfl,st,_,_,_,rfl,rfl,SqL.of T10.hst,rfl,S4.shut,rfl,zge (fun h1=>?_) (fun h1=>⟨_,rfl,rfl,?_⟩)⟩
  ·refine⟨_,rfl,st,_,_,4,rfl,rfl,T10.hst,rfl,?_⟩
   have:=fin true (by rw[z7,h1];rfl)
   refine⟨_,rfl,_,_,rfl,rfl,true,rfl,zdG ⟨_,rfl,_,rfl,rfl,?_⟩⟩
   rw[decide_eq_true rfl]
   exact this
  ·refine⟨_,rfl,st,_,_,4,rfl,rfl,T10.hst,rfl,?_⟩
   have:=fin (decide (V.int d=V.int 2)) (by
    rw[z7,h1,Bool.false_or]
    exact decide_eq_decide.mpr ⟨fun z=>(by injection z),fun z=>(by rw[z])⟩)
   refine⟨_,rfl,_,_,rfl,rfl,true,rfl,zdG ⟨_,rfl,_,rfl,rfl,?_⟩⟩
   rw[decide_eq_true rfl]
   exact this
def zhD(K:Frag):Sp:=fun vs H Q _=>∃(a:Addr)(ns:List Int),vs=[.ref a]∧SqL K H a (ns.map V.int)∧ns.length≤63∧H (zbx K "by_place")=some (.tbl #[])∧∀H',Q (.bl true) H'
theorem lq_out{K:Frag}{F F':Addr→Prop}{H H':Hp}{a st g k u:Addr}{ns:List Int}{r:List V}{ls:List Addr}(h:LQ K (fun b=>F b∨b=g) H a (ns.map V.int))(hst:H st=some (.lst (.ref u::r)))(hk:H k=some (.lst (ls.map V.ref)))(hl:ls≠[])(out:∀b o,H b=some o→¬F b→b≠st→b≠g→b≠k→H' b=some o∧¬F' b):LQ K (fun b=>F' b∨b=g) H' a (ns.map V.int):=by
 rcases h with⟨e | ⟨q,e⟩,m⟩ | h
 ·obtain⟨x1,x2⟩:=out _ _ e (fun z=>m (.inl z)) (zD e hst fun z=>by
   injection z with z
   cases ns with
   | nil=>cases z
   | cons x ns=>simp at z) (fun z=>m (.inr z)) (zD e hk (zb2 hl))
  exact .inl ⟨.inl x1,fun z=>z.elim x2 fun w=>m (.inr w)⟩
 ·obtain⟨x1,x2⟩:=out _ _ e (fun z=>m (.inl z)) (zD e hst fun z=>by cases z) (fun z=>m (.inr z)) (zD e hk fun z=>by cases z)
  exact .inl ⟨.inr ⟨q,x1⟩,fun z=>z.elim x2 fun w=>m (.inr w)⟩
 ·exact .inr h
theorem lq_fresh{K:Frag}{F:Addr→Prop}{H:Hp}{a g:Addr}{xs:List V}{o:HO}(h:LQ K F H a xs)(hg:H g=none):LQ K (fun b=>F b∨b=g) (upd H g o) a xs:=by
 rcases h with⟨e | ⟨q,e⟩,m⟩ | h
 ·exact .inl ⟨.inl (Same.new hg _ _ e),fun z=>z.elim m (zj e hg)⟩
 ·exact .inl ⟨.inr ⟨q,Same.new hg _ _ e⟩,fun z=>z.elim m (zj e hg)⟩
 ·exact .inr h
theorem ok_law{f:Addr}{fd:FuncData}(F:Fun K "law" "law" zcz f fd)(T:Txt K mg)(C_places:CanX P w K mg base 7 "places" ["sheet"] (zcT K))(C_answer:Can P w K mg base 16 "answer" ["sheet","row"] (zcQ K))(C_law_at:Can P w K mg base 1 "_law_at" ["_law_script","_law_k"] (zdX K))(C_law_same:Can P w K mg base 2 "_law_same" ["_law_found","_law_due_here"] (zaO K))(C_law_many:Can P w K mg base 1 "_law_many" ["_law_mode","_law_cell","_law_least","_law_few","_law_most"] (zcE K))(C_law_couples:Can P w K mg base 1 "_law_couples" ["_law_cell","_law_many_here"] (zbl K))(C_law_names:Can P w K mg base 2 "_law_names" ["_law_cell","_law_many_here"] (zci K))(C_law_spots:Can P w K mg base 2 "_law_spots" ["_law_cards","_law_couples_here"] (zb0 K))(C_law_stands:Can P w K mg base 4 "_law_stands" ["_law_sheet","_law_names_here","_law_couples_here","_law_gone","_law_cards","_law_many_here","_law_shut"] (zbI K))(C_law_spot_text:Can P w K mg base 2 "_law_spot_text" ["_law_spots_here","_law_couples_here"] (zav K))(C_law_deed:Can P w K mg base 18 "_law_deed" ["_law_sheet","_law_cell","_law_names_here","_law_state","_law_style"] (zcu K))(C_Sheet_init:CanK P w K mg base 4 "Sheet" (zE K "Sheet") ["self","couples","judges"] (zbN K)):FnOk P w K mg base CX0 19 f fd ["_law_script"] (zhD K):=by
 refine F.ok zbJ (fun vs H Q E h=>?_) (fun cdv A outer s H vs Q E hr h=>?_)
 ·obtain⟨a,ns,rfl,_⟩:=h
  rfl
 ·obtain⟨a,ns,rfl,hS,hz,hT0,q⟩:=h
  refine⟨_,(ze (zy (i:=1) zbJ.nd rfl (Or.inl rfl) (zv yG (zm C_law_at (hM hr) rfl (za (pv 0) (za zh zc))) zh))
   (ze (zy (i:=2) zbJ.nd rfl (Or.inl rfl) (zm C_law_couples (hM hr) rfl (za (zm C_law_at (hM hr) rfl (za (pv 0) (za zh zc))) (za (zm C_law_many (hM hr) rfl (za (pv 1) (za (zm C_law_at (hM hr) rfl (za (pv 0) (za zh zc))) (za zh (za zh (za zh zc)))))) zc))))
   (ze (zy (i:=3) zbJ.nd rfl (Or.inl rfl) (zm C_law_names (hM hr) rfl (za (zm C_law_at (hM hr) rfl (za (pv 0) (za zh zc))) (za (zm C_law_many (hM hr) rfl (za (pv 1) (za (zm C_law_at (hM hr) rfl (za (pv 0) (za zh zc))) (za zh (za zh (za zh zc)))))) zc))))
   (ze (zy (i:=4) zbJ.nd rfl (Or.inl rfl) (pe_makeX C_Sheet_init fl_no (hM hr) rfl (za (zF zS (by rfl) T.b_list boot_list (za (pv 2) zc)) (za (zF zS (by rfl) T.b_list boot_list (za (pv 3) zc)) zc))))
   (ze (zy (i:=5) zbJ.nd rfl (Or.inl rfl) (yT (za (pv 2) (za (yT zc) (za (zT (show CompScope (zb zcz) ["_law_script","_law_mode","_law_couples_here","_law_names_here","_law_sheet","_law_state","_law_cell","_law_cards","_law_spots_here"] "_law_name" [] [] _ from⟨rfl,by decide +kernel,by decide +kernel,rfl,by decide +kernel,rfl,by decide +kernel,by decide +kernel⟩) rfl (zJ (pv 3)) (fun _ _ _ _ _=>yM) (fun _ _ _ _ _=>(yT zc))) (za zh (za wK zc)))))))
   (ze (zak PassesOwn.never rfl (zJ (zbf zcW (pv 0) (zby zh) (zby zh))) (yk (i:=6) zbJ.nd rfl (Or.inl rfl))
     (ze (zB (yU (ym (zm C_law_deed (hM hr) rfl (za (pv 4) (za (pv 6) (za (pv 3) (za (pv 5) (za (zv yG (zm C_law_at (hM hr) rfl (za (pv 0) (za zh zc))) zh) zc)))))))) (zd (zi wK)) zr)
   (zd (zB (yU (ym (zm C_law_stands (hM hr) rfl (za (pv 4) (za (pv 3) (za (zI zz (pv 5) zh (fun _ _=>rfl)) (za (zI zz (pv 5) zh (fun _ _=>rfl)) (za (zI zz (pv 5) zh (fun _ _=>rfl)) (za (zI zz (pv 5) zh (fun _ _=>rfl)) (za (zI zz (pv 5) zh (fun _ _=>rfl)) zc)))))))))) (zd (zi wK)) zr))))
   (ze (zy (i:=2) zbJ.nd rfl (Or.inl rfl) (zI zz (pv 5) zh (fun _ _=>rfl)))
   (ze (zda (i:=7) (show CompScope (zb zcz) ["_law_script","_law_mode","_law_couples_here","_law_names_here","_law_sheet","_law_state","_law_cell","_law_cards","_law_spots_here"] "_law_row" [] [] _ from⟨rfl,by decide +kernel,by decide +kernel,rfl,by decide +kernel,rfl,by decide +kernel,by decide +kernel⟩) rfl zbJ.nd rfl (Or.inl rfl) (zJ (zI zz (pv 5) zh (fun _ _=>rfl))) (fun _ _ _ _ _=>(zb6 (zp (zei (K:=K) rfl hr.units0) (pv 0) (yT zc) (zq _)))) (fun _ _ _ _ _=>(pv 0)))
   (ze (zB (zp (zh5 hr.units0) (pv 7) (yT zc) (zq _)) (zd (zi (wf zV (zm C_answer (hM hr) rfl (za (pv 4) (za zw zc))) zw (zq _)))) zr)
   (ze (zy (i:=8) zbJ.nd rfl (Or.inl rfl) (zm C_law_spots (hM hr) rfl (za (pv 7) (za (pv 2) zc))))
   (zd (zi (zas (zm C_law_same (hM hr) rfl (za (zcO C_places fl_no (hM hr) rfl (za (pv 4) zc)) (za (pv 8) zc))) (zca (wf zV (zm C_answer (hM hr) rfl (za (pv 4) (za zw zc))) (zm C_law_spot_text (hM hr) rfl (za (pv 8) (za (pv 2) zc))) (zq _)))))))))))))))),?_⟩
  have hln:=zx
  refine⟨_,rfl,a,ns,2,rfl,hS,by decide,_,_,rfl,rfl,(by show(0:Int)<16;decide),?_⟩
  dsimp only
  generalize ns.getD (2:Int).toNat 0%16=md
  refine⟨_,rfl,a,ns,4,rfl,hS,by decide,_,rfl,_,rfl,a,ns,0,rfl,hS,by decide,_,_,_,_,_,rfl,by decide,by decide,fun many m1 m2=>?_⟩
  refine⟨_,_,rfl,by omega,by omega,fun l1 H1 s1 f1 e1=>?_⟩
  generalize hus:M1.couples _ _=us at e1
  have hul:us.length=many.toNat:=by rw[←hus,M1.zek]
  have hun:us.Nodup:=by rw[←hus];exact M1.zf6 (by omega)
  have hur:∀x∈us,1≤x∧x≤999:=fun x hx=>by rw[←hus] at hx;exact M1.zf7 hx
  have hgc:M1.zcp us=true:=(M1.goodC_iff us).mpr ⟨by omega,hun,hur⟩
  refine⟨_,rfl,a,ns,5,rfl,s1.seq hS,by decide,_,rfl,_,rfl,a,ns,1,rfl,s1.seq hS,by decide,_,_,_,_,_,rfl,by decide,by decide,fun panel p1 p2=>?_⟩
  refine⟨_,_,rfl,by omega,by omega,fun l2 H2 ts s2 f2 e2 htl htn htg=>?_⟩
  have hgj:M2.zdJ ts=true:=(M2.zgi ts).mpr ⟨by omega,htn,fun z hz=>(M2.za8 z).mp (htg z hz)⟩
  have t2:=s1.trans s2
  refine⟨_,rfl,l1,_,rfl,.inl (SqL.of (s2 _ _ e1)),fun l3 hl3=>?_⟩
  have s3:=Same.new (o:=.lst (us.map V.int)) hl3
  refine⟨_,rfl,l2,_,rfl,.inl (SqL.of (s3 _ _ e2)),fun l4 hl4=>?_⟩
  have s4:=Same.new (o:=.lst (ts.map V.str)) hl4
  intro x dx hx hdx hxd
  have s5:=(Same.new (o:=.own x) hdx).newT (o:=.ins (zE K "Sheet") dx []) (l:=x) (by rw[zg (Ne.symm hxd)];exact hx)
  refine⟨x,dx,l3,l4,us,ts,rfl,zf,SqL.of (s5 _ _ (s4 _ _ zf)),by omega,SqL.of (s5 _ _ zf),by omega,fun z hz=>?_,fun z=>?_,fun _ z=>?_,fun _ _ H5 F hSh hkeep=>⟨rfl,?_⟩⟩
  ·have:=((M2.za8 z).mp (htg z hz)).1;omega
  ·rw[hgc] at z;cases z
  ·rw[hgj] at z;cases z
  -- all that was yi of the sheet stays,and is not the sheet's
  have s25:Same H2 (upd (upd (upd (upd H2 l3 (.lst (us.map V.int))) l4 (.lst (ts.map V.str))) dx (.own x)) x (.ins (zE K "Sheet") dx [])):=(s3.trans s4).trans s5
  have hx2:H2 x=none:=(s3.trans s4).free hx
  have kp:Deed (fun _=>False) H2 F H5:=fun b o e _=>hkeep b o (s25 _ _ e) (zj e hx2)
  have hA5:=(SqL.none (t2.seq hS)).deed kp
  have c5:=kp _ _ (s2 _ _ e1) (fun z=>z)
  have j5:=kp _ _ e2 (fun z=>z)
  have tb5:=kp _ _ (t2 _ _ hT0) (fun z=>z)
  -- the state
  refine⟨_,rfl,(by show 0≤sizeLine;decide),fun lg hlg=>?_⟩
  have sg:=Same.new (o:=.lst []) hlg
  have eg:upd H5 lg (.lst []) lg=some (.lst []):=zf
  have ng:¬F lg:=hSh.apart hlg
  have Ag:=lq_fresh (o:=.lst []) hA5 hlg
  have n1g:l1≠lg:=zj c5.1 hlg
  have cg:=sg _ _ c5.1
  have jg:=sg _ _ j5.1
  have tg:=sg _ _ tb5.1
  have hSg:=hSh.same sg
  generalize hHg:upd H5 lg _=Hg at sg eg Ag cg jg tg hSg ⊢
  refine⟨_,rfl,l2,rfl,⟨_,SqL.of jg⟩,?_⟩
  refine zO (xs:=ts.map V.str) (fun i ys H6=>∃ls:List Addr,ys=ls.map V.ref∧Same Hg H6∧All2 (fun l c=>H6 l=some (.lst (c.map V.int))∧¬F l∧l≠lg) ls ((List.range i).map fun _=>([]:List Int))) ⟨[],rfl,Same.refl _,.nil⟩ ?_ (by rw[length_map];omega) ?_ ?_
  ·rintro i ys H6 hi ⟨ls,rfl,s6,r6⟩
   refine⟨SqL.of (s6 _ _ jg),?_⟩
   have:=r6.length
   rw[length_map,length_range] at this
   rw[length_map]
   omega
  ·rintro i y ys H6 hy ⟨ls,rfl,s6,r6⟩
   refine⟨(by show 0≤sizeLine;decide),fun l hl=>⟨ls++[l],by rw[map_append];rfl,s6.newT hl,?_⟩⟩
   rw[range_succ,map_append]
   exact(r6.imp fun _ _ z=>⟨Same.new hl _ _ z.1,z.2⟩).snoc ⟨zf,(hSg.same s6).apart hl,(zj (s6 _ _ eg) hl).symm⟩
  rintro ys H6 ⟨ls,rfl,s6,r6⟩ lc hlc
  rw[length_map] at r6
  have s7:=Same.new (o:=.lst (ls.map V.ref)) hlc
  have e7:upd H6 lc (.lst (ls.map V.ref)) lc=some (.lst (ls.map V.ref)):=zf
  have n7:¬F lc:=(hSg.same s6).apart hlc
  have erw:(Sh.new us ts).rows=(List.range ts.length).map fun _=>([]:List Int):=by
   show ts.map (fun _=>([]:List Int))=_
   refine ext_getElem (by simp) fun i h1 h2=>?_
   simp
  rw[←erw] at r6
  have r7:Rows F (upd H6 lc (.lst (ls.map V.ref))) lc ls (Sh.new us ts).rows:=⟨e7,n7,r6.imp fun _ _ z=>⟨s7 _ _ z.1,z.2.1⟩⟩
  have nls:∀l∈ls,l≠lg:=fun l hl=>by
   obtain⟨_,z⟩:=r6.memL hl
   exact z.2.2
  have t7:=s6.trans s7
  generalize hH7:upd H6 lc _=H7 at s7 r7 t7 ⊢
  refine⟨(by show 5≤sizeLine;decide),fun st hst=>?_⟩
  have s8:=Same.new (o:=.lst [.ref l1,.ref lg,.ref lc,.int 0,.bl false]) hst
  have e8:upd H7 st (.lst [.ref l1,.ref lg,.ref lc,.int 0,.bl false]) st=some (.lst [.ref l1,.ref lg,.ref lc,.int 0,.bl false]):=zf
  have n8:¬F st:=(hSg.same t7).apart hst
  have t8:=t7.trans s8
  generalize hH8:upd H7 st _=H8 at s8 e8 t8 ⊢
  -- the deeds
  obtain⟨zs,ez,hzl,_⟩:=cut_ints ns 6 46 (by decide)
  refine⟨_,rfl,_,rfl,_,rfl,a,_,rfl,(Ag.same t8).sq,fun lz hlz=>?_⟩
  rw[show zcH (ns.map V.int) (some 6) (some 46)=zs.map V.int from ez]
  have s9:=Same.new (o:=.lst (zs.map V.int)) hlz
  have e9:upd H8 lz (.lst (zs.map V.int)) lz=some (.lst (zs.map V.int)):=zf
  have n9:¬F lz:=(hSg.same t8).apart hlz
  have t9:=t8.trans s9
  have n9g:lz≠lg:=(zj (t8 _ _ eg) hlz).symm
  have T9:St5 (upd H8 lz (.lst (zs.map V.int))) F (Sh.new us ts) st l1 lg lc ls:=⟨s9 _ _ e8,n8,t9 _ _ cg,c5.2,t9 _ _ eg,ng,r7.same (s8.trans s9),n1g,nls⟩
  generalize hH9:upd H8 lz _=H9 at s9 e9 t9 T9 ⊢
  have hts1:ts≠[]:=by intro z;rw[z] at htl;simp at htl;omega
  refine⟨lz,rfl,⟨_,SqL.of e9⟩,?_⟩
  refine zdy (xs:=zs.map V.int) (fun i σ H'=>∃(v6:Option V)(F:Addr→Prop)(S:Sh)(u k:Addr)(ls:List Addr),σ=[some (.ref a),some (.int md),some (.ref l1),some (.ref l2),some (.ref x),some (.ref st),v6,none,none]∧SheetAt K H' x F S∧S.panel=ts∧S.taken≤i∧(H' l2=some (.lst (ts.map V.str))∧¬F l2)∧(H' lz=some (.lst (zs.map V.int))∧¬F lz)∧LQ K (fun b=>F b∨b=lg) H' a (ns.map V.int)∧(H' (zbx K "by_place")=some (.tbl #[])∧¬F (zbx K "by_place"))∧St5 H' F S st u lg k ls)
   ⟨_,F,Sh.new us ts,l1,lc,ls,rfl,hSg.same t9,rfl,le_refl _,⟨t9 _ _ jg,j5.2⟩,⟨e9,n9⟩,Ag.same t9,⟨t9 _ _ tg,tb5.2⟩,T9⟩ ?_ ?_ ?_
  ·rintro i σ H' hi ⟨v6,F,S,u,k,ls,rfl,g1,g2,g3,g4,g5,g6,g7,g8⟩
   exact SqL.of g5.1
  ·clear T9 t9 s9 e9 n9 t8 s8 e8 n8 s7 r7 t7 r6 s6 nls Ag cg jg tg hSg sg eg ng n1g tb5 hA5 c5 j5 kp
   rintro i y σ H' hy ⟨v6,F,S,u,k,ls,rfl,g1,g2,g3,g4,g5,g6,g7,g8⟩
   obtain⟨hi,rfl⟩:=yV hy
   generalize zs.getD i 0=cell
   have hrl:=g8.hr.len
   rw[S.rows_len,g2] at hrl
   have hls:ls≠[]:=fun z=>by rw[z] at hrl;simp at hrl;omega
   refine⟨_,rfl,_,rfl,_,rfl,_,rfl,_,rfl,a,ns,3,rfl,g6.sq,by decide,_,_,rfl,rfl,(by show(0:Int)<4;decide),x,F,S,cell,l2,st,u,lg,k,ls,_,rfl,g1,by rw[g2];exact g4,by rw[g2];exact htg,by omega,g8,fun H2 F' S' u' k' ls' h2 T2 p2 q2 out=>⟨_,rfl,zao ?_⟩⟩
   have hne2:∀{w:List V},(∀v∈w,∀z,v ≠ .str z)→HO.lst (ts.map V.str) ≠ .lst w:=fun {w} hw z=>by
    injection z with z
    cases hts:ts with
    | nil=>exact hts1 hts
    | cons t ts' =>
      rw[hts,map_cons] at z
      exact hw (.str t) (by rw[←z];simp) t rfl
   have j2:=out _ _ g4.1 g4.2 (zD g4.1 g8.hst (hne2 (by intro v hv z e;subst e;simp at hv))) (zD g4.1 g8.hg (hne2 (by intro v hv z e;subst e;obtain⟨_,_,w⟩:=List.mem_map.mp hv;cases w))) (zD g4.1 g8.hr.1 (hne2 (by intro v hv z e;subst e;obtain⟨_,_,w⟩:=List.mem_map.mp hv;cases w)))
   have z2:=out _ _ g5.1 g5.2 (zD g5.1 g8.hst fun z=>by
    injection z with z
    cases zs with
    | nil=>cases z
    | cons w zs=>simp at z) n9g (zD g5.1 g8.hr.1 (zb2 hls))
   have tb2:=out _ _ g7.1 g7.2 (zD g7.1 g8.hst fun z=>by cases z) (zD g7.1 g8.hg fun z=>by cases z) (zD g7.1 g8.hr.1 fun z=>by cases z)
   have A2:=lq_out g6 g8.hst g8.hr.1 hls out
   refine⟨_,rfl,_,rfl,_,rfl,st,_,_,_,rfl,rfl,SqL.of T2.hst,rfl,_,rfl,st,_,_,_,rfl,rfl,SqL.of T2.hst,rfl,_,rfl,st,_,_,_,rfl,rfl,SqL.of T2.hst,rfl,_,rfl,st,_,_,_,rfl,rfl,SqL.of T2.hst,rfl,_,rfl,st,_,_,_,rfl,rfl,SqL.of T2.hst,rfl,x,F',S',l2,u',lg,k',rfl,h2,by rw[p2,g2];exact SqL.of j2.1,SqL.of T2.hu,SqL.of T2.hg,T2.hr.refs K,fun H3 s3=>⟨_,rfl,zao ?_⟩⟩
   exact⟨_,F',S',u',k',ls',rfl,h2.same s3,p2.trans g2,by omega,⟨s3 _ _ j2.1,j2.2⟩,⟨s3 _ _ z2.1,z2.2⟩,A2.same s3,⟨s3 _ _ tb2.1,tb2.2⟩,T2.same s3⟩
  clear T9 t9 s9 e9 n9 t8 s8 e8 n8 s7 r7 t7 r6 s6 nls Ag cg jg tg hSg sg eg ng n1g tb5 hA5 c5 j5 kp
  rintro σ H' ⟨v6,F,S,u,k,ls,rfl,g1,g2,g3,g4,g5,g6,g7,g8⟩
  have ok:=g1.ok
  have c1:=ok.c1
  have c24:=ok.c24
  have h15:S.handed.length≤15:=le_trans (length_filter_le _ _) ok.p15
  have hrl15:S.rows.length≤15:=by rw[S.rows_len];exact ok.p15
  refine⟨_,rfl,st,_,_,_,rfl,rfl,SqL.of g8.hst,rfl,?_⟩
  refine⟨_,rfl,st,_,_,_,rfl,rfl,SqL.of g8.hst,rfl,k,rfl,⟨_,SqL.of g8.hr.1⟩,?_⟩
  refine comp_some (SqL.of g8.hr.1) (g8.hr.2.2.imp fun _ _ z=>SqL.of z.1) (by omega) (fun m d H' Q hm h=>?_) (fun m H' Q h=>⟨_,rfl,h⟩) fun ks H2 s2 r2=>?_
  ·refine⟨_,rfl,(by show 0≤sizeLine;decide),fun l6 hl6=>?_⟩
   have s6:=Same.new (o:=.lst []) hl6
   refine⟨m,l6,_,[],rfl,rfl,s6.seq hm,SqL.new,yO _,rfl,_,rfl,?_⟩
   rw[show eqL (d.map V.int) []=decide (d=[])from zdC _ []]
   exact h _ s6
  intro l3 hl3
  have s3:=s2.newT (o:=.lst (ks.map V.ref)) hl3
  have e3:upd H2 l3 (.lst (ks.map V.ref)) l3=some (.lst (ks.map V.ref)):=zf
  rw[←Sh.cardsIn_rows ok] at r2
  have r3:All2 (IL K (upd H2 l3 (.lst (ks.map V.ref)))) ks S.cardsIn:=r2.imp fun _ _=>IL.stays K _ _ _ _ (Same.new hl3)
  generalize hH3:upd H2 l3 _=H3 at s3 e3 r3 ⊢
  have hil:=Sh.cardsIn_len S
  have hip:=Sh.cardsIn_perm ok
  have tb3:=s3 _ _ g7.1
  refine⟨_,rfl,(by show 0≤sizeLine;decide),fun l4 hl4=>?_⟩
  have s4:=Same.new (o:=.lst []) hl4
  refine⟨l3,l4,_,rfl,rfl,SqL.of (s4 _ _ e3),SqL.new,_,rfl,?_⟩
  rw[length_map,r3.length]
  have e4:=s4 _ _ e3
  have r4:All2 (IL K (upd H3 l4 (.lst []))) ks S.cardsIn:=r3.imp fun _ _=>IL.stays K _ _ _ _ s4
  have t4:=s3.trans s4
  generalize hH4:upd H3 l4 _=H4 at s4 e4 r4 t4 ⊢
  have rp:M20.row (Str.ofString "places") (Str.ofString "") []=Str.ofString "places":=M6.zio.2
  refine wk (fun h0=>?_) (fun h1=>?_)
  ·have h0:S.handed.length=0:=by omega
   refine⟨_,rfl,x,F,S,_,_,[],(by rw[rp];rfl),g1.same t4,M6.zfb,.inr (.inr (.inr ⟨rfl,LamS.new (q:=zds) (t4 _ _ g7.1),fun _ H5 _=>⟨rfl,?_⟩,fun h1=>by omega⟩))⟩
   rw[decide_eq_true (by decide +kernel)]
   exact q _
  ·have h1:1≤S.handed.length:=by omega
   refine⟨_,rfl,_,rfl,l3,u,_,S.couples,rfl,⟨ks,SqL.of e4,r4⟩,SqL.of (t4 _ _ g8.hu),by omega,by omega,fun w hw d hd=>(hip d hd).mem_iff.mpr hw,fun l5 H5 s5 f5 e5=>?_⟩
   rw[M6.zgQ hip (by omega)] at e5
   have t5:=t4.trans s5
   refine⟨_,rfl,x,F,S,rfl,g1.same t5,(fun z=>by omega),fun _ l6 H6 s6 f6 e6=>?_⟩
   refine⟨_,rfl,l6,l5,_,_,rfl,SqL.of e6,SqL.of (s6 _ _ e5),by rw[M6.zc2];omega,?_⟩
   rw[decide_eq_true rfl]
   have t6:=t5.trans s6
   refine⟨true,rfl,zdG ?_⟩
   refine⟨_,rfl,x,F,S,_,_,[],(by rw[rp];rfl),g1.same t6,M6.zfb,.inr (.inr (.inr ⟨rfl,LamS.new (q:=zds) (t6 _ _ g7.1),fun h0=>by omega,fun _ H7 s7 z7=>?_⟩))⟩
   refine⟨_,rfl,_,rfl,l5,u,S.cardsIn,S.couples,rfl,SqL.of (s7.lst (s6 _ _ e5)),SqL.of (s7.lst (t6 _ _ g8.hu)),by omega,ok.rng,fun H8 s8=>⟨rfl,?_⟩⟩
   rw[decide_eq_true rfl]
   exact q _
theorem on0{α:Type}{P:List α→Prop}(p:P []):∀us:List α,us.length=0→P us:=by
 intro us e
 cases us with
 | nil=>exact p
 | cons _ _=>cases e
theorem onS{α:Type}{n:Nat}{P:List α→Prop}(p:∀(a:α)(us:List α),us.length=n→P (a::us)):∀us:List α,us.length=n+1→P us:=by
 intro us e
 cases us with
 | nil=>cases e
 | cons a r=>exact p a r (Nat.succ.inj e)
theorem all_mk{l:PySem.W.OpenLaw}{w:World}{K:Frag}{h:Heap}{mg:Str→Option Value}{fa f0 f1 f2 f3 f4 f5 f6 f7 f8 f9 f10 f11 f12 f13 f14 f15 f16 f17 f18 f19 f20 f21 f22 f23 f24 f25 f26 f27 f28 f29 f30 f31 f32 f33 f34 f35 f36 f37 f38 f39 f40 f41 f42 f43 f44 f45 f46 f47 f48 f49 f50 f51 f52 f53 f54 f55 f56 f57 f58 f59 f60 f61 f62 f63 f64 f65 f66 f67 f68 f69 f70 f71 f72 f73 oC_Sheet:Addr}{oc0 kV0 dc0 pm0 cd0 ct0 oc1 kV1 dc1 pm1 cd1 ct1 oc2 kV2 dc2 pm2 cd2 ct2 oc3 kV3 dc3 pm3 cd3 ct3 oc4 kV4 dc4 pm4 cd4 ct4 oc5 kV5 dc5 pm5 cd5 ct5 oc6 kV6 dc6 pm6 cd6 ct6 oc7 kV7 dc7 pm7 cd7 ct7 oc8 kV8 dc8 pm8 cd8 ct8 oc9 kV9 dc9 pm9 cd9 ct9 oc10 kV10 dc10 pm10 cd10 ct10 oc11 kV11 dc11 pm11 cd11 ct11 oc12 kV12 dc12 pm12 cd12 ct12 oc13 kV13 dc13 pm13 cd13 ct13 oc14 kV14 dc14 pm14 cd14 ct14 oc15 kV15 dc15 pm15 cd15 ct15 oc16 kV16 dc16 pm16 cd16 ct16 oc17 kV17 dc17 pm17 cd17 ct17 oc18 kV18 dc18 pm18 cd18 ct18 oc19 kV19 dc19 pm19 cd19 ct19 oc20 kV20 dc20 pm20 cd20 ct20 oc21 kV21 dc21 pm21 cd21 ct21 oc22 kV22 dc22 pm22 cd22 ct22 oc23 kV23 dc23 pm23 cd23 ct23 oc24 kV24 dc24 pm24 cd24 ct24 oc25 kV25 dc25 pm25 cd25 ct25 oc26 kV26 dc26 pm26 cd26 ct26 oc27 kV27 dc27 pm27 cd27 ct27 oc28 kV28 dc28 pm28 cd28 ct28 oc29 kV29 dc29 pm29 cd29 ct29 oc30 kV30 dc30 pm30 cd30 ct30 oc31 kV31 dc31 pm31 cd31 ct31 oc32 kV32 dc32 pm32 cd32 ct32 oc33 kV33 dc33 pm33 cd33 ct33 oc34 kV34 dc34 pm34 cd34 ct34 oc35 kV35 dc35 pm35 cd35 ct35 oc36 kV36 dc36 pm36 cd36 ct36 oc37 kV37 dc37 pm37 cd37 ct37 oc38 kV38 dc38 pm38 cd38 ct38 oc39 kV39 dc39 pm39 cd39 ct39 oc40 kV40 dc40 pm40 cd40 ct40 oc41 kV41 dc41 pm41 cd41 ct41 oc42 kV42 dc42 pm42 cd42 ct42 oc43 kV43 dc43 pm43 cd43 ct43 oc44 kV44 dc44 pm44 cd44 ct44 oc45 kV45 dc45 pm45 cd45 ct45 oc46 kV46 dc46 pm46 cd46 ct46 oc47 kV47 dc47 pm47 cd47 ct47 oc48 kV48 dc48 pm48 cd48 ct48 oc49 kV49 dc49 pm49 cd49 ct49 oc50 kV50 dc50 pm50 cd50 ct50 oc51 kV51 dc51 pm51 cd51 ct51 oc52 kV52 dc52 pm52 cd52 ct52 oc53 kV53 dc53 pm53 cd53 ct53 oc54 kV54 dc54 pm54 cd54 ct54 oc55 kV55 dc55 pm55 cd55 ct55 oc56 kV56 dc56 pm56 cd56 ct56 oc57 kV57 dc57 pm57 cd57 ct57 oc58 kV58 dc58 pm58 cd58 ct58 oc59 kV59 dc59 pm59 cd59 ct59 oc60 kV60 dc60 pm60 cd60 ct60 oc61 kV61 dc61 pm61 cd61 ct61 oc62 kV62 dc62 pm62 cd62 ct62 oc63 kV63 dc63 pm63 cd63 ct63 oc64 kV64 dc64 pm64 cd64 ct64 oc65 kV65 dc65 pm65 cd65 ct65 oc66 kV66 dc66 pm66 cd66 ct66 oc67 kV67 dc67 pm67 cd67 ct67 oc68 kV68 dc68 pm68 cd68 ct68 oc69 kV69 dc69 pm69 cd69 ct69 oc70 kV70 dc70 pm70 cd70 ct70 oc71 kV71 dc71 pm71 cd71 ct71 oc72 kV72 dc72 pm72 cd72 ct72 oc73 kV73 dc73 pm73 cd73 ct73:Value}{od0 an0 od1 an1 od2 an2 od3 an3 od4 an4 od5 an5 od6 an6 od7 an7 od8 an8 od9 an9 od10 an10 od11 an11 od12 an12 od13 an13 od14 an14 od15 an15 od16 an16 od17 an17 od18 an18 od19 an19 od20 an20 od21 an21 od22 an22 od23 an23 od24 an24 od25 an25 od26 an26 od27 an27 od28 an28 od29 an29 od30 an30 od31 an31 od32 an32 od33 an33 od34 an34 od35 an35 od36 an36 od37 an37 od38 an38 od39 an39 od40 an40 od41 an41 od42 an42 od43 an43 od44 an44 od45 an45 od46 an46 od47 an47 od48 an48 od49 an49 od50 an50 od51 an51 od52 an52 od53 an53 od54 an54 od55 an55 od56 an56 od57 an57 od58 an58 od59 an59 od60 an60 od61 an61 od62 an62 od63 an63 od64 an64 od65 an65 od66 an66 od67 an67 od68 an68 od69 an69 od70 an70 od71 an71 od72 an72 od73 an73:Option Addr}{sl0 sl1 sl2 sl3 sl4 sl5 sl6 sl7 sl8 sl9 sl10 sl11 sl12 sl13 sl14 sl15 sl16 sl17 sl18 sl19 sl20 sl21 sl22 sl23 sl24 sl25 sl26 sl27 sl28 sl29 sl30 sl31 sl32 sl33 sl34 sl35 sl36 sl37 sl38 sl39 sl40 sl41 sl42 sl43 sl44 sl45 sl46 sl47 sl48 sl49 sl50 sl51 sl52 sl53 sl54 sl55 sl56 sl57 sl58 sl59 sl60 sl61 sl62 sl63 sl64 sl65 sl66 sl67 sl68 sl69 sl70 sl71 sl72 sl73:Array (Option Value)}(X:K.In h)(G:h.Ns mainGlobals mg)(hfa:mg "law"=some (.ref fa))
 (oa_Sheet:nsIn K mainGlobals "Sheet"=some (some (.ref oC_Sheet)))
 (a0:PySem.W.findIn K (.ref oC_Sheet) "taken"=some (some (.ref f0))) (i0:isFn K (.ref f0)=true) (l0:K.lookup f0=some ⟨oc0,od0,.func (fnOf "taken" "Sheet.taken" (zl yY) (zk yY) (zb yY) .none kV0 dc0 pm0 an0 cd0 ct0),sl0⟩) (c0:codeIn K cd0 "Sheet.taken"=true) (k0:keepIn K (.ref f0)=true)
 (a1:PySem.W.findIn K (.ref oC_Sheet) "is_sealed"=some (some (.ref f1))) (i1:isFn K (.ref f1)=true) (l1:K.lookup f1=some ⟨oc1,od1,.func (fnOf "is_sealed" "Sheet.is_sealed" (zl zZ) (zk zZ) (zb zZ) .none kV1 dc1 pm1 an1 cd1 ct1),sl1⟩) (c1:codeIn K cd1 "Sheet.is_sealed"=true) (k1:keepIn K (.ref f1)=true)
 (a2:PySem.W.findIn K (.ref oC_Sheet) "refuse_if_sealed"=some (some (.ref f2))) (i2:isFn K (.ref f2)=true) (l2:K.lookup f2=some ⟨oc2,od2,.func (fnOf "refuse_if_sealed" "Sheet.refuse_if_sealed" (zl zG) (zk zG) (zb zG) .none kV2 dc2 pm2 an2 cd2 ct2),sl2⟩) (c2:codeIn K cd2 "Sheet.refuse_if_sealed"=true) (k2:keepIn K (.ref f2)=true)
 (a3:PySem.W.findIn K (.ref oC_Sheet) "refuse_unknown_judge"=some (some (.ref f3))) (i3:isFn K (.ref f3)=true) (l3:K.lookup f3=some ⟨oc3,od3,.func (fnOf "refuse_unknown_judge" "Sheet.refuse_unknown_judge" (zl zC) (zk zC) (zb zC) .none kV3 dc3 pm3 an3 cd3 ct3),sl3⟩) (c3:codeIn K cd3 "Sheet.refuse_unknown_judge"=true) (k3:keepIn K (.ref f3)=true)
 (a4:PySem.W.findIn K (.ref oC_Sheet) "couples"=some (some (.ref f4))) (i4:isFn K (.ref f4)=true) (l4:K.lookup f4=some ⟨oc4,od4,.func (fnOf "couples" "Sheet.couples" (zl yn) (zk yn) (zb yn) .none kV4 dc4 pm4 an4 cd4 ct4),sl4⟩) (c4:codeIn K cd4 "Sheet.couples"=true) (k4:keepIn K (.ref f4)=true)
 (a5:PySem.W.findIn K (.ref oC_Sheet) "struck"=some (some (.ref f5))) (i5:isFn K (.ref f5)=true) (l5:K.lookup f5=some ⟨oc5,od5,.func (fnOf "struck" "Sheet.struck" (zl yP) (zk yP) (zb yP) .none kV5 dc5 pm5 an5 cd5 ct5),sl5⟩) (c5:codeIn K cd5 "Sheet.struck"=true) (k5:keepIn K (.ref f5)=true)
 (a6:PySem.W.findIn K (.ref oC_Sheet) "judges"=some (some (.ref f6))) (i6:isFn K (.ref f6)=true) (l6:K.lookup f6=some ⟨oc6,od6,.func (fnOf "judges" "Sheet.judges" (zl yI) (zk yI) (zb yI) .none kV6 dc6 pm6 an6 cd6 ct6),sl6⟩) (c6:codeIn K cd6 "Sheet.judges"=true) (k6:keepIn K (.ref f6)=true)
 (a7:PySem.W.findIn K (.ref oC_Sheet) "handed"=some (some (.ref f7))) (i7:isFn K (.ref f7)=true) (l7:K.lookup f7=some ⟨oc7,od7,.func (fnOf "handed" "Sheet.handed" (zl yh) (zk yh) (zb yh) .none kV7 dc7 pm7 an7 cd7 ct7),sl7⟩) (c7:codeIn K cd7 "Sheet.handed"=true) (k7:keepIn K (.ref f7)=true)
 (a8:nsIn K mainGlobals "_law_rows"=some (some (.ref f8))) (l8:K.lookup f8=some ⟨oc8,od8,.func (fnOf "_law_rows" "_law_rows" (zl zaB) (zk zaB) (zb zaB) .none kV8 dc8 pm8 an8 cd8 ct8),sl8⟩) (c8:codeIn K cd8 "_law_rows"=true) (k8:keepIn K (.ref f8)=true)
 (a9:nsIn K mainGlobals "_law_good"=some (some (.ref f9))) (l9:K.lookup f9=some ⟨oc9,od9,.func (fnOf "_law_good" "_law_good" (zl zax) (zk zax) (zb zax) .none kV9 dc9 pm9 an9 cd9 ct9),sl9⟩) (c9:codeIn K cd9 "_law_good"=true) (k9:keepIn K (.ref f9)=true)
 (a10:nsIn K mainGlobals "_law_without"=some (some (.ref f10))) (l10:K.lookup f10=some ⟨oc10,od10,.func (fnOf "_law_without" "_law_without" (zl yH) (zk yH) (zb yH) .none kV10 dc10 pm10 an10 cd10 ct10),sl10⟩) (c10:codeIn K cd10 "_law_without"=true) (k10:keepIn K (.ref f10)=true)
 (a11:nsIn K mainGlobals "_law_words"=some (some (.ref f11))) (l11:K.lookup f11=some ⟨oc11,od11,.func (fnOf "_law_words" "_law_words" (zl wu) (zk wu) (zb wu) .none kV11 dc11 pm11 an11 cd11 ct11),sl11⟩) (c11:codeIn K cd11 "_law_words"=true) (k11:keepIn K (.ref f11)=true)
 (a12:nsIn K mainGlobals "whole_card"=some (some (.ref f12))) (l12:K.lookup f12=some ⟨oc12,od12,.func (fnOf "whole_card" "whole_card" (zl wG) (zk wG) (zb wG) .none kV12 dc12 pm12 an12 cd12 ct12),sl12⟩) (c12:codeIn K cd12 "whole_card"=true) (k12:keepIn K (.ref f12)=true)
 (a13:nsIn K mainGlobals "mark_on"=some (some (.ref f13))) (l13:K.lookup f13=some ⟨oc13,od13,.func (fnOf "mark_on" "mark_on" (zl za9) (zk za9) (zb za9) .none kV13 dc13 pm13 an13 cd13 ct13),sl13⟩) (c13:codeIn K cd13 "mark_on"=true) (k13:keepIn K (.ref f13)=true)
 (a14:nsIn K mainGlobals "without_couple"=some (some (.ref f14))) (l14:K.lookup f14=some ⟨oc14,od14,.func (fnOf "without_couple" "without_couple" (zl zW) (zk zW) (zb zW) .none kV14 dc14 pm14 an14 cd14 ct14),sl14⟩) (c14:codeIn K cd14 "without_couple"=true) (k14:keepIn K (.ref f14)=true)
 (a15:nsIn K mainGlobals "majority_of"=some (some (.ref f15))) (l15:K.lookup f15=some ⟨oc15,od15,.func (fnOf "majority_of" "majority_of" (zl wa) (zk wa) (zb wa) .none kV15 dc15 pm15 an15 cd15 ct15),sl15⟩) (c15:codeIn K cd15 "majority_of"=true) (k15:keepIn K (.ref f15)=true)
 (a16:nsIn K mainGlobals "granting"=some (some (.ref f16))) (l16:K.lookup f16=some ⟨oc16,od16,.func (fnOf "granting" "granting" (zl wR) (zk wR) (zb wR) .none kV16 dc16 pm16 an16 cd16 ct16),sl16⟩) (c16:codeIn K cd16 "granting"=true) (k16:keepIn K (.ref f16)=true)
 (a17:nsIn K mainGlobals "due_couples"=some (some (.ref f17))) (l17:K.lookup f17=some ⟨oc17,od17,.func (fnOf "due_couples" "due_couples" (zl wb) (zk wb) (zb wb) .none kV17 dc17 pm17 an17 cd17 ct17),sl17⟩) (c17:codeIn K cd17 "due_couples"=true) (k17:keepIn K (.ref f17)=true)
 (a18:nsIn K mainGlobals "figure"=some (some (.ref f18))) (l18:K.lookup f18=some ⟨oc18,od18,.func (fnOf "figure" "figure" (zl zbW) (zk zbW) (zb zbW) .none kV18 dc18 pm18 an18 cd18 ct18),sl18⟩) (c18:codeIn K cd18 "figure"=true) (k18:keepIn K (.ref f18)=true)
 (a19:nsIn K mainGlobals "good_number"=some (some (.ref f19))) (l19:K.lookup f19=some ⟨oc19,od19,.func (fnOf "good_number" "good_number" (zl y9) (zk y9) (zb y9) .none kV19 dc19 pm19 an19 cd19 ct19),sl19⟩) (c19:codeIn K cd19 "good_number"=true) (k19:keepIn K (.ref f19)=true)
 (a20:nsIn K mainGlobals "small_letter"=some (some (.ref f20))) (l20:K.lookup f20=some ⟨oc20,od20,.func (fnOf "small_letter" "small_letter" (zl yJ) (zk yJ) (zb yJ) .none kV20 dc20 pm20 an20 cd20 ct20),sl20⟩) (c20:codeIn K cd20 "small_letter"=true) (k20:keepIn K (.ref f20)=true)
 (a21:nsIn K mainGlobals "good_length"=some (some (.ref f21))) (l21:K.lookup f21=some ⟨oc21,od21,.func (fnOf "good_length" "good_length" (zl yW) (zk yW) (zb yW) .none kV21 dc21 pm21 an21 cd21 ct21),sl21⟩) (c21:codeIn K cd21 "good_length"=true) (k21:keepIn K (.ref f21)=true)
 (a22:nsIn K mainGlobals "all_unlike"=some (some (.ref f22))) (l22:K.lookup f22=some ⟨oc22,od22,.func (fnOf "all_unlike" "all_unlike" (zl wI) (zk wI) (zb wI) .none kV22 dc22 pm22 an22 cd22 ct22),sl22⟩) (c22:codeIn K cd22 "all_unlike"=true) (k22:keepIn K (.ref f22)=true)
 (a23:nsIn K mainGlobals "ranking_text"=some (some (.ref f23))) (l23:K.lookup f23=some ⟨oc23,od23,.func (fnOf "ranking_text" "ranking_text" (zl ye) (zk ye) (zb ye) .none kV23 dc23 pm23 an23 cd23 ct23),sl23⟩) (c23:codeIn K cd23 "ranking_text"=true) (k23:keepIn K (.ref f23)=true)
 (a24:nsIn K mainGlobals "_law_whole"=some (some (.ref f24))) (l24:K.lookup f24=some ⟨oc24,od24,.func (fnOf "_law_whole" "_law_whole" (zl zad) (zk zad) (zb zad) .none kV24 dc24 pm24 an24 cd24 ct24),sl24⟩) (c24:codeIn K cd24 "_law_whole"=true) (k24:keepIn K (.ref f24)=true)
 (a25:nsIn K mainGlobals "_law_at"=some (some (.ref f25))) (l25:K.lookup f25=some ⟨oc25,od25,.func (fnOf "_law_at" "_law_at" (zl zbP) (zk zbP) (zb zbP) .none kV25 dc25 pm25 an25 cd25 ct25),sl25⟩) (c25:codeIn K cd25 "_law_at"=true) (k25:keepIn K (.ref f25)=true)
 (a26:nsIn K mainGlobals "_law_texts"=some (some (.ref f26))) (l26:K.lookup f26=some ⟨oc26,od26,.func (fnOf "_law_texts" "_law_texts" (zl wW) (zk wW) (zb wW) .none kV26 dc26 pm26 an26 cd26 ct26),sl26⟩) (c26:codeIn K cd26 "_law_texts"=true) (k26:keepIn K (.ref f26)=true)
 (a27:nsIn K mainGlobals "_law_mix"=some (some (.ref f27))) (l27:K.lookup f27=some ⟨oc27,od27,.func (fnOf "_law_mix" "_law_mix" (zl zbb) (zk zbb) (zb zbb) .none kV27 dc27 pm27 an27 cd27 ct27),sl27⟩) (c27:codeIn K cd27 "_law_mix"=true) (k27:keepIn K (.ref f27)=true)
 (a28:nsIn K mainGlobals "_law_many"=some (some (.ref f28))) (l28:K.lookup f28=some ⟨oc28,od28,.func (fnOf "_law_many" "_law_many" (zl zat) (zk zat) (zb zat) .none kV28 dc28 pm28 an28 cd28 ct28),sl28⟩) (c28:codeIn K cd28 "_law_many"=true) (k28:keepIn K (.ref f28)=true)
 (a29:nsIn K mainGlobals "_law_couples"=some (some (.ref f29))) (l29:K.lookup f29=some ⟨oc29,od29,.func (fnOf "_law_couples" "_law_couples" (zl yE) (zk yE) (zb yE) .none kV29 dc29 pm29 an29 cd29 ct29),sl29⟩) (c29:codeIn K cd29 "_law_couples"=true) (k29:keepIn K (.ref f29)=true)
 (a30:nsIn K mainGlobals "_law_marks"=some (some (.ref f30))) (l30:K.lookup f30=some ⟨oc30,od30,.func (fnOf "_law_marks" "_law_marks" (zl wl) (zk wl) (zb wl) .none kV30 dc30 pm30 an30 cd30 ct30),sl30⟩) (c30:codeIn K cd30 "_law_marks"=true) (k30:keepIn K (.ref f30)=true)
 (a31:nsIn K mainGlobals "_law_key"=some (some (.ref f31))) (l31:K.lookup f31=some ⟨oc31,od31,.func (fnOf "_law_key" "_law_key" (zl zay) (zk zay) (zb zay) .none kV31 dc31 pm31 an31 cd31 ct31),sl31⟩) (c31:codeIn K cd31 "_law_key"=true) (k31:keepIn K (.ref f31)=true)
 (a32:PySem.W.findIn K (.ref oC_Sheet) "hand_in"=some (some (.ref f32))) (i32:isFn K (.ref f32)=true) (l32:K.lookup f32=some ⟨oc32,od32,.func (fnOf "hand_in" "Sheet.hand_in" (zl yq) (zk yq) (zb yq) .none kV32 dc32 pm32 an32 cd32 ct32),sl32⟩) (c32:codeIn K cd32 "Sheet.hand_in"=true) (k32:keepIn K (.ref f32)=true)
 (a33:PySem.W.findIn K (.ref oC_Sheet) "strike"=some (some (.ref f33))) (i33:isFn K (.ref f33)=true) (l33:K.lookup f33=some ⟨oc33,od33,.func (fnOf "strike" "Sheet.strike" (zl yN) (zk yN) (zb yN) .none kV33 dc33 pm33 an33 cd33 ct33),sl33⟩) (c33:codeIn K cd33 "Sheet.strike"=true) (k33:keepIn K (.ref f33)=true)
 (a34:PySem.W.findIn K (.ref oC_Sheet) "seal"=some (some (.ref f34))) (i34:isFn K (.ref f34)=true) (l34:K.lookup f34=some ⟨oc34,od34,.func (fnOf "seal" "Sheet.seal" (zl wH) (zk wH) (zb wH) .none kV34 dc34 pm34 an34 cd34 ct34),sl34⟩) (c34:codeIn K cd34 "Sheet.seal"=true) (k34:keepIn K (.ref f34)=true)
 (a35:PySem.W.findIn K (.ref oC_Sheet) "card_of"=some (some (.ref f35))) (i35:isFn K (.ref f35)=true) (l35:K.lookup f35=some ⟨oc35,od35,.func (fnOf "card_of" "Sheet.card_of" (zl yo) (zk yo) (zb yo) .none kV35 dc35 pm35 an35 cd35 ct35),sl35⟩) (c35:codeIn K cd35 "Sheet.card_of"=true) (k35:keepIn K (.ref f35)=true)
 (a36:nsIn K mainGlobals "_law_spots"=some (some (.ref f36))) (l36:K.lookup f36=some ⟨oc36,od36,.func (fnOf "_law_spots" "_law_spots" (zl yR) (zk yR) (zb yR) .none kV36 dc36 pm36 an36 cd36 ct36),sl36⟩) (c36:codeIn K cd36 "_law_spots"=true) (k36:keepIn K (.ref f36)=true)
 (a37:nsIn K mainGlobals "_law_spot_text"=some (some (.ref f37))) (l37:K.lookup f37=some ⟨oc37,od37,.func (fnOf "_law_spot_text" "_law_spot_text" (zl ya) (zk ya) (zb ya) .none kV37 dc37 pm37 an37 cd37 ct37),sl37⟩) (c37:codeIn K cd37 "_law_spot_text"=true) (k37:keepIn K (.ref f37)=true)
 (a38:nsIn K mainGlobals "_law_due"=some (some (.ref f38))) (l38:K.lookup f38=some ⟨oc38,od38,.func (fnOf "_law_due" "_law_due" (zl za6) (zk za6) (zb za6) .none kV38 dc38 pm38 an38 cd38 ct38),sl38⟩) (c38:codeIn K cd38 "_law_due"=true) (k38:keepIn K (.ref f38)=true)
 (a39:nsIn K mainGlobals "marks_of"=some (some (.ref f39))) (l39:K.lookup f39=some ⟨oc39,od39,.func (fnOf "marks_of" "marks_of" (zl wT) (zk wT) (zb wT) .none kV39 dc39 pm39 an39 cd39 ct39),sl39⟩) (c39:codeIn K cd39 "marks_of"=true) (k39:keepIn K (.ref f39)=true)
 (a40:nsIn K mainGlobals "granted"=some (some (.ref f40))) (l40:K.lookup f40=some ⟨oc40,od40,.func (fnOf "granted" "granted" (zl zba) (zk zba) (zb zba) .none kV40 dc40 pm40 an40 cd40 ct40),sl40⟩) (c40:codeIn K cd40 "granted"=true) (k40:keepIn K (.ref f40)=true)
 (a41:nsIn K mainGlobals "granted_sum"=some (some (.ref f41))) (l41:K.lookup f41=some ⟨oc41,od41,.func (fnOf "granted_sum" "granted_sum" (zl wd) (zk wd) (zb wd) .none kV41 dc41 pm41 an41 cd41 ct41),sl41⟩) (c41:codeIn K cd41 "granted_sum"=true) (k41:keepIn K (.ref f41)=true)
 (a42:nsIn K mainGlobals "first_number"=some (some (.ref f42))) (l42:K.lookup f42=some ⟨oc42,od42,.func (fnOf "first_number" "first_number" (zl yK) (zk yK) (zb yK) .none kV42 dc42 pm42 an42 cd42 ct42),sl42⟩) (c42:codeIn K cd42 "first_number"=true) (k42:keepIn K (.ref f42)=true)
 (a43:nsIn K mainGlobals "refuse_fewer_cards"=some (some (.ref f43))) (l43:K.lookup f43=some ⟨oc43,od43,.func (fnOf "refuse_fewer_cards" "refuse_fewer_cards" (zl zP) (zk zP) (zb zP) .none kV43 dc43 pm43 an43 cd43 ct43),sl43⟩) (c43:codeIn K cd43 "refuse_fewer_cards"=true) (k43:keepIn K (.ref f43)=true)
 (a44:nsIn K mainGlobals "couple_word"=some (some (.ref f44))) (l44:K.lookup f44=some ⟨oc44,od44,.func (fnOf "couple_word" "couple_word" (zl yA) (zk yA) (zb yA) .none kV44 dc44 pm44 an44 cd44 ct44),sl44⟩) (c44:codeIn K cd44 "couple_word"=true) (k44:keepIn K (.ref f44)=true)
 (a45:nsIn K mainGlobals "good_couples"=some (some (.ref f45))) (l45:K.lookup f45=some ⟨oc45,od45,.func (fnOf "good_couples" "good_couples" (zl yf) (zk yf) (zb yf) .none kV45 dc45 pm45 an45 cd45 ct45),sl45⟩) (c45:codeIn K cd45 "good_couples"=true) (k45:keepIn K (.ref f45)=true)
 (a46:nsIn K mainGlobals "good_name"=some (some (.ref f46))) (l46:K.lookup f46=some ⟨oc46,od46,.func (fnOf "good_name" "good_name" (zl wj) (zk wj) (zb wj) .none kV46 dc46 pm46 an46 cd46 ct46),sl46⟩) (c46:codeIn K cd46 "good_name"=true) (k46:keepIn K (.ref f46)=true)
 (a47:nsIn K mainGlobals "_law_same"=some (some (.ref f47))) (l47:K.lookup f47=some ⟨oc47,od47,.func (fnOf "_law_same" "_law_same" (zl zaD) (zk zaD) (zb zaD) .none kV47 dc47 pm47 an47 cd47 ct47),sl47⟩) (c47:codeIn K cd47 "_law_same"=true) (k47:keepIn K (.ref f47)=true)
 (a48:nsIn K mainGlobals "_law_names"=some (some (.ref f48))) (l48:K.lookup f48=some ⟨oc48,od48,.func (fnOf "_law_names" "_law_names" (zl wY) (zk wY) (zb wY) .none kV48 dc48 pm48 an48 cd48 ct48),sl48⟩) (c48:codeIn K cd48 "_law_names"=true) (k48:keepIn K (.ref f48)=true)
 (a49:nsIn K mainGlobals "_law_card"=some (some (.ref f49))) (l49:K.lookup f49=some ⟨oc49,od49,.func (fnOf "_law_card" "_law_card" (zl zaF) (zk zaF) (zb zaF) .none kV49 dc49 pm49 an49 cd49 ct49),sl49⟩) (c49:codeIn K cd49 "_law_card"=true) (k49:keepIn K (.ref f49)=true)
 (a50:PySem.W.findIn K (.ref oC_Sheet) "cards"=some (some (.ref f50))) (i50:isFn K (.ref f50)=true) (l50:K.lookup f50=some ⟨oc50,od50,.func (fnOf "cards" "Sheet.cards" (zl yF) (zk yF) (zb yF) .none kV50 dc50 pm50 an50 cd50 ct50),sl50⟩) (c50:codeIn K cd50 "Sheet.cards"=true) (k50:keepIn K (.ref f50)=true)
 (a51:nsIn K mainGlobals "_law_by_method"=some (some (.ref f51))) (l51:K.lookup f51=some ⟨oc51,od51,.func (fnOf "_law_by_method" "_law_by_method" (zl yp) (zk yp) (zb yp) .none kV51 dc51 pm51 an51 cd51 ct51),sl51⟩) (c51:codeIn K cd51 "_law_by_method"=true) (k51:keepIn K (.ref f51)=true)
 (a52:nsIn K mainGlobals "unlike_at"=some (some (.ref f52))) (l52:K.lookup f52=some ⟨oc52,od52,.func (fnOf "unlike_at" "unlike_at" (zl zaa) (zk zaa) (zb zaa) .none kV52 dc52 pm52 an52 cd52 ct52),sl52⟩) (c52:codeIn K cd52 "unlike_at"=true) (k52:keepIn K (.ref f52)=true)
 (a53:nsIn K mainGlobals "read_couple"=some (some (.ref f53))) (l53:K.lookup f53=some ⟨oc53,od53,.func (fnOf "read_couple" "read_couple" (zl yZ) (zk yZ) (zb yZ) .none kV53 dc53 pm53 an53 cd53 ct53),sl53⟩) (c53:codeIn K cd53 "read_couple"=true) (k53:keepIn K (.ref f53)=true)
 (a54:nsIn K mainGlobals "good_judges"=some (some (.ref f54))) (l54:K.lookup f54=some ⟨oc54,od54,.func (fnOf "good_judges" "good_judges" (zl yC) (zk yC) (zb yC) .none kV54 dc54 pm54 an54 cd54 ct54),sl54⟩) (c54:codeIn K cd54 "good_judges"=true) (k54:keepIn K (.ref f54)=true)
 (a55:nsIn K mainGlobals "_law_lists"=some (some (.ref f55))) (l55:K.lookup f55=some ⟨oc55,od55,.func (fnOf "_law_lists" "_law_lists" (zl zab) (zk zab) (zb zab) .none kV55 dc55 pm55 an55 cd55 ct55),sl55⟩) (c55:codeIn K cd55 "_law_lists"=true) (k55:keepIn K (.ref f55)=true)
 (a56:nsIn K mainGlobals "_law_dealt"=some (some (.ref f56))) (l56:K.lookup f56=some ⟨oc56,od56,.func (fnOf "_law_dealt" "_law_dealt" (zl wX) (zk wX) (zb wX) .none kV56 dc56 pm56 an56 cd56 ct56),sl56⟩) (c56:codeIn K cd56 "_law_dealt"=true) (k56:keepIn K (.ref f56)=true)
 (a57:PySem.W.findIn K (.ref oC_Sheet) "__init__"=some (some (.ref f57))) (i57:isFn K (.ref f57)=true) (l57:K.lookup f57=some ⟨oc57,od57,.func (fnOf "__init__" "Sheet.__init__" (zl wA) (zk wA) (zb wA) .none kV57 dc57 pm57 an57 cd57 ct57),sl57⟩) (c57:codeIn K cd57 "Sheet.__init__"=true) (k57:keepIn K (.ref f57)=true)
 (a58:nsIn K mainGlobals "_law_stands"=some (some (.ref f58))) (l58:K.lookup f58=some ⟨oc58,od58,.func (fnOf "_law_stands" "_law_stands" (zl yb) (zk yb) (zb yb) .none kV58 dc58 pm58 an58 cd58 ct58),sl58⟩) (c58:codeIn K cd58 "_law_stands"=true) (k58:keepIn K (.ref f58)=true)
 (a59:nsIn K mainGlobals "is_ahead"=some (some (.ref f59))) (l59:K.lookup f59=some ⟨oc59,od59,.func (fnOf "is_ahead" "is_ahead" (zl zaA) (zk zaA) (zb zaA) .none kV59 dc59 pm59 an59 cd59 ct59),sl59⟩) (c59:codeIn K cd59 "is_ahead"=true) (k59:keepIn K (.ref f59)=true)
 (a60:nsIn K mainGlobals "read_couples"=some (some (.ref f60))) (l60:K.lookup f60=some ⟨oc60,od60,.func (fnOf "read_couples" "read_couples" (zl yj) (zk yj) (zb yj) .none kV60 dc60 pm60 an60 cd60 ct60),sl60⟩) (c60:codeIn K cd60 "read_couples"=true) (k60:keepIn K (.ref f60)=true)
 (a61:nsIn K mainGlobals "place_among"=some (some (.ref f61))) (l61:K.lookup f61=some ⟨oc61,od61,.func (fnOf "place_among" "place_among" (zl yD) (zk yD) (zb yD) .none kV61 dc61 pm61 an61 cd61 ct61),sl61⟩) (c61:codeIn K cd61 "place_among"=true) (k61:keepIn K (.ref f61)=true)
 (a62:nsIn K mainGlobals "read_row"=some (some (.ref f62))) (l62:K.lookup f62=some ⟨oc62,od62,.func (fnOf "read_row" "read_row" (zl zaz) (zk zaz) (zb zaz) .none kV62 dc62 pm62 an62 cd62 ct62),sl62⟩) (c62:codeIn K cd62 "read_row"=true) (k62:keepIn K (.ref f62)=true)
 (a63:nsIn K mainGlobals "places_of"=some (some (.ref f63))) (l63:K.lookup f63=some ⟨oc63,od63,.func (fnOf "places_of" "places_of" (zl yS) (zk yS) (zb yS) .none kV63 dc63 pm63 an63 cd63 ct63),sl63⟩) (c63:codeIn K cd63 "places_of"=true) (k63:keepIn K (.ref f63)=true)
 (a64:nsIn K mainGlobals "places"=some (some (.ref f64))) (l64:K.lookup f64=some ⟨oc64,od64,.func (fnOf "places" "places" (zl zbU) (zk zbU) (zb zbU) .none kV64 dc64 pm64 an64 cd64 ct64),sl64⟩) (c64:codeIn K cd64 "places"=true) (k64:keepIn K (.ref f64)=true)
 (a65:nsIn K mainGlobals "by_place"=some (some (.ref f65))) (l65:K.lookup f65=some ⟨oc65,od65,.func (fnOf "by_place" "by_place" (zl zau) (zk zau) (zb zau) .none kV65 dc65 pm65 an65 cd65 ct65),sl65⟩) (c65:codeIn K cd65 "by_place"=true) (k65:keepIn K (.ref f65)=true)
 {lc lP:Addr} {lo:Value} {ld:Option Addr} {ls:Array (Option Value)} {lvs:Array Value} (qe:cd65=.ref lc) (qk:K.lookup lc=some ⟨lo,ld,.fields lvs,ls⟩) (qv:lvs[11]? = some (.ref lP)) (qh:PySem.W.codeHdIn K lc lP=true) (qn:K.lookup lP=none)
 (a66:nsIn K mainGlobals "ranking_of"=some (some (.ref f66))) (l66:K.lookup f66=some ⟨oc66,od66,.func (fnOf "ranking_of" "ranking_of" (zl wC) (zk wC) (zb wC) .none kV66 dc66 pm66 an66 cd66 ct66),sl66⟩) (c66:codeIn K cd66 "ranking_of"=true) (k66:keepIn K (.ref f66)=true)
 (a67:nsIn K mainGlobals "ranking"=some (some (.ref f67))) (l67:K.lookup f67=some ⟨oc67,od67,.func (fnOf "ranking" "ranking" (zl zbd) (zk zbd) (zb zbd) .none kV67 dc67 pm67 an67 cd67 ct67),sl67⟩) (c67:codeIn K cd67 "ranking"=true) (k67:keepIn K (.ref f67)=true)
 (a68:nsIn K mainGlobals "only_told"=some (some (.ref f68))) (l68:K.lookup f68=some ⟨oc68,od68,.func (fnOf "only_told" "only_told" (zl zac) (zk zac) (zb zac) .none kV68 dc68 pm68 an68 cd68 ct68),sl68⟩) (c68:codeIn K cd68 "only_told"=true) (k68:keepIn K (.ref f68)=true)
 (a69:nsIn K mainGlobals "done_and_told"=some (some (.ref f69))) (l69:K.lookup f69=some ⟨oc69,od69,.func (fnOf "done_and_told" "done_and_told" (zl yr) (zk yr) (zb yr) .none kV69 dc69 pm69 an69 cd69 ct69),sl69⟩) (c69:codeIn K cd69 "done_and_told"=true) (k69:keepIn K (.ref f69)=true)
 (a70:nsIn K mainGlobals "answer"=some (some (.ref f70))) (l70:K.lookup f70=some ⟨oc70,od70,.func (fnOf "answer" "answer" (zl zbR) (zk zbR) (zb zbR) .none kV70 dc70 pm70 an70 cd70 ct70),sl70⟩) (c70:codeIn K cd70 "answer"=true) (k70:keepIn K (.ref f70)=true)
 (a71:nsIn K mainGlobals "_law_by_row"=some (some (.ref f71))) (l71:K.lookup f71=some ⟨oc71,od71,.func (fnOf "_law_by_row" "_law_by_row" (zl wy) (zk wy) (zb wy) .none kV71 dc71 pm71 an71 cd71 ct71),sl71⟩) (c71:codeIn K cd71 "_law_by_row"=true) (k71:keepIn K (.ref f71)=true)
 (a72:nsIn K mainGlobals "_law_deed"=some (some (.ref f72))) (l72:K.lookup f72=some ⟨oc72,od72,.func (fnOf "_law_deed" "_law_deed" (zl wU) (zk wU) (zb wU) .none kV72 dc72 pm72 an72 cd72 ct72),sl72⟩) (c72:codeIn K cd72 "_law_deed"=true) (k72:keepIn K (.ref f72)=true)
 (a73:nsIn K mainGlobals "law"=some (some (.ref f73))) (l73:K.lookup f73=some ⟨oc73,od73,.func (fnOf "law" "law" (zl zcz) (zk zcz) (zb zcz) .none kV73 dc73 pm73 an73 cd73 ct73),sl73⟩) (c73:codeIn K cd73 "law"=true) (k73:keepIn K (.ref f73)=true)
 (z0:nsIn K mainGlobals "all"=some none)
 (z1:nsIn K mainGlobals "bool"=some none)
 (z2:nsIn K mainGlobals "int"=some none)
 (z3:nsIn K mainGlobals "isinstance"=some none)
 (z4:nsIn K mainGlobals "len"=some none)
 (z5:nsIn K mainGlobals "list"=some none)
 (z6:nsIn K mainGlobals "max"=some none)
 (z7:nsIn K mainGlobals "range"=some none)
 (z8:nsIn K mainGlobals "set"=some none)
 (z9:nsIn K mainGlobals "sorted"=some none)
 (z10:nsIn K mainGlobals "str"=some none)
 (z11:nsIn K mainGlobals "sum"=some none)
 (z12:nsIn K mainGlobals "zip"=some none)
 {ya0:Addr} {yc0:Value} {yd0:Option Addr} {yi0:Array Value} {yn0:Nat} {ys0:Array (Option Value)}
 (y0:nsIn K mainGlobals "BARE_WORDS"=some (some (.ref ya0))) (yl0:K.lookup ya0=some ⟨yc0,yd0,.seq yi0 yn0,ys0⟩) (yt0:yc0=.type "tuple") (yz0:yi0.size≤sizeLine) (yv0:Vals ((["seal","couples","places","parts","deciders"]:List Str).map V.str) yi0.toList)
 {ya1:Addr} {yc1:Value} {yd1:Option Addr} {yi1:Array Value} {yn1:Nat} {ys1:Array (Option Value)}
 (y1:nsIn K mainGlobals "JUDGE_WORDS"=some (some (.ref ya1))) (yl1:K.lookup ya1=some ⟨yc1,yd1,.seq yi1 yn1,ys1⟩) (yt1:yc1=.type "tuple") (yz1:yi1.size≤sizeLine) (yv1:Vals ((["card","show","leave","step"]:List Str).map V.str) yi1.toList)
 {ya2:Addr} {yc2:Value} {yd2:Option Addr} {yi2:Array Value} {yn2:Nat} {ys2:Array (Option Value)}
 (y2:nsIn K mainGlobals "COUPLE_WORDS"=some (some (.ref ya2))) (yl2:K.lookup ya2=some ⟨yc2,yd2,.seq yi2 yn2,ys2⟩) (yt2:yc2=.type "tuple") (yz2:yi2.size≤sizeLine) (yv2:Vals ((["strike","step","row"]:List Str).map V.str) yi2.toList)
 {t3:Tok} (y3:nsIn K mainGlobals "MOST_FIGURES"=some (some (.int 3 t3)))
 {t4:Tok} (y4:nsIn K mainGlobals "MOST_COUPLES"=some (some (.int 24 t4)))
 {t5:Tok} (y5:nsIn K mainGlobals "MOST_JUDGES"=some (some (.int 15 t5)))
 {t6:Tok} (y6:nsIn K mainGlobals "MOST_NUMBER"=some (some (.int 999 t6)))
 {t7:Tok} (y7:nsIn K mainGlobals "MOST_SIGNS"=some (some (.int 8 t7)))
 {t8:Tok} (y8:nsIn K mainGlobals "MOST_CARDS"=some (some (.int 200 t8)))
 {xc0:Addr} (xa0:nsIn K mainGlobals "PanelError"=some (some (.ref xc0)))
 {xc1:Addr} (xa1:nsIn K mainGlobals "BadCouples"=some (some (.ref xc1)))
 {xc2:Addr} (xa2:nsIn K mainGlobals "BadJudges"=some (some (.ref xc2)))
 {xc3:Addr} (xa3:nsIn K mainGlobals "SheetSealed"=some (some (.ref xc3)))
 {xc4:Addr} (xa4:nsIn K mainGlobals "UnknownJudge"=some (some (.ref xc4)))
 {xc5:Addr} (xa5:nsIn K mainGlobals "BadCard"=some (some (.ref xc5)))
 {xc6:Addr} (xa6:nsIn K mainGlobals "TooManyCards"=some (some (.ref xc6)))
 {xc7:Addr} (xa7:nsIn K mainGlobals "UnknownCouple"=some (some (.ref xc7)))
 {xc8:Addr} (xa8:nsIn K mainGlobals "LastCouple"=some (some (.ref xc8)))
 {xc9:Addr} (xa9:nsIn K mainGlobals "NoCard"=some (some (.ref xc9)))
 {xc10:Addr} (xa10:nsIn K mainGlobals "TooFewCards"=some (some (.ref xc10)))
 {xc12:Addr} (xa12:nsIn K mainGlobals "BadRow"=some (some (.ref xc12)))
 (xe0:excIn K xc0 bmV "ValueError.__new__"=true)
 (xe1:excIn K xc1 bmV "ValueError.__new__"=true)
 (xe2:excIn K xc2 bmV "ValueError.__new__"=true)
 (xe3:excIn K xc3 bmV "ValueError.__new__"=true)
 (xi3:L2.exI K xc3=true)
 (xs3_0:L2.zu K xc3 xc0=true)
 (xs3_3:L2.zu K xc3 xc3=true)
 (xk3_3:kitOne K (.ref xc3) (.ref xc3)=some true)
 (xk3_5:kitOne K (.ref xc3) (.ref xc5)=some false)
 (xk3_7:kitOne K (.ref xc3) (.ref xc7)=some false)
 (xk3_8:kitOne K (.ref xc3) (.ref xc8)=some false)
 (xs3_12:L2.zu K xc3 xc12=false)
 (xe4:excIn K xc4 bmV "ValueError.__new__"=true)
 (xs4_3:L2.zu K xc4 xc3=false)
 (xs4_4:L2.zu K xc4 xc4=true)
 (xs4_12:L2.zu K xc4 xc12=false)
 (xe5:excIn K xc5 bmV "ValueError.__new__"=true)
 (xi5:L2.exI K xc5=true)
 (xs5_0:L2.zu K xc5 xc0=true)
 (xs5_3:L2.zu K xc5 xc3=false)
 (xk5_3:kitOne K (.ref xc5) (.ref xc3)=some false)
 (xs5_4:L2.zu K xc5 xc4=false)
 (xs5_5:L2.zu K xc5 xc5=true)
 (xk5_5:kitOne K (.ref xc5) (.ref xc5)=some true)
 (xk5_7:kitOne K (.ref xc5) (.ref xc7)=some false)
 (xk5_8:kitOne K (.ref xc5) (.ref xc8)=some false)
 (xs5_12:L2.zu K xc5 xc12=false)
 (xe6:excIn K xc6 bmV "ValueError.__new__"=true)
 (xs6_3:L2.zu K xc6 xc3=false)
 (xs6_4:L2.zu K xc6 xc4=false)
 (xs6_5:L2.zu K xc6 xc5=false)
 (xs6_6:L2.zu K xc6 xc6=true)
 (xs6_12:L2.zu K xc6 xc12=false)
 (xe7:excIn K xc7 bmV "ValueError.__new__"=true)
 (xi7:L2.exI K xc7=true)
 (xs7_0:L2.zu K xc7 xc0=true)
 (xs7_3:L2.zu K xc7 xc3=false)
 (xk7_3:kitOne K (.ref xc7) (.ref xc3)=some false)
 (xs7_4:L2.zu K xc7 xc4=false)
 (xs7_5:L2.zu K xc7 xc5=false)
 (xk7_5:kitOne K (.ref xc7) (.ref xc5)=some false)
 (xs7_6:L2.zu K xc7 xc6=false)
 (xs7_7:L2.zu K xc7 xc7=true)
 (xk7_7:kitOne K (.ref xc7) (.ref xc7)=some true)
 (xk7_8:kitOne K (.ref xc7) (.ref xc8)=some false)
 (xs7_12:L2.zu K xc7 xc12=false)
 (xe8:excIn K xc8 bmV "ValueError.__new__"=true)
 (xi8:L2.exI K xc8=true)
 (xs8_0:L2.zu K xc8 xc0=true)
 (xs8_3:L2.zu K xc8 xc3=false)
 (xk8_3:kitOne K (.ref xc8) (.ref xc3)=some false)
 (xs8_4:L2.zu K xc8 xc4=false)
 (xs8_5:L2.zu K xc8 xc5=false)
 (xk8_5:kitOne K (.ref xc8) (.ref xc5)=some false)
 (xs8_6:L2.zu K xc8 xc6=false)
 (xs8_7:L2.zu K xc8 xc7=false)
 (xk8_7:kitOne K (.ref xc8) (.ref xc7)=some false)
 (xs8_8:L2.zu K xc8 xc8=true)
 (xk8_8:kitOne K (.ref xc8) (.ref xc8)=some true)
 (xs8_12:L2.zu K xc8 xc12=false)
 (xe9:excIn K xc9 bmV "ValueError.__new__"=true)
 (xe10:excIn K xc10 bmV "ValueError.__new__"=true)
 (xs10_3:L2.zu K xc10 xc3=false)
 (xs10_4:L2.zu K xc10 xc4=false)
 (xs10_5:L2.zu K xc10 xc5=false)
 (xs10_6:L2.zu K xc10 xc6=false)
 (xs10_7:L2.zu K xc10 xc7=false)
 (xs10_8:L2.zu K xc10 xc8=false)
 (xs10_9:L2.zu K xc10 xc9=false)
 (xs10_10:L2.zu K xc10 xc10=true)
 (xs10_12:L2.zu K xc10 xc12=false)
 (xe12:excIn K xc12 bmV "ValueError.__new__"=true)
 (opg_Sheet:plainGet K oC_Sheet Str.empty=true)
 (ohd_Sheet:hasDictIn K oC_Sheet=true)
 (opo_Sheet:plainOver K oC_Sheet=true)
 (osa_Sheet:PySem.W.findIn K (.ref oC_Sheet) "__setattr__"=some (some (.builtin "object.__setattr__")))
 (omk_Sheet:makesIn K oC_Sheet=true)
 (okc_Sheet:keepIn K (.ref oC_Sheet)=true)
 (on_Sheet_standing:PySem.W.findIn K (.ref oC_Sheet) "standing"=some none)
 (on_Sheet_struck_so_far:PySem.W.findIn K (.ref oC_Sheet) "struck_so_far"=some none)
 (on_Sheet_panel:PySem.W.findIn K (.ref oC_Sheet) "panel"=some none)
 (on_Sheet_card_by_judge:PySem.W.findIn K (.ref oC_Sheet) "card_by_judge"=some none)
 (on_Sheet_taken_so_far:PySem.W.findIn K (.ref oC_Sheet) "taken_so_far"=some none)
 (on_Sheet_sealed:PySem.W.findIn K (.ref oC_Sheet) "sealed"=some none)
 : LamK K "by_place"∧∃fd:FuncData,(∀(s:Shared)(v:Value),BindsTo s fd ⟨[v],[]⟩ [("_law_script",v)])∧∀base:Heap,K.In base→base.Ns mainGlobals mg→zdI mg base→FnOk l.prog w K mg base CX0 19 fa fd ["_law_script"] (zhD K):=by
 obtain⟨L65,LK⟩:=lam_mk a65 l65 qe qk qv qh qn
 have e:=hfa.symm.trans (mg_of X G a73)
 cases e
 have oc_Sheet:=clsA_of oa_Sheet
 have T:Txt K mg:=⟨mg_none_of X G z0,mg_none_of X G z1,mg_none_of X G z2,mg_none_of X G z3,mg_none_of X G z4,mg_none_of X G z5,mg_none_of X G z6,mg_none_of X G z7,mg_none_of X G z8,mg_none_of X G z9,mg_none_of X G z10,mg_none_of X G z11,mg_none_of X G z12,zhE X G y0 yl0 yt0 yz0 yv0,zhE X G y1 yl1 yt1 yz1 yv1,zhE X G y2 yl2 yt2 yz2 yv2,⟨_,mg_of X G y3⟩,⟨_,mg_of X G y4⟩,⟨_,mg_of X G y5⟩,⟨_,mg_of X G y6⟩,⟨_,mg_of X G y7⟩,⟨_,mg_of X G y8⟩,⟨xc0,xa0,mg_of X G xa0,xe0⟩,⟨xc1,xa1,mg_of X G xa1,xe1⟩,⟨xc2,xa2,mg_of X G xa2,xe2⟩,⟨xc3,xa3,mg_of X G xa3,xe3⟩,fun C hC=>by cases ClsN.inj hC xa3;exact xi3,fun C D hC hD=>by cases ClsN.inj hC xa3;cases ClsN.inj hD xa0;exact xs3_0,fun C D hC hD=>by cases ClsN.inj hC xa3;cases ClsN.inj hD xa3;exact xs3_3,fun C D hC hD=>by cases ClsN.inj hC xa3;cases ClsN.inj hD xa3;exact xk3_3,fun C D hC hD=>by cases ClsN.inj hC xa3;cases ClsN.inj hD xa5;exact xk3_5,fun C D hC hD=>by cases ClsN.inj hC xa3;cases ClsN.inj hD xa7;exact xk3_7,fun C D hC hD=>by cases ClsN.inj hC xa3;cases ClsN.inj hD xa8;exact xk3_8,fun C D hC hD=>by cases ClsN.inj hC xa3;cases ClsN.inj hD xa12;exact xs3_12,⟨xc4,xa4,mg_of X G xa4,xe4⟩,fun C D hC hD=>by cases ClsN.inj hC xa4;cases ClsN.inj hD xa3;exact xs4_3,fun C D hC hD=>by cases ClsN.inj hC xa4;cases ClsN.inj hD xa4;exact xs4_4,fun C D hC hD=>by cases ClsN.inj hC xa4;cases ClsN.inj hD xa12;exact xs4_12,⟨xc5,xa5,mg_of X G xa5,xe5⟩,fun C hC=>by cases ClsN.inj hC xa5;exact xi5,fun C D hC hD=>by cases ClsN.inj hC xa5;cases ClsN.inj hD xa0;exact xs5_0,fun C D hC hD=>by cases ClsN.inj hC xa5;cases ClsN.inj hD xa3;exact xs5_3,fun C D hC hD=>by cases ClsN.inj hC xa5;cases ClsN.inj hD xa3;exact xk5_3,fun C D hC hD=>by cases ClsN.inj hC xa5;cases ClsN.inj hD xa4;exact xs5_4,fun C D hC hD=>by cases ClsN.inj hC xa5;cases ClsN.inj hD xa5;exact xs5_5,fun C D hC hD=>by cases ClsN.inj hC xa5;cases ClsN.inj hD xa5;exact xk5_5,fun C D hC hD=>by cases ClsN.inj hC xa5;cases ClsN.inj hD xa7;exact xk5_7,fun C D hC hD=>by cases ClsN.inj hC xa5;cases ClsN.inj hD xa8;exact xk5_8,fun C D hC hD=>by cases ClsN.inj hC xa5;cases ClsN.inj hD xa12;exact xs5_12,⟨xc6,xa6,mg_of X G xa6,xe6⟩,fun C D hC hD=>by cases ClsN.inj hC xa6;cases ClsN.inj hD xa3;exact xs6_3,fun C D hC hD=>by cases ClsN.inj hC xa6;cases ClsN.inj hD xa4;exact xs6_4,fun C D hC hD=>by cases ClsN.inj hC xa6;cases ClsN.inj hD xa5;exact xs6_5,fun C D hC hD=>by cases ClsN.inj hC xa6;cases ClsN.inj hD xa6;exact xs6_6,fun C D hC hD=>by cases ClsN.inj hC xa6;cases ClsN.inj hD xa12;exact xs6_12,⟨xc7,xa7,mg_of X G xa7,xe7⟩,fun C hC=>by cases ClsN.inj hC xa7;exact xi7,fun C D hC hD=>by cases ClsN.inj hC xa7;cases ClsN.inj hD xa0;exact xs7_0,fun C D hC hD=>by cases ClsN.inj hC xa7;cases ClsN.inj hD xa3;exact xs7_3,fun C D hC hD=>by cases ClsN.inj hC xa7;cases ClsN.inj hD xa3;exact xk7_3,fun C D hC hD=>by cases ClsN.inj hC xa7;cases ClsN.inj hD xa4;exact xs7_4,fun C D hC hD=>by cases ClsN.inj hC xa7;cases ClsN.inj hD xa5;exact xs7_5,fun C D hC hD=>by cases ClsN.inj hC xa7;cases ClsN.inj hD xa5;exact xk7_5,fun C D hC hD=>by cases ClsN.inj hC xa7;cases ClsN.inj hD xa6;exact xs7_6,fun C D hC hD=>by cases ClsN.inj hC xa7;cases ClsN.inj hD xa7;exact xs7_7,fun C D hC hD=>by cases ClsN.inj hC xa7;cases ClsN.inj hD xa7;exact xk7_7,fun C D hC hD=>by cases ClsN.inj hC xa7;cases ClsN.inj hD xa8;exact xk7_8,fun C D hC hD=>by cases ClsN.inj hC xa7;cases ClsN.inj hD xa12;exact xs7_12,⟨xc8,xa8,mg_of X G xa8,xe8⟩,fun C hC=>by cases ClsN.inj hC xa8;exact xi8,fun C D hC hD=>by cases ClsN.inj hC xa8;cases ClsN.inj hD xa0;exact xs8_0,fun C D hC hD=>by cases ClsN.inj hC xa8;cases ClsN.inj hD xa3;exact xs8_3,fun C D hC hD=>by cases ClsN.inj hC xa8;cases ClsN.inj hD xa3;exact xk8_3,fun C D hC hD=>by cases ClsN.inj hC xa8;cases ClsN.inj hD xa4;exact xs8_4,fun C D hC hD=>by cases ClsN.inj hC xa8;cases ClsN.inj hD xa5;exact xs8_5,fun C D hC hD=>by cases ClsN.inj hC xa8;cases ClsN.inj hD xa5;exact xk8_5,fun C D hC hD=>by cases ClsN.inj hC xa8;cases ClsN.inj hD xa6;exact xs8_6,fun C D hC hD=>by cases ClsN.inj hC xa8;cases ClsN.inj hD xa7;exact xs8_7,fun C D hC hD=>by cases ClsN.inj hC xa8;cases ClsN.inj hD xa7;exact xk8_7,fun C D hC hD=>by cases ClsN.inj hC xa8;cases ClsN.inj hD xa8;exact xs8_8,fun C D hC hD=>by cases ClsN.inj hC xa8;cases ClsN.inj hD xa8;exact xk8_8,fun C D hC hD=>by cases ClsN.inj hC xa8;cases ClsN.inj hD xa12;exact xs8_12,⟨xc9,xa9,mg_of X G xa9,xe9⟩,⟨xc10,xa10,mg_of X G xa10,xe10⟩,fun C D hC hD=>by cases ClsN.inj hC xa10;cases ClsN.inj hD xa3;exact xs10_3,fun C D hC hD=>by cases ClsN.inj hC xa10;cases ClsN.inj hD xa4;exact xs10_4,fun C D hC hD=>by cases ClsN.inj hC xa10;cases ClsN.inj hD xa5;exact xs10_5,fun C D hC hD=>by cases ClsN.inj hC xa10;cases ClsN.inj hD xa6;exact xs10_6,fun C D hC hD=>by cases ClsN.inj hC xa10;cases ClsN.inj hD xa7;exact xs10_7,fun C D hC hD=>by cases ClsN.inj hC xa10;cases ClsN.inj hD xa8;exact xs10_8,fun C D hC hD=>by cases ClsN.inj hC xa10;cases ClsN.inj hD xa9;exact xs10_9,fun C D hC hD=>by cases ClsN.inj hC xa10;cases ClsN.inj hD xa10;exact xs10_10,fun C D hC hD=>by cases ClsN.inj hC xa10;cases ClsN.inj hD xa12;exact xs10_12,⟨xc12,xa12,mg_of X G xa12,xe12⟩,oc_Sheet ▸ ⟨opg_Sheet,ohd_Sheet,opo_Sheet,osa_Sheet⟩,oc_Sheet ▸ on_Sheet_standing,oc_Sheet ▸ on_Sheet_struck_so_far,oc_Sheet ▸ on_Sheet_panel,oc_Sheet ▸ on_Sheet_card_by_judge,oc_Sheet ▸ on_Sheet_taken_so_far,oc_Sheet ▸ on_Sheet_sealed⟩
 have F0:=zt (st:=yY) l0 c0 k0
 have b0:=F0.binds (ps:=["self"]) fun _ _ _ _ _ _=>onS fun _=>on0 rfl
 have F1:=zt (st:=zZ) l1 c1 k1
 have b1:=F1.binds (ps:=["self"]) fun _ _ _ _ _ _=>onS fun _=>on0 rfl
 have F2:=zt (st:=zG) l2 c2 k2
 have b2:=F2.binds (ps:=["self"]) fun _ _ _ _ _ _=>onS fun _=>on0 rfl
 have F3:=zt (st:=zC) l3 c3 k3
 have b3:=F3.binds (ps:=["self","judge"]) fun _ _ _ _ _ _=>onS fun _=>onS fun _=>on0 rfl
 have F4:=zt (st:=yn) l4 c4 k4
 have b4:=F4.binds (ps:=["self"]) fun _ _ _ _ _ _=>onS fun _=>on0 rfl
 have F5:=zt (st:=yP) l5 c5 k5
 have b5:=F5.binds (ps:=["self"]) fun _ _ _ _ _ _=>onS fun _=>on0 rfl
 have F6:=zt (st:=yI) l6 c6 k6
 have b6:=F6.binds (ps:=["self"]) fun _ _ _ _ _ _=>onS fun _=>on0 rfl
 have F7:=zt (st:=yh) l7 c7 k7
 have b7:=F7.binds (ps:=["self"]) fun _ _ _ _ _ _=>onS fun _=>on0 rfl
 have F8:=zt (st:=zaB) l8 c8 k8
 have b8:=F8.binds (ps:=["_law_spots_here","_law_couples_here"]) fun _ _ _ _ _ _=>onS fun _=>onS fun _=>on0 rfl
 have F9:=zt (st:=zax) l9 c9 k9
 have b9:=F9.binds (ps:=["_law_card_here","_law_couples_here"]) fun _ _ _ _ _ _=>onS fun _=>onS fun _=>on0 rfl
 have F10:=zt (st:=yH) l10 c10 k10
 have b10:=F10.binds (ps:=["_law_card_here","_law_couple"]) fun _ _ _ _ _ _=>onS fun _=>onS fun _=>on0 rfl
 have F11:=zt (st:=wu) l11 c11 k11
 have b11:=F11.binds (ps:=["_law_things"]) fun _ _ _ _ _ _=>onS fun _=>on0 rfl
 have F12:=zt (st:=wG) l12 c12 k12
 have b12:=F12.binds (ps:=["card","couples"]) fun _ _ _ _ _ _=>onS fun _=>onS fun _=>on0 rfl
 have F13:=zt (st:=za9) l13 c13 k13
 have b13:=F13.binds (ps:=["card","couple"]) fun _ _ _ _ _ _=>onS fun _=>onS fun _=>on0 rfl
 have F14:=zt (st:=zW) l14 c14 k14
 have b14:=F14.binds (ps:=["card","couple"]) fun _ _ _ _ _ _=>onS fun _=>onS fun _=>on0 rfl
 have F15:=zt (st:=wa) l15 c15 k15
 have b15:=F15.binds (ps:=["many"]) fun _ _ _ _ _ _=>onS fun _=>on0 rfl
 have F16:=zt (st:=wR) l16 c16 k16
 have b16:=F16.binds (ps:=["marks","number"]) fun _ _ _ _ _ _=>onS fun _=>onS fun _=>on0 rfl
 have F17:=zt (st:=wb) l17 c17 k17
 have b17:=F17.binds (ps:=["first"]) fun _ _ _ _ _ _=>onS fun _=>on0 rfl
 have F18:=zt (st:=zbW) l18 c18 k18
 have b18:=F18.binds (ps:=["sign"]) fun _ _ _ _ _ _=>onS fun _=>on0 rfl
 have F19:=zt (st:=y9) l19 c19 k19
 have b19:=F19.binds (ps:=["couple"]) fun _ _ _ _ _ _=>onS fun _=>on0 rfl
 have F20:=zt (st:=yJ) l20 c20 k20
 have b20:=F20.binds (ps:=["sign"]) fun _ _ _ _ _ _=>onS fun _=>on0 rfl
 have F21:=zt (st:=yW) l21 c21 k21
 have b21:=F21.binds (ps:=["things","most"]) fun _ _ _ _ _ _=>onS fun _=>onS fun _=>on0 rfl
 have F22:=zt (st:=wI) l22 c22 k22
 have b22:=F22.binds (ps:=["things"]) fun _ _ _ _ _ _=>onS fun _=>on0 rfl
 have F23:=zt (st:=ye) l23 c23 k23
 have b23:=F23.binds (ps:=["rows"]) fun _ _ _ _ _ _=>onS fun _=>on0 rfl
 have F24:=zt (st:=zad) l24 c24 k24
 have b24:=F24.binds (ps:=["_law_found"]) fun _ _ _ _ _ _=>onS fun _=>on0 rfl
 have F25:=zt (st:=zbP) l25 c25 k25
 have b25:=F25.binds (ps:=["_law_script","_law_k"]) fun _ _ _ _ _ _=>onS fun _=>onS fun _=>on0 rfl
 have F26:=zt (st:=wW) l26 c26 k26
 have b26:=F26.binds (ps:=["_law_found","_law_due_here"]) fun _ _ _ _ _ _=>onS fun _=>onS fun _=>on0 rfl
 have F27:=zt (st:=zbb) l27 c27 k27
 have b27:=F27.binds (ps:=["_law_cell","_law_place"]) fun _ _ _ _ _ _=>onS fun _=>onS fun _=>on0 rfl
 have F28:=zt (st:=zat) l28 c28 k28
 have b28:=F28.binds (ps:=["_law_mode","_law_cell","_law_least","_law_few","_law_most"]) fun _ _ _ _ _ _=>onS fun _=>onS fun _=>onS fun _=>onS fun _=>onS fun _=>on0 rfl
 have F29:=zt (st:=yE) l29 c29 k29
 have b29:=F29.binds (ps:=["_law_cell","_law_many_here"]) fun _ _ _ _ _ _=>onS fun _=>onS fun _=>on0 rfl
 have F30:=zt (st:=wl) l30 c30 k30
 have b30:=F30.binds (ps:=["_law_cards","_law_couple"]) fun _ _ _ _ _ _=>onS fun _=>onS fun _=>on0 rfl
 have F31:=zt (st:=zay) l31 c31 k31
 have b31:=F31.binds (ps:=["_law_marks_here","_law_last"]) fun _ _ _ _ _ _=>onS fun _=>onS fun _=>on0 rfl
 have F32:=zt (st:=yq) l32 c32 k32
 have b32:=F32.binds (ps:=["self","judge","card"]) fun _ _ _ _ _ _=>onS fun _=>onS fun _=>onS fun _=>on0 rfl
 have F33:=zt (st:=yN) l33 c33 k33
 have b33:=F33.binds (ps:=["self","couple"]) fun _ _ _ _ _ _=>onS fun _=>onS fun _=>on0 rfl
 have F34:=zt (st:=wH) l34 c34 k34
 have b34:=F34.binds (ps:=["self"]) fun _ _ _ _ _ _=>onS fun _=>on0 rfl
 have F35:=zt (st:=yo) l35 c35 k35
 have b35:=F35.binds (ps:=["self","judge"]) fun _ _ _ _ _ _=>onS fun _=>onS fun _=>on0 rfl
 have F36:=zt (st:=yR) l36 c36 k36
 have b36:=F36.binds (ps:=["_law_cards","_law_couples_here"]) fun _ _ _ _ _ _=>onS fun _=>onS fun _=>on0 rfl
 have F37:=zt (st:=ya) l37 c37 k37
 have b37:=F37.binds (ps:=["_law_spots_here","_law_couples_here"]) fun _ _ _ _ _ _=>onS fun _=>onS fun _=>on0 rfl
 have F38:=zt (st:=za6) l38 c38 k38
 have b38:=F38.binds (ps:=["_law_deed_here","_law_shut","_law_couples_here","_law_couple","_law_card_here"]) fun _ _ _ _ _ _=>onS fun _=>onS fun _=>onS fun _=>onS fun _=>onS fun _=>on0 rfl
 have F39:=zt (st:=wT) l39 c39 k39
 have b39:=F39.binds (ps:=["cards","couple"]) fun _ _ _ _ _ _=>onS fun _=>onS fun _=>on0 rfl
 have F40:=zt (st:=zba) l40 c40 k40
 have b40:=F40.binds (ps:=["marks","number"]) fun _ _ _ _ _ _=>onS fun _=>onS fun _=>on0 rfl
 have F41:=zt (st:=wd) l41 c41 k41
 have b41:=F41.binds (ps:=["marks","number"]) fun _ _ _ _ _ _=>onS fun _=>onS fun _=>on0 rfl
 have F42:=zt (st:=yK) l42 c42 k42
 have b42:=F42.binds (ps:=["marks"]) fun _ _ _ _ _ _=>onS fun _=>on0 rfl
 have F43:=zt (st:=zP) l43 c43 k43
 have b43:=F43.binds (ps:=["sheet","least"]) fun _ _ _ _ _ _=>onS fun _=>onS fun _=>on0 rfl
 have F44:=zt (st:=yA) l44 c44 k44
 have b44:=F44.binds (ps:=["word"]) fun _ _ _ _ _ _=>onS fun _=>on0 rfl
 have F45:=zt (st:=yf) l45 c45 k45
 have b45:=F45.binds (ps:=["couples"]) fun _ _ _ _ _ _=>onS fun _=>on0 rfl
 have F46:=zt (st:=wj) l46 c46 k46
 have b46:=F46.binds (ps:=["judge"]) fun _ _ _ _ _ _=>onS fun _=>on0 rfl
 have F47:=zt (st:=zaD) l47 c47 k47
 have b47:=F47.binds (ps:=["_law_found","_law_due_here"]) fun _ _ _ _ _ _=>onS fun _=>onS fun _=>on0 rfl
 have F48:=zt (st:=wY) l48 c48 k48
 have b48:=F48.binds (ps:=["_law_cell","_law_many_here"]) fun _ _ _ _ _ _=>onS fun _=>onS fun _=>on0 rfl
 have F49:=zt (st:=zaF) l49 c49 k49
 have b49:=F49.binds (ps:=["_law_cell","_law_couples_here","_law_style"]) fun _ _ _ _ _ _=>onS fun _=>onS fun _=>onS fun _=>on0 rfl
 have F50:=zt (st:=yF) l50 c50 k50
 have b50:=F50.binds (ps:=["self"]) fun _ _ _ _ _ _=>onS fun _=>on0 rfl
 have F51:=zt (st:=yp) l51 c51 k51
 have b51:=F51.binds (ps:=["_law_sheet","_law_deed_here","_law_judge","_law_couple","_law_card_here"]) fun _ _ _ _ _ _=>onS fun _=>onS fun _=>onS fun _=>onS fun _=>onS fun _=>on0 rfl
 have F52:=zt (st:=zaa) l52 c52 k52
 have b52:=F52.binds (ps:=["one","other"]) fun _ _ _ _ _ _=>onS fun _=>onS fun _=>on0 rfl
 have F53:=zt (st:=yZ) l53 c53 k53
 have b53:=F53.binds (ps:=["word"]) fun _ _ _ _ _ _=>onS fun _=>on0 rfl
 have F54:=zt (st:=yC) l54 c54 k54
 have b54:=F54.binds (ps:=["judges"]) fun _ _ _ _ _ _=>onS fun _=>on0 rfl
 have F55:=zt (st:=zab) l55 c55 k55
 have b55:=F55.binds (ps:=["_law_found","_law_due_here"]) fun _ _ _ _ _ _=>onS fun _=>onS fun _=>on0 rfl
 have F56:=zt (st:=wX) l56 c56 k56
 have b56:=F56.binds (ps:=["_law_cell","_law_used","_law_couples_here","_law_style"]) fun _ _ _ _ _ _=>onS fun _=>onS fun _=>onS fun _=>onS fun _=>on0 rfl
 have F57:=zt (st:=wA) l57 c57 k57
 have b57:=F57.binds (ps:=["self","couples","judges"]) fun _ _ _ _ _ _=>onS fun _=>onS fun _=>onS fun _=>on0 rfl
 have F58:=zt (st:=yb) l58 c58 k58
 have b58:=F58.binds (ps:=["_law_sheet","_law_names_here","_law_couples_here","_law_gone","_law_cards","_law_many_here","_law_shut"]) fun _ _ _ _ _ _=>onS fun _=>onS fun _=>onS fun _=>onS fun _=>onS fun _=>onS fun _=>onS fun _=>on0 rfl
 have F59:=zt (st:=zaA) l59 c59 k59
 have b59:=F59.binds (ps:=["one","other"]) fun _ _ _ _ _ _=>onS fun _=>onS fun _=>on0 rfl
 have F60:=zt (st:=yj) l60 c60 k60
 have b60:=F60.binds (ps:=["first","words"]) fun _ _ _ _ _ _=>onS fun _=>onS fun _=>on0 rfl
 have F61:=zt (st:=yD) l61 c61 k61
 have b61:=F61.binds (ps:=["rows","own"]) fun _ _ _ _ _ _=>onS fun _=>onS fun _=>on0 rfl
 have F62:=zt (st:=zaz) l62 c62 k62
 have b62:=F62.binds (ps:=["row"]) fun _ _ _ _ _ _=>onS fun _=>on0 rfl
 have F63:=zt (st:=yS) l63 c63 k63
 have b63:=F63.binds (ps:=["cards","couples"]) fun _ _ _ _ _ _=>onS fun _=>onS fun _=>on0 rfl
 have F64:=zt (st:=zbU) l64 c64 k64
 have b64:=F64.binds (ps:=["sheet"]) fun _ _ _ _ _ _=>onS fun _=>on0 rfl
 have F65:=zt (st:=zau) l65 c65 k65
 have b65:=F65.binds (ps:=["places","couples"]) fun _ _ _ _ _ _=>onS fun _=>onS fun _=>on0 rfl
 have F66:=zt (st:=wC) l66 c66 k66
 have b66:=F66.binds (ps:=["cards","couples"]) fun _ _ _ _ _ _=>onS fun _=>onS fun _=>on0 rfl
 have F67:=zt (st:=zbd) l67 c67 k67
 have b67:=F67.binds (ps:=["sheet"]) fun _ _ _ _ _ _=>onS fun _=>on0 rfl
 have F68:=zt (st:=zac) l68 c68 k68
 have b68:=F68.binds (ps:=["sheet","first","judge","couples"]) fun _ _ _ _ _ _=>onS fun _=>onS fun _=>onS fun _=>onS fun _=>on0 rfl
 have F69:=zt (st:=yr) l69 c69 k69
 have b69:=F69.binds (ps:=["sheet","first","judge","couples"]) fun _ _ _ _ _ _=>onS fun _=>onS fun _=>onS fun _=>onS fun _=>on0 rfl
 have F70:=zt (st:=zbR) l70 c70 k70
 have b70:=F70.binds (ps:=["sheet","row"]) fun _ _ _ _ _ _=>onS fun _=>onS fun _=>on0 rfl
 have F71:=zt (st:=wy) l71 c71 k71
 have b71:=F71.binds (ps:=["_law_sheet","_law_deed_here","_law_judge","_law_couple","_law_card_here"]) fun _ _ _ _ _ _=>onS fun _=>onS fun _=>onS fun _=>onS fun _=>onS fun _=>on0 rfl
 have F72:=zt (st:=wU) l72 c72 k72
 have b72:=F72.binds (ps:=["_law_sheet","_law_cell","_law_names_here","_law_state","_law_style"]) fun _ _ _ _ _ _=>onS fun _=>onS fun _=>onS fun _=>onS fun _=>onS fun _=>on0 rfl
 have F73:=zt (st:=zcz) l73 c73 k73
 have b73:=F73.binds (ps:=["_law_script"]) fun _ _ _ _ _ _=>onS fun _=>on0 rfl
 refine⟨LK,fnOf "law" "law" (zl zcz) (zk zcz) (zb zcz) .none kV73 dc73 pm73 an73 cd73 ct73,fun s v=>.of_eq rfl,fun base _ _ B=>?_⟩
 have C0:CanM l.prog w K mg base 1 (zE K "Sheet") "taken" ["self"] (zbm K):=CanM.of oc_Sheet (zfn F0 T) ⟨a0,i0,k0⟩ b0
 have C1:CanM l.prog w K mg base 1 (zE K "Sheet") "is_sealed" ["self"] (wS K):=CanM.of oc_Sheet (zdb F1 T) ⟨a1,i1,k1⟩ b1
 have C2:CanMX l.prog w K mg base 1 (zE K "Sheet") "refuse_if_sealed" ["self"] (zL K):=CanMX.of oc_Sheet (zbw F2 T) ⟨a2,i2,k2⟩ b2
 have C3:CanMX l.prog w K mg base 1 (zE K "Sheet") "refuse_unknown_judge" ["self","judge"] (zM K):=CanMX.of oc_Sheet (zaJ F3 T) ⟨a3,i3,k3⟩ b3
 have C4:CanM l.prog w K mg base 1 (zE K "Sheet") "couples" ["self"] (yQ K):=CanM.of oc_Sheet (zdT F4 T) ⟨a4,i4,k4⟩ b4
 have C5:CanM l.prog w K mg base 1 (zE K "Sheet") "struck" ["self"] (zaT K):=CanM.of oc_Sheet (zeH F5 T) ⟨a5,i5,k5⟩ b5
 have C6:CanM l.prog w K mg base 1 (zE K "Sheet") "judges" ["self"] (zaV K):=CanM.of oc_Sheet (zeq F6 T) ⟨a6,i6,k6⟩ b6
 have C7:CanM l.prog w K mg base 1 (zE K "Sheet") "handed" ["self"] (yu K):=CanM.of oc_Sheet (zet F7 T) ⟨a7,i7,k7⟩ b7
 have C8:Can l.prog w K mg base 1 "_law_rows" ["_law_spots_here","_law_couples_here"] (zcF K):=Can.of F8 (ziA F8 T) (mg_of X G a8) b8
 have C9:Can l.prog w K mg base 1 "_law_good" ["_law_card_here","_law_couples_here"] (zcM K):=Can.of F9 (ziu F9 T) (mg_of X G a9) b9
 have C10:Can l.prog w K mg base 1 "_law_without" ["_law_card_here","_law_couple"] (zbk K):=Can.of F10 (ze4 F10 T) (mg_of X G a10) b10
 have C11:Can l.prog w K mg base 1 "_law_words" ["_law_things"] (za2 K):=Can.of F11 (zgZ F11 T) (mg_of X G a11) b11
 have C12:Can l.prog w K mg base 1 "whole_card" ["card","couples"] (zbF K):=Can.of F12 (zfY F12 T) (mg_of X G a12) b12
 have C13:Can l.prog w K mg base 1 "mark_on" ["card","couple"] (zdd K):=Can.of F13 (zjr F13 T) (mg_of X G a13) b13
 have C14:Can l.prog w K mg base 1 "without_couple" ["card","couple"] (zai K):=Can.of F14 (zdh F14 T) (mg_of X G a14) b14
 have C15:Can l.prog w K mg base 1 "majority_of" ["many"] (zbq K):=Can.of F15 (zfK F15 T) (mg_of X G a15) b15
 have C16:Can l.prog w K mg base 1 "granting" ["marks","number"] (zbz K):=Can.of F16 (ziz F16 T) (mg_of X G a16) b16
 have C17:Can l.prog w K mg base 1 "due_couples" ["first"] (zbg K):=Can.of F17 (zfM F17 T) (mg_of X G a17) b17
 have C18:Can l.prog w K mg base 1 "figure" ["sign"] (zd6 K):=Can.of F18 (ok_figure F18 T) (mg_of X G a18) b18
 have C19:Can l.prog w K mg base 1 "good_number" ["couple"] (zbr K):=Can.of F19 (zeT F19 T) (mg_of X G a19) b19
 have C20:Can l.prog w K mg base 1 "small_letter" ["sign"] (zaQ K):=Can.of F20 (zeB F20 T) (mg_of X G a20) b20
 have C21:Can l.prog w K mg base 1 "good_length" ["things","most"] (wm K):=Can.of F21 (zfC F21 T) (mg_of X G a21) b21
 have C22:Can l.prog w K mg base 1 "all_unlike" ["things"] (zaG K):=Can.of F22 (zgh F22 T) (mg_of X G a22) b22
 have C23:Can l.prog w K mg base 1 "ranking_text" ["rows"] (zaR K):=Can.of F23 (zeC F23 T) (mg_of X G a23) b23
 have C24:Can l.prog w K mg base 1 "_law_whole" ["_law_found"] (za4 K):=Can.of F24 (zho F24 T) (mg_of X G a24) b24
 have C25:Can l.prog w K mg base 1 "_law_at" ["_law_script","_law_k"] (zdX K):=Can.of F25 (ok_law_at F25 T) (mg_of X G a25) b25
 have C26:Can l.prog w K mg base 1 "_law_texts" ["_law_found","_law_due_here"] (zcg K):=Can.of F26 (zhu F26 T) (mg_of X G a26) b26
 have C27:Can l.prog w K mg base 1 "_law_mix" ["_law_cell","_law_place"] (zbh K):=Can.of F27 (ziS F27 T) (mg_of X G a27) b27
 have C28:Can l.prog w K mg base 1 "_law_many" ["_law_mode","_law_cell","_law_least","_law_few","_law_most"] (zcE K):=Can.of F28 (zij F28 T) (mg_of X G a28) b28
 have C29:Can l.prog w K mg base 1 "_law_couples" ["_law_cell","_law_many_here"] (zbl K):=Can.of F29 (zfG F29 T) (mg_of X G a29) b29
 have C30:Can l.prog w K mg base 1 "_law_marks" ["_law_cards","_law_couple"] (zb9 K):=Can.of F30 (zhz F30 T) (mg_of X G a30) b30
 have C31:Can l.prog w K mg base 1 "_law_key" ["_law_marks_here","_law_last"] (zc5 K):=Can.of F31 (zi7 F31 T) (mg_of X G a31) b31
 have C32:CanMX l.prog w K mg base 2 (zE K "Sheet") "hand_in" ["self","judge","card"] (wD K):=CanMX.of oc_Sheet (zdQ F32 T C12 C2 C3) ⟨a32,i32,k32⟩ b32
 have C33:CanMX l.prog w K mg base 2 (zE K "Sheet") "strike" ["self","couple"] (wQ K):=CanMX.of oc_Sheet (zeE F33 T C14 C7 C2) ⟨a33,i33,k33⟩ b33
 have C34:CanMX l.prog w K mg base 2 (zE K "Sheet") "seal" ["self"] (zaH K):=CanMX.of oc_Sheet (zgd F34 T C2) ⟨a34,i34,k34⟩ b34
 have C35:CanMX l.prog w K mg base 2 (zE K "Sheet") "card_of" ["self","judge"] (wF K):=CanMX.of oc_Sheet (zea F35 T C3) ⟨a35,i35,k35⟩ b35
 have C36:Can l.prog w K mg base 2 "_law_spots" ["_law_cards","_law_couples_here"] (zb0 K):=Can.of F36 (zgP F36 T C30 C31) (mg_of X G a36) b36
 have C37:Can l.prog w K mg base 2 "_law_spot_text" ["_law_spots_here","_law_couples_here"] (zav K):=Can.of F37 (zdV F37 T C8 C11) (mg_of X G a37) b37
 have C38:Can l.prog w K mg base 2 "_law_due" ["_law_deed_here","_law_shut","_law_couples_here","_law_couple","_law_card_here"] (zc4 K):=Can.of F38 (zjn F38 T C9) (mg_of X G a38) b38
 have C39:Can l.prog w K mg base 2 "marks_of" ["cards","couple"] (zcs K):=Can.of F39 (ziy F39 T C13) (mg_of X G a39) b39
 have C40:Can l.prog w K mg base 2 "granted" ["marks","number"] (zb5 K):=Can.of F40 (zji F40 T C16) (mg_of X G a40) b40
 have C41:Can l.prog w K mg base 2 "granted_sum" ["marks","number"] (zaj K):=Can.of F41 (ze2 F41 T C16) (mg_of X G a41) b41
 have C42:Can l.prog w K mg base 2 "first_number" ["marks"] (wP K):=Can.of F42 (zeG F42 T C15) (mg_of X G a42) b42
 have C43:CanX l.prog w K mg base 2 "refuse_fewer_cards" ["sheet","least"] (yl K):=CanX.of F43 (zcm F43 T C7) (mg_of X G a43) b43
 have C44:Can l.prog w K mg base 2 "couple_word" ["word"] (zbp K):=Can.of F44 (ze9 F44 T C18) (mg_of X G a44) b44
 have C45:Can l.prog w K mg base 2 "good_couples" ["couples"] (zaW K):=Can.of F45 (zes F45 T C19 C21 C22) (mg_of X G a45) b45
 have C46:Can l.prog w K mg base 2 "good_name" ["judge"] (zcj K):=Can.of F46 (zhc F46 T C20 C21) (mg_of X G a46) b46
 have C47:Can l.prog w K mg base 2 "_law_same" ["_law_found","_law_due_here"] (zaO K):=Can.of F47 (zhZ F47 T C24) (mg_of X G a47) b47
 have C48:Can l.prog w K mg base 2 "_law_names" ["_law_cell","_law_many_here"] (zci K):=Can.of F48 (zgU F48 T C27) (mg_of X G a48) b48
 have C49:Can l.prog w K mg base 2 "_law_card" ["_law_cell","_law_couples_here","_law_style"] (zcy K):=Can.of F49 (zim F49 T C27) (mg_of X G a49) b49
 have C50:CanM l.prog w K mg base 3 (zE K "Sheet") "cards" ["self"] (wv K):=CanM.of oc_Sheet (zeX F50 T C7 C35) ⟨a50,i50,k50⟩ b50
 have C51:Can l.prog w K mg base 3 "_law_by_method" ["_law_sheet","_law_deed_here","_law_judge","_law_couple","_law_card_here"] (zaw K):=Can.of F51 (zd8 F51 T C32 C33 C34) (mg_of X G a51) b51
 have C52:Can l.prog w K mg base 3 "unlike_at" ["one","other"] (zbZ K):=Can.of F52 (zg9 F52 T C40 C41 C42) (mg_of X G a52) b52
 have C53:Can l.prog w K mg base 3 "read_couple" ["word"] (zbi K):=Can.of F53 (zeU F53 T C44) (mg_of X G a53) b53
 have C54:Can l.prog w K mg base 3 "good_judges" ["judges"] (zbj K):=Can.of F54 (zfq F54 T C46 C21 C22) (mg_of X G a54) b54
 have C55:Can l.prog w K mg base 3 "_law_lists" ["_law_found","_law_due_here"] (zb1 K):=Can.of F55 (zhq F55 T C47) (mg_of X G a55) b55
 have C56:Can l.prog w K mg base 3 "_law_dealt" ["_law_cell","_law_used","_law_couples_here","_law_style"] (zb4 K):=Can.of F56 (zha F56 T C27 C49) (mg_of X G a56) b56
 have C57:CanK l.prog w K mg base 4 "Sheet" (zE K "Sheet") ["self","couples","judges"] (zbN K):=CanK.of oc_Sheet (zf9 F57 T C45 C54) (mg_of X G oa_Sheet) ⟨omk_Sheet,a57,i57,okc_Sheet⟩ b57
 have C58:Can l.prog w K mg base 4 "_law_stands" ["_law_sheet","_law_names_here","_law_couples_here","_law_gone","_law_cards","_law_many_here","_law_shut"] (zbI K):=Can.of F58 (zf1 F58 T C24 C47 C26 C55 C4 C5 C6 C7 C50 C35 C0 C1) (mg_of X G a58) b58
 have C59:Can l.prog w K mg base 4 "is_ahead" ["one","other"] (zcx K):=Can.of F59 (ziD F59 T C40 C41 C42 C52) (mg_of X G a59) b59
 have C60:Can l.prog w K mg base 4 "read_couples" ["first","words"] (zaP K):=Can.of F60 (zer F60 T C17 C53) (mg_of X G a60) b60
 have C61:Can l.prog w K mg base 5 "place_among" ["rows","own"] (zbu K):=Can.of F61 (zfL F61 T C59) (mg_of X G a61) b61
 have C62:Can l.prog w K mg base 5 "read_row" ["row"] (zcL K):=Can.of F62 (zhF F62 T C60) (mg_of X G a62) b62
 have C63:Can l.prog w K mg base 6 "places_of" ["cards","couples"] (za1 K):=Can.of F63 (zg7 F63 T C39 C61) (mg_of X G a63) b63
 have C64:CanX l.prog w K mg base 7 "places" ["sheet"] (zcT K):=CanX.of F64 (ok_places F64 T C63 C43 C4 C50) (mg_of X G a64) b64
 have C65:Can l.prog w K mg base 11 "by_place" ["places","couples"] (zcw K):=Can.of F65 (ziw F65 T L65 B C64) (mg_of X G a65) b65
 have C66:Can l.prog w K mg base 12 "ranking_of" ["cards","couples"] (zbG K):=Can.of F66 (zf8 F66 T C63 C65) (mg_of X G a66) b66
 have C67:CanX l.prog w K mg base 13 "ranking" ["sheet"] (zdc K):=CanX.of F67 (zjs F67 T C66 C43 C4 C50) (mg_of X G a67) b67
 have C68:CanX l.prog w K mg base 14 "only_told" ["sheet","first","judge","couples"] (zcb K):=CanX.of F68 (zg0 F68 T C67 C23) (mg_of X G a68) b68
 have C69:CanX l.prog w K mg base 15 "done_and_told" ["sheet","first","judge","couples"] (zaq K):=CanX.of F69 (zd9 F69 T C68 C32 C33 C34) (mg_of X G a69) b69
 have C70:Can l.prog w K mg base 16 "answer" ["sheet","row"] (zcQ K):=Can.of F70 (ok_answer F70 T C62 C69) (mg_of X G a70) b70
 have C71:Can l.prog w K mg base 17 "_law_by_row" ["_law_sheet","_law_deed_here","_law_judge","_law_couple","_law_card_here"] (zbD K):=Can.of F71 (zfT F71 T C70 C11) (mg_of X G a71) b71
 have C72:Can l.prog w K mg base 18 "_law_deed" ["_law_sheet","_law_cell","_law_names_here","_law_state","_law_style"] (zcu K):=Can.of F72 (zh7 F72 T C56 C10 C51 C71 C38) (mg_of X G a72) b72
 exact ok_law F73 T C64 C70 C25 C47 C28 C29 C48 C36 C58 C37 C72 C57
theorem walk{l:PySem.W.OpenLaw}{q:Program}{loose:List Str}{XP:(Str→Option Value)→Heap→Prop}{YP:World→Heap→Prop}{d:DefRec}{K:Params→Frag}(hn:l.most=some 63)(hdf:d.params.defaults=[])
 (hY:∀(w:World)(h:Heap),YP w h→(K w.params).In h)
 (hrec:∃dd,(PyProof.Rows.recsOf q).find? (fun e=>e.name==("by_place":Str))=some dd)
 (F:∀(w:World)(mg:Str→Option Value)(fa:Addr)(h:Heap),(K w.params).In h→h.Ns mainGlobals mg→mg d.name=some (.ref fa) →
   LamK (K w.params) "by_place"∧∃fd:FuncData,(∀(s:Shared)(u:Value),BindsTo s fd ⟨[u],[]⟩ [("_law_script",u)])∧∀base:Heap,(K w.params).In base→base.Ns mainGlobals mg→zdI mg base→FnOk l.prog w (K w.params) mg base CX0 19 fa fd ["_law_script"] (zhD (K w.params))) :
 PySem.W.WalkO q loose XP YP l.row.toRowW d [] (fun f vs=>PySem.call f vs) :=
 L2.walk_ofT (n:=63) (k:=19) (x:= "_law_script") (y:= "by_place") (CX:=fun _=>CX0) (sp:=fun w=>zhD (K w.params)) hn (by decide) hdf ⟨rfl,by decide,by decide⟩ hrec hY F (fun _ _ a ns hl hT hS=>⟨a,ns,rfl,hS,hl,hT,fun _=>rfl⟩) fun _ _ _ _ _ z=>z
end
end Pp
namespace PySem.W.Fast
def tw8939391126415814464:=0
def tw11237744239013219213:=0
def tw11911749731992702580:=0
def tw6733545281342820070:=0
def tw12594514342789141856:=0
def tw6054157326161053256:=0
def tw2956609097810730044:=0
def tw9220337050988893303:=0
def tw15645275546984510228:=0
def tw4558826515857736955:=0
def tw11058577457728902140:=0
def tw5140156146934761451:=0
def tw9065525636444339077:=0
def tw8757910896568665258:=0
def tw16507302924103905313:=0
def tw7370131293453484984:=0
def tw4449769843634952730:=0
def tw17471215544221478413:=0
def tw7000957041361562887:=0
def tw7139006519333259983:=0
def tw875256601560827475:=0
def tw14733477120985018621:=0
def tw7429583940878119015:=0
def tw12278612575605899338:=0
def tw10040472422340040236:=0
def tw15445149538684123249:=0
def tw17724791526894986421:=0
def tw2971077621508168047:=0
def tw332604331104473326:=0
def tw5968961548948841342:=0
def tw5976741755910171246:=0
def tw17452288338014572599:=0
def tw4070774625131385745:=0
def tw11838604389044398827:=0
def tw17210104049679807737:=0
def tw11809255201504296940:=0
def tw16180005695777454124:=0
def tw15001018642988052574:=0
def tw13943506596930104987:=0
def tw3668121698378920433:=0
def tw4473179691146831704:=0
def tw14036629850280400632:=0
def tw14584051126590778264:=0
def tw8845041844469225538:=0
def tw15555668179493867529:=0
def tw3701419821080403901:=0
def tw6881248837121847952:=0
def tw8628827455754556716:=0
def tw37495404871179640:=0
def tw5373466270236378126:=0
def tw17915287628695185664:=0
def tw2298070854644380604:=0
def tw12604797063233037186:=0
def tw10332536206456842773:=0
def tw9383126216633298158:=0
def tw9294672186340586379:=0
def tw17889275091055017454:=0
def tw4439162638466786685:=0
def tw11806438212523983544:=0
def tw1336946774067929176:=0
def tw16074100606158428022:=0
def tw4433699854036283012:=0
def tw13407135980263837253:=0
def tw16215148651216730954:=0
def tw4188820247792717917:=0
def tw459765558905102308:=0
def tw13419627878454044630:=0
def tw13227818390504754221:=0
def tw15896417286645533584:=0
def tw3275795257512945925:=0
def tw12286514467475492486:=0
def tw12526040155298030931:=0
def tw16629454751664178617:=0
def tw2091423270798523574:=0
def tw10075417584861547754:=0
def tw6780173172410781526:=0
def tw8833064309813856017:=0
def tw1064164283568241851:=0
def tw15179123231859756790:=0
def tw14555723428756199766:=0
def tw9131472263052223302:=0
end PySem.W.Fast
open PySem PySem.W PyProof.Rows
set_option maxRecDepth 100000 in
set_option maxHeartbeats 0 in
theorem PySem.Challenge.cw_panelplace_k49_whole_desk_and_sheet_holds : PySem.Challenge.rw_panelplace_k49_whole_desk_and_sheet.Holds := by
 w_on;o_law;k_head;(case hw=>w_witness2)
 k_fill
 refine Pp.walk (l:=PySem.Challenge.rw_panelplace_k49_whole_desk_and_sheet) rfl rfl (fun w h Y=>PySem.W.km_in_of Y) ⟨_,rfl⟩ ?F
 case F =>
  intro w mg fa h KX G hmg
  refine' Pp.all_mk KX G hmg ?oa_Sheet ?a0 ?i0 ?l0 ?c0 ?k0 ?a1 ?i1 ?l1 ?c1 ?k1 ?a2 ?i2 ?l2 ?c2 ?k2 ?a3 ?i3 ?l3 ?c3 ?k3 ?a4 ?i4 ?l4 ?c4 ?k4 ?a5 ?i5 ?l5 ?c5 ?k5 ?a6 ?i6 ?l6 ?c6 ?k6 ?a7 ?i7 ?l7 ?c7 ?k7 ?a8 ?l8 ?c8 ?k8 ?a9 ?l9 ?c9 ?k9 ?a10 ?l10 ?c10 ?k10 ?a11 ?l11 ?c11 ?k11 ?a12 ?l12 ?c12 ?k12 ?a13 ?l13 ?c13 ?k13 ?a14 ?l14 ?c14 ?k14 ?a15 ?l15 ?c15 ?k15 ?a16 ?l16 ?c16 ?k16 ?a17 ?l17 ?c17 ?k17 ?a18 ?l18 ?c18 ?k18 ?a19 ?l19 ?c19 ?k19 ?a20 ?l20 ?c20 ?k20 ?a21 ?l21 ?c21 ?k21 ?a22 ?l22 ?c22 ?k22 ?a23 ?l23 ?c23 ?k23 ?a24 ?l24 ?c24 ?k24 ?a25 ?l25 ?c25 ?k25 ?a26 ?l26 ?c26 ?k26 ?a27 ?l27 ?c27 ?k27 ?a28 ?l28 ?c28 ?k28 ?a29 ?l29 ?c29 ?k29 ?a30 ?l30 ?c30 ?k30 ?a31 ?l31 ?c31 ?k31 ?a32 ?i32 ?l32 ?c32 ?k32 ?a33 ?i33 ?l33 ?c33 ?k33 ?a34 ?i34 ?l34 ?c34 ?k34 ?a35 ?i35 ?l35 ?c35 ?k35 ?a36 ?l36 ?c36 ?k36 ?a37 ?l37 ?c37 ?k37 ?a38 ?l38 ?c38 ?k38 ?a39 ?l39 ?c39 ?k39 ?a40 ?l40 ?c40 ?k40 ?a41 ?l41 ?c41 ?k41 ?a42 ?l42 ?c42 ?k42 ?a43 ?l43 ?c43 ?k43 ?a44 ?l44 ?c44 ?k44 ?a45 ?l45 ?c45 ?k45 ?a46 ?l46 ?c46 ?k46 ?a47 ?l47 ?c47 ?k47 ?a48 ?l48 ?c48 ?k48 ?a49 ?l49 ?c49 ?k49 ?a50 ?i50 ?l50 ?c50 ?k50 ?a51 ?l51 ?c51 ?k51 ?a52 ?l52 ?c52 ?k52 ?a53 ?l53 ?c53 ?k53 ?a54 ?l54 ?c54 ?k54 ?a55 ?l55 ?c55 ?k55 ?a56 ?l56 ?c56 ?k56 ?a57 ?i57 ?l57 ?c57 ?k57 ?a58 ?l58 ?c58 ?k58 ?a59 ?l59 ?c59 ?k59 ?a60 ?l60 ?c60 ?k60 ?a61 ?l61 ?c61 ?k61 ?a62 ?l62 ?c62 ?k62 ?a63 ?l63 ?c63 ?k63 ?a64 ?l64 ?c64 ?k64 ?a65 ?l65 ?c65 ?k65 ?qe ?qk ?qv ?qh ?qn ?a66 ?l66 ?c66 ?k66 ?a67 ?l67 ?c67 ?k67 ?a68 ?l68 ?c68 ?k68 ?a69 ?l69 ?c69 ?k69 ?a70 ?l70 ?c70 ?k70 ?a71 ?l71 ?c71 ?k71 ?a72 ?l72 ?c72 ?k72 ?a73 ?l73 ?c73 ?k73 ?z0 ?z1 ?z2 ?z3 ?z4 ?z5 ?z6 ?z7 ?z8 ?z9 ?z10 ?z11 ?z12 ?y0 ?yl0 ?yt0 ?yz0 ?yv0 ?y1 ?yl1 ?yt1 ?yz1 ?yv1 ?y2 ?yl2 ?yt2 ?yz2 ?yv2 ?y3 ?y4 ?y5 ?y6 ?y7 ?y8 ?xa0 ?xa1 ?xa2 ?xa3 ?xa4 ?xa5 ?xa6 ?xa7 ?xa8 ?xa9 ?xa10 ?xa12 ?xe0 ?xe1 ?xe2 ?xe3 ?xi3 ?xs3_0 ?xs3_3 ?xk3_3 ?xk3_5 ?xk3_7 ?xk3_8 ?xs3_12 ?xe4 ?xs4_3 ?xs4_4 ?xs4_12 ?xe5 ?xi5 ?xs5_0 ?xs5_3 ?xk5_3 ?xs5_4 ?xs5_5 ?xk5_5 ?xk5_7 ?xk5_8 ?xs5_12 ?xe6 ?xs6_3 ?xs6_4 ?xs6_5 ?xs6_6 ?xs6_12 ?xe7 ?xi7 ?xs7_0 ?xs7_3 ?xk7_3 ?xs7_4 ?xs7_5 ?xk7_5 ?xs7_6 ?xs7_7 ?xk7_7 ?xk7_8 ?xs7_12 ?xe8 ?xi8 ?xs8_0 ?xs8_3 ?xk8_3 ?xs8_4 ?xs8_5 ?xk8_5 ?xs8_6 ?xs8_7 ?xk8_7 ?xs8_8 ?xk8_8 ?xs8_12 ?xe9 ?xe10 ?xs10_3 ?xs10_4 ?xs10_5 ?xs10_6 ?xs10_7 ?xs10_8 ?xs10_9 ?xs10_10 ?xs10_12 ?xe12 ?opg_Sheet ?ohd_Sheet ?opo_Sheet ?osa_Sheet ?omk_Sheet ?okc_Sheet ?on_Sheet_standing ?on_Sheet_struck_so_far ?on_Sheet_panel ?on_Sheet_card_by_judge ?on_Sheet_taken_so_far ?on_Sheet_sealed
  case oa_Sheet|a0|i0|l0|c0|k0|a1|i1|l1|c1|k1|a2|i2|l2|c2|k2|a3|i3|l3|c3|k3|a4|i4|l4|c4|k4|a5|i5|l5|c5|k5|a6|i6|l6|c6|k6|a7|i7|l7|c7|k7|a8|l8|c8|k8|a9|l9|c9|k9|a10|l10|c10|k10|a11|l11|c11|k11|a12|l12|c12|k12|a13|l13|c13|k13|a14|l14|c14|k14|a15|l15|c15|k15|a16|l16|c16|k16|a17|l17|c17|k17|a18|l18|c18|k18|a19|l19|c19|k19|a20|l20|c20|k20|a21|l21|c21|k21|a22|l22|c22|k22|a23|l23|c23|k23|a24|l24|c24|k24|a25|l25|c25|k25|a26|l26|c26|k26|a27|l27|c27|k27|a28|l28|c28|k28|a29|l29|c29|k29|a30|l30|c30|k30|a31|l31|c31|k31|a32|i32|l32|c32|k32|a33|i33|l33|c33|k33|a34|i34|l34|c34|k34|a35|i35|l35|c35|k35|a36|l36|c36|k36|a37|l37|c37|k37|a38|l38|c38|k38|a39|l39|c39|k39|a40|l40|c40|k40|a41|l41|c41|k41|a42|l42|c42|k42|a43|l43|c43|k43|a44|l44|c44|k44|a45|l45|c45|k45|a46|l46|c46|k46|a47|l47|c47|k47|a48|l48|c48|k48|a49|l49|c49|k49|a50|i50|l50|c50|k50|a51|l51|c51|k51|a52|l52|c52|k52|a53|l53|c53|k53|a54|l54|c54|k54|a55|l55|c55|k55|a56|l56|c56|k56|a57|i57|l57|c57|k57|a58|l58|c58|k58|a59|l59|c59|k59|a60|l60|c60|k60|a61|l61|c61|k61|a62|l62|c62|k62|a63|l63|c63|k63|a64|l64|c64|k64|a65|l65|c65|k65=>k_is
  (case qe=>exact rfl)
  case qk=>k_is
  (case qv=>exact rfl)
  case qh|qn=>kernel_rfl
  case a66|l66|c66|k66|a67|l67|c67|k67|a68|l68|c68|k68|a69|l69|c69|k69|a70|l70|c70|k70|a71|l71|c71|k71|a72|l72|c72|k72|a73|l73|c73|k73|z0|z1|z2|z3|z4|z5|z6|z7|z8|z9|z10|z11|z12|y0|yl0=>k_is
  (case yt0=>exact rfl)
  (case yz0=>decide)
  (case yv0=>exact .cons ⟨_,rfl⟩ (.cons ⟨_,rfl⟩ (.cons ⟨_,rfl⟩ (.cons ⟨_,rfl⟩ (.cons ⟨_,rfl⟩ (.nil))))))
  case y1|yl1=>k_is
  (case yt1=>exact rfl)
  (case yz1=>decide)
  (case yv1=>exact .cons ⟨_,rfl⟩ (.cons ⟨_,rfl⟩ (.cons ⟨_,rfl⟩ (.cons ⟨_,rfl⟩ (.nil)))))
  case y2|yl2=>k_is
  (case yt2=>exact rfl)
  (case yz2=>decide)
  (case yv2=>exact .cons ⟨_,rfl⟩ (.cons ⟨_,rfl⟩ (.cons ⟨_,rfl⟩ (.nil))))
  case y3|y4|y5|y6|y7|y8|xa0|xa1|xa2|xa3|xa4|xa5|xa6|xa7|xa8|xa9|xa10|xa12=>k_is
  case xe0|xe1|xe2|xe3|xi3|xs3_0|xs3_3|xk3_3|xk3_5|xk3_7|xk3_8|xs3_12|xe4|xs4_3|xs4_4|xs4_12|xe5|xi5|xs5_0|xs5_3|xk5_3|xs5_4|xs5_5|xk5_5|xk5_7|xk5_8|xs5_12|xe6|xs6_3|xs6_4|xs6_5|xs6_6|xs6_12|xe7|xi7|xs7_0|xs7_3|xk7_3|xs7_4|xs7_5|xk7_5|xs7_6|xs7_7|xk7_7|xk7_8|xs7_12|xe8|xi8|xs8_0|xs8_3|xk8_3|xs8_4|xs8_5|xk8_5|xs8_6|xs8_7|xk8_7|xs8_8|xk8_8|xs8_12|xe9|xe10|xs10_3|xs10_4|xs10_5|xs10_6|xs10_7|xs10_8|xs10_9|xs10_10|xs10_12|xe12=>kernel_rfl
  case opg_Sheet|ohd_Sheet|opo_Sheet|osa_Sheet|omk_Sheet|okc_Sheet|on_Sheet_standing|on_Sheet_struck_so_far|on_Sheet_panel|on_Sheet_card_by_judge|on_Sheet_taken_so_far|on_Sheet_sealed=>k_is


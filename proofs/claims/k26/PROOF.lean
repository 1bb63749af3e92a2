import PyProof.Rows.All
import Wide.All
import OpenK.AllK
import Wide.FinOn
import Lean
import PyProof.EqAt
import PyProof.EqKinds
import PyProof.TupleCall
import PyProof.ListRange
import KE.KSortAsk
import KE.KSortKey
import KE.KSortTup
import KE.KItemsList
import KE.KLam
import KE.KNestM
import PyProof.Rows.StrLen
import PyProof.Rows.Range3
import PyProof.CallStr
import PyProof.StrBlockL
import PyProof.MeetsStr
import PyProof.Rows.StrDigits
import PySem.Challenge.RW_panelplace_k26_lists_are_copies
open PySem.W (Frag InstAt callWith_K callWith_K0 cellsFrom_some codeIn emptyDict excIn findIn fnOf handedIn hasDictIn hideAll hideAll_get instObj isFn keepIn lookIn makesIn methodCall_KW methodObj mg_none_of mg_of nsIn of_hideAll plainGet plainGet_of plainOver takerIn typeIn)
open List (all_cons all_eq_true all_map any_cons append_assoc append_nil cons_append cons_lt_cons_iff drop_eq_getElem_cons drop_nil drop_of_length_le ext_getElem filter filterMap filterMap_nil filter_append filter_congr filter_cons filter_cons_of_neg filter_cons_of_pos filter_filter filter_map filter_nil find?_cons findIdx_cons flatMap flatMap_append foldl_cons forIn_cons forIn_nil forIn_toArray getD_eq_getElem?_getD getElem?_eq_getElem getElem?_map getElem?_range getElem_map getElem_mem getElem_range length_append length_cons length_drop length_filter_le length_map length_nil length_range length_singleton length_tail length_take length_zip lookup_cons map_append map_congr_left map_cons map_drop map_map map_nil map_take mem_append mem_append_left mem_append_right mem_cons mem_cons_of_mem mem_cons_self mem_of_getElem? nodup_append not_mem_nil of_mem_zip pairwise_lt_range push_toArray range' range_succ range_succ_eq_map replicate size_toArray take_append_drop take_length take_nil take_of_length_le take_succ take_zero)
open PyProof.Rows (boot_all boot_bool boot_int boot_isinstance boot_list boot_max boot_min boot_set boot_str boot_sum boot_tuple callWith_builtin1 callWith_type1 len_str_of_int)
open Nat (le_add_right le_of_eq le_of_lt le_refl le_succ le_trans lt_irrefl lt_of_lt_of_le lt_succ_of_lt lt_succ_self lt_trans mul_le_mul ne_of_gt ne_of_lt zero_le)
open PySem.Heap (SameBut get?_push_of_some get?_push_size get?_update_other lt_size size_push size_update)
noncomputable section
set_option Elab.async false
set_option linter.all false
set_option maxRecDepth 100000
namespace L2
open PySem PySem.Spec PyProof.Rows
abbrev Key:=Sum Int Str
def zhK:Key→Value→Bool
 | .inl k,v=>Value.isInt k v
 | .inr x,v=>Value.isStrOf x v
def keyH(w:World):Key→Int
 | .inl k=>hashInt k
 | .inr x=>hashStr w x
theorem yB:∀{k:Key}{v:Value},zhK k v=true→(∃i t,k=Sum.inl i∧v=Value.int i t)∨(∃x t,k=Sum.inr x∧v=Value.str x t)
 | .inl i,v,h=>by
   obtain⟨t,e⟩:=Value.isInt_shape (k:=i) (v:=v) h
   exact .inl ⟨i,t,rfl,e⟩
 | .inr x,v,h=>by
   obtain⟨t,e⟩:=Value.isStrOf_shape (x:=x) (v:=v) h
   exact .inr ⟨x,t,rfl,e⟩
theorem keyIs_int(i:Int)(t:Tok):zhK (.inl i) (.int i t)=true:=by simp[zhK,Value.isInt]
theorem keyIs_str(x:Str)(t:Tok):zhK (.inr x) (.str x t)=true:=by simp[zhK,Value.isStrOf]
theorem key_ll(a b:Int):decide ((Sum.inl a:Key)=Sum.inl b)=(a==b):=by
 by_cases e:a=b
 ·subst e;simp
 ·have h:¬(Sum.inl a:Key)=Sum.inl b:=fun q=>e (Sum.inl.inj q)
  rw[decide_eq_false h]
  exact(beq_eq_false_iff_ne.mpr e).symm
theorem key_rr(a b:Str):decide ((Sum.inr a:Key)=Sum.inr b)=decide (a=b):=by
 by_cases e:a=b
 ·subst e;simp
 ·have h:¬(Sum.inr a:Key)=Sum.inr b:=fun q=>e (Sum.inr.inj q)
  rw[decide_eq_false h,decide_eq_false e]
theorem key_lr(a:Int)(b:Str):decide ((Sum.inl a:Key)=Sum.inr b)=false:=decide_eq_false (fun q=>nomatch q)
theorem key_rl(a:Str)(b:Int):decide ((Sum.inr a:Key)=Sum.inl b)=false:=decide_eq_false (fun q=>nomatch q)
def wA(prog:Program)(w:World):PySem.KeyKind prog w Key where
 is:=zhK
 hash:=keyH w
 inj:=fun v a b ha hb=>by
  rcases yB ha with⟨i,t,rfl,rfl⟩|⟨x,t,rfl,rfl⟩
  ·rcases yB hb with⟨j,u,rfl,e⟩|⟨y,u,rfl,e⟩
   ·injection e with e1 _;rw[e1]
   ·exact nomatch e
  ·rcases yB hb with⟨j,u,rfl,e⟩|⟨y,u,rfl,e⟩
   ·exact nomatch e
   ·injection e with e1 _;rw[e1]
 byValue:=fun k v h=>by
  rcases yB h with⟨i,t,rfl,rfl⟩|⟨x,t,rfl,rfl⟩ <;> rfl
 pyHash:=fun hv h=>by
  rcases yB hv with⟨i,t,rfl,rfl⟩|⟨x,t,rfl,rfl⟩
  ·exact wpAny_pyHash_int h
  ·exact wpAny_pyHash_str h
 eqBool:=fun hu hv h=>by
  rcases yB hu with⟨i,t,rfl,rfl⟩|⟨x,t,rfl,rfl⟩
  ·rcases yB hv with⟨j,u,rfl,rfl⟩|⟨y,u,rfl,rfl⟩
   ·rw[key_ll] at h;exact wpAny_eqBool_int h
   ·rw[key_lr] at h;exact SeqAt.EqAt.int_str i t y u _ _ _ _ h
  ·rcases yB hv with⟨j,u,rfl,rfl⟩|⟨y,u,rfl,rfl⟩
   ·rw[key_rl] at h;exact SeqAt.EqAt.str_int x t j u _ _ _ _ h
   ·rw[key_rr] at h;exact wpAny_eqBool_str h
 «strs» := fun k x t v h=>by
  rcases yB h with⟨i,u,rfl,e⟩|⟨y,u,rfl,e⟩
  ·exact nomatch e
  ·injection e with e1 _
   subst e1
   cases v <;> rfl
theorem zjI(prog:Program)(w:World)(i:Int)(t:Tok):(wA prog w).is (.inl i) (.int i t)=true:=keyIs_int i t
theorem zi8(prog:Program)(w:World)(x:Str)(t:Tok):(wA prog w).is (.inr x) (.str x t)=true:=keyIs_str x t
inductive V where
 | non | bl (b:Bool) | int (i:Int) | str (x:Str) | byt (b:Array UInt8) | flt (b:UInt64) | ref (a:Addr) | ty (n:String)
 deriving DecidableEq
def RelV:V→Value→Prop
 | .non,u=>u=Value.none
 | .bl b,u=>u=Value.bool b
 | .int i,u=>∃t,u=Value.int i t
 | .str x,u=>∃t,u=Value.str x t
 | .byt b,u=>∃t,u=Value.bytes b t
 | .flt b,u=>∃t,u=Value.float b t
 | .ref a,u=>u=Value.ref a
 | .ty n,u=>u=Value.type n
abbrev Vals:List V→List Value→Prop:=Paired RelV
theorem Vals.length{xs:List V}{us:List Value}(r:Vals xs us):xs.length=us.length:=Paired.length r
theorem Vals.get:∀{xs:List V}{us:List Value}{i:Nat}{x:V},Vals xs us→xs[i]? = some x→∃u,us[i]? = some u∧RelV x u
 | _,_,_,_,.nil,e=>by simp at e
 | _,_,0,_,.cons r _,e=>by simp at e;subst e;exact⟨_,rfl,r⟩
 | _,_,i+1,x,.cons _ t,e=>by
   obtain⟨u,h1,h2⟩:=Vals.get (i:=i) (x:=x) t (by simpa using e)
   exact⟨u,by simpa using h1,h2⟩
theorem Vals.set{x:V}{u:Value}(r:RelV x u):∀{xs:List V}{us:List Value}(i:Nat),Vals xs us→Vals (xs.set i x) (us.set i u)
 | _,_,_,.nil=>.nil
 | _,_,0,.cons _ t=>.cons r t
 | _,_,i+1,.cons q t=>.cons q (Vals.set r i t)
theorem Vals.append:∀{xs ys:List V}{us ws:List Value},Vals xs us→Vals ys ws→Vals (xs++ys) (us++ws)
 | _,_,_,_,.nil,s=>s
 | _,_,_,_,.cons r t,s=>.cons r (Vals.append t s)
theorem Vals.take:∀{xs:List V}{us:List Value}(n:Nat),Vals xs us→Vals (xs.take n) (us.take n)
 | _,_,0,_=>.nil
 | _,_,_+1,.nil=>.nil
 | _,_,n+1,.cons r t=>.cons r (Vals.take n t)
theorem Vals.drop:∀{xs:List V}{us:List Value}(n:Nat),Vals xs us→Vals (xs.drop n) (us.drop n)
 | _,_,0,r=>r
 | _,_,_+1,.nil=>.nil
 | _,_,n+1,.cons _ t=>Vals.drop n t
def RelO:Option V→Option Value→Prop
 | some v,some u=>RelV v u
 | none,none=>True
 | _,_=>False
def KV{κ:Type}:List (κ×V)→List (κ×Value)→Prop:=Paired fun(p:κ×V) (q:κ×Value)=>p.1=q.1∧RelV p.2 q.2
def kV:Key→V
 | .inl i=>.int i
 | .inr x=>.str x
inductive HO where
 /-- a list -/
 | lst (xs:List V)
 /-- a tuple (never changes) -/
 | tup (xs:List V)
 /-- a dict whose keys are ints and texts;one whose keys are tuples of ints and texts (the empty one is both) -/
 | dK (kvs:List (Key×V)) | dT (kvs:List (List Key×V))
 /-- a set of ints: its members,its size -/
 | set (S:Int→Bool) (n:Nat)
 /-- an instance of the class at C,its dict at dx,its attributes -/
 | ins (C dx:Addr) (fs:List (Str×V))
 /-- the dict of the instance at x -/
 | own (x:Addr)
 /-- the dict of an exception -/
 | xd (fs:List (Str×V))
 /-- a bound method,f of x -/
 | met (f x:Addr)
 /-- a range object lo,lo+1,.. zen hi -/
 | rng (lo hi:Int)
 /-- a thing that is known to the object (the script;a dict while a loop walks it): read,never written while it is so -/
 | frz (o:Obj) (u:HO)
 /-- a code object's table -/
 | tbl (ps:Array Value)
 /-- any other thing,by what is true of its one object (a def of one's own: SetO a S n:=HO.ext fun h => ..) -/
 | ext (φ:Heap→Prop)
abbrev Hp:=Addr→Option HO
def upd(H:Hp)(a:Addr)(o:HO):Hp:=fun b=>if b=a then some o else H b
theorem zd{H:Hp}{a:Addr}{o:HO}:upd H a o a=some o:=by unfold upd;rw[if_pos rfl]
theorem zi{H:Hp}{a b:Addr}{o:HO}(h:b≠a):upd H a o b=H b:=by unfold upd;rw[if_neg h]
theorem upd_upd{H:Hp}{a:Addr}{o u:HO}:upd (upd H a o) a u=upd H a u:=by
 funext b;unfold upd;split <;> rfl
theorem we{H:Hp}{a b:Addr}{o u:HO}(h:H a=some o)(h':H b=some u)(d:o≠u):a≠b:=by
 intro e;subst e;rw[h] at h';exact d (Option.some.inj h')
theorem zj{H:Hp}{a b:Addr}{o:HO}(h:H a=some o)(h':H b=none):a≠b:=by
 intro e;subst e;rw[h] at h';cases h'
section
variable (P:Program)(w:World)
def ObjOk(H:Hp)(h:Heap)(a:Addr):HO→Prop
 | .lst xs=>xs.length≤sizeLine∧∃(its:List Value)(n:Nat),Vals xs its∧h.get? a=some { cls:=.type "list",data:=.seq its.toArray n }
 | .tup xs=>xs.length≤sizeLine∧∃its:List Value,Vals xs its∧IsTup h a its.toArray
 | .dK kvs=>kvs.length≤sizeLine∧(a==sysModules)=false∧∃vs,KV kvs vs∧h.DictOf (wA P w) a vs
 | .dT kvs=>kvs.length≤sizeLine∧(a==sysModules)=false∧∃xs:List (List Key×Addr×Value),
    Paired (fun(p:List Key×V) (q:List Key×Addr×Value)=>p.1=q.1∧H q.2.1=some (.tup (p.1.map kV))∧RelV p.2 q.2.2) kvs xs ∧
    ∃o es ep,h.get? a=some o∧o.ExactDict∧o.data=.dict es ep∧es.toList=xs.map (entryOfKey (tupleKind (wA P w)))∧(xs.map (·.1)).Nodup
 | .set S n=>h.SetOf (intKind P w) a S n
 | .ins C dx fs=>H dx=some (.own a)∧fs.length≤1000∧dx≠a∧h.get? a=some (instObj C dx) ∧
    ∃mA,h.Ns1 dx mA∧(∀f,RelO (fs.lookup f) (mA f))∧PySem.Within mA (fs.map (·.1))
 | .own _=>∃o,h.get? a=some o
 | .xd fs=>∃mA,h.Ns1 a mA∧∀f,RelO (fs.lookup f) (mA f)
 | .rng lo hi=>∃t u v,h.get? a=some { cls:=.type "range",data:=.fields #[.int lo t,.int hi u,.int 1 v] }
 | .frz o u=>h.get? a=some o∧ObjOk H h a u
 | .tbl ps=>h.get? a=some { cls:=.none,data:=.fields ps }
 | .met f x=>h.get? a=some (methodObj (.ref f) (.ref x))
 | .ext φ=>φ h∧(∃o,h.get? a=some o)∧∀h1 h2:Heap,φ h1→(∀o,h1.get? a=some o→h2.get? a=some o)→φ h2
def HOk(H:Hp)(h:Heap):Prop:=∀a o,H a=some o→ObjOk P w H h a o
end
section
variable {P:Program}{w:World}{H H':Hp}{h h':Heap}{a:Addr}{o:HO}
theorem ObjOk.lt(x:ObjOk P w H h a o):a<h.objs.size:=by
 cases o with
 | lst xs=>obtain⟨_,_,_,_,e⟩:=x;exact lt_size e
 | tup xs=>obtain⟨_,_,_,p⟩:=x;exact p.lt
 | dK kvs=>obtain⟨_,_,_,_,o,_,_,e,_⟩:=x;exact lt_size e
 | dT kvs=>obtain⟨_,_,_,_,o,_,_,e,_⟩:=x;exact lt_size e
 | set S n=>obtain⟨o,_,_,_,e,_⟩:=x;exact lt_size e
 | ins C dx fs=>obtain⟨_,_,_,e,_⟩:=x;exact lt_size e
 | own y=>obtain⟨_,e⟩:=x;exact lt_size e
 | xd fs=>obtain⟨_,⟨_,_,_,e,_⟩,_⟩:=x;exact lt_size e
 | rng lo hi=>obtain⟨_,_,_,e⟩:=x;exact lt_size e
 | frz ob u=>obtain⟨e,_⟩:=x;exact lt_size e
 | tbl ps=>exact lt_size (show h.get? a=some _ from x)
 | met f y=>exact lt_size (show h.get? a=some _ from x)
 | ext φ=>obtain⟨_,⟨_,e⟩,_⟩:=x;exact lt_size e
theorem Paired.mapP{α β:Type}{F G:α→β→Prop}:∀{l₁:List α}{l₂:List β},Paired F l₁ l₂→(∀a b,F a b→G a b)→Paired G l₁ l₂
 | _,_,.nil,_=>.nil
 | _,_,.cons r t,f=>.cons (f _ _ r) (Paired.mapP t f)
theorem ObjOk.stay(x:ObjOk P w H h a o)(k:∀b u,(b=a∨H b=some (.own a))→h.get? b=some u→h'.get? b=some u)
 (ho:∀b,H b=some (.own a)→H' b=some (.own a)) (ht:∀b xs,H b=some (.tup xs)→H' b=some (.tup xs)):ObjOk P w H' h' a o:=by
 induction o with
 | lst xs=>obtain⟨z,its,n,r,e⟩:=x;exact⟨z,its,n,r,k _ _ (.inl rfl) e⟩
 | tup xs=>obtain⟨z,its,r,ob,e,c⟩:=x;exact⟨z,its,r,ob,k _ _ (.inl rfl) e,c⟩
 | dK kvs=>obtain⟨z,y,vs,r,ob,es,ep,e,c⟩:=x;exact⟨z,y,vs,r,ob,es,ep,k _ _ (.inl rfl) e,c⟩
 | dT kvs =>
   obtain⟨z,y,xs,r,ob,es,ep,e,c⟩:=x
   exact⟨z,y,xs,Paired.mapP r fun p q z=>⟨z.1,ht _ _ z.2.1,z.2.2⟩,ob,es,ep,k _ _ (.inl rfl) e,c⟩
 | set S n=>obtain⟨ob,es,ep,t,e,c⟩:=x;exact⟨ob,es,ep,t,k _ _ (.inl rfl) e,c⟩
 | ins C dx fs =>
   obtain⟨d,z,ne,e,mA,⟨od,es,ep,e2,c⟩,r⟩:=x
   exact⟨ho _ d,z,ne,k _ _ (.inl rfl) e,mA,⟨od,es,ep,k _ _ (.inr d) e2,c⟩,r⟩
 | own y=>obtain⟨ob,e⟩:=x;exact⟨ob,k _ _ (.inl rfl) e⟩
 | xd fs=>obtain⟨mA,⟨od,es,ep,e,c⟩,r⟩:=x;exact⟨mA,⟨od,es,ep,k _ _ (.inl rfl) e,c⟩,r⟩
 | rng lo hi=>obtain⟨t,u,v,e⟩:=x;exact⟨t,u,v,k _ _ (.inl rfl) e⟩
 | frz ob u ih=>obtain⟨e,q⟩:=x;exact⟨k _ _ (.inl rfl) e,ih q⟩
 | tbl ps =>
   have e:h.get? a=some { cls:=.none,data:=.fields ps }:=x
   show h'.get? a=some { cls:=.none,data:=.fields ps }
   exact k a _ (.inl rfl) e
 | met f y =>
   have e:h.get? a=some (methodObj (.ref f) (.ref y)):=x
   show h'.get? a=some (methodObj (.ref f) (.ref y))
   exact k a _ (.inl rfl) e
 | ext φ=>obtain⟨p,⟨o,e⟩,st⟩:=x;exact⟨st _ _ p fun o q=>k _ _ (.inl rfl) q,⟨o,k _ _ (.inl rfl) e⟩,st⟩
theorem HOk.lt(x:HOk P w H h)(e:H a=some o):a<h.objs.size:=(x a o e).lt
theorem HOk.fresh(x:HOk P w H h)(e:h.objs.size≤a):H a=none:=by
 cases q:H a with
 | none=>rfl
 | some u=>exact absurd (lt_of_lt_of_le (x.lt q) e) (lt_irrefl _)
theorem HOk.kept(x:HOk P w H h)(k:∀b u,h.get? b=some u→h'.get? b=some u):HOk P w H h':=fun a o e =>
 (x a o e).stay (fun b u _ q=>k b u q) (fun _ q=>q) fun _ _ q=>q
theorem HOk.laid(x:HOk P w H h)(k:∀b u,h.get? b=some u→h'.get? b=some u)(hp:h.objs.size≤a)(new:ObjOk P w (upd H a o) h' a o):HOk P w (upd H a o) h':=fun b u e=>by
 have hn:=x.fresh hp
 by_cases hb:b=a
 ·subst hb;rw[zd] at e;cases e;exact new
 ·rw[zi hb] at e
  exact(x b u e).stay (fun c v _ q=>k c v q) (fun c q=>by rw[zi (zj q hn)];exact q) fun c xs q=>by rw[zi (zj q hn)];exact q
end
def Rd(H:Hp)(a:Addr)(u:HO):Prop:=H a=some u∨∃o,H a=some (.frz o u)
theorem Rd.of{H:Hp}{a:Addr}{u:HO}(h:H a=some u):Rd H a u:=.inl h
theorem Rd.ok{P:Program}{w:World}{H:Hp}{h:Heap}{a:Addr}{u:HO}(r:Rd H a u)(x:HOk P w H h):ObjOk P w H h a u:=by
 rcases r with r | ⟨o,r⟩
 ·exact x a u r
 ·obtain⟨_,q⟩:=x a _ r
  exact q
def Mut:Option HO→Prop
 | some (.lst _)=>True
 | some (.dK _)=>True
 | some (.dT _)=>True
 | some (.set _ _)=>True
 | some (.ins _ _ _)=>True
 | some (.ext _)=>True
 | _=>False
section
variable {P:Program}{w:World}{H:Hp}{h h':Heap}{x e:Addr}{o':HO}
theorem HOk.write(ok:HOk P w H h)(mu:Mut (H x))(he:e=x∨H e=some (.own x))(k:∀b u,b≠e→h.get? b=some u→h'.get? b=some u)(heo:∃u,h'.get? e=some u)
 (new:ObjOk P w (upd H x o') h' x o'):HOk P w (upd H x o') h':=fun b u q=>by
 have nown:∀c y,H c=some (.own y)→c≠x:=fun c y r z=>by subst z;rw[r] at mu;exact mu
 have ntup:∀c xs,H c=some (.tup xs)→c≠x:=fun c xs r z=>by subst z;rw[r] at mu;exact mu
 by_cases hb:b=x
 ·subst hb;rw[zd] at q;cases q;exact new
 ·rw[zi hb] at q
  by_cases hbe:b=e
  ·have q':H b=some (.own x):=by
    rcases he with z | z
    ·exact absurd (hbe.trans z) hb
    ·rw[hbe];exact z
   rw[q] at q';cases q'
   obtain⟨v,hv⟩:=heo
   exact⟨v,by rw[hbe];exact hv⟩
  ·refine(ok b u q).stay (fun c v hc r=>k c v ?_ r) (fun c r=>by rw[zi (nown c b r)];exact r) fun c xs r=>by rw[zi (ntup c xs r)];exact r
   rcases hc with rfl | hc
   ·exact hbe
   ·rintro rfl
    rcases he with z | z
    ·exact nown c b hc z
    ·rw[hc] at z;cases z;exact hb rfl
end
structure Un (fs ex:List Addr) (H H':Hp) (h h':Heap):Prop where
 keep:∀b o,h.get? b=some o→H b=none→b∉fs→b∉ex→h'.get? b=some o
 slot:∀b o,h.get? b=some o→H b=none→b∈fs→b∉ex→∃sl,h'.get? b=some { o with slots:=sl }
 free:∀b o,h.get? b=some o→H b=none→b∉ex→H' b=none
 there:∀b o,h.get? b=some o→b∉ex→∃o',h'.get? b=some o'
 tups:∀b xs,H b=some (.tup xs)→H' b=some (.tup xs)
 frzs:∀b o u,H b=some (.frz o u)→H' b=some (.frz o u)
 tbls:∀b ps,H b=some (.tbl ps)→∃more,H' b=some (.tbl (ps++more))
section
variable {fs fs' ex ex':List Addr}{H H1 H2:Hp}{h h1 h2 h':Heap}{a x e:Addr}{o:HO}
theorem Un.any(u:Un fs ex H H1 h h1){b:Addr}{ob:Obj}(q:h.get? b=some ob)(n:H b=none)(hx:b∉ex):∃sl,h1.get? b=some { ob with slots:=sl }:=by
 by_cases hb:b∈fs
 ·exact u.slot b ob q n hb hx
 ·exact⟨ob.slots,u.keep b ob q n hb hx⟩
theorem Un.trans(a:Un fs ex H H1 h h1)(b:Un fs ex H1 H2 h1 h2):Un fs ex H H2 h h2 where
 keep:=fun c ob q n hc hx=>b.keep c ob (a.keep c ob q n hc hx) (a.free c ob q n hx) hc hx
 slot:=fun c ob q n hc hx=>by
  obtain⟨sl,e1⟩:=a.slot c ob q n hc hx
  obtain⟨sl',e2⟩:=b.slot c _ e1 (a.free c ob q n hx) hc hx
  exact⟨sl',e2⟩
 free:=fun c ob q n hx=>by
  obtain⟨o',e1⟩:=a.there c ob q hx
  exact b.free c o' e1 (a.free c ob q n hx) hx
 there:=fun c ob q hx=>by
  obtain⟨o',e1⟩:=a.there c ob q hx
  exact b.there c o' e1 hx
 tups:=fun c xs q=>b.tups c xs (a.tups c xs q)
 frzs:=fun c ob xs q=>b.frzs c ob xs (a.frzs c ob xs q)
 tbls:=fun c ps q=>by
  obtain⟨m1,e1⟩:=a.tbls c ps q
  obtain⟨m2,e2⟩:=b.tbls c _ e1
  exact⟨m1++m2,by rw[e2,Array.append_assoc]⟩
theorem Un.kept(k:∀b u,h.get? b=some u→h'.get? b=some u):Un fs ex H H h h' :=
 ⟨fun b ob q _ _ _=>k b ob q,fun b ob q _ _ _=>⟨ob.slots,k b ob q⟩,fun _ _ _ n _=>n,fun b ob q _=>⟨ob,k b ob q⟩,fun _ _ q=>q,fun _ _ _ q=>q,fun _ ps q=>⟨#[],by rw[q];simp⟩⟩
theorem Un.refl:Un fs ex H H h h:=Un.kept fun _ _ q=>q
theorem Un.laid(k:∀b u,h.get? b=some u→h'.get? b=some u)(hp:h.objs.size≤a)(hn:H a=none):Un fs ex H (upd H a o) h h' where
 keep:=fun b u q _ _ _=>k b u q
 slot:=fun b u q _ _ _=>⟨u.slots,k b u q⟩
 free:=fun b u q n _=>by rw[zi (ne_of_lt (lt_of_lt_of_le (lt_size q) hp))];exact n
 there:=fun b u q _=>⟨u,k b u q⟩
 tups:=fun b xs q=>by rw[zi (zj q hn)];exact q
 frzs:=fun b u xs q=>by rw[zi (zj q hn)];exact q
 tbls:=fun b ps q=>⟨#[],by rw[zi (zj q hn),q];simp⟩
theorem Un.write(mu:Mut (H x))(he:e=x∨H e=some (.own x))(k:∀b u,b≠e→h.get? b=some u→h'.get? b=some u)(heo:∃u,h'.get? e=some u):Un fs ex H (upd H x o) h h':=by
 have hx:∀b,H b=none→b≠x:=fun b n z=>by subst z;rw[n] at mu;exact mu
 have hb:∀b,H b=none→b≠e:=fun b n z=>by
  subst z
  rcases he with r | r
  ·exact hx b n r
  ·rw[n] at r;cases r
 have hm:∀b u,H b=some u→¬Mut (some u)→b≠x:=fun b u q nm z=>by subst z;rw[q] at mu;exact nm mu
 refine⟨fun b u q n _ _=>k b u (hb b n) q,fun b u q n _ _=>⟨u.slots,k b u (hb b n) q⟩,fun b u q n _=>by rw[zi (hx b n)];exact n,fun b u q _=>?_,
  fun b xs q=>by rw[zi (hm b _ q fun z=>z)];exact q,fun b u xs q=>by rw[zi (hm b _ q fun z=>z)];exact q,fun b ps q=>⟨#[],by rw[zi (hm b _ q fun z=>z),q];simp⟩⟩
 by_cases hbe:b=e
 ·subst hbe;exact heo
 ·exact⟨u,k b u hbe q⟩
end
def trk(h:Heap)(H:Hp):List Addr:=(List.range h.objs.size).filter fun a=>(H a).isSome
def zhu(h:Heap)(H:Hp):Heap:=hideAll h (trk h H)
theorem hidT_size(h:Heap)(H:Hp):(zhu h H).objs.size=h.objs.size:=PySem.W.hideAll_size _ _
theorem hidT_get{h:Heap}{H:Hp}{b:Addr}{o:Obj}(e:h.get? b=some o)(n:H b=none):(zhu h H).get? b=some o :=
 hideAll_get _ e fun hm=>by
  have q:(H b).isSome=true:=(List.mem_filter.mp hm).2
  rw[n] at q;simp at q
theorem of_hidT{h:Heap}{H:Hp}{b:Addr}{o:Obj}(e:(zhu h H).get? b=some o):h.get? b=some o∧H b=none:=by
 have e':h.get? b=some o:=of_hideAll (trk h H) e
 refine⟨e',?_⟩
 cases q:H b with
 | none=>rfl
 | some x =>
   have hm:b∈trk h H:=List.mem_filter.mpr ⟨List.mem_range.mpr (lt_size e'),by simp[q]⟩
   have z:(zhu h H).get? b=none:=PySem.W.hideAll_none (trk h H) hm
   rw[z] at e;cases e
def allNews(g h:Heap)(L:Addr):List (Addr×Obj):=(List.range h.objs.size).filterMap fun a=>if a=L∨(g.get? a).isSome=true then none else(h.get? a).map fun o=>(a,o)
def zeA(g h:Heap)(L d:Addr):List (Addr×Obj):=(allNews g h L).filter fun p=>decide (p.1≠d)
structure Mod (K:Frag) (mg:Str→Option Value) (base:Heap):Prop where
 kin:K.In base
 glob:base.Ns mainGlobals mg
 blt:∃mb,base.Ns builtinsNs mb∧∀x:Str,x≠"__name__"→mb x=bootBuiltins x
 nolimit:base.NoLimit
/-- the context: a def's body (or a comprehension's block) running. base: fixed through the whole law;s₀,H₀: the entry;outer: the frames whose slots others may change (a def's callers);stack: all frames that run;
 ex: iterators that were made yl of the entry and are walked here (a comprehension's);fn: the names whose cells were made at the entry (a def: all;a comprehension's block: its own);calm: not within an except suite;pn: pins that every state bears;xe: what is wanted of an exception that leaves the code -/
structure Cx where
 prog:Program
 w:World
 K:Frag
 mg:Str→Option Value
 base:Heap
 A:Around
 N:List Str
 s₀:Shared
 H₀:Hp
 env:Env
 outer:List Env
 stack:List Env
 ex:List Addr
 fn:Str→Bool
 calm:Bool
 pn:List (Addr×Obj)
 xe:Value→Shared→Prop
def frs(l:List Env):List Addr:=l.filterMap (·.frame)
abbrev Cx.fs(X:Cx):List Addr:=frs X.outer
def Vis(sc:Scope)(x:Str):Prop:=sc.names.lookup x=some .local∨sc.names.lookup x=some .cell∨sc.names.lookup x=some .free
def Loc(sc:Scope)(x:Str):Prop:=sc.names.lookup x=some .local∨sc.names.lookup x=some .cell
def Look(env:Env)(h:Heap)(m:Str→Option Value)(x:Str)(u:Value):Prop :=
 (env.kindOf x=some .local∧m x=some u)∨((env.kindOf x=some .cell∨env.kindOf x=some .free)∧∃c,env.cells.lookup x=some c∧h.IsCell c (some u))
structure Cx.Ok (X:Cx):Prop where
 mod:Mod X.K X.mg X.base
 kind:X.env.scope.kind=.function
 glob:X.env.globals=mainGlobals
 blt:X.env.builtins=builtinsNs
 above:X.s₀.heap.objs.size≤X.env.locals
 inj:∀x y c,X.env.cells.lookup x=some c→X.env.cells.lookup y=some c→x=y
 has:∀x,(X.env.kindOf x=some .cell∨X.env.kindOf x=some .free)→∃c,X.env.cells.lookup x=some c
 cab:∀x c,X.fn x=true→X.env.cells.lookup x=some c→X.s₀.heap.objs.size≤c
 hd:X.calm=true→X.A.handled=none
 frames:X.A.frames=some X.stack
 stk:X.stack=X.outer∨(X.stack=X.env::X.outer∧X.env.frame=some X.env.locals)
 exf:∀b∈X.ex,b≠X.env.locals∧∀x c,X.env.cells.lookup x=some c→c≠b
 bs:∀b o,X.base.get? b=some o→X.s₀.heap.get? b=some o∧X.H₀ b=none
 bsz:X.base.objs.size≤X.s₀.heap.objs.size
 noex:∀b o,X.base.get? b=some o→b∉X.ex
 exfs:∀b∈X.ex,b∉X.fs
 funs:X.s₀.heap.FunFrames X.base X.outer
 frf:∀b∈X.fs,X.H₀ b=none
structure Inv (X:Cx) (pins:List (Addr×Obj)) (σ:List (Option V)) (H:Hp) (s:Shared):Prop where
 ok:X.Ok
 os:s.os=X.s₀.os
 bare:AllBare s.gens
 base:Un X.fs X.ex X.H₀ H X.s₀.heap s.heap
 loc:∃m,s.heap.Ns X.env.locals m∧∀(i:Nat)(x:Str)(v:V),X.N[i]? = some x→σ[i]? = some (some v)→Vis X.env.scope x→∃u,RelV v u∧Look X.env s.heap m x u
 cell:∀x c,X.env.cells.lookup x=some c→∃v,s.heap.IsCell c v
 free:H X.env.locals=none
 freeC:∀x c,X.env.cells.lookup x=some c→H c=none
 pin:∀p∈X.pn++pins,s.heap.get? p.1=some p.2∧H p.1=none∧p.1≠X.env.locals∧p.1∉X.fs∧∀v,p.2.data ≠ .cell v
 hok:HOk X.prog X.w H s.heap
 len:σ.length=X.N.length
section
variable {X:Cx}{pins:List (Addr×Obj)}{σ:List (Option V)}{H H':Hp}{s:Shared}{h':Heap}
theorem Cx.Ok.nofr(ok:X.Ok){b:Addr}{o:Obj}(e:X.base.get? b=some o):b∉X.fs:=fun hb=>by
 have:=(ok.funs.mem hb).1
 rw[e] at this;cases this
theorem Inv.bs(I:Inv X pins σ H s):∀b o,X.base.get? b=some o→s.heap.get? b=some o∧H b=none:=fun b o e =>
 ⟨I.base.keep b o (I.ok.bs b o e).1 (I.ok.bs b o e).2 (I.ok.nofr e) (I.ok.noex b o e),I.base.free b o (I.ok.bs b o e).1 (I.ok.bs b o e).2 (I.ok.noex b o e)⟩
theorem Inv.bk(I:Inv X pins σ H s):∀b o,X.base.get? b=some o→s.heap.get? b=some o:=fun b o e=>(I.bs b o e).1
theorem Inv.mod(I:Inv X pins σ H s):Mod X.K X.mg X.base:=I.ok.mod
theorem Inv.kIn(I:Inv X pins σ H s):X.K.In s.heap:=I.ok.mod.kin.keeps I.bk
theorem Inv.lt(I:Inv X pins σ H s):X.env.locals<s.heap.objs.size:=let ⟨_,hn,_⟩:=I.loc;hn.lt
theorem Inv.sz(I:Inv X pins σ H s):X.s₀.heap.objs.size≤s.heap.objs.size:=le_trans I.ok.above (le_of_lt I.lt)
theorem Inv.nofs(I:Inv X pins σ H s){a:Addr}(h:s.heap.objs.size≤a):a∉X.fs:=fun hb=>by
 obtain⟨_,o,ho,_⟩:=I.ok.funs.mem hb
 exact absurd (lt_of_lt_of_le (lt_size ho) (le_trans I.sz h)) (lt_irrefl _)
theorem Inv.cne(I:Inv X pins σ H s):∀x c,X.env.cells.lookup x=some c→c≠X.env.locals:=fun x c e z=>by
 obtain⟨v,o,ho,hd⟩:=I.cell x c e
 obtain⟨m,⟨o',es,ep,ho',hd',_⟩,_⟩:=I.loc
 rw[z,ho'] at ho;cases ho;rw[hd'] at hd;cases hd
theorem Inv.funs(I:Inv X pins σ H s):s.heap.FunFrames X.base X.outer:=by
 have all:∀(l:List Env),(∀b∈frs l,b∈X.fs)→X.s₀.heap.FunFrames X.base l→s.heap.FunFrames X.base l:=by
  intro l
  induction l with
  | nil=>intro _ _;trivial
  | cons env r ih =>
    intro hs hl
    obtain⟨hk,⟨L,o,hf,hn,ho,hd⟩,hr⟩:=hl
    have hL:L∈X.fs:=hs L (by unfold frs;rw[List.filterMap_cons,hf];exact mem_cons_self)
    obtain⟨sl,e⟩:=I.base.slot L o ho (I.ok.frf L hL) hL fun z=>I.ok.exfs L z hL
    exact⟨hk,⟨L,_,hf,hn,e,hd⟩,ih (fun b hb=>hs b (by unfold frs;rw[List.filterMap_cons,hf];exact mem_cons_of_mem _ hb)) hr⟩
 exact all X.outer (fun _ hb=>hb) I.ok.funs
theorem Inv.stack(I:Inv X pins σ H s):s.heap.FunFrames X.base X.stack:=by
 rcases I.ok.stk with e | ⟨e,hf⟩
 ·rw[e];exact I.funs
 ·rw[e]
  obtain⟨m,hn,_⟩:=I.loc
  refine .cons (by rw[I.ok.kind];decide) hf hn ?_ I.funs
  exact Heap.get?_none_of_le (le_trans I.ok.bsz I.ok.above)
theorem Inv.stkSub(I:Inv X pins σ H s):∀b∈frs X.stack,b∈X.env.locals::X.fs:=fun b hb=>by
 rcases I.ok.stk with e | ⟨e,hf⟩
 ·rw[e] at hb;exact mem_cons_of_mem _ hb
 ·rw[e] at hb
  unfold frs at hb
  rw[List.filterMap_cons,hf] at hb
  exact hb
theorem Inv.stkFree(I:Inv X pins σ H s):∀b∈frs X.stack,H b=none:=fun b hb=>by
 rcases List.mem_cons.mp (I.stkSub b hb)with e | hb
 ·rw[e];exact I.free
 ·obtain⟨_,o,ho,_⟩:=I.ok.funs.mem hb
  exact I.base.free b o ho (I.ok.frf b hb) fun z=>I.ok.exfs b z hb
theorem Inv.step{g':Array GenState}{t':Nat}{d':Drawn}{ch:List Addr}(I:Inv X pins σ H s)
 (hch:∀b∈ch,(b∈X.ex∨X.s₀.heap.objs.size≤b)∧b≠X.env.locals∧(∀x c,X.env.cells.lookup x=some c→c≠b)∧∀p∈X.pn++pins,p.1≠b)
 (keep:∀b o,b≠X.env.locals→b∉X.fs→b∉ch→s.heap.get? b=some o→H b=none→h'.get? b=some o)
 (slot:∀b o,b≠X.env.locals→b∈X.fs→b∉ch→s.heap.get? b=some o→H b=none→∃sl,h'.get? b=some { o with slots:=sl }) (free:∀b o,b∉ch→s.heap.get? b=some o→H b=none→H' b=none)
 (there:∀b o,b∉ch→s.heap.get? b=some o→∃o',h'.get? b=some o')
 (tups:∀b xs,H b=some (.tup xs)→H' b=some (.tup xs)) (frzs:∀b o u,H b=some (.frz o u)→H' b=some (.frz o u)) (tbls:∀b ps,H b=some (.tbl ps)→∃more,H' b=some (.tbl (ps++more)))
 (ns:∀m,s.heap.Ns X.env.locals m→h'.Ns X.env.locals m) (hok:HOk X.prog X.w H' h') (hg:AllBare g') :
 Inv X pins σ H' { s with heap:=h',gens:=g',drawn:=d',toks:=t' }:=by
 have neL:∀b o,X.s₀.heap.get? b=some o→b≠X.env.locals:=fun b o e=>ne_of_lt (lt_of_lt_of_le (lt_size e) I.ok.above)
 have neC:∀b o,X.s₀.heap.get? b=some o→b∉X.ex→b∉ch:=fun b o e hx hb=>by
  rcases (hch b hb).1 with z | z
  ·exact hx z
  ·exact absurd (lt_of_lt_of_le (lt_size e) z) (lt_irrefl _)
 have cellK:∀x c,X.env.cells.lookup x=some c→∀v,s.heap.IsCell c v→h'.IsCell c v:=fun x c e v ⟨o,ho,hd⟩=>by
  have nch:c∉ch:=fun z=>(hch c z).2.2.1 x c e rfl
  by_cases hc:c∈X.fs
  ·obtain⟨sl,q⟩:=slot c o (I.cne x c e) hc nch ho (I.freeC x c e)
   exact⟨_,q,hd⟩
  ·exact⟨o,keep c o (I.cne x c e) hc nch ho (I.freeC x c e),hd⟩
 refine⟨I.ok,I.os,hg,⟨fun b o e n hb hx=>?_,fun b o e n hb hx=>?_,fun b o e n hx=>?_,fun b o e hx=>?_,fun b xs e=>tups b xs (I.base.tups b xs e),fun b o xs e=>frzs b o xs (I.base.frzs b o xs e),fun b ps e=>?_⟩,?_,fun x c e=>?_,?_,fun x c e=>?_,fun p hp=>?_,hok,I.len⟩
 ·exact keep b o (neL b o e) hb (neC b o e hx) (I.base.keep b o e n hb hx) (I.base.free b o e n hx)
 ·obtain⟨sl,e1⟩:=I.base.slot b o e n hb hx
  obtain⟨sl',e2⟩:=slot b _ (neL b o e) hb (neC b o e hx) e1 (I.base.free b o e n hx)
  exact⟨sl',e2⟩
 ·obtain⟨o',e1⟩:=I.base.there b o e hx
  exact free b o' (neC b o e hx) e1 (I.base.free b o e n hx)
 ·obtain⟨o',e1⟩:=I.base.there b o e hx
  exact there b o' (neC b o e hx) e1
 ·obtain⟨m1,e1⟩:=I.base.tbls b ps e
  obtain⟨m2,e2⟩:=tbls b _ e1
  exact⟨m1++m2,by rw[e2,Array.append_assoc]⟩
 ·obtain⟨m,hn,hl⟩:=I.loc
  refine⟨m,ns m hn,fun i x v e1 e2 e3=>?_⟩
  obtain⟨u,r,l⟩:=hl i x v e1 e2 e3
  refine⟨u,r,?_⟩
  rcases l with l | ⟨k,c,e,z⟩
  ·exact .inl l
  ·exact .inr ⟨k,c,e,cellK x c e _ z⟩
 ·obtain⟨v,z⟩:=I.cell x c e
  exact⟨v,cellK x c e v z⟩
 ·obtain⟨m,⟨o,_,_,ho,_⟩,_⟩:=I.loc
  exact free _ o (fun z=>(hch _ z).2.1 rfl) ho I.free
 ·obtain⟨v,o,ho,hd⟩:=I.cell x c e
  exact free c o (fun z=>(hch c z).2.2.1 x c e rfl) ho (I.freeC x c e)
 ·obtain⟨e,n,ne,nf,d⟩:=I.pin p hp
  have nch:p.1∉ch:=fun z=>(hch p.1 z).2.2.2 p hp rfl
  exact⟨keep p.1 p.2 ne nf nch e n,free p.1 p.2 nch e n,ne,nf,d⟩
theorem Inv.un{t':Nat}(I:Inv X pins σ H s)(u:Un X.fs [] H H' s.heap h')(hok:HOk X.prog X.w H' h'):Inv X pins σ H' { s with heap:=h',toks:=t' }:=by
 obtain⟨m,⟨o,es,ep,ho,r⟩,_⟩:=id I.loc
 obtain⟨sl,hL⟩:=u.any ho I.free (by simp)
 exact I.step (g':=s.gens) (d':=s.drawn) (ch:=[]) (fun _ z=>nomatch z) (fun b o _ hb _ e n=>u.keep b o e n hb (by simp)) (fun b o _ hb _ e n=>u.slot b o e n hb (by simp)) (fun b o _ e n=>u.free b o e n (by simp)) (fun b o _ e=>u.there b o e (by simp)) u.tups u.frzs u.tbls (fun m' hm=>by
  obtain⟨o',es',ep',ho',r'⟩:=hm
  rw[ho] at ho';cases ho'
  exact⟨_,es',ep',hL,r'⟩) hok I.bare
theorem Inv.call{g':Array GenState}{t':Nat}{d':Drawn}{ch:List Addr}(I:Inv X pins σ H s)(u:Un (frs X.stack) ch H H' s.heap h')(hok:HOk X.prog X.w H' h')(hg:AllBare g')
 (hch:∀b∈ch,(b∈X.ex∨X.s₀.heap.objs.size≤b)∧b≠X.env.locals∧(∀x c,X.env.cells.lookup x=some c→c≠b)∧∀p∈X.pn++pins,p.1≠b) :
 Inv X pins σ H' { s with heap:=h',gens:=g',drawn:=d',toks:=t' }:=by
 obtain⟨m,⟨o,es,ep,ho,r⟩,_⟩:=id I.loc
 obtain⟨sl,hL⟩:=u.any ho I.free fun z=>(hch _ z).2.1 rfl
 exact I.step (ch:=ch) hch (fun b o hL hb hc e n=>u.keep b o e n (fun z=>(List.mem_cons.mp (I.stkSub b z)).elim hL hb) hc) (fun b o _ _ hc e n=>u.any e n hc) (fun b o hc e n=>u.free b o e n hc) (fun b o hc e=>u.there b o e hc) u.tups u.frzs u.tbls (fun m' hm=>by
  obtain⟨o',es',ep',ho',r'⟩:=hm
  rw[ho] at ho';cases ho'
  exact⟨_,es',ep',hL,r'⟩) hok hg
theorem Inv.turned{t':Nat}{it:Addr}(I:Inv X pins σ H s)(k:∀b o,b≠it→s.heap.get? b=some o→h'.get? b=some o)(hn:H it=none)(hL:it≠X.env.locals)
 (h1:it∈X.ex∨X.s₀.heap.objs.size≤it) (h2:∀x c,X.env.cells.lookup x=some c→c≠it) (h3:∀p∈X.pn++pins,p.1≠it):Inv X pins σ H { s with heap:=h',toks:=t' }:=by
 have nit:∀b u,H b=some u→b≠it:=fun b u e z=>by rw[z,hn] at e;cases e
 refine I.step (g':=s.gens) (d':=s.drawn) (ch:=[it]) (fun b hb=>?_) (fun b o _ _ hc e _=>k b o (fun z=>hc (by simp[z])) e) (fun b o _ _ hc e _=>⟨o.slots,k b o (fun z=>hc (by simp[z])) e⟩) (fun _ _ _ _ n=>n)
  (fun b o hc e=>⟨o,k b o (fun z=>hc (by simp[z])) e⟩) (fun _ _ e=>e) (fun _ _ _ e=>e) (fun b ps e=>⟨#[],by rw[e];simp⟩) (fun m hm=>?_) (fun b u e=>?_) I.bare
 ·have e:b=it:=by simpa using hb
  subst e
  exact⟨h1,hL,h2,h3⟩
 ·obtain⟨o,es,ep,ho,r⟩:=hm
  exact⟨o,es,ep,k _ o (Ne.symm hL) ho,r⟩
 ·refine(I.hok b u e).stay (fun c v hc q=>k c v ?_ q) (fun _ q=>q) fun _ _ q=>q
  rcases hc with z | z
  ·rw[z];exact nit b u e
  ·exact nit c _ z
theorem Inv.tok(I:Inv X pins σ H s)(t:Nat):Inv X pins σ H { s with toks:=t }:=I.un (h':=s.heap) (t':=t) Un.refl I.hok
theorem Inv.kept{t':Nat}(I:Inv X pins σ H s)(k:∀b u,s.heap.get? b=some u→h'.get? b=some u):Inv X pins σ H { s with heap:=h',toks:=t' }:=I.un (Un.kept k) (I.hok.kept k)
theorem Inv.laid{a:Addr}{o:HO}{t':Nat}(I:Inv X pins σ H s)(k:∀b u,s.heap.get? b=some u→h'.get? b=some u)(hp:s.heap.objs.size≤a)(new:ObjOk X.prog X.w (upd H a o) h' a o):
 Inv X pins σ (upd H a o) { s with heap:=h',toks:=t' }:=I.un (Un.laid k hp (I.hok.fresh hp)) (I.hok.laid k hp new)
theorem Inv.write{x e:Addr}{o:HO}{t':Nat}(I:Inv X pins σ H s)(mu:Mut (H x))(he:e=x∨H e=some (.own x))(k:∀b u,b≠e→s.heap.get? b=some u→h'.get? b=some u)(heo:∃u,h'.get? e=some u)
 (new:ObjOk X.prog X.w (upd H x o) h' x o):Inv X pins σ (upd H x o) { s with heap:=h',toks:=t' }:=I.un (Un.write mu he k heo) (I.hok.write mu he k heo new)
theorem Inv.pins_of{pins':List (Addr×Obj)}(I:Inv X pins σ H s)(h:∀p∈pins',s.heap.get? p.1=some p.2∧H p.1=none∧p.1≠X.env.locals∧p.1∉X.fs∧∀v,p.2.data ≠ .cell v):Inv X pins' σ H s :=
 ⟨I.ok,I.os,I.bare,I.base,I.loc,I.cell,I.free,I.freeC,fun p hp=>(List.mem_append.mp hp).elim (fun z=>I.pin p (mem_append_left _ z)) (h p),I.hok,I.len⟩
theorem zj5{N:List Str}(hN:N.Nodup){i j:Nat}{x:Str}(a:N[i]? = some x)(b:N[j]? = some x):i=j:=by
 obtain⟨h1,e1⟩:=List.getElem?_eq_some_iff.mp a
 obtain⟨h2,e2⟩:=List.getElem?_eq_some_iff.mp b
 exact(List.getElem_inj hN).mp (e1.trans e2.symm)
theorem zfA{M:Model}{A:Around}{E:Value→Shared→Prop}{i:Nat}{x:Str}{v:V}{u:Value}{Q:Unit→Shared→Prop}(I:Inv X pins σ H s)(hN:X.N.Nodup)(hi:X.N[i]? = some x)(hx:Loc X.env.scope x)(r:RelV v u)
 (h:∀s',Inv X pins (σ.set i (some v)) H s'→(∃a,SameBut a s.heap s'.heap∧(a=X.env.locals∨X.env.cells.lookup x=some a))→Q () s') (hf:X.fn x=true∨X.env.scope.names.lookup x=some .local:=by first | exact .inl rfl | exact .inr rfl | assumption):wpAny M A (storeName X.env x u) Q E s:=by
 obtain⟨m,hn,hl⟩:=id I.loc
 have hcls:(X.env.scope.kind == .class || (X.env.scope.kind == .module && X.env.locals != X.env.globals))=false:=by rw[I.ok.kind];rfl
 have hiσ:i<σ.length:=by rw[I.len];exact(List.getElem?_eq_some_iff.mp hi).1
 have cne:=I.cne
 have tracked:∀{a:Addr}{h':Heap},(∃o,s.heap.get? a=some o∧H a=none)→SameBut a s.heap h'→HOk X.prog X.w H h':=fun {a h'} ha hs b ob e=>by
  obtain⟨_,_,hfree⟩:=ha
  refine(I.hok b ob e).stay (fun c w' hc q=>(hs.2 c ?_).trans q) (fun _ q=>q) fun _ _ q=>q
  rintro rfl
  rcases hc with rfl | hc
  ·rw[hfree] at e;cases e
  ·rw[hfree] at hc;cases hc
 rcases hx with hk | hk
 ·refine wpAny_storeName_local hk hn (fun h' hn' hs=>?_) hcls
  obtain⟨oL,_,_,hoL,_⟩:=id hn
  refine h _ ⟨I.ok,I.os,I.bare,⟨fun b o e n hb hx=>?_,fun b o e n hb hx=>?_,I.base.free,fun b o e hx=>?_,I.base.tups,I.base.frzs,I.base.tbls⟩,⟨_,hn',fun j y v' e1 e2 e3=>?_⟩,fun y c e=>?_,I.free,I.freeC,fun p hp=>?_,tracked ⟨oL,hoL,I.free⟩ hs,by simpa using I.len⟩ ⟨_,hs,.inl rfl⟩
  ·exact(hs.2 b (ne_of_lt (lt_of_lt_of_le (lt_size e) I.ok.above))).trans (I.base.keep b o e n hb hx)
  ·obtain⟨sl,e1⟩:=I.base.slot b o e n hb hx
   exact⟨sl,(hs.2 b (ne_of_lt (lt_of_lt_of_le (lt_size e) I.ok.above))).trans e1⟩
  ·obtain⟨o',e1⟩:=I.base.there b o e hx
   exact⟨o',(hs.2 b (ne_of_lt (lt_of_lt_of_le (lt_size e) I.ok.above))).trans e1⟩
  ·by_cases hj:j=i
   ·subst hj
    rw[hi] at e1;cases e1
    rw[List.getElem?_set_self hiσ] at e2
    cases e2
    exact⟨u,r,.inl ⟨hk,by simp⟩⟩
   ·rw[List.getElem?_set_ne (Ne.symm hj)] at e2
    obtain⟨u',r',q⟩:=hl j y v' e1 e2 e3
    refine⟨u',r',?_⟩
    rcases q with⟨k,e⟩|⟨k,c,e,z⟩
    ·refine .inl ⟨k,?_⟩
     have:y≠x:=fun e=>hj (zj5 hN e1 (e ▸ hi))
     simp[this,e]
    ·exact .inr ⟨k,c,e,z.sameBut hs (cne y c e)⟩
  ·obtain⟨w',z⟩:=I.cell y c e
   exact⟨w',z.sameBut hs (cne y c e)⟩
  ·obtain⟨e,n,ne,nf,d⟩:=I.pin p hp
   exact⟨(hs.2 p.1 ne).trans e,n,ne,nf,d⟩
 ·have hfn:X.fn x=true:=by
   rcases hf with z | z
   ·exact z
   ·rw[z] at hk;cases hk
  obtain⟨c,hc⟩:=I.ok.has x (.inl hk)
  obtain⟨w',z⟩:=I.cell x c hc
  refine wpAny_storeName_cell I.ok.kind hk hc z (fun h' hc' hs=>?_)
  obtain⟨oc,hoc,hocd⟩:=id z
  refine h { s with heap:=h' } ⟨I.ok,I.os,I.bare,⟨fun b o e n hb hx=>?_,fun b o e n hb hx=>?_,I.base.free,fun b o e hx=>?_,I.base.tups,I.base.frzs,I.base.tbls⟩,⟨m,hn.sameBut hs (Ne.symm (cne x c hc)),fun j y v' e1 e2 e3=>?_⟩,fun y c' e=>?_,I.free,I.freeC,fun p hp=>?_,tracked ⟨oc,hoc,I.freeC x c hc⟩ hs,by simpa using I.len⟩ ⟨c,hs,.inr hc⟩
  ·exact(hs.2 b (ne_of_lt (lt_of_lt_of_le (lt_size e) (I.ok.cab x c hfn hc)))).trans (I.base.keep b o e n hb hx)
  ·obtain⟨sl,e1⟩:=I.base.slot b o e n hb hx
   exact⟨sl,(hs.2 b (ne_of_lt (lt_of_lt_of_le (lt_size e) (I.ok.cab x c hfn hc)))).trans e1⟩
  ·obtain⟨o',e1⟩:=I.base.there b o e hx
   exact⟨o',(hs.2 b (ne_of_lt (lt_of_lt_of_le (lt_size e) (I.ok.cab x c hfn hc)))).trans e1⟩
  ·by_cases hj:j=i
   ·subst hj
    rw[hi] at e1;cases e1
    rw[List.getElem?_set_self hiσ] at e2
    cases e2
    exact⟨u,r,.inr ⟨.inl hk,c,hc,hc'⟩⟩
   ·rw[List.getElem?_set_ne (Ne.symm hj)] at e2
    obtain⟨u',r',q⟩:=hl j y v' e1 e2 e3
    refine⟨u',r',?_⟩
    rcases q with q | ⟨k,c',e,z'⟩
    ·exact .inl q
    ·refine .inr ⟨k,c',e,z'.sameBut hs ?_⟩
     rintro rfl
     exact hj (zj5 hN e1 (I.ok.inj _ _ _ e hc ▸ hi))
  ·by_cases hcc:c'=c
   ·subst hcc;exact⟨_,hc'⟩
   ·obtain⟨w2,z2⟩:=I.cell y c' e
    exact⟨w2,z2.sameBut hs hcc⟩
  ·obtain⟨e,n,ne,nf,d⟩:=I.pin p hp
   refine⟨(hs.2 p.1 ?_).trans e,n,ne,nf,d⟩
   intro q
   rw[q,hoc] at e
   have q':oc=p.2:=Option.some.inj e
   exact d w' (by rw[←q'];exact hocd)
theorem zjt{M:Model}{A:Around}{E:Value→Shared→Prop}{i:Nat}{x:Str}{v:V}{u:Value}{Q:Unit→Shared→Prop}(I:Inv X pins σ H s)(hN:X.N.Nodup)(hi:X.N[i]? = some x)(hx:Loc X.env.scope x)(r:RelV v u)
 (h:∀s',Inv X pins (σ.set i (some v)) H s'→Q () s') (hf:X.fn x=true∨X.env.scope.names.lookup x=some .local:=by first | exact .inl rfl | exact .inr rfl | assumption):wpAny M A (storeName X.env x u) Q E s :=
 zfA I hN hi hx r (fun s' I' _=>h s' I') hf
theorem Inv.call'{s':Shared}{ch:List Addr}(I:Inv X pins σ H s)(ho:s'.os=s.os)(u:Un (frs X.stack) ch H H' s.heap s'.heap)(hok:HOk X.prog X.w H' s'.heap)(hg:AllBare s'.gens)
 (hch:∀b∈ch,(b∈X.ex∨X.s₀.heap.objs.size≤b)∧b≠X.env.locals∧(∀x c,X.env.cells.lookup x=some c→c≠b)∧∀p∈X.pn++pins,p.1≠b):Inv X pins σ H' s':=by
 obtain⟨h',g',d',t',o'⟩:=s'
 have e:o'=s.os:=ho
 subst e
 exact I.call (g':=g') (t':=t') (d':=d') u hok hg hch
end
abbrev XK:=Value→Option Addr→Hp→Prop
abbrev St:=List (Option V)
abbrev VK:=V→Hp→Prop
abbrev TE:=St→Hp→VK→Prop
abbrev TT:=St→Hp→(Bool→Hp→Prop)→Prop
abbrev TA:=St→Hp→(List V→Hp→Prop)→Prop
structure Ends where
 nx:St→Hp→Prop
 rt:VK
 bk:St→Hp→Prop:=fun _ _=>False
 ct:St→Hp→Prop:=fun _ _=>False
abbrev TS:=Ends→St→Hp→Prop
def EP(X:Cx)(pins:List (Addr×Obj))(σ:St)(Q:VK)(u:Value)(s':Shared):Prop:=∃v H',Inv X pins σ H' s'∧RelV v u∧Q v H'
def TP(X:Cx)(pins:List (Addr×Obj))(σ:St)(Q:Bool→Hp→Prop)(b:Bool)(s':Shared):Prop:=∃H',Inv X pins σ H' s'∧Q b H'
def AP(X:Cx)(pins:List (Addr×Obj))(σ:St)(Q:List V→Hp→Prop)(us:List Value)(s':Shared):Prop:=∃vs H',Inv X pins σ H' s'∧Vals vs us∧Q vs H'
def SP(X:Cx)(pins:List (Addr×Obj))(D:Ends)(f:Flow)(s':Shared):Prop :=
 match f with
 | .next=>∃σ' H',Inv X pins σ' H' s'∧D.nx σ' H'
 | .brk=>∃σ' H',Inv X pins σ' H' s'∧D.bk σ' H'
 | .cont=>∃σ' H',Inv X pins σ' H' s'∧D.ct σ' H'
 | .ret u=>∃v σ' H',Inv X pins σ' H' s'∧RelV v u∧D.rt v H'
def PE(X:Cx)(e:Expr)(t:TE):Prop :=
 ∀(pins:List (Addr×Obj)) (s:Shared) (σ:St) (H:Hp) (Q:VK),Inv X pins σ H s→t σ H Q→wpAny (model X.prog X.w) X.A (eval e X.env) (EP X pins σ Q) X.xe s
def PT(X:Cx)(e:Expr)(t:TT):Prop :=
 ∀(pins:List (Addr×Obj)) (s:Shared) (σ:St) (H:Hp) (Q:Bool→Hp→Prop),Inv X pins σ H s→t σ H Q→wpAny (model X.prog X.w) X.A (isTrue e X.env (eval e X.env)) (TP X pins σ Q) X.xe s
def PW(X:Cx)(e:Expr)(t:TT):Prop :=
 ∀(whole:Sem Value)(pins:List (Addr×Obj)) (s:Shared) (σ:St) (H:Hp) (Q:Bool→Hp→Prop),Inv X pins σ H s→t σ H Q→wpAny (model X.prog X.w) X.A (isTrue e X.env whole) (TP X pins σ Q) X.xe s
theorem PW.pt{X:Cx}{e:Expr}{t:TT}(h:PW X e t):PT X e t:=h _
def PA(X:Cx)(es:List Expr)(t:TA):Prop :=
 ∀(pos:Pos)(pins:List (Addr×Obj)) (s:Shared) (σ:St) (H:Hp) (Q:List V→Hp→Prop),Inv X pins σ H s→t σ H Q→wpAny (model X.prog X.w) X.A (spliced (backTo pos (starEach es X.env))) (AP X pins σ Q) X.xe s
def PS(X:Cx)(st:Stmt)(t:TS):Prop :=
 ∀(pins:List (Addr×Obj)) (s:Shared) (σ:St) (H:Hp) (D:Ends),Inv X pins σ H s→t D σ H→wpAny (model X.prog X.w) X.A (exec st X.env) (SP X pins D) X.xe s
def PSs(X:Cx)(st:List Stmt)(t:TS):Prop :=
 ∀(pins:List (Addr×Obj)) (s:Shared) (σ:St) (H:Hp) (D:Ends),Inv X pins σ H s→t D σ H→wpAny (model X.prog X.w) X.A (execs st X.env) (SP X pins D) X.xe s
theorem thn{α:Type}{t:Sem α}{Q Q':α→Shared→Prop}{M:Model}{A:Around}{E:Value→Shared→Prop}{s:Shared}(h:wpAny M A t Q E s)(hQ:∀a s,Q a s→Q' a s):wpAny M A t Q' E s:=wpAny_mono h hQ fun _ _ x=>x
section
variable {X:Cx}
theorem bin{a b:Expr}{ta tb:TE}(ha:PE X a ta)(hb:PE X b tb){pins:List (Addr×Obj)}{s:Shared}{σ:St}{H:Hp}{R:V→V→Hp→Prop}(I:Inv X pins σ H s)(h:ta σ H fun x H1=>tb σ H1 fun y H2=>R x y H2)
 {α:Type} {Q:α→Shared→Prop} {f:Value→Value→Sem α}
 (hf:∀v u s2 x y H2,Inv X pins σ H2 s2→RelV x v→RelV y u→R x y H2→wpAny (model X.prog X.w) X.A (f v u) Q X.xe s2) :
 wpAny (model X.prog X.w) X.A (eval a X.env) (fun v s₁=>wpAny (model X.prog X.w) X.A (eval b X.env) (fun u s₂=>wpAny (model X.prog X.w) X.A (f v u) Q X.xe s₂) X.xe s₁) X.xe s:=by
 refine thn (ha pins s σ H _ I h) fun v s1 ⟨x,H1,I1,r1,q1⟩=>?_
 refine thn (hb pins s1 σ H1 _ I1 q1) fun u s2 ⟨y,H2,I2,r2,q2⟩=>?_
 exact hf v u s2 x y H2 I2 r1 r2 q2
inductive ITVar (i:Nat) (σ:St) (H:Hp) (Q:VK):Prop
 | mk (v:_):σ[i]? = some (some v)→Q v H→ITVar i σ H Q
def tVar(i:Nat):TE:=fun σ H Q=>ITVar i σ H Q
def tC(v:V):TE:=fun _ H Q=>Q v H
theorem pe_var{i:Nat}{x:Str}{pos:Pos}(hN:X.N[i]? = some x)(hv:Vis X.env.scope x)(hd:(x==("__debug__":Str))=false:=by decide)(hcd:(x==("__classdict__":Str))=false:=by decide):PE X (.Name x pos) (tVar i):=by
 intro pins s σ H Q I h
 obtain⟨v,e,h⟩:=h
 obtain⟨m,hn,hl⟩:=I.loc
 obtain⟨u,r,l⟩:=hl i x v hN e hv
 have fin:EP X pins σ Q u s:=⟨v,H,I,r,h⟩
 rcases l with⟨hk,hm⟩|⟨hk,c,hc,hcell⟩
 ·exact wpAny_Name (wpAny_loadName_local I.ok.kind hk hn hm fin) hd
 ·rcases hk with hk | hk
  ·exact wpAny_Name (wpAny_loadName_cell I.ok.kind hk hc hcell fin) hd
  ·exact wpAny_Name (wpAny_loadName_free I.ok.kind hk hc hcell fin hcd) hd
theorem zh{i j pos}:PE X (.Constant (.int i) j pos) (tC (.int i)):=fun _ _ _ H _ I h=>wpAny_Constant_int ⟨.int i,H,I.tok _,⟨_,rfl⟩,h⟩
theorem yj{b j pos}:PE X (.Constant (.bool b) j pos) (tC (.bl b)):=fun _ _ _ H _ I h=>Constant_bool ⟨.bl b,H,I,rfl,h⟩
theorem zfm{j pos}:PE X (.Constant .none j pos) (tC .non):=fun _ _ _ H _ I h=>Constant_none ⟨.non,H,I,rfl,h⟩
theorem yf{x j pos}:PE X (.Constant (.str x) j pos) (tC (.str x)):=fun _ _ _ H _ I h=>Calls.Constant_str ⟨.str x,H,I.tok _,⟨_,rfl⟩,h⟩
def Gl(X:Cx)(x:Str):Prop:=X.env.kindOf x=some .globalImplicit
theorem zeP{E:Value→Shared→Prop}{pins:List (Addr×Obj)}{s:Shared}{σ:St}{H:Hp}{x:Str}{u:Value}{pos:Pos}{Q:Value→Shared→Prop}(I:Inv X pins σ H s)(hg:Gl X x)(hm:X.mg x=some u)(h:Q u s)
 (hd:(x==("__debug__":Str))=false:=by decide):wpAny (model X.prog X.w) X.A (eval (.Name x pos) X.env) Q E s :=
 Calls.Name_function_global I.ok.kind hg (Calls.loadGlobal_global (by rw[I.ok.glob];exact I.mod.glob.keeps I.bk) hm h) hd
theorem zcH{E:Value→Shared→Prop}{pins:List (Addr×Obj)}{s:Shared}{σ:St}{H:Hp}{x:Str}{u:Value}{pos:Pos}{Q:Value→Shared→Prop}(I:Inv X pins σ H s)(hg:Gl X x)(hm:X.mg x=none)(hv:bootBuiltins x=some u)(h:Q u s)
 (hn:x≠"__name__":=by decide) (hd:(x==("__debug__":Str))=false:=by decide):wpAny (model X.prog X.w) X.A (eval (.Name x pos) X.env) Q E s:=by
 obtain⟨mb,h1,h2⟩:=I.mod.blt
 exact Calls.Name_function_global I.ok.kind hg (Calls.loadGlobal_builtin (by rw[I.ok.glob];exact I.mod.glob.keeps I.bk) hm (by rw[I.ok.blt];exact h1.keeps I.bk) ((h2 x hn).trans hv) h) hd
theorem pe_glob{x:Str}{v:V}{u:Value}{pos:Pos}(hg:Gl X x)(hm:X.mg x=some u)(r:RelV v u)(hd:(x==("__debug__":Str))=false:=by decide):PE X (.Name x pos) (tC v) :=
 fun _ _ _ H _ I h=>zeP I hg hm ⟨v,H,I,r,h⟩ hd
theorem wx{x:Str}{v:V}{u:Value}{pos:Pos}(hg:Gl X x)(hm:X.mg x=none)(hv:bootBuiltins x=some u)(r:RelV v u)(hn:x≠"__name__":=by decide)(hd:(x==("__debug__":Str))=false:=by decide):PE X (.Name x pos) (tC v) :=
 fun _ _ _ H _ I h=>zcH I hg hm hv ⟨v,H,I,r,h⟩ hn hd
variable {a b:Expr}{ta tb:TE}{pos:Pos}
def PC(X:Cx)(op:CmpOp)(a b:Expr)(t:TE):Prop :=
 ∀(pins:List (Addr×Obj)) (s:Shared) (σ:St) (H:Hp) (Q:VK),Inv X pins σ H s→t σ H Q →
  wpAny (model X.prog X.w) X.A (eval a X.env) (fun v s₁=>wpAny (model X.prog X.w) X.A (eval b X.env) (fun u s₂=>wpAny (model X.prog X.w) X.A (compareOp op v u) (EP X pins σ Q) X.xe s₂) X.xe s₁) X.xe s
inductive ITB (x:V) (H1:Hp) (Q:Bool→Hp→Prop):Prop
 | mk (c:_):x=.bl c→Q c H1→ITB x H1 Q
def tB(t:TE):TT:=fun σ H Q=>t σ H fun x H1=>ITB x H1 Q
theorem pt_cmp{op:CmpOp}{t:TE}(h:PC X op a b t)(h1:behindInMarks op b=false:=by first | exact nobehind _ (by decide) (by decide) | rfl):PT X (.Compare a [op] [b] pos) (tB t):=by
 intro pins s σ H Q I hw
 refine wpAny_isTrue_Compare1 (thn (h pins s σ H _ I hw) fun v s1 h1=>thn h1 fun u s2 h2=>thn h2 fun c s3 ⟨x,H1,I1,r1,q1⟩=>?_) h1
 obtain⟨d,rfl,q⟩:=q1
 cases r1
 exact wpAny_truthy_bool ⟨H1,I1,q⟩
theorem zK{e:Expr}{t:TE}(h:PE X e t)(he:∀whole,isTrue e X.env whole=(do let v ←whole;standAt e.pos;holding [v] (truthy v)):=by intro _;rfl):PT X e (tB t):=by
 intro pins s σ H Q I hw
 refine isTrue_plain (thn (h pins s σ H _ I hw) fun v s1 ⟨x,H1,I1,r1,q1⟩=>?_) (he _)
 obtain⟨d,rfl,q⟩:=q1
 cases r1
 exact wpAny_truthy_bool ⟨H1,I1,q⟩
variable {tA tB':TT}{zeA:List Expr}
def tAnd(t u:TT):TT:=fun σ H Q=>t σ H fun c H1=>if c=true then u σ H1 Q else Q false H1
def tOr(t u:TT):TT:=fun σ H Q=>t σ H fun c H1=>if c=true then Q true H1 else u σ H1 Q
def tNot(t:TT):TT:=fun σ H Q=>t σ H fun c H1=>Q (!c) H1
theorem zgj(ha:PT X a tA):PW X (.BoolOp .And [a] pos) tA:=by
 intro wh pins s σ H Q I h
 refine isTrue_and (thn (ha pins s σ H Q I h) fun c s1 e=>?_)
 cases c with
 | true=>exact isTrue_and_nil e
 | false=>exact e
theorem wj(ha:PT X a tA):PW X (.BoolOp .Or [a] pos) tA:=by
 intro wh pins s σ H Q I h
 refine isTrue_or (thn (ha pins s σ H Q I h) fun c s1 e=>?_)
 cases c with
 | false=>exact isTrue_or_nil e
 | true=>exact e
theorem ziB(ha:PT X a tA)(hb:PW X (.BoolOp .And (b::zeA) pos) tB'):PW X (.BoolOp .And (a::b::zeA) pos) (tAnd tA tB'):=by
 intro wh pins s σ H Q I h
 refine isTrue_and (thn (ha pins s σ H _ I h) fun c s1 ⟨H1,I1,q1⟩=>?_)
 cases c with
 | true=>exact hb wh pins s1 σ H1 Q I1 q1
 | false=>exact⟨H1,I1,q1⟩
theorem wU(ha:PT X a tA)(hb:PW X (.BoolOp .Or (b::zeA) pos) tB'):PW X (.BoolOp .Or (a::b::zeA) pos) (tOr tA tB'):=by
 intro wh pins s σ H Q I h
 refine isTrue_or (thn (ha pins s σ H _ I h) fun c s1 ⟨H1,I1,q1⟩=>?_)
 cases c with
 | true=>exact⟨H1,I1,q1⟩
 | false=>exact hb wh pins s1 σ H1 Q I1 q1
theorem zN(ha:PT X a tA):PT X (.UnaryOp .Not a pos) (tNot tA):=by
 intro pins s σ H Q I h
 exact isTrue_not (ha pins s σ H (fun c H1=>Q (!c) H1) I h)
inductive ITAndV (tb:TE) (σ:St) (x:V) (H1:Hp) (Q:VK):Prop
 | mk (c:_):x=.bl c→(if c=true then tb σ H1 Q else Q (.bl false) H1)→ITAndV tb σ x H1 Q
def tAndV(ta tb:TE):TE:=fun σ H Q=>ta σ H fun x H1=>ITAndV tb σ x H1 Q
inductive ITNotV (x:V) (H1:Hp) (Q:VK):Prop
 | mk (c:_):x=.bl c→Q (.bl (!c)) H1→ITNotV x H1 Q
def tNotV(ta:TE):TE:=fun σ H Q=>ta σ H fun x H1=>ITNotV x H1 Q
theorem zg4{op}{t:TE}(h:PE X a t):PE X (.BoolOp op [a] pos) t:=fun pins s σ H Q I hw=>BoolOp_one (h pins s σ H Q I hw)
theorem zde(ha:PE X a ta)(hb:PE X (.BoolOp .And (b::zeA) pos) tb):PE X (.BoolOp .And (a::b::zeA) pos) (tAndV ta tb):=by
 intro pins s σ H Q I h
 refine BoolOp_and (thn (ha pins s σ H _ I h) fun v s1 ⟨x,H1,I1,r1,q1⟩=>?_)
 obtain⟨c,rfl,q1⟩:=q1
 cases r1
 refine wpAny_truthy_bool ?_
 cases c with
 | true=>exact hb pins s1 σ H1 Q I1 q1
 | false=>exact⟨.bl false,H1,I1,rfl,q1⟩
theorem pe_not(ha:PE X a ta):PE X (.UnaryOp .Not a pos) (tNotV ta):=by
 intro pins s σ H Q I h
 refine UnaryOp_ (thn (ha pins s σ H _ I h) fun v s1 ⟨x,H1,I1,r1,q1⟩=>?_)
 obtain⟨c,rfl,q1⟩:=q1
 cases r1
 exact not_of (wpAny_truthy_bool ⟨.bl (!c),H1,I1,rfl,q1⟩)
def tIf(t:TT)(ta tb:TE):TE:=fun σ H Q=>t σ H fun c H1=>if c=true then ta σ H1 Q else tb σ H1 Q
theorem pe_ifExp{c:Expr}(hc:PT X c tA)(ha:PE X a ta)(hb:PE X b tb):PE X (.IfExp c a b pos) (tIf tA ta tb):=by
 intro pins s σ H Q I h
 refine wpAny_IfExp (thn (hc pins s σ H _ I h) fun d s1 ⟨H1,I1,q1⟩=>?_)
 cases d with
 | true=>exact ha pins s1 σ H1 Q I1 q1
 | false=>exact hb pins s1 σ H1 Q I1 q1
end
def SqL(K:Frag)(H:Hp)(a:Addr)(xs:List V):Prop :=
 Rd H a (.lst xs) ∨
  ∃(o:Obj)(its:Array Value)(n:Nat),K.lookup a=some o∧o.cls=.type "list"∧o.dict=none∧o.data=.seq its n∧its.size≤sizeLine∧Vals xs its.toList
def SqT(K:Frag)(H:Hp)(a:Addr)(xs:List V):Prop :=
 Rd H a (.tup xs) ∨
  ∃(o:Obj)(its:Array Value)(n:Nat),K.lookup a=some o∧o.cls=.type "tuple"∧o.data=.seq its n∧its.size≤sizeLine∧Vals xs its.toList
def absV:Value→Option V
 | .none=>some .non
 | .bool b=>some (.bl b)
 | .int i _=>some (.int i)
 | .str x _=>some (.str x)
 | .bytes b _=>some (.byt b)
 | .float b _=>some (.flt b)
 | .ref a=>some (.ref a)
 | .type n=>some (.ty n)
 | _=>none
theorem RelV.abs{x:V}{u:Value}(r:RelV x u):absV u=some x:=by
 cases x with
 | non=>cases r;rfl
 | bl _=>cases r;rfl
 | int _=>obtain⟨t,rfl⟩:=r;rfl
 | str _=>obtain⟨t,rfl⟩:=r;rfl
 | byt _=>obtain⟨t,rfl⟩:=r;rfl
 | flt _=>obtain⟨t,rfl⟩:=r;rfl
 | ref _=>cases r;rfl
 | ty _=>cases r;rfl
theorem RelV.inj{x y:V}{u:Value}(r:RelV x u)(q:RelV y u):x=y:=Option.some.inj (r.abs.symm.trans q.abs)
theorem Vals.inj:∀{xs ys:List V}{us:List Value},Vals xs us→Vals ys us→xs=ys
 | _,_,_,.nil,.nil=>rfl
 | _,_,_,.cons r t,.cons r' t'=>by rw[r.inj r',Vals.inj t t']
section
variable {X:Cx}{pins:List (Addr×Obj)}{σ:St}{H:Hp}{s:Shared}{a:Addr}{xs ys:List V}
theorem SqL.of{K:Frag}(h:H a=some (.lst xs)):SqL K H a xs:=.inl (.inl h)
theorem SqT.of{K:Frag}(h:H a=some (.tup xs)):SqT K H a xs:=.inl (.inl h)
theorem Inv.list(I:Inv X pins σ H s)(h:SqL X.K H a xs):∃its:List Value,Vals xs its∧PlainL s.heap a its.toArray∧xs.length≤sizeLine:=by
 rcases h with h | ⟨o,its,n,hk,hc,hd,hs,hz,r⟩
 ·obtain⟨z,its,n,r,e⟩:=h.ok I.hok
  exact⟨its,r,⟨_,n,e,rfl,rfl,rfl⟩,z⟩
 ·refine⟨its.toList,r,⟨o,n,I.kIn a o hk,hc,hd,by simpa using hs⟩,?_⟩
  have e:=r.length
  simp only[Array.length_toList] at e
  omega
theorem Inv.tuple(I:Inv X pins σ H s)(h:SqT X.K H a xs):∃its:List Value,Vals xs its∧IsTup s.heap a its.toArray∧xs.length≤sizeLine:=by
 rcases h with h | ⟨o,its,n,hk,hc,hs,hz,r⟩
 ·obtain⟨z,its,r,p⟩:=h.ok I.hok
  exact⟨its,r,p,z⟩
 ·refine⟨its.toList,r,⟨o,I.kIn a o hk,hc,n,by simpa using hs⟩,?_⟩
  have e:=r.length
  simp only[Array.length_toList] at e
  omega
theorem Inv.list_inj(I:Inv X pins σ H s)(h:SqL X.K H a xs)(h':SqL X.K H a ys):xs=ys:=by
 obtain⟨its,r,⟨o,n,e,_,_,d⟩,_⟩:=I.list h
 obtain⟨its',r',⟨o',n',e',_,_,d'⟩,_⟩:=I.list h'
 rw[e] at e';cases e'
 rw[d] at d'
 injection d' with d1 _
 have:its=its':=by simpa using congrArg Array.toList d1
 subst this
 exact r.inj r'
end
abbrev Cx.wish(X:Cx)(E:Value→Shared→Prop):Cx:={ X with xe:=E }
abbrev Cx.nox(X:Cx):Cx:=X.wish fun _ _=>False
theorem Cx.Ok.wish{X:Cx}(ok:X.Ok)(E:Value→Shared→Prop):(X.wish E).Ok :=
 ⟨ok.mod,ok.kind,ok.glob,ok.blt,ok.above,ok.inj,ok.has,ok.cab,ok.hd,ok.frames,ok.stk,ok.exf,ok.bs,ok.bsz,ok.noex,ok.exfs,ok.funs,ok.frf⟩
theorem Cx.Ok.unwish{X:Cx}{E:Value→Shared→Prop}(ok:(X.wish E).Ok):X.Ok :=
 ⟨ok.mod,ok.kind,ok.glob,ok.blt,ok.above,ok.inj,ok.has,ok.cab,ok.hd,ok.frames,ok.stk,ok.exf,ok.bs,ok.bsz,ok.noex,ok.exfs,ok.funs,ok.frf⟩
section
variable {X:Cx}{pins:List (Addr×Obj)}{σ:St}{H:Hp}{s:Shared}{E:Value→Shared→Prop}
theorem Inv.wish(I:Inv X pins σ H s)(E:Value→Shared→Prop):Inv (X.wish E) pins σ H s:=⟨I.ok.wish E,I.os,I.bare,I.base,I.loc,I.cell,I.free,I.freeC,I.pin,I.hok,I.len⟩
theorem Inv.unwish(I:Inv (X.wish E) pins σ H s):Inv X pins σ H s:=⟨I.ok.unwish,I.os,I.bare,I.base,I.loc,I.cell,I.free,I.freeC,I.pin,I.hok,I.len⟩
theorem SP.unwish{D:Ends}{f:Flow}{s':Shared}(h:SP (X.wish E) pins D f s'):SP X pins D f s':=by
 cases f with
 | next=>obtain⟨σ',H',I,q⟩:=h;exact⟨σ',H',I.unwish,q⟩
 | brk=>obtain⟨σ',H',I,q⟩:=h;exact⟨σ',H',I.unwish,q⟩
 | cont=>obtain⟨σ',H',I,q⟩:=h;exact⟨σ',H',I.unwish,q⟩
 | ret u=>obtain⟨v,σ',H',I,r,q⟩:=h;exact⟨v,σ',H',I.unwish,r,q⟩
theorem PSs.nox{st:List Stmt}{t:TS}(h:PSs X.nox st t):PSs X st t:=fun pins s σ H D I hw =>
 wpAny_mono (h pins s σ H D (I.wish _) hw) (fun _ _ q=>q.unwish) fun _ _ z=>False.elim z
end
section
variable {X:Cx}{st:Stmt}{zeA:List Stmt}{t u:TS}{e:Expr}{te:TE}{pos:Pos}
def tNext:TS:=fun D σ H=>D.nx σ H
def tSeq(t u:TS):TS:=fun D σ H=>t { D with nx:=u D } σ H
theorem zo:PSs X [] tNext:=fun _ _ σ H _ I h=>wpAny_execs_nil ⟨σ,H,I,h⟩
theorem zc(h1:PS X st t)(h2:PSs X zeA u):PSs X (st::zeA) (tSeq t u):=by
 intro pins s σ H D I h
 refine wpAny_execs_cons (thn (h1 pins s σ H { D with nx:=u D } I h) fun f s1 q=>?_)
 cases f with
 | next =>
   obtain⟨σ',H',I',q⟩:=q
   exact h2 pins s1 σ' H' D I' q
 | ret v=>exact q
 | brk=>exact q
 | cont=>exact q
theorem ze(h1:PS X st t):PSs X [st] t:=by
 intro pins s σ H D I h
 refine wpAny_execs_cons (thn (h1 pins s σ H D I h) fun f s1 q=>?_)
 cases f with
 | next=>exact wpAny_execs_nil q
 | ret v=>exact q
 | brk=>exact q
 | cont=>exact q
theorem Inv.quiet{pins:List (Addr×Obj)}{σ:St}{H:Hp}{s:Shared}(I:Inv X pins σ H s):interactive X.env=false:=by simp[interactive,I.ok.kind]
def tDrop(te:TE):TS:=fun D σ H=>te σ H fun _ H1=>D.nx σ H1
theorem zC(he:PE X e te)(hs:swapsWith e none pos.line X.env=pure false:=by rfl):PS X (.Expr e pos) (tDrop te):=by
 intro pins s σ H D I h
 exact wpAny_Expr_any (thn (he pins s σ H _ I h) fun v s1 ⟨x,H1,I1,r1,q1⟩=>⟨σ,H1,I1,q1⟩) I.quiet hs
def tRet(te:TE):TS:=fun D σ H=>te σ H D.rt
theorem zk(he:PE X e te):PS X (.Return (some e) pos) (tRet te):=by
 intro pins s σ H D I h
 exact wpAny_Return_some (thn (he pins s σ H _ I h) fun v s1 ⟨x,H1,I1,r1,q1⟩=>⟨x,σ,H1,I1,r1,q1⟩)
def tIfS(c:TT)(t u:TS):TS:=fun D σ H=>c σ H fun b H1=>if b=true then t D σ H1 else u D σ H1
theorem zx{c:Expr}{a b:List Stmt}{tc:TT}(hc:PT X c tc)(ha:PSs X a t)(hb:PSs X b u):PS X (.If c a b pos) (tIfS tc t u):=by
 intro pins s σ H D I h
 refine wpAny_If (thn (hc pins s σ H _ I h) fun d s1 ⟨H1,I1,q1⟩=>?_)
 cases d with
 | true=>exact ha pins s1 σ H1 D I1 q1
 | false=>exact hb pins s1 σ H1 D I1 q1
def tNever:TS:=fun _ _ _=>False
theorem zjS:PS X st tNever:=fun _ _ _ _ _ _ h=>h.elim
end
abbrev TG:=V→St→Hp→(St→Hp→Prop)→Prop
abbrev TGs:=List V→St→Hp→(St→Hp→Prop)→Prop
def PG(X:Cx)(target:Expr)(t:TG):Prop :=
 ∀(pins:List (Addr×Obj)) (s:Shared) (σ:St) (H:Hp) (v:V) (u:Value) (Q:St→Hp→Prop),Inv X pins σ H s→RelV v u→t v σ H Q →
  wpAny (model X.prog X.w) X.A (assign target X.env u) (fun _ s'=>∃σ' H',Inv X pins σ' H' s'∧Q σ' H') X.xe s
def PGs(X:Cx)(ts:List Expr)(t:TGs):Prop :=
 ∀(pins:List (Addr×Obj)) (s:Shared) (σ:St) (H:Hp) (vs:List V) (us:List Value) (Q:St→Hp→Prop),Inv X pins σ H s→Vals vs us→t vs σ H Q →
  wpAny (model X.prog X.w) X.A (assignInOrder ((assignEach ts X.env).map (·.2)) us) (fun _ s'=>∃σ' H',Inv X pins σ' H' s'∧Q σ' H') X.xe s
abbrev TSet:=V→V→V→Hp→(Hp→Prop)→Prop
def PSet(X:Cx)(t:TSet):Prop :=
 ∀(pins:List (Addr×Obj)) (s:Shared) (σ:St) (H:Hp) (o i v:V) (ov iv u:Value) (Q:Hp→Prop),Inv X pins σ H s→RelV o ov→RelV i iv→RelV v u→t o i v H Q →
  wpAny (model X.prog X.w) X.A (setItem ov iv u) (fun _ s'=>∃H',Inv X pins σ H' s'∧Q H') X.xe s
section
variable {X:Cx}{pos:Pos}
def zf0(i:Nat):TG:=fun v σ H Q=>Q (σ.set i (some v)) H
theorem zH{i:Nat}{x:Str}(hN:X.N.Nodup)(hi:X.N[i]? = some x)(hx:Loc X.env.scope x)(hf:X.fn x=true∨X.env.scope.names.lookup x=some .local:=by first | exact .inl rfl | exact .inr rfl | assumption):PG X (.Name x pos) (zf0 i):=by
 intro pins s σ H v u Q I r h
 exact wpAny_assign_Name (zjt I hN hi hx r (fun s' I'=>⟨_,H,I',h⟩) hf)
def gNil:TGs:=fun vs σ H Q=>vs=[]∧Q σ H
def gCons(t:TG)(u:TGs):TGs:=fun vs σ H Q=>∃v r,vs=v::r∧t v σ H fun σ' H'=>u r σ' H' Q
theorem pgs_nil:PGs X [] gNil:=by
 intro pins s σ H vs us Q I r h
 obtain⟨e,h⟩:=h
 subst e
 cases r
 exact assignInOrder_nil ⟨σ,H,I,h⟩
theorem zeT{e:Expr}{es:List Expr}{t:TG}{u:TGs}(h1:PG X e t)(h2:PGs X es u)
 (hs:(assignEach (e::es) X.env).map (·.2)=assign e X.env::(assignEach es X.env).map (·.2):=by rfl):PGs X (e::es) (gCons t u):=by
 intro pins s σ H vs us Q I r h
 obtain⟨v,vr,e1,h⟩:=h
 subst e1
 cases r with
 | cons r rr =>
   rw[hs]
   refine assignInOrder_cons (thn (h1 pins s σ H _ _ _ I r h) fun _ s1 ⟨σ1,H1,I1,q1⟩=>?_)
   exact h2 pins s1 σ1 H1 _ _ Q I1 rr q1
def gTup(K:Frag)(n:Nat)(t:TGs):TG:=fun v σ H Q=>∃a xs,v=.ref a∧SqT K H a xs∧xs.length=n∧t xs σ H Q
theorem pg_tup{es:List Expr}{k:Nat}{t:TGs}{n:Nat}(hc:X.calm=true)(h:PGs X es t)
 (hn:(assignEach es X.env).length=n:=by rfl) (hst:(assignEach es X.env).findIdx? (·.1)=none:=by rfl):PG X (.Tuple es k pos) (gTup X.K n t):=by
 intro pins s σ H v u Q I r hw
 obtain⟨a,xs,e1,hq,hl,hw⟩:=hw
 subst e1
 cases r
 obtain⟨its,rv,ht,hz⟩:=I.tuple hq
 refine assign_Tuple_tuple (I.ok.hd hc) ht (by simp[hn,←hl,rv.length]) hst fun h' hx=>?_
 have I1:Inv X pins σ H { s with heap:=h' }:=I.kept (t':=s.toks) fun b o e=>hx b o (ne_of_lt (lt_size e)) e
 exact h pins _ σ H xs _ Q I1 (by simpa using rv) hw
def gSub(to ti:TE)(t:TSet):TG:=fun v σ H Q=>to σ H fun o H1=>ti σ H1 fun i H2=>t o i v H2 fun H3=>Q σ H3
theorem pg_sub{o i:Expr}{to ti:TE}{t:TSet}(ho:PE X o to)(hi:PE X i ti)(hs:PSet X t)
 (ha:∀v,assign (.Subscript o i pos) X.env v=(do
   let ov ←holding [v] (eval o X.env)
   let iv ←holding [v,ov] (eval i X.env)
   standAt pos
   holding [v,ov,iv] (setItem ov iv v)
   release [v,ov,iv] []):=by intro _;rfl):PG X (.Subscript o i pos) (gSub to ti t):=by
 intro pins s σ H v u Q I r h
 rw[ha]
 refine wpAny_bind (wpAny_holding (thn (ho pins s σ H _ I h) fun ov s1 ⟨x,H1,I1,r1,q1⟩=>?_))
 refine wpAny_bind (wpAny_holding (thn (hi pins s1 σ H1 _ I1 q1) fun iv s2 ⟨y,H2,I2,r2,q2⟩=>?_))
 refine wpAny_bind (wpAny_standAt (wpAny_bind (wpAny_holding (thn (hs pins s2 σ H2 x y v ov iv u _ I2 r1 r2 r q2) fun _ s3 ⟨H3,I3,q3⟩=>?_))))
 exact wpAny_release ⟨σ,H3,I3,q3⟩
def tAsg(te:TE)(g:TG):TS:=fun D σ H=>te σ H fun x H1=>g x σ H1 D.nx
theorem ps_asg{tg e:Expr}{te:TE}{g:TG}(he:PE X e te)(hg:PG X tg g)(hs:swapsWithSole [tg] e pos.line X.env=pure false:=by rfl)(hw:swappedStores [tg] e X.env=pure none:=by rfl)
 (h1:(assignEach [tg] X.env).map (·.2)=[assign tg X.env]:=by rfl):PS X (.Assign [tg] e pos) (tAsg te g):=by
 intro pins s σ H D I h
 refine wpAny_Assign_stores (thn (he pins s σ H _ I h) fun v s1 ⟨x,H1,I1,r1,q1⟩=>?_) hs hw
 rw[h1]
 exact thn (hg pins s1 σ H1 x v _ I1 r1 q1) fun _ s2 q=>q
theorem zt{i:Nat}{x:Str}{e:Expr}{te:TE}{pos':Pos}(hN:X.N.Nodup)(hi:X.N[i]? = some x)(hx:Loc X.env.scope x)(he:PE X e te)(hs:swapsWith e (some (.Name x pos')) pos.line X.env=pure false:=by rfl)(hf:X.fn x=true∨X.env.scope.names.lookup x=some .local:=by first | exact .inl rfl | exact .inr rfl | assumption):
 PS X (.Assign [.Name x pos'] e pos) (tAsg te (zf0 i)):=by
 intro pins s σ H D I h
 refine wpAny_Assign_Name (thn (he pins s σ H _ I h) fun v s1 ⟨y,H1,I1,r1,q1⟩=>?_) hs
 exact zjt I1 hN hi hx r1 (fun s2 I2=>⟨_,H1,I2,q1⟩) hf
end
structure It where
 go:Nat→Hp→Prop
 yld:Nat→Hp→V→Hp→Prop
 stop:Nat→Hp→Prop
def wH(X:Cx)(pins:List (Addr×Obj))(H:Hp)(b:Addr):Prop :=
 H b=none∧b≠X.env.locals∧b∉X.fs∧(b∈X.ex∨X.s₀.heap.objs.size≤b)∧(∀x c,X.env.cells.lookup x=some c→c≠b)∧∀p∈X.pn++pins,p.1≠b
theorem Inv.fpOk{X:Cx}{pins:List (Addr×Obj)}{σ:St}{H H':Hp}{s:Shared}{b:Addr}(I:Inv X pins σ H s)(hb:s.heap.objs.size≤b)(hn:H' b=none):wH X pins H' b:=by
 refine⟨hn,ne_of_gt (lt_of_lt_of_le I.lt hb),I.nofs hb,.inr (le_trans I.sz hb),fun x c e z=>?_,fun p hp z=>?_⟩
 ·obtain⟨v,q⟩:=I.cell x c e
  exact absurd (lt_of_lt_of_le q.lt (by rw[z];exact hb)) (lt_irrefl _)
 ·exact absurd (lt_of_lt_of_le (lt_size (I.pin p hp).1) (by rw[z];exact hb)) (lt_irrefl _)
structure Turn (P:Program) (w:World) (K:Frag) (tg:Expr) (J:It) (fp:List Addr) (it:Addr) (tn:Nat→Heap→Prop):Prop where
 mem:it∈fp
 obj:∀i h,tn i h→∀b∈fp,∃o,h.get? b=some o∧∀v,o.data ≠ .cell v
 keep:∀i h h',tn i h→(∀b∈fp,∀o,h.get? b=some o→h'.get? b=some o)→tn i h'
 item:∀(X:Cx),X.prog=P→X.w=w→X.K=K→X.calm=true→∀(i:Nat)(pins:List (Addr×Obj)) (s:Shared) (σ:St) (H:Hp) (E:Value→Shared→Prop),Inv X pins σ H s→(∀b∈fp,wH X pins H b)→tn i s.heap→J.go i H →
  wpAny (model P w) X.A (pyNext (.ref it)) (fun r s1=>∃u,r=some u ∧
   wpAny (model P w) X.A (letOwnedTupleGo tg (.ref it) u) (fun _ s2=>∃x H',Inv X pins σ H' s2∧RelV x u∧J.yld i H x H'∧tn (i+1) s2.heap∧∀b∈fp,H' b=none) E s1) E s
 done:∀(X:Cx),X.prog=P→X.w=w→X.K=K→X.calm=true→∀(i:Nat)(pins:List (Addr×Obj)) (s:Shared) (σ:St) (H:Hp) (E:Value→Shared→Prop),Inv X pins σ H s→(∀b∈fp,wH X pins H b)→tn i s.heap→J.stop i H →
  wpAny (model P w) X.A (pyNext (.ref it)) (fun r s1=>r=none∧Inv X pins σ H s1) E s
 self:∀(A:Around)(i:Nat)(s:Shared)(Q:Value→Shared→Prop)(E:Value→Shared→Prop),tn i s.heap→Q (.ref it) s→wpAny (model P w) A (pyIter (.ref it)) Q E s
abbrev TI:=St→Hp→(It→Hp→Prop)→Prop
def PIE(X:Cx)(pins:List (Addr×Obj))(σ:St)(tg:Expr)(R:It→Hp→Prop)(itv:Value)(s2:Shared):Prop :=
 ∃(it:Addr)(fp:List Addr)(tn:Nat→Heap→Prop)(J:It)(H':Hp),itv=.ref it∧Inv X pins σ H' s2∧Turn X.prog X.w X.K tg J fp it tn∧tn 0 s2.heap∧(∀b∈fp,wH X pins H' b)∧R J H'
def PI(X:Cx)(tg iter:Expr)(wi:TI):Prop :=
 ∀(pins:List (Addr×Obj)) (s:Shared) (σ:St) (H:Hp) (R:It→Hp→Prop),Inv X pins σ H s→wi σ H R →
  wpAny (model X.prog X.w) X.A (eval iter X.env) (fun v s1=>wpAny (model X.prog X.w) X.A (pyIter v) (PIE X pins σ tg R) X.xe s1) X.xe s
theorem go_of{M:Model}{A:Around}{E:Value→Shared→Prop}{s:Shared}{tg:Expr}{it:Addr}{u:Value}{o:Obj}{n:String}{vs:Array Value}{Q:Unit→Shared→Prop}(ho:s.heap.get? it=some o)(hc:o.cls=.type n)(hd:o.data=.fields vs)
 (hn : ["enumerate","zip","dict_itemiterator","dict_reverseitemiterator","odict_iterator","itertools.zip_longest","itertools.pairwise"].contains n=false) (hQ:Q () s):wpAny M A (letOwnedTupleGo tg (.ref it) u) Q E s:=by
 unfold letOwnedTupleGo
 cases tg <;> first
  | exact wpAny_pure hQ
  | (cases u <;> first
      | exact wpAny_pure hQ
      | (refine wpAny_bind (wpAny_load ho ?_)
         rw[hc,hd]
         show wpAny M A (if(["enumerate","zip","dict_itemiterator","dict_reverseitemiterator","odict_iterator","itertools.zip_longest","itertools.pairwise"].contains n && vs[0]? == some (rawInt _))=true then _ else _) Q E s
         rw[if_neg (by intro h;rw[hn,Bool.false_and] at h;cases h)]
         exact wpAny_pure hQ))
def Itl(K:Frag)(a:Addr):It :=
 ⟨fun i H=>∃xs x,SqL K H a xs∧xs[i]? = some x,fun i H x H'=>H'=H∧∀xs,SqL K H a xs→xs[i]? = some x,fun i H=>∃xs,SqL K H a xs∧xs.length≤i⟩
def Itr(lo:Int)(n:Nat):It:=⟨fun i _=>i<n,fun i H x H'=>H'=H∧x=.int (lo+i),fun i _=>n≤i⟩
theorem turn_list{P:Program}{w:World}{K:Frag}{tg:Expr}(a it:Addr):Turn P w K tg (Itl K a) [it] it (fun i h=>h.IsListIter it a i) where
 mem:=by simp
 obj:=fun i h st b hb=>by
  have e:b=it:=by simpa using hb
  subst e
  obtain⟨o,e,c,d⟩:=st
  exact⟨o,e,fun v z=>by rw[d] at z;cases z⟩
 keep:=fun i h h' st k=>st.at fun o e=>k it (by simp) o e
 item:=by
  intro X hP hw hK hc i pins s σ H E I hf st hg
  subst hP hw hK
  obtain⟨xs,x,hq,hx⟩:=hg
  obtain⟨its,rv,p,hz⟩:=I.list hq
  obtain⟨u,hu,ru⟩:=rv.get hx
  obtain⟨f0,f1,f2,f3,f4,f5⟩:=hf it (by simp)
  refine wpAny_pyNext_list_item st p.isList (x:=u) (by simpa using hu) fun h' st' sb=>?_
  have I1:Inv X pins σ H { s with heap:=h' }:=I.turned (t':=s.toks) (fun b o hb e=>(sb.2 b hb).trans e) f0 f1 f3 f4 f5
  obtain⟨o,e,c,d⟩:=id st'
  exact⟨u,rfl,go_of (s:={ s with heap:=h' }) e c d (by decide) ⟨x,H,I1,ru,⟨rfl,fun ys hy=>by rw[I.list_inj hy hq];exact hx⟩,st',fun b hb=>(hf b hb).1⟩⟩
 done:=by
  intro X hP hw hK hc i pins s σ H E I hf st hg
  subst hP hw hK
  obtain⟨xs,hq,hx⟩:=hg
  obtain⟨its,rv,p,hz⟩:=I.list hq
  obtain⟨f0,f1,f2,f3,f4,f5⟩:=hf it (by simp)
  have hl:=rv.length
  exact wpAny_pyNext_list_end (I.ok.hd hc) st p.isList (by simp;omega) fun h' eb=>⟨rfl,I.turned (t':=s.toks) (fun b o hb e=>eb b o hb e) f0 f1 f3 f4 f5⟩
 self:=fun _ _ _ _ _ st h=>wpAny_pyIter_listiter st h
theorem zke{P:Program}{w:World}{K:Frag}{tg:Expr}(it:Addr)(lo:Int)(n:Nat):Turn P w K tg (Itr lo n) [it] it (fun i h=>IsRangeIter h it (lo+(i:Nat)*1) ((n:Int)-(i:Nat)) 1) where
 mem:=by simp
 obj:=fun i h st b hb=>by
  have e:b=it:=by simpa using hb
  subst e
  exact⟨_,st,fun v z=>by
   have z':Data.fields _=Data.cell v:=z
   cases z'⟩
 keep:=fun i h h' st k=>k it (by simp) _ st
 item:=by
  intro X hP hw hK hc i pins s σ H E I hf st hg
  subst hP hw hK
  obtain⟨f0,f1,f2,f3,f4,f5⟩:=hf it (by simp)
  have W:=Walks.range (prog:=X.prog) (w:=X.w) (I.ok.hd hc) it lo 1 n
  refine W.item i s _ _ hg st fun v h' tk hv st' kk=>?_
  obtain⟨t,rfl⟩:=hv
  have I1:Inv X pins σ H { s with heap:=h',toks:=tk }:=I.turned (fun b o hb e=>kk b o (by simpa using hb) e) f0 f1 f3 f4 f5
  refine⟨_,rfl,go_of (s:={ s with heap:=h',toks:=tk }) (n:= "range_iterator") st' rfl rfl (by decide) ⟨.int (lo+i),H,I1,⟨t,?_⟩,⟨rfl,rfl⟩,st',fun b hb=>(hf b hb).1⟩⟩
  rw[Int.mul_one]
 done:=by
  intro X hP hw hK hc i pins s σ H E I hf st hg
  subst hP hw hK
  obtain⟨f0,f1,f2,f3,f4,f5⟩:=hf it (by simp)
  exact wpAny_pyNext_range_end (I.ok.hd hc) st (by have:n≤i:=hg;omega) fun h' eb=>⟨rfl,I.turned (t':=s.toks) (fun b o hb e=>eb b o hb e) f0 f1 f3 f4 f5⟩
 self:=fun _ _ _ _ _ st h=>wpAny_pyIter_rangeiter st h
section
variable {X:Cx}{tg:Expr}
inductive IIList (K:Frag) (x:V) (H1:Hp) (R:It→Hp→Prop):Prop
 | mk (a:_):x=.ref a→((∃xs,SqL K H1 a xs))→R (Itl K a) H1→IIList K x H1 R
def iList(K:Frag)(tl:TE):TI:=fun σ H R=>tl σ H fun x H1=>IIList K x H1 R
theorem zw{l:Expr}{tl:TE}(hl:PE X l tl):PI X tg l (iList X.K tl):=by
 intro pins s σ H R I h
 refine thn (hl pins s σ H _ I h) fun v s1 ⟨x,H1,I1,r1,q1⟩=>?_
 obtain⟨a,e,⟨xs,hq⟩,q⟩:=q1
 subst e
 cases r1
 obtain⟨its,rv,p,hz⟩:=I1.list hq
 refine wpAny_pyIter_list p.isList ?_
 refine⟨s1.heap.objs.size,[s1.heap.objs.size],_,_,H1,rfl,I1.kept (t':=s1.toks) fun b o e=>get?_push_of_some _ e,turn_list a _,⟨_,get?_push_size _ rfl,rfl,rfl⟩,fun b hb=>?_,q⟩
 have e:b=s1.heap.objs.size:=by simpa using hb
 subst e
 exact I1.fpOk (le_refl _) (I1.hok.fresh (le_refl _))
theorem zkb{pins:List (Addr×Obj)}{σ:St}{H:Hp}{s:Shared}{R:It→Hp→Prop}{E:Value→Shared→Prop}{lo hi:Int}{t u v:Tok}{tk:Nat}(I:Inv X pins σ H s)(h1 : -(2 ^ 62)≤lo)(h2:lo<2 ^ 62)(h3 : -(2 ^ 62)≤hi)(h4:hi<2 ^ 62)
 (q:R (Itr lo (hi-lo).toNat) H):wpAny (model X.prog X.w) X.A (pyIter (.ref s.heap.objs.size)) (PIE X pins σ tg R) E { s with heap:=s.heap.push { cls:=.type "range",data:=.fields #[.int lo t,.int hi u,.int 1 v] },toks:=tk }:=by
 refine wpAny_pyIter_range (IsRange.new ..) (small_one h1 h2 h3 h4) ?_
 have I1:Inv X pins σ H { s with heap:=s.heap.push { cls:=.type "range",data:=.fields #[.int lo t,.int hi u,.int 1 v] },toks:=tk }:=I.kept fun b o e=>get?_push_of_some _ e
 refine⟨(s.heap.push { cls:=.type "range",data:=.fields #[.int lo t,.int hi u,.int 1 v] }).objs.size,[(s.heap.push { cls:=.type "range",data:=.fields #[.int lo t,.int hi u,.int 1 v] }).objs.size],_,_,H,rfl,
  I1.kept (t':=tk) fun b o e=>get?_push_of_some _ e,zke _ lo (hi-lo).toNat,?_,fun b hb=>?_,q⟩
 ·have e1:lo+((0:Nat):Int)*1=lo:=by simp
  have e2:(((hi-lo).toNat:Nat):Int)-((0:Nat):Int)=Builtin.Range.rangeSize lo hi 1:=by rw[rangeSize_one];split <;> omega
  show IsRangeIter _ _ (lo+((0:Nat):Int)*1) ((((hi-lo).toNat:Nat):Int)-((0:Nat):Int)) 1
  rw[e1,e2]
  exact get?_push_size _ rfl
 ·have e:b=(s.heap.push { cls:=.type "range",data:=.fields #[.int lo t,.int hi u,.int 1 v] }).objs.size:=by simpa using hb
  subst e
  exact I1.fpOk (le_refl _) (I1.hok.fresh (le_refl _))
inductive IIRng1 (vs:List V) (H1:Hp) (R:It→Hp→Prop):Prop
 | mk (j:Int):vs=[.int j] → -(2 ^ 62)≤j→j<2 ^ 62→R (Itr 0 j.toNat) H1→IIRng1 vs H1 R
def iRng1(ta:TA):TI:=fun σ H R=>ta σ H fun vs H1=>IIRng1 vs H1 R
inductive IIRng2 (vs:List V) (H1:Hp) (R:It→Hp→Prop):Prop
 | mk (i j:Int):vs=[.int i,.int j]→(-(2 ^ 62)≤i∧i<2 ^ 62 ∧ -(2 ^ 62)≤j∧j<2 ^ 62)→R (Itr i (j-i).toNat) H1→IIRng2 vs H1 R
def iRng2(ta:TA):TI:=fun σ H R=>ta σ H fun vs H1=>IIRng2 vs H1 R
theorem zW{a:Expr}{ta:TA}{p pos:Pos}(hg:Gl X "range")(hm:X.mg "range"=none)(ha:PA X [a] ta)(hs:starEach [a] X.env=[(false,eval a X.env)]:=by rfl):PI X tg (.Call (.Name "range" p) [a] [] pos) (iRng1 ta):=by
 intro pins s σ H R I h
 refine Call_ (zcH I hg hm boot_range (callWith_type1 (thn (ha pos pins s σ H _ I h) fun us s1 ⟨vs,H1,I1,r1,q1⟩=>?_) hs rfl))
 obtain⟨j,e,q1,q2,q⟩:=q1
 subst e
 cases r1 with
 | cons r rr =>
   cases rr
   obtain⟨t,rfl⟩:=r
   exact call_range_1 (zkb I1 (by omega) (by omega) q1 q2 (by simpa using q))
theorem zaE{a b:Expr}{ta:TA}{p pos:Pos}(hg:Gl X "range")(hm:X.mg "range"=none)(ha:PA X [a,b] ta)(hs:starEach [a,b] X.env=[(false,eval a X.env),(false,eval b X.env)]:=by rfl)(hs2:starEach [b] X.env=[(false,eval b X.env)]:=by rfl):
 PI X tg (.Call (.Name "range" p) [a,b] [] pos) (iRng2 ta):=by
 intro pins s σ H R I h
 refine Call_ (zcH I hg hm boot_range (callWith_type1 (thn (ha pos pins s σ H _ I h) fun us s1 ⟨vs,H1,I1,r1,q1⟩=>?_) (by rw[hs,hs2]) (by rw[hs2];rfl)))
 obtain⟨i,j,e,⟨q1,q2,q3,q4⟩,q⟩:=q1
 subst e
 cases r1 with
 | cons r rr =>
   cases rr with
   | cons r' rr =>
     cases rr
     obtain⟨t,rfl⟩:=r
     obtain⟨t',rfl⟩:=r'
     exact call_range_2 (zkb I1 q1 q2 q3 q4 q)
def tFor(wi:TI)(g:TG)(tb:TS):TS:=fun D σ H=>wi σ H fun J H1=>∃W:Nat→Nat→St→Hp→Prop,(∃m,W 0 m σ H1)∧∀i m σ H,W i m σ H →
 (J.stop i H∧D.nx σ H)∨(J.go i H∧∃N:St→Hp→Prop,(∀σ' H',N σ' H'→∃m',m'<m∧W (i+1) m' σ' H')∧∀x H',J.yld i H x H'→g x σ H' fun σ2 H2=>tb { D with nx:=N,ct:=N,bk:=D.nx } σ2 H2)
def ziE(fp:List Addr)(h:Heap):List (Addr×Obj):=fp.filterMap fun b=>(h.get? b).map fun o=>(b,o)
theorem yx{fp:List Addr}{h:Heap}{b:Addr}{o:Obj}(hb:b∈fp)(e:h.get? b=some o):(b,o)∈ziE fp h:=List.mem_filterMap.mpr ⟨b,hb,by rw[e];rfl⟩
theorem of_pinsAt{fp:List Addr}{h:Heap}{p:Addr×Obj}(hp:p∈ziE fp h):p.1∈fp∧h.get? p.1=some p.2:=by
 obtain⟨b,hb,e⟩:=List.mem_filterMap.mp hp
 cases q:h.get? b with
 | none=>rw[q] at e;cases e
 | some o =>
   rw[q] at e
   have e':(b,o)=p:=Option.some.inj e
   subst e'
   exact⟨hb,q⟩
theorem Inv.pinned{pins:List (Addr×Obj)}{σ:St}{H:Hp}{s:Shared}{fp:List Addr}(I:Inv X pins σ H s)(hf:∀b∈fp,wH X pins H b)(ho:∀b∈fp,∃o,s.heap.get? b=some o∧∀v,o.data ≠ .cell v):Inv X (pins++ziE fp s.heap) σ H s :=
 I.pins_of fun p hp=>(List.mem_append.mp hp).elim (fun z=>I.pin p (mem_append_right _ z)) fun z=>by
  obtain⟨hb,e⟩:=of_pinsAt z
  obtain⟨f0,f1,f2,_⟩:=hf p.1 hb
  obtain⟨o,e',d⟩:=ho p.1 hb
  rw[e] at e';cases e'
  exact⟨e,f0,f1,f2,d⟩
theorem Inv.unpinned{pins pl:List (Addr×Obj)}{σ:St}{H:Hp}{s:Shared}(I:Inv X (pins++pl) σ H s):Inv X pins σ H s:=I.pins_of fun p hp=>I.pin p (mem_append_right _ (mem_append_left _ hp))
theorem ym{iter:Expr}{body:List Stmt}{wi:TI}{g:TG}{tb:TS}{pos:Pos}(hp:PassesOwn (model X.prog X.w) X.A X.env X.xe)(hc:X.calm=true)(hi:PI X tg iter wi)(hg:PG X tg g)(hb:PSs X body tb)
 (hs:∀x,foldedSetIterable iter X.env x=pure x:=by intro _;rfl):PS X (.For tg iter body [] pos) (tFor wi g tb):=by
 intro pins s σ H D I h
 refine wpAny_For (thn (hi pins s σ H _ I h) fun v s1 h1=>thn h1 fun itv s2 h2=>?_) hs
 obtain⟨it,fp,tn,J,H2,e,I2,T,st2,f2,W,⟨m0,w0⟩,turn⟩:=h2
 subst e
 -- what stays true of the iterator's objects through the loop
 have stat:∀{H':Hp},(∀b∈fp,H' b=none)→∀b∈fp,wH X pins H' b:=fun hn b hb=>⟨hn b hb,(f2 b hb).2⟩
 refine codeAny_forLoop_any (fun n s'=>∃i σ' H',Inv X pins σ' H' s'∧tn i s'.heap∧(∀b∈fp,H' b=none)∧W i n σ' H') ?_ m0 ⟨0,σ,H2,I2,st2,fun b hb=>(f2 b hb).1,w0⟩
 rintro n s3 ⟨i,σ3,H3,I3,st3,fr3,w3⟩
 rcases turn i n σ3 H3 w3 with⟨stop,qn⟩|⟨go,N,hN,step⟩
 ·refine wpAny_passesOwn hp (thn (T.done X rfl rfl rfl hc i pins s3 σ3 H3 X.xe I3 (stat fr3) st3 stop) fun r s4 ⟨hr,I4⟩=>?_)
  subst hr
  exact wpAny_execs_nil ⟨σ3,H3,I4,qn⟩
 ·refine wpAny_passesOwn hp (thn (T.item X rfl rfl rfl hc i pins s3 σ3 H3 X.xe I3 (stat fr3) st3 go) fun r s4 ⟨u,hr,h4⟩=>?_)
  subst hr
  refine wpAny_passesOwn hp (thn h4 fun _ s5 ⟨x,H5,I5,r5,y5,st5,fr5⟩=>?_)
  have I5':=I5.pinned (stat fr5) (T.obj _ _ st5)
  refine wpAny_passesOwn hp (thn (hg _ s5 σ3 H5 x u _ I5' r5 (step x H5 y5)) fun _ s6 ⟨σ6,H6,I6,q6⟩=>?_)
  refine wpAny_passesOwn hp (thn (hb _ s6 σ6 H6 _ I6 q6) fun f s7 q7=>?_)
  have again:∀{σ7:St}{H7:Hp},Inv X (pins++ziE fp s5.heap) σ7 H7 s7→N σ7 H7→∃m,m<n∧∃i σ' H',Inv X pins σ' H' s7∧tn i s7.heap∧(∀b∈fp,H' b=none)∧W i m σ' H':=fun {σ7 H7} I7 n7=>by
   obtain⟨m',hm,w7⟩:=hN σ7 H7 n7
   refine⟨m',hm,i+1,σ7,H7,I7.unpinned,T.keep _ _ _ st5 fun b hb o e=>(I7.pin (b,o) (mem_append_right _ (mem_append_right _ (yx hb e)))).1,fun b hb=>?_,w7⟩
   obtain⟨o,e,d⟩:=T.obj _ _ st5 b hb
   exact(I7.pin (b,o) (mem_append_right _ (mem_append_right _ (yx hb e)))).2.1
  cases f with
  | next=>obtain⟨σ7,H7,I7,n7⟩:=q7;exact again I7 n7
  | cont=>obtain⟨σ7,H7,I7,n7⟩:=q7;exact again I7 n7
  | brk=>obtain⟨σ7,H7,I7,q7⟩:=q7;exact⟨σ7,H7,I7.unpinned,q7⟩
  | ret v=>obtain⟨x7,σ7,H7,I7,r7,q7⟩:=q7;exact⟨x7,σ7,H7,I7.unpinned,r7,q7⟩
end
theorem zbQ{K:Frag}{a:Addr}{xs:List V}{g:TG}{tb:TS}{D:Ends}{σ:St}{H:Hp}(Pv:Nat→St→Hp→Prop)(h0:Pv 0 σ H)(hl:∀i σ H,i≤xs.length→Pv i σ H→SqL K H a xs)
 (hs:∀i x σ H,xs[i]? = some x→Pv i σ H→g x σ H fun σ2 H2=>tb { D with nx:=Pv (i+1),ct:=Pv (i+1),bk:=D.nx } σ2 H2) (hd:∀σ H,Pv xs.length σ H→D.nx σ H) :
 ∃W:Nat→Nat→St→Hp→Prop,(∃m,W 0 m σ H)∧∀i m σ H,W i m σ H →
  ((Itl K a).stop i H∧D.nx σ H)∨((Itl K a).go i H∧∃N:St→Hp→Prop,(∀σ' H',N σ' H'→∃m',m'<m∧W (i+1) m' σ' H')∧∀x H',(Itl K a).yld i H x H'→g x σ H' fun σ2 H2=>tb { D with nx:=N,ct:=N,bk:=D.nx } σ2 H2):=by
 refine⟨fun i m σ H=>m=xs.length-i∧i≤xs.length∧Pv i σ H,⟨xs.length,by simp,zero_le _,h0⟩,?_⟩
 rintro i m σ H ⟨rfl,hi,p⟩
 have q:=hl i σ H hi p
 by_cases hlt:i<xs.length
 ·refine .inr ⟨⟨xs,xs[i],q,by simp[hlt]⟩,Pv (i+1),fun σ' H' p'=>⟨xs.length-(i+1),by omega,rfl,hlt,p'⟩,fun x H' y=>?_⟩
  obtain⟨e,y⟩:=y
  subst e
  exact hs i x σ _ (y xs q) p
 ·have e:i=xs.length:=by omega
  subst e
  exact .inl ⟨⟨xs,q,le_refl _⟩,hd σ H p⟩
theorem zY{lo:Int}{n:Nat}{g:TG}{tb:TS}{D:Ends}{σ:St}{H:Hp}(Pv:Nat→St→Hp→Prop)(h0:Pv 0 σ H)
 (hs:∀i σ H,i<n→Pv i σ H→g (.int (lo+i)) σ H fun σ2 H2=>tb { D with nx:=Pv (i+1),ct:=Pv (i+1),bk:=D.nx } σ2 H2) (hd:∀σ H,Pv n σ H→D.nx σ H) :
 ∃W:Nat→Nat→St→Hp→Prop,(∃m,W 0 m σ H)∧∀i m σ H,W i m σ H →
  ((Itr lo n).stop i H∧D.nx σ H)∨((Itr lo n).go i H∧∃N:St→Hp→Prop,(∀σ' H',N σ' H'→∃m',m'<m∧W (i+1) m' σ' H')∧∀x H',(Itr lo n).yld i H x H'→g x σ H' fun σ2 H2=>tb { D with nx:=N,ct:=N,bk:=D.nx } σ2 H2):=by
 refine⟨fun i m σ H=>m=n-i∧i≤n∧Pv i σ H,⟨n,by simp,zero_le _,h0⟩,?_⟩
 rintro i m σ H ⟨rfl,hi,p⟩
 by_cases hlt:i<n
 ·refine .inr ⟨hlt,Pv (i+1),fun σ' H' p'=>⟨n-(i+1),by omega,rfl,hlt,p'⟩,fun x H' y=>?_⟩
  obtain⟨e,y⟩:=y
  subst e y
  exact hs i σ _ hlt p
 ·have e:i=n:=by omega
  subst e
  exact .inl ⟨le_refl _,hd σ H p⟩
abbrev R2:=V→V→Hp→VK→Prop
def OpR(X:Cx)(f:Value→Value→Sem Value)(r:R2):Prop :=
 ∀(pins:List (Addr×Obj)) (s:Shared) (σ:St) (H:Hp) (x y:V) (v u:Value) (Q:VK),Inv X pins σ H s→RelV x v→RelV y u→r x y H Q →
  wpAny (model X.prog X.w) X.A (f v u) (EP X pins σ Q) X.xe s
def UnR(X:Cx)(f:Value→Sem Value)(r:V→Hp→VK→Prop):Prop :=
 ∀(pins:List (Addr×Obj)) (s:Shared) (σ:St) (H:Hp) (x:V) (v:Value) (Q:VK),Inv X pins σ H s→RelV x v→r x H Q →
  wpAny (model X.prog X.w) X.A (f v) (EP X pins σ Q) X.xe s
def zam(X:Cx)(f:Value)(r:List V→Hp→VK→Prop):Prop :=
 ∀(pins:List (Addr×Obj)) (s:Shared) (σ:St) (H:Hp) (xs:List V) (us:List Value) (Q:VK),Inv X pins σ H s→Vals xs us→r xs H Q →
  wpAny (model X.prog X.w) X.A (call f us) (EP X pins σ Q) X.xe s
def tOp(r:R2)(ta tb:TE):TE:=fun σ H Q=>ta σ H fun x H1=>tb σ H1 fun y H2=>r x y H2 Q
def tUn(r:V→Hp→VK→Prop)(ta:TE):TE:=fun σ H Q=>ta σ H fun x H1=>r x H1 Q
inductive IRI (C:Int→Int→Prop) (g:Int→Int→V) (x y:V) (H:Hp) (Q:VK):Prop
 | mk (i:_) (j:_):x=.int i→y=.int j→C i j→Q (g i j) H→IRI C g x y H Q
def rI(C:Int→Int→Prop)(g:Int→Int→V):R2:=fun x y H Q=>IRI C g x y H Q
inductive IRI0 (g:Int→Int→V) (x y:V) (H:Hp) (Q:VK):Prop
 | mk (i:_) (j:_):x=.int i→y=.int j→Q (g i j) H→IRI0 g x y H Q
def rI0(g:Int→Int→V):R2:=fun x y H Q=>IRI0 g x y H Q
inductive IRU (g:Int→V) (x:V) (H:Hp) (Q:VK):Prop
 | mk (i:_):x=.int i→Q (g i) H→IRU g x H Q
def rU(g:Int→V):V→Hp→VK→Prop:=fun x H Q=>IRU g x H Q
section
variable {X:Cx}{a b c:Expr}{ta tb tc:TE}{pos:Pos}
theorem binT(ha:PE X a ta)(hb:PE X b tb){pins:List (Addr×Obj)}{s:Shared}{σ:St}{H:Hp}{R:V→V→Hp→Prop}(I:Inv X pins σ H s)
 (h:ta σ H fun x H1=>tb σ H1 fun y H2=>R x y H2) {Q:Value→Shared→Prop} {f:Value→Value→Sem Value}
 (hf:∀v u s2 x y H2,Inv X pins σ H2 s2→RelV x v→RelV y u→R x y H2→wpAny (model X.prog X.w) X.A (f v u) Q X.xe s2) :
 wpAny (model X.prog X.w) X.A (eval a X.env) (fun v s₁=>wpAny (model X.prog X.w) X.A (eval b X.env) (fun u s₂=>wpAny (model X.prog X.w) X.A (f v u) Q X.xe s₂) X.xe s₁) X.xe s:=by
 refine thn (ha pins s σ H _ I h) fun v s1 ⟨x,H1,I1,r1,q1⟩=>?_
 refine thn (hb pins s1 σ H1 _ I1 q1) fun u s2 ⟨y,H2,I2,r2,q2⟩=>?_
 exact hf v u s2 x y H2 I2 r1 r2 q2
theorem zu{op:Operator}{r:R2}(ho:OpR X (binaryOp op) r)(ha:PE X a ta)(hb:PE X b tb):PE X (.BinOp a op b pos) (tOp r ta tb):=by
 intro pins s σ H Q I h
 exact wpAny_BinOp (binT ha hb I h fun v u s2 x y H2 I2 rx ry q=>ho pins s2 σ H2 x y v u Q I2 rx ry q)
theorem zdU{op:UnaryOp}{r:V→Hp→VK→Prop}(ho:UnR X (unaryOp op) r)(ha:PE X a ta):PE X (.UnaryOp op a pos) (tUn r ta):=by
 intro pins s σ H Q I h
 exact UnaryOp_ (thn (ha pins s σ H _ I h) fun v s1 ⟨x,H1,I1,r1,q1⟩=>ho pins s1 σ H1 x v Q I1 r1 q1)
theorem opI{f:Value→Value→Sem Value}{C:Int→Int→Prop}{g:Int→Int→Int}
 (rule:∀(i j:Int)(t u:Tok)(s:Shared)(Q:Value→Shared→Prop)(E:Value→Shared→Prop),C i j→Q (.int (g i j) s.toks) { s with toks:=s.toks+1 }→wpAny (model X.prog X.w) X.A (f (.int i t) (.int j u)) Q E s) :
 OpR X f (rI C fun i j=>.int (g i j)):=by
 intro pins s σ H x y v u Q I rx ry h
 obtain⟨i,j,rfl,rfl,hc,q⟩:=h
 obtain⟨t,rfl⟩:=rx
 obtain⟨t',rfl⟩:=ry
 exact rule i j t t' s _ _ hc ⟨.int (g i j),H,I.tok _,⟨_,rfl⟩,q⟩
theorem opI0{f:Value→Value→Sem Value}{g:Int→Int→Int}
 (rule:∀(i j:Int)(t u:Tok)(s:Shared)(Q:Value→Shared→Prop)(E:Value→Shared→Prop),Q (.int (g i j) s.toks) { s with toks:=s.toks+1 }→wpAny (model X.prog X.w) X.A (f (.int i t) (.int j u)) Q E s) :
 OpR X f (rI0 fun i j=>.int (g i j)):=by
 intro pins s σ H x y v u Q I rx ry h
 obtain⟨i,j,rfl,rfl,q⟩:=h
 obtain⟨t,rfl⟩:=rx
 obtain⟨t',rfl⟩:=ry
 exact rule i j t t' s _ _ ⟨.int (g i j),H,I.tok _,⟨_,rfl⟩,q⟩
theorem opB0{f:Value→Value→Sem Value}{g:Int→Int→Bool}
 (rule:∀(i j:Int)(t u:Tok)(s:Shared)(Q:Value→Shared→Prop)(E:Value→Shared→Prop),Q (.bool (g i j)) s→wpAny (model X.prog X.w) X.A (f (.int i t) (.int j u)) Q E s) :
 OpR X f (rI0 fun i j=>.bl (g i j)):=by
 intro pins s σ H x y v u Q I rx ry h
 obtain⟨i,j,rfl,rfl,q⟩:=h
 obtain⟨t,rfl⟩:=rx
 obtain⟨t',rfl⟩:=ry
 exact rule i j t t' s _ _ ⟨.bl (g i j),H,I,rfl,q⟩
def CDiv(i j:Int):Prop:=0<j∧j<1073741824
def CMul(i j:Int):Prop:=(-(2 ^ 64)<i∧i<2 ^ 64)∨(-(2 ^ 64)<j∧j<2 ^ 64)
theorem CMul.ok{i j:Int}(h:CMul i j):IntMulOk i j:=by
 rcases h with⟨h1,h2⟩|⟨h1,h2⟩
 ·exact .of_left (intBits_le_64 h1 h2)
 ·exact .of_right (intBits_le_64 h1 h2)
theorem yt:OpR X (binaryOp .Add) (rI0 fun i j=>.int (i+j)):=opI0 fun _ _ _ _ _ _ _ q=>add_int q
theorem zhb:OpR X (binaryOp .Sub) (rI0 fun i j=>.int (i-j)):=opI0 fun _ _ _ _ _ _ _ q=>sub_int q
theorem zdi:OpR X (binaryOp .Mult) (rI CMul fun i j=>.int (i*j)):=opI fun _ _ _ _ _ _ _ hc q=>mul_int q hc.ok
theorem zei:OpR X (binaryOp .FloorDiv) (rI CDiv fun i j=>.int (i/j)):=opI fun i j _ _ _ _ _ hc q=>by
 have h1:(0:Int)<j:=hc.1
 have h2:j<1073741824:=hc.2
 exact floordiv_int (by omega) (by rw[Int.fdiv_eq_ediv_of_nonneg i (by omega)];exact q) (.inl (PyProof.noPylong_small (by omega)))
theorem wT:OpR X (binaryOp .Mod) (rI (fun _ j=>0<j) fun i j=>.int (i%j)):=opI fun i j _ _ _ _ _ hc q=>by
 have h1:(0:Int)<j:=hc
 exact mod_int' (by omega) (by rw[Int.fmod_eq_emod_of_nonneg i (by omega)];exact q)
theorem unI{f:Value→Sem Value}{g:Int→Int}
 (rule:∀(i:Int)(t:Tok)(s:Shared)(Q:Value→Shared→Prop)(E:Value→Shared→Prop),Q (.int (g i) s.toks) { s with toks:=s.toks+1 }→wpAny (model X.prog X.w) X.A (f (.int i t)) Q E s) :
 UnR X f (rU fun i=>.int (g i)):=by
 intro pins s σ H x v Q I rx h
 obtain⟨i,rfl,q⟩:=h
 obtain⟨t,rfl⟩:=rx
 exact rule i t s _ _ ⟨.int (g i),H,I.tok _,⟨_,rfl⟩,q⟩
theorem zbP:UnR X (unaryOp .USub) (rU fun i=>.int (-i)):=unI fun _ _ _ _ _ q=>neg_int q
end
def scal:V→V→Bool
 | .non,.non=>true | .non,.int _=>true | .int _,.non=>true | .non,.bl _=>true | .bl _,.non=>true | .non,.str _=>true | .str _,.non=>true
 | .int _,.int _=>true | .bl _,.bl _=>true | .str _,.str _=>true | .byt _,.byt _=>true
 | .int _,.str _=>true | .str _,.int _=>true | .bl _,.str _=>true | .str _,.bl _=>true
 | _,_=>false
def rEq:R2:=fun x y H Q=>scal x y=true∧Q (.bl (decide (x=y))) H
def rNe:R2:=fun x y H Q=>scal x y=true∧Q (.bl (!decide (x=y))) H
theorem dec_int{i j:Int}:decide (V.int i=V.int j)=(i==j):=by
 rw[Bool.eq_iff_iff]
 simp
theorem dec_bl{i j:Bool}:decide (V.bl i=V.bl j)=(i==j):=by
 rw[Bool.eq_iff_iff]
 simp
theorem dec_str{i j:Str}:decide (V.str i=V.str j)=(i==j):=by
 rw[Bool.eq_iff_iff]
 simp
theorem dec_byt{i j:Array UInt8}:decide (V.byt i=V.byt j)=(i.toList==j.toList):=by
 rw[Bool.eq_iff_iff]
 cases i
 cases j
 simp
section
variable {X:Cx}{a b c:Expr}{ta tb tc:TE}{pos:Pos}
theorem zT{pins:List (Addr×Obj)}{σ:St}{H:Hp}{s:Shared}{Q:VK}{k k':Bool}(I:Inv X pins σ H s)(q:Q (.bl k) H)(e:k=k'):EP X pins σ Q (.bool k') s:=by
 subst e
 exact⟨.bl k,H,I,rfl,q⟩
theorem zay:OpR X (compareOp .Eq) rEq:=by
 intro pins s σ H x y v u Q I rx ry h
 obtain⟨hs,q⟩:=h
 cases x with
 | non =>
   cases rx
   cases y with
   | non=>cases ry;exact PySem.EqNone.eq_none_none (zT I q (by simp))
   | bl j=>cases ry;exact PySem.EqNone.eq_none_bool (zT I q (by simp))
   | int j=>obtain⟨t',rfl⟩:=ry;exact PySem.EqNone.eq_none_int (zT I q (by simp))
   | str j=>obtain⟨t',rfl⟩:=ry;exact PySem.EqNone.eq_none_str (zT I q (by simp))
   | _=>exact absurd (show false=true from hs) Bool.false_ne_true
 | bl i =>
   cases rx
   cases y with
   | non=>cases ry;exact PySem.EqNone.eq_bool_none (zT I q (by simp))
   | bl j=>cases ry;exact eq_bool (zT I q dec_bl)
   | str j=>obtain⟨t',rfl⟩:=ry;exact PySem.EqMixed.eq_bool_str (zT I q (by simp))
   | _=>exact absurd (show false=true from hs) Bool.false_ne_true
 | int i =>
   obtain⟨t,rfl⟩:=rx
   cases y with
   | non=>cases ry;exact PySem.EqNone.eq_int_none (zT I q (by simp))
   | int j=>obtain⟨t',rfl⟩:=ry;exact eq_int (zT I q dec_int)
   | str j=>obtain⟨t',rfl⟩:=ry;exact PySem.EqMixed.eq_int_str (zT I q (by simp))
   | _=>exact absurd (show false=true from hs) Bool.false_ne_true
 | str i =>
   obtain⟨t,rfl⟩:=rx
   cases y with
   | non=>cases ry;exact PySem.EqNone.eq_str_none (zT I q (by simp))
   | bl j=>cases ry;exact PySem.EqMixed.eq_str_bool (zT I q (by simp))
   | int j=>obtain⟨t',rfl⟩:=ry;exact PySem.EqMixed.eq_str_int (zT I q (by simp))
   | str j=>obtain⟨t',rfl⟩:=ry;exact eq_str (zT I q dec_str)
   | _=>exact absurd (show false=true from hs) Bool.false_ne_true
 | byt i =>
   obtain⟨t,rfl⟩:=rx
   cases y with
   | byt j=>obtain⟨t',rfl⟩:=ry;exact PySem.W.eq_bytes (zT I q dec_byt)
   | _=>exact absurd (show false=true from hs) Bool.false_ne_true
 | _=>cases y <;> exact absurd (show false=true from hs) Bool.false_ne_true
theorem yG:OpR X (compareOp .NotEq) rNe:=by
 intro pins s σ H x y v u Q I rx ry h
 obtain⟨hs,q⟩:=h
 cases x with
 | non =>
   cases rx
   cases y with
   | non=>cases ry;exact PySem.EqNone.ne_none_none (zT I q (by simp))
   | bl j=>cases ry;exact PySem.EqNone.ne_none_bool (zT I q (by simp))
   | int j=>obtain⟨t',rfl⟩:=ry;exact PySem.EqNone.ne_none_int (zT I q (by simp))
   | str j=>obtain⟨t',rfl⟩:=ry;exact PySem.EqNone.ne_none_str (zT I q (by simp))
   | _=>exact absurd (show false=true from hs) Bool.false_ne_true
 | bl i =>
   cases rx
   cases y with
   | non=>cases ry;exact PySem.EqNone.ne_bool_none (zT I q (by simp))
   | bl j=>cases ry;exact ne_bool (zT I q (congrArg not dec_bl))
   | str j=>obtain⟨t',rfl⟩:=ry;exact PySem.EqMixed.ne_bool_str (zT I q (by simp))
   | _=>exact absurd (show false=true from hs) Bool.false_ne_true
 | int i =>
   obtain⟨t,rfl⟩:=rx
   cases y with
   | non=>cases ry;exact PySem.EqNone.ne_int_none (zT I q (by simp))
   | int j=>obtain⟨t',rfl⟩:=ry;exact ne_int (zT I q (congrArg not dec_int))
   | str j=>obtain⟨t',rfl⟩:=ry;exact PySem.EqMixed.ne_int_str (zT I q (by simp))
   | _=>exact absurd (show false=true from hs) Bool.false_ne_true
 | str i =>
   obtain⟨t,rfl⟩:=rx
   cases y with
   | non=>cases ry;exact PySem.EqNone.ne_str_none (zT I q (by simp))
   | bl j=>cases ry;exact PySem.EqMixed.ne_str_bool (zT I q (by simp))
   | int j=>obtain⟨t',rfl⟩:=ry;exact PySem.EqMixed.ne_str_int (zT I q (by simp))
   | str j=>obtain⟨t',rfl⟩:=ry;exact ne_str (zT I q (congrArg not dec_str))
   | _=>exact absurd (show false=true from hs) Bool.false_ne_true
 | byt i =>
   obtain⟨t,rfl⟩:=rx
   cases y with
   | byt j=>obtain⟨t',rfl⟩:=ry;exact PySem.W.ne_bytes (zT I q (congrArg not dec_byt))
   | _=>exact absurd (show false=true from hs) Bool.false_ne_true
 | _=>cases y <;> exact absurd (show false=true from hs) Bool.false_ne_true
theorem op_lt:OpR X (compareOp .Lt) (rI0 fun i j=>.bl (decide (i<j))):=opB0 fun _ _ _ _ _ _ _ q=>lt_int q
theorem zeR:OpR X (compareOp .LtE) (rI0 fun i j=>.bl (decide (i≤j))):=opB0 fun _ _ _ _ _ _ _ q=>le_int q
theorem zgU:OpR X (compareOp .Gt) (rI0 fun i j=>.bl (decide (j<i))):=opB0 fun _ _ _ _ _ _ _ q=>gt_int q
theorem op_ge:OpR X (compareOp .GtE) (rI0 fun i j=>.bl (decide (j≤i))):=opB0 fun _ _ _ _ _ _ _ q=>ge_int q
theorem op_isN:OpR X (compareOp .Is) (fun x y H Q=>y=.non∧Q (.bl (decide (x=.non))) H):=by
 intro pins s σ H x y v u Q I rx ry h
 obtain⟨rfl,q⟩:=h
 cases ry
 refine is_none_gen (zT I q ?_)
 cases x <;> first
  | (cases rx;rfl)
  | (obtain⟨t,rfl⟩:=rx;rfl)
theorem op_notN:OpR X (compareOp .IsNot) (fun x y H Q=>y=.non∧Q (.bl (!decide (x=.non))) H):=by
 intro pins s σ H x y v u Q I rx ry h
 obtain⟨rfl,q⟩:=h
 cases ry
 refine isnot_none_gen (zT I q ?_)
 cases x <;> first
  | (cases rx;rfl)
  | (obtain⟨t,rfl⟩:=rx;rfl)
theorem zp(b:Expr){op:CmpOp}(h:op ≠ .In:=by decide)(h2:op ≠ .NotIn:=by decide):behindInMarks op b=false:=by
 have e1:(op==CmpOp.In)=false:=by cases op <;> first | rfl | exact absurd rfl h
 have e2:(op==CmpOp.NotIn)=false:=by cases op <;> first | rfl | exact absurd rfl h2
 cases b <;> simp[behindInMarks,e1,e2]
theorem zbB{op:CmpOp}{r:R2}(ho:OpR X (compareOp op) r)(ha:PE X a ta)(hb:PE X b tb)(hm:behindInMarks op b=false):PE X (.Compare a [op] [b] pos) (tOp r ta tb):=by
 intro pins s σ H Q I h
 exact wpAny_Compare1 (binT ha hb I h fun v u s2 x y H2 I2 rx ry q=>ho pins s2 σ H2 x y v u Q I2 rx ry q) hm
inductive ITTest (x:V) (H':Hp) (Q:Bool→Hp→Prop):Prop
 | mk (k:_):x=.bl k→Q k H'→ITTest x H' Q
def tTest(t:TE):TT:=fun σ H Q=>t σ H fun x H'=>ITTest x H' Q
theorem zm{op:CmpOp}{r:R2}(ho:OpR X (compareOp op) r)(ha:PE X a ta)(hb:PE X b tb)(hm:behindInMarks op b=false):PT X (.Compare a [op] [b] pos) (tTest (tOp r ta tb)):=by
 intro pins s σ H Q I h
 refine wpAny_isTrue_Compare1 (thn (ha pins s σ H _ I h) fun v s1 ⟨x,H1,I1,r1,q1⟩=>thn (hb pins s1 σ H1 _ I1 q1) fun u s2 ⟨y,H2,I2,r2,q2⟩ =>
  thn (ho pins s2 σ H2 x y v u _ I2 r1 r2 q2) fun c s3 ⟨z,H3,I3,r3,k,e,q3⟩=>?_) hm
 subst e
 cases r3
 exact wpAny_truthy_bool ⟨H3,I3,q3⟩
def tChain(r r':R2)(ta tb tc:TE):TE:=fun σ H Q=>ta σ H fun x H1=>tb σ H1 fun y H2=>r x y H2 fun z H3=>∃k,z=.bl k ∧
 (if k=true then tc σ H3 fun w' H4=>r' y w' H4 Q else Q (.bl false) H3)
theorem zg5{op op':CmpOp}{r r':R2}(ho:OpR X (compareOp op) r)(ho':OpR X (compareOp op') r')(ha:PE X a ta)(hb:PE X b tb)(hc:PE X c tc)
 (hm:lastMarks [op,op'] [b,c]=false:=by with_unfolding_all rfl):PE X (.Compare a [op,op'] [b,c] pos) (tChain r r' ta tb tc):=by
 intro pins s σ H Q I h
 refine Compare_chain (thn (ha pins s σ H _ I h) fun v s1 ⟨x,H1,I1,r1,q1⟩=>chain_link (thn (hb pins s1 σ H1 _ I1 q1) fun u s2 ⟨y,H2,I2,r2,q2⟩ =>
  thn (ho pins s2 σ H2 x y v u _ I2 r1 r2 q2) fun d s3 ⟨z,H3,I3,r3,k,e,q3⟩=>?_)) hm
 subst e
 cases r3
 refine wpAny_truthy_bool ?_
 cases k with
 | false=>exact ite_ff ⟨.bl false,H3,I3,rfl,q3⟩
 | true=>exact ite_tt (chain_last (thn (hc pins s3 σ H3 _ I3 q3) fun w' s4 ⟨z',H4,I4,r4,q4⟩=>ho' pins s4 σ H4 y z' u w' Q I4 r2 r4 q4))
theorem zfB:(sizeLine:Nat)<2 ^ 63:=by rw[sizeLine_eq];decide
inductive IOp_add_str (x y:V) (H:Hp) (Q:VK):Prop
 | mk (i:_) (j:_):x=.str i→y=.str j→i.length+j.length≤sizeLine→Q (.str (i++j)) H→IOp_add_str x y H Q
theorem zdd:OpR X (binaryOp .Add) IOp_add_str:=by
 intro pins s σ H x y v u Q I rx ry h
 obtain⟨i,j,rfl,rfl,hz,q⟩:=h
 obtain⟨t,rfl⟩:=rx
 obtain⟨t',rfl⟩:=ry
 exact add_str (fun t' tk=>⟨.str (i++j),H,I.tok _,⟨_,rfl⟩,q⟩) hz
theorem vals1{x:V}{us:List Value}(r:Vals [x] us):∃u,us=[u]∧RelV x u:=by
 cases r with
 | cons r1 r2=>cases r2;exact⟨_,rfl,r1⟩
theorem vals2{x y:V}{us:List Value}(r:Vals [x,y] us):∃u w',us=[u,w']∧RelV x u∧RelV y w':=by
 cases r with
 | cons r1 r2 =>
   cases r2 with
   | cons r3 r4=>cases r4;exact⟨_,_,rfl,r1,r3⟩
inductive ICall_min2 (xs:List V) (H:Hp) (Q:VK):Prop
 | mk (i:_) (j:_):xs=[.int i,.int j]→(Q (.int (if j<i then j else i)) H)→ICall_min2 xs H Q
theorem call_min2(hc:X.calm=true):zam X (.builtin "min") ICall_min2:=by
 intro pins s σ H xs us Q I r h
 obtain⟨i,j,rfl,q⟩:=h
 obtain⟨u,w',rfl,⟨t,rfl⟩,⟨t',rfl⟩⟩:=vals2 r
 refine min_two_ints (I.ok.hd hc) fun h' tk k=>⟨_,H,I.kept k,?_,q⟩
 by_cases hj:j<i
 ·rw[if_pos hj,if_pos hj];exact⟨_,rfl⟩
 ·rw[if_neg hj,if_neg hj];exact⟨_,rfl⟩
def LenV(K:Frag)(x:V)(H:Hp)(n:Nat):Prop :=
 match x with
 | .str y=>y.length≤sizeLine∧n=y.length
 | .byt y=>y.size≤sizeLine∧n=y.size
 | .ref p=>(∃xs,SqL K H p xs∧n=xs.length)∨∃xs,SqT K H p xs∧n=xs.length
 | _=>False
theorem call_len:zam X (.builtin "len") (fun xs H Q=>∃x n,xs=[x]∧LenV X.K x H n∧Q (.int n) H):=by
 intro pins s σ H xs us Q I r h
 obtain⟨x,n,rfl,e,q⟩:=h
 obtain⟨u,rfl,rx⟩:=vals1 r
 have hl:=zfB
 have hs:sizeLine=16777216:=sizeLine_eq
 cases x with
 | str y =>
   obtain⟨t,rfl⟩:=rx
   obtain⟨hy,e'⟩:y.length≤sizeLine∧n=y.length:=e
   subst e'
   exact len_str (by omega) ⟨.int _,H,I.tok _,⟨_,rfl⟩,q⟩
 | byt y =>
   obtain⟨t,rfl⟩:=rx
   obtain⟨hy,e'⟩:y.size≤sizeLine∧n=y.size:=e
   subst e'
   exact PySem.W.len_bytes (by omega) ⟨.int _,H,I.tok _,⟨_,rfl⟩,q⟩
 | ref p =>
   cases rx
   have e':(∃xs,SqL X.K H p xs∧n=xs.length)∨∃xs,SqT X.K H p xs∧n=xs.length:=e
   rcases e' with⟨xs,hx,e'⟩|⟨xs,hx,e'⟩
   ·subst e'
    obtain⟨its,r',pl,hz⟩:=I.list hx
    have hlen:=r'.length
    exact Calls.call_len_list pl.isList (by simp only[size_toArray];omega) ⟨.int xs.length,H,I.tok _,⟨_,by simp only[size_toArray];rw[hlen]⟩,q⟩
   ·subst e'
    obtain⟨its,r',pl,hz⟩:=I.tuple hx
    have hlen:=r'.length
    exact len_tuple pl (by simp only[size_toArray];omega) ⟨.int xs.length,H,I.tok _,⟨_,by simp only[size_toArray];rw[hlen]⟩,q⟩
 | _=>exact(show False from e).elim
end
structure ObjM (h:Heap) (x dx C:Addr) (mA:Str→Option Value):Prop where
 obj:h.get? x=some (instObj C dx)
 ns:h.Ns1 dx mA
 ne:dx≠x
theorem lookIn_ns{h:Heap}{dx:Addr}{mA:Str→Option Value}(n:h.Ns1 dx mA):∃od,h.get? dx=some od∧∀name,lookIn name od=some (mA name):=by
 obtain⟨o,es,ep,ho,hd,hk,_,hm⟩:=n
 refine⟨o,ho,fun name=>?_⟩
 have e:=hm name
 unfold nsFind findBy at e
 rw[←Array.find?_toList] at e
 unfold lookIn
 rw[hd]
 dsimp only
 split
 ·rename_i y q
  rw[q] at e
  exact congrArg some e
 ·rename_i q
  rw[q] at e
  have a:es.toList.any (·.refKey)=false:=by
   rw[List.any_eq_false]
   intro y hy
   obtain⟨z,t,hkey⟩:=hk y (Array.mem_toList_iff.mp hy)
   simp[DictEntry.refKey,hkey]
  have a':¬es.toList.any (·.refKey)=true:=by rw[a];exact Bool.false_ne_true
  rw[if_neg a']
  exact congrArg some e
theorem ObjM.look{h:Heap}{x dx C:Addr}{mA:Str→Option Value}(I:ObjM h x dx C mA):∃od,InstAt h x (instObj C dx) C (some od)∧∀name,lookIn name od=some (mA name) :=
 let ⟨od,ho,hl⟩:=lookIn_ns I.ns
 ⟨od,⟨I.obj,rfl,rfl,ho⟩,hl⟩
section
variable {prog:Program}{w:World}{A:Around}{E:Value→Shared→Prop}{s:Shared}{K:Frag}{x dx C f:Addr}{mA:Str→Option Value}{name:Str}{v:Value}
theorem get_map{expr:Bool}{Q:Value→Shared→Prop}(X:K.In s.heap)(I:ObjM s.heap x dx C mA)(hg:plainGet K C name=true)(hh:hasDictIn K C=true)
 (ha:findIn K (.ref C) name=some none) (hv:mA name=some v) (hv':handedIn v=true) (h:Q v { s with toks:=s.toks+1 }) :
 wpAny (model prog w) A (getAttr (.ref x) name expr) Q E s:=by
 obtain⟨od,J,hl⟩:=I.look
 exact PySem.W.get_value X J (plainGet_of hg).1 (PySem.W.findObj_own hh ha rfl (by rw[hl,hv])) hv' h
theorem get_meth{pl:Sem Bool}{Q:Value×List Value→Shared→Prop}(X:K.In s.heap)(I:ObjM s.heap x dx C mA)(hg:plainGet K C name=true)
 (hf:findIn K (.ref C) name=some (some (.ref f))) (ht:isFn K (.ref f)=true) (hv:mA name=none) (h:Q (.ref f,[.ref x]) s) :
 wpAny (model prog w) A (getMethod (.ref x) name pl) Q E s:=by
 obtain⟨od,J,hl⟩:=I.look
 exact PySem.W.method_fn X J (plainGet_of hg).1 (plainGet_of hg).2 hf (beq_iff_eq.mp ht) (by show(lookIn name od).map (·.isSome)=some false;rw[hl,hv];rfl) h
theorem set_map{ns:List Str}{Q:Unit→Shared→Prop}(X:K.In s.heap)(I:ObjM s.heap x dx C mA)
 (hs:findIn K (.ref C) "__setattr__"=some (some (.builtin "object.__setattr__"))) (hp:plainOver K C=true) (ht:takerIn K C name=some none) (hh:hasDictIn K C=true)
 (hw:PySem.Within mA ns) (hsz:ns.length≤sizeLine)
 (h:∀h',ObjM h' x dx C (fun y=>if y=name then some v else mA y)→SameBut dx s.heap h'→Q () { s with heap:=h',toks:=s.toks+2 }) :
 wpAny (model prog w) A (setAttr (.ref x) name v) Q E s:=by
 obtain⟨od,J,hl⟩:=I.look
 refine PySem.W.set_plain X J hs (PySem.W.osa_open (s:={ s with toks:=s.toks+1 }) (r:=none) X J hp ht fun b=>?_)
 obtain⟨cd,hc,hd'⟩:=PySem.W.any_some hh
 have hx:s.heap.get? x=some ⟨.ref C,some dx,.plain,#[]⟩:=I.obj
 refine wpAny_bind (wpAny_pure (wpAny_bind (wpAny_bind (wpAny_loadPart hx (wpAny_bind (PySem.W.Looks.here (s:={ s with toks:=s.toks+1 }) (PySem.W.looks_clsIn X hc) ?_))))))
 rw[hd']
 refine wpAny_pure (a:=some dx) (wpAny_bind (wpAny_pure (wpAny_bind ?_)))
 refine wpAny_nsSet1 (s:={ s with toks:=s.toks+1 }) I.ns fun h' hn2 hs2=>?_
 obtain⟨oD,esD,epD,hoD,hdD,hcD⟩:=hn2.count (PySem.Within.cons name v hw)
 refine wpAny_bind (wpAny_lookBehind hoD (by rw[hdD];exact pastItsLine_dict (le_trans hcD (by rw[length_cons];omega))) ?_)
 exact wpAny_pure (h _ ⟨(hs2.2 _ (Ne.symm I.ne)).trans I.obj,hn2,I.ne⟩ hs2)
theorem make_map{R:Result→Shared→Prop}{vs:List Value}{kw:List (Str×Value)}(X:K.In s.heap)(hm:makesIn K C=true)
 (hi:findIn K (.ref C) "__init__"=some (some (.ref f))) (hf:typeIn K (.ref f)=some (.type "function"))
 (h:codeAny (model prog w) (A.under (.builtin "type.__call__" ⟨.ref C::vs,kw⟩)) (.call (.ref f) ⟨.ref (s.heap.objs.size+1)::vs,kw⟩) (PySem.W.InitBack (s.heap.objs.size+1) R)
   { s with heap:=(s.heap.push emptyDict).push (instObj C s.heap.objs.size) }) :
 codeAny (model prog w) A (.call (.ref C) ⟨vs,kw⟩) R s:=by
 obtain⟨hh,g,d,t,os⟩:=s
 exact PySem.W.make_core (PySem.W.makes_of X hm) (PySem.W.looks_findIn X hi) (fun self=>PySem.W.bind_fn X self hf) (.inl rfl) h
end
def zah(f:Str)(v:V):List (Str×V)→List (Str×V)
 | []=>[(f,v)]
 | (g,x)::r=>if g=f then(g,v)::r else(g,x)::zah f v r
theorem zfW(f g:Str)(v:V):∀fs:List (Str×V),(zah f v fs).lookup g=if g=f then some v else fs.lookup g
 | []=>by
   show List.lookup g [(f,v)]=_
   by_cases h:g=f
   ·have hb:(g==f)=true:=beq_iff_eq.mpr h
    simp only[List.lookup,hb,if_pos h]
   ·have hb:(g==f)=false:=beq_eq_false_iff_ne.mpr h
    simp only[List.lookup,hb,if_neg h]
 | (k,x)::r=>by
   have ih:=zfW f g v r
   rw[show zah f v ((k,x)::r)=(if k=f then(k,v)::r else(k,x)::zah f v r)from rfl]
   by_cases hk:k=f
   ·rw[if_pos hk]
    by_cases h:g=k
    ·have hb:(g==k)=true:=beq_iff_eq.mpr h
     simp only[List.lookup,hb,if_pos (h.trans hk)]
    ·have hb:(g==k)=false:=beq_eq_false_iff_ne.mpr h
     simp only[List.lookup,hb,if_neg (fun e:g=f=>h (e.trans hk.symm))]
   ·rw[if_neg hk]
    by_cases h:g=k
    ·have hb:(g==k)=true:=beq_iff_eq.mpr h
     simp only[List.lookup,hb,if_neg (fun e:g=f=>hk (h.symm.trans e))]
    ·have hb:(g==k)=false:=beq_eq_false_iff_ne.mpr h
     simp only[List.lookup,hb]
     exact ih
theorem zfH(f:Str)(v:V):∀fs:List (Str×V),f∈(zah f v fs).map (·.1)∧∀g,g∈fs.map (·.1)→g∈(zah f v fs).map (·.1)
 | []=>⟨by simp[zah],fun g h=>by simp at h⟩
 | (k,x)::r=>by
   obtain⟨i1,i2⟩:=zfH f v r
   rw[show zah f v ((k,x)::r)=(if k=f then(k,v)::r else(k,x)::zah f v r)from rfl]
   by_cases hk:k=f
   ·rw[if_pos hk]
    subst hk
    exact⟨by simp,fun g h=>by simpa using h⟩
   ·rw[if_neg hk]
    refine⟨?_,fun g h=>?_⟩
    ·rw[map_cons]
     exact mem_cons_of_mem _ i1
    ·rw[map_cons] at h ⊢
     rcases List.mem_cons.mp h with e | e
     ·exact List.mem_cons.mpr (.inl e)
     ·exact mem_cons_of_mem _ (i2 g e)
theorem zfX(f:Str)(v:V):∀fs:List (Str×V),(zah f v fs).length≤fs.length+1
 | []=>by simp[zah]
 | (k,x)::r=>by
   have ih:=zfX f v r
   rw[show zah f v ((k,x)::r)=(if k=f then(k,v)::r else(k,x)::zah f v r)from rfl]
   by_cases hk:k=f
   ·rw[if_pos hk,length_cons,length_cons];omega
   ·rw[if_neg hk,length_cons,length_cons];omega
theorem RelO.some_of{v:V}{o:Option Value}(r:RelO (some v) o):∃u,o=some u∧RelV v u:=by
 cases o with
 | none=>exact(show False from r).elim
 | some u=>exact⟨u,rfl,r⟩
theorem RelO.none_of{o:Option Value}(r:RelO none o):o=none:=by
 cases o with
 | none=>rfl
 | some u=>exact(show False from r).elim
theorem handed_of{v:V}{u:Value}(r:RelV v u):handedIn u=true:=by
 cases v with
 | non=>cases (show u=Value.none from r);rfl
 | bl b=>cases (show u=Value.bool b from r);rfl
 | int i=>obtain⟨t,e⟩:=(show ∃t,u=Value.int i t from r);cases e;rfl
 | str x=>obtain⟨t,e⟩:=(show ∃t,u=Value.str x t from r);cases e;rfl
 | byt b=>obtain⟨t,e⟩:=(show ∃t,u=Value.bytes b t from r);cases e;rfl
 | flt b=>obtain⟨t,e⟩:=(show ∃t,u=Value.float b t from r);cases e;rfl
 | ref a=>cases (show u=Value.ref a from r);rfl
 | ty n=>cases (show u=Value.type n from r);rfl
section
variable {P:Program}{w:World}{H H':Hp}{h h':Heap}{a C dx:Addr}{fs fs':List (Str×V)}
theorem zic(hok:HOk P w H h)(e:H a=some (.ins C dx fs)):∃mA,ObjM h a dx C mA∧(∀f,RelO (fs.lookup f) (mA f))∧PySem.Within mA (fs.map (·.1))∧fs.length≤1000∧H dx=some (.own a):=by
 obtain⟨d,z,ne,ob,mA,n,r,q⟩:=(show ObjOk P w H h a (.ins C dx fs)from hok a _ e)
 exact⟨mA,⟨ob,n,ne⟩,r,q,z,d⟩
end
structure Cls (K:Frag) (C:Addr):Prop where
 pg:plainGet K C Str.empty=true
 hd:hasDictIn K C=true
 po:plainOver K C=true
 sa:findIn K (.ref C) "__setattr__"=some (some (.builtin "object.__setattr__"))
theorem Cls.get{K:Frag}{C:Addr}(c:Cls K C)(f:Str):plainGet K C f=true:=c.pg
def NoAttr(K:Frag)(C:Addr)(f:Str):Prop:=findIn K (.ref C) f=some none
theorem NoAttr.taker{K:Frag}{C:Addr}{f:Str}(n:NoAttr K C f):takerIn K C f=some none:=by
 unfold takerIn
 rw[show findIn K (.ref C) f=some none from n]
 rfl
structure Meth (K:Frag) (C:Addr) (m:Str) (f:Addr):Prop where
 at_:findIn K (.ref C) m=some (some (.ref f))
 fn:isFn K (.ref f)=true
 kp:keepIn K (.ref f)=true
section
variable {X:Cx}{pins:List (Addr×Obj)}{σ:St}{H:Hp}{s:Shared}{a C dx:Addr}{fs:List (Str×V)}{f:Str}{v:V}{A:Around}{E:Value→Shared→Prop}
theorem getattr_ok{b:Bool}{Q:Value→Shared→Prop}(I:Inv X pins σ H s)(e:H a=some (.ins C dx fs))(c:Cls X.K C)(n:NoAttr X.K C f)(l:fs.lookup f=some v)
 (h:∀u s',Inv X pins σ H s'→RelV v u→Q u s'):wpAny (model X.prog X.w) A (getAttr (.ref a) f b) Q E s:=by
 obtain⟨mA,O,r,_,_,_⟩:=zic I.hok e
 obtain⟨u,hu,ru⟩:=RelO.some_of (v:=v) (o:=mA f) (by rw[←l];exact r f)
 exact get_map I.kIn O (c.get f) c.hd n hu (handed_of ru) (h u _ (I.tok _) ru)
theorem zeB{m:Str}{g:Addr}{pl:Sem Bool}{Q:Value×List Value→Shared→Prop}(I:Inv X pins σ H s)(e:H a=some (.ins C dx fs))(c:Cls X.K C)(k:Meth X.K C m g)(l:fs.lookup m=none)
 (h:Q (.ref g,[.ref a]) s):wpAny (model X.prog X.w) A (getMethod (.ref a) m pl) Q E s:=by
 obtain⟨mA,O,r,_,_,_⟩:=zic I.hok e
 have hn:mA m=none:=RelO.none_of (by rw[←l];exact r m)
 exact get_meth I.kIn O (c.get m) k.at_ k.fn hn h
theorem setattr_ok{y:V}{u:Value}{Q:Unit→Shared→Prop}(I:Inv X pins σ H s)(e:H a=some (.ins C dx fs))(c:Cls X.K C)(n:NoAttr X.K C f)(hl:fs.length<1000)(ry:RelV y u)
 (h:∀s',Inv X pins σ (upd H a (.ins C dx (zah f y fs))) s'→Q () s'):wpAny (model X.prog X.w) A (setAttr (.ref a) f u) Q E s:=by
 obtain⟨mA,O,r,wi,_,ho⟩:=zic I.hok e
 have hz:(fs.map (·.1)).length≤sizeLine:=by rw[length_map,sizeLine_eq];omega
 refine set_map I.kIn O c.sa c.po n.taker c.hd wi hz fun h' O' sb=>h _ ?_
 have hd:∃o,h'.get? dx=some o:=let ⟨o,_,_,e',_⟩:=O'.ns;⟨o,e'⟩
 refine I.write (x:=a) (e:=dx) (by rw[e];exact True.intro) (.inr ho) (fun b q hb z=>(sb.2 b hb).trans z) hd ?_
 refine⟨by rw[zi O.ne];exact ho,?_,O.ne,O'.obj,_,O'.ns,fun g=>?_,fun g hg=>?_⟩
 ·have:=zfX f y fs;omega
 ·show RelO ((zah f y fs).lookup g) (if g=f then some u else mA g)
  rw[zfW]
  by_cases q:g=f
  ·rw[if_pos q,if_pos q];exact ry
  ·rw[if_neg q,if_neg q];exact r g
 ·by_cases q:g=f
  ·rw[q];exact(zfH f y fs).1
  ·refine(zfH f y fs).2 g (wi g fun z=>hg ?_)
   show(if g=f then some u else mA g)=none
   rw[if_neg q];exact z
theorem Inv.made(I:Inv X pins σ H s):Inv X pins σ (upd (upd H s.heap.objs.size (.own (s.heap.objs.size+1))) (s.heap.objs.size+1) (.ins C s.heap.objs.size []))
 { s with heap:=(s.heap.push emptyDict).push (instObj C s.heap.objs.size) }:=by
 have e1:(s.heap.push emptyDict).get? s.heap.objs.size=some emptyDict:=get?_push_size s.heap rfl
 have e2:((s.heap.push emptyDict).push (instObj C s.heap.objs.size)).get? (s.heap.objs.size+1)=some (instObj C s.heap.objs.size):=by
  have:=get?_push_size (s.heap.push emptyDict) (o:=instObj C s.heap.objs.size) rfl
  rwa [size_push] at this
 have e3:(s.heap.push emptyDict).Ns s.heap.objs.size (fun _=>none):=⟨emptyDict,#[],_,e1,rfl,(fun e he=>absurd he (by simp)),fun _=>rfl⟩
 have I1:=I.laid (a:=s.heap.objs.size) (o:=.own (s.heap.objs.size+1)) (h':=s.heap.push emptyDict) (t':=s.toks) (fun b u q=>get?_push_of_some _ q) (le_refl _) ⟨_,e1⟩
 refine I1.laid (a:=s.heap.objs.size+1) (o:=.ins C s.heap.objs.size []) (t':=s.toks) (fun b u q=>get?_push_of_some _ q) (le_of_eq (size_push _ _)) ?_
 have ne:s.heap.objs.size≠s.heap.objs.size+1:=ne_of_lt (lt_succ_self _)
 refine⟨by rw[zi ne,zd],zero_le _,ne,e2,fun _=>none,(Heap.Ns1.of_empty e3).at fun o q=>get?_push_of_some _ q,fun _=>True.intro,fun y hy=>absurd rfl hy⟩
theorem attr_of{prog:Program}{w:World}{env:Env}{e:Expr}{f:Str}{pos:Pos}{s:Shared}{Q:Value→Shared→Prop}(hb:attributeBase e f env (eval e env)=eval e env)
 (h:wpAny (model prog w) A (eval e env) (fun o s₁=>wpAny (model prog w) A (getAttr o f true) Q E s₁) E s):wpAny (model prog w) A (eval (.Attribute e f pos) env) Q E s :=
 Attribute_any_ h (by rw[arm_eval_Attribute,hb])
end
inductive ITFld (K:Frag) (f:Str) (x:V) (H1:Hp) (Q:VK):Prop
 | mk (a:_) (C:_) (dx:_) (fs:_) (v:_):x=.ref a→H1 a=some (.ins C dx fs)→Cls K C→NoAttr K C f→fs.lookup f=some v→Q v H1→ITFld K f x H1 Q
def tFld(K:Frag)(ta:TE)(f:Str):TE:=fun σ H Q=>ta σ H fun x H1=>ITFld K f x H1 Q
def sFld(K:Frag)(ta tv:TE)(f:Str):TS:=fun D σ H=>tv σ H fun y H1=>ta σ H1 fun x H2=>∃a C dx fs,x=.ref a∧H2 a=some (.ins C dx fs)∧Cls K C∧NoAttr K C f∧fs.length<1000 ∧
 D.nx σ (upd H2 a (.ins C dx (zah f y fs)))
section
variable {X:Cx}{o e value:Expr}{f:Str}{pos pos' tpos:Pos}{ta tv:TE}
theorem yF(he:PE X e ta)(hb:attributeBase e f X.env (eval e X.env)=eval e X.env):PE X (.Attribute e f pos) (tFld X.K ta f):=by
 intro pins s σ H Q I h
 refine attr_of hb (thn (he pins s σ H _ I h) fun u s1 ⟨x,H1,I1,rx,a,C,dx,fs,v,ex,ea,c,n,l,q⟩=>?_)
 subst ex
 obtain rfl:u=Value.ref a:=rx
 exact getattr_ok I1 ea c n l fun u' s2 I2 ru=>⟨v,H1,I2,ru,q⟩
theorem zd5(ha:PE X o ta)(hv:PE X value tv)(hs:swapsWith value (some (.Attribute o f pos')) pos.line X.env=pure false):PS X (.Assign [.Attribute o f pos'] value pos) (sFld X.K ta tv f):=by
 intro pins s σ H D I h
 refine plainObj_wpAny_Assign_Attribute (thn (hv pins s σ H _ I h) fun u s1 ⟨y,H1,I1,ry,q⟩=>thn (ha pins s1 σ H1 _ I1 q) fun ov s2 ⟨x,H2,I2,rx,a,C,dx,fs,ex,ea,c,n,l,q2⟩=>?_) hs
 subst ex
 obtain rfl:ov=Value.ref a:=rx
 exact setattr_ok I2 ea c n l ry fun s3 I3=>⟨σ,_,I3,q2⟩
end
section
variable {X:Cx}{pins:List (Addr×Obj)}{σ:St}{H:Hp}{s:Shared}{A:Around}{E:Value→Shared→Prop}{Q:Value→Shared→Prop}{c:Value}{b:Bool}
end
structure Room (k:Nat) (A:Around):Prop where
 hd:A.handled=none
 dp:A.depth+3*k+5<recursionLimit
 un:A.units+16*k+200<cLine
theorem Room.mono{j k:Nat}{A:Around}(r:Room k A)(h:j≤k):Room j A:=⟨r.hd,by have:=r.dp;omega,by have:=r.un;omega⟩
theorem hM{j k:Nat}{A:Around}(r:Room k A)(h:j≤k:=by decide):Room j A:=r.mono h
theorem Room.deeper{k:Nat}{A:Around}(r:Room (k+1) A)(env:Env):Room k (A.deeper env) :=
 ⟨r.hd,by have:=r.dp;show A.depth+1+3*k+5<_;omega,by have:=r.un;show A.units+3+16*k+200<_;omega⟩
theorem Room.in1{k:Nat}{A:Around}(r:Room (k+1) A):Room k A.in1 :=
 ⟨r.hd,by have:=r.dp;show A.depth+3*k+5<_;omega,by have:=r.un;show A.units+1+16*k+200<_;omega⟩
theorem zkk{A:Around}{C:Addr}{us:List Value}{kw:List (Str×Value)}:(A.under (.builtin "type.__call__" ⟨.ref C::us,kw⟩)).depth=A.depth+1:=by
 first | rfl | simp[Around.under,Code.weight,Code.isCreation,Code.isGuard,Code.isCaller,Code.frames,Code.isFrame,guardIds]
theorem make_units{A:Around}{C:Addr}{us:List Value}{kw:List (Str×Value)}:(A.under (.builtin "type.__call__" ⟨.ref C::us,kw⟩)).units=A.units+1:=by
 first | rfl | simp[Around.under,Code.cUnits,Code.frames,Code.isFrame]
theorem Room.make{k:Nat}{A:Around}(r:Room (k+1) A)(C:Addr)(us:List Value)(kw:List (Str×Value)):Room k (A.under (.builtin "type.__call__" ⟨.ref C::us,kw⟩)) :=
 ⟨r.hd,by have:=r.dp;rw[zkk];omega,by have:=r.un;rw[make_units];omega⟩
theorem Room.depth{k:Nat}{A:Around}(r:Room k A):A.depth<recursionLimit:=by have:=r.dp;omega
theorem Room.units{k:Nat}{A:Around}(r:Room k A):A.units+64<cLine:=by have:=r.un;omega
theorem Room.units0{k:Nat}{A:Around}(r:Room k A):A.units<cLine:=by have:=r.un;omega
def tNil:TA:=fun _ H Q=>Q [] H
def tCons(ta:TE)(tr:TA):TA:=fun σ H Q=>ta σ H fun x H1=>tr σ H1 fun xs H2=>Q (x::xs) H2
section
variable {X:Cx}{e:Expr}{es:List Expr}{te:TE}{t:TA}{pos:Pos}
theorem zb:PA X [] tNil:=fun _ _ _ _ H Q I h=>Calls.spliced_nil ⟨[],H,I,.nil,h⟩
theorem za(ha:PE X e te)(hr:PA X es t)(hs:starEach (e::es) X.env=(false,eval e X.env)::starEach es X.env:=by rfl):PA X (e::es) (tCons te t):=by
 intro pos pins s σ H Q I h
 rw[hs]
 show wpAny _ _ (spliced ((false,eval e X.env)::backTo pos (starEach es X.env))) _ _ s
 refine Calls.spliced_cons (thn (ha pins s σ H _ I h) fun u s1 ⟨x,H1,I1,r1,q1⟩=>?_)
 exact thn (hr pos pins s1 σ H1 _ I1 q1) fun us s2 ⟨xs,H2,I2,r2,q2⟩=>⟨x::xs,H2,I2,.cons r1 r2,q2⟩
def tTup(t:TA):TE:=fun σ H Q=>t σ H fun xs H1=>xs.length≤sizeLine∧∀p,H1 p=none→Q (.ref p) (upd H1 p (.tup xs))
def tLst(t:TA):TE:=fun σ H Q=>t σ H fun xs H1=>xs.length≤sizeLine∧∀p,H1 p=none→Q (.ref p) (upd H1 p (.lst xs))
theorem zb9{x1}(h:PA X es t):PE X (.Tuple es x1 pos) (tTup t):=by
 intro pins s σ H Q I hq
 refine wpAny_Tuple_spliced (thn (h pos pins s σ H _ I hq) fun us s1 ⟨xs,H1,I1,r,z,q⟩=>⟨by rw[←r.length];exact z,?_⟩)
 have hf:H1 s1.heap.objs.size=none:=I1.hok.fresh (le_refl _)
 refine⟨.ref s1.heap.objs.size,upd H1 s1.heap.objs.size (.tup xs),I1.laid (t':=s1.toks) (fun b u e=>get?_push_of_some _ e) (le_refl _) ?_,rfl,q _ hf⟩
 exact⟨z,us,r,⟨_,get?_push_size _ rfl,rfl,_,rfl⟩⟩
theorem ye(h:PA X es t):PE X (.List es pos) (tLst t):=by
 intro pins s σ H Q I hq
 refine wpAny_List_spliced (thn (h pos pins s σ H _ I hq) fun us s1 ⟨xs,H1,I1,r,z,q⟩=>⟨by rw[←r.length];exact z,?_⟩)
 have hf:H1 s1.heap.objs.size=none:=I1.hok.fresh (le_refl _)
 refine⟨.ref s1.heap.objs.size,upd H1 s1.heap.objs.size (.lst xs),I1.laid (t':=s1.toks) (fun b u e=>get?_push_of_some _ e) (le_refl _) ?_,rfl,q _ hf⟩
 exact⟨z,us,0,r,get?_push_size _ rfl⟩
end
abbrev Sp:=List V→Hp→VK→XK→Prop
abbrev CXT:=List Env→Hp→Shared→XK→Value→Shared→Prop
structure Env0 (P:Program) (w:World) (K:Frag) (mg:Str→Option Value) (base:Heap) (A:Around) (outer:List Env) (s:Shared) (H:Hp):Prop where
 frames:A.frames=some outer
 mod:Mod K mg base
 bs:∀b o,base.get? b=some o→s.heap.get? b=some o∧H b=none
 bsz:base.objs.size≤s.heap.objs.size
 funs:s.heap.FunFrames base outer
 frf:∀b∈frs outer,H b=none
 hok:HOk P w H s.heap
 bare:AllBare s.gens
def CE(outer:List Env)(P:Program)(w:World)(H:Hp)(s:Shared)(Q:VK)(u:Value)(s':Shared):Prop :=
 ∃v H',s'.os=s.os∧AllBare s'.gens∧Un (frs outer) [] H H' s.heap s'.heap∧HOk P w H' s'.heap∧RelV v u∧Q v H'
def CR(CX:CXT)(outer:List Env)(P:Program)(w:World)(H:Hp)(s:Shared)(Q:VK)(E:XK)(r:Result)(s':Shared):Prop :=
 match r with
 | .ok (.ret u)=>CE outer P w H s Q u s'
 | .ok _=>False
 | .error e=>CX outer H s E e s'
structure FnOk (P:Program) (w:World) (K:Frag) (mg:Str→Option Value) (base:Heap) (CX:CXT) (k:Nat) (f:Addr) (fd:FuncData) (ps:List Str) (sp:Sp):Prop where
 len:∀vs H Q E,sp vs H Q E→vs.length=ps.length
 run:∀(A:Around)(outer:List Env)(s:Shared)(H:Hp)(args:Args)(us:List Value)(vs:List V)(Q:VK)(E:XK),Room k A→Env0 P w K mg base A outer s H→BindsTo s fd args (ps.zip us)→Vals vs us→sp vs H Q E →
  codeAny (model P w) A (.call (.ref f) args) (CR CX outer P w H s Q E) s
theorem Env0.make{P:Program}{w:World}{K:Frag}{mg:Str→Option Value}{base:Heap}{A:Around}{outer:List Env}{s:Shared}{H:Hp}(e:Env0 P w K mg base A outer s H)(C:Addr)(us:List Value)(kw:List (Str×Value)):
 Env0 P w K mg base (A.under (.builtin "type.__call__" ⟨.ref C::us,kw⟩)) outer s H:=⟨by first | exact e.frames | (simpa [Around.under,Code.envs,Code.isFrame,pushEnvs] using e.frames),e.mod,e.bs,e.bsz,e.funs,e.frf,e.hok,e.bare⟩
theorem Env0.in1{P:Program}{w:World}{K:Frag}{mg:Str→Option Value}{base:Heap}{A:Around}{outer:List Env}{s:Shared}{H:Hp}(e:Env0 P w K mg base A outer s H):
 Env0 P w K mg base A.in1 outer s H:=⟨e.frames,e.mod,e.bs,e.bsz,e.funs,e.frf,e.hok,e.bare⟩
section
variable {X:Cx}{pins:List (Addr×Obj)}{σ:St}{H:Hp}{s s':Shared}
theorem Inv.env0(I:Inv X pins σ H s):Env0 X.prog X.w X.K X.mg X.base X.A X.stack s H :=
 ⟨I.ok.frames,I.ok.mod,I.bs,le_trans I.ok.bsz I.sz,I.stack,I.stkFree,I.hok,I.bare⟩
theorem Inv.after{Q:VK}{u:Value}(I:Inv X pins σ H s)(h:CE X.stack X.prog X.w H s Q u s'):EP X pins σ Q u s':=by
 obtain⟨v,H',os,bare,un,hok,r,q⟩:=h
 obtain⟨hh,g,d,t,os'⟩:=s'
 obtain rfl:os'=s.os:=os
 exact⟨v,H',I.call (h':=hh) (g':=g) (d':=d) (t':=t) (ch:=[]) un hok bare (fun b z=>absurd z (by simp)),r,q⟩
end
def tCall(sp:Sp)(dvs:List V)(E:XK)(t:TA):TE:=fun σ H Q=>t σ H fun vs H1=>sp (vs++dvs) H1 Q E
inductive ITMeth (C:Addr) (m:Str) (sp:Sp) (dvs:List V) (E:XK) (t:TA) (σ:St) (x:V) (H1:Hp) (Q:VK):Prop
 | mk (a:_) (dx:_) (fs:_):x=.ref a→H1 a=some (.ins C dx fs)→fs.lookup m=none→(t σ H1 fun vs H2=>sp (x::(vs++dvs)) H2 Q E)→ITMeth C m sp dvs E t σ x H1 Q
def tMeth(C:Addr)(m:Str)(sp:Sp)(dvs:List V)(E:XK)(ta:TE)(t:TA):TE:=fun σ H Q=>ta σ H fun x H1=>ITMeth C m sp dvs E t σ x H1 Q
def Binds(K:Frag)(fd:FuncData)(ps:List Str)(ds:List Value):Prop :=
 ∀(s:Shared)(us:List Value),K.In s.heap→(us++ds).length=ps.length→BindsTo s fd ⟨us,[]⟩ (ps.zip (us++ds))
theorem Binds.all{K:Frag}{fd:FuncData}{ps:List Str}(h:∀us:List Value,us.length=ps.length→bindArgs fd ⟨us,[]⟩=pure (ps.zip us)):Binds K fd ps []:=fun s us _ hl=>by
 rw[append_nil] at hl ⊢
 exact .of_eq (h us hl)
def ziA(CX:CXT)(X:Cx)(E:XK):Prop:=∀(pins:List (Addr×Obj)) (σ:St) (H:Hp) (s:Shared) (e:Value) (s':Shared),Inv X pins σ H s→CX X.stack H s E e s'→X.xe e s'
section
variable {X:Cx}{CX:CXT}{k:Nat}{f C:Addr}{fd:FuncData}{ps:List Str}{sp:Sp}{dvs:List V}{ds:List Value}{E:XK}{x m:Str}{p pos apos:Pos}{e o:Expr}{es:List Expr}{ta:TE}{t:TA}
theorem run_fn{pins:List (Addr×Obj)}{σ:St}{H:Hp}{s:Shared}{Q:VK}{us:List Value}{vs:List V}(F:FnOk X.prog X.w X.K X.mg X.base CX k f fd ps sp)(hr:Room k X.A)(hb:Binds X.K fd ps ds)(hd:Vals dvs ds)(hx:ziA CX X E)
 (I:Inv X pins σ H s) (r:Vals vs us) (h:sp (vs++dvs) H Q E):wpAny (model X.prog X.w) X.A (call (.ref f) us) (EP X pins σ Q) X.xe s:=by
 have r2:Vals (vs++dvs) (us++ds):=r.append hd
 have hl:(us++ds).length=ps.length:=by rw[←r2.length];exact F.len _ _ _ _ h
 refine wpAny_call (codeAny_mono (F.run X.A X.stack s H ⟨us,[]⟩ (us++ds) (vs++dvs) Q E hr I.env0 (hb s us I.kIn hl) r2 h) fun r s' hq=>?_)
 cases r with
 | error e=>exact hx pins σ H s e s' I hq
 | ok fl =>
   cases fl with
   | ret u=>exact I.after hq
   | next=>exact False.elim hq
   | brk=>exact False.elim hq
   | cont=>exact False.elim hq
theorem pe_call(F:FnOk X.prog X.w X.K X.mg X.base CX k f fd ps sp)(hr:Room k X.A)(hg:Gl X x)(hm:X.mg x=some (.ref f))(hk:keepIn X.K (.ref f)=true)(hb:Binds X.K fd ps ds)(hd:Vals dvs ds)(hx:ziA CX X E)
 (ha:PA X (e::es) t) (hdb:(x==("__debug__":Str))=false:=by decide) (he:starEach (e::es) X.env=(false,eval e X.env)::starEach es X.env:=by rfl) (hpl:(backTo pos (starEach es X.env)).any (·.1)=false:=by rfl) :
 PE X (.Call (.Name x p) (e::es) [] pos) (tCall sp dvs E t):=by
 intro pins s σ H Q I h
 refine wpAny_Call_Name_kw (zeP I hg hm ?_ hdb)
 refine callWith_K (h₀:=X.base) I.ok.mod.kin hk (thn (ha pos pins s σ H _ I h) fun us s1 ⟨vs,H1,I1,r,q⟩=>⟨I1.kIn,?_⟩) he hpl
 exact run_fn F hr hb hd hx I1 r q
theorem pe_meth0{pl:Sem Bool}(he:PE X o ta)(c:Cls X.K C)(hm:Meth X.K C m f)(F:FnOk X.prog X.w X.K X.mg X.base CX k f fd ps sp)(hr:Room k X.A)(hb:Binds X.K fd ps ds)(hd:Vals dvs ds)(hx:ziA CX X E)
 (ht:eval (.Call (.Attribute o m apos) [] [] pos) X.env=(do
   let ov ←eval o X.env
   standAt apos.atName
   let (f,first) ←holding [ov] (getMethod ov m pl)
   callWith pos f first (backTo pos (starEach [] X.env)) (backToKw pos (keywordEach [] X.env))):=by rfl) :
 PE X (.Call (.Attribute o m apos) [] [] pos) (tMeth C m sp dvs E ta tNil):=by
 intro pins s σ H Q I h
 refine methodCall_KW (pl:=pl) (thn (he pins s σ H _ I h) fun u s1 ⟨x,H1,I1,rx,a,dx,fs,ex,ea,l,q⟩=>?_) ht
 subst ex
 obtain rfl:u=Value.ref a:=rx
 refine zeB I1 ea c hm l ?_
 exact callWith_K0 (first:=[.ref a]) I1.kIn hm.kp (run_fn (us:=[.ref a]) (vs:=[.ref a]) F hr hb hd hx I1 (.cons rfl .nil) q)
structure Mk (K:Frag) (C f:Addr):Prop where
 makes:makesIn K C=true
 init:findIn K (.ref C) "__init__"=some (some (.ref f))
 fn:isFn K (.ref f)=true
 kp:keepIn K (.ref C)=true
end
section
variable {X:Cx}{CX:CXT}{k:Nat}{f C:Addr}{fd:FuncData}{ps ks:List Str}{sp:Sp}{E:XK}{x m:Str}{p pos apos kpos:Pos}{e o:Expr}{es:List Expr}{kws:List Keyword}{te ta:TE}{t tk:TA}{nm:Option Str}
variable {g:List Value→List Value→List Value}{gV:List V→List V→List V}
end
structure FnScope (N P:List Str) (sc:Scope):Prop where
 kind:sc.kind=.function
 co:sc.isCoroutine=false
 gen:sc.isGenerator=false
 nd:N.Nodup
 pre:N.take P.length=P
 par:∀x∈P,sc.names.lookup x=some .local∨sc.names.lookup x=some .cell
 nofree:∀y∈sc.names,y.2 ≠ .free
theorem zh0{kindOf:Str→Option NameKind}{x:Str}:∀{binds:List (Str×Value)} {m:Str→Option Value},(∀v,(x,v)∉binds)→bindL kindOf binds m x=m x
 | [],_,_=>rfl
 | (n,v)::r,m,h=>by
   unfold bindL
   rw[zh0 fun w hw=>h w (mem_cons_of_mem _ hw)]
   split
   ·have:x≠n:=by rintro rfl;exact h v mem_cons_self
    simp[this]
   ·rfl
theorem zhW{kindOf:Str→Option NameKind}{x:Str}:∀{binds:List (Str×Value)} {m:Str→Option Value},(∀v,(x,v)∉binds)→bindC kindOf binds m x=m x
 | [],_,_=>rfl
 | (n,v)::r,m,h=>by
   unfold bindC
   rw[zhW fun w hw=>h w (mem_cons_of_mem _ hw)]
   split
   ·rfl
   ·have:x≠n:=by rintro rfl;exact h v mem_cons_self
    simp[this]
theorem zhP{kindOf:Str→Option NameKind}{x:Str}{v:Value}:∀{P:List Str}{vs:List Value}{i:Nat}{m:Str→Option Value},P.Nodup→P[i]? = some x→vs[i]? = some v→kindOf x=some .local →
 bindL kindOf (P.zip vs) m x=some v
 | [],_,_,_,_,h,_,_=>by simp at h
 | _::_,[],_,_,_,_,h,_=>by simp at h
 | p::P,w::vs,0,m,nd,h1,h2,hk=>by
   simp at h1 h2;subst h1;subst h2
   show bindL kindOf ((p,w)::P.zip vs) m p=_
   unfold bindL
   rw[zh0 fun v hv=>(List.nodup_cons.mp nd).1 (of_mem_zip hv).1,if_pos hk]
   simp
 | p::P,w::vs,i+1,m,nd,h1,h2,hk=>by
   show bindL kindOf ((p,w)::P.zip vs) m x=_
   unfold bindL
   exact zhP (i:=i) (List.nodup_cons.mp nd).2 (by simpa using h1) (by simpa using h2) hk
theorem zh9{kindOf:Str→Option NameKind}{x:Str}{v:Value}:∀{P:List Str}{vs:List Value}{i:Nat}{m:Str→Option Value},P.Nodup→P[i]? = some x→vs[i]? = some v→kindOf x≠some .local →
 bindC kindOf (P.zip vs) m x=some v
 | [],_,_,_,_,h,_,_=>by simp at h
 | _::_,[],_,_,_,_,h,_=>by simp at h
 | p::P,w::vs,0,m,nd,h1,h2,hk=>by
   simp at h1 h2;subst h1;subst h2
   show bindC kindOf ((p,w)::P.zip vs) m p=_
   unfold bindC
   rw[zhW fun v hv=>(List.nodup_cons.mp nd).1 (of_mem_zip hv).1,if_neg hk]
   simp
 | p::P,w::vs,i+1,m,nd,h1,h2,hk=>by
   show bindC kindOf ((p,w)::P.zip vs) m x=_
   unfold bindC
   exact zh9 (i:=i) (List.nodup_cons.mp nd).2 (by simpa using h1) (by simpa using h2) hk
def zbq(N:List Str)(vs:List V):St:=vs.map some++replicate (N.length-vs.length) none
def zcb(CX:CXT)(P:Program)(w:World)(K:Frag)(mg:Str→Option Value)(base:Heap)(N:List Str)(qual:Str)(scope:Scope)(f:Addr)(cd:Value)(A:Around)(outer:List Env)(s:Shared)(H:Hp)(E:XK):Cx where
 prog:=P
 w:=w
 K:=K
 mg:=mg
 base:=base
 A:=A.deeper (envOfC qual scope s.heap.objs.size f cd)
 N:=N
 s₀:=s
 H₀:=H
 env:=envOfC qual scope s.heap.objs.size f cd
 outer:=outer
 stack:=envOfC qual scope s.heap.objs.size f cd::outer
 ex:=[]
 calm:=true
 fn:=fun _=>true
 pn:=[]
 xe:=fun e s'=>wpAny (model P w) (A.deeper (envOfC qual scope s.heap.objs.size f cd)) (leaving (envOfC qual scope s.heap.objs.size f cd) e) (fun _ s''=>CX outer H s E e s'') (fun e' s''=>CX outer H s E e' s'') s'
theorem zjH{sc:Scope}{n:Nat}{x:Str}(h:sc.names.lookup x=some .cell):∃c,(cellsFrom n sc.names []).lookup x=some c:=by
 have q:=cellsFrom_some sc.names n [] (.inl h)
 exact Option.isSome_iff_exists.mp q
theorem zhL{CX:CXT}{P:Program}{w:World}{K:Frag}{mg:Str→Option Value}{base:Heap}{N ps:List Str}{qual:Str}{scope:Scope}{f:Addr}{cd:Value}{A:Around}{outer:List Env}{s s1:Shared}{H:Hp}{E:XK}{us:List Value}{vs:List V}
 (S:FnScope N ps scope) (hd:A.handled=none) (e0:Env0 P w K mg base A outer s H) (hl:vs.length=ps.length) (r:Vals vs us)
 (x:InCallC s s.heap.objs.size (bindL (envOfC qual scope s.heap.objs.size f cd).kindOf (ps.zip us) fun _=>none) (cellsFrom (s.heap.objs.size+1) scope.names []) (bindC (envOfC qual scope s.heap.objs.size f cd).kindOf (ps.zip us) fun _=>none) s1) :
 Inv (zcb CX P w K mg base N qual scope f cd A outer s H E) [] (zbq N vs) H s1:=by
 have hpl:ps.length≤N.length:=by have:=congrArg List.length S.pre;rw[length_take] at this;omega
 obtain⟨h1,tk,rfl,hk⟩:=x.done
 have noA:∀b:Addr,b∉(zcb CX P w K mg base N qual scope f cd A outer s H E).ex:=fun b z=>absurd (show b∈([]:List Addr)from z) (by simp)
 refine⟨⟨e0.mod,S.kind,rfl,rfl,le_refl _,fun y z c h1 h2=>?_,fun y hy=>?_,fun y c _ h=>?_,fun _=>hd,Around.frames_deeper e0.frames,.inr ⟨rfl,rfl⟩,fun b z=>absurd z (noA b),e0.bs,e0.bsz,fun b _ _=>noA b,fun b z=>absurd z (noA b),e0.funs,e0.frf⟩,
  rfl,e0.bare,Un.kept hk,⟨_,x.toInCall.ns,fun i y v h1 h2 h3=>?_⟩,fun y c h=>⟨_,x.cell y c h⟩,e0.hok.fresh (le_refl _),fun y c h=>?_,fun p hp=>absurd (show p∈([]:List (Addr×Obj))from hp) (by simp),e0.hok.kept hk,?_⟩
 ·exact name_of_addr x.apart (PySem.mem_of_lookup h1) (PySem.mem_of_lookup h2)
 ·have hy:scope.names.lookup y=some .cell∨scope.names.lookup y=some .free:=hy
  rcases hy with hy | hy
  ·exact zjH hy
  ·exact absurd rfl (S.nofree _ (PySem.mem_of_lookup hy))
 ·exact le_of_lt (x.above y c (PySem.mem_of_lookup h))
 ·have hi:i<vs.length:=by
   unfold zbq at h2
   by_cases hi:i<vs.length
   ·exact hi
   ·rw[List.getElem?_append_right (by simpa using hi)] at h2
    rw[List.getElem?_replicate] at h2
    split at h2 <;> cases h2
  have ha:vs[i]? = some v:=by
   unfold zbq at h2
   rw[List.getElem?_append_left (by simpa using hi),getElem?_map] at h2
   cases e:vs[i]? with
   | none=>rw[e] at h2;cases h2
   | some a=>rw[e] at h2;cases h2;rfl
  obtain⟨u,hu,rv⟩:=r.get ha
  have hp:ps[i]? = some y:=by
   rw[←S.pre,List.getElem?_take_of_lt (by omega)];exact h1
  have ndP:ps.Nodup:=by rw[←S.pre];exact S.nd.sublist (List.take_sublist _ _)
  refine⟨u,rv,?_⟩
  rcases S.par y (mem_of_getElem? hp)with k | k
  ·exact .inl ⟨k,zhP ndP hp hu k⟩
  ·obtain⟨c,e⟩:=zjH (n:=s.heap.objs.size+1) k
   refine .inr ⟨.inl k,c,e,?_⟩
   have q:=x.cell y c e
   rw[zh9 ndP hp hu (by show scope.names.lookup y≠_;rw[k];decide)] at q
   exact q
 ·exact e0.hok.fresh (le_of_lt (x.above y c (PySem.mem_of_lookup h)))
 ·unfold zbq
  show _=N.length
  rw[length_append,length_map,List.length_replicate]
  omega
theorem fn_of{CX:CXT}{P:Program}{w:World}{K:Frag}{mg:Str→Option Value}{base:Heap}{k:Nat}{f:Addr}{name qual:Str}{params:Arguments}{body:List Stmt}{scope:Scope}{dV kV doc pm cdv ct oc:Value}{an od:Option Addr}
 {osl:Array (Option Value)} {N ps:List Str} {sp:Sp} (lk:K.lookup f=some ⟨oc,od,.func (fnOf name qual params body scope dV kV doc pm an cdv ct),osl⟩) (hcd:codeIn K cdv qual=true) (S:FnScope N ps scope)
 (len:∀vs H Q E,sp vs H Q E→vs.length=ps.length)
 (hbody:∀(A:Around)(outer:List Env)(s:Shared)(H:Hp)(vs:List V)(Q:VK)(E:XK),Room k (A.deeper (envOfC qual scope s.heap.objs.size f cdv))→sp vs H Q E →
   ∃t,PSs (zcb CX P w K mg base N qual scope f cdv A outer s H E) body t∧t { nx:=fun _ H'=>Q .non H',rt:=Q } (zbq N vs) H) :
 FnOk P w K mg base CX (k+1) f (fnOf name qual params body scope dV kV doc pm an cdv ct) ps sp:=by
 refine⟨len,fun A outer s H args us vs Q E hr e0 hb r hsp=>?_⟩
 have hl:=len _ _ _ _ hsp
 have KX:K.In s.heap:=e0.mod.kin.keeps fun b o e=>(e0.bs b o e).1
 have lim:s.heap.NoLimit:=e0.mod.nolimit.keeps fun b o e=>(e0.bs b o e).1
 have hkind:∀y∈ps.zip us,scope.names.lookup y.1=some .local∨(scope.names.lookup y.1=some .cell∧((cellsFrom (s.heap.objs.size+1) scope.names []).lookup y.1).isSome=true):=fun⟨n,v⟩ hy=>by
  rcases S.par n (of_mem_zip hy).1 with q | q
  ·exact .inl q
  ·exact .inr ⟨q,cellsFrom_some _ _ _ (.inl q)⟩
 refine codeAny_call_function hr.depth (KX _ _ lk) rfl S.co S.gen rfl (PySem.W.codeRec_of KX hcd) (hb _ _ _ _ ?_)
 refine wpAny_newFunctionEnv_cells S.kind hkind fun env he s1 x=>?_
 subst he
 refine⟨lim.keeps x.toInCall.keep,codeAny_func ?_⟩
 obtain⟨t,ht,hq⟩:=hbody A outer s H vs Q E (hr.deeper _) hsp
 have I:Inv (zcb CX P w K mg base N qual scope f cdv A outer s H E) [] (zbq N vs) H s1:=zhL S hr.hd e0 hl r x
 refine wpAny_mono (ht [] s1 (zbq N vs) H _ I hq) (fun fl s' hs=>?_) fun e s' hs=>hs
 have fin:∀{σ':St}{H':Hp}{v:V}{u:Value},Inv (zcb CX P w K mg base N qual scope f cdv A outer s H E) [] σ' H' s'→RelV v u→Q v H'→CE outer P w H s Q u s' :=
  fun {σ' H' v u} J rv q=>⟨v,H',J.os,J.bare,J.base,J.hok,rv,q⟩
 cases fl with
 | ret u =>
   obtain⟨v,σ',H',J,rv,q⟩:=hs
   exact fin J rv q
 | next =>
   obtain⟨σ',H',J,q⟩:=hs
   exact fin (v:=V.non) (u:=Value.none) J rfl q
 | brk =>
   obtain⟨_,_,_,q⟩:=hs
   exact False.elim q
 | cont =>
   obtain⟨_,_,_,q⟩:=hs
   exact False.elim q
section
variable {X:Cx}{x:Str}{p pos:Pos}{e:Expr}{es:List Expr}{t:TA}{id T:String}{r:List V→Hp→VK→Prop}
def tCB(r:List V→Hp→VK→Prop)(t:TA):TE:=fun σ H Q=>t σ H fun vs H1=>r vs H1 Q
theorem zB(hc:zam X (.builtin id) r)(hg:Gl X x)(hm:X.mg x=none)(hv:bootBuiltins x=some (.builtin id))(ha:PA X (e::es) t)(hn:x≠"__name__":=by decide)(hdb:(x==("__debug__":Str))=false:=by decide)
 (he:starEach (e::es) X.env=(false,eval e X.env)::starEach es X.env:=by rfl) (hpl:(backTo pos (starEach es X.env)).any (·.1)=false:=by rfl):PE X (.Call (.Name x p) (e::es) [] pos) (tCB r t):=by
 intro pins s σ H Q I h
 refine wpAny_Call_Name_kw (zcH I hg hm hv ?_ hn hdb)
 exact callWith_builtin1 (thn (ha pos pins s σ H _ I h) fun us s1 ⟨vs,H1,I1,r1,q1⟩=>hc pins s1 σ H1 vs us Q I1 r1 q1) he hpl
theorem zM(hc:zam X (.type T) r)(hg:Gl X x)(hm:X.mg x=none)(hv:bootBuiltins x=some (.type T))(ha:PA X (e::es) t)(hn:x≠"__name__":=by decide)(hdb:(x==("__debug__":Str))=false:=by decide)
 (he:starEach (e::es) X.env=(false,eval e X.env)::starEach es X.env:=by rfl) (hpl:(backTo pos (starEach es X.env)).any (·.1)=false:=by rfl):PE X (.Call (.Name x p) (e::es) [] pos) (tCB r t):=by
 intro pins s σ H Q I h
 refine wpAny_Call_Name_kw (zcH I hg hm hv ?_ hn hdb)
 exact callWith_type1 (thn (ha pos pins s σ H _ I h) fun us s1 ⟨vs,H1,I1,r1,q1⟩=>hc pins s1 σ H1 vs us Q I1 r1 q1) he hpl
end
end L2
namespace HT
open PySem PyProof.Rows
def lexLt:List Int→List Int→Bool
 | [],[]=>false
 | [],_::_=>true
 | _::_,[]=>false
 | x::xs,y::ys=>if x=y then lexLt xs ys else decide (x<y)
theorem lexLt_cons(x y:Int)(xs ys:List Int):lexLt (x::xs) (y::ys)=if x=y then lexLt xs ys else decide (x<y):=rfl
theorem lexLt_nil_nil:lexLt [] []=false:=rfl
theorem lexLt_nil_cons(y:Int)(ys:List Int):lexLt [] (y::ys)=true:=rfl
theorem lexLt_cons_nil(x:Int)(xs:List Int):lexLt (x::xs) []=false:=rfl
theorem rcLt_int(A:Around)(s:Shared)(a:Int)(t:Tok)(c:Int)(u:Tok)(prog:Program)(w:World)(E:Value→Shared→Prop)(Q:Value→Shared→Prop)(h:Q (.bool (decide (a<c))) s):
 wpAny (model prog w) A (richCompare .Lt (.int a t) (.int c u)) Q E s :=
 (PyProof.Rows.lt_int h:wpAny (model prog w) A (compareOp .Lt (.int a t) (.int c u)) Q E s)
section
open PySem.SeqAt
open PySem.AutoSeq1 (wpAny_loadPart')
open PySem.MeetsSeq PySem.MeetsSeq2 PySem.MeetsSeq3
end
section
variable {prog:Program}{w:World}{A:Around}{E:Value→Shared→Prop}{s:Shared}
def sIx(n d:Nat):Option Int→Nat
 | none=>d
 | some v=>if v<0 then(v+(n:Int)).toNat else min v.toNat n
theorem sIx_none(n d:Nat):sIx n d none=d:=rfl
theorem sIx_nat(n d k:Nat):sIx n d (some (k:Int))=min k n:=by
 show(if(k:Int)<0 then((k:Int)+(n:Int)).toNat else min (k:Int).toNat n)=min k n
 rw[if_neg (by omega),Int.toNat_natCast]
end
end HT
namespace L2
open PySem PySem.Spec PyProof.Rows
abbrev TO:=St→Hp→(Option Int→Hp→Prop)→Prop
def PO(X:Cx)(e:Option Expr)(t:TO):Prop :=
 ∀(pins:List (Addr×Obj)) (s:Shared) (σ:St) (H:Hp) (Q:Option Int→Hp→Prop),Inv X pins σ H s→t σ H Q →
  wpAny (model X.prog X.w) X.A (evalPart e X.env) (fun u s'=>∃o H',Inv X pins σ H' s'∧IsPart u o∧Q o H') X.xe s
def tNoPart:TO:=fun _ H Q=>Q none H
inductive ITPart (x:V) (H1:Hp) (Q:Option Int→Hp→Prop):Prop
 | mk (i:_):x=.int i→Q (some i) H1→ITPart x H1 Q
def tPart(t:TE):TO:=fun σ H Q=>t σ H fun x H1=>ITPart x H1 Q
theorem zaG{ns:List Int}:∀{us:List Value},Vals (ns.map V.int) us→IntsAre us ns:=by
 induction ns with
 | nil=>intro us r;rw[map_nil] at r;cases r;exact .nil
 | cons n ns ih =>
   intro us r
   rw[map_cons] at r
   cases r with
   | cons r1 r2 =>
     obtain⟨t,e⟩:=r1
     subst e
     exact .cons n t (ih r2)
section
variable {X:Cx}{e:Expr}{te:TE}{lo hi:Option Expr}{tl th:TO}{pos p2:Pos}
theorem zal:PO X none tNoPart:=by
 intro pins s σ H Q I h
 rw[evalPart_none]
 exact wpAny_pure ⟨none,H,I,.none,h⟩
theorem wt(h:PE X e te):PO X (some e) (tPart te):=by
 intro pins s σ H Q I hw
 rw[evalPart_some]
 refine thn (h pins s σ H _ I hw) fun u s1 ⟨x,H1,I1,r1,q1⟩=>?_
 obtain⟨i,rfl,q⟩:=q1
 obtain⟨t,rfl⟩:=r1
 exact⟨some i,H1,I1,.int i t,q⟩
def SlR(X:Cx)(r:V→Option Int→Option Int→Hp→VK→Prop):Prop :=
 ∀(pins:List (Addr×Obj)) (s:Shared) (σ:St) (H:Hp) (x:V) (v vl vu:Value) (lo hi:Option Int) (sl:Addr) (Q:VK),Inv X pins σ H s→RelV x v→s.heap.IsSliceOf sl vl vu .none→IsPart vl lo→IsPart vu hi→r x lo hi H Q →
  ∃T id,typeLookup (.type T) "__getitem__"=pure (some (.builtin id))∧s.TypeIs v T∧wpAny (model X.prog X.w) X.A (getItem v (.ref sl)) (EP X pins σ Q) X.xe s
def tSl(r:V→Option Int→Option Int→Hp→VK→Prop)(te:TE)(tl th:TO):TE:=fun σ H Q=>te σ H fun x H1=>tl σ H1 fun l H2=>th σ H2 fun u H3=>r x l u H3 Q
theorem yW{r:V→Option Int→Option Int→Hp→VK→Prop}(hr:SlR X r)(he:PE X e te)(hl:PO X lo tl)(hu:PO X hi th):PE X (.Subscript e (.Slice lo hi none p2) pos) (tSl r te tl th):=by
 intro pins s σ H Q I h
 refine Subscript_ (thn (he pins s σ H _ I h) fun v s1 ⟨x,H1,I1,r1,q1⟩=>?_)
 refine wpAny_Slice (thn (hl pins s1 σ H1 _ I1 q1) fun vl s2 ⟨l,H2,I2,pl,q2⟩=>thn (hu pins s2 σ H2 _ I2 q2) fun vu s3 ⟨u,H3,I3,pu,q3⟩=>?_)
 rw[evalPart_none]
 refine wpAny_pure ?_
 have I4:Inv X pins σ H3 { s3 with heap:=s3.heap.push { cls:=.type "slice",data:=.fields #[vl,vu,.none] } }:=I3.kept (t':=s3.toks) fun b ob q=>get?_push_of_some _ q
 obtain⟨T,id,hT,ht,hg⟩:=hr pins { s3 with heap:=s3.heap.push { cls:=.type "slice",data:=.fields #[vl,vu,.none] } } σ H3 x v vl vu l u s3.heap.objs.size Q I4 r1 (Heap.IsSliceOf.new ..) pl pu q3
 show wpAny (model X.prog X.w) X.A (subscriptTail e (.Slice lo hi none p2) v (.ref s3.heap.objs.size)) (EP X pins σ Q) X.xe { s3 with heap:=s3.heap.push { cls:=.type "slice",data:=.fields #[vl,vu,.none] } }
 exact tail_any (ops:=[.ref s3.heap.objs.size,v]) ht hT hg (by with_unfolding_all rfl)
def zhf(xs:List V)(lo hi:Option Int):List V:=(xs.drop (HT.sIx xs.length 0 lo)).take (HT.sIx xs.length xs.length hi-HT.sIx xs.length 0 lo)
theorem zjZ(xs:List V)(lo hi:Option Int):(zhf xs lo hi).length≤xs.length:=by
 unfold zhf
 rw[length_take,length_drop]
 omega
end
def ixN(n:Nat)(i:Int):Option Nat:=if 0≤i then(if i<n then some i.toNat else none)else if -(n:Int)≤i then some (i+n).toNat else none
def atI{α:Type}(xs:List α)(i:Int):Option α:=(ixN xs.length i).bind fun j=>xs[j]?
theorem ixN_seq{n:Nat}{i:Int}{j:Nat}(h:ixN n i=some j):seqIndex? i n=some j∧j<n ∧ -(n:Int)≤i∧i<n:=by
 unfold ixN at h
 by_cases h0:0≤i
 ·rw[if_pos h0] at h
  by_cases h1:i<n
  ·rw[if_pos h1] at h
   have e:i.toNat=j:=Option.some.inj h
   exact⟨by rw[seqIndex_of h0 h1,e],by omega,by omega,h1⟩
  ·rw[if_neg h1] at h;cases h
 ·rw[if_neg h0] at h
  by_cases h1 : -(n:Int)≤i
  ·rw[if_pos h1] at h
   have e:(i+n).toNat=j:=Option.some.inj h
   exact⟨by rw[seqIndex_neg (by omega) h1,e],by omega,h1,by omega⟩
  ·rw[if_neg h1] at h;cases h
theorem ziz{α:Type}{xs:List α}{i:Int}{v:α}(h:atI xs i=some v):∃j,seqIndex? i xs.length=some j∧xs[j]? = some v∧j<xs.length ∧ -(xs.length:Int)≤i∧i<xs.length:=by
 unfold atI at h
 cases e:ixN xs.length i with
 | none=>rw[e] at h;cases h
 | some j =>
   rw[e] at h
   obtain⟨h1,h2,h3,h4⟩:=ixN_seq e
   exact⟨j,h1,h,h2,h3,h4⟩
theorem zJ{α:Type}{xs:List α}{j:Nat}{v:α}(h:xs[j]? = some v):atI xs (j:Int)=some v:=by
 have hj:j<xs.length:=(List.getElem?_eq_some_iff.mp h).1
 have e:ixN xs.length (j:Int)=some j:=by
  unfold ixN
  rw[if_pos (by omega),if_pos (by omega)];simp
 unfold atI;rw[e];exact h
def PlainIx(b:Expr):Prop:=∀o i,subscripted b false o i=operate [o,i] (getItem o i)
def IxR(X:Cx)(r:R2):Prop :=
 ∀(value slice:Expr)(pins:List (Addr×Obj)) (s:Shared) (σ:St) (H:Hp) (x y:V) (v u:Value) (Q:VK),Inv X pins σ H s→RelV x v→RelV y u→r x y H Q →
  subscripted slice false v u=operate [v,u] (getItem v u)→wpAny (model X.prog X.w) X.A (subscriptTail value slice v u) (EP X pins σ Q) X.xe s
def MtR(X:Cx)(id:String)(r:V→List V→Hp→VK→Prop):Prop :=
 ∀(pins:List (Addr×Obj)) (s:Shared) (σ:St) (H:Hp) (x:V) (xs:List V) (v:Value) (us:List Value) (Q:VK),Inv X pins σ H s→RelV x v→Vals xs us→r x xs H Q →
  wpAny (model X.prog X.w) X.A (call (.builtin id) (v::us)) (EP X pins σ Q) X.xe s
section
variable {X:Cx}{a b:Expr}{ta tb:TE}{pos:Pos}
theorem zq{r:R2}(hr:IxR X r)(ha:PE X a ta)(hb:PE X b tb)(hs:PlainIx b):PE X (.Subscript a b pos) (tOp r ta tb):=by
 intro pins s σ H Q I h
 exact Subscript_ (binT ha hb I h fun v u s2 x y H2 I2 rx ry q=>hr a b pins s2 σ H2 x y v u Q I2 rx ry q (hs _ _))
inductive IRIxL (K:Frag) (x y:V) (H:Hp) (Q:VK):Prop
 | mk (p:_) (xs:_) (i:_) (v:_):x=.ref p→y=.int i→SqL K H p xs→atI xs i=some v→Q v H→IRIxL K x y H Q
def rIxL(K:Frag):R2:=fun x y H Q=>IRIxL K x y H Q
inductive IRIxT (K:Frag) (x y:V) (H:Hp) (Q:VK):Prop
 | mk (p:_) (xs:_) (i:_) (v:_):x=.ref p→y=.int i→SqT K H p xs→atI xs i=some v→Q v H→IRIxT K x y H Q
def rIxT(K:Frag):R2:=fun x y H Q=>IRIxT K x y H Q
def rIxS:R2:=fun x y H Q=>∃z i c,x=.str z∧y=.int i∧z.length≤sizeLine∧atI z.cps.toList i=some c∧Q (.str ⟨#[c]⟩) H
theorem zn:IxR X (rIxL X.K):=by
 intro value slice pins s σ H x y v u Q I rx ry h hs
 obtain⟨p,xs,i,z,rfl,rfl,hq,he,q⟩:=h
 cases rx
 obtain⟨t,rfl⟩:=ry
 obtain⟨its,r,pl,hz⟩:=I.list hq
 obtain⟨j,h1,h2,h3,h4,h5⟩:=ziz he
 obtain⟨w,ew,rw'⟩:=r.get h2
 have hl:=r.length
 have hn:=zfB
 have fin:EP X pins σ Q w s:=⟨z,H,I,rw',q⟩
 by_cases h0:0≤i
 ·have hj:i.toNat=j:=by
   rw[seqIndex_of h0 h5] at h1
   exact Option.some.inj h1
  exact item_listR pl.isList h0 (by omega) (by rw[hj];simpa using ew) fin hs
 ·have hj:(i+(its.toArray.size:Int)).toNat=j:=by
   rw[seqIndex_neg (by omega) h4] at h1
   rw[size_toArray,←hl]
   exact Option.some.inj h1
  exact subscriptTail_builtinR (x:=w) pl.isList.typeIs slot_list_getitem.lookup
   (wpAny_getItem_list_neg (Q:=fun r s'=>r=w∧EP X pins σ Q r s') pl.isList (by omega) (by rw[size_toArray] <;> omega) (by omega) (by rw[hj];simpa using ew) ⟨rfl,fin⟩) hs
theorem yo:IxR X (rIxT X.K):=by
 intro value slice pins s σ H x y v u Q I rx ry h hs
 obtain⟨p,xs,i,z,rfl,rfl,hq,he,q⟩:=h
 cases rx
 obtain⟨t,rfl⟩:=ry
 obtain⟨its,r,pl,hz⟩:=I.tuple hq
 obtain⟨j,h1,h2,h3,h4,h5⟩:=ziz he
 obtain⟨w,ew,rw'⟩:=r.get h2
 have hl:=r.length
 have hn:=zfB
 have fin:EP X pins σ Q w s:=⟨z,H,I,rw',q⟩
 exact subscriptTail_builtinR (x:=w) pl.typeIs slot_tuple_getitem.lookup
  (getItem_tuple (j:=j) (Q:=fun r s'=>r=w∧EP X pins σ Q r s') pl (by omega) (by omega) (by rw[size_toArray,←hl];exact h1) (by simpa using ew) ⟨rfl,fin⟩) hs
theorem ix_str:IxR X rIxS:=by
 intro value slice pins s σ H x y v u Q I rx ry h hs
 obtain⟨z,i,c,rfl,rfl,hz,he,q⟩:=h
 obtain⟨t,rfl⟩:=rx
 obtain⟨t',rfl⟩:=ry
 obtain⟨j,h1,h2,h3,h4,h5⟩:=ziz he
 have hl:z.cps.toList.length=z.length:=by simp[Str.length]
 rw[hl] at h1 h4 h5
 have hn:=zfB
 exact tail_any (typeIs_str s z t) slot_str_getitem.lookup (getItem_str (c:=c) (by
  have e1:decide (i < -(2 ^ 63:Int))=false:=decide_eq_false (by omega)
  have e2:decide (i ≥ 2 ^ 63)=false:=decide_eq_false (by omega)
  rw[e1,e2,Bool.or_false]) (by rw[h1];simpa using h2) ⟨.str ⟨#[c]⟩,H,I.tok _,⟨_,rfl⟩,q⟩) hs
theorem mapSeq_set(its:List Value)(n j:Nat)(u:Value):Obj.mapSeq (·.setIfInBounds j u) { cls:=.type "list",data:=.seq its.toArray n }={ cls:=.type "list",data:=.seq (its.set j u).toArray n }:=by
 simp[Obj.mapSeq]
theorem Inv.lst{pins:List (Addr×Obj)}{σ:St}{H:Hp}{s:Shared}{p:Addr}{xs:List V}(I:Inv X pins σ H s)(h:H p=some (.lst xs)):
 ∃(its:List Value)(n:Nat),Vals xs its∧s.heap.get? p=some { cls:=.type "list",data:=.seq its.toArray n }∧xs.length≤sizeLine:=by
 obtain⟨z,its,n,r,e⟩:=I.hok p _ h
 exact⟨its,n,r,e,z⟩
theorem Inv.lstUpd{pins:List (Addr×Obj)}{σ:St}{H:Hp}{s:Shared}{p:Addr}{xs ys:List V}{its its':List Value}{n n':Nat}{f:Obj→Obj}(I:Inv X pins σ H s)(h:H p=some (.lst xs))
 (ho:s.heap.get? p=some { cls:=.type "list",data:=.seq its.toArray n }) (hf:f { cls:=.type "list",data:=.seq its.toArray n }={ cls:=.type "list",data:=.seq its'.toArray n' }) (r:Vals ys its') (hz:ys.length≤sizeLine) (t:Nat) :
 Inv X pins σ (upd H p (.lst ys)) { s with heap:=s.heap.update p f,toks:=t }:=by
 have e:(s.heap.update p f).get? p=some { cls:=.type "list",data:=.seq its'.toArray n' }:=by
  rw[Heap.get?_update_self f ho (by rw[hf] <;> rfl),hf]
 refine I.write (x:=p) (e:=p) (by rw[h];trivial) (.inl rfl) (fun b u hb q=>(get?_update_other _ _ (Ne.symm hb)).trans q) ⟨_,e⟩ ?_
 exact⟨hz,its',n',r,e⟩
inductive IRSetL (o i v:V) (H:Hp) (Q:Hp→Prop):Prop
 | mk (p:_) (xs:_) (k:_) (j:_):o=.ref p→i=.int k→H p=some (.lst xs)→ixN xs.length k=some j→Q (upd H p (.lst (xs.set j v)))→IRSetL o i v H Q
def rSetL:V→V→V→Hp→(Hp→Prop)→Prop:=fun o i v H Q=>IRSetL o i v H Q
theorem set_list:PSet X rSetL:=by
 intro pins s σ H o i v ov iv u Q I ro ri rv h
 obtain⟨p,xs,k,j,rfl,rfl,hp,hj,q⟩:=h
 cases ro
 obtain⟨t,rfl⟩:=ri
 obtain⟨its,n,r,ho,hz⟩:=I.lst hp
 obtain⟨h1,h2,h3,h4⟩:=ixN_seq hj
 have hl:=r.length
 have hn:=zfB
 have I':Inv X pins σ (upd H p (.lst (xs.set j v))) { s with heap:=s.heap.update p (Obj.mapSeq (·.setIfInBounds j u)) } :=
  I.lstUpd hp ho (mapSeq_set its n j u) (r.set rv j) (by rw[List.length_set];exact hz) s.toks
 by_cases h0:0≤k
 ·have hk:k.toNat=j:=by
   rw[seqIndex_of h0 h4] at h1
   exact Option.some.inj h1
  exact PySem.W.ki_setAt ho h0 (by omega) (by rw[size_toArray,←hl];exact h4) (by rw[hk];exact⟨_,I',q⟩)
 ·have hk:(k+(its.toArray.size:Int)).toNat=j:=by
   rw[seqIndex_neg (by omega) h3] at h1
   rw[size_toArray,←hl]
   exact Option.some.inj h1
  exact PySem.W.ki_setBack ho (by omega) (by rw[size_toArray,←hl];exact h3) (by omega) (by rw[hk];exact⟨_,I',q⟩)
theorem zio(lo hi:Option Int)(n:Nat):(sliceBounds lo hi none n).1=((HT.sIx n 0 lo:Nat):Int)∧(sliceBounds lo hi none n).2.1=((HT.sIx n n hi:Nat):Int)∧(sliceBounds lo hi none n).2.2=1:=by
 refine⟨?_,?_,rfl⟩
 ·cases lo with
  | none=>simp[sliceBounds,HT.sIx]
  | some i =>
    simp only[sliceBounds,HT.sIx,Option.getD_none,show(1:Int) > 0 by decide,if_true]
    by_cases h:i<0
    ·simp only[h,if_true] <;> omega
    ·simp only[h,if_false] <;> omega
 ·cases hi with
  | none=>simp[sliceBounds,HT.sIx]
  | some i =>
    simp only[sliceBounds,HT.sIx,Option.getD_none,show(1:Int) > 0 by decide,if_true]
    by_cases h:i<0
    ·simp only[h,if_true] <;> omega
    ·simp only[h,if_false] <;> omega
theorem zhG(its:List Value)(lo hi:Option Int):slicePick its.toArray lo hi none=((its.drop (HT.sIx its.length 0 lo)).take (HT.sIx its.length its.length hi-HT.sIx its.length 0 lo)).toArray:=by
 obtain⟨h1,h2,h3⟩:=zio lo hi its.toArray.size
 unfold slicePick
 rw[h1,h2,h3]
 simp only[sliceRange_one,pick_run,size_toArray] <;> rfl
inductive IRSlL (K:Frag) (x:V) (lo hi:Option Int) (H:Hp) (Q:VK):Prop
 | mk (a:_) (xs:_):x=.ref a→SqL K H a xs→(∀p,H p=none→Q (.ref p) (upd H p (.lst (zhf xs lo hi))))→IRSlL K x lo hi H Q
def rSlL(K:Frag):V→Option Int→Option Int→Hp→VK→Prop:=fun x lo hi H Q=>IRSlL K x lo hi H Q
theorem zaX:SlR X (rSlL X.K):=by
 intro pins s σ H x v vl vu lo hi sl Q I rx hs pl pu h
 obtain⟨a,xs,rfl,hx,q⟩:=h
 cases rx
 obtain⟨its,r,ht,hz⟩:=I.list hx
 have hlen:=r.length
 refine⟨"list",_,slot_list_getitem.lookup,ht.isList.typeIs,?_⟩
 refine wpAny_getItem_list_slice ht.isList hs pl pu .none (by simp) ?_ (by rw[size_toArray] <;> omega)
 rw[zhG,←hlen]
 refine⟨.ref s.heap.objs.size,_,I.laid (t':=s.toks) (o:=.lst (zhf xs lo hi)) (fun b ob q=>get?_push_of_some _ q) (le_refl _) ?_,rfl,q _ (I.hok.fresh (le_refl _))⟩
 exact⟨le_trans (zjZ xs lo hi) hz,_,0,(r.drop (HT.sIx xs.length 0 lo)).take (HT.sIx xs.length xs.length hi-HT.sIx xs.length 0 lo),get?_push_size _ rfl⟩
def zag:V→Bool
 | .non=>true
 | .bl _=>true
 | .int _=>true
 | .str _=>true
 | _=>false
def eqV:V→V→Bool
 | .non,.non=>true
 | .bl a,.bl b=>a==b
 | .bl a,.int b=>(if a then 1 else 0)==b
 | .int a,.bl b=>a==(if b then 1 else 0)
 | .int a,.int b=>a==b
 | .str a,.str b=>a==b
 | _,_=>false
theorem eqAt_V{A:Around}{s:Shared}{y x:V}{u v:Value}(ry:RelV y u)(rx:RelV x v)(fy:zag y=true)(fx:zag x=true):SeqAt.EqAt A s u v (eqV y x):=by
 cases y with
 | non =>
   cases ry
   cases x with
   | non=>cases rx;exact SeqAt.EqAt.same _
   | bl b=>cases rx;exact SeqAt.EqAt.none_bool b
   | int b=>obtain⟨t,rfl⟩:=rx;exact SeqAt.EqAt.none_int b t
   | str b=>obtain⟨t,rfl⟩:=rx;exact SeqAt.EqAt.none_str b t
   | _=>exact absurd (show false=true from fx) Bool.false_ne_true
 | bl a =>
   cases ry
   cases x with
   | non=>cases rx;exact SeqAt.EqAt.bool_none a
   | bl b=>cases rx;exact SeqAt.EqAt.bool_bool a b
   | int b=>obtain⟨t,rfl⟩:=rx;exact SeqAt.EqAt.bool_int a b t
   | str b=>obtain⟨t,rfl⟩:=rx;exact SeqAt.EqAt.bool_str a b t
   | _=>exact absurd (show false=true from fx) Bool.false_ne_true
 | int a =>
   obtain⟨t',rfl⟩:=ry
   cases x with
   | non=>cases rx;exact SeqAt.EqAt.int_none a t'
   | bl b=>cases rx;exact SeqAt.EqAt.int_bool a t' b
   | int b=>obtain⟨t,rfl⟩:=rx;exact SeqAt.EqAt.int_int a t' b t
   | str b=>obtain⟨t,rfl⟩:=rx;exact SeqAt.EqAt.int_str a t' b t
   | _=>exact absurd (show false=true from fx) Bool.false_ne_true
 | str a =>
   obtain⟨t',rfl⟩:=ry
   cases x with
   | non=>cases rx;exact SeqAt.EqAt.str_none a t'
   | bl b=>cases rx;exact SeqAt.EqAt.str_bool a t' b
   | int b=>obtain⟨t,rfl⟩:=rx;exact SeqAt.EqAt.str_int a t' b t
   | str b=>obtain⟨t,rfl⟩:=rx;exact SeqAt.EqAt.str_str a t' b t
   | _=>exact absurd (show false=true from fx) Bool.false_ne_true
 | _=>exact absurd (show false=true from fy) Bool.false_ne_true
def eqU(x:V)(u:Value):Bool:=match u with
 | .none=>eqV .non x
 | .bool b=>eqV (.bl b) x
 | .int i _=>eqV (.int i) x
 | .str z _=>eqV (.str z) x
 | _=>false
theorem eqU_of{x y:V}{u:Value}(r:RelV y u)(f:zag y=true):eqU x u=eqV y x:=by
 cases y with
 | non=>cases r;rfl
 | bl b=>cases r;rfl
 | int i=>obtain⟨t,rfl⟩:=r;rfl
 | str z=>obtain⟨t,rfl⟩:=r;rfl
 | _=>exact absurd (show false=true from f) Bool.false_ne_true
theorem zii{x:V}:∀{xs:List V}{us:List Value},Vals xs us→xs.all zag=true→us.any (eqU x)=xs.any fun y=>eqV y x
 | _,_,.nil,_=>rfl
 | y::xs,u::us,.cons r t,f=>by
   rw[all_cons,Bool.and_eq_true] at f
   rw[any_cons,any_cons,eqU_of r f.1,zii t f.2]
theorem zeW{A:Around}{s:Shared}{x:V}{v:Value}(rx:RelV x v)(fx:zag x=true):∀{xs:List V}{us:List Value},Vals xs us→xs.all zag=true→∀u∈us,SeqAt.EqAt A s u v (eqU x u)
 | _,_,.nil,_=>fun u hu=>by cases hu
 | y::xs,u::us,.cons r t,f=>fun u' hu=>by
   rw[all_cons,Bool.and_eq_true] at f
   rcases List.mem_cons.mp hu with rfl | hu
   ·rw[eqU_of r f.1];exact eqAt_V r rx f.1 fx
   ·exact zeW rx fx t f.2 u' hu
def inV(x:V)(xs:List V):Bool:=xs.any fun y=>eqV y x
inductive IRIn (K:Frag) (neg:Bool) (x y:V) (H:Hp) (Q:VK):Prop
 | mk (p:_) (xs:_):y=.ref p→((SqL K H p xs∨SqT K H p xs))→zag x=true→xs.all zag=true→(Q (.bl (if neg then !inV x xs else inV x xs)) H)→IRIn K neg x y H Q
def rIn(K:Frag)(neg:Bool):R2:=fun x y H Q=>IRIn K neg x y H Q
theorem zdc:OpR X (compareOp .NotIn) (rIn X.K true):=by
 intro pins s σ H x y v u Q I rx ry h
 obtain⟨p,xs,rfl,hq,fx,fs,q⟩:=h
 cases ry
 rcases hq with hq | hq
 ·obtain⟨its,r,pl,hz⟩:=I.list hq
  refine SeqAt.notIn_listAt (eqU x) pl.isList (fun w hw=>zeW rx fx r fs w (by simpa using hw)) ⟨.bl _,H,I,rfl,?_⟩
  rw[show its.toArray.any (eqU x)=its.any (eqU x)by simp,zii r fs]
  exact q
 ·obtain⟨its,r,pl,hz⟩:=I.tuple hq
  refine SeqAt.notIn_tupleAt (eqU x) pl (fun w hw=>zeW rx fx r fs w (by simpa using hw)) ⟨.bl _,H,I,rfl,?_⟩
  rw[show its.toArray.any (eqU x)=its.any (eqU x)by simp,zii r fs]
  exact q
inductive ICall_len_seq (K:Frag) (xs:List V) (H:Hp) (Q:VK):Prop
 | mk (p:_) (ys:_):xs=[.ref p]→((SqL K H p ys∨SqT K H p ys))→Q (.int ys.length) H→ICall_len_seq K xs H Q
theorem zfi:zam X (.builtin "len") (ICall_len_seq X.K):=by
 intro pins s σ H xs us Q I r h
 obtain⟨p,ys,rfl,hq,q⟩:=h
 obtain⟨u,rfl,rx⟩:=vals1 r
 cases rx
 have hn:=zfB
 rcases hq with hq | hq
 ·obtain⟨its,r',pl,hz⟩:=I.list hq
  have hlen:=r'.length
  exact Calls.call_len_list pl.isList (by simp only[size_toArray] <;> omega) ⟨.int ys.length,H,I.tok _,⟨s.toks+1,by rw[size_toArray,hlen]⟩,q⟩
 ·obtain⟨its,r',pl,hz⟩:=I.tuple hq
  have hlen:=r'.length
  exact len_tuple pl (by simp only[size_toArray] <;> omega) ⟨.int ys.length,H,I.tok _,⟨s.toks+1,by rw[size_toArray,hlen]⟩,q⟩
inductive ICall_list_of (K:Frag) (xs:List V) (H:Hp) (Q:VK):Prop
 | mk (p:_) (ys:_):xs=[.ref p]→((SqL K H p ys∨SqT K H p ys))→(∀l,H l=none→Q (.ref l) (upd H l (.lst ys)))→ICall_list_of K xs H Q
theorem zP:zam X (.type "list") (ICall_list_of X.K):=by
 intro pins s σ H xs us Q I r h
 obtain⟨p,ys,rfl,hq,q⟩:=h
 obtain⟨u,rfl,rx⟩:=vals1 r
 cases rx
 have fin:∀(its:List Value),Vals ys its→ys.length≤sizeLine→∀(h':Heap)(c':Nat),(∀b o',s.heap.get? b=some o'→h'.get? b=some o') →
  h'.get? s.heap.objs.size=some { cls:=.type "list",dict:=none,data:=.seq its.toArray c',slots := #[] }→EP X pins σ Q (.ref s.heap.objs.size) { s with heap:=h' }:=fun its r' hz h' c' kp e =>
  ⟨.ref s.heap.objs.size,_,I.laid (t':=s.toks) kp (le_refl _) (show ObjOk X.prog X.w _ h' _ (.lst ys)from⟨hz,its,c',r',e⟩),rfl,q _ (I.hok.fresh (le_refl _))⟩
 rcases hq with hq | hq
 ·obtain⟨its,r',pl,hz⟩:=I.list hq
  have hlen:=r'.length
  obtain⟨o,ho,hc,n,hd⟩:=pl.isList
  exact call_list_seq p (.inl rfl) ho hc hd (fun h' c' kp e=>fin its r' hz h' c' kp e) (by simp only[size_toArray] <;> omega)
 ·obtain⟨its,r',pl,hz⟩:=I.tuple hq
  have hlen:=r'.length
  obtain⟨o,ho,hc,n,hd⟩:=pl
  exact call_list_seq p (.inr rfl) ho hc hd (fun h' c' kp e=>fin its r' hz h' c' kp e) (by simp only[size_toArray] <;> omega)
def tyV(K:Frag)(T:String)(x:V)(H:Hp):Prop:=match x with
 | .str _=>T= "str"
 | .int _=>T= "int"
 | .ref p=>(T= "list"∧∃xs,SqL K H p xs)∨(T= "tuple"∧∃o,K.lookup p=some o∧o.cls=.type "tuple"∧o.dict=none) ∨
    (T= "dict"∧((∃kvs,H p=some (.dK kvs))∨∃kvs,H p=some (.dT kvs)))∨(T= "set"∧∃S n,H p=some (.set S n))
 | _=>False
theorem tyV_is{pins:List (Addr×Obj)}{σ:St}{H:Hp}{s:Shared}{T:String}{x:V}{v:Value}(I:Inv X pins σ H s)(r:RelV x v)(ty:tyV X.K T x H):
 s.TypeIs v T∧∀a,v=.ref a→∃ob,s.heap.get? a=some ob∧ob.dict=none:=by
 cases x with
 | str z =>
   obtain⟨t,rfl⟩:=r
   cases (show T= "str" from ty)
   exact⟨typeIs_str s z t,fun _ e=>nomatch e⟩
 | int i =>
   obtain⟨t,rfl⟩:=r
   cases (show T= "int" from ty)
   exact⟨typeIs_int s i t,fun _ e=>nomatch e⟩
 | ref p =>
   cases r
   rcases ty with⟨rfl,xs,hq⟩|⟨rfl,o,hk,hc,hd⟩|⟨rfl,hk⟩|⟨rfl,S,n,hk⟩
   ·obtain⟨its,_,pl,_⟩:=I.list hq
    refine⟨pl.isList.typeIs,fun a e=>?_⟩
    cases e
    obtain⟨o,n,e,c,hd,_⟩:=pl
    exact⟨o,e,hd⟩
   ·refine⟨⟨o,I.kIn p o hk,hc⟩,fun a e=>?_⟩
    cases e
    exact⟨o,I.kIn _ o hk,hd⟩
   ·have z:∃o,s.heap.get? p=some o∧o.ExactDict:=by
     rcases hk with⟨kvs,hk⟩|⟨kvs,hk⟩
     ·obtain⟨_,_,_,_,o,_,_,e,ex,_⟩:=I.hok p _ hk
      exact⟨o,e,ex⟩
     ·obtain⟨_,_,_,_,o,_,_,e,ex,_⟩:=I.hok p _ hk
      exact⟨o,e,ex⟩
    obtain⟨o,e,ex⟩:=z
    refine⟨⟨o,e,ex.1⟩,fun a e2=>?_⟩
    cases e2
    exact⟨o,e,ex.2.1⟩
   ·obtain⟨o,_,_,_,e,ex,_⟩:=I.hok p _ hk
    refine⟨⟨o,e,ex.1⟩,fun a e2=>?_⟩
    cases e2
    exact⟨o,e,ex.2.1⟩
 | _=>exact False.elim ty
def tBM0(K:Frag)(T:String)(r:V→List V→Hp→VK→Prop)(to:TE):TE:=fun σ H Q=>to σ H fun x H1=>tyV K T x H1∧r x [] H1 Q
def tBM(K:Frag)(T:String)(r:V→List V→Hp→VK→Prop)(to:TE)(t:TA):TE:=fun σ H Q=>to σ H fun x H1=>tyV K T x H1∧t σ H1 fun xs H2=>r x xs H2 Q
variable {o e:Expr}{es:List Expr}{to:TE}{t:TA}{name:Str}{apos cpos:Pos}{T id:String}{r:V→List V→Hp→VK→Prop}
theorem pe_bm0(pa:PlainAttrs T)(slot:Slot T name id)(hty:typeOf (.builtin id)=pure (.type "method_descriptor"))(hm:MtR X id r)(ho:PE X o to)
 (hbase:attributeBase o name X.env (eval o X.env)=eval o X.env:=by rfl) (hline:(apos.endLine==cpos.line)=true:=by rfl):PE X (.Call (.Attribute o name apos) [] [] cpos) (tBM0 X.K T r to):=by
 intro pins s σ H Q I h
 refine wpAny_Call_method0_late hbase hline (thn (ho pins s σ H _ I h) fun v s1 ⟨x,H1,I1,r1,ty,q1⟩=>?_)
 obtain⟨h1,h2⟩:=tyV_is I1 r1 ty
 exact⟨T,id,pa,slot,hty,h1,h2,Calls.callWith_builtin rfl (PySem.evalArgs_none (hm pins s1 σ H1 x [] v [] Q I1 r1 .nil q1))⟩
theorem zaf(pa:PlainAttrs T)(slot:Slot T name id)(hty:typeOf (.builtin id)=pure (.type "method_descriptor"))(hm:MtR X id r)(ho:PE X o to)(ha:PA X (e::es) t)
 (hbase:attributeBase o name X.env (eval o X.env)=eval o X.env:=by rfl)
 (hfew:((backTo cpos (starEach (e::es) X.env)).all (fun x => !x.1) && (backToKw cpos (keywordEach [] X.env)).all (fun x=>x.1.isSome)
   && decide ((e::es).length+([]:List Keyword).length+(if([]:List Keyword).isEmpty then 0 else 1)<30))=true:=by rfl)
 (hline:(apos.endLine==cpos.line)=true:=by rfl) (hs:starEach (e::es) X.env=(false,eval e X.env)::starEach es X.env:=by rfl) (hplain:(backTo cpos (starEach es X.env)).any (·.1)=false:=by rfl) :
 PE X (.Call (.Attribute o name apos) (e::es) [] cpos) (tBM X.K T r to t):=by
 intro pins s σ H Q I h
 refine wpAny_Call_method_late hbase hfew hline rfl (thn (ho pins s σ H _ I h) fun v s1 ⟨x,H1,I1,r1,ty,q1⟩=>?_)
 obtain⟨h1,h2⟩:=tyV_is I1 r1 ty
 refine⟨T,id,pa,slot,hty,h1,h2,?_⟩
 have hA:=ha cpos pins s1 σ H1 _ I1 q1
 rw[hs] at hA ⊢
 refine Calls.callWith_builtin (by show(false || (backTo cpos (starEach es X.env)).any (·.1))=false;rw[hplain] <;> rfl) (Calls.evalArgs_plain ?_)
 exact thn hA fun us s2 ⟨vs,H2,I2,r2,q2⟩=>hm pins s2 σ H2 x vs v us Q I2 r1 r2 q2
/- xs.append(e),list.index on a module's tuple .. are MtR facts of 06m -/
end
def MtM(X:Cx)(id:String)(r:V→List V→Hp→VK→Prop):Prop :=
 ∀(pins:List (Addr×Obj)) (s:Shared) (σ:St) (H:Hp) (x:V) (xs:List V) (v:Value) (us:List Value) (Q:VK),Inv X pins σ H s→RelV x v→Vals xs us→r x xs H Q →
  wpAny (model X.prog X.w) X.A (call (.builtin id) (v::us)) (EP X pins σ Q) X.xe s
theorem Vals.one:∀{x:V}{us:List Value},Vals [x] us→∃u,us=[u]∧RelV x u
 := by
 intro x us h
 cases h with
 | cons r q=>cases q;exact⟨_,rfl,r⟩
theorem Vals.two:∀{x y:V}{us:List Value},Vals [x,y] us→∃u v,us=[u,v]∧RelV x u∧RelV y v
 := by
 intro x y us h
 cases h with
 | cons r z=>cases z with
   | cons q z=>cases z;exact⟨_,_,rfl,r,q⟩
theorem Vals.zero:∀{us:List Value},Vals [] us→us=[]
 | _,.nil=>rfl
theorem Vals.eraseIdx:∀{xs:List V}{us:List Value}(i:Nat),Vals xs us→Vals (xs.eraseIdx i) (us.eraseIdx i)
 | _,_,_,.nil=>.nil
 | _,_,0,.cons _ t=>t
 | _,_,i+1,.cons r t=>.cons r (Vals.eraseIdx i t)
theorem Vals.reverse{xs:List V}{us:List Value}(h:Vals xs us):Vals xs.reverse us.reverse:=by
 induction h with
 | nil=>exact .nil
 | cons r t ih=>rw[List.reverse_cons,List.reverse_cons];exact Vals.append ih (.cons r .nil)
theorem zhY{α:Type}:∀(l:List α)(i:Nat),(l.eraseIdx i).length≤l.length
 | [],_=>le_refl _
 | _::_,0=>le_succ _
 | _::r,i+1=>Nat.succ_le_succ (zhY r i)
section
variable {X:Cx}{pins:List (Addr×Obj)}{σ:St}{H:Hp}{s:Shared}{l b:Addr}{xs ys zs:List V}
theorem Inv.lset{its its':List Value}{n:Nat}{f:Array Value→Array Value}{t':Nat}(I:Inv X pins σ H s)(hH:H l=some (.lst xs))
 (e:s.heap.get? l=some { cls:=.type "list",data:=.seq its.toArray n }) (hf:f its.toArray=its'.toArray) (hv:Vals ys its') (hz:ys.length≤sizeLine) :
 Inv X pins σ (upd H l (.lst ys)) { s with heap:=s.heap.update l (Obj.mapSeq f),toks:=t' }:=by
 have q:=PySem.IsL.update e f
 rw[hf] at q
 refine I.write (x:=l) (e:=l) (by rw[hH];exact trivial) (.inl rfl) (fun b' u hb hu=>(get?_update_other s.heap (Obj.mapSeq f) (Ne.symm hb)).trans hu) ⟨_,q⟩ ?_
 exact⟨hz,its',_,hv,q⟩
theorem Inv.lnew{its:List Value}{t':Nat}(I:Inv X pins σ H s)(hv:Vals ys its)(hz:ys.length≤sizeLine):
 Inv X pins σ (upd H s.heap.objs.size (.lst ys)) { s with heap:=s.heap.push { cls:=.type "list",data:=.seq its.toArray },toks:=t' } :=
 I.laid (fun _ _ q=>get?_push_of_some _ q) (le_refl _) ⟨hz,its,0,hv,get?_push_size _ rfl⟩
theorem Inv.fresh(I:Inv X pins σ H s):H s.heap.objs.size=none:=I.hok.fresh (le_refl _)
theorem Inv.lstM(I:Inv X pins σ H s)(hH:H l=some (.lst xs)):xs.length≤sizeLine∧∃(its:List Value)(n:Nat),Vals xs its∧xs.length=its.length∧s.heap.get? l=some { cls:=.type "list",data:=.seq its.toArray n }:=by
 obtain⟨z,its,n,r,e⟩:=I.hok l _ hH
 exact⟨z,its,n,r,r.length,e⟩
end
section
variable {X:Cx}
inductive IRAppend (x:V) (vs:List V) (H:Hp) (Q:VK):Prop
 | mk (l:_) (xs:_) (y:_):x=.ref l→vs=[y]→H l=some (.lst xs)→xs.length<sizeLine→Q .non (upd H l (.lst (xs++[y])))→IRAppend x vs H Q
def rAppend:V→List V→Hp→VK→Prop:=fun x vs H Q=>IRAppend x vs H Q
theorem yz:MtM X "list.append" rAppend:=by
 intro pins s σ H x vs v us Q I rx rv h
 obtain⟨l,xs,y,rfl,rfl,hH,hz,q⟩:=h
 cases rx
 obtain⟨u,rfl,ru⟩:=rv.one
 obtain⟨z,its,n,r,hl,e⟩:=I.lstM hH
 refine call_meets F.slot_list_append ⟨_,e,rfl⟩ F.entry_list_append (F.args_list_append_2 _ _) (PySem.list_append l its.toArray n u (by rw[size_toArray];omega)) ⟨e,?_⟩
 refine⟨.non,_,I.lset (its':=its++[u]) hH e (by simp) (r.append (.cons ru .nil)) ?_,rfl,q⟩
 rw[length_append,length_singleton]
 omega
def rPopAt:V→List V→Hp→VK→Prop:=fun x vs H Q=>∃l xs i k y,x=.ref l∧vs=[.int i]∧H l=some (.lst xs) ∧ -(2 ^ 63)≤i∧i<2 ^ 63∧seqIndex? i xs.length=some k∧xs[k]? = some y∧Q y (upd H l (.lst (xs.eraseIdx k)))
theorem mt_popAt:MtM X "list.pop" rPopAt:=by
 intro pins s σ H x vs v us Q I rx rv h
 obtain⟨l,xs,i,k,y,rfl,rfl,hH,h1,h2,hk,hy,q⟩:=h
 cases rx
 obtain⟨u,rfl,ru⟩:=rv.one
 obtain⟨t,rfl⟩:=ru
 obtain⟨z,its,n,r,hl,e⟩:=I.lstM hH
 obtain⟨w,hw,rw'⟩:=r.get hy
 refine call_meets F.slot_list_pop ⟨_,e,rfl⟩ F.entry_list_pop (F.args_list_pop_2 _ _)
  (MeetsSeq.list_pop_at l its.toArray n i t k w (fitsIndex_both h1 h2) (by rw[size_toArray,←hl];exact hk) (by rw[←Array.getElem?_toList];exact hw) (by rw[size_toArray];omega)) ⟨e,?_⟩
 refine⟨y,_,I.lset (its':=its.eraseIdx k) hH e ?_ (r.eraseIdx k) ?_,rw',q⟩
 ·show its.toArray.eraseIdxIfInBounds k=(its.eraseIdx k).toArray
  rw[List.eraseIdxIfInBounds_toArray]
 ·have:=zhY xs k
  omega
def rClear:V→List V→Hp→VK→Prop:=fun x vs H Q=>∃l xs,x=.ref l∧vs=[]∧H l=some (.lst xs)∧Q .non (upd H l (.lst []))
theorem mt_clear:MtM X "list.clear" rClear:=by
 intro pins s σ H x vs v us Q I rx rv h
 obtain⟨l,xs,rfl,rfl,hH,q⟩:=h
 cases rx
 have hus:=rv.zero
 subst hus
 obtain⟨z,its,n,r,hl,e⟩:=I.lstM hH
 refine call_meets F.slot_list_clear ⟨_,e,rfl⟩ F.entry_list_clear (F.args_list_clear_1 _) (AutoSeq1.list_clear_list_0 l its.toArray n (by rw[size_toArray];omega)) ⟨e,?_⟩
 exact⟨.non,_,I.lset (its':=[]) (ys:=[]) hH e rfl .nil (zero_le _),rfl,q⟩
inductive IRCat (x y:V) (H:Hp) (Q:VK):Prop
 | mk (l:_) (b:_) (xs:_) (zs:_):x=.ref l→y=.ref b→H l=some (.lst xs)→H b=some (.lst zs)→xs.length+zs.length≤sizeLine→(∀p,H p=none→Q (.ref p) (upd H p (.lst (xs++zs))))→IRCat x y H Q
def rCat:R2:=fun x y H Q=>IRCat x y H Q
theorem zaF:OpR X (binaryOp .Add) rCat:=by
 intro pins s σ H x y v u Q I rx ry h
 obtain⟨l,b,xs,zs,rfl,rfl,hH,hB,hz,q⟩:=h
 cases rx
 cases ry
 obtain⟨z,its,n,r,hl,e⟩:=I.lstM hH
 obtain⟨z2,its2,n2,r2,hl2,e2⟩:=I.lstM hB
 refine PySem.P.add_list e e2 ?_ (by rw[size_toArray,size_toArray];omega)
 have ea:its.toArray++its2.toArray=(its++its2).toArray:=by simp
 rw[ea]
 exact⟨.ref _,_,I.lnew (t':=s.toks) (r.append r2) (by rw[length_append];omega),rfl,q _ I.fresh⟩
end
section
variable {prog:Program}{w:World}{A:Around}{E:Value→Shared→Prop}{s:Shared}
end
section
variable {X:Cx}
end
end L2
namespace Att
open PySem PySem.W PySem.Calls PyProof.Rows
theorem zga{P:Params}{h:Heap}:∀(ns:List Int)(vs:List Value),WellAll P h vs (ns.map WData.int)→IntsAre vs ns:=by
 intro ns
 induction ns with
 | nil =>
   intro vs w
   rw[map_nil] at w
   cases w
   exact .nil
 | cons n ns ih =>
   intro vs w
   rw[map_cons] at w
   cases w with
   | cons a b =>
     cases a
     exact .cons _ _ (ih _ b)
theorem script_of{l:OpenLaw}{n:Nat}(hn:l.most=some n){P:Params}{h:Heap}{args:List WData}{vals:List Value}
 (hpre:l.row.toRowW.claim.pre args=true) (hwl:WellAll P h vals args) :
 ∃a vs ns,vals=[Value.ref a]∧args=[WData.list (ns.map WData.int)]∧h.get? a=some { cls:=.type "list",data:=.seq vs.toArray }∧IntsAre vs ns∧ns.length≤n:=by
 have hsh:WShape.hasAll [] args [.list .int]=true:=(pre_splitW hpre).1
 have hc:l.pre.holds [] { args:=args }=true:=(pre_splitW hpre).2
 obtain⟨d,r,rfl,h1,h2⟩:=hasAllW_cons hsh
 obtain rfl:=hasAllW_nil h2
 obtain⟨xs,rfl,h3⟩:=hasW_list h1
 obtain⟨ns,rfl⟩:=items_int h3
 have hlen:ns.length≤n:=by
  unfold OpenLaw.pre at hc
  have h4:(WTm.not (.lt (.lit (.int (n:Int))) (.len (.arg 0)))).holds [] { args:=[.list (ns.map .int)] }=true:=by
   have h4:=(holds_andW hc).1
   rw[hn] at h4
   exact h4
  have h5:=condW_of h4 (w_not (w_lt w_lit (w_len_list (w_arg rfl))))
  rw[length_map] at h5
  refine Nat.le_of_not_lt fun q=>?_
  have q':(n:Int)<((ns.length:Nat):Int):=by omega
  first
   | (rw[decide_eq_true q'] at h5;exact absurd h5 (by decide))
   | (simp at h5;omega)
 cases hwl with
 | cons w1 w2 =>
   cases w2
   cases w1 with
   | list ho hall=>exact⟨_,_,ns,rfl,rfl,ho,zga ns _ hall,hlen⟩
theorem post_true(l:OpenLaw)(args:List WData):l.row.toRowW.claim.post args (.bool true) args=true :=
 postW_of (r:=l.row.toRowW) (X:=(true==true))
  (show WShape.has [] (.bool true) .bool=true by first | rfl | decide | simp[WShape.has,WShape.arms,WShape.armsAll])
  (show(WTm.eq .res (.lit (.bool true))).value [] { args:=args,res:=some (.bool true),after:=args }=some (.bool (true==true))from w_eq_bool (w_res rfl) w_lit) rfl
theorem attach_call{l:OpenLaw}{n:Nat}{q:Program}{loose:List Str}{XP:(Str→Option Value)→Heap→Prop}{YP:World→Heap→Prop}{d:DefRec}
 (hn:l.most=some n) (hdf:d.params.defaults=[])
 (call:∀(w:World)(s₀ s₁:Shared)(mg mb:Str→Option Value)(fa:Addr)(o:Obj)(pm cd doc:Value)(a:Addr)(vs:List Value)(ns:List Int),
   Ground q loose [] XP w s₀ mg mb s₁.heap→YP w s₁.heap →
   s₁.heap.get? fa=some o→o.data=.func (docDef d.name d.params d.body d.scope pm cd doc)→s₁.heap.CodeRec cd d.name→mg d.name=some (.ref fa) →
   s₁.heap.get? a=some { cls:=.type "list",data:=.seq vs.toArray }→IntsAre vs ns→ns.length≤n→s₁.gens = #[] →
   codeAny (model l.prog w) callerA (.call (.ref fa) ⟨[.ref a],[]⟩) (fun r s'=>r=.ok (.ret (.bool true))∧OldK s₁.heap s'.heap∧s'.os=s₁.os∧AllBare s'.gens) s₁) :
 WalkO q loose XP YP l.row.toRowW d [] (fun f vs=>PySem.call f vs):=by
 intro w s₀ s₁ mg mb G Y fa o pm cd doc dV kV ho hd hcd hD hmg hg args vals as hpre hlay hrd hwl hlo
 obtain rfl:dV=.none:=Dflts.none hD hdf
 obtain rfl:kV=.none:=Dflts.noKw hD
 obtain⟨a,vs,ns,rfl,rfl,hobj,hints,hlen⟩:=script_of hn hpre hwl
 refine enter_call (codeAny_mono (call w s₀ s₁ mg mb fa o pm cd doc a vs ns G Y ho (fd_plain hd) hcd hmg hobj hints hlen hg) fun r s' hq=>?_)
 obtain⟨rfl,h2,h3,h4⟩:=hq
 exact⟨.inl ⟨.bool true,.bool true,[],rfl,fun _=>rfl,.bool true,post_true l _,fun _=>⟨List.Pairwise.nil,fun _ hm=>(nomatch hm)⟩⟩,h2,h3,h4⟩
section
variable {prog:Program}{w:World}{A:Around}{E:Value→Shared→Prop}{s:Shared}{K:Frag}
def ledger(h:Heap)(L d:Addr):List (Addr×Obj):=(List.range h.objs.size).filterMap fun a=>if a=L∨a=d then none else(h.get? a).map fun o=>(a,o)
end
end Att
namespace L2
open PySem PySem.Spec PyProof.Rows
theorem zia:∀{vs:List Value}{ns:List Int},IntsAre vs ns→Vals (ns.map V.int) vs
 | _,_,.nil=>.nil
 | _,_,.cons n t h=>.cons ⟨t,rfl⟩ (zia h)
end L2
/- THE LAST THEOREM (shape;LID,My.* are yours):
 My.Adr: a structure of the addresses that your layer names (classes,functions);My.Txt K t: a structure (Prop) of the equations over K;
 My.txt_mk:{K} {implicit addresses ..} (e1:nsIn K mainGlobals "law"=some (some (.ref f))) (e2:K.lookup f=some ⟨oc,od,.func (fnOf "law" "law" params body scope dV kV doc pm an cdv ct),sl⟩) (e3:codeIn K cdv "law"=true) .. : ∃t,My.Txt K t
(the tactic k_is has no namespace: write k_is) -/
namespace L2
open PySem PySem.Spec PyProof.Rows
def wy(s:Stmt)(j:Nat):Stmt:=match s with
 | .ClassDef _ _ _ body _ _ _ _ _ _ _=>body.getD j (.Pass ⟨0,0,0,0⟩)
 | _ => .Pass ⟨0,0,0,0⟩
def zav(s:Stmt):Arguments:=match s with
 | .FunctionDef _ a _ _ _ _ _ _ _ _=>a
 | _=>{ posonlyargs:=[],args:=[],vararg:=none,kwonlyargs:=[],kw_defaults:=[],kwarg:=none,defaults:=[] }
def y6(s:Stmt):List Stmt:=match s with
 | .FunctionDef _ _ b _ _ _ _ _ _ _=>b
 | _=>[]
def zf(s:Stmt):Scope:=match s with
 | .FunctionDef _ _ _ _ _ _ sc _ _ _=>sc
 | _=>{ kind:=.function,names:=[],isGenerator:=false,isCoroutine:=false }
abbrev CX0:CXT:=fun _ _ _ _ _ _=>False
abbrev E0:XK:=fun _ _ _=>False
theorem pass0{X:Cx}:ziA CX0 X E0:=fun _ _ _ _ _ _ _ h=>h.elim
structure Fun (K:Frag) (x qual:Str) (st:Stmt) (f:Addr) (fd:FuncData):Prop where
 ex:∃(oc:Value)(od:Option Addr)(kV doc pm:Value)(an:Option Addr)(cdv ct:Value)(osl:Array (Option Value)),
  fd=fnOf x qual (zav st) (y6 st) (zf st) .none kV doc pm an cdv ct∧K.lookup f=some ⟨oc,od,.func fd,osl⟩∧codeIn K cdv qual=true
 kp:keepIn K (.ref f)=true
section
variable {P:Program}{w:World}{K:Frag}{mg:Str→Option Value}{base:Heap}
theorem Fun.ok{x qual:Str}{st:Stmt}{f:Addr}{fd:FuncData}{N ps:List Str}{k:Nat}{sp:Sp}(F:Fun K x qual st f fd)(S:FnScope N ps (zf st))(len:∀vs H Q E,sp vs H Q E→vs.length=ps.length)
 (hbody:∀(cdv:Value)(A:Around)(outer:List Env)(s:Shared)(H:Hp)(vs:List V)(Q:VK)(E:XK),Room k (A.deeper (envOfC qual (zf st) s.heap.objs.size f cdv))→sp vs H Q E →
   ∃t,PSs (zcb CX0 P w K mg base N qual (zf st) f cdv A outer s H E).nox (y6 st) t∧t { nx:=fun _ H'=>Q .non H',rt:=Q } (zbq N vs) H):FnOk P w K mg base CX0 (k+1) f fd ps sp:=by
 obtain⟨oc,od,kV,doc,pm,an,cdv,ct,osl,rfl,lk,hcd⟩:=F.ex
 refine fn_of lk hcd S len fun A outer s H vs Q E hr hsp=>?_
 obtain⟨t,h,q⟩:=hbody cdv A outer s H vs Q E hr hsp
 exact⟨t,h.nox,q⟩
theorem Fun.binds{x qual:Str}{st:Stmt}{f:Addr}{fd:FuncData}{ps:List Str}(F:Fun K x qual st f fd)
 (h:∀(kV doc pm:Value)(an:Option Addr)(cdv ct:Value)(us:List Value),us.length=ps.length→bindArgs (fnOf x qual (zav st) (y6 st) (zf st) .none kV doc pm an cdv ct) ⟨us,[]⟩=pure (ps.zip us)):Binds K fd ps []:=by
 obtain⟨oc,od,kV,doc,pm,an,cdv,ct,osl,rfl,lk,hcd⟩:=F.ex
 exact .all (h kV doc pm an cdv ct)
theorem zfu{x qual:Str}{st:Stmt}{f:Addr}{oc:Value}{od an:Option Addr}{osl:Array (Option Value)}{kV doc pm cdv ct:Value}(l:K.lookup f=some ⟨oc,od,.func (fnOf x qual (zav st) (y6 st) (zf st) .none kV doc pm an cdv ct),osl⟩)
 (c:codeIn K cdv qual=true) (k:keepIn K (.ref f)=true):Fun K x qual st f (fnOf x qual (zav st) (y6 st) (zf st) .none kV doc pm an cdv ct):=⟨⟨oc,od,kV,doc,pm,an,cdv,ct,osl,rfl,l,c⟩,k⟩
end
theorem zhX{A:Around}{k:Nat}(hr:Room k A):A.units+1<cLine:=Nat.lt_of_le_of_lt (Nat.add_le_add_left (by decide:1≤64) _) hr.units
section
variable {X:Cx}
theorem pv(i:Nat){x:Str}{pos:Pos}(hN:X.N[i]? = some x:=by rfl)(hv:Vis X.env.scope x:=by first | exact Or.inl rfl | exact Or.inr (Or.inl rfl) | exact Or.inr (Or.inr rfl))(hd:(x==("__debug__":Str))=false:=by decide)
 (hcd:(x==("__classdict__":Str))=false:=by decide):PE X (.Name x pos) (tVar i):=pe_var hN hv hd hcd
end
theorem yT{A B:Prop}(h:B):if false=true then A else B:=by
 rw[if_neg Bool.false_ne_true]
 exact h
theorem zhB{A B:Prop}(h:A):if true=true then A else B:=by
 rw[if_pos rfl]
 exact h
theorem iteNS{c A B:Prop} [Decidable c](hc:c)(h:B):if(!decide c)=true then A else B:=by
 rw[decide_eq_true hc]
 exact yT h
def Same(H H':Hp):Prop:=∀b o,H b=some o→H' b=some o
theorem Same.refl(H:Hp):Same H H:=fun _ _ h=>h
theorem Same.trans{H H1 H2:Hp}(a:Same H H1)(b:Same H1 H2):Same H H2:=fun c o h=>b c o (a c o h)
theorem Same.free{H H':Hp}(e:Same H H'){l:Addr}(h:H' l=Option.none):H l=Option.none:=by
 cases q:H l with
 | none=>rfl
 | some o =>
   rw[e l o q] at h
   cases h
theorem Same.seq{K:Frag}{H H':Hp}{a:Addr}{xs:List V}(e:Same H H')(h:SqL K H a xs):SqL K H' a xs:=by
 rcases h with(h | ⟨o,h⟩) | h
 ·exact .inl (.inl (e _ _ h))
 ·exact .inl (.inr ⟨o,e _ _ h⟩)
 ·exact .inr h
theorem zdu{env:Env}:∀(l:List (Str×NameKind)) (acc:List (Str×Addr)),(∀y∈l,y.2=.free→∃c,env.cells.lookup y.1=some c)→(∀y c,acc.lookup y=some c→env.cells.lookup y=some c) →
 ∃cl,(forIn l acc fun(x:Str×NameKind) (r:List (Str×Addr))=>if(x.2==NameKind.free)=true then(do let a ←cellOf env x.1;pure (ForInStep.yield ((x.1,a)::r)))else(pure (ForInStep.yield r):Sem (ForInStep (List (Str×Addr)))))=(pure cl:Sem (List (Str×Addr))) ∧
  (∀y c,cl.lookup y=some c→env.cells.lookup y=some c)∧(∀y,((y,NameKind.free)∈l∨(acc.lookup y).isSome=true)→∃c,cl.lookup y=some c)
 | [],acc,_,ha=>⟨acc,rfl,ha,fun y h=>by
    rcases h with h | h
    ·cases h
    ·exact Option.isSome_iff_exists.mp h⟩
 | (n,k)::r,acc,h,ha=>by
   by_cases hk:k=.free
   ·subst hk
    obtain⟨c,hc⟩:=h (n,.free) mem_cons_self rfl
    obtain⟨cl,e,h1,h2⟩:=zdu r ((n,c)::acc) (fun y hy=>h y (mem_cons_of_mem _ hy)) (fun y d hd=>by
     rw[lookup_cons] at hd
     by_cases hy:y=n
     ·subst hy;simp at hd;subst hd;exact hc
     ·rw[beq_eq_false_iff_ne.mpr hy] at hd;exact ha y d hd)
    refine⟨cl,?_,h1,fun y hy=>h2 y ?_⟩
    ·rw[forIn_cons]
     have:cellOf env n=pure c:=by unfold cellOf;rw[hc]
     simp only[this]
     exact e
    ·rcases hy with hy | hy
     ·rcases List.mem_cons.mp hy with z | z
      ·have:y=n:=by injection z
       right;simp[lookup_cons,this]
      ·exact .inl z
     ·right
      rw[lookup_cons]
      split
      ·rfl
      ·exact hy
   ·obtain⟨cl,e,h1,h2⟩:=zdu r acc (fun y hy=>h y (mem_cons_of_mem _ hy)) ha
    refine⟨cl,?_,h1,fun y hy=>h2 y ?_⟩
    ·rw[forIn_cons]
     have hb:(k==NameKind.free)=false:=by simpa using hk
     simp only[hb]
     exact e
    ·rcases hy with hy | hy
     ·rcases List.mem_cons.mp hy with z | z
      ·injection z with _ z2;exact absurd z2.symm hk
      ·exact .inl z
     ·exact .inr hy
theorem zbT{env:Env}{scope:Scope}(h:∀y∈scope.names,y.2=.free→∃c,env.cells.lookup y.1=some c):
 ∃cl,closureFor scope env=pure cl∧(∀y c,cl.lookup y=some c→env.cells.lookup y=some c)∧∀y,(y,NameKind.free)∈scope.names→∃c,cl.lookup y=some c:=by
 obtain⟨cl,e,h1,h2⟩:=zdu scope.names [] h (fun y c z=>by cases z)
 refine⟨cl,?_,h1,fun y hy=>h2 y (.inl hy)⟩
 unfold closureFor
 exact(congrArg (fun(m:Sem (List (Str×Addr)))=>m >>= fun r=>pure r) e).trans rfl
theorem zbk{f:Str×NameKind→Str×NameKind}(h1:∀p,(f p).1=p.1):∀{names:List (Str×NameKind)} {y:Str} {k:NameKind},(names.map f).lookup y=some k→∃k0,(y,k0)∈names∧(f (y,k0)).2=k
 | [],_,_,h=>by cases h
 | p::r,y,k,h=>by
   rw[map_cons] at h
   generalize hq:f p=q at h
   obtain⟨q1,q2⟩:=q
   rw[lookup_cons] at h
   have e1:q1=p.1:=by have:=h1 p;rw[hq] at this;exact this
   by_cases hy:y=q1
   ·have hb:(y==q1)=true:=by simp[hy]
    rw[hb] at h
    have h':q2=k:=Option.some.inj h
    refine⟨p.2,?_,?_⟩
    ·rw[hy,e1];exact mem_cons_self
    ·rw[hy,e1]
     have:f (p.1,p.2)=(q1,q2):=hq
     rw[this];exact h'
   ·rw[beq_eq_false_iff_ne.mpr hy] at h
    obtain⟨k0,m,e⟩:=zbk h1 (names:=r) h
    exact⟨k0,mem_cons_of_mem _ m,e⟩
theorem zac{f:Str×NameKind→Str×NameKind}(h1:∀p,(f p).1=p.1):∀{names:List (Str×NameKind)} {y:Str} {k:NameKind},names.lookup y=some k→(names.map f).lookup y=some (f (y,k)).2
 | [],_,_,h=>by cases h
 | p::r,y,k,h=>by
   rw[map_cons]
   obtain⟨p1,p2⟩:=p
   have e1:=h1 (p1,p2)
   generalize hq:f (p1,p2)=q at e1 ⊢
   obtain⟨q1,q2⟩:=q
   have e1:q1=p1:=e1
   subst e1
   rw[lookup_cons] at h ⊢
   by_cases hy:y=q1
   ·have hb:(y==q1)=true:=by simp[hy]
    rw[hb] at h ⊢
    have h':p2=k:=Option.some.inj h
    subst h'
    subst hy
    show some q2=_
    rw[hq]
   ·rw[beq_eq_false_iff_ne.mpr hy] at h ⊢
    exact zac h1 h
def rl(env:Env)(p:Str×NameKind):Str×NameKind:=if(p.2==NameKind.free && env.scope.kind == .function && env.kindOf p.1==some .cell)then(p.1,NameKind.cell)else(p.1,p.2)
theorem zgT(env:Env)(p:Str×NameKind):(rl env p).1=p.1:=by unfold rl;split <;> rfl
theorem rl_free(env:Env)(y:Str):(rl env (y,.free)).2=.cell∨(rl env (y,.free)).2=.free:=by
 unfold rl
 split
 ·exact .inl rfl
 ·exact .inr rfl
theorem ziv(env:Env)(y:Str)(k:NameKind)(h:k ≠ .free):(rl env (y,k)).2=k:=by
 unfold rl
 have hb:(k==NameKind.free)=false:=by simpa using h
 simp[hb]
theorem wG(scope:Scope)(env:Env):(relabel scope env).names=scope.names.map (rl env):=rfl
theorem zeX{env:Env}{scope:Scope}{y:Str}(hc:∀z∈scope.names,z.2 ≠ .cell)(h:(relabel scope env).names.lookup y=some .cell∨(relabel scope env).names.lookup y=some .free):(y,NameKind.free)∈scope.names:=by
 rw[wG] at h
 have go:∀k,(k=.cell∨k=.free)→(scope.names.map (rl env)).lookup y=some k→(y,NameKind.free)∈scope.names:=fun k hk q=>by
  obtain⟨k0,m,e⟩:=zbk (zgT env) q
  by_cases hf:k0=.free
  ·rw[hf] at m;exact m
  ·rw[ziv env y k0 hf] at e
   rcases hk with z | z
   ·exact absurd (e.trans z) (hc _ m)
   ·exact absurd (e.trans z) hf
 rcases h with h | h
 ·exact go _ (.inl rfl) h
 ·exact go _ (.inr rfl) h
theorem zbD{env:Env}{scope:Scope}{y:Str}(h:scope.names.lookup y=some .free):(relabel scope env).names.lookup y=some .cell∨(relabel scope env).names.lookup y=some .free:=by
 rw[wG,zac (zgT env) h]
 rcases rl_free env y with z | z
 ·exact .inl (congrArg some z)
 ·exact .inr (congrArg some z)
def blk(X:Cx)(N:List Str)(scope:Scope)(cl:List (Str×Addr))(C:Addr)(s2:Shared)(H2:Hp)(fp:List Addr):Cx where
 prog:=X.prog
 w:=X.w
 K:=X.K
 mg:=X.mg
 base:=X.base
 A:=X.A
 N:=N
 s₀:=s2
 H₀:=H2
 env:=compEnvC scope cl C X.env
 outer:=X.stack
 stack:=X.stack
 ex:=fp
 fn:=fun _=>false
 calm:=X.calm
 pn:=[]
 xe:=fun _ _=>False
structure CompScope (sc:Scope) (N:List Str) (x:Str) (fr:List Str) (ix:List Nat) (scope:Scope):Prop where
 kind:scope.kind=.function
 nocell:∀y∈scope.names,y.2 ≠ .cell
 lcl:∀y∈scope.names,y.2=.local→scope.names.lookup y.1=some .local
 lx:scope.names.lookup x=some .local
 free:∀y∈scope.names,y.2=.free→sc.names.lookup y.1=some .cell∨sc.names.lookup y.1=some .free
 at':fr.map some=ix.map fun i=>N[i]?
 frk:∀y∈fr,scope.names.lookup y=some .free∧(sc.names.lookup y=some .cell∨sc.names.lookup y=some .free)
 nd:(x::fr).Nodup
def cap(ix:List Nat)(σ:St):St:=ix.map fun i=>(σ[i]?).join
section
variable {X:Cx}{pins:List (Addr×Obj)}{σ:St}{H:Hp}{s:Shared}{x:Str}{fr:List Str}{ix:List Nat}{scope:Scope}{cl:List (Str×Addr)}{fp:List Addr}{C D:Addr}
theorem blk_ok(S:CompScope X.env.scope X.N x fr ix scope)(I:Inv X pins σ H s)(hf:∀b∈fp,wH X pins H b)(hfo:∀b∈fp,b<s.heap.objs.size)(hC:s.heap.objs.size≤C)
 (h1:∀y c,cl.lookup y=some c→X.env.cells.lookup y=some c) (h2:∀y,(y,NameKind.free)∈scope.names→∃c,cl.lookup y=some c):(blk X (x::fr) scope cl C s H fp).Ok where
 mod:=I.ok.mod
 kind:=S.kind
 glob:=I.ok.glob
 blt:=I.ok.blt
 above:=hC
 inj:=fun y z c a b=>I.ok.inj y z c (h1 y c a) (h1 z c b)
 has:=fun y hy=>h2 y (zeX (env:=X.env) (scope:=scope) S.nocell hy)
 cab:=fun y c h _=>Bool.noConfusion (show false=true from h)
 hd:=I.ok.hd
 frames:=I.ok.frames
 stk:=.inl rfl
 exf:=fun b hb=>⟨fun z=>absurd (hfo b hb) (by rw[z];exact Nat.not_lt.mpr hC),fun y c e=>(hf b hb).2.2.2.2.1 y c (h1 y c e)⟩
 bs:=I.bs
 bsz:=le_trans I.ok.bsz I.sz
 noex:=fun b o e hb=>by
  rcases (hf b hb).2.2.2.1 with z | z
  ·exact I.ok.noex b o e z
  ·exact absurd (lt_of_lt_of_le (lt_size e) (le_trans I.ok.bsz z)) (lt_irrefl _)
 exfs:=fun b hb z=>by
  rcases List.mem_cons.mp (I.stkSub b z)with e | e
  ·exact(hf b hb).2.1 e
  ·exact(hf b hb).2.2.1 e
 funs:=I.stack
 frf:=I.stkFree
theorem zin:(cap ix σ).length=ix.length:=by unfold cap;rw[length_map]
theorem CompScope.len(S:CompScope X.env.scope X.N x fr ix scope):fr.length=ix.length:=by have:=congrArg List.length S.at';simpa using this
theorem blk_inv{s':Shared}{pn:List (Addr×Obj)}{m:Str→Option Value}(S:CompScope X.env.scope X.N x fr ix scope)(I:Inv X pins σ H s)(hf:∀b∈fp,wH X pins H b)(hfo:∀b∈fp,b<s.heap.objs.size)(hC:s.heap.objs.size≤C)
 (h1:∀y c,cl.lookup y=some c→X.env.cells.lookup y=some c) (h2:∀y,(y,NameKind.free)∈scope.names→∃c,cl.lookup y=some c)
 (ho:s'.os=s.os) (hg:s'.gens=s.gens) (k:∀b o,s.heap.get? b=some o→s'.heap.get? b=some o) (hn:s'.heap.Ns C m)
 (hp:∀p∈pn,s'.heap.get? p.1=some p.2∧s.heap.objs.size≤p.1∧p.1≠C∧∀v,p.2.data ≠ .cell v) :
 Inv (blk X (x::fr) scope cl C s H fp) pn (none::cap ix σ) H s':=by
 obtain⟨mX,hnX,hlX⟩:=I.loc
 refine⟨blk_ok S I hf hfo hC h1 h2,ho,by rw[hg];exact I.bare,Un.kept k,⟨m,hn,fun i y v e1 e2 e3=>?_⟩,fun y c e=>?_,I.hok.fresh hC,fun y c e=>I.freeC y c (h1 y c e),fun p hp'=>?_,I.hok.kept k,by
  show(none::cap ix σ).length=(x::fr).length
  simp[zin,S.len]⟩
 ·cases i with
  | zero=>cases e2
  | succ j =>
    have e1':fr[j]? = some y:=e1
    have e2':(cap ix σ)[j]? = some (some v):=e2
    obtain⟨f1,f2⟩:=S.frk y (mem_of_getElem? e1')
    unfold cap at e2'
    rw[getElem?_map] at e2'
    cases ei:ix[j]? with
    | none=>rw[ei] at e2';cases e2'
    | some i =>
      rw[ei] at e2'
      have e3':(σ[i]?).join=some v:=Option.some.inj e2'
      have e4:σ[i]? = some (some v):=by
       cases q:σ[i]? with
       | none=>rw[q] at e3';cases e3'
       | some w=>rw[q] at e3';have:w=some v:=e3';rw[this]
      have e5:X.N[i]? = some y:=by
       have:=congrArg (fun l=>l[j]?) S.at'
       simp only[getElem?_map,e1',ei] at this
       simpa using this.symm
      have vis:Vis X.env.scope y:=by
       rcases f2 with z | z
       ·exact .inr (.inl z)
       ·exact .inr (.inr z)
      obtain⟨u,r,l⟩:=hlX i y v e5 e4 vis
      refine⟨u,r,.inr ⟨zbD f1,?_⟩⟩
      rcases l with⟨z,_⟩|⟨_,c,ec,hc⟩
      ·rcases f2 with q | q
       ·have q':=(show X.env.scope.names.lookup y=some .local from z).symm.trans q;cases q'
       ·have q':=(show X.env.scope.names.lookup y=some .local from z).symm.trans q;cases q'
      ·obtain⟨c',hc'⟩:=h2 y (PySem.mem_of_lookup f1)
       have:c'=c:=by have:=h1 y c' hc';rw[ec] at this;exact(Option.some.inj this).symm
       subst this
       refine⟨c',hc',?_⟩
       obtain⟨o,ho',hd⟩:=hc
       exact⟨o,k _ _ ho',hd⟩
 ·obtain⟨v,o,ho',hd⟩:=I.cell y c (h1 y c e)
  exact⟨v,o,k _ _ ho',hd⟩
 ·have hp'':p∈pn:=by simpa [blk] using hp'
  obtain⟨q1,q2,q3,q4⟩:=hp p hp''
  refine⟨q1,I.hok.fresh q2,q3,fun z=>?_,q4⟩
  obtain⟨_,o,ho',_⟩:=I.stack.mem z
  exact absurd (lt_of_lt_of_le (lt_size ho') q2) (lt_irrefl _)
end
def PIf(X:Cx)(ifs:List Expr)(t:TT):Prop :=
 ∀(pins:List (Addr×Obj)) (s:Shared) (σ:St) (H:Hp) (Q:Bool→Hp→Prop),Inv X pins σ H s→t σ H Q →
  wpAny (model X.prog X.w) X.A (forIn ifs true fun c r=>if r=true then do let ok ←isTrue c X.env (eval c X.env);pure (ForInStep.yield ok)else pure (ForInStep.yield r)) (TP X pins σ Q) X.xe s
def zjr:TT:=fun _ H Q=>Q true H
theorem yu{X:Cx}:PIf X [] zjr:=fun _ _ _ H _ I h=>wpAny_tests_nil ⟨H,I,h⟩
theorem yZ{X:Cx}{c:Expr}{t:TT}(h:PT X c t):PIf X [c] t:=fun pins s σ H Q I q=>wpAny_tests_one (h pins s σ H Q I q)
def zdA(J:It)(c:St)(tc:TT)(te:TE)(H1:Hp)(fin:List V→Hp→Prop):Prop :=
 ∃W:Nat→Nat→List V→Hp→Prop,(∃m,W 0 m [] H1)∧∀i m ys H,W i m ys H →
  (J.stop i H∧ys.length≤sizeLine∧fin ys H) ∨
  (J.go i H∧ys.length<sizeLine∧∃N:List V→Hp→Prop,(∀ys' H',N ys' H'→∃m',m'<m∧W (i+1) m' ys' H')∧∀x H',J.yld i H x H'→tc (some x::c) H' fun b H2=>if b=true then te (some x::c) H2 fun y H3=>N (ys++[y]) H3 else N ys H2)
def tComp(ix:List Nat)(wi:TI)(tc:TT)(te:TE):TE:=fun σ H Q=>wi σ H fun J H1=>zdA J (cap ix σ) tc te H1 fun ys H2=>∀l,H2 l=none→Q (.ref l) (upd H2 l (.lst ys))
theorem zdl{prog:Program}{w:World}{A:Around}{R:Result→Shared→Prop}{s:Shared}{elt tg it0:Expr}{tests:List Expr}{scope:Scope}{pos:Pos}{it acc:Value}{env:Env}(J:Nat→Shared→Prop)
 (turn:∀n s,J n s→wpAny (model prog w) A (pyNext it) (fun r s1=>match r with
   | none=>R (.ok .next) s1
   | some v=>wpAny (model prog w) A (letOwnedTupleGo tg it v) (fun _ s2=>wpAny (model prog w) A (assign tg env v) (fun _ s3 =>
      wpAny (model prog w) A (forIn tests true fun c r=>if r=true then do let ok ←isTrue c env (eval c env);pure (ForInStep.yield ok)else pure (ForInStep.yield r)) (fun ok s4 =>
       if ok=true then wpAny (model prog w) A (eval elt env) (fun x s5 =>
        wpAny (model prog w) A (call (.builtin "list.append") [acc,x]) (fun _ s6=>∃m,m<n∧J m s6) (fun _ _=>False) s5) (fun _ _=>False) s4
       else ∃m,m<n∧J m s4) (fun _ _=>False) s3) (fun _ _=>False) s2) (fun _ _=>False) s1) (fun _ _=>False) s)
 (n:Nat) (h:J n s):codeAny (model prog w) A (.compLoop (.ListComp elt [⟨tg,it0,tests,0⟩] scope pos) 0 it acc env) R s:=by
 have up:∀{α:Type}{t:Sem α}{q q':α→Shared→Prop}{E':Value→Shared→Prop}{s:Shared},wpAny (model prog w) A t q (fun _ _=>False) s→(∀a s,q a s→q' a s)→wpAny (model prog w) A t q' E' s:=fun h k=>wpAny_mono h k fun _ _ z=>False.elim z
 refine codeAny_loop rfl J (fun n s hJ=>?_) n h
 show wpAny _ A ((compTurn (.ListComp elt [⟨tg,it0,tests,0⟩] scope pos) 0 it acc env).onRaise (fun x=>do noteFrame x env;theTreesLotGoes x)) _ _ s
 refine wpAny_noted ?_
 rw[compTurn_list]
 refine wpAny_bind (wpAny_standAt (wpAny_bind (up (turn n s hJ) fun r s1 h1=>?_)))
 cases r with
 | none=>exact wpAny_pure h1
 | some v =>
   refine wpAny_bind (up h1 fun _ s2 h2=>wpAny_bind (up h2 fun _ s3 h3=>wpAny_bind (up h3 fun ok s4 h4=>?_)))
   cases ok with
   | false=>exact wpAny_pure ⟨rfl,h4⟩
   | true =>
     exact wpAny_bind (wpAny_bind (up h4 fun x s5 h5=>wpAny_bind (up h5 fun _ s6 h6=>wpAny_pure (wpAny_pure ⟨rfl,h6⟩))))
section
variable {X:Cx}{x:Str}{fr:List Str}{ix:List Nat}{scope:Scope}{elt iter:Expr}{ifs:List Expr}{px pos:Pos}{wi:TI}{tc:TT}{te:TE}
theorem zjd{use:Option (Value→Sem Unit)}{Q:Value→Shared→Prop}{pins:List (Addr×Obj)}{s2:Shared}{σ:St}{H2:Hp}{it:Addr}{fp:List Addr}{tn:Nat→Heap→Prop}{J:It}{cl:List (Str×Addr)}(S:CompScope X.env.scope X.N x fr ix scope)(hc:X.calm=true)
 (hif:∀cl C s2 H2 fp,PIf (blk X (x::fr) scope cl C s2 H2 fp) ifs tc) (he:∀cl C s2 H2 fp,PE (blk X (x::fr) scope cl C s2 H2 fp) elt te)
 (h1:∀y c,cl.lookup y=some c→X.env.cells.lookup y=some c) (h2:∀y,(y,NameKind.free)∈scope.names→∃c,cl.lookup y=some c)
 (I2:Inv X pins σ H2 s2) (T:Turn X.prog X.w X.K (.Name x px) J fp it tn) (st2:tn 0 s2.heap) (f2:∀b∈fp,wH X pins H2 b) {fin:List V→Hp→Prop} (wc:zdA J (cap ix σ) tc te H2 fin)
 (hQ:∀(D C:Addr)(ys:List V)(H':Hp)(s':Shared)(m:Str→Option Value),Inv X pins σ (upd H' D (.lst ys)) s'→H' D=none→s'.heap.Ns C m→D≠C→s2.heap.objs.size≤C→H' C=none→fin ys H' →
   compPost (model X.prog X.w) X.A X.xe use Q (.ref D) C (.ok .next) s') :
 wpAny (model X.prog X.w) X.A (newList []) (fun acc s₃=>wpAny (model X.prog X.w) X.A (newFunctionEnv scope X.env.globals cl [] X.env.qual none .none (some X.env)) (fun cenv s₄ =>
  codeAny (model X.prog X.w) X.A (.compStart (.ListComp elt [⟨.Name x px,iter,ifs,0⟩] scope pos) 0 (.ref it) acc { cenv with scope:=relabel scope X.env }) (compPost (model X.prog X.w) X.A X.xe use Q acc cenv.locals) s₄) X.xe s₃) X.xe s2:=by
 have hfo:∀b∈fp,b<s2.heap.objs.size:=fun b hb=>by
  obtain⟨o,e,_⟩:=T.obj 0 _ st2 b hb
  exact lt_size e
 refine wpAny_newObj_type (wpAny_newFunctionEnv S.nocell (by intro y hy;simp at hy) (fun h₁ hns₁ hsb₁=>?_) S.kind)
 dsimp only at hns₁ hsb₁ ⊢
 generalize hHp:s2.heap.push { cls:=.type "list",dict:=none,data:=.seq ([]:List Value).toArray }=Hp2 at hns₁ hsb₁ ⊢
 have hCs:Hp2.objs.size=s2.heap.objs.size+1:=by rw[←hHp,size_push]
 have hDC:s2.heap.objs.size≠Hp2.objs.size:=by rw[hCs];exact ne_of_lt (lt_succ_self _)
 have hCle:s2.heap.objs.size≤Hp2.objs.size:=by rw[hCs];exact le_succ _
 have zen:∀b,b<s2.heap.objs.size→b≠Hp2.objs.size:=fun b hb=>by rw[hCs];exact ne_of_lt (lt_succ_of_lt hb)
 have old:∀b o,s2.heap.get? b=some o→h₁.get? b=some o:=fun b o e=>hsb₁.extBut b o (zen b (lt_size e)) (get?_push_of_some _ (hHp ▸ get?_push_of_some _ e))
 have hacc:h₁.get? s2.heap.objs.size=some { cls:=.type "list",data:=.seq ([]:List Value).toArray 0 }:=hsb₁.extBut _ _ hDC (get?_push_of_some _ (hHp ▸ get?_push_size _ rfl))
 have st1:tn 0 h₁:=T.keep 0 _ _ st2 fun b _ o e=>old b o e
 have fpD:∀b∈fp,b≠s2.heap.objs.size:=fun b hb=>ne_of_lt (hfo b hb)
 generalize hD:s2.heap.objs.size=D at hacc hDC fpD ⊢
 have hDle:s2.heap.objs.size≤D:=le_of_eq hD
 generalize hC:Hp2.objs.size=C at hns₁ hsb₁ hDC hCle ⊢
 have oldD:∀b o,s2.heap.get? b=some o→b≠D:=fun b o e z=>absurd (lt_size e) (by rw[z,←hD];exact lt_irrefl _)
 obtain⟨W,⟨m0,w0⟩,turn⟩:=wc
 have loop:∀s₃:Shared,s₃={ s2 with heap:=h₁,toks:=s2.toks+([]:List (Str×Value)).length } →
  codeAny (model X.prog X.w) X.A (.compLoop (.ListComp elt [⟨.Name x px,iter,ifs,0⟩] scope pos) 0 (.ref it) (.ref D) (compEnvC scope cl C X.env))
   (compPost (model X.prog X.w) X.A X.xe use Q (.ref D) C) s₃:=by
  rintro s₃ rfl
  have I0:Inv (blk X (x::fr) scope cl C s2 H2 fp) [(D,{ cls:=.type "list",data:=.seq ([]:List Value).toArray 0 })] (none::cap ix σ) H2 { s2 with heap:=h₁,toks:=s2.toks+([]:List (Str×Value)).length } :=
   blk_inv S I2 f2 hfo hCle h1 h2 rfl rfl old hns₁ (fun p hp=>by
    have e:p=(D,{ cls:=.type "list",data:=.seq ([]:List Value).toArray 0 }):=by simpa using hp
    subst e
    exact⟨hacc,hDle,hDC,fun v z=>by cases z⟩)
  have stat:∀{its:Obj}{H':Hp},(∀b∈fp,H' b=none)→∀b∈fp,wH (blk X (x::fr) scope cl C s2 H2 fp) [(D,its)] H' b:=fun {its H'} hn b hb=>by
   refine⟨hn b hb,fun z=>?_,fun z=>(I0.ok.exfs b hb z),.inl hb,fun y c e=>(I0.ok.exf b hb).2 y c e,fun p hp z=>?_⟩
   ·exact(I0.ok.exf b hb).1 z
   ·have e:p=(D,its):=by simpa [blk] using hp
    subst e
    exact fpD b hb (Eq.symm z)
  refine zdl (env:=compEnvC scope cl C X.env)
   (fun n s'=>∃i ys its k v0 H',Vals ys its∧Inv (blk X (x::fr) scope cl C s2 H2 fp) [(D,{ cls:=.type "list",data:=.seq its.toArray k })] (v0::cap ix σ) H' s'∧tn i s'.heap∧(∀b∈fp,H' b=none)∧W i n ys H') ?_ m0
   ⟨0,[],[],0,none,H2,.nil,I0,st1,fun b hb=>(f2 b hb).1,w0⟩
  rintro n s3 ⟨i,ys,its,k,v0,H3,rv,I3,st3,fr3,w3⟩
  rcases turn i n ys H3 w3 with⟨stop,hz,hfin⟩|⟨go,hz,N,hN,step⟩
  ·refine thn (T.done (blk X (x::fr) scope cl C s2 H2 fp) rfl rfl rfl hc i _ s3 _ H3 _ I3 (stat fr3) st3 stop) fun r s4 ⟨hr,I4⟩=>?_
   subst hr
   have pD:=I4.pin (D,{ cls:=.type "list",data:=.seq its.toArray k }) (by simp[blk])
   obtain⟨mC,hnC,_⟩:=I4.loc
   have hH3D:H3 D=none:=pD.2.1
   have hok':HOk X.prog X.w (upd H3 D (.lst ys)) s4.heap:=fun b u e=>by
    by_cases hb:b=D
    ·subst hb
     rw[zd] at e;cases e
     exact⟨hz,its,k,rv,pD.1⟩
    ·rw[zi hb] at e
     exact(I4.hok b u e).stay (fun c v _ q=>q) (fun c q=>by rw[zi (zj q hH3D)];exact q) fun c xs q=>by rw[zi (zj q hH3D)];exact q
   have b4:Un (frs X.stack) fp H2 H3 s2.heap s4.heap:=I4.base
   have un:Un (frs X.stack) fp H2 (upd H3 D (.lst ys)) s2.heap s4.heap :=
    ⟨b4.keep,b4.slot,fun b o q n hx=>by
     rw[zi (oldD b o q)];exact b4.free b o q n hx,b4.there,fun b xs q=>by rw[zi (zj (b4.tups b xs q) hH3D)];exact b4.tups b xs q,
     fun b o u q=>by rw[zi (zj (b4.frzs b o u q) hH3D)];exact b4.frzs b o u q,fun b ps q=>by
      obtain⟨more,e⟩:=b4.tbls b ps q
      exact⟨more,by rw[zi (zj e hH3D)];exact e⟩⟩
   have I5:Inv X pins σ (upd H3 D (.lst ys)) s4:=I2.call' (ch:=fp) I4.os un hok' I4.bare fun b hb=>by
    obtain⟨g0,g1,g2,g3,g4,g5⟩:=f2 b hb
    exact⟨g3,g1,g4,g5⟩
   exact hQ D C ys H3 s4 mC I5 hH3D hnC hDC hCle I4.free hfin
  ·refine thn (T.item (blk X (x::fr) scope cl C s2 H2 fp) rfl rfl rfl hc i _ s3 _ H3 _ I3 (stat fr3) st3 go) fun r s4 ⟨u,hr,h4⟩=>?_
   subst hr
   refine thn h4 fun _ s5 ⟨y,H5,I5,r5,y5,st5,fr5⟩=>?_
   have I5':=I5.pinned (stat fr5) (T.obj _ _ st5)
   have pg:PG (blk X (x::fr) scope cl C s2 H2 fp) (.Name x px) (zf0 0):=zH S.nd rfl (.inl (lookup_relabel_local S.lx)) (.inr (lookup_relabel_local S.lx))
   refine thn (pg _ s5 _ H5 y u (fun σ6 H6=>σ6=some y::cap ix σ∧H6=H5) I5' r5 ⟨rfl,rfl⟩) fun _ s6 ⟨σ6,H6,I6,e6,e6'⟩=>?_
   subst e6 e6'
   refine thn (hif cl C s2 H2 fp _ s6 _ _ _ I6 (step y _ y5)) fun b s7 ⟨H7,I7,q7⟩=>?_
   have again:∀{s8:Shared}{H8:Hp}{its':List Value}{k':Nat}{ys':List V},Vals ys' its'→Inv (blk X (x::fr) scope cl C s2 H2 fp) [(D,{ cls:=.type "list",data:=.seq its'.toArray k' })] (some y::cap ix σ) H8 s8→(∀b∈fp,∀o,s5.heap.get? b=some o→s8.heap.get? b=some o)→(∀b∈fp,H8 b=none)→N ys' H8 →
    ∃m,m<n∧∃i ys its k v0 H',Vals ys its∧Inv (blk X (x::fr) scope cl C s2 H2 fp) [(D,{ cls:=.type "list",data:=.seq its.toArray k })] (v0::cap ix σ) H' s8∧tn i s8.heap∧(∀b∈fp,H' b=none)∧W i m ys H' :=
    fun {s8 H8 its' k' ys'} rv8 I8 kp fr8 nn=>let ⟨m',hm,w8⟩:=hN ys' H8 nn;⟨m',hm,i+1,ys',its',k',some y,H8,rv8,I8,T.keep _ _ _ st5 kp,fr8,w8⟩
   cases b with
   | false =>
     rw[if_neg Bool.false_ne_true] at q7 ⊢
     refine again rv I7.unpinned (fun b hb o e=>(I7.pin (b,o) (by simp[blk];exact .inr (yx hb e))).1) (fun b hb=>?_) q7
     obtain⟨o,e,d⟩:=T.obj _ _ st5 b hb
     exact(I7.pin (b,o) (by simp[blk];exact .inr (yx hb e))).2.1
   | true =>
     rw[if_pos rfl] at q7 ⊢
     refine thn (he cl C s2 H2 fp _ s7 _ _ _ I7 q7) fun v s8 ⟨z,H8,I8,r8,q8⟩=>?_
     have pD:=I8.pin (D,{ cls:=.type "list",data:=.seq its.toArray k }) (by simp[blk])
     have hvl:ys.length=its.length:=rv.length
     refine append_at (hsz:=by show its.toArray.size≤sizeLine;rw[size_toArray];omega) pD.1 fun h₉ hs₉ hD₉=>?_
     have eo:({ cls:=.type "list",data:=.seq (its.toArray.push v) (k+1) }:Obj)={ cls:=.type "list",data:=.seq (its++[v]).toArray (k+1) }:=by rw[push_toArray]
     rw[eo] at hD₉
     have pn8:∀b∈fp,∀o,s5.heap.get? b=some o→s8.heap.get? b=some o∧H8 b=none:=fun b hb o e=>by
      have q:=I8.pin (b,o) (by simp[blk];exact .inr (yx hb e))
      exact⟨q.1,q.2.1⟩
     have J8:=I8.unpinned.pins_of (pins':=[]) (fun p hp=>by cases hp)
     have f2D:wH (blk X (x::fr) scope cl C s2 H2 fp) [] H8 D:=⟨pD.2.1,pD.2.2.1,pD.2.2.2.1,.inr hDle,fun y c e z=>by
      obtain⟨v,o,ho,_⟩:=I2.cell y c (h1 y c e)
      exact oldD c o ho z,fun p hp=>by cases hp⟩
     have I9:Inv (blk X (x::fr) scope cl C s2 H2 fp) [] (some y::cap ix σ) H8 { s8 with heap:=h₉ }:=J8.turned (t':=s8.toks) (it:=D) (fun b o hb e=>(hs₉.2 b hb).trans e) f2D.1 f2D.2.1 f2D.2.2.2.1 f2D.2.2.2.2.1 f2D.2.2.2.2.2
     refine again (its':=its++[v]) (k':=k+1) (ys':=ys++[z]) (rv.append (.cons r8 .nil)) (I9.pins_of fun p hp=>?_) (fun b hb o e=>(hs₉.2 b (fpD b hb)).trans (pn8 b hb o e).1) (fun b hb=>?_) q8
     ·have e:p=(D,{ cls:=.type "list",data:=.seq (its++[v]).toArray (k+1) }):=by simpa using hp
      subst e
      exact⟨hD₉,f2D.1,f2D.2.1,f2D.2.2.1,fun v z=>by cases z⟩
     ·obtain⟨o,e,d⟩:=T.obj _ _ st5 b hb
      exact(pn8 b hb o e).2
 exact codeAny_compStart_list (loop _ rfl) (T.self X.A 0 _ _ _ st1 (loop _ rfl))
theorem zQ(S:CompScope X.env.scope X.N x fr ix scope)(hc:X.calm=true)(hi:PI X (.Name x px) iter wi)(hif:∀cl C s2 H2 fp,PIf (blk X (x::fr) scope cl C s2 H2 fp) ifs tc)(he:∀cl C s2 H2 fp,PE (blk X (x::fr) scope cl C s2 H2 fp) elt te)
 (hs:∀x,foldedSetIterable iter X.env x=pure x:=by intro _;rfl):PE X (.ListComp elt [⟨.Name x px,iter,ifs,0⟩] scope pos) (tComp ix wi tc te):=by
 intro pins s σ H Q I h
 obtain⟨cl,ecl,h1,h2⟩:=zbT (env:=X.env) (scope:=scope) fun y hy hf=>I.ok.has y.1 (S.free y hy hf)
 rw[eval_ListComp]
 refine wpAny_comprehension_free (use:=none) rfl hs ecl S.kind S.lcl (thn (hi pins s σ H _ I h) fun xv s1 q1=>thn q1 fun itv s2 q2=>?_)
 obtain⟨it,fp,tn,J,H2,rfl,I2,T,st2,f2,wc⟩:=q2
 refine zjd S hc hif he h1 h2 I2 T st2 f2 wc fun D C ys H' s' m I' hD hn hDC hC hHC fin=>?_
 refine⟨m,hn,fun h' sb=>⟨.ref D,upd H' D (.lst ys),?_,rfl,fin D hD⟩⟩
 have hcf:wH X pins (upd H' D (.lst ys)) C:=by
  have z:=I2.fpOk (H':=upd H' D (.lst ys)) hC (by rw[zi (Ne.symm hDC)];exact hHC)
  exact z
 exact I'.turned (t':=s'.toks) (it:=C) (fun b o hb e=>(sb.2 b hb).trans e) hcf.1 hcf.2.1 hcf.2.2.2.1 hcf.2.2.2.2.1 hcf.2.2.2.2.2
theorem yV{i:Nat}{y:Str}{py spos:Pos}(S:CompScope X.env.scope X.N x fr ix scope)(hc:X.calm=true)(hN:X.N.Nodup)(hiy:X.N[i]? = some y)(hy:Loc X.env.scope y)(hi:PI X (.Name x px) iter wi)(hif:∀cl C s2 H2 fp,PIf (blk X (x::fr) scope cl C s2 H2 fp) ifs tc)(he:∀cl C s2 H2 fp,PE (blk X (x::fr) scope cl C s2 H2 fp) elt te)
 (hsw:swapsWith (.ListComp elt [⟨.Name x px,iter,ifs,0⟩] scope pos) (some (.Name y py)) spos.line X.env=pure true:=by rfl)
 (hf:X.fn y=true∨X.env.scope.names.lookup y=some .local:=by first | exact .inl rfl | exact .inr rfl | assumption)
 (hs:∀x,foldedSetIterable iter X.env x=pure x:=by intro _;rfl) :
 PS X (.Assign [.Name y py] (.ListComp elt [⟨.Name x px,iter,ifs,0⟩] scope pos) spos) (tAsg (tComp ix wi tc te) (zf0 i)):=by
 intro pins s σ H Dn I h
 obtain⟨cl,ecl,h1,h2⟩:=zbT (env:=X.env) (scope:=scope) fun y hy hf=>I.ok.has y.1 (S.free y hy hf)
 rw[exec_Assign_Name_used _ _ _ _ hsw]
 refine wpAny_bind (wpAny_standAt (wpAny_bind ?_))
 show wpAny _ X.A (do let _ ←comprehension (.ListComp elt [⟨.Name x px,iter,ifs,0⟩] scope pos) scope X.env _ (newList []) false (eval iter X.env) (some (assign (.Name y py) X.env))) _ _ s
 refine wpAny_bind (thn (Q:=fun _ s'=>SP X pins Dn .next s') ?_ fun _ s' q=>wpAny_pure (wpAny_pure q))
 refine wpAny_comprehension_free (use:=some (assign (.Name y py) X.env)) rfl hs ecl S.kind S.lcl (thn (hi pins s σ H _ I h) fun xv s1 q1=>thn q1 fun itv s2 q2=>?_)
 obtain⟨it,fp,tn,J,H2,rfl,I2,T,st2,f2,wc⟩:=q2
 refine zjd S hc hif he h1 h2 I2 T st2 f2 wc fun D C ys H' s' m I' hD hn hDC hC hHC fin=>?_
 have hcf:wH X pins (upd H' D (.lst ys)) C:=I2.fpOk (H':=upd H' D (.lst ys)) hC (by rw[zi (Ne.symm hDC)];exact hHC)
 show wpAny _ X.A (assign (.Name y py) X.env (.ref D)) _ _ s'
 refine wpAny_assign_Name (zfA (v:=V.ref D) I' hN hiy hy rfl (fun s'' I'' hsb=>?_) hf)
 obtain⟨a,sb,ha⟩:=hsb
 have hCa:C≠a:=fun z=>by
  rcases ha with q | q
  ·exact hcf.2.1 (z.trans q)
  ·exact hcf.2.2.2.2.1 y a q z.symm
 refine⟨m,hn.sameBut sb hCa,fun h' sb'=>⟨_,_,I''.turned (t':=s''.toks) (it:=C) (fun b o hb e=>(sb'.2 b hb).trans e) hcf.1 hcf.2.1 hcf.2.2.2.1 hcf.2.2.2.2.1 hcf.2.2.2.2.2,fin D hD⟩⟩
end
section
variable {X:Cx}
def ixV(xs:List V)(y:V):Nat:=xs.findIdx fun z=>eqV z y
theorem zkc{x:V}:∀{xs:List V}{us:List Value},Vals xs us→xs.all zag=true→us.findIdx (eqU x)=xs.findIdx fun y=>eqV y x
 | _,_,.nil,_=>rfl
 | y::xs,u::us,.cons r t,f=>by
   rw[all_cons,Bool.and_eq_true] at f
   rw[findIdx_cons,findIdx_cons,eqU_of r f.1,zkc t f.2]
def rIndex(K:Frag):V→List V→Hp→VK→Prop:=fun x vs H Q=>∃l xs y,x=.ref l∧vs=[y]∧SqL K H l xs∧zag y=true∧xs.all zag=true∧ixV xs y<xs.length∧Q (.int (ixV xs y:Nat)) H
theorem zkn:(sizeLine:Int)<2 ^ 63-1:=by decide
theorem zfj:MtM X "list.index" (rIndex X.K):=by
 intro pins s σ H x vs v us Q I rx rv h
 obtain⟨l,xs,y,rfl,rfl,hH,fy,fs,hj,q⟩:=h
 cases rx
 obtain⟨u,rfl,ru⟩:=rv.one
 obtain⟨its,r,⟨⟨oc,od,dt,sl⟩,n,e,c1,c2,c3⟩,z⟩:=I.list hH
 simp only at c1 c2 c3
 subst c1 c2 c3
 have hl:=r.length
 have ef:=zkc (x:=y) r fs
 have hj':its.findIdx (eqU y)<its.length:=by rw[ef,←hl];exact hj
 refine call_meets F.slot_list_index ⟨_,e,rfl⟩ F.entry_list_index (F.args_list_index_2 _ _)
  (SeqAt.list_indexAt l its.toArray n none sl u (eqU y) (its.findIdx (eqU y)) (by simpa using hj') (by have:=zkn;omega) (by simpa using List.findIdx_getElem (w:=hj')) (fun m hm hlt=>by simpa using List.not_of_lt_findIdx hlt)) ⟨e,fun w hw=>zeW ru fy r fs w (by simpa using hw),?_⟩
 refine⟨.int (ixV xs y:Nat),H,I.tok _,⟨s.toks,?_⟩,q⟩
 rw[ef];rfl
def isInt:V→Option Bool
 | .int _=>some true
 | .bl _=>some true
 | .str _=>some false
 | .non=>some false
 | _=>none
def isBool:V→Option Bool
 | .int _=>some false
 | .bl _=>some true
 | .str _=>some false
 | .non=>some false
 | _=>none
def isStr:V→Option Bool
 | .int _=>some false
 | .bl _=>some false
 | .str _=>some true
 | .non=>some false
 | _=>none
inductive IsLst (K:Frag) (H:Hp):V→Bool→Prop
 | yes {a:Addr} {xs:List V}:SqL K H a xs→IsLst K H (.ref a) true
 | no {a:Addr} {xs:List V}:SqT K H a xs→IsLst K H (.ref a) false
inductive IsTpl (K:Frag) (H:Hp):V→Bool→Prop
 | yes {a:Addr} {xs:List V}:SqT K H a xs→IsTpl K H (.ref a) true
 | no {a:Addr} {xs:List V}:SqL K H a xs→IsTpl K H (.ref a) false
inductive ICall_isi_int (xs:List V) (H:Hp) (Q:VK):Prop
 | mk (x:_) (b:_):xs=[x,.ty "int"]→isInt x=some b→Q (.bl b) H→ICall_isi_int xs H Q
theorem zil:zam X (.builtin "isinstance") ICall_isi_int:=by
 intro pins s σ H xs us Q I r h
 obtain⟨x,b,rfl,e,q⟩:=h
 obtain⟨u,t,rfl,ru,rt⟩:=r.two
 cases rt
 cases x with
 | int i=>obtain⟨t',rfl⟩:=ru;cases e;exact IsiPair.int_int ⟨.bl true,H,I,rfl,q⟩
 | bl i=>cases ru;cases e;exact IsiPair.bool_int ⟨.bl true,H,I,rfl,q⟩
 | str i=>obtain⟨t',rfl⟩:=ru;cases e;exact IsiPair.str_int ⟨.bl false,H,I.tok _,rfl,q⟩
 | non=>cases ru;cases e;exact IsiPair.NoneType_int ⟨.bl false,H,I.tok _,rfl,q⟩
 | _=>cases e
inductive ICall_isi_bool (xs:List V) (H:Hp) (Q:VK):Prop
 | mk (x:_) (b:_):xs=[x,.ty "bool"]→isBool x=some b→Q (.bl b) H→ICall_isi_bool xs H Q
theorem zet:zam X (.builtin "isinstance") ICall_isi_bool:=by
 intro pins s σ H xs us Q I r h
 obtain⟨x,b,rfl,e,q⟩:=h
 obtain⟨u,t,rfl,ru,rt⟩:=r.two
 cases rt
 cases x with
 | int i=>obtain⟨t',rfl⟩:=ru;cases e;exact IsiPair.int_bool ⟨.bl false,H,I.tok _,rfl,q⟩
 | bl i=>cases ru;cases e;exact IsiPair.bool_bool ⟨.bl true,H,I,rfl,q⟩
 | str i=>obtain⟨t',rfl⟩:=ru;cases e;exact IsiPair.str_bool ⟨.bl false,H,I.tok _,rfl,q⟩
 | non=>cases ru;cases e;exact IsiPair.NoneType_bool ⟨.bl false,H,I.tok _,rfl,q⟩
 | _=>cases e
inductive ICall_isi_str (xs:List V) (H:Hp) (Q:VK):Prop
 | mk (x:_) (b:_):xs=[x,.ty "str"]→isStr x=some b→Q (.bl b) H→ICall_isi_str xs H Q
theorem zfe:zam X (.builtin "isinstance") ICall_isi_str:=by
 intro pins s σ H xs us Q I r h
 obtain⟨x,b,rfl,e,q⟩:=h
 obtain⟨u,t,rfl,ru,rt⟩:=r.two
 cases rt
 cases x with
 | int i=>obtain⟨t',rfl⟩:=ru;cases e;exact IsiPair.int_str ⟨.bl false,H,I.tok _,rfl,q⟩
 | bl i=>cases ru;cases e;exact IsiPair.bool_str ⟨.bl false,H,I.tok _,rfl,q⟩
 | str i=>obtain⟨t',rfl⟩:=ru;cases e;exact IsiPair.str_str ⟨.bl true,H,I,rfl,q⟩
 | non=>cases ru;cases e;exact IsiPair.NoneType_str ⟨.bl false,H,I.tok _,rfl,q⟩
 | _=>cases e
inductive ICall_isi_list (K:Frag) (xs:List V) (H:Hp) (Q:VK):Prop
 | mk (x:_) (b:_):xs=[x,.ty "list"]→IsLst K H x b→Q (.bl b) H→ICall_isi_list K xs H Q
theorem wD:zam X (.builtin "isinstance") (ICall_isi_list X.K):=by
 intro pins s σ H xs us Q I r h
 obtain⟨x,b,rfl,e,q⟩:=h
 obtain⟨u,t,rfl,ru,rt⟩:=r.two
 cases rt
 cases e with
 | yes hq =>
   cases ru
   obtain⟨its,r,⟨o,n,e,c1,c2,c3⟩,z⟩:=I.list hq
   exact IsiPair.list_list e c1 ⟨.bl true,H,I,rfl,q⟩
 | no hq =>
   cases ru
   obtain⟨its,r,⟨o,e,c1,n,c3⟩,z⟩:=I.tuple hq
   exact IsiPair.tuple_list e c1 ⟨.bl false,H,I.tok _,rfl,q⟩
inductive ICall_isi_tuple (K:Frag) (xs:List V) (H:Hp) (Q:VK):Prop
 | mk (x:_) (b:_):xs=[x,.ty "tuple"]→IsTpl K H x b→Q (.bl b) H→ICall_isi_tuple K xs H Q
theorem zbJ:zam X (.builtin "isinstance") (ICall_isi_tuple X.K):=by
 intro pins s σ H xs us Q I r h
 obtain⟨x,b,rfl,e,q⟩:=h
 obtain⟨u,t,rfl,ru,rt⟩:=r.two
 cases rt
 cases e with
 | yes hq =>
   cases ru
   obtain⟨its,r,⟨o,e,c1,n,c3⟩,z⟩:=I.tuple hq
   exact IsiPair.tuple_tuple e c1 ⟨.bl true,H,I,rfl,q⟩
 | no hq =>
   cases ru
   obtain⟨its,r,⟨o,n,e,c1,c2,c3⟩,z⟩:=I.list hq
   exact IsiPair.list_tuple e c1 ⟨.bl false,H,I.tok _,rfl,q⟩
def tRev(K:Frag)(te ts:TE):TE:=fun σ H Q=>te σ H fun x H1=>ts σ H1 fun y H2=>y=.int (-1)∧∃a xs,x=.ref a∧SqL K H2 a xs∧∀p,H2 p=none→Q (.ref p) (upd H2 p (.lst xs.reverse))
theorem pe_rev{e st:Expr}{te ts:TE}{p2 pos:Pos}(he:PE X e te)(hst:PE X st ts):PE X (.Subscript e (.Slice none none (some st) p2) pos) (tRev X.K te ts):=by
 intro pins s σ H Q I h
 refine Subscript_ (thn (he pins s σ H _ I h) fun v s1 ⟨x,H1,I1,r1,q1⟩=>?_)
 refine wpAny_Slice ?_
 rw[evalPart_none]
 refine wpAny_pure (wpAny_pure ?_)
 rw[evalPart_some]
 refine thn (hst pins s1 σ H1 _ I1 q1) fun u s3 ⟨y,H3,I3,r3,q3⟩=>?_
 obtain⟨rfl,a,xs,rfl,hx,q⟩:=q3
 obtain⟨t,rfl⟩:=r3
 cases r1
 have I4:Inv X pins σ H3 { s3 with heap:=s3.heap.push { cls:=.type "slice",data:=.fields #[.none,.none,.int (-1) t] } }:=I3.kept (t':=s3.toks) fun b ob q=>get?_push_of_some _ q
 obtain⟨its,r,ht,hz⟩:=I4.list hx
 have hlen:=r.length
 show wpAny (model X.prog X.w) X.A (subscriptTail e (.Slice none none (some st) p2) (.ref a) (.ref s3.heap.objs.size)) (EP X pins σ Q) X.xe { s3 with heap:=s3.heap.push { cls:=.type "slice",data:=.fields #[.none,.none,.int (-1) t] } }
 refine tail_any (ops:=[.ref a,.ref s3.heap.objs.size]) ht.isList.typeIs slot_list_getitem.lookup ?_ (by with_unfolding_all rfl)
 refine wpAny_getItem_list_slice ht.isList (Heap.IsSliceOf.new ..) .none .none (.int (-1) t) (by decide) ?_ (by rw[size_toArray] <;> omega)
 rw[PySem.W.krv_pick]
 refine⟨.ref _,_,I4.laid (t':=s3.toks) (o:=.lst xs.reverse) (fun b ob q=>get?_push_of_some _ q) (le_refl _) ?_,rfl,q _ (I4.hok.fresh (le_refl _))⟩
 exact⟨by rw[List.length_reverse];exact hz,_,0,r.reverse,get?_push_size _ rfl⟩
end
structure Can (P:Program) (w:World) (K:Frag) (mg:Str→Option Value) (base:Heap) (k:Nat) (x:Str) (ps:List Str) (sp:Sp):Prop where
 ex:∃f fd,FnOk P w K mg base CX0 k f fd ps sp∧mg x=some (.ref f)∧keepIn K (.ref f)=true∧Binds K fd ps []
theorem Can.of{P:Program}{w:World}{K:Frag}{mg:Str→Option Value}{base:Heap}{k:Nat}{x:Str}{ps:List Str}{sp:Sp}{f:Addr}{fd:FuncData}{qual:Str}{st:Stmt}
 (F:Fun K x qual st f fd) (G:FnOk P w K mg base CX0 k f fd ps sp) (hm:mg x=some (.ref f)) (b:Binds K fd ps []):Can P w K mg base k x ps sp:=⟨f,fd,G,hm,F.kp,b⟩
section
variable {X:Cx}{k:Nat}{x:Str}{ps:List Str}{sp:Sp}{p pos:Pos}{e:Expr}{es:List Expr}{t:TA}
theorem zg(C:Can X.prog X.w X.K X.mg X.base k x ps sp)(hr:Room k X.A)(hg:Gl X x)(ha:PA X (e::es) t)(hdb:(x==("__debug__":Str))=false:=by decide)(he:starEach (e::es) X.env=(false,eval e X.env)::starEach es X.env:=by rfl)
 (hpl:(backTo pos (starEach es X.env)).any (·.1)=false:=by rfl):PE X (.Call (.Name x p) (e::es) [] pos) (tCall sp [] E0 t):=by
 obtain⟨f,fd,F,hm,hk,hb⟩:=C.ex
 exact pe_call F hr hg hm hk hb .nil pass0 ha hdb he hpl
end
theorem yI{K:Frag}{a:Addr}{xs:List V}{c:St}{tc:TT}{te:TE}{H:Hp}{fin:List V→Hp→Prop}(Pv:Nat→List V→Hp→Prop)(h0:Pv 0 [] H)(hl:∀i ys H,i≤xs.length→Pv i ys H→SqL K H a xs∧ys.length≤i)(hz:xs.length≤sizeLine)
 (hs:∀i x ys H,xs[i]? = some x→Pv i ys H→tc (some x::c) H fun b H2=>if b=true then te (some x::c) H2 fun y H3=>Pv (i+1) (ys++[y]) H3 else Pv (i+1) ys H2)
 (hd:∀ys H,Pv xs.length ys H→fin ys H):zdA (Itl K a) c tc te H fin:=by
 refine⟨fun i m ys H=>m=xs.length-i∧i≤xs.length∧Pv i ys H,⟨xs.length,by simp,zero_le _,h0⟩,?_⟩
 rintro i m ys H ⟨rfl,hi,p⟩
 obtain⟨q,hy⟩:=hl i ys H hi p
 by_cases hlt:i<xs.length
 ·refine .inr ⟨⟨xs,xs[i],q,by simp[hlt]⟩,by omega,Pv (i+1),fun ys' H' p'=>⟨_,by omega,rfl,hlt,p'⟩,fun x H' y=>?_⟩
  obtain⟨e,y⟩:=y
  subst e
  exact hs i x ys _ (y xs q) p
 ·have e:i=xs.length:=by omega
  subst e
  exact .inl ⟨⟨xs,q,le_refl _⟩,by omega,hd ys H p⟩
theorem zdg{lo:Int}{n:Nat}{c:St}{tc:TT}{te:TE}{H:Hp}{fin:List V→Hp→Prop}(Pv:Nat→List V→Hp→Prop)(h0:Pv 0 [] H)(hl:∀i ys H,i≤n→Pv i ys H→ys.length≤i)(hz:n≤sizeLine)
 (hs:∀i ys H,i<n→Pv i ys H→tc (some (.int (lo+i))::c) H fun b H2=>if b=true then te (some (.int (lo+i))::c) H2 fun y H3=>Pv (i+1) (ys++[y]) H3 else Pv (i+1) ys H2)
 (hd:∀ys H,Pv n ys H→fin ys H):zdA (Itr lo n) c tc te H fin:=by
 refine⟨fun i m ys H=>m=n-i∧i≤n∧Pv i ys H,⟨n,by simp,zero_le _,h0⟩,?_⟩
 rintro i m ys H ⟨rfl,hi,p⟩
 have hy:=hl i ys H hi p
 by_cases hlt:i<n
 ·refine .inr ⟨hlt,by omega,Pv (i+1),fun ys' H' p'=>⟨_,by omega,rfl,hlt,p'⟩,fun x H' y=>?_⟩
  obtain⟨e,y⟩:=y
  subst e y
  exact hs i ys _ hlt p
 ·have e:i=n:=by omega
  subst e
  exact .inl ⟨le_refl _,by omega,hd ys H p⟩
theorem yc{K:Frag}{a:Addr}{xs:List V}{c:St}{te:TE}{H:Hp}{fin:List V→Hp→Prop}(Pv:Nat→List V→Hp→Prop)(h0:Pv 0 [] H)(hl:∀i ys H,i≤xs.length→Pv i ys H→SqL K H a xs∧ys.length≤i)(hz:xs.length≤sizeLine)
 (hs:∀i x ys H,xs[i]? = some x→Pv i ys H→te (some x::c) H fun y H3=>Pv (i+1) (ys++[y]) H3) (hd:∀ys H,Pv xs.length ys H→fin ys H):zdA (Itl K a) c zjr te H fin :=
 yI Pv h0 hl hz (fun i x ys H e p=>zhB (B:=Pv (i+1) ys H) (hs i x ys H e p)) hd
theorem zcw{lo:Int}{n:Nat}{c:St}{te:TE}{H:Hp}{fin:List V→Hp→Prop}(Pv:Nat→List V→Hp→Prop)(h0:Pv 0 [] H)(hl:∀i ys H,i≤n→Pv i ys H→ys.length≤i)(hz:n≤sizeLine)
 (hs:∀i ys H,i<n→Pv i ys H→te (some (.int (lo+i))::c) H fun y H3=>Pv (i+1) (ys++[y]) H3) (hd:∀ys H,Pv n ys H→fin ys H):zdA (Itr lo n) c zjr te H fin :=
 zdg Pv h0 hl hz (fun i ys H e p=>zhB (B:=Pv (i+1) ys H) (hs i ys H e p)) hd
theorem zdN{X:Cx}{x:Str}{i:Int}{pos:Pos}(h:∃t,X.mg x=some (.int i t))(hg:Gl X x)(hd:(x==("__debug__":Str))=false:=by decide):PE X (.Name x pos) (tC (.int i)):=by
 obtain⟨t,h⟩:=h
 exact pe_glob hg h ⟨t,rfl⟩ hd
theorem wv{c A B:Prop} [Decidable c](h1:c→A)(h2:¬c→B):if decide c=true then A else B:=by
 by_cases h:c
 ·rw[if_pos (decide_eq_true h)];exact h1 h
 ·rw[if_neg (by rw[decide_eq_false h];exact Bool.false_ne_true)];exact h2 h
theorem yk{c A B:Prop} [Decidable c](h1:¬c→A)(h2:c→B):if(!decide c)=true then A else B:=by
 by_cases h:c
 ·rw[decide_eq_true h];exact yT (h2 h)
 ·rw[decide_eq_false h];exact zhB (h1 h)
theorem zi4{b:Bool}{A B:Prop}(h1:b=true→A)(h2:b=false→B):if b=true then A else B:=by
 cases b with
 | true=>exact zhB (h1 rfl)
 | false=>exact yT (h2 rfl)
theorem Same.new{H:Hp}{l:Addr}{o:HO}(h:H l=Option.none):Same H (upd H l o):=fun b u e=>by rw[zi (zj e h)];exact e
theorem Same.newT{H H':Hp}{l:Addr}{o:HO}(s:Same H H')(h:H' l=Option.none):Same H (upd H' l o):=s.trans (Same.new h)
theorem Same.put{H H':Hp}{l:Addr}{o:HO}(s:Same H H')(h:H l=Option.none):Same H (upd H' l o):=fun b u e=>by rw[zi (zj e h)];exact s b u e
theorem Same.seqT{K:Frag}{H H':Hp}{a:Addr}{xs:List V}(e:Same H H')(h:SqT K H a xs):SqT K H' a xs:=by
 rcases h with(h | ⟨o,h⟩) | h
 ·exact .inl (.inl (e _ _ h))
 ·exact .inl (.inr ⟨o,e _ _ h⟩)
 ·exact .inr h
theorem SqL.new{K:Frag}{H:Hp}{l:Addr}{xs:List V}:SqL K (upd H l (.lst xs)) l xs:=SqL.of zd
theorem SqT.new{K:Frag}{H:Hp}{l:Addr}{xs:List V}:SqT K (upd H l (.tup xs)) l xs:=SqT.of zd
theorem zgB{xs:List V}{i:Int}{v:V}(h0:0≤i)(h:xs[i.toNat]? = some v):atI xs i=some v:=by
 have:=zJ h
 rwa [Int.toNat_of_nonneg h0] at this
theorem y8{ns:List Int}{i:Nat}(h:i<ns.length):(ns.map V.int)[i]? = some (.int (ns.getD i 0)):=by
 rw[getElem?_map,getElem?_eq_getElem h,getD_eq_getElem?_getD,getElem?_eq_getElem h];rfl
theorem ze4{ns:List Int}{i:Int}(h0:0≤i)(h:i<ns.length):atI (ns.map V.int) i=some (.int (ns.getD i.toNat 0)):=zgB h0 (y8 (by omega))
theorem zX(ns:List Int):(ns.map V.int).all zag=true:=by
 rw[all_map];exact List.all_eq_true.mpr fun _ _=>rfl
theorem zbR(ns:List Int)(c:Int):ixV (ns.map V.int) (.int c)=ns.idxOf c:=by
 unfold ixV
 induction ns with
 | nil=>rfl
 | cons a ns ih =>
   rw[map_cons,findIdx_cons,List.idxOf_cons,ih]
   rfl
theorem zj0(ns:List Int)(c:Int):inV (.int c) (ns.map V.int)=decide (c∈ns):=by
 unfold inV
 induction ns with
 | nil=>rfl
 | cons a ns ih =>
   rw[map_cons,any_cons,ih]
   show((a==c) || _)=_
   by_cases h:a=c
   ·subst h;simp
   ·have:¬c=a:=fun e=>h e.symm
    simp[h,this]
theorem zhe{xs:List V}{k:Int}(h:0≤k):zhf xs (some k) none=xs.drop k.toNat:=by
 obtain⟨n,rfl⟩:=Int.eq_ofNat_of_zero_le h
 unfold zhf
 rw[HT.sIx_none]
 show(xs.drop (HT.sIx xs.length 0 (some ((n:Nat):Int)))).take _=_
 rw[HT.sIx_nat,Int.toNat_natCast]
 by_cases h:n≤xs.length
 ·rw[Nat.min_eq_left h,take_of_length_le (by rw[length_drop];exact le_refl _)]
 ·rw[Nat.min_eq_right (by omega),drop_of_length_le (le_refl _),drop_of_length_le (by omega),take_nil]
theorem zi0{xs:List V}{k:Int}(h:0≤k):zhf xs none (some k)=xs.take k.toNat:=by
 obtain⟨n,rfl⟩:=Int.eq_ofNat_of_zero_le h
 unfold zhf
 rw[HT.sIx_none,List.drop_zero]
 show xs.take (HT.sIx xs.length xs.length (some ((n:Nat):Int))-0)=_
 rw[HT.sIx_nat,Int.toNat_natCast,Nat.sub_zero]
 by_cases h:n≤xs.length
 ·rw[Nat.min_eq_left h]
 ·rw[Nat.min_eq_right (by omega),take_of_length_le (le_refl _),take_of_length_le (by omega)]
theorem zfK{ns:List Int}{k:Int}(h:0≤k):zhf (ns.map V.int) (some k) none=(ns.drop k.toNat).map V.int:=by rw[zhe h,map_drop]
theorem zh4{ns:List Int}{k:Int}(h:0≤k):zhf (ns.map V.int) none (some k)=(ns.take k.toNat).map V.int:=by rw[zi0 h,map_take]
theorem zr:1000000≤sizeLine:=by decide
theorem seqIx_ok{i:Int}{n:Nat}(h0:0≤i)(h1:i<n):seqIndex? i n=some i.toNat:=by
 have e:(if i<0 then i+(n:Int)else i)=i:=if_neg (by omega)
 unfold seqIndex?
 simp only[e]
 rw[if_pos (by simp only[Bool.and_eq_true,decide_eq_true_eq];exact⟨h0,h1⟩)]
theorem zhN{α β:Type}(f:α→β):∀(l:List α)(i:Nat),(l.map f).eraseIdx i=(l.eraseIdx i).map f
 | [],_=>rfl
 | _::_,0=>rfl
 | a::l,i+1=>by
   show f a::(l.map f).eraseIdx i=f a::(l.eraseIdx i).map f
   rw[zhN f l i]
theorem zgG{α:Type}:∀(l:List α)(i:Nat)(h:i<l.length),(l[i]::l.eraseIdx i).Perm l
 | a::l,0,_=>List.Perm.refl _
 | a::l,i+1,h=>(List.Perm.swap a (l[i]'(by simpa using h)) (l.eraseIdx i)).trans ((zgG l i (by simpa using h)).cons a)
theorem yy{ns:List Int}{i:Nat}(hi:i<ns.length):ns.take (i+1)=ns.take i++[ns.getD i 0]:=by
 rw[take_succ,getElem?_eq_getElem hi,getD_eq_getElem?_getD,getElem?_eq_getElem hi];rfl
theorem yN{ns:List Int}{i:Nat}{x:V}(hx:(ns.map V.int)[i]? = some x):i<ns.length∧x=.int (ns.getD i 0):=by
 have hi:i<ns.length:=by have:=(List.getElem?_eq_some_iff.mp hx).1;rwa [length_map] at this
 refine⟨hi,?_⟩
 rw[y8 hi] at hx
 exact(Option.some.inj hx).symm
theorem zeQ{ns:List Int}{i:Nat}(hi:i<ns.length):ns.getD i 0=ns[i]:=by rw[getD_eq_getElem?_getD,getElem?_eq_getElem hi];rfl
theorem wL{ns:List Int}{i:Nat}(hi:i<ns.length):ns.getD i 0∈ns:=by rw[zeQ hi];exact getElem_mem hi
theorem app_ints(ns:List Int)(x:Int):ns.map V.int++[V.int x]=(ns++[x]).map V.int:=by rw[map_append];rfl
theorem lst_app{H:Hp}{l:Addr}(ns:List Int)(x:Int):upd H l (.lst (ns.map V.int++[V.int x])) l=some (.lst ((ns++[x]).map V.int)):=zd.trans (congrArg (fun l=>some (HO.lst l)) (app_ints ns x))
def eqL:List V→List V→Bool
 | [],[]=>true
 | x::xs,y::ys=>eqV x y && eqL xs ys
 | _,_=>false
def eqAtJ(xs ys:List V)(j:Nat):Bool:=match xs[j]?,ys[j]? with
 | some x,some y=>eqV x y
 | _,_=>false
theorem zfD:∀{xs ys:List V},xs.length=ys.length→(List.range xs.length).all (eqAtJ xs ys)=eqL xs ys
 | [],[],_=>rfl
 | x::xs,y::ys,h=>by
   have h':xs.length=ys.length:=by simpa using h
   show(List.range (xs.length+1)).all _=(eqV x y && eqL xs ys)
   rw[range_succ_eq_map,all_cons,all_map,←zfD h']
   rfl
theorem ziC:∀{xs ys:List V},xs.length≠ys.length→eqL xs ys=false
 | [],[],h=>absurd rfl h
 | [],_::_,_=>rfl
 | _::_,[],_=>rfl
 | x::xs,y::ys,h=>by
   show(eqV x y && eqL xs ys)=false
   rw[ziC (fun e=>h (by simp[e])),Bool.and_false]
theorem zbc:∀(ns ms:List Int),eqL (ns.map V.int) (ms.map V.int)=decide (ns=ms)
 | [],[]=>rfl
 | [],_::_=>rfl
 | _::_,[]=>rfl
 | a::ns,b::ms=>by
   show((a==b) && eqL (ns.map V.int) (ms.map V.int))=_
   rw[zbc ns ms]
   by_cases h:a=b
   ·subst h;simp
   ·simp[h]
theorem eqAt_j{A:Around}{s:Shared}{xs ys:List V}{us vs:List Value}(ru:Vals xs us)(rv:Vals ys vs)(fx:xs.all zag=true)(fy:ys.all zag=true):
 ∀j (h1:j<us.toArray.size) (h2:j<vs.toArray.size),SeqAt.EqAt A s us.toArray[j] vs.toArray[j] (eqAtJ xs ys j):=fun j h1 h2=>by
 have l1:=ru.length
 have l2:=rv.length
 have h1':j<us.length:=by simpa using h1
 have h2':j<vs.length:=by simpa using h2
 obtain⟨u,eu,r1⟩:=ru.get (i:=j) (x:=xs[j]) (getElem?_eq_getElem (by omega))
 obtain⟨v,ev,r2⟩:=rv.get (i:=j) (x:=ys[j]) (getElem?_eq_getElem (by omega))
 have e1:us.toArray[j]=u:=by rw[List.getElem_toArray];rw[getElem?_eq_getElem h1'] at eu;exact Option.some.inj eu
 have e2:vs.toArray[j]=v:=by rw[List.getElem_toArray];rw[getElem?_eq_getElem h2'] at ev;exact Option.some.inj ev
 rw[e1,e2]
 have ej:eqAtJ xs ys j=eqV xs[j] ys[j]:=by unfold eqAtJ;rw[getElem?_eq_getElem (by omega),getElem?_eq_getElem (by omega)]
 rw[ej]
 exact eqAt_V r1 r2 (List.all_eq_true.mp fx _ (getElem_mem _)) (List.all_eq_true.mp fy _ (getElem_mem _))
section
variable {X:Cx}
inductive IREqL (K:Frag) (x y:V) (H:Hp) (Q:VK):Prop
 | mk (a:_) (b:_) (xs:_) (ys:_):x=.ref a→y=.ref b→SqL K H a xs→SqL K H b ys→xs.all zag=true→ys.all zag=true→Q (.bl (eqL xs ys)) H→IREqL K x y H Q
def rEqL(K:Frag):R2:=fun x y H Q=>IREqL K x y H Q
theorem zhl(hu:X.A.units<cLine):OpR X (compareOp .Eq) (rEqL X.K):=by
 intro pins s σ H x y v u Q I rx ry h
 obtain⟨a,b,xs,ys,rfl,rfl,ha,hb,fx,fy,q⟩:=h
 cases rx
 cases ry
 obtain⟨its,r1,p1,z1⟩:=I.list ha
 obtain⟨its2,r2,p2,z2⟩:=I.list hb
 have l1:=r1.length
 have l2:=r2.length
 by_cases hl:xs.length=ys.length
 ·refine SeqAt.eq_listAt p1.isList p2.isList (by simp;omega) hu (eqAt_j r1 r2 fx fy) ⟨.bl (eqL xs ys),H,I,?_,q⟩
  rw[size_toArray,←l1,zfD hl]
  rfl
 ·refine SeqAt.eq_list_lengthsAt p1.isList p2.isList (by simp;omega) hu ⟨.bl (eqL xs ys),H,I,?_,q⟩
  rw[ziC hl]
  rfl
theorem ziH{ns:List Int}:∀{us:List Value},IntsAre us ns→Vals (ns.map V.int) us:=by
 intro us h
 induction h with
 | nil=>exact .nil
 | cons n t _ ih=>exact .cons ⟨t,rfl⟩ ih
inductive ICall_sorted (K:Frag) (xs:List V) (H:Hp) (Q:VK):Prop
 | mk (a:Addr) (ns:List Int):xs=[.ref a]→SqL K H a (ns.map V.int)→ns.length<64→(∀(l:Addr)(ms:List Int),H l=none→ms.Perm ns→ms.Pairwise (·≤ ·)→Q (.ref l) (upd H l (.lst (ms.map V.int))))→ICall_sorted K xs H Q
theorem zd9:zam X (.builtin "sorted") (ICall_sorted X.K):=by
 intro pins s σ H xs us Q I r h
 obtain⟨a,ns,rfl,hS,hz,q⟩:=h
 obtain⟨u,rfl,ru⟩:=r.one
 cases ru
 obtain⟨its,r1,p1,z1⟩:=I.list hS
 have l1:=r1.length
 rw[length_map] at l1
 refine sorted_ints p1.isList (zaG r1) (by omega) fun out ns' hI hp hw=>?_
 obtain⟨e,he⟩:=sortedAll_at s.heap its out
 have hf:H (s.heap.objs.size+1)=none:=I.hok.fresh (le_succ _)
 have hv:=ziH hI
 have hlen:ns'.length<64:=by rw[hp.length_eq];exact hz
 refine⟨.ref (s.heap.objs.size+1),upd H (s.heap.objs.size+1) (.lst (ns'.map V.int)),I.laid (t':=s.toks) (fun b o e=>sortedAll_old e) (le_succ _) ⟨?_,out.toList,e,hv,?_⟩,rfl,q _ ns' hf hp hw⟩
 ·rw[length_map];have:=zr;omega
 ·exact he
theorem bools_at{bs:List Bool}{us:List Value}(r:Vals (bs.map V.bl) us){i:Nat}{v:Value}(h:us[i]? = some v):v=.bool (bs.getD i false):=by
 have hl:=r.length
 rw[length_map] at hl
 have hi:i<bs.length:=by rw[hl];exact(List.getElem?_eq_some_iff.mp h).1
 obtain⟨u,e,ru⟩:=r.get (i:=i) (x:=.bl bs[i]) (by rw[getElem?_map,getElem?_eq_getElem hi];rfl)
 rw[e] at h
 cases h
 rw[getD_eq_getElem?_getD,getElem?_eq_getElem hi]
 exact ru
theorem range_all(bs:List Bool):(List.range bs.length).all (fun i=>bs.getD i false)=bs.all id:=by
 induction bs with
 | nil=>rfl
 | cons b bs ih =>
   rw[length_cons,range_succ_eq_map,all_cons,all_map,all_cons,←ih]
   rfl
inductive ICall_all (K:Frag) (xs:List V) (H:Hp) (Q:VK):Prop
 | mk (a:Addr) (bs:List Bool):xs=[.ref a]→SqL K H a (bs.map V.bl)→Q (.bl (bs.all id)) H→ICall_all K xs H Q
theorem zhi(hc:X.calm=true):zam X (.builtin "all") (ICall_all X.K):=by
 intro pins s σ H xs us Q I r h
 obtain⟨a,bs,rfl,hS,q⟩:=h
 obtain⟨u,rfl,ru⟩:=r.one
 cases ru
 obtain⟨its,r1,p1,z1⟩:=I.list hS
 have l1:=r1.length
 rw[length_map] at l1
 have hlt:a<s.heap.objs.size:=by obtain⟨o,n,e,_⟩:=p1;exact lt_size e
 refine call_all_walk (wpAny_pyIter_list p1.isList ?_)
 have I1:Inv X pins σ H { s with heap:=s.heap.push { cls:=.type "list_iterator",data:=.fields #[.ref a,.int 0 0] } }:=I.kept (t':=s.toks) fun b o e=>get?_push_of_some _ e
 refine⟨s.heap.objs.size,_,_,its.toArray.size,_,_,fun i=>bs.getD i false,rfl,Walks.list (by simpa using I.ok.hd hc) s.heap.objs.size a (ne_of_lt hlt) its.toArray,⟨⟨_,get?_push_size _ rfl,rfl,rfl⟩,p1.isList.push _⟩,?_,fun h' tk hk=>?_⟩
 ·intro i v s' Q' E' hP hQ
  have:=bools_at r1 (i:=i) (v:=v) (by simpa using hP)
  subst this
  exact wpAny_truthy_bool hQ
 ·have f:=I.fpOk (H':=H) (le_refl _) (I.hok.fresh (le_refl _))
  refine⟨.bl (bs.all id),H,I1.turned (it:=s.heap.objs.size) (fun b o hb e=>hk b o (by simpa using hb) e) f.1 f.2.1 f.2.2.2.1 f.2.2.2.2.1 f.2.2.2.2.2,?_,q⟩
  rw[size_toArray,←l1,range_all]
  rfl
theorem ziK(hc:X.calm=true):zam X (.type "set") (fun xs H Q=>∃(a:Addr)(ns:List Int),xs=[.ref a]∧SqL X.K H a (ns.map V.int)∧ns.length<4000 ∧
 ∀l,H l=none→Q (.ref l) (upd H l (.set (fun k=>(firstMet (fun i=>ns.getD i 0) ns.length).any (·== k)) (firstMet (fun i=>ns.getD i 0) ns.length).length))):=by
 intro pins s σ H xs us Q I r h
 obtain⟨a,ns,rfl,hS,hz,q⟩:=h
 obtain⟨u,rfl,ru⟩:=r.one
 cases ru
 obtain⟨its,r1,p1,z1⟩:=I.list hS
 have l1:=r1.length
 rw[length_map] at l1
 have hsb:scanBound=4096:=rfl
 refine call_set_list (ns:=ns) (I.ok.hd hc) p1.isList (by simpa using zaG r1) (by rw[size_toArray];omega) fun h' tk hset hk=>?_
 have esz:its.toArray.size=ns.length:=by rw[size_toArray];omega
 rw[esz] at hset
 refine⟨.ref s.heap.objs.size,_,I.laid (t':=tk) (o:=.set _ _) (fun b o e=>hk b o (lt_size e) e) (le_refl _) hset,rfl,q _ (I.hok.fresh (le_refl _))⟩
theorem call_len_set:zam X (.builtin "len") (fun xs H Q=>∃a S n,xs=[.ref a]∧H a=some (.set S n)∧Q (.int n) H):=by
 intro pins s σ H xs us Q I r h
 obtain⟨a,S,n,rfl,hS,q⟩:=h
 obtain⟨u,rfl,ru⟩:=r.one
 cases ru
 obtain⟨o,es,ep,t,ho,hex,hd,_,_,hsz,hf,hn⟩:=I.hok a _ hS
 have hsb:scanBound=4096:=rfl
 refine PySem.call_len_set ho hex hd hf (by omega) ⟨.int n,H,I.tok _,⟨s.toks+1,?_⟩,q⟩
 rw[hn]
end
theorem zhv(ns:List Int):firstMet (fun i=>ns.getD i 0) ns.length=ns.foldl step_dedup []:=by
 unfold firstMet
 congr 1
 refine ext_getElem (by simp) fun i h1 h2=>?_
 rw[getElem_map,getElem_range,getD_eq_getElem?_getD,getElem?_eq_getElem h2]
 rfl
theorem dedup_le(acc ns:List Int):(ns.foldl step_dedup acc).length≤acc.length+ns.length:=by
 induction ns generalizing acc with
 | nil=>exact le_refl _
 | cons a ns ih =>
   rw[foldl_cons]
   refine le_trans (ih _) ?_
   rw[step_length,length_cons]
   split <;> omega
theorem dedup_full(acc ns:List Int)(hacc:acc.Nodup):(ns.foldl step_dedup acc).length=acc.length+ns.length↔(acc++ns).Nodup:=by
 induction ns generalizing acc with
 | nil=>simpa using hacc
 | cons a ns ih =>
   rw[foldl_cons]
   by_cases h:acc.any (·== a)=true
   ·have e:step_dedup acc a=acc:=by unfold step_dedup;rw[if_pos h]
    rw[e]
    have hm:a∈acc:=by
     obtain⟨x,hx,hb⟩:=List.any_eq_true.mp h
     have:x=a:=by simpa using hb
     rw[←this];exact hx
    constructor
    ·intro q
     have:=dedup_le acc ns
     rw[length_cons] at q
     omega
    ·intro q
     rw[nodup_append] at q
     exact absurd rfl (q.2.2 a hm a mem_cons_self)
   ·have e:step_dedup acc a=acc++[a]:=by unfold step_dedup;rw[if_neg h]
    have hm:a∉acc:=fun hm=>h (List.any_eq_true.mpr ⟨a,hm,by simp⟩)
    have hn:(acc++[a]).Nodup:=by
     rw[nodup_append]
     exact⟨hacc,by simp,fun x hx y hy z=>hm (by rw[List.mem_singleton.mp hy] at z;rw[←z];exact hx)⟩
    rw[e]
    have:=ih (acc++[a]) hn
    rw[append_assoc,List.singleton_append] at this
    rw[←this,length_append,length_singleton,length_cons]
    omega
theorem zjX(ns:List Int):(firstMet (fun i=>ns.getD i 0) ns.length).length=ns.length↔ns.Nodup:=by
 rw[zhv]
 have:=dedup_full [] ns List.nodup_nil
 simpa using this
inductive ITMid (t:TS) (D:Ends) (σ:St) (H:Hp):Prop
 | mk (P:St→Hp→Prop):t { D with nx:=P } σ H→(∀σ' H',P σ' H'→D.nx σ' H')→ITMid t D σ H
def tMid(t:TS):TS:=fun D σ H=>ITMid t D σ H
theorem zcP{X:Cx}{st:Stmt}{t:TS}(h:PS X st t):PS X st (tMid t):=by
 intro pins s σ H D I hw
 obtain⟨P,h1,h2⟩:=hw
 refine thn (h pins s σ H _ I h1) fun f s' q=>?_
 cases f with
 | next=>obtain⟨σ',H',I',q⟩:=q;exact⟨σ',H',I',h2 _ _ q⟩
 | brk=>exact q
 | cont=>exact q
 | ret u=>exact q
structure Fly (P:Program) (w:World) (outer:List Env) (H:Hp) (s:Shared) (x:Addr) (cls:Value) (H':Hp) (s':Shared):Prop where
 os:s'.os=s.os
 bare:AllBare s'.gens
 ex:∃B a0,Heap.FlyingW B outer x cls a0 s'.heap∧HOk P w H' B∧(∀b o,s.heap.get? b=some o→H b=none→b∉frs outer→B.get? b=some o)∧∀b o,s.heap.get? b=some o→b∉frs outer→∃o',B.get? b=some o'
 slot:∀b o,s.heap.get? b=some o→H b=none→b∈frs outer→∃sl,s'.heap.get? b=some { o with slots:=sl }
 free:∀b o,s.heap.get? b=some o→H b=none→H' b=none
 tups:∀b xs,H b=some (.tup xs)→H' b=some (.tup xs)
 frzs:∀b o u,H b=some (.frz o u)→H' b=some (.frz o u)
 tbls:∀b ps,H b=some (.tbl ps)→∃more,H' b=some (.tbl (ps++more))
 new:H' x=none
def CX1(P:Program)(w:World):CXT:=fun outer H s E e s'=>∃x cls H',e=.ref x∧Fly P w outer H s x cls H' s'∧E cls none H'
section
variable {P:Program}{w:World}{outer:List Env}{H H':Hp}{s s':Shared}{x:Addr}{cls:Value}
theorem ObjOk.obj{H:Hp}{h:Heap}{a:Addr}{o:HO}(x:ObjOk P w H h a o):∃ob,h.get? a=some ob:=by
 cases o with
 | lst xs=>obtain⟨_,_,_,_,e⟩:=x;exact⟨_,e⟩
 | tup xs=>obtain⟨_,_,_,ob,e,_⟩:=x;exact⟨ob,e⟩
 | dK kvs=>obtain⟨_,_,_,_,o,_,_,e,_⟩:=x;exact⟨o,e⟩
 | dT kvs=>obtain⟨_,_,_,_,o,_,_,e,_⟩:=x;exact⟨o,e⟩
 | set S n=>obtain⟨o,_,_,_,e,_⟩:=x;exact⟨o,e⟩
 | ins C dx fs=>obtain⟨_,_,_,e,_⟩:=x;exact⟨_,e⟩
 | own y=>obtain⟨o,e⟩:=x;exact⟨o,e⟩
 | xd fs=>obtain⟨_,⟨o,_,_,e,_⟩,_⟩:=x;exact⟨o,e⟩
 | rng lo hi=>obtain⟨_,_,_,e⟩:=x;exact⟨_,e⟩
 | frz ob u=>obtain⟨e,_⟩:=x;exact⟨_,e⟩
 | tbl ps=>exact⟨_,(show h.get? a=some _ from x)⟩
 | met f y=>exact⟨_,(show h.get? a=some _ from x)⟩
 | ext φ=>obtain⟨_,⟨o,e⟩,_⟩:=x;exact⟨o,e⟩
end
section
variable {X:Cx}{pins:List (Addr×Obj)}{σ:St}{H H':Hp}{s s':Shared}{x:Addr}{cls:Value}
def zbI(h:Heap)(l:List Env):Heap:=hideAll h (frs l)
theorem zcI{h:Heap}{l:List Env}{b:Addr}{o:Obj}(e:h.get? b=some o)(n:b∉frs l):(zbI h l).get? b=some o:=hideAll_get _ e n
theorem ziu{h:Heap}{l:List Env}{b:Addr}{o:Obj}(e:(zbI h l).get? b=some o):h.get? b=some o:=of_hideAll _ e
theorem Inv.frameOk(I:Inv X pins σ H s):HOk X.prog X.w H (zbI s.heap X.stack):=fun a o e =>
 (I.hok a o e).stay (fun b u hb q=>zcI q fun z=>by
   have n:=I.stkFree b z
   rcases hb with hb | hb
   ·rw[hb,e] at n;cases n
   ·rw[n] at hb;cases hb) (fun _ q=>q) fun _ _ q=>q
end
abbrev XW:=St→Value→Hp→Prop
def Fl(X:Cx)(W:XW):Prop:=∀(pins:List (Addr×Obj)) (σ:St) (H:Hp) (s:Shared) (x:Addr) (cls:Value) (H':Hp) (s':Shared),Inv X pins σ H s→Fly X.prog X.w X.stack H s x cls H' s'→W σ cls H'→X.xe (.ref x) s'
def Md(X:Cx)(W:XW):Prop:=∀(pins:List (Addr×Obj)) (σ:St) (H:Hp) (s:Shared) (x:Addr) (cls:Value) (args:List Value) (h':Heap),Inv X pins σ H s→Heap.MadeExcOf s.heap h' x cls args→W σ cls H→X.xe (.ref x) { s with heap:=h' }
section
variable {P:Program}{w:World}{K:Frag}{mg:Str→Option Value}{base:Heap}{N:List Str}{qual:Str}{scope:Scope}{f:Addr}{cd:Value}{A:Around}{outer:List Env}{s0:Shared}{H0:Hp}{E:XK}
theorem fly_def:Fl (zcb (CX1 P w) P w K mg base N qual scope f cd A outer s0 H0 E) fun _ cls H'=>E cls none H':=by
 intro pins σ H s x cls H' s' I fl hE
 obtain⟨B,a0,hfl,hB,k1,k2⟩:=fl.ex
 have hst:frs (envOfC qual scope s0.heap.objs.size f cd::outer)=s0.heap.objs.size::frs outer:=rfl
 have old:∀b o,s0.heap.get? b=some o→b∉frs outer→b∉frs (envOfC qual scope s0.heap.objs.size f cd::outer):=fun b o e hb=>by
  rw[hst]
  exact fun z=>(List.mem_cons.mp z).elim (fun q=>absurd (lt_size e) (by rw[q];exact lt_irrefl _)) hb
 refine wpAny_leaves_onW (base:=B) (L:=s0.heap.objs.size) I.ok.frames rfl hfl fun h2 hfl2 up=>?_
 refine⟨x,cls,H',rfl,⟨fl.os.trans I.os,fl.bare,⟨B,a0,hfl2,hB,fun b o e n hb=>?_,fun b o e hb=>?_⟩,fun b o e n hb=>?_,fun b o e n=>?_,fun b xs e=>fl.tups b xs (I.base.tups b xs e),fun b o u e=>fl.frzs b o u (I.base.frzs b o u e),fun b ps e=>?_,fl.new⟩,hE⟩
 ·exact k1 b o (I.base.keep b o e n hb (by simp[zcb])) (I.base.free b o e n (by simp[zcb])) (old b o e hb)
 ·obtain⟨o1,e1⟩:=I.base.there b o e (by simp[zcb])
  exact k2 b o1 e1 (old b o e hb)
 ·obtain⟨sl,e1⟩:=I.base.slot b o e n hb (by simp[zcb])
  obtain⟨sl2,e2⟩:=fl.slot b _ e1 (I.base.free b o e n (by simp[zcb])) (mem_cons_of_mem _ hb)
  obtain⟨_,o',e',d⟩:=I.ok.funs.mem hb
  have eo:o'=o:=by
   have e'':s0.heap.get? b=some o':=e'
   rw[e] at e'';exact(Option.some.inj e'').symm
  subst eo
  obtain⟨sl3,e3⟩:=up b _ e2 d
  exact⟨sl3,e3⟩
 ·obtain⟨o1,e1⟩:=I.base.there b o e (by simp[zcb])
  exact fl.free b o1 e1 (I.base.free b o e n (by simp[zcb]))
 ·obtain⟨m1,e1⟩:=I.base.tbls b ps e
  obtain⟨m2,e2⟩:=fl.tbls b _ e1
  exact⟨m1++m2,by rw[e2,Array.append_assoc]⟩
theorem md_def:Md (zcb (CX1 P w) P w K mg base N qual scope f cd A outer s0 H0 E) fun _ cls H'=>E cls none H':=by
 intro pins σ H s x cls args h' I mk hE
 have hst:frs (envOfC qual scope s0.heap.objs.size f cd::outer)=s0.heap.objs.size::frs outer:=rfl
 have old:∀b o,s0.heap.get? b=some o→b∉frs outer→b∉frs (envOfC qual scope s0.heap.objs.size f cd::outer):=fun b o e hb=>by
  rw[hst]
  exact fun z=>(List.mem_cons.mp z).elim (fun q=>absurd (lt_size e) (by rw[q];exact lt_irrefl _)) hb
 have hl:s.heap.FunFrames (zbI s.heap (envOfC qual scope s0.heap.objs.size f cd::outer)) (envOfC qual scope s0.heap.objs.size f cd::outer) :=
  PySem.W.funFrames_hide I.stack fun env he b hb=>List.mem_filterMap.mpr ⟨env,he,hb⟩
 have hB:HOk P w H (zbI s.heap (envOfC qual scope s0.heap.objs.size f cd::outer)):=I.frameOk
 have hx:H x=none:=by
  cases q:H x with
  | none=>rfl
  | some o =>
    obtain⟨o',e⟩:=(I.hok x o q).obj
    rw[mk.new] at e;cases e
 refine wpAny_leaves_madeW (L:=s0.heap.objs.size) (h:=s.heap) (base:=zbI s.heap (envOfC qual scope s0.heap.objs.size f cd::outer)) I.ok.frames rfl (fun b o e=>ziu e) hl mk fun h2 t hfl2 _ _ up=>?_
 refine⟨x,cls,H,rfl,⟨I.os,I.bare,⟨_,_,hfl2,hB,fun b o e n hb=>?_,fun b o e hb=>?_⟩,fun b o e n hb=>?_,fun b o e n=>I.base.free b o e n (by simp[zcb]),I.base.tups,I.base.frzs,I.base.tbls,hx⟩,hE⟩
 ·exact zcI (I.base.keep b o e n hb (by simp[zcb])) (old b o e hb)
 ·obtain⟨o1,e1⟩:=I.base.there b o e (by simp[zcb])
  exact⟨o1,zcI e1 (old b o e hb)⟩
 ·obtain⟨sl,e1⟩:=I.base.slot b o e n hb (by simp[zcb])
  obtain⟨_,o',e',d⟩:=I.ok.funs.mem hb
  have eo:o'=o:=by
   have e'':s0.heap.get? b=some o':=e'
   rw[e] at e'';exact(Option.some.inj e'').symm
  subst eo
  obtain⟨sl3,e3⟩:=up b _ (mk.keeps _ _ e1) d
  exact⟨sl3,e3⟩
end
abbrev TJ:=St→Hp→Str→(Str→Hp→Prop)→Prop
def PJ(X:Cx)(es:List Expr)(t:TJ):Prop :=
 ∀(pins:List (Addr×Obj)) (s:Shared) (σ:St) (H:Hp) (acc:Str) (Q:Str→Hp→Prop),Inv X pins σ H s→t σ H acc Q →
  wpAny (model X.prog X.w) X.A (joinParts acc (evalEach es X.env)) (EP X pins σ fun v H'=>∃y,v=.str y∧Q y H') X.xe s
def jNil:TJ:=fun _ H acc Q=>acc.length≤sizeLine∧Q acc H
def jCons(te:TE)(t:TJ):TJ:=fun σ H acc Q=>te σ H fun x H1=>∃y,x=.str y∧(acc++y).length≤sizeLine∧t σ H1 (acc++y) Q
def tFmt(te:TE):TE:=fun σ H Q=>te σ H fun x H1=>(∃i,x=.int i∧i.natAbs.log2<1920∧Q (.str (toString i)) H1)∨(∃y,x=.str y∧y.length≤sizeLine∧Q (.str y) H1)
def tJoin(t:TJ):TE:=fun σ H Q=>t σ H Str.empty fun y H1=>Q (.str y) H1
section
variable {X:Cx}{e v1 v2:Expr}{es:List Expr}{te:TE}{t:TJ}{pos:Pos}
theorem pj_nil:PJ X [] jNil:=fun pins s σ H acc Q I h=>joinParts_nil ⟨.str acc,H,I.tok _,⟨_,rfl⟩,acc,rfl,h.2⟩ h.1
theorem zeh(he:PE X e te)(hr:PJ X es t):PJ X (e::es) (jCons te t):=by
 intro pins s σ H acc Q I h
 show wpAny _ _ (joinParts acc (eval e X.env::evalEach es X.env)) _ _ s
 refine joinParts_cons (thn (he pins s σ H _ I h) fun u s1 ⟨x,H1,I1,r1,y,ey,hz,q⟩=>?_)
 subst ey
 obtain⟨t',rfl⟩:=r1
 exact⟨hz,hr pins s1 σ H1 _ Q I1 q⟩
theorem pe_fmt(he:PE X e te):PE X (.FormattedValue e (-1) none pos) (tFmt te):=by
 intro pins s σ H Q I h
 refine FormattedValue_plain (thn (he pins s σ H _ I h) fun u s1 ⟨x,H1,I1,r1,q⟩=>?_)
 rcases q with⟨i,ex,hd,q⟩|⟨y,ex,hz,q⟩
 ·subst ex
  obtain⟨t',rfl⟩:=r1
  exact formatField_int_small hd ⟨.str (toString i),H1,I1.tok _,⟨_,rfl⟩,q⟩
 ·subst ex
  obtain⟨t',rfl⟩:=r1
  exact formatField_str (fun t2 tk=>⟨.str y,H1,I1.tok _,⟨_,rfl⟩,q⟩) hz
theorem pe_fstr{zeA:List Expr}(h:PJ X (v1::v2::zeA) t):PE X (.JoinedStr (v1::v2::zeA) pos) (tJoin t):=by
 intro pins s σ H Q I q
 exact JoinedStr_many (thn (h pins s σ H Str.empty _ I q) fun u s1 ⟨x,H1,I1,r1,y,ey,q1⟩=>⟨x,H1,I1,r1,by subst ey;exact q1⟩)
end
theorem zis{x y:Str}{a b:Nat}(hx:x.length≤a)(hy:y.length≤b):(x++y).length≤a+b:=by rw[strLen_append];omega
def bmV:List Value:=[.type "ValueError",.type "Exception",.type "BaseException",.type "object"]
abbrev ExC(K:Frag)(C:Addr):Prop:=excIn K C bmV "ValueError.__new__"=true
def subIn(K:Frag)(C D:Addr):Bool:=match K.lookup C with
 | some ⟨_,_,.cls cd,_⟩=>cd.mro.contains (.ref D)
 | _=>false
theorem exc_obj{K:Frag}{h:Heap}{C:Addr}(hk:K.In h)(q:ExC K C):∃tl N nm qn bs hd sn sb ab cl dd a0 a1 a2 a3 a5 mN,
 h.get? C=some (excClassObj nm qn C N bs tl hd sn sb ab cl dd a0 a1 a2 a3 a5 "ValueError.__new__")∧h.Ns N mN∧mN "__init__"=none∧OwnTail h bmV tl∧∀D,(Value.ref C::tl).contains (.ref D)=subIn K C D:=by
 unfold ExC excIn at q
 split at q
 next dd cd sl ho =>
  split at q
  next C' tl a0 a1 a2 a3 n a5 em es =>
   simp only[Bool.and_eq_true,beq_iff_eq,Bool.not_eq_true'] at q
   obtain⟨⟨⟨⟨⟨z1,z2⟩,z3⟩,z4⟩,z5⟩,z6⟩:=q
   subst z1 z2
   have sb:∀D,(Value.ref C'::tl).contains (.ref D)=subIn K C' D:=fun D=>by unfold subIn;rw[ho];show _=cd.mro.contains _;rw[em]
   obtain⟨nm,bs,mro,ns,qn,hd,sn,sub,ab,cl,del⟩:=cd
   dsimp only at em z3 z5 z6
   subst em z3
   obtain⟨l⟩:=sl
   have es':l=[a0,a1,a2,a3,some (.builtin "ValueError.__new__"),a5]:=es
   subst es'
   exact⟨tl,ns,nm,qn,bs,hd,sn,sub,ab,cl,dd,a0,a1,a2,a3,a5,_,hk _ _ ho,.of_isNs (PySem.W.isNs_of_in hk z5),PySem.W.nsMap_none_of_in hk z5 z6,PySem.W.tail_of_in hk z4,sb⟩
  next=>cases q
 next=>cases q
section
variable {X:Cx}
def tRaise(C:Addr)(W:XW)(ta:TA):TS:=fun _ σ H=>ta σ H fun vs H1=>vs.length≤sizeLine∧W σ (.ref C) H1
theorem wI{x:Str}{C:Addr}{W:XW}{np cpos pos:Pos}{e:Expr}{es:List Expr}{ta:TA}(hc:X.calm=true)(md:Md X W)(hg:Gl X x)(hm:X.mg x=some (.ref C))(hx:ExC X.K C)(ha:PA X (e::es) ta)
 (hdb:(x==("__debug__":Str))=false:=by decide) (he:starEach (e::es) X.env=(false,eval e X.env)::starEach es X.env:=by rfl) (hpl:(backTo cpos (starEach es X.env)).any (·.1)=false:=by rfl) :
 PS X (.Raise (some (.Call (.Name x np) (e::es) [] cpos)) none pos) (tRaise C W ta):=by
 intro pins s σ H D I h
 obtain⟨tl,N,nm,qn,bs,hd,sn,sb,ab,cl,dd,a0,a1,a2,a3,a5,mN,hC,hN,hni,T,_⟩:=exc_obj I.mod.kin hx
 refine wpAny_Raise_call_subT (C:=C) (bm:=tl) (nm:=nm) (q:=qn) (N:=N) (bs:=bs) (hdct:=hd) (sn:=sn) (sub:=sb) (ab:=ab) (col:=cl) (dd:=dd) (k0:=a0) (k1:=a1) (k2:=a2) (k3:=a3) (k5:=a5) PySem.F.excBase_ValueError (mN:=mN) (T.hasType (by decide)) (I.ok.hd hc) (by rw[he];show(false || (backTo cpos (starEach es X.env)).any (·.1))=false;rw[hpl];rfl) hni (zeP I hg hm ⟨rfl,?_⟩ hdb)
 have hA:=ha cpos pins s σ H _ I h
 rw[he] at hA ⊢
 refine Calls.evalArgs_plain (thn hA fun us s1 ⟨vs,H1,I1,r1,hz,q⟩=>⟨rfl,by show us.length≤sizeLine;rw[←r1.length];exact hz,I1.bk _ _ hC,hN.keeps I1.bk,T.keeps I1.bk,fun h' x mk=>?_⟩)
 exact md pins σ H1 s1 x (.ref C) us h' I1 mk q
end
structure CanX (P:Program) (w:World) (K:Frag) (mg:Str→Option Value) (base:Heap) (k:Nat) (x:Str) (ps:List Str) (sp:Sp):Prop where
 ex:∃f fd,FnOk P w K mg base (CX1 P w) k f fd ps sp∧mg x=some (.ref f)∧keepIn K (.ref f)=true∧Binds K fd ps []
theorem CanX.of{P:Program}{w:World}{K:Frag}{mg:Str→Option Value}{base:Heap}{k:Nat}{x:Str}{ps:List Str}{sp:Sp}{f:Addr}{fd:FuncData}{qual:Str}{st:Stmt}
 (F:Fun K x qual st f fd) (G:FnOk P w K mg base (CX1 P w) k f fd ps sp) (hm:mg x=some (.ref f)) (b:Binds K fd ps []):CanX P w K mg base k x ps sp:=⟨f,fd,G,hm,F.kp,b⟩
theorem Fun.okX{P:Program}{w:World}{K:Frag}{mg:Str→Option Value}{base:Heap}{x qual:Str}{st:Stmt}{f:Addr}{fd:FuncData}{N ps:List Str}{k:Nat}{sp:Sp}(F:Fun K x qual st f fd)(S:FnScope N ps (zf st))(len:∀vs H Q E,sp vs H Q E→vs.length=ps.length)
 (hbody:∀(X:Cx)(W:XW)(cdv:Value)(A:Around)(outer:List Env)(s:Shared)(H:Hp)(vs:List V)(Q:VK)(E:XK),X=zcb (CX1 P w) P w K mg base N qual (zf st) f cdv A outer s H E→W=(fun _ cls H'=>E cls none H')→Fl X W→Md X W→Room k X.A→sp vs H Q E →
   ∃t,PSs X (y6 st) t∧t { nx:=fun _ H'=>Q .non H',rt:=Q } (zbq N vs) H):FnOk P w K mg base (CX1 P w) (k+1) f fd ps sp:=by
 obtain⟨oc,od,kV,doc,pm,an,cdv,ct,osl,rfl,lk,hcd⟩:=F.ex
 refine fn_of lk hcd S len fun A outer s H vs Q E hr hsp=>?_
 exact hbody _ _ cdv A outer s H vs Q E rfl rfl fly_def md_def hr hsp
def tCallX(W:XW)(sp:Sp)(t:TA):TE:=fun σ H Q=>t σ H fun vs H1=>sp vs H1 Q fun cls _ H'=>W σ cls H'
section
variable {X:Cx}{k:Nat}{x:Str}{ps:List Str}{sp:Sp}{p pos:Pos}{e:Expr}{es:List Expr}{t:TA}{W:XW}
theorem ziR{pins:List (Addr×Obj)}{σ:St}{H:Hp}{s:Shared}{Q:VK}{us:List Value}{vs:List V}{f:Addr}{fd:FuncData}(F:FnOk X.prog X.w X.K X.mg X.base (CX1 X.prog X.w) k f fd ps sp)(hr:Room k X.A)(hb:Binds X.K fd ps [])(fl:Fl X W)
 (I:Inv X pins σ H s) (r:Vals vs us) (h:sp vs H Q fun cls _ H'=>W σ cls H'):wpAny (model X.prog X.w) X.A (call (.ref f) us) (EP X pins σ Q) X.xe s:=by
 have hl:us.length=ps.length:=by rw[←r.length];exact F.len _ _ _ _ h
 have hb':=hb s us I.kIn (by rw[append_nil];exact hl)
 rw[append_nil] at hb'
 refine wpAny_call (codeAny_mono (F.run X.A X.stack s H ⟨us,[]⟩ us vs Q _ hr I.env0 hb' r h) fun r s' hq=>?_)
 cases r with
 | error e =>
   obtain⟨y,cls,H',rfl,fly,w⟩:=hq
   exact fl pins σ H s y cls H' s' I fly w
 | ok fl' =>
   cases fl' with
   | ret u=>exact I.after hq
   | next=>exact False.elim hq
   | brk=>exact False.elim hq
   | cont=>exact False.elim hq
theorem pe_ownX(C:CanX X.prog X.w X.K X.mg X.base k x ps sp)(fl:Fl X W)(hr:Room k X.A)(hg:Gl X x)(ha:PA X (e::es) t)(hdb:(x==("__debug__":Str))=false:=by decide)(he:starEach (e::es) X.env=(false,eval e X.env)::starEach es X.env:=by rfl)
 (hpl:(backTo pos (starEach es X.env)).any (·.1)=false:=by rfl):PE X (.Call (.Name x p) (e::es) [] pos) (tCallX W sp t):=by
 obtain⟨f,fd,F,hm,hk,hb⟩:=C.ex
 intro pins s σ H Q I h
 refine wpAny_Call_Name_kw (zeP I hg hm ?_ hdb)
 refine callWith_K (h₀:=X.base) I.ok.mod.kin hk (thn (ha pos pins s σ H _ I h) fun us s1 ⟨vs,H1,I1,r,q⟩=>⟨I1.kIn,?_⟩) he hpl
 exact ziR F hr hb fl I1 r q
end
section
variable {X:Cx}{pins:List (Addr×Obj)}{σ:St}{H H':Hp}{s s':Shared}{x:Addr}{cls:Value}
end
section
variable {X:Cx}{x n:Str}{Dx:Addr}{np hpos:Pos}{b0:Stmt}{suite:List Stmt}{zeA:List ExceptHandler}{ts:TS}{tr:Value→TS}{i:Nat}
end
section
variable {X:Cx}
end
theorem zdC{X:Cx}:Fl X fun _ _ _=>False:=fun _ _ _ _ _ _ _ _ _ _ h=>h.elim
abbrev zdr(K:Frag)(x:Str)(C:Addr):Prop:=nsIn K mainGlobals x=some (some (.ref C))
section
variable {X:Cx}{K:Frag}
theorem zau(h:X.K=K):IxR X (rIxL K):=by subst h;exact zn
theorem mt_indexK(h:X.K=K):MtM X "list.index" (rIndex K):=by subst h;exact zfj
theorem zhn(h:X.K=K):zam X (.builtin "len") (ICall_len_seq K):=by subst h;exact zfi
theorem pi_listK{tg l:Expr}{tl:TE}(h:X.K=K)(hl:PE X l tl):PI X tg l (iList K tl):=by subst h;exact zw hl
theorem pe_bmK{o e:Expr}{es:List Expr}{to:TE}{t:TA}{name:Str}{apos cpos:Pos}{T id:String}{r:V→List V→Hp→VK→Prop}(h:X.K=K)(pa:PlainAttrs T)(slot:Slot T name id)(hty:typeOf (.builtin id)=pure (.type "method_descriptor"))(hm:MtR X id r)(ho:PE X o to)(ha:PA X (e::es) t)
 (hbase:attributeBase o name X.env (eval o X.env)=eval o X.env:=by rfl)
 (hfew:((backTo cpos (starEach (e::es) X.env)).all (fun x => !x.1) && (backToKw cpos (keywordEach [] X.env)).all (fun x=>x.1.isSome)
   && decide ((e::es).length+([]:List Keyword).length+(if([]:List Keyword).isEmpty then 0 else 1)<30))=true:=by rfl)
 (hline:(apos.endLine==cpos.line)=true:=by rfl) (hs:starEach (e::es) X.env=(false,eval e X.env)::starEach es X.env:=by rfl) (hplain:(backTo cpos (starEach es X.env)).any (·.1)=false:=by rfl) :
 PE X (.Call (.Attribute o name apos) (e::es) [] cpos) (tBM K T r to t):=by subst h;exact zaf pa slot hty hm ho ha hbase hfew hline hs hplain
end
theorem iteNo{b:Bool}{A B:Prop}(h:b=false)(k:B):if b=true then A else B:=by rw[h,if_neg Bool.false_ne_true];exact k
section
variable {α:Type} [DecidableEq α]
def zfs(acc:List α)(v:α):List α:=if v∈acc then acc else acc++[v]
def met(val:Nat→α)(i:Nat):List α:=((List.range i).map val).foldl zfs []
theorem zgP(val:Nat→α)(i:Nat):met val (i+1)=zfs (met val i) (val i):=by
 unfold met;rw[range_succ,map_append,List.foldl_append];rfl
theorem zgH{acc:List α}{v k:α}:k∈zfs acc v↔k∈acc∨k=v:=by
 unfold zfs
 split
 ·rename_i h
  exact⟨.inl,fun z=>z.elim id fun e=>by rw[e];exact h⟩
 ·rw[mem_append,List.mem_singleton]
theorem zhh(acc:List α)(v:α):(zfs acc v).length=if decide (v∈acc)=true then acc.length else acc.length+1:=by
 unfold zfs
 by_cases h:v∈acc
 ·rw[if_pos h,decide_eq_true h,if_pos rfl]
 ·rw[if_neg h,decide_eq_false h,if_neg (by decide),length_append];rfl
theorem met_len(val:Nat→α):∀i,(met val i).length≤i
 | 0=>le_refl _
 | i+1=>by
   rw[zgP,zhh]
   have:=met_len val i
   split <;> omega
theorem met_list(ts:List α)(d:α):met (fun i=>ts.getD i d) ts.length=ts.foldl zfs []:=by
 unfold met
 congr 1
 refine ext_getElem (by simp) fun i h1 h2=>?_
 rw[getElem_map,getElem_range,getD_eq_getElem?_getD,getElem?_eq_getElem h2]
 rfl
theorem ziy(acc ts:List α):(ts.foldl zfs acc).length≤acc.length+ts.length:=by
 induction ts generalizing acc with
 | nil=>exact le_refl _
 | cons a ts ih =>
   rw[foldl_cons]
   refine le_trans (ih _) ?_
   rw[zhh,length_cons]
   split <;> omega
theorem zgn(acc ts:List α)(hacc:acc.Nodup):(ts.foldl zfs acc).length=acc.length+ts.length↔(acc++ts).Nodup:=by
 induction ts generalizing acc with
 | nil=>simpa using hacc
 | cons a ts ih =>
   rw[foldl_cons]
   by_cases h:a∈acc
   ·have e:zfs acc a=acc:=by unfold zfs;rw[if_pos h]
    rw[e]
    constructor
    ·intro q
     have:=ziy acc ts
     rw[length_cons] at q
     omega
    ·intro q
     rw[nodup_append] at q
     exact absurd rfl (q.2.2 a h a mem_cons_self)
   ·have e:zfs acc a=acc++[a]:=by unfold zfs;rw[if_neg h]
    have hn:(acc++[a]).Nodup:=by
     rw[nodup_append]
     exact⟨hacc,by simp,fun x hx y hy z=>h (by rw[List.mem_singleton.mp hy] at z;rw[←z];exact hx)⟩
    rw[e]
    have:=ih (acc++[a]) hn
    rw[append_assoc,List.singleton_append] at this
    rw[←this,length_append,length_singleton,length_cons]
    omega
theorem zjx(ts:List α)(d:α):(met (fun i=>ts.getD i d) ts.length).length=ts.length↔ts.Nodup:=by
 rw[met_list]
 have:=zgn [] ts List.nodup_nil
 simpa using this
end
section
variable {prog:Program}{w:World}{A:Around}{R:Result→Shared→Prop}{it:Addr}{fp wr:List Addr}{G:Array GenState→Array GenState→Prop}{n:Nat}{P:Nat→Value→Prop}{St:Nat→Shared→Prop}
variable {α:Type} [DecidableEq α] {knd:KeyKind prog w α}
theorem zf1{h h':Heap}{a:Addr}{S:α→Bool}{m:Nat}(x:h.SetOf knd a S m)(k:∀o,h.get? a=some o→h'.get? a=some o):h'.SetOf knd a S m:=by
 obtain⟨o,es,ep,t,ho,r⟩:=x
 exact⟨o,es,ep,t,k _ ho,r⟩
theorem zjj{h:Heap}{a:Addr}{S S':α→Bool}{m m':Nat}(x:h.SetOf knd a S m)(e:S=S')(e':m=m'):h.SetOf knd a S' m':=by subst e;subst e';exact x
theorem set_fill(W:WalksS prog w A.in1 it fp wr G n P St)(S:Addr)(hS:S∉fp)(val:Nat→α)(hv:∀i v,P i v→knd.is (val i) v=true∧v.scannable=true)(hb:n+1<scanBound):
 ∀(k i:Nat)(s:Shared),k+i=n→St i s→s.heap.SetOf knd S (fun x=>decide (x∈met val i)) (met val i).length →
  (∀s',Moved (S::wr) G s s'→s'.heap.SetOf knd S (fun x=>decide (x∈met val n)) (met val n).length→R (.ok (.ret .none)) s') →
  codeAny (model prog w) A (.builtin "set.update.loop" ⟨[.ref S,.ref it],[]⟩) R s:=by
 have hw:S∉wr:=fun z=>hS (W.sub _ z)
 intro k
 induction k with
 | zero =>
   intro i s hk st hs hR
   rw[Nat.zero_add] at hk
   subst hk
   refine codeAny_builtin F.entry_set_update_loop ?_
   rw[Around.under_plainId F.plain_set_update_loop _]
   refine wpAny_bind (W.done s _ _ st fun s' hm=>?_)
   exact wpAny_pure (hR s' (hm.mono fun b z=>mem_cons_of_mem _ z) (zf1 hs fun o e=>hm.heap S o hw e))
 | succ k ih =>
   intro i s hk st hs hR
   refine codeAny_builtin F.entry_set_update_loop ?_
   rw[Around.under_plainId F.plain_set_update_loop _]
   refine wpAny_bind (W.item i s _ _ (by omega) st fun v s' hP st' hm=>?_)
   obtain⟨kv,sv⟩:=hv i v hP
   have hs':=zf1 hs fun o e=>hm.heap S o hw e
   refine wpAny_bind (m:=holding [v] (setAdd S v)) (wpAny_holding ?_)
   unfold setAdd
   refine wpAny_holding (wpAny_bind (knd.pyHash kv ?_))
   refine wpAny_setAddHashed_of (knd:=knd) (s:={ s' with toks:=s'.toks+1 }) kv sv hs' (by have:=met_len val i;omega) fun h' hsb hs2=>?_
   have hs3:h'.SetOf knd S (fun x=>decide (x∈met val (i+1))) (met val (i+1)).length:=by
    refine zjj hs2 (funext fun x=>?_) ?_
    ·rw[zgP]
     by_cases h1:x∈met val i
     ·rw[decide_eq_true h1,decide_eq_true (zgH.mpr (.inl h1)),Bool.true_or]
     ·by_cases h2:x=val i
      ·rw[decide_eq_true h2,decide_eq_true (zgH.mpr (.inr h2)),Bool.or_true]
      ·rw[decide_eq_false h1,decide_eq_false h2,decide_eq_false fun z=>(zgH.mp z).elim h1 h2];rfl
    ·rw[zgP,zhh]
   refine wpAny_pure ⟨plainId_quiet F.plain_set_update_loop _,ih (i+1) _ (by omega) (W.frame _ s' _ _ st' (le_succ _) fun b hb o e=>?_) hs3 fun s'' hm''=>hR s'' ?_⟩
   ·rw[hsb.2 b fun z=>hS (by rw[←z];exact hb)];exact e
   ·refine Moved.trans W.gtrans ((hm.mono fun b z=>mem_cons_of_mem _ z).then_heap (le_succ _) fun b o hb e=>?_) hm''
    rw[hsb.2 b fun z=>hb (by rw[z];exact mem_cons_self)];exact e
end
section
variable {prog:Program}{w:World}{A:Around}{E:Value→Shared→Prop}{s:Shared}{α:Type} [DecidableEq α] {knd:KeyKind prog w α}
def Filled(knd:KeyKind prog w α)(s:Shared)(ks:List α)(s2:Shared):Prop :=
 ∃(h':Heap)(tk:Nat),s2={ s with heap:=h',toks:=tk }∧h'.SetOf knd s.heap.objs.size (fun k=>decide (k∈ks)) ks.length∧∀b o,b<s.heap.objs.size→s.heap.get? b=some o→h'.get? b=some o
set_option maxHeartbeats 3200000 in
theorem zjN{l:Addr}{items:Array Value}{val:Nat→α}{Q:Value→Shared→Prop}(hh:A.handled=none)(hl:s.heap.IsList l items)(hv:∀i v,items[i]? = some v→knd.is (val i) v=true∧v.scannable=true)(hb:items.size+1<scanBound)
 (h:∀s2,Filled knd s (met val items.size) s2→Q (.ref s.heap.objs.size) s2):wpAny (model prog w) A (call (.type "set") [.ref l]) Q E s:=by
 have hlt:l<s.heap.objs.size:=by obtain⟨o,e,_⟩:=hl;exact lt_size e
 obtain⟨c,tl,hmro⟩:=F.called_set.mro
 have hmade:=F.called_set.made
 have hsub:=F.called_set.sub
 refine wpAny_call (codeAny_of_tree ?_)
 show wpAny _ _ (callAny (.type "set") _) _ _ _
 refine wpAny_pure ⟨Code.quiet_builtin _ (by decide +kernel),codeAny_builtin F.entry_type_call ?_⟩
 rw[Around.under_plain (weight_type_call_type "set" [.ref l] []) rfl]
 have h1:=F.called_set.notType
 have h2:=F.called_set.canCreate
 have h3:=F.typeCall_set_1 (.ref l)
 repeat (any_goals (first | assumption | wp_step))
 refine codeAny_mono (code_set_new_1 (.ref l) (E:=E) (Q₁:=fun v s₁=>∃led:Bool,v=.ref s.heap.objs.size∧s₁={ s with heap:=s.heap.push { cls:=.type "set",dict:=none,data:=.set #[] 0 (.fresh 0 0 led) } }) fun led=>⟨led,rfl,rfl⟩) fun r s₁ hr=>?_
 rcases r with e | fl
 ·exact hr
 cases fl with
 | ret v =>
   obtain⟨led,rfl,rfl⟩:=hr
   generalize hob:({ cls:=.type "set",dict:=none,data:=.set #[] 0 (.fresh 0 0 led) }:Obj)=ob
   have hS:(s.heap.push ob).get? s.heap.objs.size=some ob:=get?_push_size _ (by rw[←hob];rfl)
   have hT:Shared.TypeIs { s with heap:=s.heap.push ob } (.ref s.heap.objs.size) "set":=⟨_,hS,by rw[←hob]⟩
   have h4:=F.called_set.init.lookup
   have h5:=F.called_set.init.bind (.ref s.heap.objs.size)
   repeat (any_goals (first | assumption | wp_step))
   refine codeAny_mono (codeAny_call_builtin (R:=wants (fun r s₂=>r=.none∧Filled knd s (met val items.size) s₂) E) F.called_set.init.plain F.entry_set_init (check_set_init_1 hT ?_)) fun r₂ s₂ hr₂=>?_
   ·have hl1:(s.heap.push ob).IsList l items:=hl.push _
    obtain⟨⟨ocls,odict,odata,oslots⟩,hol,hcl,nl,hdl⟩:=id hl1
    simp only at hcl hdl
    subst hcl hdl
    have h6:=F.sub_list_set
    have h7:=F.sub_list_frozenset
    have h8:(Value.type "list" == Value.type "dict")=false:=by decide
    subst hob
    unfold Builtin.«set.__init__» noKeywords Builtin.Frozenset.updateFrom
    generalize hPI:pyIter=PI
    wp_walk
    subst hPI
    refine wpAny_pyIter_list hl1 (wpAny_bind (wpAny_runValue ?_))
    have hsz:(s.heap.push { cls:=.type "set",dict:=none,data:=.set #[] 0 (.fresh 0 0 led) }).objs.size=s.heap.objs.size+1:=size_push ..
    refine set_fill (knd:=knd) ((Walks.list (by simp[hh]) _ l (by rw[hsz];exact ne_of_lt (lt_succ_of_lt hlt)) items).toS) s.heap.objs.size ?_ val hv hb items.size 0 _ rfl ⟨⟨_,get?_push_size _ rfl,rfl,rfl⟩,hl1.push _⟩ ?_ fun s' hm hS'=>?_
    ·rw[hsz]
     simp only[mem_cons,not_mem_nil,or_false,not_or]
     exact⟨ne_of_lt (lt_succ_self _),ne_of_gt hlt⟩
    ·exact zjj ((setObjOf_fresh (knd:=knd) led).setOf (get?_push_of_some _ hS) (by unfold scanBound;omega)) rfl rfl
    ·obtain⟨h',g',d',tk',os'⟩:=s'
     have eg:g'=s.gens:=hm.gens
     have ed:d'=s.drawn:=hm.drawn
     have eo:os'=s.os:=hm.os
     subst eg ed eo
     refine wpAny_pure (show wpAny _ _ (ret Value.none) _ _ _ from wpAny_pure ⟨rfl,h',tk',rfl,hS',fun b o hb e=>?_⟩)
     refine hm.heap b o ?_ (get?_push_of_some _ (get?_push_of_some _ e))
     rw[hsz]
     simp only[mem_cons,not_mem_nil,or_false,not_or]
     exact⟨ne_of_lt hb,ne_of_lt (lt_succ_of_lt hb)⟩
   ·rcases r₂ with e | fl₂
    ·exact hr₂
    cases fl₂ with
    | ret r =>
      obtain⟨rfl,hf⟩:=hr₂
      repeat (any_goals (first | assumption | wp_step))
      exact h _ hf
    | _=>exact hr₂.elim
 | _=>exact hr.elim
end
section
variable {X:Cx}
inductive IOp_le_str (x y:V) (H:Hp) (Q:VK):Prop
 | mk (i:_) (j:_):x=.str i→y=.str j→Q (.bl (!decide (j.cps.toList<i.cps.toList))) H→IOp_le_str x y H Q
theorem zh2:OpR X (compareOp .LtE) IOp_le_str:=by
 intro pins s σ H x y v u Q I rx ry h
 obtain⟨i,j,rfl,rfl,q⟩:=h
 obtain⟨t,rfl⟩:=rx
 obtain⟨t',rfl⟩:=ry
 exact PySem.P.le_str (zT I q rfl)
inductive IRSlS (x:V) (lo hi:Option Int) (H:Hp) (Q:VK):Prop
 | mk (z:_):x=.str z→z.length≤sizeLine→Q (.str (PySem.Txt.slice z lo hi)) H→IRSlS x lo hi H Q
def rSlS:V→Option Int→Option Int→Hp→VK→Prop:=fun x lo hi H Q=>IRSlS x lo hi H Q
theorem part_as{v:Value}{o:Option Int}(h:IsPart v o):∃p:Option (Int×Tok),v=partValue p∧p.map (·.1)=o:=by
 cases h with
 | none=>exact⟨none,rfl,rfl⟩
 | int i t=>exact⟨some (i,t),rfl,rfl⟩
theorem sl_str:SlR X rSlS:=by
 intro pins s σ H x v vl vu lo hi sl Q I rx hs pl pu h
 obtain⟨z,rfl,hz,q⟩:=h
 obtain⟨t,rfl⟩:=rx
 obtain⟨l,rfl,rfl⟩:=part_as pl
 obtain⟨u,rfl,rfl⟩:=part_as pu
 refine⟨"str",_,PySem.F.slot_str_getitem.lookup,typeIs_str _ _ _,wpAny_getItem_str_slice (l:=l) (u:=u) (st:=none) hs rfl (post_val_or_str ⟨le_trans (PySem.Txt.slice_le z _ _) hz,fun t' k=>?_⟩)⟩
 exact⟨.str (PySem.Txt.slice z _ _),H,I.tok _,⟨t',rfl⟩,q⟩
def Its(z:Str):It:=⟨fun i _=>i<z.length,fun i H x H'=>H'=H∧∃c,z.cps[i]? = some c∧x=.str ⟨#[c]⟩,fun i _=>i=z.length⟩
theorem zjK{P:Program}{w:World}{K:Frag}{tg:Expr}(it:Addr)(T:String)(z:Str)(t:Tok)
 (hT : ["enumerate","zip","dict_itemiterator","dict_reverseitemiterator","odict_iterator","itertools.zip_longest","itertools.pairwise"].contains T=false)
 (W:∀A:Around,A.handled=none→Walks P w A it [it] [it] z.cps.size (SignAt z) (fun i h=>h.IsStrIter it T z t i))
 (slf:∀(A:Around)(i:Nat)(s:Shared)(Q:Value→Shared→Prop)(E:Value→Shared→Prop),s.heap.IsStrIter it T z t i→Q (.ref it) s→wpAny (model P w) A (pyIter (.ref it)) Q E s) :
 Turn P w K tg (Its z) [it] it (fun i h=>h.IsStrIter it T z t i) where
 mem:=by simp
 obj:=fun i h st b hb=>by
  have e:b=it:=by simpa using hb
  subst e
  obtain⟨o,e,c,d⟩:=st
  exact⟨o,e,fun v z=>by rw[d] at z;cases z⟩
 keep:=fun i h h' st k=>by obtain⟨o,e,r⟩:=st;exact⟨o,k it (by simp) o e,r⟩
 item:=by
  intro X hP hw hK hc i pins s σ H E I hf st hg
  subst hP hw hK
  obtain⟨f0,f1,f2,f3,f4,f5⟩:=hf it (by simp)
  refine(W X.A (I.ok.hd hc)).item i s _ _ hg st fun v h' tk hv st' kk=>?_
  obtain⟨c,u,ec,rfl⟩:=hv
  have I1:Inv X pins σ H { s with heap:=h',toks:=tk }:=I.turned (fun b o hb e=>kk b o (by simpa using hb) e) f0 f1 f3 f4 f5
  obtain⟨o,e,c1,d⟩:=id st'
  exact⟨_,rfl,go_of (s:={ s with heap:=h',toks:=tk }) (n:=T) e c1 d hT ⟨.str ⟨#[c]⟩,H,I1,⟨u,rfl⟩,⟨rfl,c,ec,rfl⟩,st',fun b hb=>(hf b hb).1⟩⟩
 done:=by
  intro X hP hw hK hc i pins s σ H E I hf st hg
  subst hP hw hK
  obtain⟨f0,f1,f2,f3,f4,f5⟩:=hf it (by simp)
  have hg:i=z.cps.size:=hg
  subst hg
  exact(W X.A (I.ok.hd hc)).done s _ _ st fun h' tk kk=>⟨rfl,I.turned (fun b o hb e=>kk b o (by simpa using hb) e) f0 f1 f3 f4 f5⟩
 self:=fun A i s Q E st h=>slf A i s Q E st h
inductive IIStr (x:V) (H1:Hp) (R:It→Hp→Prop):Prop
 | mk (z:_):x=.str z→R (Its z) H1→IIStr x H1 R
def iStr(tl:TE):TI:=fun σ H R=>tl σ H fun x H1=>IIStr x H1 R
theorem pi_str{tg l:Expr}{tl:TE}(hl:PE X l tl):PI X tg l (iStr tl):=by
 intro pins s σ H R I h
 refine thn (hl pins s σ H _ I h) fun v s1 ⟨x,H1,I1,r1,q1⟩=>?_
 obtain⟨z,e,q⟩:=q1
 subst e
 obtain⟨t,rfl⟩:=r1
 have hf:∀b ∈ [s1.heap.objs.size],wH X pins H1 b:=fun b hb=>by
  have e:b=s1.heap.objs.size:=by simpa using hb
  subst e
  exact I1.fpOk (le_refl _) (I1.hok.fresh (le_refl _))
 have hk:∀o:Obj,Inv X pins σ H1 { s1 with heap:=s1.heap.push o }:=fun o=>I1.kept (t':=s1.toks) fun b u e=>get?_push_of_some _ e
 cases ha:z.cps.all (·< 128)
 ·refine wpAny_pyIter_wide ha ⟨s1.heap.objs.size,[s1.heap.objs.size],_,_,H1,rfl,hk _,zjK _ "str_iterator" z t (by decide) (fun A hA=>Walks.strWide hA _ z t) (fun A i s Q E st h=>wpAny_pyIter_striter_wide st h),⟨_,get?_push_size _ rfl,rfl,rfl⟩,hf,q⟩
 ·refine wpAny_pyIter_ascii ha ⟨s1.heap.objs.size,[s1.heap.objs.size],_,_,H1,rfl,hk _,zjK _ "str_ascii_iterator" z t (by decide) (fun A hA=>Walks.strAscii hA _ z t) (fun A i s Q E st h=>wpAny_pyIter_striter_ascii st h),⟨_,get?_push_size _ rfl,rfl,rfl⟩,hf,q⟩
theorem comp_str0{z:Str}{c:St}{te:TE}{H:Hp}{fin:List V→Hp→Prop}(Pv:Nat→List V→Hp→Prop)(h0:Pv 0 [] H)(hl:∀i ys H,i≤z.length→Pv i ys H→ys.length≤i)(hz:z.length≤sizeLine)
 (hs:∀i d ys H,z.cps.toList[i]? = some d→Pv i ys H→te (some (.str ⟨#[d]⟩)::c) H fun y H3=>Pv (i+1) (ys++[y]) H3) (hd:∀ys H,Pv z.length ys H→fin ys H):zdA (Its z) c zjr te H fin:=by
 refine⟨fun i m ys H=>m=z.length-i∧i≤z.length∧Pv i ys H,⟨z.length,by simp,zero_le _,h0⟩,?_⟩
 rintro i m ys H ⟨rfl,hi,p⟩
 have hy:=hl i ys H hi p
 by_cases hlt:i<z.length
 ·refine .inr ⟨hlt,by omega,Pv (i+1),fun ys' H' p'=>⟨_,by omega,rfl,hlt,p'⟩,fun x H' y=>?_⟩
  obtain⟨e,d,ed,ex⟩:=y
  subst e ex
  exact zhB (B:=Pv (i+1) ys H') (hs i d ys _ (by rw[Array.getElem?_toList];exact ed) p)
 ·have e:i=z.length:=by omega
  subst e
  exact .inl ⟨rfl,by omega,hd ys H p⟩
theorem strs_val{ts:List Str}{us:List Value}(r:Vals (ts.map V.str) us){i:Nat}{v:Value}(h:us[i]? = some v)(d:Str):∃t,v=.str (ts.getD i d) t:=by
 have hl:=r.length
 rw[length_map] at hl
 have hi:i<ts.length:=by rw[hl];exact(List.getElem?_eq_some_iff.mp h).1
 obtain⟨u,e,ru⟩:=r.get (i:=i) (x:=.str ts[i]) (by rw[getElem?_map,getElem?_eq_getElem hi];rfl)
 rw[e] at h
 cases h
 obtain⟨t,rfl⟩:=ru
 exact⟨t,by rw[getD_eq_getElem?_getD,getElem?_eq_getElem hi];rfl⟩
def tLenSetS(K:Frag)(te:TE):TE:=fun σ H Q=>te σ H fun x H1=>∃(a:Addr)(ts:List Str),x=.ref a∧SqL K H1 a (ts.map V.str)∧ts.length<4000∧Q (.int (met (fun i=>ts.getD i "") ts.length).length) H1
theorem pe_lensetS{e:Expr}{te:TE}{p p2 pos pos2:Pos}(hc:X.calm=true)(hg:Gl X "len")(hm:X.mg "len"=none)(hg2:Gl X "set")(hm2:X.mg "set"=none)(he:PE X e te)
 (h1:starEach [.Call (.Name "set" p2) [e] [] pos2] X.env=[(false,eval (.Call (.Name "set" p2) [e] [] pos2) X.env)]:=by rfl) (h2:starEach [e] X.env=[(false,eval e X.env)]:=by rfl) :
 PE X (.Call (.Name "len" p) [.Call (.Name "set" p2) [e] [] pos2] [] pos) (tLenSetS X.K te):=by
 intro pins s σ H Q I h
 refine wpAny_Call_Name_kw (zcH I hg hm PySem.boot_len ?_)
 refine callWith_builtin1 ?_ h1 rfl
 rw[h1]
 show wpAny _ _ (spliced ((false,eval (.Call (.Name "set" p2) [e] [] pos2) X.env)::backTo pos [])) _ _ s
 refine Calls.spliced_cons ?_
 refine wpAny_Call_Name_kw (zcH I hg2 hm2 boot_set ?_)
 refine callWith_type1 ?_ h2 rfl
 rw[h2]
 show wpAny _ _ (spliced ((false,eval e X.env)::backTo pos2 [])) _ _ s
 refine Calls.spliced_cons (thn (he pins s σ H _ I h) fun v s1 ⟨x,H1,I1,r1,q1⟩=>?_)
 obtain⟨a,ts,rfl,hS,hz,q⟩:=q1
 cases r1
 obtain⟨its,rv,pl,hz2⟩:=I1.list hS
 have hl:=rv.length
 rw[length_map] at hl
 have hsb:scanBound=4096:=rfl
 refine Calls.spliced_nil ?_
 refine zjN (knd:=strKind X.prog X.w) (val:=fun i=>ts.getD i "") (I1.ok.hd hc) pl.isList (fun i v hv=>?_) (by rw[size_toArray];omega) fun s2 ⟨h',tk,e2,hs,hk⟩=>?_
 ·obtain⟨t,rfl⟩:=strs_val rv (i:=i) (v:=v) (by simpa using hv) ""
  exact⟨beq_self_eq_true _,rfl⟩
 subst e2
 have I2:Inv X pins σ H1 { s1 with heap:=h',toks:=tk }:=I1.kept (t':=tk) fun b o e=>hk b o (lt_size e) e
 refine Calls.spliced_nil ?_
 have esz:its.toArray.size=ts.length:=by rw[size_toArray];omega
 rw[esz] at hs
 obtain⟨o,es,ep,t,ho,hex,hd,_,_,hsz,hf,hn⟩:=hs
 refine PySem.call_len_set ho hex hd hf (by omega) ⟨.int (met (fun i=>ts.getD i "") ts.length).length,H1,I2.tok _,⟨tk+1,?_⟩,q⟩
 rw[hn]
theorem zaV{ts:List Str}{i:Nat}(h:i<ts.length):(ts.map V.str)[i]? = some (.str (ts.getD i "")):=by
 rw[getElem?_map,getElem?_eq_getElem h,getD_eq_getElem?_getD,getElem?_eq_getElem h];rfl
theorem zgM{ts:List Str}{i:Int}(h0:0≤i)(h:i<ts.length):atI (ts.map V.str) i=some (.str (ts.getD i.toNat "")):=zgB h0 (zaV (by omega))
theorem flat_strs(ts:List Str):(ts.map V.str).all zag=true:=by
 rw[all_map];exact List.all_eq_true.mpr fun _ _=>rfl
theorem inV_strs(ts:List Str)(c:Str):inV (.str c) (ts.map V.str)=decide (c∈ts):=by
 unfold inV
 induction ts with
 | nil=>rfl
 | cons a ts ih =>
   rw[map_cons,any_cons,ih]
   show((a==c) || _)=_
   by_cases h:a=c
   ·subst h;simp
   ·have:¬c=a:=fun e=>h e.symm
    simp[h,this]
theorem zbY{ts:List Str}{i:Nat}{x:V}(hx:(ts.map V.str)[i]? = some x):i<ts.length∧x=.str (ts.getD i ""):=by
 have hi:i<ts.length:=by have:=(List.getElem?_eq_some_iff.mp hx).1;rwa [length_map] at this
 refine⟨hi,?_⟩
 rw[zaV hi] at hx
 exact(Option.some.inj hx).symm
theorem yq{ts:List Str}{i:Nat}(hi:i<ts.length):ts.take (i+1)=ts.take i++[ts.getD i ""]:=by
 rw[take_succ,getElem?_eq_getElem hi,getD_eq_getElem?_getD,getElem?_eq_getElem hi];rfl
theorem wC{ts:List Str}{i:Nat}(hi:i<ts.length):ts.getD i "" ∈ ts:=by
 rw[getD_eq_getElem?_getD,getElem?_eq_getElem hi];exact getElem_mem hi
theorem yR(x y:Str):(x++y).length=x.length+y.length:=by
 show(x.cps++y.cps).size=x.cps.size+y.cps.size
 exact Array.size_append
abbrev abc:Str:= "abcdefghijklmnopqrstuvwxyz"
def zeb(c:Nat):Bool:=decide (97≤c) && decide (c≤122)
theorem zfV(ns:List Int):∀i,i≤ns.length→preSum (fun i=>ns.getD i 0) i=(ns.take i).sum
 | 0,_=>by simp[preSum]
 | i+1,h=>by
   rw[yy (by omega),List.sum_append,←zfV ns i (by omega)]
   simp[preSum]
inductive ICall_sum (K:Frag) (xs:List V) (H:Hp) (Q:VK):Prop
 | mk (a:Addr) (ns:List Int):xs=[.ref a]→SqL K H a (ns.map V.int)→Q (.int ns.sum) H→ICall_sum K xs H Q
theorem zed(hc:X.calm=true):zam X (.builtin "sum") (ICall_sum X.K):=by
 intro pins s σ H xs us Q I r h
 obtain⟨a,ns,rfl,hS,q⟩:=h
 obtain⟨u,rfl,ru⟩:=r.one
 cases ru
 obtain⟨its,r1,p1,z1⟩:=I.list hS
 have l1:=r1.length
 rw[length_map] at l1
 have hlt:a<s.heap.objs.size:=by obtain⟨o,n,e,_⟩:=p1;exact lt_size e
 refine call_sum_walkAnyS (wpAny_pyIter_list p1.isList ?_)
 have I1:Inv X pins σ H { s with heap:=s.heap.push { cls:=.type "list_iterator",data:=.fields #[.ref a,.int 0 0] } }:=I.kept (t':=s.toks) fun b o e=>get?_push_of_some _ e
 refine⟨s.heap.objs.size,_,_,_,its.toArray.size,_,_,fun i=>ns.getD i 0,rfl,(Walks.list (by simpa using I.ok.hd hc) s.heap.objs.size a (ne_of_lt hlt) its.toArray).toS,⟨⟨_,get?_push_size _ rfl,rfl,rfl⟩,p1.isList.push _⟩,?_,?_,fun s' t' hm=>?_⟩
 ·intro b hb
  rw[size_push]
  simp only[mem_cons,not_mem_nil,or_false] at hb
  rcases hb with rfl | rfl
  ·exact lt_succ_self _
  ·exact lt_succ_of_lt hlt
 ·intro i v hP
  exact IntsAre.int_at (zaG r1) i v (by simpa using hP)
 ·obtain⟨h',g',d',tk',os'⟩:=s'
  have eg:g'=s.gens:=hm.gens
  have ed:d'=s.drawn:=hm.drawn
  have eo:os'=s.os:=hm.os
  subst eg ed eo
  have f:=I.fpOk (H':=H) (le_refl _) (I.hok.fresh (le_refl _))
  have I2:=I1.turned (t':=tk') (h':=h') (it:=s.heap.objs.size) (fun b o hb e=>hm.heap b o (by simpa using hb) e) f.1 f.2.1 f.2.2.2.1 f.2.2.2.2.1 f.2.2.2.2.2
  refine⟨.int ns.sum,H,I2,⟨t',?_⟩,q⟩
  rw[size_toArray,←l1,zfV ns _ (le_refl _),take_length]
end
def zbh(X:Cx)(x:Str)(N:List Str)(scope:Scope)(cl:List (Str×Addr))(cx:Addr)(C:Addr)(s2:Shared)(H2:Hp)(fp:List Addr):Cx where
 prog:=X.prog
 w:=X.w
 K:=X.K
 mg:=X.mg
 base:=X.base
 A:=X.A
 N:=N
 s₀:=s2
 H₀:=H2
 env:=compEnvC scope ((x,cx)::cl) C X.env
 outer:=X.stack
 stack:=X.stack
 ex:=fp
 fn:=fun y=>y==x
 calm:=X.calm
 pn:=[]
 xe:=fun _ _=>False
structure CompScopeC (sc:Scope) (N:List Str) (x:Str) (fr:List Str) (ix:List Nat) (scope:Scope):Prop where
 kind:scope.kind=.function
 one:∀a acc,cellsFrom a scope.names acc=(x,a)::acc
 push:∀h:Heap,pushCells h scope.names=h.push { cls:=.type "cell",data:=.cell none }
 cells:∀y∈scope.names,y.2=.cell→y.1=x
 lcl:∀y∈scope.names,y.2=.local→scope.names.lookup y.1=some .local
 lx:scope.names.lookup x=some .cell
 free:∀y∈scope.names,y.2=.free→sc.names.lookup y.1=some .cell∨sc.names.lookup y.1=some .free
 at':fr.map some=ix.map fun i=>N[i]?
 frk:∀y∈fr,scope.names.lookup y=some .free∧(sc.names.lookup y=some .cell∨sc.names.lookup y=some .free)
 nd:(x::fr).Nodup
theorem zfP{env:Env}{scope:Scope}{y:Str}(h:scope.names.lookup y=some .cell∨scope.names.lookup y=some .free):(relabel scope env).names.lookup y=some .cell∨(relabel scope env).names.lookup y=some .free:=by
 rcases h with h | h
 ·left
  rw[wG,zac (zgT env) h,ziv env y .cell (by decide)]
 ·exact zbD h
theorem CompScope.under{env:Env}{sc:Scope}{N:List Str}{x:Str}{fr:List Str}{ix:List Nat}{scope:Scope}(S:CompScope sc N x fr ix scope):CompScope (relabel sc env) N x fr ix scope :=
 ⟨S.kind,S.nocell,S.lcl,S.lx,fun y hy hf=>zfP (S.free y hy hf),S.at',fun y hy=>⟨(S.frk y hy).1,zfP (S.frk y hy).2⟩,S.nd⟩
theorem zho{env:Env}{scope:Scope}{x y:Str}(hc:∀z∈scope.names,z.2=.cell→z.1=x)(h:(relabel scope env).names.lookup y=some .cell∨(relabel scope env).names.lookup y=some .free):(y,NameKind.free)∈scope.names∨y=x:=by
 rw[wG] at h
 have go:∀k,(k=.cell∨k=.free)→(scope.names.map (rl env)).lookup y=some k→(y,NameKind.free)∈scope.names∨y=x:=fun k hk q=>by
  obtain⟨k0,m,e⟩:=zbk (zgT env) q
  by_cases hf:k0=.free
  ·rw[hf] at m;exact .inl m
  ·rw[ziv env y k0 hf] at e
   rcases hk with z | z
   ·exact .inr (hc _ m (e.trans z))
   ·exact absurd (e.trans z) hf
 rcases h with h | h
 ·exact go _ (.inl rfl) h
 ·exact go _ (.inr rfl) h
theorem wX{x y:Str}{cx c:Addr}{cl:List (Str×Addr)}(h:((x,cx)::cl).lookup y=some c):(y=x∧c=cx)∨(y≠x∧cl.lookup y=some c):=by
 rw[lookup_cons] at h
 by_cases hy:y=x
 ·have hb:(y==x)=true:=by simp[hy]
  rw[hb] at h
  exact .inl ⟨hy,(Option.some.inj h).symm⟩
 ·rw[beq_eq_false_iff_ne.mpr hy] at h
  exact .inr ⟨hy,h⟩
theorem look_ne{x y:Str}{cx:Addr}{cl:List (Str×Addr)}(hy:y≠x):((x,cx)::cl).lookup y=cl.lookup y:=by
 rw[lookup_cons,beq_eq_false_iff_ne.mpr hy]
theorem look_eq{x:Str}{cx:Addr}{cl:List (Str×Addr)}:((x,cx)::cl).lookup x=some cx:=by
 rw[lookup_cons,beq_self_eq_true]
section
variable {X:Cx}{pins:List (Addr×Obj)}{σ:St}{H:Hp}{s:Shared}{x:Str}{fr:List Str}{ix:List Nat}{scope:Scope}{cl:List (Str×Addr)}{fp:List Addr}{C D cx:Addr}
theorem zjP(I:Inv X pins σ H s)(h1:∀y c,cl.lookup y=some c→X.env.cells.lookup y=some c){y:Str}{c:Addr}(e:cl.lookup y=some c):c<s.heap.objs.size:=by
 obtain⟨v,o,ho,_⟩:=I.cell y c (h1 y c e)
 exact lt_size ho
theorem blkC_ok(S:CompScopeC X.env.scope X.N x fr ix scope)(I:Inv X pins σ H s)(hf:∀b∈fp,wH X pins H b)(hfo:∀b∈fp,b<s.heap.objs.size)(hC:s.heap.objs.size≤C)(hcx:s.heap.objs.size≤cx)
 (h1:∀y c,cl.lookup y=some c→X.env.cells.lookup y=some c) (h2:∀y,(y,NameKind.free)∈scope.names→∃c,cl.lookup y=some c):(zbh X x (x::fr) scope cl cx C s H fp).Ok where
 mod:=I.ok.mod
 kind:=S.kind
 glob:=I.ok.glob
 blt:=I.ok.blt
 above:=hC
 inj:=fun y z c a b=>by
  rcases wX a with⟨a1,a2⟩|⟨a1,a2⟩
  ·rcases wX b with⟨b1,b2⟩|⟨b1,b2⟩
   ·exact a1.trans b1.symm
   ·exact absurd (zjP I h1 b2) (by rw[a2];exact Nat.not_lt.mpr hcx)
  ·rcases wX b with⟨b1,b2⟩|⟨b1,b2⟩
   ·exact absurd (zjP I h1 a2) (by rw[b2];exact Nat.not_lt.mpr hcx)
   ·exact I.ok.inj y z c (h1 y c a2) (h1 z c b2)
 has:=fun y hy=>by
  by_cases e:y=x
  ·subst e;exact⟨cx,look_eq⟩
  ·rcases zho (env:=X.env) (scope:=scope) S.cells hy with z | z
   ·obtain⟨c,hc⟩:=h2 y z
    exact⟨c,(look_ne e).trans hc⟩
   ·exact absurd z e
 cab:=fun y c h e=>by
  have hy:y=x:=by simpa [zbh] using h
  rcases wX e with⟨_,z⟩|⟨z,_⟩
  ·rw[z];exact hcx
  ·exact absurd hy z
 hd:=I.ok.hd
 frames:=I.ok.frames
 stk:=.inl rfl
 exf:=fun b hb=>⟨fun z=>absurd (hfo b hb) (by rw[z];exact Nat.not_lt.mpr hC),fun y c e=>by
  rcases wX e with⟨_,z⟩|⟨_,z⟩
  ·exact fun q=>absurd (hfo b hb) (by rw[←q,z];exact Nat.not_lt.mpr hcx)
  ·exact(hf b hb).2.2.2.2.1 y c (h1 y c z)⟩
 bs:=I.bs
 bsz:=le_trans I.ok.bsz I.sz
 noex:=fun b o e hb=>by
  rcases (hf b hb).2.2.2.1 with z | z
  ·exact I.ok.noex b o e z
  ·exact absurd (lt_of_lt_of_le (lt_size e) (le_trans I.ok.bsz z)) (lt_irrefl _)
 exfs:=fun b hb z=>by
  rcases List.mem_cons.mp (I.stkSub b z)with e | e
  ·exact(hf b hb).2.1 e
  ·exact(hf b hb).2.2.1 e
 funs:=I.stack
 frf:=I.stkFree
theorem CompScopeC.len(S:CompScopeC X.env.scope X.N x fr ix scope):fr.length=ix.length:=by have:=congrArg List.length S.at';simpa using this
theorem blkC_inv{s':Shared}{pn:List (Addr×Obj)}{m:Str→Option Value}(S:CompScopeC X.env.scope X.N x fr ix scope)(I:Inv X pins σ H s)(hf:∀b∈fp,wH X pins H b)(hfo:∀b∈fp,b<s.heap.objs.size)(hC:s.heap.objs.size≤C)(hcx:s.heap.objs.size≤cx)
 (h1:∀y c,cl.lookup y=some c→X.env.cells.lookup y=some c) (h2:∀y,(y,NameKind.free)∈scope.names→∃c,cl.lookup y=some c)
 (ho:s'.os=s.os) (hg:s'.gens=s.gens) (k:∀b o,s.heap.get? b=some o→s'.heap.get? b=some o) (hn:s'.heap.Ns C m) (hcell:s'.heap.IsCell cx none)
 (hp:∀p∈pn,s'.heap.get? p.1=some p.2∧s.heap.objs.size≤p.1∧p.1≠C∧∀v,p.2.data ≠ .cell v) :
 Inv (zbh X x (x::fr) scope cl cx C s H fp) pn (none::cap ix σ) H s':=by
 obtain⟨mX,hnX,hlX⟩:=I.loc
 refine⟨blkC_ok S I hf hfo hC hcx h1 h2,ho,by rw[hg];exact I.bare,Un.kept k,⟨m,hn,fun i y v e1 e2 e3=>?_⟩,fun y c e=>?_,I.hok.fresh hC,fun y c e=>?_,fun p hp'=>?_,I.hok.kept k,by
  show(none::cap ix σ).length=(x::fr).length
  simp[zin,S.len]⟩
 ·cases i with
  | zero=>cases e2
  | succ j =>
    have e1':fr[j]? = some y:=e1
    have e2':(cap ix σ)[j]? = some (some v):=e2
    have hmem:=mem_of_getElem? e1'
    have hyx:y≠x:=fun z=>(List.nodup_cons.mp S.nd).1 (by rw[←z];exact hmem)
    obtain⟨f1,f2⟩:=S.frk y hmem
    unfold cap at e2'
    rw[getElem?_map] at e2'
    cases ei:ix[j]? with
    | none=>rw[ei] at e2';cases e2'
    | some i =>
      rw[ei] at e2'
      have e3':(σ[i]?).join=some v:=Option.some.inj e2'
      have e4:σ[i]? = some (some v):=by
       cases q:σ[i]? with
       | none=>rw[q] at e3';cases e3'
       | some w=>rw[q] at e3';have:w=some v:=e3';rw[this]
      have e5:X.N[i]? = some y:=by
       have:=congrArg (fun l=>l[j]?) S.at'
       simp only[getElem?_map,e1',ei] at this
       simpa using this.symm
      have vis:Vis X.env.scope y:=by
       rcases f2 with z | z
       ·exact .inr (.inl z)
       ·exact .inr (.inr z)
      obtain⟨u,r,l⟩:=hlX i y v e5 e4 vis
      refine⟨u,r,.inr ⟨zbD f1,?_⟩⟩
      rcases l with⟨z,_⟩|⟨_,c,ec,hc⟩
      ·rcases f2 with q | q
       ·have q':=(show X.env.scope.names.lookup y=some .local from z).symm.trans q;cases q'
       ·have q':=(show X.env.scope.names.lookup y=some .local from z).symm.trans q;cases q'
      ·obtain⟨c',hc'⟩:=h2 y (PySem.mem_of_lookup f1)
       have:c'=c:=by have:=h1 y c' hc';rw[ec] at this;exact(Option.some.inj this).symm
       subst this
       refine⟨c',(look_ne hyx).trans hc',?_⟩
       obtain⟨o,ho',hd⟩:=hc
       exact⟨o,k _ _ ho',hd⟩
 ·rcases wX e with⟨_,z⟩|⟨_,z⟩
  ·subst z;exact⟨none,hcell⟩
  ·obtain⟨v,o,ho',hd⟩:=I.cell y c (h1 y c z)
   exact⟨v,o,k _ _ ho',hd⟩
 ·rcases wX e with⟨_,z⟩|⟨_,z⟩
  ·subst z;exact I.hok.fresh hcx
  ·exact I.freeC y c (h1 y c z)
 ·have hp'':p∈pn:=by simpa [zbh] using hp'
  obtain⟨q1,q2,q3,q4⟩:=hp p hp''
  refine⟨q1,I.hok.fresh q2,q3,fun z=>?_,q4⟩
  obtain⟨_,o,ho',_⟩:=I.stack.mem z
  exact absurd (lt_of_lt_of_le (lt_size ho') q2) (lt_irrefl _)
end
theorem zkh{M:Model}{A:Around}{E:Value→Shared→Prop}{s:Shared}{sc:Scope}{N:List Str}{x:Str}{fr:List Str}{ix:List Nat}{scope:Scope}{globals:Addr}{cl:List (Str×Addr)}{qual:Str}{outer:Env}{Q:Env→Shared→Prop}(S:CompScopeC sc N x fr ix scope)
 (h:Q (newEnv scope s.heap.objs.size globals ((x,s.heap.objs.size+1)::cl) qual none .none (some outer) builtinsNs) { s with heap:=(s.heap.push { cls:=.type "dict",data:=.dict #[] }).push { cls:=.type "cell",data:=.cell none } }) :
 wpAny M A (newFunctionEnv scope globals cl [] qual none .none (some outer)) Q E s:=by
 simp only[newFunctionEnv,Option.isSome_some,if_true]
 refine wpAny_bind (wpAny_alloc ?_)
 refine wpAny_bind (wpAny_layCells _ (fun name kind cells=>by cases hkc:kind==NameKind.cell <;> simp[hkc]) _ _ _ _ ?_)
 rw[S.one,S.push,show({ s with heap:=s.heap.push { cls:=.type "dict",data:=.dict #[] } }:Shared).heap.objs.size=s.heap.objs.size+1 from size_push ..]
 simp only[forIn_nil]
 exact wpAny_bind (wpAny_pure (wpAny_pure h))
section
variable {X:Cx}{x:Str}{fr:List Str}{ix:List Nat}{scope:Scope}{elt iter:Expr}{ifs:List Expr}{px pos:Pos}{wi:TI}{tc:TT}{te:TE}
theorem comp_runC{use:Option (Value→Sem Unit)}{Q:Value→Shared→Prop}{pins:List (Addr×Obj)}{s2:Shared}{σ:St}{H2:Hp}{it:Addr}{fp:List Addr}{tn:Nat→Heap→Prop}{J:It}{cl:List (Str×Addr)}(S:CompScopeC X.env.scope X.N x fr ix scope)(hc:X.calm=true)
 (hif:∀cl cx C s2 H2 fp,PIf (zbh X x (x::fr) scope cl cx C s2 H2 fp) ifs tc) (he:∀cl cx C s2 H2 fp,PE (zbh X x (x::fr) scope cl cx C s2 H2 fp) elt te)
 (h1:∀y c,cl.lookup y=some c→X.env.cells.lookup y=some c) (h2:∀y,(y,NameKind.free)∈scope.names→∃c,cl.lookup y=some c)
 (I2:Inv X pins σ H2 s2) (T:Turn X.prog X.w X.K (.Name x px) J fp it tn) (st2:tn 0 s2.heap) (f2:∀b∈fp,wH X pins H2 b) {fin:List V→Hp→Prop} (wc:zdA J (cap ix σ) tc te H2 fin)
 (hQ:∀(D C:Addr)(ys:List V)(H':Hp)(s':Shared)(m:Str→Option Value),Inv X pins σ (upd H' D (.lst ys)) s'→H' D=none→s'.heap.Ns C m→D≠C→s2.heap.objs.size≤C→H' C=none→fin ys H' →
   compPost (model X.prog X.w) X.A X.xe use Q (.ref D) C (.ok .next) s') :
 wpAny (model X.prog X.w) X.A (newList []) (fun acc s₃=>wpAny (model X.prog X.w) X.A (newFunctionEnv scope X.env.globals cl [] X.env.qual none .none (some X.env)) (fun cenv s₄ =>
  codeAny (model X.prog X.w) X.A (.compStart (.ListComp elt [⟨.Name x px,iter,ifs,0⟩] scope pos) 0 (.ref it) acc { cenv with scope:=relabel scope X.env }) (compPost (model X.prog X.w) X.A X.xe use Q acc cenv.locals) s₄) X.xe s₃) X.xe s2:=by
 have hfo:∀b∈fp,b<s2.heap.objs.size:=fun b hb=>by
  obtain⟨o,e,_⟩:=T.obj 0 _ st2 b hb
  exact lt_size e
 refine wpAny_newObj_type (zkh S ?_)
 generalize hHp:s2.heap.push { cls:=.type "list",dict:=none,data:=.seq ([]:List Value).toArray }=Hp2
 have hCs:Hp2.objs.size=s2.heap.objs.size+1:=by rw[←hHp,size_push]
 have hDC:s2.heap.objs.size≠Hp2.objs.size:=by rw[hCs];exact ne_of_lt (lt_succ_self _)
 have hCle:s2.heap.objs.size≤Hp2.objs.size:=by rw[hCs];exact le_succ _
 have hcx:s2.heap.objs.size≤Hp2.objs.size+1:=le_trans hCle (le_succ _)
 have hDcx:s2.heap.objs.size≠Hp2.objs.size+1:=by rw[hCs];exact ne_of_lt (lt_succ_of_lt (lt_succ_self _))
 have hcs:(Hp2.push { cls:=.type "dict",data:=.dict #[] }).objs.size=Hp2.objs.size+1:=size_push ..
 have hcell:((Hp2.push { cls:=.type "dict",data:=.dict #[] }).push { cls:=.type "cell",data:=.cell none }).IsCell (Hp2.objs.size+1) none:=⟨_,by rw[←hcs];exact get?_push_size _ rfl,rfl⟩
 have hns₁:((Hp2.push { cls:=.type "dict",data:=.dict #[] }).push { cls:=.type "cell",data:=.cell none }).Ns Hp2.objs.size fun _=>none:=(Heap.Ns.new Hp2 (.type "dict")).push _
 have old:∀b o,s2.heap.get? b=some o→((Hp2.push { cls:=.type "dict",data:=.dict #[] }).push { cls:=.type "cell",data:=.cell none }).get? b=some o:=fun b o e=>get?_push_of_some _ (get?_push_of_some _ (hHp ▸ get?_push_of_some _ e))
 have hacc:((Hp2.push { cls:=.type "dict",data:=.dict #[] }).push { cls:=.type "cell",data:=.cell none }).get? s2.heap.objs.size=some { cls:=.type "list",data:=.seq ([]:List Value).toArray 0 }:=get?_push_of_some _ (get?_push_of_some _ (hHp ▸ get?_push_size _ rfl))
 generalize hcxe:Hp2.objs.size+1=cx at hcell hcx hDcx ⊢
 generalize hh1:(Hp2.push { cls:=.type "dict",data:=.dict #[] }).push { cls:=.type "cell",data:=.cell none }=h₁ at hcell hns₁ old hacc ⊢
 have st1:tn 0 h₁:=T.keep 0 _ _ st2 fun b _ o e=>old b o e
 have fpD:∀b∈fp,b≠s2.heap.objs.size:=fun b hb=>ne_of_lt (hfo b hb)
 generalize hD:s2.heap.objs.size=D at hacc hDC hDcx fpD ⊢
 have hDle:s2.heap.objs.size≤D:=le_of_eq hD
 generalize hC:Hp2.objs.size=C at hns₁ hDC hCle ⊢
 have oldD:∀b o,s2.heap.get? b=some o→b≠D:=fun b o e z=>absurd (lt_size e) (by rw[z,←hD];exact lt_irrefl _)
 obtain⟨W,⟨m0,w0⟩,turn⟩:=wc
 have loop:∀s₃:Shared,s₃={ s2 with heap:=h₁ } →
  codeAny (model X.prog X.w) X.A (.compLoop (.ListComp elt [⟨.Name x px,iter,ifs,0⟩] scope pos) 0 (.ref it) (.ref D) (compEnvC scope ((x,cx)::cl) C X.env))
   (compPost (model X.prog X.w) X.A X.xe use Q (.ref D) C) s₃:=by
  rintro s₃ rfl
  have I0:Inv (zbh X x (x::fr) scope cl cx C s2 H2 fp) [(D,{ cls:=.type "list",data:=.seq ([]:List Value).toArray 0 })] (none::cap ix σ) H2 { s2 with heap:=h₁ } :=
   blkC_inv S I2 f2 hfo hCle hcx h1 h2 rfl rfl old hns₁ hcell (fun p hp=>by
    have e:p=(D,{ cls:=.type "list",data:=.seq ([]:List Value).toArray 0 }):=by simpa using hp
    subst e
    exact⟨hacc,hDle,hDC,fun v z=>by cases z⟩)
  have stat:∀{its:Obj}{H':Hp},(∀b∈fp,H' b=none)→∀b∈fp,wH (zbh X x (x::fr) scope cl cx C s2 H2 fp) [(D,its)] H' b:=fun {its H'} hn b hb=>by
   refine⟨hn b hb,fun z=>?_,fun z=>(I0.ok.exfs b hb z),.inl hb,fun y c e=>(I0.ok.exf b hb).2 y c e,fun p hp z=>?_⟩
   ·exact(I0.ok.exf b hb).1 z
   ·have e:p=(D,its):=by simpa [zbh] using hp
    subst e
    exact fpD b hb (Eq.symm z)
  refine zdl (env:=compEnvC scope ((x,cx)::cl) C X.env)
   (fun n s'=>∃i ys its k v0 H',Vals ys its∧Inv (zbh X x (x::fr) scope cl cx C s2 H2 fp) [(D,{ cls:=.type "list",data:=.seq its.toArray k })] (v0::cap ix σ) H' s'∧tn i s'.heap∧(∀b∈fp,H' b=none)∧W i n ys H') ?_ m0
   ⟨0,[],[],0,none,H2,.nil,I0,st1,fun b hb=>(f2 b hb).1,w0⟩
  rintro n s3 ⟨i,ys,its,k,v0,H3,rv,I3,st3,fr3,w3⟩
  rcases turn i n ys H3 w3 with⟨stop,hz,hfin⟩|⟨go,hz,N,hN,step⟩
  ·refine thn (T.done (zbh X x (x::fr) scope cl cx C s2 H2 fp) rfl rfl rfl hc i _ s3 _ H3 _ I3 (stat fr3) st3 stop) fun r s4 ⟨hr,I4⟩=>?_
   subst hr
   have pD:=I4.pin (D,{ cls:=.type "list",data:=.seq its.toArray k }) (by simp[zbh])
   obtain⟨mC,hnC,_⟩:=I4.loc
   have hH3D:H3 D=none:=pD.2.1
   have hok':HOk X.prog X.w (upd H3 D (.lst ys)) s4.heap:=fun b u e=>by
    by_cases hb:b=D
    ·subst hb
     rw[zd] at e;cases e
     exact⟨hz,its,k,rv,pD.1⟩
    ·rw[zi hb] at e
     exact(I4.hok b u e).stay (fun c v _ q=>q) (fun c q=>by rw[zi (zj q hH3D)];exact q) fun c xs q=>by rw[zi (zj q hH3D)];exact q
   have b4:Un (frs X.stack) fp H2 H3 s2.heap s4.heap:=I4.base
   have un:Un (frs X.stack) fp H2 (upd H3 D (.lst ys)) s2.heap s4.heap :=
    ⟨b4.keep,b4.slot,fun b o q n hx=>by
     rw[zi (oldD b o q)];exact b4.free b o q n hx,b4.there,fun b xs q=>by rw[zi (zj (b4.tups b xs q) hH3D)];exact b4.tups b xs q,
     fun b o u q=>by rw[zi (zj (b4.frzs b o u q) hH3D)];exact b4.frzs b o u q,fun b ps q=>by
      obtain⟨more,e⟩:=b4.tbls b ps q
      exact⟨more,by rw[zi (zj e hH3D)];exact e⟩⟩
   have I5:Inv X pins σ (upd H3 D (.lst ys)) s4:=I2.call' (ch:=fp) I4.os un hok' I4.bare fun b hb=>by
    obtain⟨g0,g1,g2,g3,g4,g5⟩:=f2 b hb
    exact⟨g3,g1,g4,g5⟩
   exact hQ D C ys H3 s4 mC I5 hH3D hnC hDC hCle I4.free hfin
  ·refine thn (T.item (zbh X x (x::fr) scope cl cx C s2 H2 fp) rfl rfl rfl hc i _ s3 _ H3 _ I3 (stat fr3) st3 go) fun r s4 ⟨u,hr,h4⟩=>?_
   subst hr
   refine thn h4 fun _ s5 ⟨y,H5,I5,r5,y5,st5,fr5⟩=>?_
   have I5':=I5.pinned (stat fr5) (T.obj _ _ st5)
   have pg:PG (zbh X x (x::fr) scope cl cx C s2 H2 fp) (.Name x px) (zf0 0):=zH S.nd rfl (.inr (by show(relabel scope X.env).names.lookup x=some .cell;rw[wG,zac (zgT X.env) S.lx,ziv X.env x .cell (by decide)])) (.inl (by simp[zbh]))
   refine thn (pg _ s5 _ H5 y u (fun σ6 H6=>σ6=some y::cap ix σ∧H6=H5) I5' r5 ⟨rfl,rfl⟩) fun _ s6 ⟨σ6,H6,I6,e6,e6'⟩=>?_
   subst e6 e6'
   refine thn (hif cl cx C s2 H2 fp _ s6 _ _ _ I6 (step y _ y5)) fun b s7 ⟨H7,I7,q7⟩=>?_
   have again:∀{s8:Shared}{H8:Hp}{its':List Value}{k':Nat}{ys':List V},Vals ys' its'→Inv (zbh X x (x::fr) scope cl cx C s2 H2 fp) [(D,{ cls:=.type "list",data:=.seq its'.toArray k' })] (some y::cap ix σ) H8 s8→(∀b∈fp,∀o,s5.heap.get? b=some o→s8.heap.get? b=some o)→(∀b∈fp,H8 b=none)→N ys' H8 →
    ∃m,m<n∧∃i ys its k v0 H',Vals ys its∧Inv (zbh X x (x::fr) scope cl cx C s2 H2 fp) [(D,{ cls:=.type "list",data:=.seq its.toArray k })] (v0::cap ix σ) H' s8∧tn i s8.heap∧(∀b∈fp,H' b=none)∧W i m ys H' :=
    fun {s8 H8 its' k' ys'} rv8 I8 kp fr8 nn=>let ⟨m',hm,w8⟩:=hN ys' H8 nn;⟨m',hm,i+1,ys',its',k',some y,H8,rv8,I8,T.keep _ _ _ st5 kp,fr8,w8⟩
   cases b with
   | false =>
     rw[if_neg Bool.false_ne_true] at q7 ⊢
     refine again rv I7.unpinned (fun b hb o e=>(I7.pin (b,o) (by simp[zbh];exact .inr (yx hb e))).1) (fun b hb=>?_) q7
     obtain⟨o,e,d⟩:=T.obj _ _ st5 b hb
     exact(I7.pin (b,o) (by simp[zbh];exact .inr (yx hb e))).2.1
   | true =>
     rw[if_pos rfl] at q7 ⊢
     refine thn (he cl cx C s2 H2 fp _ s7 _ _ _ I7 q7) fun v s8 ⟨z,H8,I8,r8,q8⟩=>?_
     have pD:=I8.pin (D,{ cls:=.type "list",data:=.seq its.toArray k }) (by simp[zbh])
     have hvl:ys.length=its.length:=rv.length
     refine append_at (hsz:=by show its.toArray.size≤sizeLine;rw[size_toArray];omega) pD.1 fun h₉ hs₉ hD₉=>?_
     have eo:({ cls:=.type "list",data:=.seq (its.toArray.push v) (k+1) }:Obj)={ cls:=.type "list",data:=.seq (its++[v]).toArray (k+1) }:=by rw[push_toArray]
     rw[eo] at hD₉
     have pn8:∀b∈fp,∀o,s5.heap.get? b=some o→s8.heap.get? b=some o∧H8 b=none:=fun b hb o e=>by
      have q:=I8.pin (b,o) (by simp[zbh];exact .inr (yx hb e))
      exact⟨q.1,q.2.1⟩
     have J8:=I8.unpinned.pins_of (pins':=[]) (fun p hp=>by cases hp)
     have f2D:wH (zbh X x (x::fr) scope cl cx C s2 H2 fp) [] H8 D:=⟨pD.2.1,pD.2.2.1,pD.2.2.2.1,.inr hDle,fun y c e z=>by
      rcases wX e with⟨_,q⟩|⟨_,q⟩
      ·exact hDcx (z.symm.trans q)
      ·obtain⟨v,o,ho,_⟩:=I2.cell y c (h1 y c q)
       exact oldD c o ho z,fun p hp=>by cases hp⟩
     have I9:Inv (zbh X x (x::fr) scope cl cx C s2 H2 fp) [] (some y::cap ix σ) H8 { s8 with heap:=h₉ }:=J8.turned (t':=s8.toks) (it:=D) (fun b o hb e=>(hs₉.2 b hb).trans e) f2D.1 f2D.2.1 f2D.2.2.2.1 f2D.2.2.2.2.1 f2D.2.2.2.2.2
     refine again (its':=its++[v]) (k':=k+1) (ys':=ys++[z]) (rv.append (.cons r8 .nil)) (I9.pins_of fun p hp=>?_) (fun b hb o e=>(hs₉.2 b (fpD b hb)).trans (pn8 b hb o e).1) (fun b hb=>?_) q8
     ·have e:p=(D,{ cls:=.type "list",data:=.seq (its++[v]).toArray (k+1) }):=by simpa using hp
      subst e
      exact⟨hD₉,f2D.1,f2D.2.1,f2D.2.2.1,fun v z=>by cases z⟩
     ·obtain⟨o,e,d⟩:=T.obj _ _ st5 b hb
      exact(pn8 b hb o e).2
 exact codeAny_compStart_list (loop _ rfl) (T.self X.A 0 _ _ _ st1 (loop _ rfl))
theorem pe_compC(S:CompScopeC X.env.scope X.N x fr ix scope)(hc:X.calm=true)(hi:PI X (.Name x px) iter wi)(hif:∀cl cx C s2 H2 fp,PIf (zbh X x (x::fr) scope cl cx C s2 H2 fp) ifs tc)(he:∀cl cx C s2 H2 fp,PE (zbh X x (x::fr) scope cl cx C s2 H2 fp) elt te)
 (hs:∀x,foldedSetIterable iter X.env x=pure x:=by intro _;rfl):PE X (.ListComp elt [⟨.Name x px,iter,ifs,0⟩] scope pos) (tComp ix wi tc te):=by
 intro pins s σ H Q I h
 obtain⟨cl,ecl,h1,h2⟩:=zbT (env:=X.env) (scope:=scope) fun y hy hf=>I.ok.has y.1 (S.free y hy hf)
 rw[eval_ListComp]
 refine wpAny_comprehension_free (use:=none) rfl hs ecl S.kind S.lcl (thn (hi pins s σ H _ I h) fun xv s1 q1=>thn q1 fun itv s2 q2=>?_)
 obtain⟨it,fp,tn,J,H2,rfl,I2,T,st2,f2,wc⟩:=q2
 refine comp_runC S hc hif he h1 h2 I2 T st2 f2 wc fun D C ys H' s' m I' hD hn hDC hC hHC fin=>?_
 refine⟨m,hn,fun h' sb=>⟨.ref D,upd H' D (.lst ys),?_,rfl,fin D hD⟩⟩
 have hcf:wH X pins (upd H' D (.lst ys)) C:=by
  have z:=I2.fpOk (H':=upd H' D (.lst ys)) hC (by rw[zi (Ne.symm hDC)];exact hHC)
  exact z
 exact I'.turned (t':=s'.toks) (it:=C) (fun b o hb e=>(sb.2 b hb).trans e) hcf.1 hcf.2.1 hcf.2.2.2.1 hcf.2.2.2.2.1 hcf.2.2.2.2.2
end
section
open PySem.SeqAt
open PySem.AutoSeq1 (wpAny_loadPart')
open PySem.MeetsSeq PySem.MeetsSeq2 PySem.MeetsSeq3
theorem lt_loop(l b:Addr)(items items2:Array Value)(n n2:Nat)(dd dd2:Option Addr)(sl sl2:Array (Option Value))(ns ms:List Int)(hi:IntsAre items.toList ns)(hj:IntsAre items2.toList ms)(k:Nat):
 ∀i:Nat,ns.length-i=k→i≤ns.length→i≤ms.length→Meets (Builtin.«list.__eq__.loop» ⟨[.ref l,.ref b,rawInt i,rawInt 0],[]⟩)
  (fun A R s=>s.heap.get? l=some { cls:=.type "list",dict:=dd,data:=.seq items n,slots:=sl }∧s.heap.get? b=some { cls:=.type "list",dict:=dd2,data:=.seq items2 n2,slots:=sl2 } ∧
    R (.ok (.ret (.bool (HT.lexLt (ns.drop i) (ms.drop i))))) s):=by
 have z1:items.size=ns.length:=by rw[←hi.length];simp
 have z2:items2.size=ms.length:=by rw[←hj.length];simp
 have stop:∀i,(i=ns.length∨i=ms.length)→i≤ns.length→i≤ms.length→HT.lexLt (ns.drop i) (ms.drop i)=decide (items.size<items2.size):=fun i h h1 h2=>by
  rw[z1,z2]
  rcases Nat.lt_or_ge i ns.length with c1 | c1
  ·have e:i=ms.length:=h.elim (fun z=>by omega) id
   rw[drop_of_length_le (le_of_eq e.symm),drop_eq_getElem_cons c1,HT.lexLt_cons_nil]
   exact(decide_eq_false (by omega)).symm
  ·rw[drop_of_length_le c1]
   rcases Nat.lt_or_ge i ms.length with c2 | c2
   ·rw[drop_eq_getElem_cons c2,HT.lexLt_nil_cons]
    exact(decide_eq_true (by omega)).symm
   ·rw[drop_of_length_le c2,HT.lexLt_nil_nil]
    exact(decide_eq_false (by omega)).symm
 induction k with
 | zero =>
   intro i hk h1 h2 prog w A R s h
   obtain⟨hp,g,d,tk,os⟩:=s;obtain⟨hl,hb,h⟩:=h
   rw[stop i (.inl (by omega)) h1 h2] at h
   wp_walk using wpAny_loadPart' hl,wpAny_loadPart' hb
   have hi1:items[((i:Nat):Int).toNat]? = none:=by simp;omega
   rw[hi1]
   wp_walk using wpAny_loadPart' hl,wpAny_loadPart' hb
   exact h
 | succ k ih =>
   intro i hk h1 h2 prog w A R s h
   obtain⟨hp,g,d,tk,os⟩:=s;obtain⟨hl,hb,h⟩:=h
   have hlt:i<items.size:=by omega
   have hi1:items[((i:Nat):Int).toNat]? = some items[i]:=by simp[hlt]
   wp_walk using wpAny_loadPart' hl,wpAny_loadPart' hb
   rw[hi1]
   by_cases hm:i<ms.length
   ·have hlt2:i<items2.size:=by omega
    have hi2:items2[((i:Nat):Int).toNat]? = some items2[i]:=by simp[hlt2]
    have hc:((i:Int)+1)=((i+1:Nat):Int):=by push_cast;rfl
    rw[hi2]
    obtain⟨t,et⟩:=IntsAre.int_at hi i items[i] (by simp[hlt])
    obtain⟨u,eu⟩:=IntsAre.int_at hj i items2[i] (by simp[hlt2])
    have hn':i<ns.length:=by omega
    have en:ns.getD i 0=ns[i]:=by rw[getD_eq_getElem?_getD,getElem?_eq_getElem hn'];rfl
    have em:ms.getD i 0=ms[i]:=by rw[getD_eq_getElem?_getD,getElem?_eq_getElem hm];rfl
    rw[en] at et
    rw[em] at eu
    rw[drop_eq_getElem_cons hn',drop_eq_getElem_cons hm,HT.lexLt_cons] at h
    have heq:EqAt A.in1 ⟨hp,g,d,tk,os⟩ items[i] items2[i] (ns[i]==ms[i]):=by rw[et,eu];exact SeqAt.EqAt.int_int _ _ _ _
    refine wpAny_bind (heq prog w _ _ ?_)
    cases hb':(ns[i]==ms[i])with
    | true =>
      rw[if_pos (by simpa using hb')] at h
      wp_walk
      rw[hc]
      exact⟨plainId_quiet plain_eq_loop _,codeAny_builtin entry_eq_loop (by
       rw[Around.under_plainId plain_eq_loop _]
       exact ih (i+1) (by omega) (by omega) (by omega) prog w A R _ ⟨hl,hb,h⟩)⟩
    | false =>
      rw[if_neg (by simpa using hb')] at h
      wp_walk using wpAny_loadPart' hl,wpAny_loadPart' hb
      rw[hi1,hi2]
      have hri:=HT.rcLt_int A.in1 ⟨hp,g,d,tk,os⟩ ns[i] t ms[i] u prog w
      rw[et,eu]
      wp_walk using hri
      exact h
   ·have hi2:items2[((i:Nat):Int).toNat]? = none:=by simp;omega
    rw[hi2]
    rw[stop i (.inr (by omega)) h1 h2] at h
    wp_walk using wpAny_loadPart' hl,wpAny_loadPart' hb
    exact h
theorem zie(l b:Addr)(items items2:Array Value)(n n2:Nat)(dd dd2:Option Addr)(sl sl2:Array (Option Value))(ns ms:List Int)(hi:IntsAre items.toList ns)(hj:IntsAre items2.toList ms):
 Meets (Builtin.«list.__lt__» ⟨[.ref l,.ref b],[]⟩)
  (fun _ R s=>s.heap.get? l=some { cls:=.type "list",dict:=dd,data:=.seq items n,slots:=sl }∧s.heap.get? b=some { cls:=.type "list",dict:=dd2,data:=.seq items2 n2,slots:=sl2 } ∧
    R (.ok (.ret (.bool (HT.lexLt ns ms)))) s):=by
 intro prog w A R s h
 obtain⟨hp,g,d,tk,os⟩:=s;obtain⟨hl,hb,h⟩:=h
 have f2:=AutoSeq1.sub_list_list
 wp_walk using wpAny_loadPart' hl,wpAny_loadPart' hb
 exact⟨plainId_quiet plain_eq_loop _,codeAny_builtin entry_eq_loop (by
  rw[Around.under_plainId plain_eq_loop _]
  exact lt_loop l b items items2 n n2 dd dd2 sl sl2 ns ms hi hj _ 0 rfl (zero_le _) (zero_le _) prog w A R _ ⟨hl,hb,h⟩)⟩
end
section
variable {X:Cx}
inductive IRLtL (K:Frag) (x y:V) (H:Hp) (Q:VK):Prop
 | mk (a:_) (b:_) (ns:_) (ms:_):x=.ref a→y=.ref b→SqL K H a (ns.map V.int)→SqL K H b (ms.map V.int)→Q (.bl (HT.lexLt ns ms)) H→IRLtL K x y H Q
def rLtL(K:Frag):R2:=fun x y H Q=>IRLtL K x y H Q
theorem zkd(hu:X.A.units<cLine):OpR X (compareOp .Lt) (rLtL X.K):=by
 intro pins s σ H x y v u Q I rx ry h
 obtain⟨a,b,ns,ms,rfl,rfl,ha,hb,q⟩:=h
 cases rx
 cases ry
 obtain⟨its,r1,p1,z1⟩:=I.list ha
 obtain⟨its2,r2,p2,z2⟩:=I.list hb
 obtain⟨⟨cls,dd,data,sl⟩,n,e,c1,c2,c3⟩:=p1
 obtain⟨⟨cls2,dd2,data2,sl2⟩,n2,e2,d1,d2,d3⟩:=p2
 simp only at c1 c2 c3 d1 d2 d3
 subst c1 c2 c3 d1 d2 d3
 have i1:IntsAre its.toArray.toList ns:=zaG r1
 have i2:IntsAre its2.toArray.toList ms:=zaG r2
 exact richCompare_meets_room (op := .Lt) ⟨_,e,rfl⟩ ⟨_,e2,rfl⟩ PySem.F.slot_list_lt PySem.F.entry_list_lt (PySem.F.args_list_lt_2 _ _) (zie a b its.toArray its2.toArray n n2 _ _ _ _ ns ms i1 i2)
  ⟨e,e2,show Value.bool (HT.lexLt ns ms)≠Value.notImplemented∧EP X pins σ Q (.bool (HT.lexLt ns ms)) s from⟨(fun x=>nomatch x),⟨.bl (HT.lexLt ns ms),H,I,rfl,q⟩⟩⟩ hu
theorem zjg{K:Frag}(h:X.K=K)(hu:X.A.units<cLine):OpR X (compareOp .Lt) (rLtL K):=by subst h;exact zkd hu
inductive IRNeL (K:Frag) (x y:V) (H:Hp) (Q:VK):Prop
 | mk (a:_) (b:_) (xs:_) (ys:_):x=.ref a→y=.ref b→SqL K H a xs→SqL K H b ys→xs.all zag=true→ys.all zag=true→Q (.bl (!eqL xs ys)) H→IRNeL K x y H Q
def rNeL(K:Frag):R2:=fun x y H Q=>IRNeL K x y H Q
theorem zdy(hu:X.A.units<cLine):OpR X (compareOp .NotEq) (rNeL X.K):=by
 intro pins s σ H x y v u Q I rx ry h
 obtain⟨a,b,xs,ys,rfl,rfl,ha,hb,fx,fy,q⟩:=h
 cases rx
 cases ry
 obtain⟨its,r1,p1,z1⟩:=I.list ha
 obtain⟨its2,r2,p2,z2⟩:=I.list hb
 have l1:=r1.length
 have l2:=r2.length
 by_cases hl:xs.length=ys.length
 ·refine SeqAt.RcNeAt.lists p1.isList p2.isList (by simp;omega) hu (eqAt_j r1 r2 fx fy) _ _ _ _ ⟨.bl (!eqL xs ys),H,I,?_,q⟩
  rw[size_toArray,←l1,zfD hl]
  rfl
 ·refine SeqAt.RcNeAt.lists_lengths p1.isList p2.isList (by simp;omega) hu _ _ _ _ ⟨.bl (!eqL xs ys),H,I,?_,q⟩
  rw[ziC hl]
  rfl
end
structure CanM (P:Program) (w:World) (K:Frag) (mg:Str→Option Value) (base:Heap) (k:Nat) (C:Addr) (m:Str) (ps:List Str) (sp:Sp):Prop where
 ex:∃f fd,FnOk P w K mg base CX0 k f fd ps sp∧Meth K C m f∧Binds K fd ps []
structure CanMX (P:Program) (w:World) (K:Frag) (mg:Str→Option Value) (base:Heap) (k:Nat) (C:Addr) (m:Str) (ps:List Str) (sp:Sp):Prop where
 ex:∃f fd,FnOk P w K mg base (CX1 P w) k f fd ps sp∧Meth K C m f∧Binds K fd ps []
inductive ITMethX (C:Addr) (m:Str) (W:XW) (sp:Sp) (t:TA) (σ:St) (x:V) (H1:Hp) (Q:VK):Prop
 | mk (a:_) (dx:_) (fs:_):x=.ref a→H1 a=some (.ins C dx fs)→fs.lookup m=none→(t σ H1 fun vs H2=>sp (.ref a::vs) H2 Q fun cls _ H'=>W σ cls H')→ITMethX C m W sp t σ x H1 Q
def tMethX(C:Addr)(m:Str)(W:XW)(sp:Sp)(ta:TE)(t:TA):TE:=fun σ H Q=>ta σ H fun x H1=>ITMethX C m W sp t σ x H1 Q
section
variable {X:Cx}{k:Nat}{C:Addr}{m:Str}{ps:List Str}{sp:Sp}{apos pos:Pos}{o e:Expr}{es:List Expr}{ta:TE}{t:TA}{W:XW}{pl:Sem Bool}
theorem wg(M:CanMX X.prog X.w X.K X.mg X.base k C m ps sp)(c:Cls X.K C)(fl:Fl X W)(hr:Room k X.A)(he:PE X o ta)(ha:PA X (e::es) t)
 (hst:starEach (e::es) X.env=(false,eval e X.env)::starEach es X.env:=by rfl) (hpl:(backTo pos (starEach es X.env)).any (·.1)=false:=by rfl)
 (ht:eval (.Call (.Attribute o m apos) (e::es) [] pos) X.env=(do
   let ov ←eval o X.env
   standAt apos.atName
   let (f,first) ←holding [ov] (getMethod ov m pl)
   callWith pos f first (backTo pos (starEach (e::es) X.env)) (backToKw pos (keywordEach [] X.env))):=by rfl) :
 PE X (.Call (.Attribute o m apos) (e::es) [] pos) (tMethX C m W sp ta t):=by
 obtain⟨f,fd,F,hm,hb⟩:=M.ex
 intro pins s σ H Q I h
 refine methodCall_KW (pl:=pl) (thn (he pins s σ H _ I h) fun u s1 ⟨x,H1,I1,rx,a,dx,fs,ex,ea,l,q⟩=>?_) ht
 subst ex
 obtain rfl:u=Value.ref a:=rx
 refine zeB I1 ea c hm l ?_
 refine callWith_K (first:=[.ref a]) (h₀:=X.base) I.ok.mod.kin hm.kp (thn (ha pos pins s1 σ H1 _ I1 q) fun us s2 ⟨vs,H2,I2,r,q2⟩=>⟨I2.kIn,?_⟩) hst hpl
 exact ziR (us:=.ref a::us) (vs:=.ref a::vs) F hr hb fl I2 (.cons rfl r) q2
theorem zhS(M:CanMX X.prog X.w X.K X.mg X.base k C m ps sp)(c:Cls X.K C)(fl:Fl X W)(hr:Room k X.A)(he:PE X o ta)
 (ht:eval (.Call (.Attribute o m apos) [] [] pos) X.env=(do
   let ov ←eval o X.env
   standAt apos.atName
   let (f,first) ←holding [ov] (getMethod ov m pl)
   callWith pos f first (backTo pos (starEach [] X.env)) (backToKw pos (keywordEach [] X.env))):=by rfl) :
 PE X (.Call (.Attribute o m apos) [] [] pos) (tMethX C m W sp ta tNil):=by
 obtain⟨f,fd,F,hm,hb⟩:=M.ex
 intro pins s σ H Q I h
 refine methodCall_KW (pl:=pl) (thn (he pins s σ H _ I h) fun u s1 ⟨x,H1,I1,rx,a,dx,fs,ex,ea,l,q⟩=>?_) ht
 subst ex
 obtain rfl:u=Value.ref a:=rx
 refine zeB I1 ea c hm l ?_
 exact callWith_K0 (first:=[.ref a]) I1.kIn hm.kp (ziR (us:=[.ref a]) (vs:=[.ref a]) F hr hb fl I1 (.cons rfl .nil) q)
theorem zy(M:CanM X.prog X.w X.K X.mg X.base k C m ps sp)(c:Cls X.K C)(hr:Room k X.A)(he:PE X o ta)
 (ht:eval (.Call (.Attribute o m apos) [] [] pos) X.env=(do
   let ov ←eval o X.env
   standAt apos.atName
   let (f,first) ←holding [ov] (getMethod ov m pl)
   callWith pos f first (backTo pos (starEach [] X.env)) (backToKw pos (keywordEach [] X.env))):=by rfl) :
 PE X (.Call (.Attribute o m apos) [] [] pos) (tMeth C m sp [] E0 ta tNil):=by
 obtain⟨f,fd,F,hm,hb⟩:=M.ex
 exact pe_meth0 (pl:=pl) he c hm F hr hb .nil pass0 ht
structure CanK (P:Program) (w:World) (K:Frag) (mg:Str→Option Value) (base:Heap) (k:Nat) (x:Str) (C:Addr) (ps:List Str) (sp:Sp):Prop where
 ex:∃f fd,FnOk P w K mg base (CX1 P w) k f fd ps sp∧mg x=some (.ref C)∧Mk K C f∧Binds K fd ps []
def tMakeX(C:Addr)(W:XW)(sp:Sp)(t:TA):TE:=fun σ H Q=>t σ H fun vs H1=>∀x dx,H1 x=none→H1 dx=none→dx≠x→sp (.ref x::vs) (upd (upd H1 dx (.own x)) x (.ins C dx [])) (fun v H2=>v=.non∧Q (.ref x) H2) fun cls _ H'=>W σ cls H'
theorem run_makeX{pins:List (Addr×Obj)}{σ:St}{H:Hp}{s:Shared}{Q:VK}{us:List Value}{vs:List V}{f:Addr}{fd:FuncData}(M:Mk X.K C f)(F:FnOk X.prog X.w X.K X.mg X.base (CX1 X.prog X.w) k f fd ps sp)(hr:Room (k+1) X.A)(hb:Binds X.K fd ps [])(fl:Fl X W)(I:Inv X pins σ H s)(r:Vals vs us)
 (h:∀x dx,H x=none→H dx=none→dx≠x→sp (.ref x::vs) (upd (upd H dx (.own x)) x (.ins C dx [])) (fun v H2=>v=.non∧Q (.ref x) H2) fun cls _ H'=>W σ cls H') :
 wpAny (model X.prog X.w) X.A (call (.ref C) us) (EP X pins σ Q) X.xe s:=by
 have hq:=h (s.heap.objs.size+1) s.heap.objs.size (I.hok.fresh (le_succ _)) (I.hok.fresh (le_refl _)) (ne_of_lt (lt_succ_self _))
 have I2:=Inv.made (C:=C) I
 have r2:Vals (V.ref (s.heap.objs.size+1)::vs) (Value.ref (s.heap.objs.size+1)::us):=.cons rfl r
 have hl:(Value.ref (s.heap.objs.size+1)::us).length=ps.length:=by
  have e:=r2.length
  rw[F.len _ _ _ _ hq] at e
  exact e.symm
 have hb':=hb { s with heap:=(s.heap.push emptyDict).push (instObj C s.heap.objs.size) } (Value.ref (s.heap.objs.size+1)::us) I2.kIn (by rw[append_nil];exact hl)
 rw[append_nil] at hb'
 refine wpAny_call (make_map (f:=f) I.kIn M.makes M.init (beq_iff_eq.mp M.fn) (codeAny_mono (F.run _ X.stack _ _ ⟨Value.ref (s.heap.objs.size+1)::us,[]⟩ (Value.ref (s.heap.objs.size+1)::us) _ _ _ (hr.make C us [])
  (I2.env0.make C us []) hb' r2 hq) fun r s' hq'=>?_))
 cases r with
 | error e =>
   obtain⟨y,cls,H',rfl,fly,w⟩:=hq'
   exact fl pins σ _ _ y cls H' s' I2 fly w
 | ok fl =>
   cases fl with
   | ret u =>
     obtain⟨v,H',I3,rv,ev,q3⟩:=I2.after hq'
     subst ev
     exact⟨rv,⟨V.ref (s.heap.objs.size+1),H',I3,rfl,q3⟩⟩
   | next=>exact False.elim hq'
   | brk=>exact False.elim hq'
   | cont=>exact False.elim hq'
theorem zjM{x:Str}{p:Pos}(M:CanK X.prog X.w X.K X.mg X.base k x C ps sp)(fl:Fl X W)(hr:Room (k+1) X.A)(hg:Gl X x)(ha:PA X (e::es) t)(hdb:(x==("__debug__":Str))=false:=by decide)
 (he:starEach (e::es) X.env=(false,eval e X.env)::starEach es X.env:=by rfl) (hpl:(backTo pos (starEach es X.env)).any (·.1)=false:=by rfl):PE X (.Call (.Name x p) (e::es) [] pos) (tMakeX C W sp t):=by
 obtain⟨f,fd,F,hm,hk,hb⟩:=M.ex
 intro pins s σ H Q I h
 refine wpAny_Call_Name_kw (zeP I hg hm ?_ hdb)
 refine callWith_K (h₀:=X.base) I.ok.mod.kin hk.kp (thn (ha pos pins s σ H _ I h) fun us s1 ⟨vs,H1,I1,r,q⟩=>⟨I1.kIn,?_⟩) he hpl
 exact run_makeX hk F hr hb fl I1 r q
theorem pe_fldK{K:Frag}{f:Str}(h:X.K=K)(he:PE X e ta)(hb:attributeBase e f X.env (eval e X.env)=eval e X.env):PE X (.Attribute e f pos) (tFld K ta f):=by subst h;exact yF he hb
end
def zE(K:Frag)(x:Str):Addr:=match nsIn K mainGlobals x with
 | some (some (.ref C))=>C
 | _=>0
theorem clsA_of{K:Frag}{x:Str}{C:Addr}(h:nsIn K mainGlobals x=some (some (.ref C))):zE K x=C:=by unfold zE;rw[h]
theorem CanM.of{P:Program}{w:World}{K:Frag}{mg:Str→Option Value}{base:Heap}{k:Nat}{C:Addr}{x m:Str}{ps:List Str}{sp:Sp}{f:Addr}{fd:FuncData}(hC:zE K x=C)(G:FnOk P w K mg base CX0 k f fd ps sp)(hm:Meth K C m f)(b:Binds K fd ps []):CanM P w K mg base k (zE K x) m ps sp:=by rw[hC];exact⟨f,fd,G,hm,b⟩
theorem CanMX.of{P:Program}{w:World}{K:Frag}{mg:Str→Option Value}{base:Heap}{k:Nat}{C:Addr}{x m:Str}{ps:List Str}{sp:Sp}{f:Addr}{fd:FuncData}(hC:zE K x=C)(G:FnOk P w K mg base (CX1 P w) k f fd ps sp)(hm:Meth K C m f)(b:Binds K fd ps []):CanMX P w K mg base k (zE K x) m ps sp:=by rw[hC];exact⟨f,fd,G,hm,b⟩
theorem CanK.of{P:Program}{w:World}{K:Frag}{mg:Str→Option Value}{base:Heap}{k:Nat}{C:Addr}{x:Str}{ps:List Str}{sp:Sp}{f:Addr}{fd:FuncData}(hC:zE K x=C)(G:FnOk P w K mg base (CX1 P w) k f fd ps sp)(hg:mg x=some (.ref C))(hm:Mk K C f)(b:Binds K fd ps []):CanK P w K mg base k x (zE K x) ps sp:=by rw[hC];exact⟨f,fd,G,hg,hm,b⟩
section
variable {X:Cx}
inductive ICall_max_list (K:Frag) (xs:List V) (H:Hp) (Q:VK):Prop
 | mk (a:Addr) (ns:List Int):xs=[.ref a]→SqL K H a (ns.map V.int)→0<ns.length→(∀M:Int,M∈ns→(∀x∈ns,x≤M)→Q (.int M) H)→ICall_max_list K xs H Q
theorem zhs(hc:X.calm=true):zam X (.builtin "max") (ICall_max_list X.K):=by
 intro pins s σ H xs us Q I r h
 obtain⟨a,ns,rfl,hS,hne,q⟩:=h
 obtain⟨u,rfl,ru⟩:=r.one
 cases ru
 obtain⟨its,r1,p1,z1⟩:=I.list hS
 have hi:=zaG r1
 obtain⟨xs,e⟩:=hi.allInts.items
 have hns:ns=xs.toList.map (·.1):=by
  rw[←hi.numsOf,←nums_intItems,←e]
 have hsz:0<xs.size:=by
  have h3:=hne;rw[hns,length_map,Array.length_toList] at h3;exact h3
 have hl:=p1.isList
 rw[e] at hl
 refine max_intList (I.ok.hd hc) hl hsz fun v h' tk hv hk=>?_
 obtain⟨t,rfl⟩:=intItems_at hv
 obtain⟨h1,h2⟩:=argBest_gt (numAt xs) (xs.size-1)
 refine⟨.int _,H,I.kept (t':=tk) hk,⟨t,rfl⟩,q _ ?_ fun a ha=>?_⟩
 ·rw[hns,numAt_eq];exact getD_mem (by rw[length_map,Array.length_toList];omega)
 ·rw[hns] at ha
  obtain⟨j,hj,rfl⟩:=mem_getD ha
  rw[length_map,Array.length_toList] at hj
  rw[←numAt_eq];exact h2 j (by omega)
inductive IRCatS (K:Frag) (x y:V) (H:Hp) (Q:VK):Prop
 | mk (l:_) (b:_) (xs:_) (zs:_):x=.ref l→y=.ref b→SqL K H l xs→SqL K H b zs→xs.length+zs.length≤sizeLine→(∀p,H p=none→Q (.ref p) (upd H p (.lst (xs++zs))))→IRCatS K x y H Q
def rCatS(K:Frag):R2:=fun x y H Q=>IRCatS K x y H Q
theorem op_catS:OpR X (binaryOp .Add) (rCatS X.K):=by
 intro pins s σ H x y v u Q I rx ry h
 obtain⟨l,b,xs,zs,rfl,rfl,hH,hB,hz,q⟩:=h
 cases rx
 cases ry
 obtain⟨its,r,p1,z1⟩:=I.list hH
 obtain⟨its2,r2,p2,z2⟩:=I.list hB
 have hl:=r.length
 have hl2:=r2.length
 obtain⟨⟨cls,dd,data,sl⟩,ho,hc,n,hd⟩:=p1.isList
 obtain⟨⟨cls2,dd2,data2,sl2⟩,ho2,hc2,n2,hd2⟩:=p2.isList
 cases hc;cases hd;cases hc2;cases hd2
 refine concat_meets ⟨_,ho,rfl⟩ ⟨_,ho2,rfl⟩ noFill_list_add seq_list_add F.slot_list_add F.entry_list_add (F.args_list_add_2 _ _) (list_addW l b its.toArray its2.toArray n n2 dd dd2 sl sl2 (by rw[size_toArray,size_toArray];omega)) ⟨ho,ho2,?_⟩
 have ea:its.toArray++its2.toArray=(its++its2).toArray:=by simp
 rw[ea]
 exact⟨.ref _,_,I.lnew (t':=s.toks) (r.append r2) (by rw[length_append];omega),rfl,q _ I.fresh⟩
theorem zck{K:Frag}(h:X.K=K)(hu:X.A.units<cLine):OpR X (compareOp .NotEq) (rNeL K):=by subst h;exact zdy hu
end
end L2
namespace L2
open PySem PySem.Spec PyProof.Rows PySem.W PySem.Calls Builtin Builtin.ObjectAttr Builtin.Getset_descriptor
section
variable {prog:Program}{w:World}{A:Around}{s:Shared}{K:Frag}{x C:Addr}{E:Value→Shared→Prop}
end
section
variable {X:Cx}
end
end L2
namespace M14
open PySem PySem.W PyProof.Rows
abbrev g(p:Array Nat)(i:Nat):Nat:=p.getD i 0
theorem g_of{p q:Array Nat}{i j:Nat}(h:p[i]? = q[j]?):g p i=g q j:=by
 show p.getD i 0=q.getD j 0
 rw[Array.getD_eq_getD_getElem?,Array.getD_eq_getD_getElem?,h]
theorem zdB{p:Array Nat}{i j:Nat}(hj:j≤p.size)(k:Nat):g (kas_rev p i j) k=if i≤k∧k<j then g p (i+j-1-k)else g p k:=by
 have e:=getElem?_mirror_all (xs:=p) (i:=i) hj k
 by_cases c:i≤k∧k<j
 ·rw[if_pos c] at e ⊢;exact g_of e
 ·rw[if_neg c] at e ⊢;exact g_of e
theorem g_bub{p:Array Nat}{s d:Nat}(hs:s<p.size)(hd:d≤s)(k:Nat):g (bubble p s d) k=if k=s-d then g p s else if s-d<k∧k≤s then g p (k-1)else g p k:=by
 have e:=getElem?_bubble hs d hd k
 by_cases c:k=s-d
 ·rw[if_pos c] at e ⊢;exact g_of e
 ·rw[if_neg c] at e ⊢
  by_cases c2:s-d<k∧k≤s
  ·rw[if_pos c2] at e ⊢;exact g_of e
  ·rw[if_neg c2] at e ⊢;exact g_of e
section
variable (key:Nat→Int)(N:Nat)
def R(a b:Nat):Prop:=key a<key b∨key a=key b∧a<b
structure B (p:Array Nat) (m:Nat):Prop where
 pm:p.Perm (List.range N).toArray
 tl:∀i,m≤i→i<N→g p i=i
 lo:∀i,i<m→g p i<m
 le:m≤N
def I(p:Array Nat)(m:Nat):Prop:=B N p m∧∀i j,i<j→j<m→R key (g p i) (g p j)
def E(p:Array Nat)(m:Nat):Prop:=B N p m∧∀i j,i<j→j<m→R key (g p j) (g p i)
structure D (p:Array Nat) (m b:Nat):Prop where
 bs:B N p m
 lt:b<m
 ds:∀i j,i<j→j<b→R key (g p j) (g p i)
 sp:∀i j,i<b→b≤j→j<m→key (g p j)<key (g p i)
 bk:∀i j,b≤i→i<j→j<m→key (g p i)=key (g p j)∧g p i<g p j
def ck(i j:Nat)(C:Bool→Shared→Prop)(s:Shared):Prop:=i<N∧j<N∧C (decide (key i<key j)) s
variable {key N}
theorem B.size{p:Array Nat}{m:Nat}(b:B N p m):p.size=N:=by
 have:=b.pm.size_eq
 simpa using this
theorem B.lt{p:Array Nat}{m:Nat}(b:B N p m){i:Nat}(h:i<N):g p i<N:=by
 by_cases c:i<m
 ·have:=b.lo i c;have:=b.le;omega
 ·rw[b.tl i (by omega) h];exact h
theorem B.rev{p:Array Nat}{m i j:Nat}(b:B N p m)(hj:j≤m):B N (kas_rev p i j) m:=by
 have hs:j≤p.size:=by have:=b.size;have:=b.le;omega
 refine⟨(mirror_perm _ _ _ _).trans b.pm,fun k h1 h2=>?_,fun k h=>?_,b.le⟩
 ·rw[zdB hs,if_neg (by omega)];exact b.tl k h1 h2
 ·rw[zdB hs]
  split
  ·exact b.lo _ (by omega)
  ·exact b.lo _ h
theorem B.up{p:Array Nat}{m:Nat}(b:B N p m)(h:m<N):B N p (m+1):=by
 refine⟨b.pm,fun i h1 h2=>b.tl i (by omega) h2,fun i hi=>?_,h⟩
 by_cases c:i<m
 ·have:=b.lo i c;omega
 ·have e:i=m:=by omega
  rw[e,b.tl m (le_refl _) h]
  omega
theorem R.le{a b:Nat}(h:R key a b):key a≤key b:=by
 rcases h with h | h
 ·omega
 ·omega
theorem R.of{a b:Nat}(h:key a≤key b)(l:a<b):R key a b:=by
 by_cases c:key a<key b
 ·exact .inl c
 ·exact .inr ⟨by omega,l⟩
theorem I.turn{p:Array Nat}{m:Nat}(h:I key N p m):E key N (kas_rev p 0 m) m:=by
 have hs:m≤p.size:=by have:=h.1.size;have:=h.1.le;omega
 refine⟨h.1.rev (le_refl _),fun i j hij hj=>?_⟩
 rw[zdB hs,zdB hs,if_pos ⟨zero_le _,hj⟩,if_pos ⟨zero_le _,by omega⟩]
 exact h.2 _ _ (by omega) (by omega)
theorem E.turn{p:Array Nat}{m:Nat}(h:E key N p m):I key N (kas_rev p 0 m) m:=by
 have hs:m≤p.size:=by have:=h.1.size;have:=h.1.le;omega
 refine⟨h.1.rev (le_refl _),fun i j hij hj=>?_⟩
 rw[zdB hs,zdB hs,if_pos ⟨zero_le _,by omega⟩,if_pos ⟨zero_le _,hj⟩]
 exact h.2 _ _ (by omega) (by omega)
theorem D.one{p:Array Nat}{m:Nat}(h:D key N p (m+1) m):E key N p (m+1):=by
 refine⟨h.bs,fun i j hij hj=>?_⟩
 by_cases c:j<m
 ·exact h.ds i j hij c
 ·have e:j=m:=by omega
  subst e
  exact .inl (h.sp i j hij (le_refl _) (by omega))
theorem D.turn{p:Array Nat}{m b:Nat}(h:D key N p m b):E key N (kas_rev p b m) m:=by
 have hs:m≤p.size:=by have:=h.bs.size;have:=h.bs.le;omega
 have hl:=h.lt
 refine⟨h.bs.rev (le_refl _),fun i j hij hj=>?_⟩
 rw[zdB hs,zdB hs]
 by_cases c:j<b
 ·rw[if_neg (by omega),if_neg (by omega)]
  exact h.ds i j hij c
 ·rw[if_pos ⟨by omega,hj⟩]
  by_cases c2:i<b
  ·rw[if_neg (by omega)]
   exact .inl (h.sp i _ c2 (by omega) (by omega))
  ·rw[if_pos ⟨by omega,by omega⟩]
   have z:=h.bk (b+m-1-j) (b+m-1-i) (by omega) (by omega) (by omega)
   exact .inr z
theorem E.step{p:Array Nat}{m:Nat}(h:E key N p m)(h1:1≤m)(hm:m<N)(hk:key (g p m)<key (g p (m-1))):D key N p (m+1) m:=by
 refine⟨h.1.up hm,by omega,h.2,fun i j hi h2 h3=>?_,fun i j h2 h3 h4=>by omega⟩
 have e:j=m:=by omega
 subst e
 by_cases c:i=j-1
 ·subst c;exact hk
 ·have:=(h.2 i (j-1) (by omega) (by omega)).le
  omega
theorem D.same{p:Array Nat}{m b:Nat}(h:D key N p m b)(hm:m<N)(hk:key (g p m)=key (g p (m-1))):D key N p (m+1) b:=by
 have hl:=h.lt
 refine⟨h.bs.up hm,by omega,h.ds,fun i j hi h2 h3=>?_,fun i j h2 h3 h4=>?_⟩
 ·by_cases c:j<m
  ·exact h.sp i j hi h2 c
  ·have e:j=m:=by omega
   subst e
   rw[hk]
   exact h.sp i _ hi (by omega) (by omega)
 ·by_cases c:j<m
  ·exact h.bk i j h2 h3 c
  ·have e:j=m:=by omega
   subst e
   refine⟨?_,by rw[h.bs.tl j (le_refl _) hm];exact h.bs.lo i h3⟩
   rw[hk]
   by_cases c2:i=j-1
   ·rw[c2]
   ·exact(h.bk i (j-1) h2 (by omega) (by omega)).1
theorem I.up{p:Array Nat}{m:Nat}(h:I key N p m)(h1:1≤m)(hm:m<N)(hk:¬key (g p m)<key (g p (m-1))):I key N p (m+1):=by
 refine⟨h.1.up hm,fun i j hij hj=>?_⟩
 by_cases c:j<m
 ·exact h.2 i j hij c
 ·have e:j=m:=by omega
  subst e
  refine R.of ?_ (by rw[h.1.tl j (le_refl _) hm];exact h.1.lo i hij)
  by_cases c2:i=j-1
  ·rw[c2];omega
  ·have:=(h.2 i (j-1) (by omega) (by omega)).le
   omega
theorem asc{p:Array Nat}{Q:Nat→Shared→Prop}{s:Shared}:∀(f m:Nat),m+f=N→1≤m→I key N p m→(∀m',m≤m'→m'≤N→I key N p m'→(m'<N→key (g p m')<key (g p (m'-1)))→Q m' s)→(kas_asc p f m).kasWp (ck key N) Q s
 | 0,m,e,h1,h,q=>q m (le_refl _) (by omega) h (by omega)
 | f+1,m,e,h1,h,q=>by
   refine⟨h.1.lt (by omega),h.1.lt (by omega),?_⟩
   by_cases c:key (g p m)<key (g p (m-1))
   ·rw[decide_eq_true c];dsimp only;rw[if_pos rfl]
    exact q m (le_refl _) (by omega) h fun _=>c
   ·rw[decide_eq_false c];dsimp only;rw[if_neg Bool.false_ne_true]
    exact asc f (m+1) (by omega) (by omega) (h.up h1 (by omega) c) fun m' l1 l2=>q m' (by omega) l2
theorem desc{Q:Array Nat×Nat×Nat→Shared→Prop}{s:Shared}:∀(f:Nat)(p:Array Nat)(m q:Nat),m+f=N→q+1≤m→D key N p m (m-(q+1)) →
 (∀p' m' q',m'≤N→q'+1≤m'→D key N p' m' (m'-(q'+1))→Q (p',m',q') s)→(kas_desc f p m q).kasWp (ck key N) Q s
 | 0,p,m,q,e,hq,h,k=>k p m q (by omega) hq h
 | f+1,p,m,q,e,hq,h,k=>by
   refine⟨h.bs.lt (by omega),h.bs.lt (by omega),?_⟩
   by_cases c:key (g p m)<key (g p (m-1))
   ·rw[decide_eq_true c];dsimp only;rw[if_pos rfl]
    by_cases cq:q > 0
    ·rw[if_pos cq]
     refine desc f _ (m+1) 0 (by omega) (by omega) ?_ k
     have hs:m≤p.size:=by have:=h.bs.size;omega
     refine h.turn.step (by omega) (by omega) ?_
     rw[zdB hs,zdB hs,if_neg (by omega),if_pos ⟨by omega,by omega⟩]
     have z:=(h.bk (m-(q+1)) (m-1) (le_refl _) (by omega) (by omega)).1
     rw[show m-(q+1)+m-1-(m-1)=m-(q+1)by omega,z]
     exact c
    ·rw[if_neg cq]
     have e0:q=0:=by omega
     subst e0
     refine desc f _ (m+1) 0 (by omega) (by omega) ?_ k
     obtain⟨r,rfl⟩:∃r,m=r+1:=⟨m-1,by omega⟩
     exact E.step (D.one h) (by omega) (by omega) c
   ·rw[decide_eq_false c];dsimp only;rw[if_neg Bool.false_ne_true]
    refine⟨h.bs.lt (by omega),h.bs.lt (by omega),?_⟩
    by_cases d:key (g p (m-1))<key (g p m)
    ·rw[decide_eq_true d];dsimp only;rw[if_pos rfl]
     exact k p m q (by omega) hq h
    ·rw[decide_eq_false d];dsimp only;rw[if_neg Bool.false_ne_true]
     refine desc f p (m+1) (q+1) (by omega) (by omega) ?_ k
     rw[show m+1-(q+1+1)=m-(q+1)by omega]
     exact h.same (by omega) (by omega)
theorem tail3{p:Array Nat}{m:Nat}{Q:Nat×Array Nat→Shared→Prop}{s:Shared}(h1:1≤m)(h:E key N p m)(q:∀m' p',1≤m'→m'≤N→I key N p' m'→Q (m',p') s):(kas_tail3 m N p).kasWp (ck key N) Q s:=by
 unfold kas_tail3
 rw[KasT.kasWp_bind]
 have:=h.1.le
 exact asc (N-m) m (by omega) h1 h.turn fun m' l1 l2 z _=>q m' _ (by omega) l2 z
theorem zjL{p:Array Nat}{m:Nat}{Q:Nat×Array Nat→Shared→Prop}{s:Shared}(h1:1≤m)(hm:m<N)(h:E key N p m)(hk:key (g p m)<key (g p (m-1)))(q:∀m' p',1≤m'→m'≤N→I key N p' m'→Q (m',p') s):(kas_descPart m N p).kasWp (ck key N) Q s:=by
 unfold kas_descPart
 rw[KasT.kasWp_bind]
 refine desc (N-(m+1)) p (m+1) 0 (by omega) (by omega) (h.step h1 hm hk) fun p' m' q' l1 l2 d=>?_
 dsimp only
 by_cases c:q' > 0
 ·rw[if_pos c]
  exact tail3 (by omega) d.turn q
 ·rw[if_neg c]
  have e0:q'=0:=by omega
  subst e0
  obtain⟨r,rfl⟩:∃r,m'=r+1:=⟨m'-1,by omega⟩
  exact tail3 (by omega) (D.one d) q
theorem count{p:Array Nat}{Q:Nat×Array Nat→Shared→Prop}{s:Shared}(h1:1≤N)(h:I key N p 1)(q:∀m' p',1≤m'→m'≤N→I key N p' m'→Q (m',p') s):(kas_count N p).kasWp (ck key N) Q s:=by
 unfold kas_count
 rw[KasT.kasWp_bind]
 refine asc (N-1) 1 (by omega) (le_refl _) h fun m l1 l2 z hk=>?_
 by_cases c:m=N
 ·rw[if_pos (by rw[c];exact beq_self_eq_true N)]
  exact q m p l1 l2 z
 ·rw[if_neg (by intro b;exact c (eq_of_beq b))]
  have hm:m<N:=by omega
  have hk:=hk hm
  by_cases c1:m > 1
  ·rw[if_pos c1]
   refine⟨z.1.lt (by omega),z.1.lt (by omega),?_⟩
   by_cases d:key (g p 0)<key (g p (m-1))
   ·rw[decide_eq_true d];dsimp only;rw[if_pos rfl]
    exact q m p l1 l2 z
   ·rw[decide_eq_false d];dsimp only;rw[if_neg Bool.false_ne_true]
    have hs:m≤p.size:=by have:=z.1.size;omega
    refine zjL l1 hm z.turn ?_ q
    rw[zdB hs,zdB hs,if_neg (by omega),if_pos ⟨by omega,by omega⟩,show 0+m-1-(m-1)=0 by omega]
    omega
  ·rw[if_neg c1]
   have e:m=1:=by omega
   subst e
   exact zjL l1 hm ⟨z.1,fun i j a b=>by omega⟩ hk q
theorem place{p:Array Nat}{k:Nat}{Q:Nat→Shared→Prop}{s:Shared}(hk:k<N)(h:I key N p k):∀(f l r:Nat),r≤l+f→l≤r→r≤k→(∀i,i<l→key (g p i)≤key (g p k))→(∀i,r≤i→i<k→key (g p k)<key (g p i)) →
 (∀l',l'≤k→(∀i,i<l'→key (g p i)≤key (g p k))→(∀i,l'≤i→i<k→key (g p k)<key (g p i))→Q l' s)→(kas_place p k f l r).kasWp (ck key N) Q s
 | 0,l,r,e,h1,h2,a,b,q=>q l (by omega) a fun i x y=>b i (by omega) y
 | f+1,l,r,e,h1,h2,a,b,q=>by
   unfold kas_place
   by_cases c:l ≥ r
   ·rw[if_pos c]
    exact q l (by omega) a fun i x y=>b i (by omega) y
   ·rw[if_neg c]
    have h3:(l+r)/2<r:=by omega
    have h4:l≤(l+r)/2:=by omega
    generalize (l+r)/2=m at h3 h4
    refine⟨h.1.lt hk,h.1.lt (by omega),?_⟩
    by_cases d:key (g p k)<key (g p m)
    ·rw[decide_eq_true d];dsimp only;rw[if_pos rfl]
     refine place hk h f l m (by omega) h4 (by omega) a (fun i x y=>?_) q
     by_cases c2:i=m
     ·rw[c2];exact d
     ·have:=(h.2 m i (by omega) y).le
      omega
    ·rw[decide_eq_false d];dsimp only;rw[if_neg Bool.false_ne_true]
     refine place hk h f (m+1) r (by omega) (by omega) h2 (fun i x=>?_) b q
     by_cases c2:i=m
     ·rw[c2];omega
     ·have:=(h.2 i m (by omega) (by omega)).le
      omega
theorem I.put{p:Array Nat}{k l:Nat}(hk:k<N)(h:I key N p k)(hl:l≤k)(a:∀i,i<l→key (g p i)≤key (g p k))(b:∀i,l≤i→i<k→key (g p k)<key (g p i)):I key N (bubble p k (k-l)) (k+1):=by
 have hs:k<p.size:=by rw[h.1.size];exact hk
 have hg:=fun i=>g_bub hs (Nat.sub_le k l) i
 rw[show k-(k-l)=l by omega] at hg
 refine⟨⟨(bubble_perm _ _ _).trans h.1.pm,fun i h1 h2=>?_,fun i hi=>?_,hk⟩,fun i j hij hj=>?_⟩
 ·rw[hg,if_neg (by omega),if_neg (by omega)]
  exact h.1.tl i (by omega) h2
 ·rw[hg]
  by_cases c:i=l
  ·rw[if_pos c,h.1.tl k (le_refl _) hk];omega
  ·rw[if_neg c]
   by_cases c2:l<i∧i≤k
   ·rw[if_pos c2];have:=h.1.lo (i-1) (by omega);omega
   ·rw[if_neg c2];have:=h.1.lo i (by omega);omega
 ·rw[hg i,hg j]
  by_cases c1:j<l
  ·rw[if_neg (by omega),if_neg (by omega),if_neg (by omega),if_neg (by omega)]
   exact h.2 i j hij (by omega)
  ·by_cases c2:j=l
   ·rw[if_pos c2,if_neg (by omega),if_neg (by omega)]
    exact R.of (a i (by omega)) (by rw[h.1.tl k (le_refl _) hk];exact h.1.lo i (by omega))
   ·rw[if_neg c2,if_pos (show l<j∧j≤k by omega)]
    by_cases c3:i=l
    ·rw[if_pos c3]
     exact .inl (b (j-1) (by omega) (by omega))
    ·rw[if_neg c3]
     by_cases c4:i<l
     ·rw[if_neg (by omega)]
      exact h.2 i (j-1) (by omega) (by omega)
     ·rw[if_pos (by omega)]
      exact h.2 (i-1) (j-1) (by omega) (by omega)
theorem bin{Q:Array Nat→Shared→Prop}{s:Shared}(q:∀p',I key N p' N→Q p' s):∀(f:Nat)(p:Array Nat)(k:Nat),k+f=N→I key N p k→(kas_bin f p k).kasWp (ck key N) Q s
 | 0,p,k,e,h=>q p (by rw[Nat.add_zero] at e;rw[←e];rw[e] at h ⊢;exact h)
 | f+1,p,k,e,h=>by
   unfold kas_bin
   rw[KasT.kasWp_bind]
   refine place (by omega) h k 0 k (by omega) (zero_le _) (le_refl _) (fun i x=>by omega) (fun i x y=>by omega) fun l l1 a b=>?_
   exact bin q f _ (k+1) (by omega) (h.put (by omega) l1 a b)
theorem zbq(h1:1≤N):I key N (List.range N).toArray 1:=by
 have e:∀i,i<N→g (List.range N).toArray i=i:=fun i h=>by
  show(List.range N).toArray.getD i 0=i
  simp[Array.getD,h]
 exact⟨⟨Array.Perm.refl _,fun i _ h=>e i h,fun i h=>by rw[e i (by omega)];exact h,h1⟩,fun i j a b=>by omega⟩
theorem sort{Q:Array Nat→Shared→Prop}{s:Shared}(h1:1≤N)(q:∀p,I key N p N→Q p s):(kas_sort N).kasWp (ck key N) Q s:=by
 unfold kas_sort
 rw[KasT.kasWp_bind]
 refine count h1 (zbq h1) fun m p l1 l2 h=>?_
 dsimp only
 by_cases c:m<N
 ·rw[if_pos c,show max m 1=m by omega]
  exact bin q (N-m) p m (by omega) h
 ·rw[if_neg c]
  have e:m=N:=by omega
  subst e
  exact q p h
end
end M14
namespace L2
open PySem PySem.W PySem.Calls PyProof.Rows
theorem wp_cmp{α:Type}{c c':Nat→Nat→(Bool→Shared→Prop)→Shared→Prop}{Q:α→Shared→Prop}(m:∀i j C C' s,(∀b s',C b s'→C' b s')→c i j C s→c' i j C' s):
 ∀(t:KasT α)(s:Shared),t.kasWp c Q s→t.kasWp c' Q s
 | .ret _,_,h=>h
 | .ask i j k,s,h=>m i j _ _ s (fun b s' z=>wp_cmp m (k b) s' z) h
section
variable {X:Cx}{pins:List (Addr×Obj)}{σ:St}{H:Hp}{s:Shared}{a kS:Addr}{A:Around}{E:Value→Shared→Prop}
structure Own (X:Cx) (pins:List (Addr×Obj)) (H:Hp) (a:Addr):Prop where
 free:H a=none
 loc:a≠X.env.locals
 new:X.s₀.heap.objs.size≤a
 cell:∀x c,X.env.cells.lookup x=some c→c≠a
 pin:∀p∈X.pn++pins,p.1≠a
 fs:a∉X.fs
theorem Inv.own(I:Inv X pins σ H s){b:Addr}(h:s.heap.objs.size≤b):Own X pins H b:=by
 refine⟨I.hok.fresh h,fun z=>?_,le_trans I.sz h,fun x c e z=>?_,fun p hp z=>?_,I.nofs h⟩
 ·have:=I.lt;rw[←z] at this;exact absurd this (Nat.not_lt.mpr h)
 ·obtain⟨v,hv⟩:=I.cell x c e
  obtain⟨o,ho,_⟩:=hv
  have:=lt_size ho
  rw[z] at this
  exact absurd this (Nat.not_lt.mpr h)
 ·have:=lt_size (I.pin p hp).1
  rw[z] at this
  exact absurd this (Nat.not_lt.mpr h)
theorem Inv.swap{f:Obj→Obj}(I:Inv X pins σ H s)(o:Own X pins H a):Inv X pins σ H { s with heap:=s.heap.update a f } :=
 I.turned (it:=a) (fun b u hb hu=>(get?_update_other s.heap f (Ne.symm hb)).trans hu) o.free o.loc (.inr o.new) o.cell o.pin
theorem Inv.hold{u:Obj}(I:Inv X pins σ H s)(o:Own X pins H a)(e:s.heap.get? a=some u)(hu:∀v,u.data ≠ .cell v):Inv X ((a,u)::pins) σ H s :=
 I.pins_of fun p hp=>by
  rcases List.mem_cons.mp hp with rfl | hp
  ·exact⟨e,o.free,o.loc,o.fs,hu⟩
  ·exact I.pin p (mem_append_right _ hp)
theorem Inv.drop{p:Addr×Obj}(I:Inv X (p::pins) σ H s):Inv X pins σ H s :=
 I.pins_of fun q hq=>I.pin q (mem_append_right _ (mem_cons_of_mem _ hq))
theorem Inv.held{u:Obj}(I:Inv X ((a,u)::pins) σ H s):s.heap.get? a=some u:=(I.pin (a,u) (mem_append_right _ (mem_cons_self ..))).1
theorem Own.more{u:Obj}(o:Own X pins H a)(h:kS≠a):Own X ((kS,u)::pins) H a :=
 ⟨o.free,o.loc,o.new,o.cell,fun p hp=>by
  rcases List.mem_append.mp hp with z | z
  ·exact o.pin p (mem_append_left _ z)
  ·rcases List.mem_cons.mp z with rfl | z
   ·exact h
   ·exact o.pin p (mem_append_right _ z),o.fs⟩
theorem nocell{vs:Array Value}{n:Nat}:∀v,(seqObj "list" vs n).data ≠ .cell v:=fun v z=>by cases z
theorem zfF:∀{ks:List Value}{kz:List Int},IntsAre ks kz→∀i,i<kz.length→∃t,ks.getD i Value.none=Value.int (kz.getD i 0) t
 | _,_,.cons n t r,0,_=>⟨t,rfl⟩
 | _,_,.cons n t r,i+1,h=>zfF r i (by simpa using h)
theorem zjv{vs:List Value}{kz:List Int}{e1:Nat}{body:Value→PUnit→Sem (ForInStep PUnit)}(hl:kz.length=vs.length)
 (hb:∀(v:Value)(ks:List Value)(e:Nat)(s:Shared),vs[ks.length]? = some v→Inv X ((kS,seqObj "list" ks.toArray e)::(a,seqObj "list" #[] e1)::pins) σ H s→IntsAre ks (kz.take ks.length) →
   wpAny (model X.prog X.w) A (body v ⟨⟩) (fun r s'=>r=.yield ⟨⟩∧∃(k:Value)(e':Nat),Inv X ((kS,seqObj "list" (ks++[k]).toArray e')::(a,seqObj "list" #[] e1)::pins) σ H s'∧IntsAre (ks++[k]) (kz.take (ks++[k]).length)) E s) :
 ∀(r:List Value)(ks:List Value)(e:Nat)(s:Shared),vs.drop ks.length=r→ks.length≤vs.length→Inv X ((kS,seqObj "list" ks.toArray e)::(a,seqObj "list" #[] e1)::pins) σ H s→IntsAre ks (kz.take ks.length) →
  wpAny (model X.prog X.w) A (forIn r PUnit.unit body) (fun _ s'=>∃(ks:List Value)(e:Nat),Inv X ((kS,seqObj "list" ks.toArray e)::(a,seqObj "list" #[] e1)::pins) σ H s'∧IntsAre ks kz) E s
 | [],ks,e,s,hd,hz,I,hi=>by
   rw[forIn_nil]
   have:vs.length≤ks.length:=by
    have:=congrArg List.length hd
    rw[length_drop,length_nil] at this
    omega
   refine wpAny_pure ⟨ks,e,I,?_⟩
   rw[take_of_length_le (by omega)] at hi
   exact hi
 | v::r,ks,e,s,hd,hz,I,hi=>by
   rw[forIn_cons]
   have hv:vs[ks.length]? = some v:=by
    have:=congrArg List.head? hd
    rw[List.head?_drop] at this
    exact this
   have hlt:ks.length<vs.length:=(List.getElem?_eq_some_iff.mp hv).1
   refine wpAny_bind (wpAny_mono (hb v ks e s hv I hi) (fun q s' hq=>?_) fun _ _ x=>x)
   obtain⟨rfl,k,e',I',hi'⟩:=hq
   show wpAny (model X.prog X.w) A (forIn r PUnit.unit body) _ E s'
   have hlen:(ks++[k]).length=ks.length+1:=by rw[length_append,length_singleton]
   refine zjv hl hb r (ks++[k]) e' s' ?_ (by omega) I' hi'
   rw[hlen,←List.drop_drop,hd]
   rfl
theorem key_tail{st:SortSt}{ks out:List Value}{e e1:Nat}(I:Inv X ((kS,seqObj "list" ks.toArray e)::(a,seqObj "list" #[] e1)::pins) σ H s)(o:Own X pins H a)(ok:Own X pins H kS)(hka:kS≠a)(hz:ks.length<64)(hz2:out.length<64)
 (ho:(arrOf st).map (·.2)=List.toArray out) (hf:failedOf st=none) :
 wpAny (model X.prog X.w) A (ksk_tail a false e1 (.ref kS) st) (fun r s'=>r=.done (.ret .none)∧Inv X pins σ H s'∧∃e,s'.heap.get? a=some (seqObj "list" out.toArray e)) E s:=by
 have hln:=zr
 have hk:=I.held
 have ha:=I.drop.held
 have I1:=I.drop.drop.swap (f:=Obj.mapSeq fun _=>(#[]:Array Value)) ok
 have ha1:(s.heap.update kS (Obj.mapSeq fun _=>(#[]:Array Value))).get? a=some (seqObj "list" #[] e1):=(get?_update_other s.heap _ hka).trans ha
 have I2:=I1.swap (f:=Obj.mapSeq fun _=>out.toArray) o
 obtain⟨c2,hc2⟩:∃c2,((s.heap.update kS (Obj.mapSeq fun _=>(#[]:Array Value))).update a (Obj.mapSeq fun _=>out.toArray)).get? a=some (seqObj "list" out.toArray c2):=⟨_,get?_update_seq ha1 fun _=>out.toArray⟩
 unfold ksk_tail
 try dsimp only
 rw[ho]
 refine wpAny_bind (listUpdate_at hk rfl ?_ (by rw[size_toArray];omega) (zero_le _))
 refine wpAny_bind (wpAny_letGo ?_)
 refine wpAny_bind (seqEpoch_at ha1 rfl ?_)
 simp only[Bool.false_eq_true,if_false]
 refine wpAny_bind (listUpdate_at ha1 rfl ?_ (zero_le _) (by rw[size_toArray];omega))
 rw[hf]
 simp only[bne_self_eq_false,Bool.false_eq_true,if_false]
 exact wpAny_pure ⟨rfl,I2,c2,hc2⟩
theorem keyed{f:Value}{vs:List Value}{n:Nat}{kz:List Int}(I:Inv X pins σ H s)(o:Own X pins H a)(ho:s.heap.get? a=some (seqObj "list" vs.toArray n))(h1:1≤vs.length)(h64:vs.length<64)(hl:kz.length=vs.length)
 (calls:∀(i:Nat)(v:Value)(pins':List (Addr×Obj)) (s':Shared),vs[i]? = some v→Inv X pins' σ H s'→wpAny (model X.prog X.w) A (call f [v]) (fun k s''=>Inv X pins' σ H s''∧∃t,k=Value.int (kz.getD i 0) t) (fun _ _=>False) s') :
 wpAny (model X.prog X.w) A (ksk_tree a f false) (fun r s'=>r=.done (.ret .none)∧∃(p:Array Nat)(e:Nat),M14.I (fun k=>kz.getD k 0) vs.length p vs.length∧Inv X pins σ H s'∧s'.heap.get? a=some (seqObj "list" (p.toList.map fun i=>vs.getD i Value.none).toArray e)) E s:=by
 have hln:=zr
 have ha:a<s.heap.objs.size:=lt_size ho
 have I1:=I.swap (f:=Obj.mapSeq fun _=>(#[]:Array Value)) o
 obtain⟨e1,ho1⟩:∃e1,(s.heap.update a (Obj.mapSeq fun _=>(#[]:Array Value))).get? a=some (seqObj "list" #[] e1):=⟨_,get?_update_seq ho fun _ => #[]⟩
 unfold ksk_tree
 refine wpAny_bind (listItems_at ho rfl ?_)
 refine wpAny_bind (listUpdate_at ho rfl ?_ (by rw[size_toArray];omega) (zero_le _))
 refine wpAny_bind (seqEpoch_at ho1 rfl ?_)
 refine wpAny_bind (wpAny_newTuple ?_ (by show vs.length≤_;omega))
 refine wpAny_bind (wpAny_newList ?_ (zero_le _))
 refine wpAny_holding ?_
 have I2:Inv X pins σ H { s with heap:=(s.heap.update a (Obj.mapSeq fun _=>(#[]:Array Value))).push (seqObj "tuple" vs.toArray 0) }:=I1.kept (t':=s.toks) fun b u q=>get?_push_of_some _ q
 have I3:Inv X pins σ H { s with heap:=((s.heap.update a (Obj.mapSeq fun _=>(#[]:Array Value))).push (seqObj "tuple" vs.toArray 0)).push (seqObj "list" #[] 0) }:=I2.kept (t':=s.toks) fun b u q=>get?_push_of_some _ q
 have ok:=I2.own (b:=((s.heap.update a (Obj.mapSeq fun _=>(#[]:Array Value))).push (seqObj "tuple" vs.toArray 0)).objs.size) (le_refl _)
 have hka:((s.heap.update a (Obj.mapSeq fun _=>(#[]:Array Value))).push (seqObj "tuple" vs.toArray 0)).objs.size≠a:=by
  rw[size_push',size_update]
  exact ne_of_gt (lt_succ_of_lt ha)
 have hk0:(((s.heap.update a (Obj.mapSeq fun _=>(#[]:Array Value))).push (seqObj "tuple" vs.toArray 0)).push (seqObj "list" #[] 0)).get? ((s.heap.update a (Obj.mapSeq fun _=>(#[]:Array Value))).push (seqObj "tuple" vs.toArray 0)).objs.size=some (seqObj "list" #[] 0):=get?_push_size _ rfl
 have ha0:(((s.heap.update a (Obj.mapSeq fun _=>(#[]:Array Value))).push (seqObj "tuple" vs.toArray 0)).push (seqObj "list" #[] 0)).get? a=some (seqObj "list" #[] e1):=get?_push_of_some _ (get?_push_of_some _ ho1)
 show wpAny _ _ (ksk_rest a f false vs.toArray e1 (.ref ((s.heap.update a (Obj.mapSeq fun _=>(#[]:Array Value))).push (seqObj "tuple" vs.toArray 0)).objs.size)) _ _ { s with heap:=((s.heap.update a (Obj.mapSeq fun _=>(#[]:Array Value))).push (seqObj "tuple" vs.toArray 0)).push (seqObj "list" #[] 0) }
 generalize ((s.heap.update a (Obj.mapSeq fun _=>(#[]:Array Value))).push (seqObj "tuple" vs.toArray 0)).objs.size=kS at ok hka hk0
 generalize ((s.heap.update a (Obj.mapSeq fun _=>(#[]:Array Value))).push (seqObj "tuple" vs.toArray 0)).push (seqObj "list" #[] 0)=h3 at I3 hk0 ha0
 clear I1 I2 ho1
 have ok':∀e,Own X ((a,seqObj "list" #[] e)::pins) H kS:=fun e=>ok.more (Ne.symm hka)
 have I4:=(I3.hold o ha0 nocell).hold (ok' e1) hk0 nocell
 unfold ksk_rest
 refine wpAny_bind (wpAny_rule ?_)
 rw[forIn_toArray]
 refine wpAny_bind (wpAny_mono (zjv (kz:=kz) (vs:=vs) hl (fun v ks e s' hv I5 hi=>?_) vs [] 0 _ rfl (zero_le _) I4 .nil) (fun _ s' hd=>?_) fun _ _ x=>x)
 ·refine wpAny_bind (wpAny_attempt (wpAny_mono (calls ks.length v _ s' hv I5) (fun k s'' hk=>?_) fun _ _ hF=>hF.elim))
  obtain⟨I6,t,rfl⟩:=hk
  dsimp only
  have hlt:ks.length<vs.length:=(List.getElem?_eq_some_iff.mp hv).1
  have hk6:=I6.held
  obtain⟨c2,hc2⟩:∃c2,(s''.heap.update kS (Obj.mapSeq (·.push (Value.int (kz.getD ks.length 0) t)))).get? kS=some (seqObj "list" (ks++[Value.int (kz.getD ks.length 0) t]).toArray c2) :=
   ⟨_,by rw[show(ks++[Value.int (kz.getD ks.length 0) t]).toArray=ks.toArray.push (Value.int (kz.getD ks.length 0) t)by simp];exact get?_update_seq hk6 (·.push _)⟩
  refine wpAny_bind (listUpdate_at hk6 rfl ?_ (by rw[size_toArray];omega) (by rw[Array.size_push,size_toArray];omega))
  exact wpAny_pure ⟨rfl,_,c2,(I6.drop.swap (ok' e1)).hold (ok' e1) hc2 nocell,by rw[length_append,length_singleton,List.take_add_one];exact hi.append (by rw[getElem?_eq_getElem (by omega),getD_eq_getElem?_getD,getElem?_eq_getElem (by omega)];exact .cons _ t .nil)⟩
 ·obtain⟨ks,e,I7,hi⟩:=hd
  have hk7:=I7.held
  have I8:=I7.drop
  have ha8:=I8.held
  have hkl:ks.length=vs.length:=by rw[hi.length,hl]
  refine wpAny_bind (listItems_at hk7 rfl ?_)
  have fin:∀(st:SortSt)(p:Array Nat),M14.I (fun k=>kz.getD k 0) vs.length p vs.length→arrOf st=p.map (kas_item (ks.toArray.zip vs.toArray))→failedOf st=none →
   wpAny (model X.prog X.w) A (ksk_tail a false e1 (.ref kS) st) (fun r s'=>r=.done (.ret .none)∧∃(p:Array Nat)(e:Nat),M14.I (fun k=>kz.getD k 0) vs.length p vs.length∧Inv X pins σ H s'∧s'.heap.get? a=some (seqObj "list" (p.toList.map fun i=>vs.getD i Value.none).toArray e)) E s':=fun st p hp har hf =>
   wpAny_mono (key_tail (out:=p.toList.map fun i=>vs.getD i Value.none) I7 o ok hka (by omega) (by rw[length_map,Array.length_toList,hp.1.size];exact h64) (kat_snds hkl har) hf) (fun r s2 z=>⟨z.1,p,_,hp,z.2.1,z.2.2.choose_spec⟩) fun _ _ x=>x
  unfold ksk_end
  simp only[Bool.false_eq_true,if_false]
  by_cases h2:vs.length<2
  ·have hs2:vs.toArray.size<2:=by rw[size_toArray];exact h2
   rw[if_pos hs2,if_pos hs2]
   refine wpAny_bind (wpAny_pure ?_)
   refine wpAny_bind (wpAny_pure ?_)
   have hN:vs.length=1:=by omega
   have z:∀m,m=1→M14.I (fun k=>kz.getD k 0) vs.length (List.range vs.length).toArray m:=fun m e=>by rw[e];exact M14.zbq h1
   refine fin _ _ (z _ hN) ?_ rfl
   have e:=kas_range (ks.toArray.zip vs.toArray)
   rw[show(ks.toArray.zip vs.toArray).size=vs.length by simp[hkl]] at e
   exact e.symm
  ·have hs2:¬vs.toArray.size<2:=by rw[size_toArray];exact h2
   rw[if_neg hs2,if_neg hs2,ksk_kind (kz:=kz) (by simpa using hi) (by rw[size_toArray];omega)]
   refine wpAny_bind (wpAny_pure ?_)
   have ask:(kas_sort vs.length).kasWp (kas_ask X.prog X.w A oneType' ks) (fun p s2=>M14.I (fun k=>kz.getD k 0) vs.length p vs.length∧s2=s') s':=by
    refine wp_cmp (c:=M14.ck (fun k=>kz.getD k 0) vs.length) (fun i j C C' s0 m h=>?_) _ _ (M14.sort h1 fun p hp=>⟨hp,rfl⟩)
    obtain⟨hi1,hj1,hc⟩:=h
    obtain⟨t,et⟩:=zfF hi i (by omega)
    obtain⟨u,eu⟩:=zfF hi j (by omega)
    unfold kas_ask
    rw[et,eu]
    exact kat_lt_int (m _ _ hc)
   refine wpAny_bind (wpAny_mono (kat_run (Q:=fun st' s2=>∃p:Array Nat,M14.I (fun k=>kz.getD k 0) vs.length p vs.length∧arrOf st'=p.map (kas_item (ks.toArray.zip vs.toArray))∧failedOf st'=none∧s2=s') hkl (by omega) h64 (fun p' st' s2 a1 a2 a3 a4=>⟨p',a4.1,a2,a3,a4.2⟩) ask) ?_ fun _ _ x=>x)
   rintro ⟨⟨⟩,st'⟩ s2 ⟨p,hp,har,hf,rfl⟩
   exact fin _ _ hp har hf
end
end L2
namespace L2
open PySem PySem.W
abbrev zhA(h:Heap)(z TI TO T:Addr)(b:Bool):Prop :=
 h.get? z=some { cls:=.type "zip",dict:=none,data:=.fields #[rawInt T,.bool b,.bool false,.ref TI,.ref TO],slots := #[] }
section
variable {P:Program}{w:World}{A:Around}{E:Value→Shared→Prop}{s:Shared}{z TI TO T i1 i2 l1 l2:Addr}{b:Bool}
theorem zjz{Q:Bool→Shared→Prop}(hz:zhA s.heap z TI TO T b)(hT:∃o,s.heap.get? T=some o)(q:∀h',zhA h' z TI TO T true→SameBut z s.heap h'→Q false { s with heap:=h' }):
 wpAny (model P w) A (Builtin.SmallTypes.ownedTupleIsFree (.ref z)) Q E s:=by
 obtain⟨o,ho⟩:=hT
 unfold Builtin.SmallTypes.ownedTupleIsFree
 refine wpAny_bind (wpAny_field hz rfl (x:=rawInt T) rfl ?_)
 show wpAny _ _ (loadIfAlive ((T:Int).toNat) >>= _) _ _ _
 rw[Int.toNat_natCast]
 refine wpAny_bind (kdx_alive ho ?_)
 simp only[Option.isNone_some,if_false,Bool.false_eq_true]
 refine wpAny_bind (wpAny_field hz rfl (x:=.bool b) rfl ?_)
 cases b with
 | true =>
   rw[if_neg (show ¬((Value.bool true != Value.bool true)=true)by decide)]
   exact wpAny_pure (q _ hz (Heap.SameBut.refl _ _))
 | false =>
   rw[if_pos (show(Value.bool false != Value.bool true)=true by decide)]
   exact wpAny_bind (wpAny_setField_rec hz (by simp) fun h₃ e₃ s₃=>wpAny_pure (q h₃ e₃ s₃))
theorem zip_busy{k1 k2:Nat}{xs ys:Array Value}{x y:Value}{Q:Value→Shared→Prop}(D:ZipApart z TI TO i1 i2 l1 l2)(hz:zhA s.heap z TI TO T b)(hT:∃o,s.heap.get? T=some o)(hTI:IsPair s.heap TI (.ref i1) (.ref i2))
 (h1:s.heap.IsListIter i1 l1 k1) (h2:s.heap.IsListIter i2 l2 k2) (hl1:s.heap.IsList l1 xs) (hl2:s.heap.IsList l2 ys) (hx:xs[k1]? = some x) (hy:ys[k2]? = some y)
 (q:∀h',zhA h' z TI TO T true→h'.IsListIter i1 l1 (k1+1)→h'.IsListIter i2 l2 (k2+1)→IsPair h' s.heap.objs.size x y→h'.objs.size=s.heap.objs.size+1 →
   (∀c o,c≠z→c≠i1→c≠i2→s.heap.get? c=some o→h'.get? c=some o)→Q (.ref s.heap.objs.size) { s with heap:=h' }) :
 wpAny (model P w) A (Builtin.«zip.__next__» ⟨[.ref z],[]⟩) (fun r s'=>∃v,r=.done (.ret v)∧Q v s') E s:=by
 show wpAny (model P w) A (field (.ref z) 2 >>= _) _ _ _
 refine wpAny_bind (wpAny_field hz (x:=.bool false) rfl rfl ?_)
 show wpAny (model P w) A (field (.ref z) 3 >>= _) _ _ _
 refine wpAny_bind (wpAny_field hz (x:=.ref TI) rfl rfl ?_)
 refine wpAny_bind (wpAny_seqItems hTI rfl ?_)
 show wpAny (model P w) A (Builtin.SmallTypes.ownedTupleIsFree (.ref z) >>= _) _ _ _
 refine wpAny_bind (zjz hz hT fun h₁ z₁ s₁=>?_)
 simp only[if_false,Bool.false_eq_true]
 rw[show(#[Value.ref i1,Value.ref i2]:Array Value)=[Value.ref i1,Value.ref i2].toArray from rfl,forIn_toArray]
 simp only[forIn_cons,forIn_nil]
 refine wpAny_bind (wpAny_bind (wpAny_bind (wpAny_holding ?_)))
 show wpAny (model P w) A (Builtin.SmallTypes.nextOf (.ref i1) >>= _) _ _ _
 refine wpAny_bind (wpAny_nextOf_list_item (h1.extBut s₁.extBut D.i1z) (hl1.extBut s₁.extBut D.l1z) hx fun h₂ a₂ s₂=>wpAny_pure (wpAny_pure ?_))
 refine wpAny_bind (wpAny_bind (wpAny_holding ?_))
 show wpAny (model P w) A (Builtin.SmallTypes.nextOf (.ref i2) >>= _) _ _ _
 refine wpAny_bind (wpAny_nextOf_list_item ((h2.extBut s₁.extBut D.i2z).extBut s₂.extBut D.i12.symm) ((hl2.extBut s₁.extBut D.l2z).extBut s₂.extBut D.l2i1) hy fun h₃ a₃ s₃=>wpAny_pure (wpAny_pure (wpAny_pure ?_)))
 refine wpAny_bind (wpAny_newTuple (wpAny_pure ⟨_,rfl,?_⟩) (by show 2≤sizeLine;decide))
 have hsz:h₃.objs.size=s.heap.objs.size:=by rw[s₃.1,s₂.1,s₁.1]
 show Q (.ref h₃.objs.size) _
 rw[hsz]
 have up:∀c o,h₃.get? c=some o→(h₃.push { cls:=.type "tuple",data:=.seq #[x,y] }).get? c=some o:=fun c o e=>get?_push_of_some _ e
 refine q _ (up _ _ (s₃.extBut _ _ D.i2z.symm (s₂.extBut _ _ D.i1z.symm z₁))) ?_ ?_ ?_ ?_ fun c o c1 c2 c3 e=>up _ _ (s₃.extBut _ _ c3 (s₂.extBut _ _ c2 (s₁.extBut _ _ c1 e)))
 ·exact(a₂.extBut s₃.extBut D.i12).at fun o e=>up _ o e
 ·exact a₃.at fun o e=>up _ o e
 ·rw[←hsz];exact get?_push_size _ rfl
 ·exact(size_push ..).trans (by rw[hsz])
theorem zip_over{k1 k2:Nat}{xs ys:Array Value}{Q:Fin→Shared→Prop}(hh:A.handled=none)(D:ZipApart z TI TO i1 i2 l1 l2)(hz:zhA s.heap z TI TO T b)(hT:∃o,s.heap.get? T=some o)(hTI:IsPair s.heap TI (.ref i1) (.ref i2))
 (h1:s.heap.IsListIter i1 l1 k1) (hl1:s.heap.IsList l1 xs) (hx:xs[k1]? = none)
 (q:∀h' e,(∀c o,c≠z→c≠i1→c≠i2→s.heap.get? c=some o→h'.get? c=some o)→(∃o,h'.get? e=some o∧o.cls=.type "StopIteration")→E (.ref e) { s with heap:=h' }) :
 wpAny (model P w) A (Builtin.«zip.__next__» ⟨[.ref z],[]⟩) Q E s:=by
 show wpAny (model P w) A (field (.ref z) 2 >>= _) _ _ _
 refine wpAny_bind (wpAny_field hz (x:=.bool false) rfl rfl ?_)
 show wpAny (model P w) A (field (.ref z) 3 >>= _) _ _ _
 refine wpAny_bind (wpAny_field hz (x:=.ref TI) rfl rfl ?_)
 refine wpAny_bind (wpAny_seqItems hTI rfl ?_)
 show wpAny (model P w) A (Builtin.SmallTypes.ownedTupleIsFree (.ref z) >>= _) _ _ _
 refine wpAny_bind (zjz hz hT fun h₁ z₁ s₁=>?_)
 simp only[if_false,Bool.false_eq_true]
 rw[show(#[Value.ref i1,Value.ref i2]:Array Value)=[Value.ref i1,Value.ref i2].toArray from rfl,forIn_toArray]
 simp only[forIn_cons,forIn_nil]
 refine wpAny_bind (wpAny_bind (wpAny_bind (wpAny_holding ?_)))
 show wpAny (model P w) A (Builtin.SmallTypes.nextOf (.ref i1) >>= _) _ _ _
 refine wpAny_bind (wpAny_nextOf_list_end hh (h1.extBut s₁.extBut D.i1z) (hl1.extBut s₁.extBut D.l1z) hx fun h₂ e s₂ he=>?_)
 exact q h₂ e (fun c o c1 c2 _ x=>s₂ _ _ c2 (s₁.extBut _ _ c1 x)) he
theorem next_busy{k1 k2:Nat}{xs ys:Array Value}{x y:Value}{Q:Option Value→Shared→Prop}(D:ZipApart z TI TO i1 i2 l1 l2)(hz:zhA s.heap z TI TO T b)(hT:∃o,s.heap.get? T=some o)(hTI:IsPair s.heap TI (.ref i1) (.ref i2))
 (h1:s.heap.IsListIter i1 l1 k1) (h2:s.heap.IsListIter i2 l2 k2) (hl1:s.heap.IsList l1 xs) (hl2:s.heap.IsList l2 ys) (hx:xs[k1]? = some x) (hy:ys[k2]? = some y)
 (q:∀h',zhA h' z TI TO T true→h'.IsListIter i1 l1 (k1+1)→h'.IsListIter i2 l2 (k2+1)→IsPair h' s.heap.objs.size x y→h'.objs.size=s.heap.objs.size+1 →
   (∀c o,c≠z→c≠i1→c≠i2→s.heap.get? c=some o→h'.get? c=some o)→Q (some (.ref s.heap.objs.size)) { s with heap:=h' }) :
 wpAny (model P w) A (pyNext (.ref z)) Q E s:=by
 have t:s.TypeIs (.ref z) "zip":=⟨_,hz,rfl⟩
 unfold pyNext
 exact wpAny_bind (wpAny_attempt (wpAny_callSpecial?_slot (name:=Str.ofString "__next__") t F.slot_zip_next (wpAny_call_entry F.slot_zip_next t F.entry_zip_next
  (zip_busy D hz hT hTI h1 h2 hl1 hl2 hx hy fun h' a1 a2 a3 a4 a5 a6=>wpAny_pure (q h' a1 a2 a3 a4 a5 a6)) (F.args_zip_next_1 _))))
theorem next_over{k1:Nat}{xs:Array Value}{Q:Option Value→Shared→Prop}(hh:A.handled=none)(D:ZipApart z TI TO i1 i2 l1 l2)(hz:zhA s.heap z TI TO T b)(hT:∃o,s.heap.get? T=some o)(hTI:IsPair s.heap TI (.ref i1) (.ref i2))
 (h1:s.heap.IsListIter i1 l1 k1) (hl1:s.heap.IsList l1 xs) (hx:xs[k1]? = none)
 (q:∀h',(∀c o,c≠z→c≠i1→c≠i2→s.heap.get? c=some o→h'.get? c=some o)→Q none { s with heap:=h' }):wpAny (model P w) A (pyNext (.ref z)) Q E s:=by
 have t:s.TypeIs (.ref z) "zip":=⟨_,hz,rfl⟩
 unfold pyNext
 refine wpAny_bind (wpAny_attempt (wpAny_callSpecial?_slot (name:=Str.ofString "__next__") t F.slot_zip_next (wpAny_call_entry F.slot_zip_next t F.entry_zip_next
  (zip_over (k2:=0) (ys := #[]) hh D hz hT hTI h1 hl1 hx fun h' e k he=>?_) (F.args_zip_next_1 _))))
 obtain⟨o,ho,hc⟩:=he
 exact wpAny_bind (wpAny_isInstance (T:= "StopIteration") (b:=true) ⟨o,ho,hc⟩ isSubtype_stop (wpAny_pure (q _ k)))
def ZSt(z TI TO i1 i2 l1 l2:Addr)(xs ys:Array Value)(i:Nat)(s:Shared):Prop :=
 IsPair s.heap TI (.ref i1) (.ref i2)∧s.heap.IsListIter i1 l1 i∧s.heap.IsListIter i2 l2 i∧s.heap.IsList l1 xs∧s.heap.IsList l2 ys ∧
  ((i=0∧IsZip s.heap z TI TO .none∧∃a b,IsPair s.heap TO a b)∨(0<i∧∃(T:Addr)(b:Bool),zhA s.heap z TI TO T b∧∃o,s.heap.get? T=some o))
end
end L2
namespace L2
open PySem PySem.W PyProof.Rows
section
variable {X:Cx}{pins:List (Addr×Obj)}{σ:St}{H:Hp}{s:Shared}{h':Heap}{t':Nat}{ch:List Addr}
theorem Inv.moved(I:Inv X pins σ H s)(o:∀c∈ch,Own X pins H c)(k:∀b u,b∉ch→s.heap.get? b=some u→h'.get? b=some u):Inv X pins σ H { s with heap:=h',toks:=t' }:=by
 have nit:∀b u,H b=some u→b∉ch:=fun b u e z=>by rw[(o b z).free] at e;cases e
 have nL:X.env.locals∉ch:=fun z=>(o _ z).loc rfl
 refine I.step (g':=s.gens) (d':=s.drawn) (ch:=ch) (fun b hb=>⟨.inr (o b hb).new,(o b hb).loc,(o b hb).cell,(o b hb).pin⟩) (fun b u _ _ hc e _=>k b u hc e) (fun b u _ _ hc e _=>⟨u.slots,k b u hc e⟩)
  (fun _ _ _ _ n=>n) (fun b u hc e=>⟨u,k b u hc e⟩) (fun _ _ e=>e) (fun _ _ _ e=>e) (fun b ps e=>⟨#[],by rw[e];simp⟩) (fun m hm=>?_) (fun b u e=>?_) I.bare
 ·obtain⟨ob,es,ep,ho,r⟩:=hm
  exact⟨ob,es,ep,k _ ob nL ho,r⟩
 ·refine(I.hok b u e).stay (fun c v hc q=>k c v ?_ q) (fun _ q=>q) fun _ _ q=>q
  rcases hc with z | z
  ·rw[z];exact nit b u e
  ·exact nit c _ z
theorem Inv.movedT{T:Addr}{v:HO}(I:Inv X pins σ H s)(o:∀c∈ch,Own X pins H c)(k:∀b u,b∉ch→s.heap.get? b=some u→h'.get? b=some u)(hT:s.heap.objs.size≤T)(new:ObjOk X.prog X.w (upd H T v) h' T v):
 Inv X pins σ (upd H T v) { s with heap:=h',toks:=t' }:=by
 have hf:H T=none:=I.hok.fresh hT
 have nit:∀b u,H b=some u→b∉ch:=fun b u e z=>by rw[(o b z).free] at e;cases e
 have nL:X.env.locals∉ch:=fun z=>(o _ z).loc rfl
 have up:∀b u,H b=some u→upd H T v b=some u:=fun b u e=>by rw[zi (zj e hf)];exact e
 refine I.step (g':=s.gens) (d':=s.drawn) (ch:=ch) (fun b hb=>⟨.inr (o b hb).new,(o b hb).loc,(o b hb).cell,(o b hb).pin⟩) (fun b u _ _ hc e _=>k b u hc e) (fun b u _ _ hc e _=>⟨u.slots,k b u hc e⟩)
  (fun b u _ e n=>?_) (fun b u hc e=>⟨u,k b u hc e⟩) (fun b _ e=>up b _ e) (fun b _ _ e=>up b _ e) (fun b ps e=>⟨#[],by rw[up b _ e];simp⟩) (fun m hm=>?_) (fun b u e=>?_) I.bare
 ·rw[zi (fun z=>by rw[z] at e;exact absurd (lt_size e) (Nat.not_lt.mpr hT))];exact n
 ·obtain⟨ob,es,ep,ho,r⟩:=hm
  exact⟨ob,es,ep,k _ ob nL ho,r⟩
 ·by_cases hb:b=T
  ·subst hb
   rw[zd] at e
   cases e
   exact new
  ·rw[zi hb] at e
   refine(I.hok b u e).stay (fun c w hc q=>k c w ?_ q) (fun c q=>up c _ q) fun c _ q=>up c _ q
   rcases hc with z | z
   ·rw[z];exact nit b u e
   ·exact nit c _ z
theorem Own.upd{c T:Addr}{v:HO}(o:Own X pins H c)(h:c≠T):Own X pins (upd H T v) c:=⟨by rw[zi h];exact o.free,o.loc,o.new,o.cell,o.pin,o.fs⟩
variable {A:Around}{E:Value→Shared→Prop}{z TI TO i1 i2 l1 l2 S:Addr}{xs ys:List Value}{xv yv:List V}
theorem zip_item{i:Nat}{x y:Value}{vx vy:V}{Q:Option Value→Shared→Prop}(I:Inv X pins σ H s)(o:∀c ∈ [z,TO,i1,i2],Own X pins H c)(D:ZipApart z TI TO i1 i2 l1 l2)(st:ZSt z TI TO i1 i2 l1 l2 xs.toArray ys.toArray i s)
 (hx:xs[i]? = some x) (hy:ys[i]? = some y) (rx:RelV vx x) (ry:RelV vy y)
 (q:∀s',Inv X pins σ (L2.upd H s.heap.objs.size (.tup [vx,vy])) s'→ZSt z TI TO i1 i2 l1 l2 xs.toArray ys.toArray (i+1) s'→(∀b u,b ∉ [z,TO,i1,i2]→s.heap.get? b=some u→s'.heap.get? b=some u)→s'.heap.objs.size=s.heap.objs.size+1→Q (some (.ref s.heap.objs.size)) s') :
 wpAny (model X.prog X.w) A (pyNext (.ref z)) Q E s:=by
 obtain⟨hTI,h1,h2,hl1,hl2,hz⟩:=st
 have hx':xs.toArray[i]? = some x:=by simpa using hx
 have hy':ys.toArray[i]? = some y:=by simpa using hy
 have nTI:TI ∉ [z,TO,i1,i2]:=by simp[D.TIz,D.TITO,D.TIi1,D.TIi2]
 have n1:l1 ∉ [z,TO,i1,i2]:=by simp[D.l1z,D.l1TO,D.l1i1,D.l1i2]
 have n2:l2 ∉ [z,TO,i1,i2]:=by simp[D.l2z,D.l2TO,D.l2i1,D.l2i2]
 have fin:∀(h':Heap)(b:Bool)(T:Addr),zhA h' z TI TO T b→(∃u,h'.get? T=some u)→h'.IsListIter i1 l1 (i+1)→h'.IsListIter i2 l2 (i+1)→IsPair h' s.heap.objs.size x y→h'.objs.size=s.heap.objs.size+1 →
  (∀c u,c ∉ [z,TO,i1,i2]→s.heap.get? c=some u→h'.get? c=some u)→Q (some (.ref s.heap.objs.size)) { s with heap:=h' }:=fun h' b T b1 b2 b3 b4 b5 b6 k=>by
  refine q _ (I.movedT (t':=s.toks) o k (le_refl _) ⟨by show 2≤sizeLine;decide,[x,y],.cons rx (.cons ry .nil),_,b5,rfl,_,rfl⟩) ⟨k _ _ nTI hTI,b3,b4,hl1.at fun u e=>k _ u n1 e,hl2.at fun u e=>k _ u n2 e,.inr ⟨Nat.succ_pos _,T,b,b1,b2⟩⟩ k b6
 rcases hz with⟨rfl,hz,a,b,hTO⟩|⟨hi,T,b,hz,hT⟩
 ·refine wpAny_pyNext_zip_item D hz hTI hTO h1 h2 hl1 hl2 hx' hy' fun h' a1 a2 a3 a4 a5 a6 k=>?_
  exact fin h' false _ a1 ⟨_,a5⟩ a3 a4 a5 a6 fun c u hc e=>k c u (fun w=>hc (by simp[w])) (fun w=>hc (by simp[w])) (fun w=>hc (by simp[w])) (fun w=>hc (by simp[w])) e
 ·refine next_busy D hz hT hTI h1 h2 hl1 hl2 hx' hy' fun h' a1 a2 a3 a4 a5 k=>?_
  have k':∀c u,c ∉ [z,TO,i1,i2]→s.heap.get? c=some u→h'.get? c=some u:=fun c u hc e=>k c u (fun w=>hc (by simp[w])) (fun w=>hc (by simp[w])) (fun w=>hc (by simp[w])) e
  obtain⟨u,hu⟩:=hT
  by_cases c1:T=z
  ·exact fin h' true T a1 ⟨_,by rw[c1];exact a1⟩ a2 a3 a4 a5 k'
  ·by_cases c2:T=i1
   ·obtain⟨w,hw,_⟩:=id a2
    exact fin h' true T a1 ⟨w,by rw[c2];exact hw⟩ a2 a3 a4 a5 k'
   ·by_cases c3:T=i2
    ·obtain⟨w,hw,_⟩:=id a3
     exact fin h' true T a1 ⟨w,by rw[c3];exact hw⟩ a2 a3 a4 a5 k'
    ·exact fin h' true T a1 ⟨u,k T u c1 c2 c3 hu⟩ a2 a3 a4 a5 k'
abbrev Prs(H:Hp)(ts:List Addr)(ps:List (V×V)):Prop:=Paired (fun t (p:V×V)=>H t=some (.tup [p.1,p.2])) ts ps
theorem Prs.upd{T:Addr}{v:HO}{ts:List Addr}{ps:List (V×V)}(h:Prs H ts ps)(hT:H T=none):Prs (L2.upd H T v) ts ps:=by
 induction h with
 | nil=>exact .nil
 | cons e _ ih=>exact .cons (by rw[zi (zj e hT)];exact e) ih
theorem Prs.snoc{t:Addr}{p:V×V}{ts:List Addr}{ps:List (V×V)}(h:Prs H ts ps)(e:H t=some (.tup [p.1,p.2])):Prs H (ts++[t]) (ps++[p]):=by
 induction h with
 | nil=>exact .cons e .nil
 | cons a _ ih=>exact .cons a ih
theorem vals_at:∀{xv:List V}{xs:List Value},Vals xv xs→∀(i:Nat)(h:i<xv.length),∃x,xs[i]? = some x∧RelV xv[i] x:=by
 intro xv xs r
 induction r with
 | nil=>intro i h;exact absurd h (Nat.not_lt_zero _)
 | cons e _ ih =>
   intro i h
   cases i with
   | zero=>exact⟨_,rfl,e⟩
   | succ i=>exact ih i (by simpa using h)
theorem ZSt.keep{i:Nat}{h':Heap}(st:ZSt z TI TO i1 i2 l1 l2 xs.toArray ys.toArray i s)(h0:0<i)(k:∀b u,b≠S→s.heap.get? b=some u→h'.get? b=some u)(he:∃u,h'.get? S=some u)(hS:S ∉ [z,TO,i1,i2])(hSl:S≠TI∧S≠l1∧S≠l2):
 ZSt z TI TO i1 i2 l1 l2 xs.toArray ys.toArray i { s with heap:=h' }:=by
 obtain⟨a1,a2,a3,a4,a5,a6⟩:=st
 have n:∀c ∈ [z,TO,i1,i2],c≠S:=fun c hc e=>hS (e ▸ hc)
 refine⟨k _ _ (Ne.symm hSl.1) a1,a2.at fun u e=>k _ u (n _ (by simp)) e,a3.at fun u e=>k _ u (n _ (by simp)) e,a4.at fun u e=>k _ u (Ne.symm hSl.2.1) e,a5.at fun u e=>k _ u (Ne.symm hSl.2.2) e,?_⟩
 rcases a6 with⟨z0,_⟩|⟨_,T,b,hz,u,hu⟩
 ·omega
 ·refine .inr ⟨h0,T,b,k _ _ (n _ (by simp)) hz,?_⟩
  by_cases c:T=S
  ·rw[c];exact he
  ·exact⟨u,k T u c hu⟩
theorem zip_loop{res:Value}{R:Result→Shared→Prop}(hh:A.in1.handled=none)(D:ZipApart z TI TO i1 i2 l1 l2)(hS:S ∉ [z,TO,i1,i2])(hSl:S≠TI∧S≠l1∧S≠l2)(rx:Vals xv xs)(ry:Vals yv ys)(hl:xv.length=yv.length)(hn:xv.length<64):
 ∀(k i:Nat)(s:Shared)(H:Hp)(ts:List Addr)(c:Nat),xv.length-i=k→i≤xv.length→0<xv.length→Inv X pins σ H s→(∀c ∈ [z,TO,i1,i2],Own X pins H c∧c<s.heap.objs.size)→Own X pins H S→S<s.heap.objs.size →
  ZSt z TI TO i1 i2 l1 l2 xs.toArray ys.toArray i s→s.heap.get? S=some { cls:=.type "list",dict:=none,data:=.seq (ts.map Value.ref).toArray c,slots := #[] }→ts.length=i→Prs H ts ((xv.zip yv).take i) →
  (∀s' H' ts,Inv X pins σ H' s'→Same H H'→Prs H' ts (xv.zip yv)→Own X pins H' S→(∃c,s'.heap.get? S=some { cls:=.type "list",dict:=none,data:=.seq (ts.map Value.ref).toArray c,slots := #[] })→R (.ok (.ret res)) s') →
  codeAny (model X.prog X.w) A (.builtin "list.extend.loop" ⟨[.ref S,.ref z,res],[]⟩) R s:=by
 have lx:=rx.length
 have ly:=ry.length
 intro k
 induction k with
 | zero =>
   intro i s H ts c hk hi h0 I o oS lS st eS et pr q
   have e:i=xv.length:=by omega
   subst e
   refine codeAny_builtin F.entry_extend_loop ?_
   rw[Around.under_plainId F.plain_extend_loop _]
   show wpAny (model X.prog X.w) A.in1 (pyNext (.ref z) >>= _) _ _ s
   obtain⟨hTI,h1,h2,hl1,hl2,hz⟩:=st
   rcases hz with⟨z0,_⟩|⟨_,T,b,hz,hT⟩
   ·omega
   refine wpAny_bind (next_over hh D hz hT hTI h1 hl1 (by simp;omega) fun h' k'=>?_)
   have kk:∀b u,b ∉ [z,TO,i1,i2]→s.heap.get? b=some u→h'.get? b=some u:=fun b u hb e=>k' b u (fun w=>hb (by simp[w])) (fun w=>hb (by simp[w])) (fun w=>hb (by simp[w])) e
   rw[take_of_length_le (by rw[length_zip];omega)] at pr
   exact wpAny_pure (q _ H ts (I.moved (t':=s.toks) (fun c hc=>(o c hc).1) kk) (Same.refl _) pr oS ⟨c,kk S _ hS eS⟩)
 | succ k ih =>
   intro i s H ts c hk hi h0 I o oS lS st eS et pr q
   have hlt:i<xv.length:=by omega
   refine codeAny_builtin F.entry_extend_loop ?_
   rw[Around.under_plainId F.plain_extend_loop _]
   show wpAny (model X.prog X.w) A.in1 (pyNext (.ref z) >>= _) _ _ s
   obtain⟨x,hx,vx⟩:=vals_at rx i hlt
   obtain⟨y,hy,vy⟩:=vals_at ry i (by omega)
   refine wpAny_bind (zip_item I (fun c hc=>(o c hc).1) D st hx hy vx vy fun s' I' st' k' z'=>?_)
   have eS':=k' S _ hS eS
   have hf:H s.heap.objs.size=none:=I.hok.fresh (le_refl _)
   have oS':Own X pins (L2.upd H s.heap.objs.size (.tup [xv[i],yv[i]])) S:=oS.upd (ne_of_lt lS)
   obtain⟨c2,hc2⟩:∃c2,(s'.heap.update S (Obj.mapSeq (·.push (Value.ref s.heap.objs.size)))).get? S=some { cls:=.type "list",dict:=none,data:=.seq ((ts++[s.heap.objs.size]).map Value.ref).toArray c2,slots := #[] } :=
    ⟨_,by rw[show((ts++[s.heap.objs.size]).map Value.ref).toArray=(ts.map Value.ref).toArray.push (Value.ref s.heap.objs.size)by simp];exact get?_update_seq eS' (·.push _)⟩
   have ko:∀b u,b≠S→s'.heap.get? b=some u→(s'.heap.update S (Obj.mapSeq (·.push (Value.ref s.heap.objs.size)))).get? b=some u:=fun b u hb e=>(get?_update_other _ _ (Ne.symm hb)).trans e
   have hln:=zr
   show wpAny (model X.prog X.w) A.in1 (updateSeq S (·.push (Value.ref s.heap.objs.size)) >>= _) _ _ _
   refine wpAny_bind ?_
   refine wpAny_updateSeq eS' rfl (wpAny_pure ⟨plainId_quiet F.plain_extend_loop _,ih (i+1) _ _ (ts++[s.heap.objs.size]) c2 (by omega) (by omega) h0 (I'.swap oS') (fun c hc=>?_) oS' ?_ (st'.keep (Nat.succ_pos _) ko ⟨_,hc2⟩ hS hSl) hc2 (by rw[length_append,et];rfl) ?_ ?_⟩) ?_ ?_
   ·refine⟨((o c hc).1).upd (ne_of_lt (o c hc).2),?_⟩
    show c<(s'.heap.update S _).objs.size
    rw[size_update,z']
    exact lt_succ_of_lt (o c hc).2
   ·show S<(s'.heap.update S _).objs.size
    rw[size_update,z']
    exact lt_succ_of_lt lS
   ·have e:(xv.zip yv).take (i+1)=(xv.zip yv).take i++[(xv[i],yv[i])]:=by
     rw[List.take_add_one,getElem?_eq_getElem (by rw[length_zip];omega)]
     simp
    rw[e]
    exact(pr.upd hf).snoc zd
   ·intro s2 H2 ts2 J1 J2 J3 J4 J5
    exact q s2 H2 ts2 J1 ((Same.new hf).trans J2) J3 J4 J5
   ·rw[size_toArray,length_map,et];omega
   ·rw[Array.size_push,size_toArray,length_map,et];omega
end
end L2
namespace L2
open PySem PySem.W PyProof.Rows PySem.Calls
theorem zip_len:typeLookup (.type "zip") "__len__"=pure none:=by rw[typeLookup_type,builtinLookup_eq_fast];kernel_rfl
theorem zip_hint:typeLookup (.type "zip") "__length_hint__"=pure none:=by rw[typeLookup_type,builtinLookup_eq_fast];kernel_rfl
section
variable {X:Cx}{pins:List (Addr×Obj)}{σ:St}{H:Hp}{s:Shared}{A:Around}{E:Value→Shared→Prop}{z TI TO i1 i2 l1 l2:Addr}{xs ys:List Value}{xv yv:List V}
theorem zj2{Q:List Value→Shared→Prop}(hh:A.in1.handled=none)(D:ZipApart z TI TO i1 i2 l1 l2)(rx:Vals xv xs)(ry:Vals yv ys)(hl:xv.length=yv.length)(hn:xv.length<64)(h0:0<xv.length)
 (I:Inv X pins σ H s) (o:∀c ∈ [z,TO,i1,i2],Own X pins H c∧c<s.heap.objs.size) (st:ZSt z TI TO i1 i2 l1 l2 xs.toArray ys.toArray 0 s)
 (q:∀s' H' ts,Inv X pins σ H' s'→Same H H'→Prs H' ts (xv.zip yv)→Q (ts.map Value.ref) s'):wpAny (model X.prog X.w) A (collect (.ref z)) Q E s:=by
 have hz:IsZip s.heap z TI TO .none:=by
  rcases st.2.2.2.2.2 with⟨_,hz,_⟩|⟨w,_⟩
  ·exact hz
  ·omega
 have lt:∀{c u},s.heap.get? c=some u→c<s.heap.objs.size:=fun e=>lt_size e
 have lz:=(o z (by simp)).2
 have hSz:s.heap.objs.size≠z:=ne_of_gt lz
 have oS:=I.own (b:=s.heap.objs.size) (le_refl _)
 unfold collect
 refine wpAny_bind (wpAny_runValue (codeAny_builtin F.entry_proto_collect ?_))
 rw[Around.under_plainId F.plain_proto_collect _]
 show wpAny (model X.prog X.w) A.in1 (newList [] >>= fun l=>again (.builtin "list.__iadd__" ⟨[l,.ref z],[]⟩)) _ _ s
 refine wpAny_bind (wpAny_newList ?_ (zero_le _))
 have I1:Inv X pins σ H { s with heap:=s.heap.push { cls:=.type "list",data:=.seq ([]:List Value).toArray } }:=I.kept (t':=s.toks) fun b u e=>get?_push_of_some _ e
 have hS1:(s.heap.push { cls:=.type "list",data:=.seq ([]:List Value).toArray }).get? s.heap.objs.size=some { cls:=.type "list",data:=.seq ([]:List Value).toArray }:=get?_push_size _ rfl
 have k1:∀b u,s.heap.get? b=some u→(s.heap.push { cls:=.type "list",data:=.seq ([]:List Value).toArray }).get? b=some u:=fun b u e=>get?_push_of_some _ e
 have z1:(s.heap.push { cls:=.type "list",data:=.seq ([]:List Value).toArray }).objs.size=s.heap.objs.size+1:=size_push ..
 show wpAny (model X.prog X.w) A.in1 (again (.builtin "list.__iadd__" ⟨[.ref s.heap.objs.size,.ref z],[]⟩)) _ _ { s with heap:=s.heap.push { cls:=.type "list",data:=.seq ([]:List Value).toArray } }
 generalize s.heap.push { cls:=.type "list",data:=.seq ([]:List Value).toArray }=h1 at I1 hS1 k1 z1
 refine wpAny_pure ⟨plainId_quiet F.plain_list_iadd _,codeAny_builtin F.entry_list_iadd ?_⟩
 rw[Around.under_plainId F.plain_list_iadd _]
 show wpAny (model X.prog X.w) A.in1 (Builtin.List.listExtendWith (.ref s.heap.objs.size) (.ref z) (.ref s.heap.objs.size)) _ _ _
 unfold Builtin.List.listExtendWith
 have tz:Shared.TypeIs { s with heap:=h1 } (.ref z) "zip":=⟨_,k1 _ _ hz,rfl⟩
 refine wpAny_bind (wpAny_typeOf tz ?_)
 have e1:Builtin.List.listSameRef (.ref s.heap.objs.size) (.ref z)=false:=by simp[Builtin.List.listSameRef,hSz]
 have e2:(Value.type "zip" == Value.type "list")=false:=by decide
 have e3:(Value.type "zip" == Value.type "tuple")=false:=by decide
 simp only[e1,e2,e3,Bool.or_false,if_false,Bool.false_eq_true]
 refine wpAny_bind (wpAny_pyIter_zip (k1 _ _ hz) ?_)
 refine wpAny_bind (wpAny_holding ?_)
 unfold Builtin.List.listLengthHint
 refine wpAny_bind (wpAny_specialOf tz zip_len ?_)
 show wpAny (model X.prog X.w) A.in1 (specialOf (Value.ref z) (Str.ofString "__length_hint__") >>= _) _ _ _
 refine wpAny_bind (wpAny_specialOf tz zip_hint (wpAny_pure ?_))
 show wpAny (model X.prog X.w) A.in1 (rule "list.extend.makes-room" >>= fun _=>Builtin.List.listTouch (.ref s.heap.objs.size) >>= fun _=>again (.builtin "list.extend.loop" ⟨[.ref s.heap.objs.size,.ref z,.ref s.heap.objs.size],[]⟩)) _ _ _
 refine wpAny_bind (wpAny_rule (wpAny_bind ?_))
 show wpAny (model X.prog X.w) A.in1 (updateSeq s.heap.objs.size (·.push .none) >>= fun _=>updateSeq s.heap.objs.size (·.pop)) _ _ _
 refine wpAny_bind (wpAny_updateSeq hS1 rfl ?_)
 have hS2:=Heap.get?_update_self (Obj.mapSeq (·.push Value.none)) hS1 rfl
 refine wpAny_updateSeq hS2 rfl ?_
 have hS3:=Heap.get?_update_self (Obj.mapSeq (·.pop)) hS2 rfl
 have I3:=(I1.swap (f:=Obj.mapSeq (·.push Value.none)) oS).swap (f:=Obj.mapSeq (·.pop)) oS
 have k3:∀b u,b≠s.heap.objs.size→s.heap.get? b=some u→((h1.update s.heap.objs.size (Obj.mapSeq (·.push Value.none))).update s.heap.objs.size (Obj.mapSeq (·.pop))).get? b=some u :=
  fun b u hb e=>(get?_update_other _ _ (Ne.symm hb)).trans ((get?_update_other _ _ (Ne.symm hb)).trans (k1 b u e))
 have z3:((h1.update s.heap.objs.size (Obj.mapSeq (·.push Value.none))).update s.heap.objs.size (Obj.mapSeq (·.pop))).objs.size=s.heap.objs.size+1:=by rw[size_update,size_update,z1]
 have kk:∀b u,s.heap.get? b=some u→((h1.update s.heap.objs.size (Obj.mapSeq (·.push Value.none))).update s.heap.objs.size (Obj.mapSeq (·.pop))).get? b=some u:=fun b u e=>k3 b u (ne_of_lt (lt e)) e
 obtain⟨a1,a2,a3,a4,a5,a6⟩:=st
 refine wpAny_pure ⟨plainId_quiet F.plain_extend_loop _,zip_loop (S:=s.heap.objs.size) (xs:=xs) (ys:=ys) (xv:=xv) (yv:=yv) hh D (fun m=>lt_irrefl _ (o _ m).2) ⟨ne_of_gt (lt a1),?_,?_⟩ rx ry hl hn _ 0 _ H [] _ rfl (zero_le _) h0 I3 (fun c hc=>⟨(o c hc).1,?_⟩) oS ?_ ⟨kk _ _ a1,a2.at fun u e=>kk _ u e,a3.at fun u e=>kk _ u e,a4.at fun u e=>kk _ u e,a5.at fun u e=>kk _ u e,?_⟩ hS3 rfl .nil fun s' H' ts J1 J2 J3 J4 J5=>?_⟩
 ·obtain⟨u,hu,_⟩:=a4;exact ne_of_gt (lt hu)
 ·obtain⟨u,hu,_⟩:=a5;exact ne_of_gt (lt hu)
 ·show c<Array.size _
  rw[z3];exact lt_succ_of_lt (o c hc).2
 ·show s.heap.objs.size<Array.size _
  rw[z3];exact lt_succ_self _
 ·rcases a6 with⟨_,b1,a,b,b2⟩|⟨w,_⟩
  ·exact .inl ⟨rfl,kk _ _ b1,a,b,kk _ _ b2⟩
  ·omega
 ·obtain⟨c,J5⟩:=J5
  show wpAny (model X.prog X.w) A (load s.heap.objs.size >>= _) _ _ s'
  refine wpAny_bind (wpAny_load J5 (wpAny_pure ?_))
  exact q s' H' ts J1 J2 J3
end
section
variable {X:Cx}{pins:List (Addr×Obj)}{σ:St}{H:Hp}{s:Shared}{A:Around}{E:Value→Shared→Prop}{z TI TO i1 i2 l1 l2 q:Addr}{xs ys:List Value}{xv yv:List V}{kz:List Int}
theorem Inv.trackO{T:Addr}{v:HO}(I:Inv X pins σ H s)(o:Own X pins H T)(new:ObjOk X.prog X.w (upd H T v) s.heap T v):Inv X pins σ (upd H T v) s:=by
 have hf:=o.free
 have up:∀b u,H b=some u→upd H T v b=some u:=fun b u e=>by rw[zi (zj e hf)];exact e
 refine I.step (h':=s.heap) (g':=s.gens) (d':=s.drawn) (t':=s.toks) (ch:=[T]) (fun b hb=>?_) (fun b u _ _ hc e _=>e) (fun b u _ _ hc e _=>⟨u.slots,e⟩)
  (fun b u hc e n=>by rw[zi (fun w=>hc (by simp[w]))];exact n) (fun b u hc e=>⟨u,e⟩) (fun b _ e=>up b _ e) (fun b _ _ e=>up b _ e) (fun b ps e=>⟨#[],by rw[up b _ e];simp⟩) (fun m hm=>hm) (fun b u e=>?_) I.bare
 ·rw[List.mem_singleton.mp hb]
  exact⟨.inr o.new,o.loc,o.cell,o.pin⟩
 ·by_cases hb:b=T
  ·subst hb
   rw[zd] at e
   cases e
   exact new
  ·rw[zi hb] at e
   exact(I.hok b u e).stay (fun c w hc k=>k) (fun c k=>up c _ k) fun c _ k=>up c _ k
theorem Prs.length{ts:List Addr}{ps:List (V×V)}(h:Prs H ts ps):ts.length=ps.length:=by
 induction h with
 | nil=>rfl
 | cons _ _ ih=>rw[length_cons,length_cons,ih]
theorem zkl{Q:Value→Shared→Prop}(hh:A.in1.in1.handled=none)(D:ZipApart z TI TO i1 i2 l1 l2)(rx:Vals xv xs)(ry:Vals yv ys)(hl:xv.length=yv.length)(hn:xv.length<64)(h0:0<xv.length)(hk:kz.length=xv.length)
 (I:Inv X pins σ H s) (o:∀c ∈ [z,TO,i1,i2],Own X pins H c∧c<s.heap.objs.size) (st:ZSt z TI TO i1 i2 l1 l2 xs.toArray ys.toArray 0 s)
 (calls:∀(H':Hp)(ts:List Addr),Same H H'→Prs H' ts (xv.zip yv)→∀(i:Nat)(v:Value)(pins':List (Addr×Obj)) (s':Shared),(ts.map Value.ref)[i]? = some v→Inv X pins' σ H' s' →
   wpAny (model X.prog X.w) A.in1.in1 (call (.ref q) [v]) (fun k s''=>Inv X pins' σ H' s''∧∃t,k=Value.int (kz.getD i 0) t) (fun _ _=>False) s')
 (fin:∀(s':Shared)(H':Hp)(ts:List Addr)(l:Addr)(p:Array Nat),Same H H'→Prs H' ts (xv.zip yv)→H' l=none→M14.I (fun k=>kz.getD k 0) xv.length p xv.length→Inv X pins σ (upd H' l (.lst (p.toList.map fun i=>V.ref (ts.getD i 0)))) s'→Q (.ref l) s') :
 wpAny (model X.prog X.w) A (call (.builtin "sorted") [.ref z] [(Str.ofString "key",.ref q)]) Q E s:=by
 have hln:=zr
 refine call_function_entry_kw kind_sorted plain_sorted entry_sorted (ksk_s1 _ _) ?_
 unfold Builtin.«sorted»
 refine wpAny_bind (m:=checkCount "sorted" 1 1 _) (wpAny_pure ?_)
 refine wpAny_bind (zj2 hh D rx ry hl hn h0 I o st fun s1 H1 ts I1 sm pr=>?_)
 have lt:ts.length=xv.length:=by rw[pr.length,length_zip];omega
 refine wpAny_bind (wpAny_newList ?_ (by rw[length_map];omega))
 have I2:Inv X pins σ H1 { s1 with heap:=s1.heap.push (seqObj "list" (ts.map Value.ref).toArray 0) }:=I1.kept (t':=s1.toks) fun b u e=>get?_push_of_some _ e
 have hD:(s1.heap.push (seqObj "list" (ts.map Value.ref).toArray 0)).get? s1.heap.objs.size=some (seqObj "list" (ts.map Value.ref).toArray 0):=get?_push_size _ rfl
 have oD:=I1.own (b:=s1.heap.objs.size) (le_refl _)
 refine wpAny_bind (wpAny_holding (wpAny_call_entry_kw slot_list_sort ⟨_,hD,rfl⟩ entry_list_sort ?body (ksk_l1 _ _)))
 case body =>
  show wpAny (model X.prog X.w) A.in1.in1 (Builtin.«list.sort» ⟨[.ref s1.heap.objs.size],[(Str.ofString "key",.ref q)]⟩) _ _ _
  rw[ksk_t1]
  refine wpAny_mono (keyed (f:=.ref q) (kz:=kz) (vs:=ts.map Value.ref) I2 oD hD (by rw[length_map];omega) (by rw[length_map];omega) (by rw[length_map];omega) (calls H1 ts sm pr)) (fun r s2 w=>?_) fun _ _ w=>w
  obtain⟨rfl,p,e,hp,I3,h3⟩:=w
  rw[length_map,lt] at hp
  refine⟨_,rfl,wpAny_pure ⟨_,rfl,?_⟩⟩
  refine fin s2 H1 ts _ p sm pr oD.free hp (I3.trackO oD ⟨?_,p.toList.map fun i=>(ts.map Value.ref).getD i Value.none,e,?_,h3⟩)
  ·rw[length_map,Array.length_toList,hp.1.size];omega
  ·have hm:∀i∈p.toList,i<ts.length:=fun i hi=>by
    have:=(hp.1.pm.toList.mem_iff (a:=i)).mp hi
    rw[lt]
    simpa using this
   revert hm
   generalize p.toList=l
   intro hm
   induction l with
   | nil=>exact .nil
   | cons a l ih =>
     have ha:=hm a (mem_cons_self ..)
     refine .cons ?_ (ih fun i hi=>hm i (mem_cons_of_mem _ hi))
     have e:(ts.map Value.ref).getD a Value.none=Value.ref (ts.getD a 0):=by simp[ha]
     show RelV (V.ref (ts.getD a 0)) ((ts.map Value.ref).getD a Value.none)
     rw[e]
     rfl
end
section
variable {X:Cx}{pins:List (Addr×Obj)}{σ:St}{H:Hp}{s:Shared}{A:Around}{E:Value→Shared→Prop}{l1 l2:Addr}{xv yv:List V}
theorem made_zip{Q:Value→Shared→Prop}(I:Inv X pins σ H s)(h1:SqL X.K H l1 xv)(h2:SqL X.K H l2 yv)
 (q:∀(s':Shared)(z TI TO i1 i2:Addr)(xs ys:List Value),Vals xv xs→Vals yv ys→Inv X pins σ H s'→ZipApart z TI TO i1 i2 l1 l2→(∀c ∈ [z,TO,i1,i2],Own X pins H c∧c<s'.heap.objs.size)→ZSt z TI TO i1 i2 l1 l2 xs.toArray ys.toArray 0 s'→Q (.ref z) s') :
 wpAny (model X.prog X.w) A (call (.type "zip") [.ref l1,.ref l2]) Q E s:=by
 obtain⟨xs,r1,p1,_⟩:=I.list h1
 obtain⟨ys,r2,p2,_⟩:=I.list h2
 have b1:=p1.isList
 have b2:=p2.isList
 have t1:l1<s.heap.objs.size:=by obtain⟨u,hu,_⟩:=b1;exact lt_size hu
 have t2:l2<s.heap.objs.size:=by obtain⟨u,hu,_⟩:=b2;exact lt_size hu
 refine call_zip_2 b1 b2 fun h' hz hTI hTO hi1 hi2 hsz hk=>?_
 have n:∀(l:Addr)(d:Nat),l<s.heap.objs.size→l≠s.heap.objs.size+d:=fun l d h=>ne_of_lt (lt_of_lt_of_le h (le_add_right _ _))
 have m:∀d e:Nat,d≠e→s.heap.objs.size+d≠s.heap.objs.size+e:=fun d e h w=>h (Nat.add_left_cancel w)
 refine q _ (s.heap.objs.size+4) (s.heap.objs.size+2) (s.heap.objs.size+3) (s.heap.objs.size+0) (s.heap.objs.size+1) xs ys r1 r2 (I.kept (t':=s.toks) hk)
  ⟨m 2 4 (by decide),m 3 4 (by decide),m 0 4 (by decide),m 1 4 (by decide),m 2 3 (by decide),m 2 0 (by decide),m 2 1 (by decide),m 3 0 (by decide),m 3 1 (by decide),m 0 1 (by decide),n _ 4 t1,n _ 3 t1,n _ 0 t1,n _ 1 t1,n _ 4 t2,n _ 3 t2,n _ 0 t2,n _ 1 t2⟩ (fun c hc=>?_)
  ⟨hTI,hi1,hi2,b1.at fun u e=>hk _ u e,b2.at fun u e=>hk _ u e,.inl ⟨rfl,hz,_,_,hTO⟩⟩
 have hb:∃d,d<5∧c=s.heap.objs.size+d:=by
  simp only[mem_cons,not_mem_nil,or_false] at hc
  rcases hc with w | w | w | w
  ·exact⟨4,by decide,w⟩
  ·exact⟨3,by decide,w⟩
  ·exact⟨0,by decide,w⟩
  ·exact⟨1,by decide,w⟩
 obtain⟨d,hd,rfl⟩:=hb
 refine⟨I.own (le_add_right _ _),?_⟩
 show s.heap.objs.size+d<Array.size _
 rw[hsz]
 exact Nat.add_lt_add_left hd _
end
end L2
namespace L2
open PySem PySem.W PySem.Spec PyProof.Rows PySem.Calls
def ze7(mg:Str→Option Value)(h:Heap):Prop:=∃bm ob,mg "__builtins__"=some (.ref bm)∧bm≠builtinsNs∧h.get? bm=some ob∧ob.cls=.type "module"∧ob.dict=some builtinsNs∧ob.data=.plain
abbrev fnO(f:Addr)(o:Obj):HO:=.ext fun h=>h.get? f=some o
abbrev zf8(c:Addr)(q:Str):HO:=.ext fun h=>h.CodeRec (.ref c) q
def SameN(H H':Hp):Prop:=(∀b u,H b=some u→(∀ps,u ≠ .tbl ps)→H' b=some u)∧∀b ps,H b=some (.tbl ps)→∃qs,H' b=some (.tbl qs)
theorem Same.toN{H H':Hp}(s:Same H H'):SameN H H':=⟨fun b u e _=>s b u e,fun b ps e=>⟨ps,s b _ e⟩⟩
theorem SameN.trans{H H1 H2:Hp}(a:SameN H H1)(b:SameN H1 H2):SameN H H2:=⟨fun c u e n=>b.1 c u (a.1 c u e n) n,fun c ps e=>let ⟨qs,e1⟩:=a.2 c ps e;b.2 c qs e1⟩
theorem SameN.free{H H':Hp}{l:Addr}(s:SameN H H')(h:H' l=none):H l=none:=by
 cases e:H l with
 | none=>rfl
 | some u =>
   by_cases hu:∃ps,u=.tbl ps
   ·obtain⟨ps,rfl⟩:=hu
    obtain⟨qs,e1⟩:=s.2 l ps e
    rw[h] at e1;cases e1
   ·have e1:=s.1 l u e fun ps z=>hu ⟨ps,z⟩
    rw[h] at e1;cases e1
def noT(H:Hp):Hp:=fun b=>match H b with
 | some (.tbl _)=>none
 | x=>x
theorem noT_of{H:Hp}{b:Addr}{u:HO}(e:H b=some u)(n:∀ps,u ≠ .tbl ps):noT H b=some u:=by
 unfold noT
 rw[e]
 cases u <;> first | rfl | exact absurd rfl (n _)
theorem of_noT{H:Hp}{b:Addr}{u:HO}(e:noT H b=some u):H b=some u∧∀ps,u ≠ .tbl ps:=by
 unfold noT at e
 split at e
 ·cases e
 ·rename_i z
  refine⟨e,fun ps w=>?_⟩
  subst w
  exact z ps e
theorem SameN.same{H H':Hp}(s:SameN H H'):Same (noT H) H':=fun b u e=>let ⟨h,n⟩:=of_noT e;s.1 b u h n
theorem SqL.noT{K:Frag}{H:Hp}{a:Addr}{xs:List V}(h:SqL K H a xs):SqL K (L2.noT H) a xs:=by
 rcases h with(h | ⟨o,h⟩) | h
 ·exact .inl (.inl (noT_of h fun _ z=>by cases z))
 ·exact .inl (.inr ⟨o,noT_of h fun _ z=>by cases z⟩)
 ·exact .inr h
section
variable {X:Cx}{pins:List (Addr×Obj)}{σ:St}{H:Hp}{s:Shared}{E:Value→Shared→Prop}
theorem Inv.lam{P c':Addr}{ps more:Array Value}{h':Heap}{fo:Obj}{q:Str}{tk:Nat}(I:Inv X pins σ H s)(hfo:fo.isFreed=false)(hP:H P=some (.tbl ps))(hx:Heap.ExtBut P s.heap h')(hc:s.heap.objs.size≤c')(hlt:c'<h'.objs.size)
 (hcd:h'.CodeRec (.ref c') q) (ht:h'.get? P=some (tabObj (ps++more))) :
 Inv X pins σ (upd (upd (upd H P (.tbl (ps++more))) c' (zf8 c' q)) h'.objs.size (fnO h'.objs.size fo)) { s with heap:=h'.push fo,toks:=tk }:=by
 have hPs:P<s.heap.objs.size:=I.hok.lt hP
 have nPc:P≠c':=ne_of_lt (lt_of_lt_of_le hPs hc)
 have ncf:c'≠h'.objs.size:=ne_of_lt hlt
 have nPf:P≠h'.objs.size:=ne_of_lt (lt_trans (lt_of_lt_of_le hPs hc) hlt)
 have old:∀b,b<s.heap.objs.size→b≠P→upd (upd (upd H P (.tbl (ps++more))) c' (zf8 c' q)) h'.objs.size (fnO h'.objs.size fo) b=H b:=fun b hb n=>by
  rw[zi (ne_of_lt (lt_trans (lt_of_lt_of_le hb hc) hlt)),zi (ne_of_lt (lt_of_lt_of_le hb hc)),zi n]
 have atP:upd (upd (upd H P (.tbl (ps++more))) c' (zf8 c' q)) h'.objs.size (fnO h'.objs.size fo) P=some (.tbl (ps++more)):=by rw[zi nPf,zi nPc,zd]
 have k:∀b u,b≠P→s.heap.get? b=some u→(h'.push fo).get? b=some u:=fun b u n e=>get?_push_of_some _ (hx b u n e)
 have nP:∀b u,H b=some u→(∀w,u ≠ .tbl w)→b≠P:=fun b u e n z=>by rw[z,hP] at e;cases e;exact n _ rfl
 have keepH:∀b u,H b=some u→(∀w,u ≠ .tbl w)→upd (upd (upd H P (.tbl (ps++more))) c' (zf8 c' q)) h'.objs.size (fnO h'.objs.size fo) b=some u:=fun b u e n=>by
  rw[old b (I.hok.lt e) (nP b u e n)];exact e
 refine I.step (g':=s.gens) (d':=s.drawn) (ch:=[]) (fun _ z=>nomatch z) (fun b o _ _ _ e n=>k b o (fun z=>by rw[z,hP] at n;cases n) e) (fun b o _ _ _ e n=>⟨o.slots,k b o (fun z=>by rw[z,hP] at n;cases n) e⟩)
  (fun b o _ e n=>by rw[old b (lt_size e) (fun z=>by rw[z,hP] at n;cases n)];exact n) (fun b o _ e=>?_) (fun b xs e=>keepH b _ e fun _ z=>by cases z) (fun b o u e=>keepH b _ e fun _ z=>by cases z) (fun b w e=>?_) (fun m hm=>?_) (fun b u e=>?_) I.bare
 ·by_cases hb:b=P
  ·subst hb;exact⟨_,get?_push_of_some _ ht⟩
  ·exact⟨o,k b o hb e⟩
 ·by_cases hb:b=P
  ·subst hb
   rw[hP] at e
   cases e
   exact⟨more,atP⟩
  ·exact⟨#[],by rw[old b (I.hok.lt e) hb,e];simp⟩
 ·have nL:X.env.locals≠P:=fun z=>by have:=I.free;rw[z,hP] at this;cases this
  obtain⟨o,es,ep,ho,r⟩:=hm
  exact⟨o,es,ep,k _ o nL ho,r⟩
 ·by_cases hf:b=h'.objs.size
  ·subst hf
   rw[zd] at e
   cases e
   exact⟨get?_push_size _ hfo,⟨fo,get?_push_size _ hfo⟩,fun h1 h2 a b=>b _ a⟩
  ·by_cases hc':b=c'
   ·subst hc'
    rw[zi ncf,zd] at e
    cases e
    obtain⟨c,oc,vs,t,e1,e2,e3,e4⟩:=hcd
    cases e1
    exact⟨⟨b,oc,vs,t,rfl,get?_push_of_some _ e2,e3,e4⟩,⟨oc,get?_push_of_some _ e2⟩,fun h1 h2 ⟨c,oc,vs,t,e1,e2,e3⟩ q=>by cases e1;exact⟨b,oc,vs,t,rfl,q _ e2,e3⟩⟩
   ·by_cases hb:b=P
    ·subst hb
     rw[atP] at e
     cases e
     exact get?_push_of_some _ ht
    ·rw[zi hf,zi hc',zi hb] at e
     refine(I.hok b u e).stay (fun c v hc q=>k c v ?_ q) (fun c w=>keepH c _ w fun _ z=>by cases z) fun c xs w=>keepH c _ w fun _ z=>by cases z
     rcases hc with rfl | hc
     ·exact hb
     ·exact nP c _ hc fun _ z=>by cases z
end
theorem lam_ok{P:Program}{w:World}{K:Frag}{mg:Str→Option Value}{base:Heap}{k:Nat}{f c':Addr}{name qual:Str}{params:Arguments}{body:Expr}{scope:Scope}{pm ctv:Value}{N ps:List Str}{sp:Sp}(S:FnScope N ps scope)
 (len:∀vs H Q E,sp vs H Q E→vs.length=ps.length)
 (has:∀vs H Q E,sp vs H Q E→H f=some (fnO f (kla_obj name qual params body scope [] pm c' ctv))∧H c'=some (zf8 c' qual))
 (hbody:∀(A:Around)(outer:List Env)(s:Shared)(H:Hp)(vs:List V)(Q:VK)(E:XK),Room k (A.deeper (envOfC qual scope s.heap.objs.size f (.ref c')))→sp vs H Q E →
   ∃t,PE (zcb CX0 P w K mg base N qual scope f (.ref c') A outer s H E) body t∧t (zbq N vs) H Q) :
 FnOk P w K mg base CX0 (k+1) f (kla_fn name qual params body scope [] pm (.ref c') ctv) ps sp:=by
 refine⟨len,fun A outer s H args us vs Q E hr e0 hb r hsp=>?_⟩
 have hl:=len _ _ _ _ hsp
 obtain⟨a1,a2⟩:=has _ _ _ _ hsp
 obtain⟨o1,_⟩:=e0.hok f _ a1
 obtain⟨o2,_⟩:=e0.hok c' _ a2
 have lim:s.heap.NoLimit:=e0.mod.nolimit.keeps fun b o e=>(e0.bs b o e).1
 have hkind:∀y∈ps.zip us,scope.names.lookup y.1=some .local∨(scope.names.lookup y.1=some .cell∧((cellsFrom (s.heap.objs.size+1) scope.names []).lookup y.1).isSome=true):=fun⟨n,v⟩ hy=>by
  rcases S.par n (of_mem_zip hy).1 with q | q
  ·exact .inl q
  ·exact .inr ⟨q,cellsFrom_some _ _ _ (.inl q)⟩
 refine kla_callFunE hr.depth o1 rfl S.co S.gen rfl o2 (hb _ _ _ _ ?_)
 refine wpAny_newFunctionEnv_cells S.kind hkind fun env he s1 x=>?_
 subst he
 refine⟨lim.keeps x.toInCall.keep,kla_codeExpr ?_⟩
 obtain⟨t,ht,hq⟩:=hbody A outer s H vs Q E (hr.deeper _) hsp
 have I:Inv (zcb CX0 P w K mg base N qual scope f (.ref c') A outer s H E) [] (zbq N vs) H s1:=zhL S hr.hd e0 hl r x
 refine wpAny_mono (ht [] s1 (zbq N vs) H _ I hq) (fun u s' hs=>?_) fun e s' hs=>hs
 obtain⟨v,H',J,rv,q⟩:=hs
 exact⟨v,H',J.os,J.bare,J.base,J.hok,rv,q⟩
def sp_fst(f c':Addr)(o:Obj)(q:Str):Sp:=fun vs H Q _=>H f=some (fnO f o)∧H c'=some (zf8 c' q)∧∃(t:Addr)(x y:V),vs=[.ref t]∧H t=some (.tup [x,y])∧Q x H
theorem Prs.get{H:Hp}:∀{ts:List Addr}{ps:List (V×V)},Prs H ts ps→∀(i:Nat)(t:Addr),ts[i]? = some t→∃p,ps[i]? = some p∧H t=some (.tup [p.1,p.2])
 | _,_,.nil,i,t,e=>by simp at e
 | _,_,.cons h r,0,t,e=>by
   simp at e
   subst e
   exact⟨_,rfl,h⟩
 | _,_,.cons h r,i+1,t,e=>by
   obtain⟨p,e1,e2⟩:=Prs.get r i t (by simpa using e)
   exact⟨p,by simpa using e1,e2⟩
section
variable {X:Cx}{ex ey:Expr}{t:TA}{c P:Addr}{y:Str}{p1 p2 p3 p4 p5 pos pos2 lpos kp:Pos}{j:Nat}{params:Arguments}{scope:Scope}
end
def zax(K:Frag)(x:Str):Addr:=match tabIn K x with
 | some (_,P)=>P
 | none=>0
structure Lam (K:Frag) (x:Str) (f:Addr):Prop where
 ex:∃c,codeHdIn K c (zax K x)=true∧∃(oc:Value)(od:Option Addr)(fd:FuncData)(osl:Array (Option Value)),K.lookup f=some ⟨oc,od,.func fd,osl⟩∧fd.code=.ref c
def LamK(K:Frag)(x:Str):Prop:=(∃c,tabIn K x=some (c,zax K x))∧K.lookup (zax K x)=none
theorem lam_mk{K:Frag}{x:Str}{f c P:Addr}{oc o1:Value}{od d1:Option Addr}{fd:FuncData}{osl s1:Array (Option Value)}{vs:Array Value}(a:nsIn K mainGlobals x=some (some (.ref f)))(l:K.lookup f=some ⟨oc,od,.func fd,osl⟩)(e:fd.code=.ref c)
 (lk:K.lookup c=some ⟨o1,d1,.fields vs,s1⟩) (lv:vs[11]? = some (.ref P)) (lh:codeHdIn K c P=true) (ln:K.lookup P=none):Lam K x f∧LamK K x:=by
 have ht:tabIn K x=some (c,P):=by
  unfold tabIn
  rw[a]
  dsimp only
  rw[l]
  dsimp only
  rw[e]
  dsimp only
  rw[lk]
  dsimp only
  rw[lv]
 have hp:zax K x=P:=by unfold zax;rw[ht]
 exact⟨⟨c,by rw[hp];exact lh,oc,od,fd,osl,l,e⟩,⟨c,by rw[hp];exact ht⟩,by rw[hp];exact ln⟩
section
variable {P:Program}{w:World}{K:Frag}{mg:Str→Option Value}{base:Heap}
theorem Fun.okC{x qual y:Str}{st:Stmt}{f:Addr}{fd:FuncData}{N ps:List Str}{k:Nat}{sp:Sp}(F:Fun K x qual st f fd)(L:Lam K y f)(S:FnScope N ps (zf st))(len:∀vs H Q E,sp vs H Q E→vs.length=ps.length)
 (hbody:∀(c:Addr)(A:Around)(outer:List Env)(s:Shared)(H:Hp)(vs:List V)(Q:VK)(E:XK),codeHdIn K c (zax K y)=true→Room k (A.deeper (envOfC qual (zf st) s.heap.objs.size f (.ref c)))→sp vs H Q E →
   ∃t,PSs (zcb CX0 P w K mg base N qual (zf st) f (.ref c) A outer s H E).nox (y6 st) t∧t { nx:=fun _ H'=>Q .non H',rt:=Q } (zbq N vs) H):FnOk P w K mg base CX0 (k+1) f fd ps sp:=by
 obtain⟨oc,od,kV,doc,pm,an,cdv,ct,osl,rfl,lk,hcd⟩:=F.ex
 obtain⟨c,hc,oc',od',fd',osl',lk',e⟩:=L.ex
 rw[lk] at lk'
 cases lk'
 have e:cdv=.ref c:=e
 subst e
 refine fn_of lk hcd S len fun A outer s H vs Q E hr hsp=>?_
 obtain⟨t,h,q⟩:=hbody c A outer s H vs Q E hc hr hsp
 exact⟨t,h.nox,q⟩
end
theorem law_callT{P:Program}{w:World}{K:Frag}{mg mb:Str→Option Value}{CX:CXT}{k:Nat}{fa a c T:Addr}{fd:FuncData}{x:Str}{sp:Sp}{s₁:Shared}{vs:List Value}{ns:List Int}
 (KX:K.In s₁.heap) (hns:s₁.heap.Ns mainGlobals mg) (hb:s₁.heap.Ns builtinsNs mb) (hbb:∀x:Str,x≠"__name__"→mb x=bootBuiltins x) (hlim:s₁.heap.NoLimit) (hbm:ze7 mg s₁.heap) (hg:s₁.gens = #[])
 (hC:CodeHd s₁.heap c T) (hT:s₁.heap.get? T=some (tabObj #[])) (hTK:K.lookup T=none)
 (ha:s₁.heap.get? a=some { cls:=.type "list",data:=.seq vs.toArray }) (hi:IntsAre vs ns) (hl:ns.length≤sizeLine) (hr:Room k callerA)
 (F:∀base:Heap,K.In base→base.Ns mainGlobals mg→ze7 mg base→FnOk P w K mg base CX k fa fd [x] sp) (hbind:∀(s:Shared)(u:Value),BindsTo s fd ⟨[u],[]⟩ [(x,u)])
 (hsp:∀H:Hp,H T=some (.tbl #[])→SqL K H a (ns.map V.int)→sp [.ref a] H (fun v _=>v=.bl true) fun _ _ _=>False)
 (hCX:∀H e s',CX [] H s₁ (fun _ _ _=>False) e s'→False) :
 codeAny (model P w) callerA (.call (.ref fa) ⟨[.ref a],[]⟩) (fun r s'=>r=.ok (.ret (.bool true))∧OldK s₁.heap s'.heap∧s'.os=s₁.os∧AllBare s'.gens) s₁:=by
 have rv:=zia hi
 have lenV:=hi.length
 have naT:a≠T:=fun z=>by rw[z,hT] at ha;cases ha
 have core:∀H:Hp,(∀b,b≠T→H b=none∨∃o xs,H b=some (.frz o (.lst xs)))→H T=some (.tbl #[])→SqL K H a (ns.map V.int)→HOk P w H s₁.heap→(∀b,H b≠none→b=a∨b=T)→(H a≠none→K.lookup a=none) →
  codeAny (model P w) callerA (.call (.ref fa) ⟨[.ref a],[]⟩) (fun r s'=>r=.ok (.ret (.bool true))∧OldK s₁.heap s'.heap∧s'.os=s₁.os∧AllBare s'.gens) s₁:=by
  intro H hO hHT hS hok hA hK
  have base_of:∀{b:Addr}{o:Obj},s₁.heap.get? b=some o→H b=none→(zhu s₁.heap H).get? b=some o:=fun e n=>hidT_get e n
  have noA:∀{b:Addr}{o:Obj},s₁.heap.get? b=some o→o.cls ≠ .type "list"→o.cls ≠ .none→H b=none:=fun {b o} e d d2=>by
   cases q:H b with
   | none=>rfl
   | some u =>
     rcases hA b (by rw[q];simp)with e' | e'
     ·subst e'
      rw[ha] at e;cases e
      exact absurd rfl d
     ·subst e'
      rw[hT] at e;cases e
      exact absurd rfl d2
  have noD:∀{b:Addr}{o:Obj}{es:Array DictEntry}{ep:Nat},s₁.heap.get? b=some o→o.data=.dict es ep→H b=none:=fun {b o es ep} e d=>by
   cases q:H b with
   | none=>rfl
   | some u =>
     rcases hA b (by rw[q];simp)with e' | e'
     ·subst e'
      rw[ha] at e;cases e
      have d':Data.seq vs.toArray _=Data.dict es ep:=d
      cases d'
     ·subst e'
      rw[hT] at e;cases e
      have d':Data.fields #[]=Data.dict es ep:=d
      cases d'
  have nsK:∀{b:Addr}{m:Str→Option Value},s₁.heap.Ns b m→(zhu s₁.heap H).Ns b m:=fun {b m} ⟨o,es,ep,e,d,r⟩=>⟨o,es,ep,base_of e (noD e d),d,r⟩
  have hKb:K.In (zhu s₁.heap H):=fun b o e=>base_of (KX b o e) (by
   cases q:H b with
   | none=>rfl
   | some u =>
     rcases hA b (by rw[q];simp)with e' | e'
     ·subst e'
      rw[hK (by rw[q];simp)] at e;cases e
     ·subst e'
      rw[hTK] at e;cases e)
  have hM:Mod K mg (zhu s₁.heap H):=⟨hKb,nsK hns,⟨mb,nsK hb,hbb⟩,let ⟨mc,h1,h2⟩:=hlim;⟨mc,nsK h1,h2⟩⟩
  have hBM:ze7 mg (zhu s₁.heap H):=let ⟨bm,ob,b1,b2,b3,b4,r⟩:=hbm;⟨bm,ob,b1,b2,base_of b3 (noA b3 (by rw[b4];decide) (by rw[b4];intro z;cases z)),b4,r⟩
  have e0:Env0 P w K mg (zhu s₁.heap H) callerA [] s₁ H:=⟨rfl,hM,fun b o e=>of_hidT e,le_of_eq (hidT_size _ _),trivial,fun b hb=>absurd (show b∈([]:List Addr)from hb) (by simp),hok,.of_eq hg⟩
  refine codeAny_mono ((F _ hKb (nsK hns) hBM).run callerA [] s₁ H ⟨[.ref a],[]⟩ [.ref a] [.ref a] _ _ hr e0 (hbind s₁ (.ref a)) (.cons rfl .nil) (hsp H hHT hS)) fun r s' h=>?_
  cases r with
  | error e=>exact(hCX H e s' h).elim
  | ok fl =>
    cases fl with
    | next=>exact False.elim h
    | brk=>exact False.elim h
    | cont=>exact False.elim h
    | ret u =>
      obtain⟨v,H',os,bare,un,hok',r',q⟩:=h
      have q':v=.bl true:=q
      subst q'
      obtain rfl:u=Value.bool true:=r'
      obtain⟨more,eT⟩:=un.tbls T #[] hHT
      have eT2:s'.heap.get? T=some (tabObj (#[]++more)):=hok' T _ eT
      have kept:∀b o,b≠T→s₁.heap.get? b=some o→s'.heap.get? b=some o:=fun b o n e=>by
       cases q:H b with
       | none=>exact un.keep b o e q (by intro z;exact absurd (show b∈([]:List Addr)from z) (by simp)) (by simp)
       | some u =>
         rcases hO b n with z | ⟨ob,xs,z⟩
         ·rw[q] at z;cases z
         ·have z2:=un.frzs b ob _ z
          obtain⟨e1,_⟩:=hok b _ z
          obtain⟨e2,_⟩:=hok' b _ z2
          rw[e] at e1;cases e1
          exact e2
      refine⟨rfl,⟨fun b o e=>?_,fun b o e=>?_⟩,os,bare⟩
      ·by_cases n:b=T
       ·subst n
        rw[hT] at e
        cases e
        exact .inr (.inl ⟨(hC.tab hT).isCodeTable,rfl,#[],more,rfl,eT2⟩)
       ·exact .inl (kept b o n e)
      ·by_cases n:b=T
       ·subst n;exact⟨_,eT2⟩
       ·exact⟨o,kept b o n e⟩
 cases hk:K.lookup a with
 | some o =>
   have e:=KX a o hk
   rw[ha] at e
   cases e
   refine core (fun b=>if b=T then some (.tbl #[])else none) (fun b n=>.inl (if_neg n)) (if_pos rfl) (.inr ⟨_,vs.toArray,_,hk,rfl,rfl,rfl,by rw[size_toArray,lenV];exact hl,by simpa using rv⟩) (fun b u z=>?_) (fun b z=>?_) fun z=>absurd (if_neg naT) z
   ·by_cases hb:b=T
    ·have z':=(if_pos hb).symm.trans z
     cases z'
     subst hb
     exact hT
    ·have z':=(if_neg hb).symm.trans z
     cases z'
   ·by_cases hb:b=T
    ·exact .inr hb
    ·exact absurd (if_neg hb) z
 | none =>
   refine core (fun b=>if b=a then some (.frz { cls:=.type "list",data:=.seq vs.toArray } (.lst (ns.map V.int)))else if b=T then some (.tbl #[])else none) (fun b n=>?_) ?_ (.inl (.inr ⟨{ cls:=.type "list",data:=.seq vs.toArray },if_pos rfl⟩)) (fun b u z=>?_) (fun b z=>?_) fun _=>hk
   ·by_cases hb:b=a
    ·exact .inr ⟨_,_,if_pos hb⟩
    ·exact .inl ((if_neg hb).trans (if_neg n))
   ·exact(if_neg (Ne.symm naT)).trans (if_pos rfl)
   ·by_cases hb:b=a
    ·have z':=(if_pos hb).symm.trans z
     cases z'
     subst hb
     exact⟨ha,by rw[length_map];exact hl,vs,_,rv,ha⟩
    ·have z':=(if_neg hb).symm.trans z
     by_cases hc:b=T
     ·have z2:=(if_pos hc).symm.trans z'
      cases z2
      subst hc
      exact hT
     ·have z2:=(if_neg hc).symm.trans z'
      cases z2
   ·by_cases hb:b=a
    ·exact .inl hb
    ·by_cases hc:b=T
     ·exact .inr hc
     ·exact absurd ((if_neg hb).trans (if_neg hc)) z
theorem walk_ofT{l:PySem.W.OpenLaw}{n k:Nat}{q:Program}{loose:List Str}{XP:(Str→Option Value)→Heap→Prop}{YP:World→Heap→Prop}{d:DefRec}{K:Params→Frag}{CX:World→CXT}{sp:World→Sp}{x y:Str}
 (hn:l.most=some n) (hn2:n≤sizeLine) (hdf:d.params.defaults=[]) (hr:Room k callerA) (hrec:∃dd,(recsOf q).find? (fun e=>e.name==y)=some dd)
 (hY:∀(w:World)(h:Heap),YP w h→(K w.params).In h)
 (F:∀(w:World)(mg:Str→Option Value)(fa:Addr)(h:Heap),(K w.params).In h→h.Ns mainGlobals mg→mg d.name=some (.ref fa) →
   LamK (K w.params) y∧∃fd:FuncData,(∀(s:Shared)(u:Value),BindsTo s fd ⟨[u],[]⟩ [(x,u)]) ∧
    ∀base:Heap,(K w.params).In base→base.Ns mainGlobals mg→ze7 mg base→FnOk l.prog w (K w.params) mg base (CX w) k fa fd [x] (sp w))
 (hsp:∀(w:World)(H:Hp)(a:Addr)(ns:List Int),ns.length≤n→H (zax (K w.params) y)=some (.tbl #[])→SqL (K w.params) H a (ns.map V.int)→sp w [.ref a] H (fun v _=>v=.bl true) fun _ _ _=>False)
 (hCX:∀(w:World)(H:Hp)(s:Shared)(e:Value)(s':Shared),CX w [] H s (fun _ _ _=>False) e s'→False) :
 PySem.W.WalkO q loose XP YP l.row.toRowW d [] (fun f vs=>PySem.call f vs):=by
 refine Att.attach_call hn hdf fun w s₀ s₁ mg mb fa o pm cd doc a vs ns G Y ho hd hcd hmg hobj hints hlen hg=>?_
 have KX:=hY w _ Y
 obtain⟨⟨⟨c,ht⟩,hTK⟩,fd,hb,hF⟩:=F w mg fa _ KX G.T.g hmg
 obtain⟨dd,hrec⟩:=hrec
 obtain⟨hC,hT⟩:=tab_of G.T KX hrec ht
 exact law_callT KX G.T.g G.T.b G.T.builtins G.T.nolimit G.T.bmain hg hC hT hTK hobj hints (le_trans hlen hn2) hr hF hb (fun H hO hS=>hsp w H a ns hlen hO hS) fun H e s'=>hCX w H s₁ e s'
structure CompScope2 (sc:Scope) (N:List Str) (x x2:Str) (fr:List Str) (ix:List Nat) (scope:Scope):Prop where
 kind:scope.kind=.function
 nocell:∀y∈scope.names,y.2 ≠ .cell
 lcl:∀y∈scope.names,y.2=.local→scope.names.lookup y.1=some .local
 lx:scope.names.lookup x=some .local
 lx2:scope.names.lookup x2=some .local
 free:∀y∈scope.names,y.2=.free→sc.names.lookup y.1=some .cell∨sc.names.lookup y.1=some .free
 at':fr.map some=ix.map fun i=>N[i]?
 frk:∀y∈fr,scope.names.lookup y=some .free∧(sc.names.lookup y=some .cell∨sc.names.lookup y=some .free)
 nd:(x::x2::fr).Nodup
section
variable {X:Cx}{pins:List (Addr×Obj)}{σ:St}{H:Hp}{s:Shared}{x x2:Str}{fr:List Str}{ix:List Nat}{scope:Scope}{cl:List (Str×Addr)}{fp:List Addr}{C D:Addr}
theorem blk_ok2(S:CompScope2 X.env.scope X.N x x2 fr ix scope)(I:Inv X pins σ H s)(hf:∀b∈fp,wH X pins H b)(hfo:∀b∈fp,b<s.heap.objs.size)(hC:s.heap.objs.size≤C)
 (h1:∀y c,cl.lookup y=some c→X.env.cells.lookup y=some c) (h2:∀y,(y,NameKind.free)∈scope.names→∃c,cl.lookup y=some c):(blk X (x::x2::fr) scope cl C s H fp).Ok where
 mod:=I.ok.mod
 kind:=S.kind
 glob:=I.ok.glob
 blt:=I.ok.blt
 above:=hC
 inj:=fun y z c a b=>I.ok.inj y z c (h1 y c a) (h1 z c b)
 has:=fun y hy=>h2 y (zeX (env:=X.env) (scope:=scope) S.nocell hy)
 cab:=fun y c h _=>Bool.noConfusion (show false=true from h)
 hd:=I.ok.hd
 frames:=I.ok.frames
 stk:=.inl rfl
 exf:=fun b hb=>⟨fun z=>absurd (hfo b hb) (by rw[z];exact Nat.not_lt.mpr hC),fun y c e=>(hf b hb).2.2.2.2.1 y c (h1 y c e)⟩
 bs:=I.bs
 bsz:=le_trans I.ok.bsz I.sz
 noex:=fun b o e hb=>by
  rcases (hf b hb).2.2.2.1 with z | z
  ·exact I.ok.noex b o e z
  ·exact absurd (lt_of_lt_of_le (lt_size e) (le_trans I.ok.bsz z)) (lt_irrefl _)
 exfs:=fun b hb z=>by
  rcases List.mem_cons.mp (I.stkSub b z)with e | e
  ·exact(hf b hb).2.1 e
  ·exact(hf b hb).2.2.1 e
 funs:=I.stack
 frf:=I.stkFree
theorem CompScope2.len(S:CompScope2 X.env.scope X.N x x2 fr ix scope):fr.length=ix.length:=by have:=congrArg List.length S.at';simpa using this
theorem blk_inv2{s':Shared}{pn:List (Addr×Obj)}{m:Str→Option Value}(S:CompScope2 X.env.scope X.N x x2 fr ix scope)(I:Inv X pins σ H s)(hf:∀b∈fp,wH X pins H b)(hfo:∀b∈fp,b<s.heap.objs.size)(hC:s.heap.objs.size≤C)
 (h1:∀y c,cl.lookup y=some c→X.env.cells.lookup y=some c) (h2:∀y,(y,NameKind.free)∈scope.names→∃c,cl.lookup y=some c)
 (ho:s'.os=s.os) (hg:s'.gens=s.gens) (k:∀b o,s.heap.get? b=some o→s'.heap.get? b=some o) (hn:s'.heap.Ns C m)
 (hp:∀p∈pn,s'.heap.get? p.1=some p.2∧s.heap.objs.size≤p.1∧p.1≠C∧∀v,p.2.data ≠ .cell v) :
 Inv (blk X (x::x2::fr) scope cl C s H fp) pn (none::none::cap ix σ) H s':=by
 obtain⟨mX,hnX,hlX⟩:=I.loc
 refine⟨blk_ok2 S I hf hfo hC h1 h2,ho,by rw[hg];exact I.bare,Un.kept k,⟨m,hn,fun i y v e1 e2 e3=>?_⟩,fun y c e=>?_,I.hok.fresh hC,fun y c e=>I.freeC y c (h1 y c e),fun p hp'=>?_,I.hok.kept k,by
  show(none::none::cap ix σ).length=(x::x2::fr).length
  simp[zin,S.len]⟩
 ·rcases i with _ | _ | j
  ·cases e2
  ·cases e2
  ·have e1':fr[j]? = some y:=e1
   have e2':(cap ix σ)[j]? = some (some v):=e2
   obtain⟨f1,f2⟩:=S.frk y (mem_of_getElem? e1')
   unfold cap at e2'
   rw[getElem?_map] at e2'
   cases ei:ix[j]? with
   | none=>rw[ei] at e2';cases e2'
   | some i =>
     rw[ei] at e2'
     have e3':(σ[i]?).join=some v:=Option.some.inj e2'
     have e4:σ[i]? = some (some v):=by
      cases q:σ[i]? with
      | none=>rw[q] at e3';cases e3'
      | some w=>rw[q] at e3';have:w=some v:=e3';rw[this]
     have e5:X.N[i]? = some y:=by
      have:=congrArg (fun l=>l[j]?) S.at'
      simp only[getElem?_map,e1',ei] at this
      simpa using this.symm
     have vis:Vis X.env.scope y:=by
      rcases f2 with z | z
      ·exact .inr (.inl z)
      ·exact .inr (.inr z)
     obtain⟨u,r,l⟩:=hlX i y v e5 e4 vis
     refine⟨u,r,.inr ⟨zbD f1,?_⟩⟩
     rcases l with⟨z,_⟩|⟨_,c,ec,hc⟩
     ·rcases f2 with q | q
      ·have q':=(show X.env.scope.names.lookup y=some .local from z).symm.trans q;cases q'
      ·have q':=(show X.env.scope.names.lookup y=some .local from z).symm.trans q;cases q'
     ·obtain⟨c',hc'⟩:=h2 y (PySem.mem_of_lookup f1)
      have:c'=c:=by have:=h1 y c' hc';rw[ec] at this;exact(Option.some.inj this).symm
      subst this
      refine⟨c',hc',?_⟩
      obtain⟨o,ho',hd⟩:=hc
      exact⟨o,k _ _ ho',hd⟩
 ·obtain⟨v,o,ho',hd⟩:=I.cell y c (h1 y c e)
  exact⟨v,o,k _ _ ho',hd⟩
 ·have hp'':p∈pn:=by simpa [blk] using hp'
  obtain⟨q1,q2,q3,q4⟩:=hp p hp''
  refine⟨q1,I.hok.fresh q2,q3,fun z=>?_,q4⟩
  obtain⟨_,o,ho',_⟩:=I.stack.mem z
  exact absurd (lt_of_lt_of_le (lt_size ho') q2) (lt_irrefl _)
end
def zfw(K:Frag)(J:It)(c:St)(tc:TT)(te:TE)(H1:Hp)(fin:List V→Hp→Prop):Prop :=
 ∃W:Nat→Nat→List V→Hp→Prop,(∃m,W 0 m [] H1)∧∀i m ys H,W i m ys H →
  (J.stop i H∧ys.length≤sizeLine∧fin ys H) ∨
  (J.go i H∧ys.length<sizeLine∧∃N:List V→Hp→Prop,(∀ys' H',N ys' H'→∃m',m'<m∧W (i+1) m' ys' H')∧∀x H',J.yld i H x H'→∃t a b,x=.ref t∧SqT K H' t [a,b]∧tc (some a::some b::c) H' fun d H2=>if d=true then te (some a::some b::c) H2 fun y H3=>N (ys++[y]) H3 else N ys H2)
def tComp2(K:Frag)(ix:List Nat)(wi:TI)(tc:TT)(te:TE):TE:=fun σ H Q=>wi σ H fun J H1=>zfw K J (cap ix σ) tc te H1 fun ys H2=>∀l,H2 l=none→Q (.ref l) (upd H2 l (.lst ys))
section
variable {X:Cx}{x x2:Str}{fr:List Str}{ix:List Nat}{scope:Scope}{elt iter:Expr}{ifs:List Expr}{px px2 tp pos:Pos}{tk:Nat}{wi:TI}{tc:TT}{te:TE}
theorem zhM{use:Option (Value→Sem Unit)}{Q:Value→Shared→Prop}{pins:List (Addr×Obj)}{s2:Shared}{σ:St}{H2:Hp}{it:Addr}{fp:List Addr}{tn:Nat→Heap→Prop}{J:It}{cl:List (Str×Addr)}(S:CompScope2 X.env.scope X.N x x2 fr ix scope)(hc:X.calm=true)
 (hif:∀cl C s2 H2 fp,PIf (blk X (x::x2::fr) scope cl C s2 H2 fp) ifs tc) (he:∀cl C s2 H2 fp,PE (blk X (x::x2::fr) scope cl C s2 H2 fp) elt te)
 (h1:∀y c,cl.lookup y=some c→X.env.cells.lookup y=some c) (h2:∀y,(y,NameKind.free)∈scope.names→∃c,cl.lookup y=some c)
 (I2:Inv X pins σ H2 s2) (T:Turn X.prog X.w X.K (.Tuple [.Name x px,.Name x2 px2] tk tp) J fp it tn) (st2:tn 0 s2.heap) (f2:∀b∈fp,wH X pins H2 b) {fin:List V→Hp→Prop} (wc:zfw X.K J (cap ix σ) tc te H2 fin)
 (hQ:∀(D C:Addr)(ys:List V)(H':Hp)(s':Shared)(m:Str→Option Value),Inv X pins σ (upd H' D (.lst ys)) s'→H' D=none→s'.heap.Ns C m→D≠C→s2.heap.objs.size≤C→H' C=none→fin ys H' →
   compPost (model X.prog X.w) X.A X.xe use Q (.ref D) C (.ok .next) s') :
 wpAny (model X.prog X.w) X.A (newList []) (fun acc s₃=>wpAny (model X.prog X.w) X.A (newFunctionEnv scope X.env.globals cl [] X.env.qual none .none (some X.env)) (fun cenv s₄ =>
  codeAny (model X.prog X.w) X.A (.compStart (.ListComp elt [⟨.Tuple [.Name x px,.Name x2 px2] tk tp,iter,ifs,0⟩] scope pos) 0 (.ref it) acc { cenv with scope:=relabel scope X.env }) (compPost (model X.prog X.w) X.A X.xe use Q acc cenv.locals) s₄) X.xe s₃) X.xe s2:=by
 have hfo:∀b∈fp,b<s2.heap.objs.size:=fun b hb=>by
  obtain⟨o,e,_⟩:=T.obj 0 _ st2 b hb
  exact lt_size e
 refine wpAny_newObj_type (wpAny_newFunctionEnv S.nocell (by intro y hy;simp at hy) (fun h₁ hns₁ hsb₁=>?_) S.kind)
 dsimp only at hns₁ hsb₁ ⊢
 generalize hHp:s2.heap.push { cls:=.type "list",dict:=none,data:=.seq ([]:List Value).toArray }=Hp2 at hns₁ hsb₁ ⊢
 have hCs:Hp2.objs.size=s2.heap.objs.size+1:=by rw[←hHp,size_push]
 have hDC:s2.heap.objs.size≠Hp2.objs.size:=by rw[hCs];exact ne_of_lt (lt_succ_self _)
 have hCle:s2.heap.objs.size≤Hp2.objs.size:=by rw[hCs];exact le_succ _
 have zen:∀b,b<s2.heap.objs.size→b≠Hp2.objs.size:=fun b hb=>by rw[hCs];exact ne_of_lt (lt_succ_of_lt hb)
 have old:∀b o,s2.heap.get? b=some o→h₁.get? b=some o:=fun b o e=>hsb₁.extBut b o (zen b (lt_size e)) (get?_push_of_some _ (hHp ▸ get?_push_of_some _ e))
 have hacc:h₁.get? s2.heap.objs.size=some { cls:=.type "list",data:=.seq ([]:List Value).toArray 0 }:=hsb₁.extBut _ _ hDC (get?_push_of_some _ (hHp ▸ get?_push_size _ rfl))
 have st1:tn 0 h₁:=T.keep 0 _ _ st2 fun b _ o e=>old b o e
 have fpD:∀b∈fp,b≠s2.heap.objs.size:=fun b hb=>ne_of_lt (hfo b hb)
 generalize hD:s2.heap.objs.size=D at hacc hDC fpD ⊢
 have hDle:s2.heap.objs.size≤D:=le_of_eq hD
 generalize hC:Hp2.objs.size=C at hns₁ hsb₁ hDC hCle ⊢
 have oldD:∀b o,s2.heap.get? b=some o→b≠D:=fun b o e z=>absurd (lt_size e) (by rw[z,←hD];exact lt_irrefl _)
 obtain⟨W,⟨m0,w0⟩,turn⟩:=wc
 have loop:∀s₃:Shared,s₃={ s2 with heap:=h₁,toks:=s2.toks+([]:List (Str×Value)).length } →
  codeAny (model X.prog X.w) X.A (.compLoop (.ListComp elt [⟨.Tuple [.Name x px,.Name x2 px2] tk tp,iter,ifs,0⟩] scope pos) 0 (.ref it) (.ref D) (compEnvC scope cl C X.env))
   (compPost (model X.prog X.w) X.A X.xe use Q (.ref D) C) s₃:=by
  rintro s₃ rfl
  have I0:Inv (blk X (x::x2::fr) scope cl C s2 H2 fp) [(D,{ cls:=.type "list",data:=.seq ([]:List Value).toArray 0 })] (none::none::cap ix σ) H2 { s2 with heap:=h₁,toks:=s2.toks+([]:List (Str×Value)).length } :=
   blk_inv2 S I2 f2 hfo hCle h1 h2 rfl rfl old hns₁ (fun p hp=>by
    have e:p=(D,{ cls:=.type "list",data:=.seq ([]:List Value).toArray 0 }):=by simpa using hp
    subst e
    exact⟨hacc,hDle,hDC,fun v z=>by cases z⟩)
  have stat:∀{its:Obj}{H':Hp},(∀b∈fp,H' b=none)→∀b∈fp,wH (blk X (x::x2::fr) scope cl C s2 H2 fp) [(D,its)] H' b:=fun {its H'} hn b hb=>by
   refine⟨hn b hb,fun z=>?_,fun z=>(I0.ok.exfs b hb z),.inl hb,fun y c e=>(I0.ok.exf b hb).2 y c e,fun p hp z=>?_⟩
   ·exact(I0.ok.exf b hb).1 z
   ·have e:p=(D,its):=by simpa [blk] using hp
    subst e
    exact fpD b hb (Eq.symm z)
  refine zdl (env:=compEnvC scope cl C X.env)
   (fun n s'=>∃i ys its k v0 v1 H',Vals ys its∧Inv (blk X (x::x2::fr) scope cl C s2 H2 fp) [(D,{ cls:=.type "list",data:=.seq its.toArray k })] (v0::v1::cap ix σ) H' s'∧tn i s'.heap∧(∀b∈fp,H' b=none)∧W i n ys H') ?_ m0
   ⟨0,[],[],0,none,none,H2,.nil,I0,st1,fun b hb=>(f2 b hb).1,w0⟩
  rintro n s3 ⟨i,ys,its,k,v0,v1,H3,rv,I3,st3,fr3,w3⟩
  rcases turn i n ys H3 w3 with⟨stop,hz,hfin⟩|⟨go,hz,N,hN,step⟩
  ·refine thn (T.done (blk X (x::x2::fr) scope cl C s2 H2 fp) rfl rfl rfl hc i _ s3 _ H3 _ I3 (stat fr3) st3 stop) fun r s4 ⟨hr,I4⟩=>?_
   subst hr
   have pD:=I4.pin (D,{ cls:=.type "list",data:=.seq its.toArray k }) (by simp[blk])
   obtain⟨mC,hnC,_⟩:=I4.loc
   have hH3D:H3 D=none:=pD.2.1
   have hok':HOk X.prog X.w (upd H3 D (.lst ys)) s4.heap:=fun b u e=>by
    by_cases hb:b=D
    ·subst hb
     rw[zd] at e;cases e
     exact⟨hz,its,k,rv,pD.1⟩
    ·rw[zi hb] at e
     exact(I4.hok b u e).stay (fun c v _ q=>q) (fun c q=>by rw[zi (zj q hH3D)];exact q) fun c xs q=>by rw[zi (zj q hH3D)];exact q
   have b4:Un (frs X.stack) fp H2 H3 s2.heap s4.heap:=I4.base
   have un:Un (frs X.stack) fp H2 (upd H3 D (.lst ys)) s2.heap s4.heap :=
    ⟨b4.keep,b4.slot,fun b o q n hx=>by
     rw[zi (oldD b o q)];exact b4.free b o q n hx,b4.there,fun b xs q=>by rw[zi (zj (b4.tups b xs q) hH3D)];exact b4.tups b xs q,
     fun b o u q=>by rw[zi (zj (b4.frzs b o u q) hH3D)];exact b4.frzs b o u q,fun b ps q=>by
      obtain⟨more,e⟩:=b4.tbls b ps q
      exact⟨more,by rw[zi (zj e hH3D)];exact e⟩⟩
   have I5:Inv X pins σ (upd H3 D (.lst ys)) s4:=I2.call' (ch:=fp) I4.os un hok' I4.bare fun b hb=>by
    obtain⟨g0,g1,g2,g3,g4,g5⟩:=f2 b hb
    exact⟨g3,g1,g4,g5⟩
   exact hQ D C ys H3 s4 mC I5 hH3D hnC hDC hCle I4.free hfin
  ·refine thn (T.item (blk X (x::x2::fr) scope cl C s2 H2 fp) rfl rfl rfl hc i _ s3 _ H3 _ I3 (stat fr3) st3 go) fun r s4 ⟨u,hr,h4⟩=>?_
   subst hr
   refine thn h4 fun _ s5 ⟨y,H5,I5,r5,y5,st5,fr5⟩=>?_
   have I5':=I5.pinned (stat fr5) (T.obj _ _ st5)
   have pg:PG (blk X (x::x2::fr) scope cl C s2 H2 fp) (.Tuple [.Name x px,.Name x2 px2] tk tp) (gTup X.K 2 (gCons (zf0 0) (gCons (zf0 1) gNil))) :=
    pg_tup hc (zeT (zH S.nd rfl (.inl (lookup_relabel_local S.lx)) (.inr (lookup_relabel_local S.lx))) (zeT (zH S.nd rfl (.inl (lookup_relabel_local S.lx2)) (.inr (lookup_relabel_local S.lx2))) pgs_nil))
   obtain⟨t5,y1,y2,ey,ht5,q5⟩:=step y _ y5
   refine thn (pg _ s5 _ H5 y u (fun σ6 H6=>σ6=some y1::some y2::cap ix σ∧H6=H5) I5' r5 ⟨t5,_,ey,ht5,rfl,_,_,rfl,_,_,rfl,rfl,rfl,rfl⟩) fun _ s6 ⟨σ6,H6,I6,e6,e6'⟩=>?_
   subst e6 e6'
   refine thn (hif cl C s2 H2 fp _ s6 _ _ _ I6 q5) fun b s7 ⟨H7,I7,q7⟩=>?_
   have again:∀{s8:Shared}{H8:Hp}{its':List Value}{k':Nat}{ys':List V},Vals ys' its'→Inv (blk X (x::x2::fr) scope cl C s2 H2 fp) [(D,{ cls:=.type "list",data:=.seq its'.toArray k' })] (some y1::some y2::cap ix σ) H8 s8→(∀b∈fp,∀o,s5.heap.get? b=some o→s8.heap.get? b=some o)→(∀b∈fp,H8 b=none)→N ys' H8 →
    ∃m,m<n∧∃i ys its k v0 v1 H',Vals ys its∧Inv (blk X (x::x2::fr) scope cl C s2 H2 fp) [(D,{ cls:=.type "list",data:=.seq its.toArray k })] (v0::v1::cap ix σ) H' s8∧tn i s8.heap∧(∀b∈fp,H' b=none)∧W i m ys H' :=
    fun {s8 H8 its' k' ys'} rv8 I8 kp fr8 nn=>let ⟨m',hm,w8⟩:=hN ys' H8 nn;⟨m',hm,i+1,ys',its',k',some y1,some y2,H8,rv8,I8,T.keep _ _ _ st5 kp,fr8,w8⟩
   cases b with
   | false =>
     rw[if_neg Bool.false_ne_true] at q7 ⊢
     refine again rv I7.unpinned (fun b hb o e=>(I7.pin (b,o) (by simp[blk];exact .inr (yx hb e))).1) (fun b hb=>?_) q7
     obtain⟨o,e,d⟩:=T.obj _ _ st5 b hb
     exact(I7.pin (b,o) (by simp[blk];exact .inr (yx hb e))).2.1
   | true =>
     rw[if_pos rfl] at q7 ⊢
     refine thn (he cl C s2 H2 fp _ s7 _ _ _ I7 q7) fun v s8 ⟨z,H8,I8,r8,q8⟩=>?_
     have pD:=I8.pin (D,{ cls:=.type "list",data:=.seq its.toArray k }) (by simp[blk])
     have hvl:ys.length=its.length:=rv.length
     refine append_at (hsz:=by show its.toArray.size≤sizeLine;rw[size_toArray];omega) pD.1 fun h₉ hs₉ hD₉=>?_
     have eo:({ cls:=.type "list",data:=.seq (its.toArray.push v) (k+1) }:Obj)={ cls:=.type "list",data:=.seq (its++[v]).toArray (k+1) }:=by rw[push_toArray]
     rw[eo] at hD₉
     have pn8:∀b∈fp,∀o,s5.heap.get? b=some o→s8.heap.get? b=some o∧H8 b=none:=fun b hb o e=>by
      have q:=I8.pin (b,o) (by simp[blk];exact .inr (yx hb e))
      exact⟨q.1,q.2.1⟩
     have J8:=I8.unpinned.pins_of (pins':=[]) (fun p hp=>by cases hp)
     have f2D:wH (blk X (x::x2::fr) scope cl C s2 H2 fp) [] H8 D:=⟨pD.2.1,pD.2.2.1,pD.2.2.2.1,.inr hDle,fun y c e z=>by
      obtain⟨v,o,ho,_⟩:=I2.cell y c (h1 y c e)
      exact oldD c o ho z,fun p hp=>by cases hp⟩
     have I9:Inv (blk X (x::x2::fr) scope cl C s2 H2 fp) [] (some y1::some y2::cap ix σ) H8 { s8 with heap:=h₉ }:=J8.turned (t':=s8.toks) (it:=D) (fun b o hb e=>(hs₉.2 b hb).trans e) f2D.1 f2D.2.1 f2D.2.2.2.1 f2D.2.2.2.2.1 f2D.2.2.2.2.2
     refine again (its':=its++[v]) (k':=k+1) (ys':=ys++[z]) (rv.append (.cons r8 .nil)) (I9.pins_of fun p hp=>?_) (fun b hb o e=>(hs₉.2 b (fpD b hb)).trans (pn8 b hb o e).1) (fun b hb=>?_) q8
     ·have e:p=(D,{ cls:=.type "list",data:=.seq (its++[v]).toArray (k+1) }):=by simpa using hp
      subst e
      exact⟨hD₉,f2D.1,f2D.2.1,f2D.2.2.1,fun v z=>by cases z⟩
     ·obtain⟨o,e,d⟩:=T.obj _ _ st5 b hb
      exact(pn8 b hb o e).2
 exact codeAny_compStart_list (loop _ rfl) (T.self X.A 0 _ _ _ st1 (loop _ rfl))
theorem zgv(S:CompScope2 X.env.scope X.N x x2 fr ix scope)(hc:X.calm=true)(hi:PI X (.Tuple [.Name x px,.Name x2 px2] tk tp) iter wi)(hif:∀cl C s2 H2 fp,PIf (blk X (x::x2::fr) scope cl C s2 H2 fp) ifs tc)(he:∀cl C s2 H2 fp,PE (blk X (x::x2::fr) scope cl C s2 H2 fp) elt te)
 (hs:∀x,foldedSetIterable iter X.env x=pure x:=by intro _;rfl):PE X (.ListComp elt [⟨.Tuple [.Name x px,.Name x2 px2] tk tp,iter,ifs,0⟩] scope pos) (tComp2 X.K ix wi tc te):=by
 intro pins s σ H Q I h
 obtain⟨cl,ecl,h1,h2⟩:=zbT (env:=X.env) (scope:=scope) fun y hy hf=>I.ok.has y.1 (S.free y hy hf)
 rw[eval_ListComp]
 refine wpAny_comprehension_free (use:=none) rfl hs ecl S.kind S.lcl (thn (hi pins s σ H _ I h) fun xv s1 q1=>thn q1 fun itv s2 q2=>?_)
 obtain⟨it,fp,tn,J,H2,rfl,I2,T,st2,f2,wc⟩:=q2
 refine zhM S hc hif he h1 h2 I2 T st2 f2 wc fun D C ys H' s' m I' hD hn hDC hC hHC fin=>?_
 refine⟨m,hn,fun h' sb=>⟨.ref D,upd H' D (.lst ys),?_,rfl,fin D hD⟩⟩
 have hcf:wH X pins (upd H' D (.lst ys)) C:=by
  have z:=I2.fpOk (H':=upd H' D (.lst ys)) hC (by rw[zi (Ne.symm hDC)];exact hHC)
  exact z
 exact I'.turned (t':=s'.toks) (it:=C) (fun b o hb e=>(sb.2 b hb).trans e) hcf.1 hcf.2.1 hcf.2.2.2.1 hcf.2.2.2.2.1 hcf.2.2.2.2.2
theorem zfZ{i:Nat}{y:Str}{py spos:Pos}(S:CompScope2 X.env.scope X.N x x2 fr ix scope)(hc:X.calm=true)(hN:X.N.Nodup)(hiy:X.N[i]? = some y)(hy:Loc X.env.scope y)(hi:PI X (.Tuple [.Name x px,.Name x2 px2] tk tp) iter wi)(hif:∀cl C s2 H2 fp,PIf (blk X (x::x2::fr) scope cl C s2 H2 fp) ifs tc)(he:∀cl C s2 H2 fp,PE (blk X (x::x2::fr) scope cl C s2 H2 fp) elt te)
 (hsw:swapsWith (.ListComp elt [⟨.Tuple [.Name x px,.Name x2 px2] tk tp,iter,ifs,0⟩] scope pos) (some (.Name y py)) spos.line X.env=pure true:=by rfl)
 (hf:X.fn y=true∨X.env.scope.names.lookup y=some .local:=by first | exact .inl rfl | exact .inr rfl | assumption)
 (hs:∀x,foldedSetIterable iter X.env x=pure x:=by intro _;rfl) :
 PS X (.Assign [.Name y py] (.ListComp elt [⟨.Tuple [.Name x px,.Name x2 px2] tk tp,iter,ifs,0⟩] scope pos) spos) (tAsg (tComp2 X.K ix wi tc te) (zf0 i)):=by
 intro pins s σ H Dn I h
 obtain⟨cl,ecl,h1,h2⟩:=zbT (env:=X.env) (scope:=scope) fun y hy hf=>I.ok.has y.1 (S.free y hy hf)
 rw[exec_Assign_Name_used _ _ _ _ hsw]
 refine wpAny_bind (wpAny_standAt (wpAny_bind ?_))
 show wpAny _ X.A (do let _ ←comprehension (.ListComp elt [⟨.Tuple [.Name x px,.Name x2 px2] tk tp,iter,ifs,0⟩] scope pos) scope X.env _ (newList []) false (eval iter X.env) (some (assign (.Name y py) X.env))) _ _ s
 refine wpAny_bind (thn (Q:=fun _ s'=>SP X pins Dn .next s') ?_ fun _ s' q=>wpAny_pure (wpAny_pure q))
 refine wpAny_comprehension_free (use:=some (assign (.Name y py) X.env)) rfl hs ecl S.kind S.lcl (thn (hi pins s σ H _ I h) fun xv s1 q1=>thn q1 fun itv s2 q2=>?_)
 obtain⟨it,fp,tn,J,H2,rfl,I2,T,st2,f2,wc⟩:=q2
 refine zhM S hc hif he h1 h2 I2 T st2 f2 wc fun D C ys H' s' m I' hD hn hDC hC hHC fin=>?_
 have hcf:wH X pins (upd H' D (.lst ys)) C:=I2.fpOk (H':=upd H' D (.lst ys)) hC (by rw[zi (Ne.symm hDC)];exact hHC)
 show wpAny _ X.A (assign (.Name y py) X.env (.ref D)) _ _ s'
 refine wpAny_assign_Name (zfA (v:=V.ref D) I' hN hiy hy rfl (fun s'' I'' hsb=>?_) hf)
 obtain⟨a,sb,ha⟩:=hsb
 have hCa:C≠a:=fun z=>by
  rcases ha with q | q
  ·exact hcf.2.1 (z.trans q)
  ·exact hcf.2.2.2.2.1 y a q z.symm
 refine⟨m,hn.sameBut sb hCa,fun h' sb'=>⟨_,_,I''.turned (t':=s''.toks) (it:=C) (fun b o hb e=>(sb'.2 b hb).trans e) hcf.1 hcf.2.1 hcf.2.2.2.1 hcf.2.2.2.2.1 hcf.2.2.2.2.2,fin D hD⟩⟩
end
section
variable {X:Cx}{pins:List (Addr×Obj)}{σ:St}{H:Hp}{s:Shared}{h':Heap}{t':Nat}{ch:List Addr}
theorem Inv.movedF(I:Inv X pins σ H s)(o:∀c∈ch,wH X pins H c)(k:∀b u,b∉ch→s.heap.get? b=some u→h'.get? b=some u):Inv X pins σ H { s with heap:=h',toks:=t' }:=by
 have nit:∀b u,H b=some u→b∉ch:=fun b u e z=>by rw[(o b z).1] at e;cases e
 have nL:X.env.locals∉ch:=fun z=>(o _ z).2.1 rfl
 refine I.step (g':=s.gens) (d':=s.drawn) (ch:=ch) (fun b hb=>⟨(o b hb).2.2.2.1,(o b hb).2.1,(o b hb).2.2.2.2.1,(o b hb).2.2.2.2.2⟩) (fun b u _ _ hc e _=>k b u hc e) (fun b u _ _ hc e _=>⟨u.slots,k b u hc e⟩)
  (fun _ _ _ _ n=>n) (fun b u hc e=>⟨u,k b u hc e⟩) (fun _ _ e=>e) (fun _ _ _ e=>e) (fun b ps e=>⟨#[],by rw[e];simp⟩) (fun m hm=>?_) (fun b u e=>?_) I.bare
 ·obtain⟨ob,es,ep,ho,r⟩:=hm
  exact⟨ob,es,ep,k _ ob nL ho,r⟩
 ·refine(I.hok b u e).stay (fun c v hc q=>k c v ?_ q) (fun _ q=>q) fun _ _ q=>q
  rcases hc with z | z
  ·rw[z];exact nit b u e
  ·exact nit c _ z
theorem Inv.movedFT{T:Addr}{v:HO}(I:Inv X pins σ H s)(o:∀c∈ch,wH X pins H c)(k:∀b u,b∉ch→s.heap.get? b=some u→h'.get? b=some u)(hT:s.heap.objs.size≤T)(new:ObjOk X.prog X.w (upd H T v) h' T v):
 Inv X pins σ (upd H T v) { s with heap:=h',toks:=t' }:=by
 have hf:H T=none:=I.hok.fresh hT
 have nit:∀b u,H b=some u→b∉ch:=fun b u e z=>by rw[(o b z).1] at e;cases e
 have nL:X.env.locals∉ch:=fun z=>(o _ z).2.1 rfl
 have up:∀b u,H b=some u→upd H T v b=some u:=fun b u e=>by rw[zi (zj e hf)];exact e
 refine I.step (g':=s.gens) (d':=s.drawn) (ch:=ch) (fun b hb=>⟨(o b hb).2.2.2.1,(o b hb).2.1,(o b hb).2.2.2.2.1,(o b hb).2.2.2.2.2⟩) (fun b u _ _ hc e _=>k b u hc e) (fun b u _ _ hc e _=>⟨u.slots,k b u hc e⟩)
  (fun b u _ e n=>?_) (fun b u hc e=>⟨u,k b u hc e⟩) (fun b _ e=>up b _ e) (fun b _ _ e=>up b _ e) (fun b ps e=>⟨#[],by rw[up b _ e];simp⟩) (fun m hm=>?_) (fun b u e=>?_) I.bare
 ·rw[zi (fun z=>by rw[z] at e;exact absurd (lt_size e) (Nat.not_lt.mpr hT))];exact n
 ·obtain⟨ob,es,ep,ho,r⟩:=hm
  exact⟨ob,es,ep,k _ ob nL ho,r⟩
 ·by_cases hb:b=T
  ·subst hb
   rw[zd] at e
   cases e
   exact new
  ·rw[zi hb] at e
   refine(I.hok b u e).stay (fun c w hc q=>k c w ?_ q) (fun c q=>up c _ q) fun c _ q=>up c _ q
   rcases hc with z | z
   ·rw[z];exact nit b u e
   ·exact nit c _ z
end
def Itz(K:Frag)(l1 l2:Addr):It :=
 ⟨fun i H=>∃xs ys x y,SqL K H l1 xs∧SqL K H l2 ys∧xs[i]? = some x∧ys[i]? = some y,
  fun i H v H'=>∃t x y,v=.ref t∧H t=none∧H'=upd H t (.tup [x,y])∧(∀xs,SqL K H l1 xs→xs[i]? = some x)∧∀ys,SqL K H l2 ys→ys[i]? = some y,
  fun i H=>∃xs ys,SqL K H l1 xs∧SqL K H l2 ys∧(xs.length≤i∨ys.length≤i)⟩
theorem turn_zip{P:Program}{w:World}{K:Frag}{elts:List Expr}{k:Nat}{pos:Pos}{z TI TO i1 i2 l1 l2:Addr}(D:ZipApart z TI TO i1 i2 l1 l2):
 Turn P w K (.Tuple elts k pos) (Itz K l1 l2) [z,TI,TO,i1,i2] z (fun i h=>IsZip h z TI TO .none∧IsPair h TI (.ref i1) (.ref i2)∧(∃a b,IsPair h TO a b)∧h.IsListIter i1 l1 i∧h.IsListIter i2 l2 i) where
 mem:=by simp
 obj:=fun i h st b hb=>by
  obtain⟨a1,a2,⟨_,_,a3⟩,⟨o4,e4,c4,d4⟩,⟨o5,e5,c5,d5⟩⟩:=st
  simp only[mem_cons,not_mem_nil,or_false] at hb
  rcases hb with rfl | rfl | rfl | rfl | rfl
  ·exact⟨_,a1,fun v z=>by cases z⟩
  ·exact⟨_,a2,fun v z=>by cases z⟩
  ·exact⟨_,a3,fun v z=>by cases z⟩
  ·exact⟨_,e4,fun v z=>by rw[d4] at z;cases z⟩
  ·exact⟨_,e5,fun v z=>by rw[d5] at z;cases z⟩
 keep:=fun i h h' st k=>by
  obtain⟨a1,a2,⟨a,b,a3⟩,a4,a5⟩:=st
  exact⟨k _ (by simp) _ a1,k _ (by simp) _ a2,⟨a,b,k _ (by simp) _ a3⟩,a4.at fun o e=>k _ (by simp) o e,a5.at fun o e=>k _ (by simp) o e⟩
 item:=by
  intro X hP hw hK hc i pins s σ H E I hf st hg
  subst hP hw hK
  obtain⟨xs,ys,x,y,q1,q2,hx,hy⟩:=hg
  obtain⟨hz,hTI,⟨a,b,hTO⟩,h1,h2⟩:=st
  obtain⟨us,r1,p1,z1⟩:=I.list q1
  obtain⟨vs,r2,p2,z2⟩:=I.list q2
  obtain⟨u,hu,ru⟩:=r1.get hx
  obtain⟨v,hv,rv⟩:=r2.get hy
  have nTI:TI ∉ [z,TO,i1,i2]:=by simp[D.TIz,D.TITO,D.TIi1,D.TIi2]
  have ff:∀c ∈ [z,TO,i1,i2],wH X pins H c:=fun c hc=>hf c (by simp only[mem_cons,not_mem_nil,or_false] at hc ⊢;rcases hc with e | e | e | e <;> simp[e])
  refine wpAny_pyNext_zip_item D hz hTI hTO h1 h2 p1.isList p2.isList (by simpa using hu) (by simpa using hv) fun h' a1 a2 a3 a4 a5 a6 hk=>?_
  have kk:∀c o,c ∉ [z,TO,i1,i2]→s.heap.get? c=some o→h'.get? c=some o:=fun c o hc e=>hk c o (fun w=>hc (by simp[w])) (fun w=>hc (by simp[w])) (fun w=>hc (by simp[w])) (fun w=>hc (by simp[w])) e
  have I1:Inv X pins σ (upd H s.heap.objs.size (.tup [x,y])) { s with heap:=h' }:=I.movedFT (t':=s.toks) ff kk (le_refl _) ⟨by show 2≤sizeLine;decide,[u,v],.cons ru (.cons rv .nil),_,a5,rfl,_,rfl⟩
  refine⟨_,rfl,wpAny_letOwnedTupleGo_zip a1 fun h2' hz' hs'=>?_⟩
  have lt:∀c ∈ [z,TI,TO,i1,i2],c≠s.heap.objs.size:=fun c hc=>by
   have:∃o,s.heap.get? c=some o:=by
    simp only[mem_cons,not_mem_nil,or_false] at hc
    rcases hc with rfl | rfl | rfl | rfl | rfl
    ·exact⟨_,hz⟩
    ·exact⟨_,hTI⟩
    ·exact⟨_,hTO⟩
    ·obtain⟨o,e,_⟩:=h1;exact⟨o,e⟩
    ·obtain⟨o,e,_⟩:=h2;exact⟨o,e⟩
   obtain⟨o,e⟩:=this
   exact ne_of_lt (lt_size e)
  have fz:wH X pins (upd H s.heap.objs.size (.tup [x,y])) z:=by
   obtain⟨f0,f1⟩:=hf z (by simp)
   exact⟨by rw[zi (lt z (by simp))];exact f0,f1⟩
  have I2:Inv X pins σ (upd H s.heap.objs.size (.tup [x,y])) { s with heap:=h2' }:=Inv.movedF (s:={ s with heap:=h' }) (t':=s.toks) (ch:=[z]) I1 (fun c hc=>by rw[List.mem_singleton.mp hc];exact fz) fun c o hc e=>hs'.extBut c o (fun w=>hc (by simp[w])) e
  refine⟨.ref s.heap.objs.size,_,I2,rfl,⟨_,x,y,rfl,I.hok.fresh (le_refl _),rfl,fun xs' q=>?_,fun ys' q=>?_⟩,⟨hz',hs'.extBut _ _ D.TIz (kk _ _ nTI hTI),⟨_,_,hs'.extBut _ _ D.TOz a2⟩,a3.extBut hs'.extBut D.i1z,a4.extBut hs'.extBut D.i2z⟩,fun c hc=>?_⟩
  ·rw[I.list_inj q q1];exact hx
  ·rw[I.list_inj q q2];exact hy
  ·rw[zi (lt c hc)];exact(hf c hc).1
 done:=by
  intro X hP hw hK hc i pins s σ H E I hf st hg
  subst hP hw hK
  obtain⟨xs,ys,q1,q2,hend⟩:=hg
  obtain⟨hz,hTI,⟨a,b,hTO⟩,h1,h2⟩:=st
  obtain⟨us,r1,p1,z1⟩:=I.list q1
  obtain⟨vs,r2,p2,z2⟩:=I.list q2
  have l1':=r1.length
  have l2':=r2.length
  have ff:∀c ∈ [z,TO,i1,i2],wH X pins H c:=fun c hc=>hf c (by simp only[mem_cons,not_mem_nil,or_false] at hc ⊢;rcases hc with e | e | e | e <;> simp[e])
  refine wpAny_pyNext_zip_end (I.ok.hd hc) D hz hTI hTO h1 h2 p1.isList p2.isList ?_ fun h' hk=>⟨rfl,I.movedF (t':=s.toks) ff fun c o hc e=>hk c o (fun w=>hc (by simp[w])) (fun w=>hc (by simp[w])) (fun w=>hc (by simp[w])) (fun w=>hc (by simp[w])) e⟩
  rcases hend with h | h
  ·exact .inl (by simp;omega)
  ·exact .inr (by simp;omega)
 self:=fun _ _ _ _ _ st h=>wpAny_pyIter_zip st.1 h
inductive IIZip (K:Frag) (vs:List V) (H1:Hp) (R:It→Hp→Prop):Prop
 | mk (l1:_) (l2:_) (xs:_) (ys:_):vs=[.ref l1,.ref l2]→SqL K H1 l1 xs→SqL K H1 l2 ys→R (Itz K l1 l2) H1→IIZip K vs H1 R
def iZip(K:Frag)(ta:TA):TI:=fun σ H R=>ta σ H fun vs H1=>IIZip K vs H1 R
section
variable {X:Cx}{ex ey:Expr}{t:TA}{p pos tp:Pos}{elts:List Expr}{tk:Nat}
theorem pi_zip(hg:Gl X "zip")(hm:X.mg "zip"=none)(ha:PA X [ex,ey] t)(he:starEach [ex,ey] X.env=(false,eval ex X.env)::starEach [ey] X.env:=by rfl)(hpl:(backTo pos (starEach [ey] X.env)).any (·.1)=false:=by rfl):
 PI X (.Tuple elts tk tp) (.Call (.Name "zip" p) [ex,ey] [] pos) (iZip X.K t):=by
 intro pins s σ H R I h
 refine wpAny_Call_Name_kw (zcH I hg hm boot_zip ?_ (by decide) (by decide))
 refine callWith_type1 (thn (ha pos pins s σ H _ I h) fun us s1 hh=>?_) he hpl
 obtain⟨vs,H1,I1,r1,l1,l2,xs,ys,rfl,q1,q2,q⟩:=hh
 cases r1 with
 | cons e1 r=>cases r with
   | cons e2 r =>
     cases r
     cases e1
     cases e2
     obtain⟨us,r1,p1,_⟩:=I1.list q1
     obtain⟨ws,r2,p2,_⟩:=I1.list q2
     have b1:=p1.isList
     have b2:=p2.isList
     have t1:l1<s1.heap.objs.size:=by obtain⟨u,hu,_⟩:=b1;exact lt_size hu
     have t2:l2<s1.heap.objs.size:=by obtain⟨u,hu,_⟩:=b2;exact lt_size hu
     refine call_zip_2 b1 b2 fun h' hz hTI hTO hi1 hi2 hsz hk=>?_
     have n:∀(l:Addr)(d:Nat),l<s1.heap.objs.size→l≠s1.heap.objs.size+d:=fun l d h=>ne_of_lt (lt_of_lt_of_le h (le_add_right _ _))
     have m:∀d e:Nat,d≠e→s1.heap.objs.size+d≠s1.heap.objs.size+e:=fun d e h w=>h (Nat.add_left_cancel w)
     refine wpAny_pyIter_zip hz ?_
     refine⟨s1.heap.objs.size+4,[s1.heap.objs.size+4,s1.heap.objs.size+2,s1.heap.objs.size+3,s1.heap.objs.size+0,s1.heap.objs.size+1],_,Itz X.K l1 l2,H1,rfl,I1.kept (t':=s1.toks) hk,
      turn_zip (i1:=s1.heap.objs.size+0) (i2:=s1.heap.objs.size+1) (TI:=s1.heap.objs.size+2) (TO:=s1.heap.objs.size+3) (l1:=l1) (l2:=l2) ⟨m 2 4 (by decide),m 3 4 (by decide),m 0 4 (by decide),m 1 4 (by decide),m 2 3 (by decide),m 2 0 (by decide),m 2 1 (by decide),m 3 0 (by decide),m 3 1 (by decide),m 0 1 (by decide),n _ 4 t1,n _ 3 t1,n _ 0 t1,n _ 1 t1,n _ 4 t2,n _ 3 t2,n _ 0 t2,n _ 1 t2⟩,
      ⟨hz,hTI,⟨_,_,hTO⟩,hi1,hi2⟩,fun b hb=>?_,q⟩
     have hb':∃d,b=s1.heap.objs.size+d:=by
      simp only[mem_cons,not_mem_nil,or_false] at hb
      rcases hb with w | w | w | w | w
      ·exact⟨4,w⟩
      ·exact⟨2,w⟩
      ·exact⟨3,w⟩
      ·exact⟨0,w⟩
      ·exact⟨1,w⟩
     obtain⟨d,rfl⟩:=hb'
     exact I1.fpOk (le_add_right _ _) (I1.hok.fresh (le_add_right _ _))
end
theorem for_zip{K:Frag}{l1 l2:Addr}{xs ys:List V}{g:TG}{tb:TS}{D:Ends}{σ:St}{H:Hp}(Pv:Nat→St→Hp→Prop)(h0:Pv 0 σ H)(hl:∀i σ H,i≤min xs.length ys.length→Pv i σ H→SqL K H l1 xs∧SqL K H l2 ys)
 (hs:∀i x y t σ H,xs[i]? = some x→ys[i]? = some y→H t=none→Pv i σ H→g (.ref t) σ (upd H t (.tup [x,y])) fun σ2 H2=>tb { D with nx:=Pv (i+1),ct:=Pv (i+1),bk:=D.nx } σ2 H2) (hd:∀σ H,Pv (min xs.length ys.length) σ H→D.nx σ H) :
 ∃W:Nat→Nat→St→Hp→Prop,(∃m,W 0 m σ H)∧∀i m σ H,W i m σ H →
  ((Itz K l1 l2).stop i H∧D.nx σ H)∨((Itz K l1 l2).go i H∧∃N:St→Hp→Prop,(∀σ' H',N σ' H'→∃m',m'<m∧W (i+1) m' σ' H')∧∀x H',(Itz K l1 l2).yld i H x H'→g x σ H' fun σ2 H2=>tb { D with nx:=N,ct:=N,bk:=D.nx } σ2 H2):=by
 refine⟨fun i m σ H=>m=min xs.length ys.length-i∧i≤min xs.length ys.length∧Pv i σ H,⟨min xs.length ys.length,by simp,zero_le _,h0⟩,?_⟩
 rintro i m σ H ⟨rfl,hi,p⟩
 obtain⟨q1,q2⟩:=hl i σ H hi p
 by_cases hlt:i<min xs.length ys.length
 ·have h1:i<xs.length:=by omega
  have h2:i<ys.length:=by omega
  refine .inr ⟨⟨xs,ys,xs[i],ys[i],q1,q2,by simp[h1],by simp[h2]⟩,Pv (i+1),fun σ' H' p'=>⟨min xs.length ys.length-(i+1),by omega,rfl,hlt,p'⟩,fun v H' y=>?_⟩
  obtain⟨t,x,y,rfl,hn,rfl,e1,e2⟩:=y
  exact hs i x y t σ _ (e1 xs q1) (e2 ys q2) hn p
 ·have e:i=min xs.length ys.length:=by omega
  subst e
  exact .inl ⟨⟨xs,ys,q1,q2,by omega⟩,hd σ H p⟩
end L2
namespace L2
open PySem PySem.W PySem.Spec PyProof.Rows
theorem comp2_list{K:Frag}{a:Addr}{xs:List V}{c:St}{tc:TT}{te:TE}{H:Hp}{fin:List V→Hp→Prop}(Pv:Nat→List V→Hp→Prop)(h0:Pv 0 [] H)(hl:∀i ys H,i≤xs.length→Pv i ys H→SqL K H a xs∧ys.length≤i)(hz:xs.length≤sizeLine)
 (hs:∀i x ys H,xs[i]? = some x→Pv i ys H→∃t u v,x=.ref t∧SqT K H t [u,v]∧tc (some u::some v::c) H fun b H2=>if b=true then te (some u::some v::c) H2 fun y H3=>Pv (i+1) (ys++[y]) H3 else Pv (i+1) ys H2) (hd:∀ys H,Pv xs.length ys H→fin ys H):zfw K (Itl K a) c tc te H fin:=by
 refine⟨fun i m ys H=>m=xs.length-i∧i≤xs.length∧Pv i ys H,⟨xs.length,by simp,zero_le _,h0⟩,?_⟩
 rintro i m ys H ⟨rfl,hi,p⟩
 obtain⟨q,hy⟩:=hl i ys H hi p
 by_cases hlt:i<xs.length
 ·refine .inr ⟨⟨xs,xs[i],q,by simp[hlt]⟩,by omega,fun ys' H'=>Pv (i+1) ys' H',fun ys' H' p'=>⟨xs.length-(i+1),by omega,rfl,hlt,p'⟩,fun x H' y=>?_⟩
  obtain⟨e,y⟩:=y
  subst e
  exact hs i x ys _ (y xs q) p
 ·have e:i=xs.length:=by omega
  subst e
  exact .inl ⟨⟨xs,q,le_refl _⟩,by omega,hd ys H p⟩
theorem zfR{K:Frag}{a:Addr}{xs:List V}{c:St}{te:TE}{H:Hp}{fin:List V→Hp→Prop}(Pv:Nat→List V→Hp→Prop)(h0:Pv 0 [] H)(hl:∀i ys H,i≤xs.length→Pv i ys H→SqL K H a xs∧ys.length≤i)(hz:xs.length≤sizeLine)
 (hs:∀i x ys H,xs[i]? = some x→Pv i ys H→∃t u v,x=.ref t∧SqT K H t [u,v]∧te (some u::some v::c) H fun y H3=>Pv (i+1) (ys++[y]) H3) (hd:∀ys H,Pv xs.length ys H→fin ys H):zfw K (Itl K a) c zjr te H fin :=
 comp2_list Pv h0 hl hz (fun i x ys H e p=>let ⟨t,u,v,e1,e2,h⟩:=hs i x ys H e p;⟨t,u,v,e1,e2,zhB (B:=Pv (i+1) ys H) h⟩) hd
end L2
namespace L2
open PySem PySem.W PySem.Spec PyProof.Rows PySem.Calls
def LamS(P:Addr)(q:Str)(H:Hp):Prop:=∃ps,H P=some (.tbl ps)∧TriplesOk ps.toList∧∀pos cv,codeAmong pos ps.toList=some cv→∃c',cv=.ref c'∧H c'=some (zf8 c' q)
theorem LamS.new{P:Addr}{q:Str}{H:Hp}(h:H P=some (.tbl #[])):LamS P q H:=⟨#[],h,trivial,fun pos cv e=>by simp[codeAmong] at e⟩
theorem LamS.same{P:Addr}{q:Str}{H H':Hp}(h:LamS P q H)(s:Same H H'):LamS P q H':=by
 obtain⟨ps,h1,h2,h3⟩:=h
 exact⟨ps,s _ _ h1,h2,fun pos cv e=>let ⟨c',e1,e2⟩:=h3 pos cv e;⟨c',e1,s _ _ e2⟩⟩
def zcM:Str:=Str.ofString "by_place" ++ ".<locals>." ++ "<lambda>"
theorem zkg{pos:Pos}{a b:Int}{c x:Value}:∀(l:List Value),TriplesOk l→codeAmong pos (l++[rawInt a,rawInt b,c])=some x→codeAmong pos l=some x∨x=c:=by
 intro l h e
 fun_induction TriplesOk l with
 | case1 =>
   simp only[List.nil_append,codeAmong,rawInt] at e
   split at e
   ·cases e;exact .inr rfl
   ·cases e
 | case2 a' t b' u y zeA ih =>
   simp only[cons_append,codeAmong] at e ⊢
   split at e
   ·rename_i hc;rw[if_pos hc];exact .inl e
   ·rename_i hc;rw[if_neg hc];exact ih h e
 | case3=>exact h.elim
section
variable {X:Cx}{pins:List (Addr×Obj)}{σ:St}{H:Hp}{s:Shared}{E:Value→Shared→Prop}
theorem lam_eval2{params:Arguments}{body:Expr}{scope:Scope}{pos:Pos}{c P:Addr}{Q:Value→Shared→Prop}(I:Inv X pins σ H s)(hL:LamS P (X.env.qual ++ "<lambda>") H)(hcode:X.env.code=.ref c)(C:CodeHd X.base c P)(B:ze7 X.mg X.base)
 (hdef:defaultsOf params X.env=([],[])) (hcl:closureFor scope X.env=pure [])
 (q:∀(f c':Addr)(pm ctv:Value)(H3:Hp)(s':Shared),(∀b u,b≠P→s.heap.get? b=some u→s'.heap.get? b=some u)→s.heap.objs.size≤s'.heap.objs.size →
   (∀a,a<s.heap.objs.size→a≠P→H3 a=H a)→H3 f=some (fnO f (kla_obj "<lambda>" (X.env.qual ++ "<lambda>") params body scope [] pm c' ctv))→H3 c'=some (zf8 c' (X.env.qual ++ "<lambda>"))→SameN H H3→LamS P (X.env.qual ++ "<lambda>") H3→Inv X pins σ H3 s'→Q (.ref f) s') :
 wpAny (model X.prog X.w) X.A (eval (.Lambda params body scope pos) X.env) Q E s:=by
 obtain⟨ps,hP,ht,hh⟩:=hL
 have hb:∀b o,X.base.get? b=some o→b≠P:=fun b o e z=>by have:=(I.bs b o e).2;rw[z,hP] at this;cases this
 have hPg:s.heap.get? P=some (tabObj ps):=I.hok P _ hP
 have hPs:P<s.heap.objs.size:=I.hok.lt hP
 obtain⟨bm,ob,b1,b2,b3,b4,b5,b6⟩:=B
 have hG:mainGlobals≠P:=by obtain⟨o,_,_,e,_⟩:=I.mod.glob;exact hb _ o e
 have hbG:bm≠mainGlobals:=fun z=>by
  obtain⟨o,es,ep,e,hd,_⟩:=I.mod.glob
  rw[z,e] at b3;cases b3;rw[hd] at b6;cases b6
 cases hA:codeAmong pos ps.toList with
 | none =>
   refine kla_eval hdef (kla_makeFunction (ps:=ps) (mg:=X.mg) hcl I.ok.glob (I.mod.glob.keeps I.bk) hcode (C.keeps I.bk) hPg ht hA hG ⟨bm,ob,b1,b2,hbG,hb _ _ b3,I.bk _ _ b3,b4,b5,b6⟩ fun c' ctv h' tk hx hge hlt hrec htb=>?_)
   have J:=I.lam (tk:=tk) (fo:=kla_obj "<lambda>" (X.env.qual ++ "<lambda>") params body scope [] ((X.mg "__name__").getD .none) c' ctv) rfl hP hx hge hlt hrec htb
   have nPc:P≠c':=ne_of_lt (lt_of_lt_of_le hPs hge)
   have ncf:c'≠h'.objs.size:=ne_of_lt hlt
   have nPf:P≠h'.objs.size:=ne_of_lt (lt_trans (lt_of_lt_of_le hPs hge) hlt)
   have old:∀a,a<s.heap.objs.size→a≠P→(upd (upd (upd H P (.tbl (ps ++ #[rawInt ↑pos.line,rawInt ↑pos.col,Value.ref c']))) c' (zf8 c' (X.env.qual ++ "<lambda>"))) h'.objs.size (fnO h'.objs.size (kla_obj "<lambda>" (X.env.qual ++ "<lambda>") params body scope [] ((X.mg "__name__").getD .none) c' ctv))) a=H a:=fun a h1 h2=>by
    rw[zi (ne_of_lt (lt_trans (lt_of_lt_of_le h1 hge) hlt)),zi (ne_of_lt (lt_of_lt_of_le h1 hge)),zi h2]
   have atP:(upd (upd (upd H P (.tbl (ps ++ #[rawInt ↑pos.line,rawInt ↑pos.col,Value.ref c']))) c' (zf8 c' (X.env.qual ++ "<lambda>"))) h'.objs.size (fnO h'.objs.size (kla_obj "<lambda>" (X.env.qual ++ "<lambda>") params body scope [] ((X.mg "__name__").getD .none) c' ctv))) P=some (.tbl (ps ++ #[rawInt ↑pos.line,rawInt ↑pos.col,Value.ref c'])):=by rw[zi nPf,zi nPc,zd]
   have hcc:(upd (upd (upd H P (.tbl (ps ++ #[rawInt ↑pos.line,rawInt ↑pos.col,Value.ref c']))) c' (zf8 c' (X.env.qual ++ "<lambda>"))) h'.objs.size (fnO h'.objs.size (kla_obj "<lambda>" (X.env.qual ++ "<lambda>") params body scope [] ((X.mg "__name__").getD .none) c' ctv))) c'=some (zf8 c' (X.env.qual ++ "<lambda>")):=by rw[zi ncf,zd]
   refine q h'.objs.size c' ((X.mg "__name__").getD .none) ctv _ _ (fun b u n e=>get?_push_of_some _ (hx b u n e)) ?_ old zd hcc ⟨fun b u e n=>?_,fun b qs e=>?_⟩ ⟨_,atP,?_,fun pos' cv e=>?_⟩ J
   ·show s.heap.objs.size≤(h'.push _).objs.size
    rw[size_push]
    exact le_of_lt (Nat.lt_of_le_of_lt hge (lt_succ_of_lt hlt))
   ·rw[old b (I.hok.lt e) (fun w=>by rw[w,hP] at e;cases e;exact n _ rfl)];exact e
   ·by_cases hb:b=P
    ·subst hb
     exact⟨_,atP⟩
    ·exact⟨qs,by rw[old b (I.hok.lt e) hb];exact e⟩
   ·rw[Array.toList_append]
    exact TriplesOk_snoc _ _ _ _ ht
   ·rw[Array.toList_append] at e
    rcases zkg _ ht e with e | rfl
    ·obtain⟨c2,e1,e2⟩:=hh pos' cv e
     exact⟨c2,e1,by rw[old c2 (I.hok.lt e2) (fun w=>by rw[w,hP] at e2;cases e2)];exact e2⟩
    ·exact⟨c',rfl,hcc⟩
 | some cv =>
   obtain⟨c',rfl,hcc⟩:=hh pos cv hA
   refine kla_eval hdef (kla_makeFunctionHit (ps:=ps) (mg:=X.mg) hcl I.ok.glob (I.mod.glob.keeps I.bk) hcode (C.keeps I.bk) hPg ht hA ⟨bm,ob,b1,b2,hbG,hb _ _ b3,I.bk _ _ b3,b4,b5,b6⟩ fun ctv h' tk hk hsz=>?_)
   have hn:H h'.objs.size=none:=I.hok.fresh hsz
   have J:Inv X pins σ (upd H h'.objs.size (fnO h'.objs.size (kla_obj "<lambda>" (X.env.qual ++ "<lambda>") params body scope [] ((X.mg "__name__").getD .none) c' ctv))) { s with heap:=h'.push (kla_obj "<lambda>" (X.env.qual ++ "<lambda>") params body scope [] ((X.mg "__name__").getD .none) c' ctv),toks:=tk } :=
    I.laid (t':=tk) (fun b u e=>get?_push_of_some _ (hk b u e)) hsz ⟨get?_push_size _ rfl,⟨_,get?_push_size _ rfl⟩,fun h1 h2 a b=>b _ a⟩
   refine q h'.objs.size c' ((X.mg "__name__").getD .none) ctv _ _ (fun b u n e=>get?_push_of_some _ (hk b u e)) ?_ (fun a h1 h2=>zi (ne_of_lt (lt_of_lt_of_le h1 hsz))) zd ((Same.new hn) _ _ hcc) (Same.new hn).toN (LamS.same ⟨ps,hP,ht,hh⟩ (Same.new hn)) J
   show s.heap.objs.size≤(h'.push _).objs.size
   rw[size_push]
   exact Nat.le_succ_of_le hsz
end
def tSZ2(K:Frag)(P:Addr)(qq:Str)(t:TA):TE:=fun σ H Q=>t σ H fun vs H1=>∃(l1 l2:Addr)(xs:List Int)(yv:List V),vs=[.ref l1,.ref l2]∧SqL K H1 l1 (xs.map V.int)∧SqL K H1 l2 yv∧xs.length=yv.length∧0<xs.length∧xs.length<64∧LamS P qq H1 ∧
 ∀(H2:Hp)(ts:List Addr)(l:Addr)(p:Array Nat),SameN H1 H2→LamS P qq H2→Prs H2 ts ((xs.map V.int).zip yv)→H2 l=none→M14.I (fun k=>xs.getD k 0) xs.length p xs.length→Q (.ref l) (upd H2 l (.lst (p.toList.map fun i=>V.ref (ts.getD i 0))))
section
variable {X:Cx}{ex ey:Expr}{t:TA}{c P:Addr}{y:Str}{p1 p2 p3 p4 p5 pos pos2 lpos kp:Pos}{j:Nat}{params:Arguments}{scope:Scope}
theorem pe_sortz2{qq:Str}(hqq:X.env.qual ++ "<lambda>"=qq)(hr:Room 3 X.A)(hg1:Gl X "sorted")(hm1:X.mg "sorted"=none)(hg2:Gl X "zip")(hm2:X.mg "zip"=none)(hcode:X.env.code=.ref c)(C:codeHdIn X.K c P=true)(B:ze7 X.mg X.base)(S:FnScope [y] [y] scope)
 (hy:scope.names.lookup y=some .local) (hdb:(y==("__debug__":Str))=false) (hdc:(y==("__classdict__":Str))=false)
 (hdef:defaultsOf params X.env=([],[])) (hcl:closureFor scope X.env=pure [])
 (hbind:∀(q:Str)(pm cv ctv u:Value)(b:Expr),bindArgs (kla_fn "<lambda>" q params b scope [] pm cv ctv) ⟨[u],[]⟩=pure [(y,u)])
 (ha:PA X [ex,ey] t) (he:starEach [ex,ey] X.env=(false,eval ex X.env)::starEach [ey] X.env:=by rfl) (hpl:(backTo pos2 (starEach [ey] X.env)).any (·.1)=false:=by rfl) :
 PE X (.Call (.Name "sorted" p1) [.Call (.Name "zip" p2) [ex,ey] [] pos2] [⟨some "key",.Lambda params (.Subscript (.Name y p3) (.Constant (.int 0) j p4) p5) scope lpos,kp⟩] pos) (tSZ2 X.K P qq t):=by
 intro pins s σ H Q I h
 refine wpAny_Call_Name_kw (zcH I hg1 hm1 boot_sorted ?_ (by decide) (by decide))
 refine callWith_kw ?_
 refine Calls.spliced_cons ?_
 refine wpAny_Call_Name_kw (zcH I hg2 hm2 boot_zip ?_ (by decide) (by decide))
 refine callWith_type1 (thn (ha pos2 pins s σ H _ I h) fun us s1 hh=>?_) he hpl
 obtain⟨vs,H1,I1,r1,l1,l2,xs,yv,rfl,q1,q2,hl,h0,h64,hP,q⟩:=hh
 obtain⟨u1,u2,rfl⟩:∃u1 u2,us=[u1,u2]:=by
  cases r1 with
  | cons _ r=>cases r with
    | cons _ r=>cases r with
      | nil=>exact⟨_,_,rfl⟩
 cases r1 with
 | cons e1 r=>cases r with
   | cons e2 r =>
     cases (show u1=Value.ref l1 from e1)
     cases (show u2=Value.ref l2 from e2)
     refine made_zip I1 q1 q2 fun s2 z TI TO i1 i2 xv' yv' rx ry I2 D o st=>?_
     refine Calls.spliced_nil ?_
     refine kws_cons ?_
     subst hqq
     refine lam_eval2 (c:=c) (P:=P) I2 hP hcode (codeHd_of_K I2.mod.kin C) B hdef hcl fun f c' pm ctv H3 s3 k hsz old hf hcc sn ls3 I3=>?_
     refine kws_nil ?_
     obtain⟨ps,hP,_⟩:=hP
     have hPg:s2.heap.get? P=some (tabObj ps):=I2.hok P _ hP
     have nO:∀a ∈ [z,TO,i1,i2],a≠P:=fun a ha w=>by have:=(o a ha).1.free;rw[w,hP] at this;cases this
     have nX:∀(a:Addr)(u:Obj),s2.heap.get? a=some u→u.cls ≠ .none→a≠P:=fun a u e n w=>by rw[w,hPg] at e;cases e;exact n rfl
     obtain⟨a1,a2,a3,a4,a5,a6⟩:=st
     obtain⟨b1,ba,bb,b2⟩:IsZip s2.heap z TI TO .none∧∃a b,IsPair s2.heap TO a b:=by
      rcases a6 with⟨_,w⟩|⟨w,_⟩
      ·exact w
      ·exact absurd w (lt_irrefl _)
     have st3:ZSt z TI TO i1 i2 l1 l2 xv'.toArray yv'.toArray 0 s3:=by
      refine⟨k _ _ (nX _ _ a1 (by intro w;cases w)) a1,a2.at fun u e=>k _ u (nO _ (by simp)) e,a3.at fun u e=>k _ u (nO _ (by simp)) e,a4.at fun u e=>k _ u ?_ e,a5.at fun u e=>k _ u ?_ e,.inl ⟨rfl,k _ _ (nO _ (by simp)) b1,ba,bb,k _ _ (nO _ (by simp)) b2⟩⟩
      ·obtain⟨u',e',hc,_⟩:=a4
       exact nX _ _ e' (by rw[hc];intro w;cases w)
      ·obtain⟨u',e',hc,_⟩:=a5
       exact nX _ _ e' (by rw[hc];intro w;cases w)
     have o3:∀a ∈ [z,TO,i1,i2],Own X pins H3 a∧a<s3.heap.objs.size:=fun a ha=>by
      obtain⟨oa,la⟩:=o a ha
      exact⟨⟨by rw[old a la (nO a ha)];exact oa.free,oa.loc,oa.new,oa.cell,oa.pin,oa.fs⟩,lt_of_lt_of_le la hsz⟩
     have lx:(xs.map V.int).length=xs.length:=length_map _
     have F:FnOk X.prog X.w X.K X.mg X.base CX0 1 f (kla_fn "<lambda>" (X.env.qual ++ "<lambda>") params (.Subscript (.Name y p3) (.Constant (.int 0) j p4) p5) scope [] pm (.ref c') ctv) [y] (sp_fst f c' (kla_obj "<lambda>" (X.env.qual ++ "<lambda>") params (.Subscript (.Name y p3) (.Constant (.int 0) j p4) p5) scope [] pm c' ctv) (X.env.qual ++ "<lambda>")):=by
      refine lam_ok S (fun vs H Q E h=>?_) (fun vs H Q E h=>⟨h.1,h.2.1⟩) fun A outer s H vs Q E hr h=>?_
      ·obtain⟨_,_,t,x,y',rfl,_⟩:=h
       rfl
      ·obtain⟨_,_,t,x,y',rfl,ht,hq⟩:=h
       exact⟨_,zq yo (pe_var (i:=0) rfl (.inl hy) hdb hdc) zh (fun _ _=>rfl),⟨_,rfl,t,[x,y'],0,x,rfl,rfl,.inl (.inl ht),rfl,hq⟩⟩
     show wpAny (model X.prog X.w) X.A (call (.builtin "sorted") [.ref z] [(Str.ofString "key",.ref f)]) _ _ s3
     refine zkl (kz:=xs) (xv:=xs.map V.int) (yv:=yv) (q:=f) hr.hd D rx ry (by rw[lx];exact hl) (by rw[lx];exact h64) (by rw[lx];exact h0) lx.symm I3 o3 st3 (fun H4 ts s4 pr i v pins' s5 hv I5=>?_) fun s4 H4 ts l p sm pr hn hi I4=>?_
     ·rw[getElem?_map] at hv
      cases et:ts[i]? with
      | none=>rw[et] at hv;cases hv
      | some a =>
        rw[et] at hv
        cases hv
        obtain⟨⟨pa,pb⟩,ep,ha⟩:=pr.get i a et
        have epa:pa=.int (xs.getD i 0):=by
         rw[List.getElem?_zip_eq_some] at ep
         obtain⟨ep,_⟩:=ep
         rw[getElem?_map] at ep
         rw[getD_eq_getElem?_getD]
         cases ex:xs[i]? with
         | none=>rw[ex] at ep;cases ep
         | some x=>rw[ex] at ep;cases ep;rfl
        subst epa
        refine wpAny_call (codeAny_mono (F.run X.A.in1.in1 X.stack s5 H4 ⟨[.ref a],[]⟩ [.ref a] [.ref a] (fun x H'=>x=.int (xs.getD i 0)∧H'=H4) E0 hr.in1.in1 I5.env0.in1.in1 (.of_eq (hbind _ _ _ _ _ _)) (.cons rfl .nil) ⟨s4 _ _ hf,s4 _ _ hcc,a,_,_,rfl,ha,rfl,rfl⟩) fun r s6 hq=>?_)
        cases r with
        | error e=>exact hq
        | ok fl =>
          cases fl with
          | next=>exact False.elim hq
          | brk=>exact False.elim hq
          | cont=>exact False.elim hq
          | ret u =>
            obtain⟨v,H',I6,rv,rfl,rfl⟩:=I5.after hq
            obtain⟨tk,rfl⟩:=rv
            exact⟨I6,tk,rfl⟩
     ·rw[lx] at hi
      exact⟨.ref l,_,I4,rfl,q H4 ts l p (sn.trans sm.toN) (ls3.same sm) pr hn hi⟩
end
theorem comp2_zip{K:Frag}{l1 l2:Addr}{xs ys:List V}{c:St}{tc:TT}{te:TE}{H:Hp}{fin:List V→Hp→Prop}(Pv:Nat→List V→Hp→Prop)(h0:Pv 0 [] H)(hl:∀i zs H,i≤min xs.length ys.length→Pv i zs H→SqL K H l1 xs∧SqL K H l2 ys∧zs.length≤i)(hz:min xs.length ys.length≤sizeLine)
 (hs:∀i x y t zs H,xs[i]? = some x→ys[i]? = some y→H t=none→Pv i zs H→tc (some x::some y::c) (upd H t (.tup [x,y])) fun b H2=>if b=true then te (some x::some y::c) H2 fun z H3=>Pv (i+1) (zs++[z]) H3 else Pv (i+1) zs H2) (hd:∀zs H,Pv (min xs.length ys.length) zs H→fin zs H):zfw K (Itz K l1 l2) c tc te H fin:=by
 refine⟨fun i m zs H=>m=min xs.length ys.length-i∧i≤min xs.length ys.length∧Pv i zs H,⟨min xs.length ys.length,by simp,zero_le _,h0⟩,?_⟩
 rintro i m zs H ⟨rfl,hi,p⟩
 obtain⟨q1,q2,hy⟩:=hl i zs H hi p
 by_cases hlt:i<min xs.length ys.length
 ·have h1:i<xs.length:=by omega
  have h2:i<ys.length:=by omega
  refine .inr ⟨⟨xs,ys,xs[i],ys[i],q1,q2,by simp[h1],by simp[h2]⟩,by omega,Pv (i+1),fun zs' H' p'=>⟨min xs.length ys.length-(i+1),by omega,rfl,hlt,p'⟩,fun v H' y=>?_⟩
  obtain⟨t,x,y,rfl,hn,rfl,e1,e2⟩:=y
  exact⟨t,x,y,rfl,.inl (.inl zd),hs i x y t zs _ (e1 xs q1) (e2 ys q2) hn p⟩
 ·have e:i=min xs.length ys.length:=by omega
  subst e
  exact .inl ⟨⟨xs,ys,q1,q2,by omega⟩,by omega,hd zs H p⟩
section
variable {X:Cx}
end
section
variable {X:Cx}{tg:Expr}
end
end L2
namespace L2
open PySem PySem.Spec PyProof.Rows PySem.Builtin PySem.Builtin.Str
theorem strs_of:∀{ts:List Str}{us:List Value},Vals (ts.map V.str) us→∃l:List (Str×Tok),us=strValues l∧l.map (·.1)=ts
 | [],_,h=>by cases h;exact⟨[],rfl,rfl⟩
 | x::ts,_,h=>by
   cases h with
   | cons r h =>
     obtain⟨t,rfl⟩:=r
     obtain⟨l,rfl,e⟩:=strs_of h
     exact⟨(x,t)::l,rfl,by rw[map_cons,e]⟩
theorem join_fits{z:Str}{ts:List Str}(hz:z.length≤10)(hl:ts.length≤200)(h:∀t∈ts,t.length≤2000):tooLong (ts.toArray.foldl (·+ ·.length+z.length) 0)=false:=by
 have go:∀(l:List Str)(n:Nat),(∀t∈l,t.length≤2000)→l.foldl (·+ ·.length+z.length) n≤n+2010*l.length:=by
  intro l
  induction l with
  | nil=>intro n _;simp
  | cons t l ih =>
    intro n h
    have:=ih (n+t.length+z.length) fun u hu=>h u (mem_cons_of_mem _ hu)
    have h1:=h t (mem_cons_self ..)
    rw[foldl_cons,length_cons]
    omega
 have:=go ts 0 h
 have hln:=zr
 unfold tooLong
 rw[List.foldl_toArray]
 simp only[gt_iff_lt,decide_eq_false_iff_not]
 omega
section
variable {X:Cx}
theorem zcZ:zam X (.type "str") (fun xs H Q=>(∃i:Int,xs=[.int i]∧i.natAbs.log2<1920∧Q (.str (toString i)) H)∨∃y,xs=[.str y]∧Q (.str y) H):=by
 intro pins s σ H xs us Q I r h
 rcases h with⟨i,rfl,hd,q⟩|⟨y,rfl,q⟩
 ·obtain⟨u,rfl,⟨t,rfl⟩⟩:=r.one
  exact P.str_of_int hd ⟨.str _,H,I.tok _,⟨_,rfl⟩,q⟩
 ·obtain⟨u,rfl,⟨t,rfl⟩⟩:=r.one
  exact P.str_of_str ⟨.str _,H,I,⟨_,rfl⟩,q⟩
inductive IRJoin (K:Frag) (x:V) (xs:List V) (H:Hp) (Q:VK):Prop
 | mk (z:Str) (a:Addr) (ts:List Str):x=.str z→xs=[.ref a]→SqL K H a (ts.map V.str)→z.length≤10→ts.length≤200→((∀t∈ts,t.length≤2000))→Q (.str (Txt.join z ts)) H→IRJoin K x xs H Q
def rJoin(K:Frag):V→List V→Hp→VK→Prop:=fun x xs H Q=>IRJoin K x xs H Q
theorem ms_join:MtR X "str.join" (rJoin X.K):=by
 intro pins s σ H x xs v us Q I rx rv h
 obtain⟨z,a,ts,rfl,rfl,hq,h1,h2,h3,q⟩:=h
 obtain⟨t,rfl⟩:=rx
 obtain⟨u,rfl,ru⟩:=rv.one
 cases ru
 obtain⟨its,rr,p,_⟩:=I.list hq
 obtain⟨l,rfl,rfl⟩:=strs_of rr
 have hf:=join_fits h1 h2 h3
 exact call_meets F.slot_str_join (typeIs_str _ _ _) F.entry_str_join (F.args_str_join_2 _ _) (meets_str_join_list z t a l hf) ⟨p.isList,post_join l ⟨joinFit_length hf,fun t' k=>⟨.str _,H,I.tok _,⟨_,rfl⟩,q⟩⟩⟩
end
def tN(n:Int):Str:=Str.ofString (toString n)
theorem zdM{i:Int}(h:i.natAbs≤100000):i.natAbs.log2<1920:=by
 by_cases h0:i.natAbs=0
 ·rw[h0];decide
 ·have:i.natAbs.log2<17:=(Nat.log2_lt h0).mpr (by omega)
  omega
section
variable {X:Cx}
end
end L2
namespace M2
open PySem L2
def zfY(z:Str):Bool:=(decide (1≤(z.length:Int)) && decide ((z.length:Int)≤8)) && (z.cps.toList.map zeb).all id
def ze3(ts:List Str):Bool:=(decide (1≤(ts.length:Int)) && decide ((ts.length:Int)≤15)) && (decide ts.Nodup && (ts.map zfY).all id)
theorem zcY(z:Str):zfY z=true↔(1≤z.length∧z.length≤8)∧∀c∈z.cps.toList,zeb c=true:=by
 unfold zfY
 simp only[Bool.and_eq_true,decide_eq_true_eq,all_map,all_eq_true,Function.comp,id]
 constructor
 ·rintro ⟨⟨h1,h2⟩,h3⟩
  exact⟨⟨by omega,by omega⟩,h3⟩
 ·rintro ⟨⟨h1,h2⟩,h3⟩
  exact⟨⟨by omega,by omega⟩,h3⟩
theorem zh1(ts:List Str):ze3 ts=true↔(1≤ts.length∧ts.length≤15)∧ts.Nodup∧∀z∈ts,(1≤z.length∧z.length≤8)∧∀c∈z.cps.toList,zeb c=true:=by
 unfold ze3
 simp only[Bool.and_eq_true,decide_eq_true_eq,all_map,all_eq_true,Function.comp,id,zcY]
 constructor
 ·rintro ⟨⟨h1,h2⟩,h3,h4⟩
  exact⟨⟨by omega,by omega⟩,h3,h4⟩
 ·rintro ⟨⟨h1,h2⟩,h3,h4⟩
  exact⟨⟨by omega,by omega⟩,h3,h4⟩
theorem le_a(c:Nat):(!decide ((⟨#[c]⟩:Str).cps.toList<("a":Str).cps.toList))=decide (97≤c):=by
 have e:("a":Str).cps.toList=[97]:=by decide +kernel
 rw[e]
 show(!decide ([c] < [97]))=_
 by_cases h:97≤c
 ·rw[decide_eq_true h,decide_eq_false];rfl
  simp[cons_lt_cons_iff];omega
 ·rw[decide_eq_false h,decide_eq_true];rfl
  simp[cons_lt_cons_iff];omega
theorem le_z(c:Nat):(!decide (("z":Str).cps.toList<(⟨#[c]⟩:Str).cps.toList))=decide (c≤122):=by
 have e:("z":Str).cps.toList=[122]:=by decide +kernel
 rw[e]
 show(!decide ([122] < [c]))=_
 by_cases h:c≤122
 ·rw[decide_eq_true h,decide_eq_false];rfl
  simp[cons_lt_cons_iff];omega
 ·rw[decide_eq_false h,decide_eq_true];rfl
  simp[cons_lt_cons_iff];omega
end M2
namespace L2
open PySem PySem.Spec PyProof.Rows
end L2
namespace M1
def gap(c:Int):Int:=[1,7,500,998].getD (c%4).toNat 1
def couples(c:Int)(m:Nat):List Int:=(List.range m).map fun(k:Nat)=>(c/4+(k:Int)*gap c)%999+1
theorem zf2(c:Int)(m:Nat):(couples c m).length=m:=by unfold couples;simp
theorem ziL(c:Int)(m:Nat):couples c (m+1)=couples c m++[(c/4+(m:Int)*gap c)%999+1]:=by unfold couples;rw[range_succ,map_append];rfl
theorem zhF{c:Int}{m:Nat}{x:Int}(h:x∈couples c m):1≤x∧x≤999:=by
 obtain⟨k,_,rfl⟩:=List.mem_map.mp h
 have h1:=Int.emod_nonneg (c/4+(k:Int)*gap c) (show(999:Int)≠0 by decide)
 have h2:=Int.emod_lt_of_pos (c/4+(k:Int)*gap c) (show(0:Int)<999 by decide)
 omega
theorem gap_cases(c:Int):gap c=1∨gap c=7∨gap c=500∨gap c=998:=by
 have h:c%4=0∨c%4=1∨c%4=2∨c%4=3:=by omega
 unfold gap
 rcases h with h | h | h | h <;> rw[h]
 ·exact .inl rfl
 ·exact .inr (.inl rfl)
 ·exact .inr (.inr (.inl rfl))
 ·exact .inr (.inr (.inr rfl))
theorem zhy{c:Int}{m:Nat}(hm:m≤999):(couples c m).Nodup:=by
 unfold couples
 refine List.pairwise_map.mpr (List.Pairwise.imp_of_mem (fun {i j} hi hj hlt e=>?_) (pairwise_lt_range (n:=m)))
 have hi:=List.mem_range.mp hi
 have hj:=List.mem_range.mp hj
 rcases gap_cases c with g | g | g | g <;> rw[g] at e <;> omega
def zdK(ns:List Int):Bool:=(decide (1≤(ns.length:Int)) && decide ((ns.length:Int)≤24)) && (decide ns.Nodup && (ns.map fun n=>decide (1≤n) && decide (n≤999)).all id)
theorem goodC_iff(ns:List Int):zdK ns=true↔(1≤ns.length∧ns.length≤24)∧ns.Nodup∧∀n∈ns,1≤n∧n≤999:=by
 unfold zdK
 simp only[Bool.and_eq_true,decide_eq_true_eq,all_map,all_eq_true,Function.comp,id]
 constructor
 ·rintro ⟨⟨h1,h2⟩,h3,h4⟩
  exact⟨⟨by omega,by omega⟩,h3,h4⟩
 ·rintro ⟨⟨h1,h2⟩,h3,h4⟩
  exact⟨⟨by omega,by omega⟩,h3,h4⟩
end M1
namespace L2
open PySem PySem.Spec PyProof.Rows
structure DF (K:Frag) (x:Str) (st:Stmt) (ps:List Str):Prop where
 ex:∃f fd,nsIn K mainGlobals x=some (some (.ref f))∧Fun K x x st f fd∧Binds K fd ps []
structure DM (K:Frag) (C:Addr) (m qual:Str) (st:Stmt) (ps:List Str):Prop where
 ex:∃f fd,findIn K (.ref C) m=some (some (.ref f))∧isFn K (.ref f)=true∧Fun K m qual st f fd∧Binds K fd ps []
section
variable {K:Frag}{st:Stmt}{f C:Addr}{oc:Value}{od an:Option Addr}{osl:Array (Option Value)}{kV doc pm cdv ct:Value}{ps:List Str}
theorem df{x:Str}(a:nsIn K mainGlobals x=some (some (.ref f)))(l:K.lookup f=some ⟨oc,od,.func (fnOf x x (zav st) (y6 st) (zf st) .none kV doc pm an cdv ct),osl⟩)(c:codeIn K cdv x=true)(k:keepIn K (.ref f)=true)
 (h:∀(kV doc pm:Value)(an:Option Addr)(cdv ct:Value)(us:List Value),us.length=ps.length→bindArgs (fnOf x x (zav st) (y6 st) (zf st) .none kV doc pm an cdv ct) ⟨us,[]⟩=pure (ps.zip us)):DF K x st ps:=⟨⟨f,_,a,zfu l c k,(zfu l c k).binds h⟩⟩
theorem dm{m qual:Str}(a:findIn K (.ref C) m=some (some (.ref f)))(i:isFn K (.ref f)=true)(l:K.lookup f=some ⟨oc,od,.func (fnOf m qual (zav st) (y6 st) (zf st) .none kV doc pm an cdv ct),osl⟩)(c:codeIn K cdv qual=true)(k:keepIn K (.ref f)=true)
 (h:∀(kV doc pm:Value)(an:Option Addr)(cdv ct:Value)(us:List Value),us.length=ps.length→bindArgs (fnOf m qual (zav st) (y6 st) (zf st) .none kV doc pm an cdv ct) ⟨us,[]⟩=pure (ps.zip us)):DM K C m qual st ps:=⟨⟨f,_,a,i,zfu l c k,(zfu l c k).binds h⟩⟩
end
section
variable {K:Frag}{mg:Str→Option Value}{st:Stmt}{C:Addr}{ps:List Str}{k:Nat}{sp:Sp}{h:Heap}{x m qual:Str}(P:Program)(w:World)(base:Heap)
theorem yb(X:K.In h)(G:h.Ns mainGlobals mg)(d:DF K x st ps)(g:∀{f fd},Fun K x x st f fd→FnOk P w K mg base CX0 k f fd ps sp):Can P w K mg base k x ps sp:=by
 obtain⟨f,fd,a,F,b⟩:=d.ex
 exact Can.of F (g F) (mg_of X G a) b
theorem canFX(X:K.In h)(G:h.Ns mainGlobals mg)(d:DF K x st ps)(g:∀{f fd},Fun K x x st f fd→FnOk P w K mg base (CX1 P w) k f fd ps sp):CanX P w K mg base k x ps sp:=by
 obtain⟨f,fd,a,F,b⟩:=d.ex
 exact CanX.of F (g F) (mg_of X G a) b
theorem canM(hC:zE K x=C)(d:DM K C m qual st ps)(g:∀{f fd},Fun K m qual st f fd→FnOk P w K mg base CX0 k f fd ps sp):CanM P w K mg base k (zE K x) m ps sp:=by
 obtain⟨f,fd,a,i,F,b⟩:=d.ex
 exact CanM.of hC (g F) ⟨a,i,F.kp⟩ b
theorem zjp(hC:zE K x=C)(d:DM K C m qual st ps)(g:∀{f fd},Fun K m qual st f fd→FnOk P w K mg base (CX1 P w) k f fd ps sp):CanMX P w K mg base k (zE K x) m ps sp:=by
 obtain⟨f,fd,a,i,F,b⟩:=d.ex
 exact CanMX.of hC (g F) ⟨a,i,F.kp⟩ b
theorem canK(hC:zE K x=C)(X:K.In h)(G:h.Ns mainGlobals mg)(ha:nsIn K mainGlobals x=some (some (.ref C)))(mk:makesIn K C=true)(kc:keepIn K (.ref C)=true)(d:DM K C "__init__" qual st ps)(g:∀{f fd},Fun K "__init__" qual st f fd→FnOk P w K mg base (CX1 P w) k f fd ps sp):CanK P w K mg base k x (zE K x) ps sp:=by
 obtain⟨f,fd,a,i,F,b⟩:=d.ex
 exact CanK.of hC (g F) (mg_of X G ha) ⟨mk,a,i,kc⟩ b
end
section
variable {P:List Value→Prop}
theorem on0(p:P []):∀us:List Value,us.length=0→P us
 | [],_=>p
theorem onS{n:Nat}(p:∀(a:Value)(us:List Value),us.length=n→P (a::us)):∀us:List Value,us.length=n+1→P us:=by
 intro us e
 cases us with
 | nil=>cases e
 | cons a r=>exact p a r (Nat.succ.inj e)
end
theorem scM{N P:List Str}{sc:Scope}(a1:sc.kind=.function:=by exact rfl)(a2:sc.isCoroutine=false:=by exact rfl)(a3:sc.isGenerator=false:=by exact rfl)(a4:N.Nodup:=by decide +kernel)(a5:N.take P.length=P:=by exact rfl)(a6:∀x∈P,sc.names.lookup x=some .local∨sc.names.lookup x=some .cell:=by decide +kernel)(a7:∀y∈sc.names,y.2 ≠ .free:=by decide +kernel):FnScope N P sc:=⟨a1,a2,a3,a4,a5,a6,a7⟩
section
variable {sc:Scope}{N:List Str}{x x2:Str}{fr:List Str}{ix:List Nat}{scope:Scope}
theorem csM(a1:scope.kind=.function:=by exact rfl)(a2:∀y∈scope.names,y.2 ≠ .cell:=by decide +kernel)(a3:∀y∈scope.names,y.2=.local→scope.names.lookup y.1=some .local:=by decide +kernel)(a4:scope.names.lookup x=some .local:=by exact rfl)(a5:∀y∈scope.names,y.2=.free→sc.names.lookup y.1=some .cell∨sc.names.lookup y.1=some .free:=by decide +kernel)
 (a6:fr.map some=ix.map fun i=>N[i]? := by exact rfl) (a7:∀y∈fr,scope.names.lookup y=some .free∧(sc.names.lookup y=some .cell∨sc.names.lookup y=some .free):=by decide +kernel) (a8:(x::fr).Nodup:=by decide +kernel):CompScope sc N x fr ix scope:=⟨a1,a2,a3,a4,a5,a6,a7,a8⟩
theorem csMC(a1:scope.kind=.function:=by exact rfl)(b1:∀a acc,cellsFrom a scope.names acc=(x,a)::acc:=by exact fun _ _=>rfl)(b2:∀h:Heap,pushCells h scope.names=h.push { cls:=.type "cell",data:=.cell none }:=by exact fun _=>rfl)(b3:∀y∈scope.names,y.2=.cell→y.1=x:=by decide +kernel)(a3:∀y∈scope.names,y.2=.local→scope.names.lookup y.1=some .local:=by decide +kernel)(a4:scope.names.lookup x=some .cell:=by exact rfl)(a5:∀y∈scope.names,y.2=.free→sc.names.lookup y.1=some .cell∨sc.names.lookup y.1=some .free:=by decide +kernel)
 (a6:fr.map some=ix.map fun i=>N[i]? := by exact rfl) (a7:∀y∈fr,scope.names.lookup y=some .free∧(sc.names.lookup y=some .cell∨sc.names.lookup y=some .free):=by decide +kernel) (a8:(x::fr).Nodup:=by decide +kernel):CompScopeC sc N x fr ix scope:=⟨a1,b1,b2,b3,a3,a4,a5,a6,a7,a8⟩
theorem csM2(a1:scope.kind=.function:=by exact rfl)(a2:∀y∈scope.names,y.2 ≠ .cell:=by decide +kernel)(a3:∀y∈scope.names,y.2=.local→scope.names.lookup y.1=some .local:=by decide +kernel)(a4:scope.names.lookup x=some .local:=by exact rfl)(b4:scope.names.lookup x2=some .local:=by exact rfl)(a5:∀y∈scope.names,y.2=.free→sc.names.lookup y.1=some .cell∨sc.names.lookup y.1=some .free:=by decide +kernel)
 (a6:fr.map some=ix.map fun i=>N[i]? := by exact rfl) (a7:∀y∈fr,scope.names.lookup y=some .free∧(sc.names.lookup y=some .cell∨sc.names.lookup y=some .free):=by decide +kernel) (a8:(x::x2::fr).Nodup:=by decide +kernel):CompScope2 sc N x x2 fr ix scope:=⟨a1,a2,a3,a4,b4,a5,a6,a7,a8⟩
end
section
variable {X:Cx}{e:Expr}{p pos:Pos}{te:TE}
theorem ya(hm:X.mg "len"=none)(he:PE X e te)(hg:Gl X "len":=by rfl)(hs:starEach [e] X.env=(false,eval e X.env)::starEach [] X.env:=by rfl)(hpl:(backTo pos (starEach [] X.env)).any (·.1)=false:=by rfl):
 PE X (.Call (.Name "len" p) [e] [] pos) (tCB (ICall_len_seq X.K) (tCons te tNil)):=zB zfi hg hm PySem.boot_len (za he zb (hs:=hs)) (he:=hs) (hpl:=hpl)
theorem pLenK{K:Frag}(hK:X.K=K)(hm:X.mg "len"=none)(he:PE X e te)(hg:Gl X "len":=by rfl)(hs:starEach [e] X.env=(false,eval e X.env)::starEach [] X.env:=by rfl)(hpl:(backTo pos (starEach [] X.env)).any (·.1)=false:=by rfl):
 PE X (.Call (.Name "len" p) [e] [] pos) (tCB (ICall_len_seq K) (tCons te tNil)):=zB (zhn hK) hg hm PySem.boot_len (za he zb (hs:=hs)) (he:=hs) (hpl:=hpl)
end
section
variable {κ:Type} [DecidableEq κ]
def zaA(kvs:List (κ×V))(k:κ):Option V:=(kvs.find? fun kv=>decide (kv.1=k)).map (·.2)
def zcD(kvs:List (κ×V))(k:κ)(v:V):List (κ×V) :=
 if(kvs.any fun kv=>decide (kv.1=k))=true then kvs.map (fun kv=>if kv.1=k then(kv.1,v)else kv)else kvs++[(k,v)]
theorem wd{p:κ×V}{r:List (κ×V)}{k:κ}(e:p.1=k):zaA (p::r) k=some p.2:=by simp[zaA,find?_cons,e]
theorem wm{p:κ×V}{r:List (κ×V)}{k:κ}(e:¬p.1=k):zaA (p::r) k=zaA r k:=by simp[zaA,find?_cons,e]
theorem zdV(k:κ):∀kvs:List (κ×V),(kvs.any fun kv=>decide (kv.1=k))=(zaA kvs k).isSome
 | []=>rfl
 | p::r=>by
   rw[any_cons]
   by_cases e:p.1=k
   ·simp only[wd e,decide_eq_true e,Bool.true_or,Option.isSome_some]
   ·rw[wm e,decide_eq_false e,Bool.false_or];exact zdV k r
theorem zjR(k j:κ)(y:V):∀kvs:List (κ×V),zaA (kvs.map fun kv=>if kv.1=k then(kv.1,y)else kv) j=(zaA kvs j).map fun x=>if j=k then y else x
 | []=>rfl
 | p::r=>by
   have ih:=zjR k j y r
   rw[map_cons]
   by_cases h:p.1=k
   ·rw[if_pos h]
    by_cases e:p.1=j
    ·rw[wd (p:=(p.1,y)) e,wd e,Option.map_some,if_pos (e.symm.trans h)]
    ·rw[wm (p:=(p.1,y)) e,wm e,ih]
   ·rw[if_neg h]
    by_cases e:p.1=j
    ·rw[wd (p:=p) e,wd e,Option.map_some,if_neg (fun z=>h (e.trans z))]
    ·rw[wm (p:=p) e,wm e,ih]
theorem zhV(k j:κ)(y:V):∀kvs:List (κ×V),zaA kvs k=none→zaA (kvs++[(k,y)]) j=if j=k then some y else zaA kvs j
 | [],_=>by
   by_cases e:k=j
   ·rw[if_pos e.symm];exact wd (p:=(k,y)) e
   ·rw[if_neg (fun z=>e z.symm)];exact wm (p:=(k,y)) e
 | p::r,hn=>by
   rw[cons_append]
   have hk:¬p.1=k:=fun z=>by rw[wd z] at hn;cases hn
   rw[wm hk] at hn
   have ih:=zhV k j y r hn
   by_cases e:p.1=j
   ·rw[wd e,wd e,if_neg (fun z=>hk (e.trans z))]
   ·rw[wm e,wm e,ih]
theorem ze8(kvs:List (κ×V))(k j:κ)(y:V):zaA (zcD kvs k y) j=if j=k then some y else zaA kvs j:=by
 unfold zcD
 by_cases a:(kvs.any fun kv=>decide (kv.1=k))=true
 ·rw[if_pos a,zjR]
  rw[zdV] at a
  by_cases e:j=k
  ·obtain⟨x,hx⟩:=Option.isSome_iff_exists.mp a
   rw[if_pos e,e,hx,Option.map_some,if_pos rfl]
  ·rw[if_neg e]
   cases zaA kvs j with
   | none=>rfl
   | some x=>rw[Option.map_some,if_neg e]
 ·rw[if_neg a]
  refine zhV k j y kvs ?_
  rw[zdV] at a
  cases q:zaA kvs k with
  | none=>rfl
  | some x=>rw[q] at a;exact(a rfl).elim
theorem zdQ(kvs:List (κ×V))(k:κ)(v:V):(zcD kvs k v).length≤kvs.length+1:=by
 unfold zcD
 split
 ·rw[length_map];omega
 ·rw[length_append,length_cons,length_nil];omega
theorem RelO.isSome_eq{o:Option V}{u:Option Value}(r:RelO o u):o.isSome=u.isSome:=by
 cases o with
 | none=>cases u with
   | none=>rfl
   | some _=>exact(show False from r).elim
 | some _=>cases u with
   | none=>exact(show False from r).elim
   | some _=>rfl
theorem KV.val{kvs:List (κ×V)}{vs:List (κ×Value)}(r:KV kvs vs)(k:κ):RelO (zaA kvs k) (valueAt vs k):=by
 unfold KV at r
 induction r with
 | nil=>exact True.intro
 | @cons p q ps qs h t ih =>
   obtain⟨h1,h2⟩:=h
   by_cases e:p.1=k
   ·have e':q.1=k:=h1.symm.trans e
    have b:valueAt (q::qs) k=some q.2:=by simp[valueAt,find?_cons,e']
    rw[wd e,b];exact h2
   ·have e':¬q.1=k:=fun z=>e (h1.trans z)
    have b:valueAt (q::qs) k=valueAt qs k:=by simp[valueAt,find?_cons,e']
    rw[wm e,b];exact ih
theorem KV.any{kvs:List (κ×V)}{vs:List (κ×Value)}(r:KV kvs vs)(k:κ):(kvs.any fun kv=>decide (kv.1=k))=vs.any fun kv=>decide (kv.1=k):=by
 unfold KV at r
 induction r with
 | nil=>rfl
 | cons h t ih=>rw[any_cons,any_cons,ih,h.1]
theorem KV.repl{kvs:List (κ×V)}{vs:List (κ×Value)}(r:KV kvs vs)(k:κ){y:V}{u:Value}(ry:RelV y u):
 KV (kvs.map fun kv=>if kv.1=k then(kv.1,y)else kv) (vs.map fun kv=>if kv.1=k then(kv.1,u)else kv):=by
 unfold KV at r ⊢
 induction r with
 | nil=>exact .nil
 | @cons p q ps qs h t ih =>
   rw[map_cons,map_cons]
   refine .cons ?_ ih
   obtain⟨h1,h2⟩:=h
   by_cases e:p.1=k
   ·rw[if_pos e,if_pos (h1.symm.trans e)];exact⟨h1,ry⟩
   ·rw[if_neg e,if_neg (fun z=>e (h1.trans z))];exact⟨h1,h2⟩
theorem KV.put{kvs:List (κ×V)}{vs:List (κ×Value)}(r:KV kvs vs)(k:κ){y:V}{u:Value}(ry:RelV y u):KV (zcD kvs k y) (stored vs k u):=by
 unfold zcD stored
 rw[r.any k]
 by_cases e:(vs.any fun kv=>decide (kv.1=k))=true
 ·rw[if_pos e,if_pos e];exact r.repl k ry
 ·rw[if_neg e,if_neg e];exact Paired.snoc r ⟨rfl,ry⟩
theorem KV.length{kvs:List (κ×V)}{vs:List (κ×Value)}(r:KV kvs vs):kvs.length=vs.length:=Paired.length r
end
theorem zjo{P:Program}{w:World}{k:Key}{u:Value}(r:RelV (kV k) u):(wA P w).is k u=true:=by
 cases k with
 | inl i=>obtain⟨t,e⟩:=(show ∃t,u=Value.int i t from r);subst e;exact zjI P w i t
 | inr x=>obtain⟨t,e⟩:=(show ∃t,u=Value.str x t from r);subst e;exact zi8 P w x t
theorem zh5{P:Program}{w:World}:∀{ks:List Key}{us:List Value},Vals (ks.map kV) us→ItemsAre (wA P w) ks us
 | [],_,r=>by rw[map_nil] at r;cases r;exact .nil
 | k::ks,_,r=>by
   rw[map_cons] at r
   cases r with
   | cons h t=>exact .cons (zjo h) (zh5 t)
abbrev KT(H:Hp):List (List Key×V)→List (List Key×Addr×Value)→Prop:=Paired fun p q=>p.1=q.1∧H q.2.1=some (.tup (p.1.map kV))∧RelV p.2 q.2.2
theorem KT.val{H:Hp}{kvs:List (List Key×V)}{xs:List (List Key×Addr×Value)}(r:KT H kvs xs)(k:List Key):RelO (zaA kvs k) ((atKey xs k).map (·.2)):=by
 induction r with
 | nil=>exact True.intro
 | @cons p q ps qs h t ih =>
   obtain⟨h1,_,h2⟩:=h
   by_cases e:p.1=k
   ·have e':q.1=k:=h1.symm.trans e
    have b:atKey (q::qs) k=some q.2:=by simp[atKey,find?_cons,e']
    rw[wd e,b];exact h2
   ·have e':¬q.1=k:=fun z=>e (h1.trans z)
    have b:atKey (q::qs) k=atKey qs k:=by simp[atKey,find?_cons,e']
    rw[wm e,b];exact ih
theorem KT.repl{H:Hp}{kvs:List (List Key×V)}{xs:List (List Key×Addr×Value)}(r:KT H kvs xs)(k:List Key){y:V}{u:Value}(ry:RelV y u):
 KT H (kvs.map fun kv=>if kv.1=k then(kv.1,y)else kv) (xs.map (putAt k u)):=by
 induction r with
 | nil=>exact .nil
 | @cons p q ps qs h t ih =>
   rw[map_cons,map_cons]
   refine .cons ?_ ih
   obtain⟨h1,h2,h3⟩:=h
   unfold putAt
   by_cases e:p.1=k
   ·rw[if_pos e,if_pos (h1.symm.trans e)];exact⟨h1,h2,ry⟩
   ·rw[if_neg e,if_neg (fun z=>e (h1.trans z))];exact⟨h1,h2,h3⟩
theorem KT.put{H:Hp}{kvs:List (List Key×V)}{xs:List (List Key×Addr×Value)}(r:KT H kvs xs)(k:List Key){b:Addr}{y:V}{u:Value}(hb:H b=some (.tup (k.map kV)))(ry:RelV y u):
 KT H (zcD kvs k y) (storedH xs k b u):=by
 have e:(kvs.any fun kv=>decide (kv.1=k))=(atKey xs k).isSome:=by
  rw[zdV,(r.val k).isSome_eq,Option.isSome_map]
 unfold zcD storedH
 rw[e]
 by_cases q:(atKey xs k).isSome=true
 ·rw[if_pos q,if_pos q];exact r.repl k ry
 ·rw[if_neg q,if_neg q];exact Paired.snoc r ⟨rfl,hb,ry⟩
theorem KT.keeps{H H':Hp}{kvs:List (List Key×V)}{xs:List (List Key×Addr×Value)}(r:KT H kvs xs)(ht:∀b ys,H b=some (.tup ys)→H' b=some (.tup ys)):KT H' kvs xs :=
 Paired.mapP r fun _ _ z=>⟨z.1,ht _ _ z.2.1,z.2.2⟩
section
variable {P:Program}{w:World}{H:Hp}{h:Heap}{a:Addr}
theorem rd_of{u:HO}(ok:HOk P w H h)(e:Rd H a u):ObjOk P w H h a u:=e.ok ok
theorem zjF{kvs:List (Key×V)}(ok:HOk P w H h)(e:Rd H a (.dK kvs)):kvs.length≤sizeLine∧(a==sysModules)=false∧∃vs,KV kvs vs∧h.DictOf (wA P w) a vs :=
 show ObjOk P w H h a (.dK kvs)from rd_of ok e
theorem dk_of{kvs:List (Key×V)}(ok:HOk P w H h)(e:H a=some (.dK kvs)):kvs.length≤sizeLine∧(a==sysModules)=false∧∃vs,KV kvs vs∧h.DictOf (wA P w) a vs:=zjF ok (.inl e)
theorem zgO{ks:List Key}(ok:HOk P w H h)(e:H a=some (.tup (ks.map kV))):(tupleKind (wA P w)).is h ks a:=by
 obtain⟨_,its,r,o,h1,h2,n,h3⟩:=(show ObjOk P w H h a (.tup (ks.map kV))from ok a _ e)
 exact⟨o,its.toArray,n,h1,h2,h3,by simpa using zh5 r⟩
theorem zjU{kvs:List (List Key×V)}(ok:HOk P w H h)(e:Rd H a (.dT kvs)):kvs.length≤sizeLine∧(a==sysModules)=false ∧
 ∃xs,KT H kvs xs∧h.DictOfH (tupleKind (wA P w)) a xs:=by
 obtain⟨z,y,xs,r,o,es,ep,h1,h2,h3,h4,h5⟩:=(show ObjOk P w H h a (.dT kvs)from rd_of ok e)
 refine⟨z,y,xs,r,o,es,ep,h1,h2,h3,h4,fun x hx=>?_,h5⟩
 have all:∀{l:List (List Key×V)} {m:List (List Key×Addr×Value)},KT H l m→∀x∈m,(tupleKind (wA P w)).is h x.1 x.2.1:=by
  intro l m q
  induction q with
  | nil=>intro x hx;exact nomatch hx
  | @cons p q ps qs hq t ih =>
    intro x hx
    rcases List.mem_cons.mp hx with e | hx
    ·subst e
     exact zgO ok (by rw[←hq.1];exact hq.2.1)
    ·exact ih x hx
 exact all r x hx
theorem dt_of{kvs:List (List Key×V)}(ok:HOk P w H h)(e:H a=some (.dT kvs)):kvs.length≤sizeLine∧(a==sysModules)=false ∧
 ∃xs,KT H kvs xs∧h.DictOfH (tupleKind (wA P w)) a xs:=zjU ok (.inl e)
end
def DGet(H:Hp)(a:Addr)(y:V)(r:Option V):Prop :=
 (∃kvs k,Rd H a (.dK kvs)∧y=kV k∧r=zaA kvs k)∨∃kvs k b,Rd H a (.dT kvs)∧y=.ref b∧H b=some (.tup (k.map kV))∧r=zaA kvs k
def DPut(H:Hp)(a:Addr)(y v:V)(H':Hp):Prop :=
 (∃kvs k,H a=some (.dK kvs)∧y=kV k∧kvs.length<sizeLine∧H'=upd H a (.dK (zcD kvs k v))) ∨
 ∃kvs k b,H a=some (.dT kvs)∧y=.ref b∧H b=some (.tup (k.map kV))∧kvs.length<sizeLine∧H'=upd H a (.dT (zcD kvs k v))
theorem DGet.k{H:Hp}{a:Addr}{kvs:List (Key×V)}{k:Key}(e:H a=some (.dK kvs)):DGet H a (kV k) (zaA kvs k):=.inl ⟨kvs,k,.inl e,rfl,rfl⟩
theorem DPut.k{H:Hp}{a:Addr}{kvs:List (Key×V)}{k:Key}{v:V}(e:H a=some (.dK kvs))(hl:kvs.length<sizeLine):DPut H a (kV k) v (upd H a (.dK (zcD kvs k v))):=.inl ⟨kvs,k,e,rfl,hl,rfl⟩
section
variable {X:Cx}{pins:List (Addr×Obj)}{σ:St}{H:Hp}{s:Shared}{a:Addr}{y v:V}{u r:Value}{o:Option V}{A:Around}{E:Value→Shared→Prop}
theorem Inv.big(I:Inv X pins σ H s):sysModules<s.heap.objs.size:=by
 have h:mainGlobals<s.heap.objs.size:=(I.mod.glob.keeps I.bk).lt
 exact lt_trans (by decide) h
theorem d_getItem{Q:Value→Shared→Prop}(hu:A.units+1<cLine)(I:Inv X pins σ H s)(g:DGet H a y (some v))(ry:RelV y u)(h:∀w' s',Inv X pins σ H s'→RelV v w'→Q w' s'):
 wpAny (model X.prog X.w) A (getItem (.ref a) u) Q E s:=by
 rcases g with⟨kvs,k,e,ey,l⟩|⟨kvs,k,b,e,ey,eb,l⟩
 ·subst ey
  obtain⟨z,hd,vs,rel,dd⟩:=zjF I.hok e
  obtain⟨w',hw,rw'⟩:=RelO.some_of (v:=v) (o:=valueAt vs k) (by rw[l];exact rel.val k)
  exact wpAny_getItem_of (zjo ry) dd.mapOf hw (h w' _ (I.tok _) rw')
 ·subst ey
  cases (show u=Value.ref b from ry)
  obtain⟨z,hd,xs,rel,dd⟩:=zjU I.hok e
  obtain⟨w',hw,rw'⟩:=RelO.some_of (v:=v) (o:=(atKey xs k).map (·.2)) (by rw[l];exact rel.val k)
  obtain⟨p,hp,hp2⟩:=Option.map_eq_some_iff.mp hw
  refine wpAny_getItem_heap (tupleKind_room_in1 hu) (zgO I.hok eb) dd hp ?_
  rw[hp2]
  exact h w' _ (I.tok _) rw'
theorem d_in{Q:Value→Shared→Prop}(hu:A.units+1<cLine)(I:Inv X pins σ H s)(g:DGet H a y o)(ry:RelV y u)(h:∀s',Inv X pins σ H s'→Q (.bool o.isSome) s'):
 wpAny (model X.prog X.w) A (compareOp .In u (.ref a)) Q E s:=by
 rcases g with⟨kvs,k,e,ey,l⟩|⟨kvs,k,b,e,ey,eb,l⟩
 ·subst ey
  obtain⟨z,hd,vs,rel,dd⟩:=zjF I.hok e
  refine wpAny_in_of (zjo ry) hd dd.mapOf ?_
  rw[←(rel.val k).isSome_eq,←l]
  exact h _ (I.tok _)
 ·subst ey
  cases (show u=Value.ref b from ry)
  obtain⟨z,hd,xs,rel,dd⟩:=zjU I.hok e
  refine wpAny_in_heap (tupleKind_room_in1 hu) (zgO I.hok eb) hd dd ?_
  have q:=(rel.val k).isSome_eq
  rw[Option.isSome_map] at q
  rw[←q,←l]
  exact h _ (I.tok _)
theorem d_notIn{Q:Value→Shared→Prop}(hu:A.units+1<cLine)(I:Inv X pins σ H s)(g:DGet H a y o)(ry:RelV y u)(h:∀s',Inv X pins σ H s'→Q (.bool (!o.isSome)) s'):
 wpAny (model X.prog X.w) A (compareOp .NotIn u (.ref a)) Q E s:=by
 rcases g with⟨kvs,k,e,ey,l⟩|⟨kvs,k,b,e,ey,eb,l⟩
 ·subst ey
  obtain⟨z,hd,vs,rel,dd⟩:=zjF I.hok e
  refine wpAny_notIn_of (zjo ry) hd dd.mapOf ?_
  rw[←(rel.val k).isSome_eq,←l]
  exact h _ (I.tok _)
 ·subst ey
  cases (show u=Value.ref b from ry)
  obtain⟨z,hd,xs,rel,dd⟩:=zjU I.hok e
  refine wpAny_notIn_heap (tupleKind_room_in1 hu) (zgO I.hok eb) hd dd ?_
  have q:=(rel.val k).isSome_eq
  rw[Option.isSome_map] at q
  rw[←q,←l]
  exact h _ (I.tok _)
theorem d_write{h':Heap}{t':Nat}{ob:HO}(I:Inv X pins σ H s)(mu:Mut (H a))(hs:SameBut a s.heap h')(he:∃q,h'.get? a=some q)(new:ObjOk X.prog X.w (upd H a ob) h' a ob):
 Inv X pins σ (upd H a ob) { s with heap:=h',toks:=t' } :=
 I.write (x:=a) (e:=a) mu (.inl rfl) (fun b q hb z=>(hs.2 b hb).trans z) he new
theorem dk_new{P:Program}{w:World}{H':Hp}{h':Heap}{kvs:List (Key×V)}{vs:List (Key×Value)}(z:kvs.length≤sizeLine)(hd:(a==sysModules)=false)(rel:KV kvs vs)(dd:h'.DictOf (wA P w) a vs):
 ObjOk P w H' h' a (.dK kvs):=⟨z,hd,vs,rel,dd⟩
theorem d_setItem{H':Hp}{Q:Unit→Shared→Prop}(hu:A.units+1<cLine)(I:Inv X pins σ H s)(g:DPut H a y v H')(ry:RelV y u)(rv:RelV v r)(h:∀s',Inv X pins σ H' s'→Q () s'):
 wpAny (model X.prog X.w) A (setItem (.ref a) u r) Q E s:=by
 rcases g with⟨kvs,k,e,ey,l,eH⟩|⟨kvs,k,b,e,ey,eb,l,eH⟩
 ·subst ey eH
  obtain⟨z,hd,vs,rel,dd⟩:=dk_of I.hok e
  have hz:vs.length≤sizeLine:=by rw[←rel.length];exact z
  have hl:(zcD kvs k v).length≤sizeLine:=by have:=zdQ kvs k v;omega
  refine wpAny_setItem_pairs (hsz:=hz) (zjo ry) dd fun h' dd' hs=>h _ ?_
  have he:∃q,h'.get? a=some q:=let ⟨q,_,_,hq,_⟩:=dd';⟨q,hq⟩
  exact d_write I (by rw[e];exact True.intro) hs he (dk_new hl hd (rel.put k rv) dd')
 ·subst ey eH
  cases (show u=Value.ref b from ry)
  obtain⟨z,hd,xs,rel,dd⟩:=dt_of I.hok e
  have hz:xs.length≤sizeLine:=by rw[←Paired.length rel];exact z
  have hl:(zcD kvs k v).length≤sizeLine:=by have:=zdQ kvs k v;omega
  refine wpAny_setItem_heap (hsz:=hz) (tupleKind_room_in1 hu) (zgO I.hok eb) dd fun h' dd' hs=>h _ ?_
  obtain⟨q,es,ep,hq,h2,h3,h4,_,h5⟩:=dd'
  refine d_write I (by rw[e];exact True.intro) hs ⟨q,hq⟩ ⟨hl,hd,_,(rel.put k eb rv).keeps fun c ys ec=>?_,q,es,ep,hq,h2,h3,h4,h5⟩
  rw[zi (we ec e (fun z=>nomatch z))]
  exact ec
end
section
variable {X:Cx}{pins:List (Addr×Obj)}{σ:St}{H:Hp}{s:Shared}{a:Addr}{kvs:List (Key×V)}{k:Key}{u:Value}{A:Around}{E:Value→Shared→Prop}
end
def NoSl(i:Expr):Prop:=∀ov iv,subscripted i false ov iv=operate [ov,iv] (getItem ov iv)
theorem subD_of{prog:Program}{w:World}{A:Around}{E:Value→Shared→Prop}{s:Shared}{env:Env}{value slice:Expr}{pos:Pos}{T id:String}{Q:Value→Shared→Prop}
 (hl:typeLookup (.type T) "__getitem__"=pure (some (.builtin id))) (hs:NoSl slice)
 (h:wpAny (model prog w) A (eval value env) (fun o s₁=>wpAny (model prog w) A (eval slice env) (fun i s₂=>s₂.TypeIs o T∧wpAny (model prog w) A (getItem o i) Q E s₂) E s₁) E s) :
 wpAny (model prog w) A (eval (.Subscript value slice pos) env) Q E s:=by
 refine Subscript_ (wpAny_mono h (fun o s₁ h₁=>wpAny_mono h₁ (fun i s₂ h₂=>?_) fun _ _ x=>x) fun _ _ x=>x)
 obtain⟨hT,h₂⟩:=h₂
 unfold subscriptTail
 refine wpAny_bind ?_
 rw[getitemInPython_of_ne hT.not_modules]
 refine wpAny_bind (wpAny_specialOf hT hl ?_)
 have fin:wpAny (model prog w) A (subscripted slice false o i) (fun r s₃=>wpAny (model prog w) A (letTemporaryGo value o r >>= fun _=>pure r) Q E s₃) E s₂:=by
  rw[hs o i]
  exact wpAny_operating (wpAny_mono h₂ (fun r s₃ h₃=>wpAny_bind (wpAny_letTemporaryGo (wpAny_pure h₃))) fun _ _ x=>x)
 first
  | exact wpAny_pure (wpAny_bind fin)
  | exact wpAny_bind (wpAny_pure (wpAny_bind fin))
  | exact wpAny_bind fin
theorem zjb{X:Cx}{pins:List (Addr×Obj)}{σ:St}{H:Hp}{s:Shared}{a:Addr}{y:V}{o:Option V}(I:Inv X pins σ H s)(g:DGet H a y o):s.TypeIs (.ref a) "dict":=by
 rcases g with⟨kvs,k,e,_,_⟩|⟨kvs,k,b,e,_,_,_⟩
 ·obtain⟨_,_,vs,_,dd⟩:=zjF I.hok e
  exact dd.typeIs
 ·obtain⟨_,_,xs,_,dd⟩:=zjU I.hok e
  exact dd.typeIs
def tDGet(td ty:TE):TE:=fun σ H Q=>td σ H fun x H1=>ty σ H1 fun y H2=>∃a v,x=.ref a∧DGet H2 a y (some v)∧Q v H2
def tDIn(ty td:TE):TE:=fun σ H Q=>ty σ H fun y H1=>td σ H1 fun x H2=>∃a o,x=.ref a∧DGet H2 a y o∧Q (.bl o.isSome) H2
def tDNotIn(ty td:TE):TE:=fun σ H Q=>ty σ H fun y H1=>td σ H1 fun x H2=>∃a o,x=.ref a∧DGet H2 a y o∧Q (.bl (!o.isSome)) H2
def sDPut(td ty tv:TE):TS:=fun D σ H=>tv σ H fun v H1=>td σ H1 fun x H2=>ty σ H2 fun y H3=>∃a H4,x=.ref a∧DPut H3 a y v H4∧D.nx σ H4
section
variable {X:Cx}{o i e value:Expr}{pos pos' tpos:Pos}{td ty tv:TE}
theorem pe_dget(hu:X.A.units+1<cLine)(ho:PE X o td)(hi:PE X i ty)(hs:NoSl i):PE X (.Subscript o i pos) (tDGet td ty):=by
 intro pins s σ H Q I h
 refine subD_of PySem.F.slot_dict_getitem.lookup hs (thn (ho pins s σ H _ I h) fun u s1 ⟨x,H1,I1,rx,q1⟩=>thn (hi pins s1 σ H1 _ I1 q1) fun iv s2 ⟨y,H2,I2,ry,a,v,ex,g,q2⟩=>?_)
 subst ex
 obtain rfl:u=Value.ref a:=rx
 exact⟨zjb I2 g,d_getItem hu I2 g ry fun w' s3 I3 rw'=>⟨v,H2,I3,rw',q2⟩⟩
theorem pc_din(hu:X.A.units+1<cLine)(hi:PE X i ty)(ho:PE X o td):PC X .In i o (tDIn ty td):=by
 intro pins s σ H Q I h
 refine thn (hi pins s σ H _ I h) fun iv s1 ⟨y,H1,I1,ry,q1⟩=>thn (ho pins s1 σ H1 _ I1 q1) fun u s2 ⟨x,H2,I2,rx,a,ov,ex,g,q2⟩=>?_
 subst ex
 obtain rfl:u=Value.ref a:=rx
 exact d_in hu I2 g ry fun s3 I3=>⟨.bl ov.isSome,H2,I3,rfl,q2⟩
theorem pc_dnotin(hu:X.A.units+1<cLine)(hi:PE X i ty)(ho:PE X o td):PC X .NotIn i o (tDNotIn ty td):=by
 intro pins s σ H Q I h
 refine thn (hi pins s σ H _ I h) fun iv s1 ⟨y,H1,I1,ry,q1⟩=>thn (ho pins s1 σ H1 _ I1 q1) fun u s2 ⟨x,H2,I2,rx,a,ov,ex,g,q2⟩=>?_
 subst ex
 obtain rfl:u=Value.ref a:=rx
 exact d_notIn hu I2 g ry fun s3 I3=>⟨.bl (!ov.isSome),H2,I3,rfl,q2⟩
theorem ps_dput(hu:X.A.units+1<cLine)(ho:PE X o td)(hi:PE X i ty)(hv:PE X value tv)(hs:swapsWith value (some (.Subscript o i pos')) pos.line X.env=pure false):
 PS X (.Assign [.Subscript o i pos'] value pos) (sDPut td ty tv):=by
 intro pins s σ H D I h
 refine wpAny_Assign_Subscript (thn (hv pins s σ H _ I h) fun r s1 ⟨v,H1,I1,rv,q1⟩=>thn (ho pins s1 σ H1 _ I1 q1) fun u s2 ⟨x,H2,I2,rx,q2⟩=>thn (hi pins s2 σ H2 _ I2 q2) fun iv s3 ⟨y,H3,I3,ry,a,H4,ex,g,q3⟩=>?_) hs
 subst ex
 obtain rfl:u=Value.ref a:=rx
 exact d_setItem hu I3 g ry rv fun s4 I4=>⟨σ,H4,I4,q3⟩
end
theorem dk_empty{P:Program}{w:World}{H:Hp}(h:Heap)(hb:sysModules<h.objs.size):ObjOk P w H (h.push { cls:=.type "dict",data:=.dict #[] }) h.objs.size (.dK []) :=
 ⟨zero_le _,beq_eq_false_iff_ne.mpr (Ne.symm (ne_of_lt hb)),[],.nil,Heap.DictOf.new h⟩
def tDNewK:TE:=fun _ H Q=>∀p,H p=none→Q (.ref p) (upd H p (.dK []))
section
variable {X:Cx}{pos:Pos}
theorem pe_dnewK:PE X (.Dict [] [] pos) tDNewK:=fun pins s σ H Q I h =>
 wpAny_Dict_empty ⟨.ref s.heap.objs.size,_,I.laid (a:=s.heap.objs.size) (o:=.dK []) (t':=s.toks) (fun _ _ q=>get?_push_of_some _ q) (le_refl _) (dk_empty s.heap I.big),rfl,h _ (I.hok.fresh (le_refl _))⟩
end
structure M1 (X:Cx) (o:Expr) (m:Str) (apos:Pos) (e:Expr) (cpos:Pos):Prop where
 base:attributeBase o m X.env (eval o X.env)=eval o X.env
 few:((backTo cpos (starEach [e] X.env)).all (fun x => !x.1) && (backToKw cpos (keywordEach [] X.env)).all (fun x=>x.1.isSome)
  && decide (([e]:List Expr).length+([]:List Keyword).length+(if([]:List Keyword).isEmpty then 0 else 1)<30))=true
 line:(apos.endLine==cpos.line)=true
 trees:backTo cpos (starEach [e] X.env)=[(false,eval e X.env)]
structure M2 (X:Cx) (o:Expr) (m:Str) (apos:Pos) (e f:Expr) (cpos:Pos):Prop where
 base:attributeBase o m X.env (eval o X.env)=eval o X.env
 few:((backTo cpos (starEach [e,f] X.env)).all (fun x => !x.1) && (backToKw cpos (keywordEach [] X.env)).all (fun x=>x.1.isSome)
  && decide (([e,f]:List Expr).length+([]:List Keyword).length+(if([]:List Keyword).isEmpty then 0 else 1)<30))=true
 line:(apos.endLine==cpos.line)=true
 trees:backTo cpos (starEach [e,f] X.env)=[(false,eval e X.env),(false,eval f X.env)]
section
variable {X:Cx}{pins:List (Addr×Obj)}{σ:St}{H:Hp}{s:Shared}{a:Addr}{y d:V}{u r:Value}{o:Option V}{A:Around}{E:Value→Shared→Prop}
end
section
variable {X:Cx}{o e f:Expr}{apos cpos:Pos}{td ty tx:TE}
end
section
variable {X:Cx}{pins:List (Addr×Obj)}{σ:St}{H:Hp}{s:Shared}{a:Addr}{kvs:List (Key×V)}{A:Around}{E:Value→Shared→Prop}
end
section
variable {X:Cx}{pins:List (Addr×Obj)}{σ:St}{H:Hp}{s:Shared}{a:Addr}{y:V}{u:Value}{A:Around}{E:Value→Shared→Prop}
end
section
variable {X:Cx}
end
section
variable {κ:Type} [DecidableEq κ]
end
end L2
namespace M10
open PySem L2 M2
def zhQ(e0 e1:Str)(c:Int)(k:Nat):Str:=e0++⟨#[97+((c+11*(k:Int))%26).toNat]⟩++e1
def zdx(e0 e1:Str)(c:Int)(m:Nat):List Str:=(List.range m).map fun(k:Nat)=>zhQ e0 e1 c k
theorem zj7(e0 e1:Str)(c:Int)(m:Nat):zdx e0 e1 c (m+1)=zdx e0 e1 c m++[zhQ e0 e1 c m]:=by unfold zdx;rw[range_succ,map_append];rfl
theorem zgy(e0 e1:Str)(c:Int)(m:Nat):(zdx e0 e1 c m).length=m:=by unfold zdx;simp
theorem zhk(e0 e1:Str)(c:Int)(k:Nat):(zhQ e0 e1 c k).cps.toList=e0.cps.toList++[97+((c+11*(k:Int))%26).toNat]++e1.cps.toList:=by
 show(e0.cps ++ #[97+((c+11*(k:Int))%26).toNat]++e1.cps).toList=_
 rw[Array.toList_append,Array.toList_append]
theorem ziU(e0 e1:Str)(c:Int){m:Nat}(hm:m≤26):(zdx e0 e1 c m).Nodup:=by
 unfold zdx
 refine List.pairwise_map.mpr (List.Pairwise.imp_of_mem (fun {i j} hi hj hlt e=>?_) (pairwise_lt_range (n:=m)))
 have hi:=List.mem_range.mp hi
 have hj:=List.mem_range.mp hj
 have h:=congrArg (fun s:Str=>s.cps.toList) e
 simp only[zhk,append_assoc] at h
 have h2:=List.append_cancel_left h
 have h3:97+((c+11*(i:Int))%26).toNat=97+((c+11*(j:Int))%26).toNat:=by
  have:=List.cons.inj (show(97+((c+11*(i:Int))%26).toNat)::e1.cps.toList=(97+((c+11*(j:Int))%26).toNat)::e1.cps.toList from h2)
  exact this.1
 omega
theorem nameK_good{e0 e1:Str}(c:Int)(k:Nat)(hl:e0.length+e1.length≤7)(h0:∀x∈e0.cps.toList,zeb x=true)(h1:∀x∈e1.cps.toList,zeb x=true):zfY (zhQ e0 e1 c k)=true:=by
 rw[zcY]
 have hlen:(zhQ e0 e1 c k).length=e0.length+1+e1.length:=by unfold zhQ;rw[yR,yR];rfl
 refine⟨by omega,fun x hx=>?_⟩
 rw[zhk] at hx
 rcases List.mem_append.mp hx with hx | hx
 ·rcases List.mem_append.mp hx with hx | hx
  ·exact h0 x hx
  ·have e:x=97+((c+11*(k:Int))%26).toNat:=List.mem_singleton.mp hx
   have:=Int.emod_nonneg (c+11*(k:Int)) (show(26:Int)≠0 by decide)
   have:=Int.emod_lt_of_pos (c+11*(k:Int)) (show(0:Int)<26 by decide)
   unfold zeb
   rw[e,decide_eq_true (by omega),decide_eq_true (by omega)]
   rfl
 ·exact h1 x hx
theorem ends_ok(z p:Fin 8)(h:p.val≤z.val):(PySem.Txt.slice "vwxyzab" none (some (p.val:Int))).length+(PySem.Txt.slice "vwxyzab" (some (p.val:Int)) (some (z.val:Int))).length≤7 ∧
 (∀x∈(PySem.Txt.slice "vwxyzab" none (some (p.val:Int))).cps.toList,zeb x=true)∧∀x∈(PySem.Txt.slice "vwxyzab" (some (p.val:Int)) (some (z.val:Int))).cps.toList,zeb x=true:=by
 revert z p
 decide +kernel
end M10
namespace M3
open PySem L2
def got(ms:List Int)(n:Int):List Int:=ms.filter fun m=>decide (m≤n)
def cnt(ms:List Int)(n:Int):Nat:=(got ms n).length
def sm(ms:List Int)(n:Int):Int:=(got ms n).sum
def isF(ms:List Int)(f:Int):Prop:=ms.length<2*cnt ms f∧2*cnt ms (f-1)≤ms.length
theorem zbW{ms:List Int}{a b:Int}(h:a≤b):cnt ms a≤cnt ms b:=by
 unfold cnt got
 induction ms with
 | nil=>exact le_refl _
 | cons x ms ih =>
   rw[filter_cons,filter_cons]
   by_cases h1:x≤a
   ·rw[if_pos (decide_eq_true h1),if_pos (decide_eq_true (by omega)),length_cons,length_cons];omega
   ·rw[if_neg (by simpa using h1)]
    split
    ·rw[length_cons];omega
    ·exact ih
theorem zbV{ms:List Int}{f g:Int}(h1:isF ms f)(h2:isF ms g):f=g:=by
 unfold isF at h1 h2
 rcases Int.lt_trichotomy f g with h | h | h
 ·have:=zbW (ms:=ms) (show f≤g-1 by omega);omega
 ·exact h
 ·have:=zbW (ms:=ms) (show g≤f-1 by omega);omega
theorem zix{ms:List Int}{n:Int}(h:∀x∈ms,n<x):cnt ms n=0:=by
 unfold cnt got
 rw[List.filter_eq_nil_iff.mpr]
 ·rfl
 ·intro x hx;have:=h x hx;simp;omega
theorem zgr{ms:List Int}{n:Int}(h:∀x∈ms,x≤n):cnt ms n=ms.length:=by
 unfold cnt got
 rw[List.filter_eq_self.mpr]
 intro x hx;have:=h x hx;simp;omega
theorem zc5(ms:List Int)(n:Int):cnt ms n≤ms.length:=length_filter_le _ _
theorem zcW{ms:List Int}{f:Int}(h:isF ms f)(lo hi:Int)(hl:∀x∈ms,lo≤x∧x≤hi):lo≤f∧f≤hi:=by
 unfold isF at h
 constructor
 ·by_cases c:lo≤f
  ·exact c
  ·have:=zix (ms:=ms) (n:=f) fun x hx=>by have:=(hl x hx).1;omega
   omega
 ·by_cases c:f≤hi
  ·exact c
  ·have:=zgr (ms:=ms) (n:=f-1) fun x hx=>by have:=(hl x hx).2;omega
   have:=zc5 ms f
   omega
theorem zff{ms:List Int}{i:Nat}(n:Int)(hi:i<ms.length):got (ms.take (i+1)) n=if ms.getD i 0≤n then got (ms.take i) n++[ms.getD i 0] else got (ms.take i) n:=by
 unfold got
 rw[yy hi,filter_append,filter_cons]
 by_cases h:ms.getD i 0≤n
 ·rw[if_pos (decide_eq_true h),if_pos h];rfl
 ·rw[if_neg (by simpa using h),if_neg h];simp
end M3
namespace L2
open PySem
inductive All2 {α β:Type} (R:α→β→Prop):List α→List β→Prop
 | nil:All2 R [] []
 | cons {a:α} {b:β} {as:List α} {bs:List β}:R a b→All2 R as bs→All2 R (a::as) (b::bs)
namespace All2
variable {α β:Type}{R S:α→β→Prop}{as as':List α}{bs bs':List β}
theorem length(h:All2 R as bs):as.length=bs.length:=by
 induction h with
 | nil=>rfl
 | cons _ _ ih=>rw[length_cons,length_cons,ih]
theorem imp(f:∀a b,R a b→S a b)(h:All2 R as bs):All2 S as bs:=by
 induction h with
 | nil=>exact .nil
 | cons r _ ih=>exact .cons (f _ _ r) ih
theorem append(h:All2 R as bs)(h':All2 R as' bs'):All2 R (as++as') (bs++bs'):=by
 induction h with
 | nil=>exact h'
 | cons r _ ih=>exact .cons r ih
theorem snoc{a:α}{b:β}(h:All2 R as bs)(r:R a b):All2 R (as++[a]) (bs++[b]):=h.append (.cons r .nil)
theorem get(h:All2 R as bs):∀{i:Nat}{b:β},bs[i]? = some b→∃a,as[i]? = some a∧R a b:=by
 induction h with
 | nil=>intro i b e;simp at e
 | cons r _ ih =>
   intro i b e
   cases i with
   | zero=>simp only[List.getElem?_cons_zero] at e ⊢;cases e;exact⟨_,rfl,r⟩
   | succ i=>simp only[List.getElem?_cons_succ] at e ⊢;exact ih e
theorem getL(h:All2 R as bs):∀{i:Nat}{a:α},as[i]? = some a→∃b,bs[i]? = some b∧R a b:=by
 induction h with
 | nil=>intro i b e;simp at e
 | cons r _ ih =>
   intro i b e
   cases i with
   | zero=>simp only[List.getElem?_cons_zero] at e ⊢;cases e;exact⟨_,rfl,r⟩
   | succ i=>simp only[List.getElem?_cons_succ] at e ⊢;exact ih e
end All2
def Refs{α:Type}(K:Frag)(R:Hp→Addr→α→Prop)(H:Hp)(a:Addr)(xs:List α):Prop:=∃ls:List Addr,SqL K H a (ls.map V.ref)∧All2 (R H) ls xs
def Stays{α:Type}(R:Hp→Addr→α→Prop):Prop:=∀H H' l x,Same H H'→R H l x→R H' l x
theorem Refs.same{α:Type}{K:Frag}{R:Hp→Addr→α→Prop}(st:Stays R){H H':Hp}{a:Addr}{xs:List α}(s:Same H H')(h:Refs K R H a xs):Refs K R H' a xs:=by
 obtain⟨ls,q,r⟩:=h
 exact⟨ls,s.seq q,r.imp fun a b=>st _ _ _ _ s⟩
def IL(K:Frag)(H:Hp)(l:Addr)(c:List Int):Prop:=SqL K H l (c.map V.int)
def TPl(K:Frag)(H:Hp)(l:Addr)(p:Int×Int):Prop:=SqT K H l [.int p.1,.int p.2]
theorem IL.stays(K:Frag):Stays (IL K):=fun _ _ _ _ s h=>Same.seq s h
theorem TPl.stays(K:Frag):Stays (TPl K):=fun _ _ _ _ s h=>s.seqT h
theorem yO{ls:List Addr}{i:Nat}{l:Addr}(h:ls[i]? = some l):(ls.map V.ref)[i]? = some (.ref l):=by rw[getElem?_map,h];rfl
theorem wF{ls:List Addr}{i:Nat}{x:V}(h:(ls.map V.ref)[i]? = some x):∃l,ls[i]? = some l∧x=.ref l:=by
 rw[getElem?_map] at h
 cases e:ls[i]? with
 | none=>rw[e] at h;cases h
 | some l=>rw[e] at h;cases h;exact⟨l,rfl,rfl⟩
theorem zeV{K:Frag}{a:Addr}{ms:List Int}{n:Int}{c:St}{tc:TT}{te:TE}{H:Hp}{fin:List V→Hp→Prop}(hS:SqL K H a (ms.map V.int))(hz:ms.length≤1000000)
 (hc:∀x (R:Bool→Hp→Prop),R (decide (x≤n)) H→tc (some (.int x)::c) H R) (he:∀x (R:V→Hp→Prop),R (.int x) H→te (some (.int x)::c) H R) (hd:fin ((M3.got ms n).map V.int) H):zdA (Itl K a) c tc te H fin:=by
 refine yI (xs:=ms.map V.int) (fun i ys H2=>H2=H∧ys=(M3.got (ms.take i) n).map V.int) ⟨rfl,rfl⟩ ?_ (by rw[length_map];have:=zr;omega) ?_ ?_
 ·rintro i ys H2 hi ⟨rfl,rfl⟩
  refine⟨hS,?_⟩
  rw[length_map]
  have:=M3.zc5 (ms.take i) n
  unfold M3.cnt at this
  rw[length_take] at this
  omega
 ·rintro i x ys H2 hx ⟨rfl,rfl⟩
  obtain⟨hi,rfl⟩:=yN hx
  refine hc _ _ (wv (fun h=>?_) (fun h=>?_))
  ·refine he _ _ ⟨rfl,?_⟩
   rw[M3.zff n hi,if_pos h,map_append]
   rfl
  ·refine⟨rfl,?_⟩
   rw[M3.zff n hi,if_neg h]
 ·rintro ys H2 ⟨rfl,rfl⟩
  rw[length_map,take_length]
  exact hd
theorem SqT.put{K:Frag}{H:Hp}{a p:Addr}{xs ys:List V}{o:HO}(h:SqT K H a xs)(hp:H p=some (.lst ys)):SqT K (upd H p o) a xs:=by
 rcases h with(h | ⟨u,h⟩) | h
 ·exact .inl (.inl (by rw[zi (fun e=>by rw[e,hp] at h;cases h)];exact h))
 ·exact .inl (.inr ⟨u,by rw[zi (fun e=>by rw[e,hp] at h;cases h)];exact h⟩)
 ·exact .inr h
theorem TPl.put{K:Frag}{H:Hp}{p:Addr}{ys:List V}{o:HO}{ls:List Addr}{ps:List (Int×Int)}(h:All2 (TPl K H) ls ps)(hp:H p=some (.lst ys)):All2 (TPl K (upd H p o)) ls ps:=h.imp fun _ _ r=>SqT.put r hp
theorem zg3{H:Hp}{l:Addr}(ls:List Addr)(x:Addr):upd H l (.lst (ls.map V.ref++[V.ref x])) l=some (.lst ((ls++[x]).map V.ref)):=zd.trans (congrArg (fun l=>some (HO.lst l)) (by rw[map_append];rfl))
theorem pe_both{X:Cx}{e:Expr}{t u:TE}(h1:PE X e t)(h2:PE X e u):PE X e (fun σ H Q=>t σ H Q∨u σ H Q):=by
 intro pins s σ H Q I h
 rcases h with h | h
 ·exact h1 pins s σ H Q I h
 ·exact h2 pins s σ H Q I h
structure Sh where
 couples:List Int
 struck:List Int
 panel:List Str
 card:Str→Option (List Int)
 taken:Nat
 shut:Bool
def wo(c:Int)(l:List Int):List Int:=l.filter fun o => !decide (o=c)
namespace Sh
structure Ok (S:Sh):Prop where
 c1:1≤S.couples.length
 c24:S.couples.length+S.struck.length≤24
 nd:S.couples.Nodup
 rng:∀c∈S.couples,1≤c∧c≤999
 p1:1≤S.panel.length
 p15:S.panel.length≤15
 pnd:S.panel.Nodup
 cd:∀j c,S.card j=some c→j∈S.panel∧c.Perm S.couples
 t200:S.taken≤200
def handed(S:Sh):List Str:=S.panel.filter fun j=>(S.card j).isSome
def cardsIn(S:Sh):List (List Int):=S.handed.map fun j=>(S.card j).getD []
def new(us:List Int)(ts:List Str):Sh:=⟨us,[],ts,fun _=>none,0,false⟩
def hand(S:Sh)(j:Str)(c:List Int):Sh:={ S with card:=fun k=>if k=j then some c else S.card k,taken:=S.taken+1 }
def refuse(S:Sh)(j:Str)(c:List Int):Option Str :=
 if S.shut=true then some "SheetSealed" else if j∈S.panel then(if c.Perm S.couples then(if 200≤S.taken then some "TooManyCards" else none)else some "BadCard")else some "UnknownJudge"
def strike(S:Sh)(c:Int):Sh:={ S with couples:=wo c S.couples,struck:=S.struck++[c],card:=fun j=>(S.card j).map (wo c) }
def refuseS(S:Sh)(c:Int):Option Str :=
 if S.shut=true then some "SheetSealed" else if c∈S.couples then(if S.couples.length=1 then some "LastCouple" else none)else some "UnknownCouple"
theorem Ok.new{us:List Int}{ts:List Str}(h1:M1.zdK us=true)(h2:M2.ze3 ts=true):(new us ts).Ok:=by
 have g1:=h1
 unfold M1.zdK at g1
 simp only[Bool.and_eq_true,decide_eq_true_eq,all_map,all_eq_true,Function.comp,id] at g1
 obtain⟨⟨a1,a2⟩,a3,a4⟩:=g1
 obtain⟨⟨b1,b2⟩,b3,_⟩:=(M2.zh1 ts).mp h2
 exact⟨by show 1≤us.length;omega,by show us.length+0≤24;omega,a3,a4,b1,b2,b3,(fun _ _ h=>nomatch h),zero_le _⟩
theorem Ok.hand{S:Sh}(h:S.Ok){j:Str}{c:List Int}(hr:S.refuse j c=none):(S.hand j c).Ok∧j∈S.panel∧c.Perm S.couples∧S.taken<200∧S.shut=false:=by
 unfold refuse at hr
 split at hr
 ·cases hr
 rename_i h1
 split at hr
 rename_i h2
 split at hr
 rename_i h3
 split at hr
 ·cases hr
 rename_i h4
 ·refine⟨⟨h.c1,h.c24,h.nd,h.rng,h.p1,h.p15,h.pnd,fun k d e=>?_,by show S.taken+1≤200;omega⟩,h2,h3,by omega,by simpa using h1⟩
  have e:(if k=j then some c else S.card k)=some d:=e
  by_cases ek:k=j
  ·rw[if_pos ek] at e
   cases e
   subst ek
   exact⟨h2,h3⟩
  ·rw[if_neg ek] at e
   exact h.cd k d e
 ·cases hr
 ·cases hr
theorem wo_len{c:Int}{l:List Int}(nd:l.Nodup)(hc:c∈l):(wo c l).length+1=l.length:=by
 unfold wo
 have e:(l.filter fun o => !decide (o=c))=l.erase c:=by
  rw[nd.erase_eq_filter]
  refine filter_congr fun x _=>?_
  by_cases h:x=c
  ·subst h;simp
  ·simp[h]
 rw[e,List.length_erase_of_mem hc]
 have:=List.length_pos_of_mem hc
 omega
theorem Ok.strike{S:Sh}(h:S.Ok){c:Int}(hr:S.refuseS c=none):(S.strike c).Ok∧c∈S.couples∧2≤S.couples.length∧S.shut=false:=by
 unfold refuseS at hr
 split at hr
 ·cases hr
 rename_i h1
 split at hr
 rename_i h2
 split at hr
 ·cases hr
 rename_i h3
 ·have hl:=wo_len h.nd h2
  have h0:=h.c1
  have h24:=h.c24
  refine⟨⟨?_,?_,h.nd.filter _,fun d hd=>h.rng d (List.mem_filter.mp hd).1,h.p1,h.p15,h.pnd,fun k d e=>?_,h.t200⟩,h2,by omega,by simpa using h1⟩
  ·show 1≤(wo c S.couples).length
   omega
  ·show(wo c S.couples).length+(S.struck++[c]).length≤24
   rw[length_append,length_singleton]
   omega
  ·have e:(S.card k).map (wo c)=some d:=e
   cases q:S.card k with
   | none=>rw[q] at e;cases e
   | some b =>
     rw[q] at e
     cases e
     exact⟨(h.cd k b q).1,(h.cd k b q).2.filter _⟩
 ·cases hr
end Sh
def shF(a1 a2 a3 d:Addr)(S:Sh):List (Str×V):=[("standing",.ref a1),("struck_so_far",.ref a2),("panel",.ref a3),("card_by_judge",.ref d),("taken_so_far",.int S.taken),("sealed",.bl S.shut)]
structure Shape (K:Frag) (H:Hp) (p:Addr) (F:Addr→Prop) (S:Sh) (dx a1 a2 a3 d:Addr) (kvs:List (Key×V)):Prop where
 ip:H p=some (.ins (zE K "Sheet") dx (shF a1 a2 a3 d S))
 i1:H a1=some (.lst (S.couples.map V.int))
 i2:H a2=some (.lst (S.struck.map V.int))
 i3:H a3=some (.lst (S.panel.map V.str))
 i4:H d=some (.dK kvs)
 kl:kvs.length≤S.taken
 cn:∀j,S.card j=none→zaA kvs (Sum.inr j)=none
 cs:∀j c,S.card j=some c→∃l,zaA kvs (Sum.inr j)=some (.ref l)∧H l=some (.lst (c.map V.int))∧F l∧l≠a2
 fp:F p
 f1:F a1
 f2:F a2
 f3:F a3
 f4:F d
 n12:a1≠a2
 n32:a3≠a2
 fh:∀b,F b→H b≠none
structure SheetIn (K:Frag) (H:Hp) (p:Addr) (F:Addr→Prop) (S:Sh) (dx a1 a2 a3 d:Addr) (kvs:List (Key×V)):Prop extends Shape K H p F S dx a1 a2 a3 d kvs where
 ok:S.Ok
def ShapeAt(K:Frag)(H:Hp)(p:Addr)(F:Addr→Prop)(S:Sh):Prop:=∃dx a1 a2 a3 d kvs,Shape K H p F S dx a1 a2 a3 d kvs
def SheetAt(K:Frag)(H:Hp)(p:Addr)(F:Addr→Prop)(S:Sh):Prop:=∃dx a1 a2 a3 d kvs,SheetIn K H p F S dx a1 a2 a3 d kvs
theorem SheetIn.off{K:Frag}{H H':Hp}{p:Addr}{F:Addr→Prop}{S:Sh}{dx a1 a2 a3 d:Addr}{kvs:List (Key×V)}(h:SheetIn K H p F S dx a1 a2 a3 d kvs)(e:∀b,F b→H' b=H b):SheetIn K H' p F S dx a1 a2 a3 d kvs :=
 ⟨⟨(e _ h.fp).trans h.ip,(e _ h.f1).trans h.i1,(e _ h.f2).trans h.i2,(e _ h.f3).trans h.i3,(e _ h.f4).trans h.i4,h.kl,h.cn,
  fun j c hc=>let ⟨l,x1,x2,x3,x4⟩:=h.cs j c hc;⟨l,x1,(e _ x3).trans x2,x3,x4⟩,h.fp,h.f1,h.f2,h.f3,h.f4,h.n12,h.n32,fun b hb=>by rw[e b hb];exact h.fh b hb⟩,h.ok⟩
theorem SheetAt.off{K:Frag}{H H':Hp}{p:Addr}{F:Addr→Prop}{S:Sh}(h:SheetAt K H p F S)(e:∀b,F b→H' b=H b):SheetAt K H' p F S:=by
 obtain⟨dx,a1,a2,a3,d,kvs,h⟩:=h
 exact⟨dx,a1,a2,a3,d,kvs,h.off e⟩
theorem SheetAt.fh{K:Frag}{H:Hp}{p:Addr}{F:Addr→Prop}{S:Sh}(h:SheetAt K H p F S):∀b,F b→H b≠none:=by
 obtain⟨dx,a1,a2,a3,d,kvs,h⟩:=h
 exact h.fh
theorem SheetAt.ok{K:Frag}{H:Hp}{p:Addr}{F:Addr→Prop}{S:Sh}(h:SheetAt K H p F S):S.Ok:=by
 obtain⟨dx,a1,a2,a3,d,kvs,h⟩:=h
 exact h.ok
theorem SheetAt.shape{K:Frag}{H:Hp}{p:Addr}{F:Addr→Prop}{S:Sh}(h:SheetAt K H p F S):ShapeAt K H p F S:=by
 obtain⟨dx,a1,a2,a3,d,kvs,h⟩:=h
 exact⟨dx,a1,a2,a3,d,kvs,h.toShape⟩
theorem SheetAt.same{K:Frag}{H H':Hp}{p:Addr}{F:Addr→Prop}{S:Sh}(h:SheetAt K H p F S)(s:Same H H'):SheetAt K H' p F S:=h.off fun b hb=>by
 have:=h.fh b hb
 cases e:H b with
 | none=>exact absurd e this
 | some o=>exact s b o e
theorem SheetAt.put{K:Frag}{H:Hp}{p:Addr}{F:Addr→Prop}{S:Sh}(h:SheetAt K H p F S){l:Addr}{o:HO}(n:¬F l):SheetAt K (upd H l o) p F S:=h.off fun b hb=>zi fun z=>n (z ▸ hb)
def Deed(F:Addr→Prop)(H:Hp)(F':Addr→Prop)(H':Hp):Prop:=∀b o,H b=some o→¬F b→H' b=some o∧¬F' b
def LQ(K:Frag)(F:Addr→Prop)(H:Hp)(a:Addr)(xs:List V):Prop :=
 (Rd H a (.lst xs)∧¬F a)∨∃(o:Obj)(its:Array Value)(n:Nat),K.lookup a=some o∧o.cls=.type "list"∧o.dict=none∧o.data=.seq its n∧its.size≤sizeLine∧Vals xs its.toList
theorem LQ.of{K:Frag}{F:Addr→Prop}{H:Hp}{a:Addr}{xs:List V}(h:H a=some (.lst xs))(n:¬F a):LQ K F H a xs:=.inl ⟨.inl h,n⟩
theorem SqL.none{K:Frag}{H:Hp}{a:Addr}{xs:List V}(h:SqL K H a xs):LQ K (fun _=>False) H a xs:=h.imp (fun z=>⟨z,fun w=>w⟩) id
theorem Deed.trans{F F1 F2:Addr→Prop}{H H1 H2:Hp}(a:Deed F H F1 H1)(b:Deed F1 H1 F2 H2):Deed F H F2 H2:=fun c o e n=>b c o (a c o e n).1 (a c o e n).2
theorem SheetAt.apart{K:Frag}{H:Hp}{p:Addr}{F:Addr→Prop}{S:Sh}(h:SheetAt K H p F S){l:Addr}(n:H l=none):¬F l:=fun z=>h.fh l z n
theorem zfd{H:Hp}{x l:Addr}{o u i:HO}(hx:H x=some i)(hl:H l=none):upd (upd H l o) x u x=some u∧upd (upd H l o) x u l=some o∧l≠x∧∀b v,H b=some v→b≠x→upd (upd H l o) x u b=some v:=by
 have n:l≠x:=fun e=>by rw[e,hx] at hl;cases hl
 exact⟨zd,by rw[zi n];exact zd,n,fun b v e nb=>by rw[zi nb,zi (zj e hl)];exact e⟩
theorem zi9(f:Str)(v x:V)(r:List (Str×V)):zah f v ((f,x)::r)=(f,v)::r:=by rw[zah,if_pos rfl]
theorem yr{f g:Str}(v x:V)(r:List (Str×V))(h:g≠f):zah f v ((g,x)::r)=(g,x)::zah f v r:=by rw[zah,if_neg h]
theorem pf1(v:V):zah "standing" v []=([("standing",v)]:List (Str×V)):=rfl
theorem pf2(u v:V):zah "struck_so_far" v [("standing",u)]=([("standing",u),("struck_so_far",v)]:List (Str×V)):=by rw[yr _ _ _ (by decide)];rfl
theorem pf3(u w v:V):zah "panel" v [("standing",u),("struck_so_far",w)]=([("standing",u),("struck_so_far",w),("panel",v)]:List (Str×V)):=by rw[yr _ _ _ (by decide),yr _ _ _ (by decide)];rfl
theorem pf4(u w y v:V):zah "card_by_judge" v [("standing",u),("struck_so_far",w),("panel",y)]=([("standing",u),("struck_so_far",w),("panel",y),("card_by_judge",v)]:List (Str×V)):=by rw[yr _ _ _ (by decide),yr _ _ _ (by decide),yr _ _ _ (by decide)];rfl
theorem pf5(u w y z v:V):zah "taken_so_far" v [("standing",u),("struck_so_far",w),("panel",y),("card_by_judge",z)]=([("standing",u),("struck_so_far",w),("panel",y),("card_by_judge",z),("taken_so_far",v)]:List (Str×V)):=by rw[yr _ _ _ (by decide),yr _ _ _ (by decide),yr _ _ _ (by decide),yr _ _ _ (by decide)];rfl
theorem pf6(u w y z t v:V):zah "sealed" v [("standing",u),("struck_so_far",w),("panel",y),("card_by_judge",z),("taken_so_far",t)]=([("standing",u),("struck_so_far",w),("panel",y),("card_by_judge",z),("taken_so_far",t),("sealed",v)]:List (Str×V)):=by rw[yr _ _ _ (by decide),yr _ _ _ (by decide),yr _ _ _ (by decide),yr _ _ _ (by decide),yr _ _ _ (by decide)];rfl
theorem ziY(a1 a2 a3 d b:Addr)(S S':Sh)(h:S'.taken=S.taken)(h2:S'.shut=S.shut):zah "standing" (.ref b) (shF a1 a2 a3 d S)=shF b a2 a3 d S':=by unfold shF;rw[zi9,h,h2]
theorem pf_taken(a1 a2 a3 d:Addr)(S S':Sh)(h2:S'.shut=S.shut):zah "taken_so_far" (.int S'.taken) (shF a1 a2 a3 d S)=shF a1 a2 a3 d S':=by
 unfold shF
 rw[yr _ _ _ (by decide),yr _ _ _ (by decide),yr _ _ _ (by decide),yr _ _ _ (by decide),zi9,h2]
theorem putK_len{kvs:List (Key×V)}{k:Key}{v u:V}(h:zaA kvs k=some u):(zcD kvs k v).length=kvs.length:=by
 unfold zcD
 have:(kvs.any fun kv=>decide (kv.1=k))=true:=by rw[zdV,h];rfl
 rw[if_pos this,length_map]
theorem SheetAt.ins{K:Frag}{H:Hp}{p:Addr}{F:Addr→Prop}{S:Sh}(h:SheetAt K H p F S):∃dx a1 a2 a3 d,H p=some (.ins (zE K "Sheet") dx (shF a1 a2 a3 d S)):=by
 obtain⟨dx,a1,a2,a3,d,kvs,h⟩:=h
 exact⟨dx,a1,a2,a3,d,h.ip⟩
def Sh.rows(S:Sh):List (List Int):=S.panel.map fun j=>(S.card j).getD []
def zeq(cs:List (List Int)):List Int:=((List.range cs.length).filter fun k => !decide (cs.getD k []=[])).map fun(k:Nat)=>(k:Int)
theorem zi7{α:Type}(l:List α)(d:α):(List.range l.length).map (fun k=>l.getD k d)=l:=by
 refine ext_getElem (by simp) fun i h1 h2=>?_
 simp[h2]
theorem zfM{cs:List (List Int)}{x:Int}(h:x∈zeq cs):0≤x∧x.toNat<cs.length∧cs.getD x.toNat []≠[]:=by
 obtain⟨k,hk,rfl⟩:=List.mem_map.mp h
 obtain⟨h1,h2⟩:=List.mem_filter.mp hk
 have h1:=List.mem_range.mp h1
 refine⟨by omega,by simpa using h1,fun z=>?_⟩
 have e:((k:Int)).toNat=k:=by omega
 rw[e] at z
 rw[decide_eq_true z] at h2
 exact absurd h2 (by decide)
theorem intoK_len(cs:List (List Int)):(zeq cs).length≤cs.length:=by
 unfold zeq
 rw[length_map]
 exact le_trans (length_filter_le _ _) (by rw[length_range];exact le_refl _)
theorem Sh.rows_len(S:Sh):S.rows.length=S.panel.length:=by unfold rows;simp
theorem Sh.rows_at(S:Sh){k:Nat}(h:k<S.panel.length):S.rows.getD k []=(S.card (S.panel.getD k "")).getD []:=by
 unfold rows
 rw[getD_eq_getElem?_getD,getD_eq_getElem?_getD,getElem?_map,getElem?_eq_getElem h]
 rfl
theorem Sh.Ok.full{S:Sh}(h:S.Ok){j:Str}{c:List Int}(e:S.card j=some c):c≠[]:=fun z=>by
 have:=(h.cd j c e).2.length_eq
 have h1:=h.c1
 rw[z] at this
 simp at this
 omega
theorem Sh.into_names{S:Sh}(h:S.Ok):(zeq S.rows).map (fun x=>S.panel.getD x.toNat "")=S.handed:=by
 unfold zeq Sh.handed
 rw[map_map]
 conv=>rhs;rw[←zi7 S.panel ""]
 rw[filter_map,Sh.rows_len]
 have e:(List.range S.panel.length).filter (fun k => !decide (S.rows.getD k []=[]))=(List.range S.panel.length).filter ((fun j=>(S.card j).isSome) ∘ fun k=>S.panel.getD k ""):=by
  refine filter_congr fun k hk=>?_
  have hk:=List.mem_range.mp hk
  rw[S.rows_at hk]
  show _=(S.card (S.panel.getD k "")).isSome
  cases e:S.card (S.panel.getD k "")with
  | none=>rfl
  | some c=>rw[show(some c).getD ([]:List Int)=c from rfl,decide_eq_false (h.full e)];rfl
 rw[e]
 refine map_congr_left fun k _=>?_
 show S.panel.getD ((k:Int)).toNat ""=_
 rw[show((k:Int)).toNat=k by omega]
theorem Sh.into_cards{S:Sh}(h:S.Ok):(zeq S.rows).map (fun x=>S.rows.getD x.toNat [])=S.cardsIn:=by
 unfold Sh.cardsIn
 rw[←Sh.into_names h,map_map]
 refine map_congr_left fun x hx=>?_
 have:=zfM hx
 rw[S.rows_at (by rw[←Sh.rows_len];exact this.2.1)]
 rfl
theorem Sh.into_one{S:Sh}(h:S.Ok){x:Int}(hx:x∈zeq S.rows):S.card (S.panel.getD x.toNat "")=some (S.rows.getD x.toNat []):=by
 have hm:=zfM hx
 have e:=S.rows_at (k:=x.toNat) (by rw[←Sh.rows_len];exact hm.2.1)
 cases q:S.card (S.panel.getD x.toNat "")with
 | none=>rw[q] at e;exact absurd e hm.2.2
 | some c=>rw[q] at e;rw[e];rfl
theorem zha(cs:List (List Int))(i:Nat):(((List.range (i+1)).filter fun k => !decide (cs.getD k []=[])).map fun(k:Nat)=>(k:Int))=(((List.range i).filter fun k => !decide (cs.getD k []=[])).map fun(k:Nat)=>(k:Int))++(if cs.getD i []=[] then [] else [(i:Int)]):=by
 rw[range_succ,filter_append,map_append]
 congr 1
 by_cases h:cs.getD i []=[]
 ·rw[if_pos h,filter_cons,if_neg (by rw[decide_eq_true h];decide)];rfl
 ·rw[if_neg h,filter_cons,if_pos (by rw[decide_eq_false h];rfl)];rfl
theorem All2.at{α β:Type}{R:α→β→Prop}{as:List α}{bs:List β}(h:All2 R as bs){i:Nat}(hi:i<bs.length)(d:β):∃a,as[i]? = some a∧R a (bs.getD i d):=by
 have e:bs[i]? = some (bs.getD i d):=by rw[getD_eq_getElem?_getD,getElem?_eq_getElem hi];rfl
 exact h.get e
theorem All2.set{α β:Type}{R:α→β→Prop}{as:List α}{bs:List β}(h:All2 R as bs){a:α}{b:β}(r:R a b):∀k,All2 R (as.set k a) (bs.set k b):=by
 induction h with
 | nil=>intro k;exact .nil
 | cons r' h' ih =>
   intro k
   cases k with
   | zero=>exact .cons r h'
   | succ k=>exact .cons r' (ih k)
def Rows(F:Addr→Prop)(H:Hp)(lc:Addr)(ls:List Addr)(cs:List (List Int)):Prop:=H lc=some (.lst (ls.map V.ref))∧¬F lc∧All2 (fun l c=>H l=some (.lst (c.map V.int))∧¬F l) ls cs
theorem Rows.len{F:Addr→Prop}{H:Hp}{lc:Addr}{ls:List Addr}{cs:List (List Int)}(h:Rows F H lc ls cs):ls.length=cs.length:=h.2.2.length
theorem All2.memL{α β:Type}{R:α→β→Prop}{as:List α}{bs:List β}(h:All2 R as bs){a:α}(ha:a∈as):∃b,R a b:=by
 induction h with
 | nil=>cases ha
 | cons r _ ih =>
   rcases List.mem_cons.mp ha with e | e
   ·exact⟨_,e ▸ r⟩
   ·exact ih e
theorem zim{ls:List Addr}{c:List Int}(h:ls≠[]):(HO.lst (c.map V.int)) ≠ .lst (ls.map V.ref):=fun z=>by
 injection z with z
 cases ls with
 | nil=>exact h rfl
 | cons l ls=>cases c with
   | nil=>cases z
   | cons x c=>simp at z
theorem Rows.set{F:Addr→Prop}{H:Hp}{lc:Addr}{ls:List Addr}{cs:List (List Int)}(h:Rows F H lc ls cs)(hne:ls≠[]){m:Addr}{c:List Int}(hm:H m=some (.lst (c.map V.int)))(nm:¬F m)(k:Nat):
 Rows F (upd H lc (.lst ((ls.map V.ref).set k (.ref m)))) lc (ls.set k m) (cs.set k c):=by
 refine⟨by rw[zd,List.map_set],h.2.1,All2.set (h.2.2.imp fun l c z=>⟨?_,z.2⟩) ⟨?_,nm⟩ k⟩
 ·rw[zi (we z.1 h.1 (zim hne))];exact z.1
 ·rw[zi (we hm h.1 (zim hne))];exact hm
theorem Sh.rows_hand{S:Sh}(h:S.panel.Nodup){k:Nat}(hk:k<S.panel.length)(c:List Int):(S.hand (S.panel.getD k "") c).rows=S.rows.set k c:=by
 unfold Sh.rows
 refine ext_getElem (by simp;rfl) fun i h1 h2=>?_
 have hi:i<S.panel.length:=by simpa using h2
 rw[List.getElem_set]
 have e1:((S.hand (S.panel.getD k "") c).panel.map fun j=>((S.hand (S.panel.getD k "") c).card j).getD [])[i]=(if S.panel[i]=S.panel.getD k "" then some c else S.card S.panel[i]).getD []:=by
  rw[getElem_map]
  rfl
 rw[e1]
 have ek:S.panel.getD k ""=S.panel[k]:=by rw[getD_eq_getElem?_getD,getElem?_eq_getElem hk];rfl
 by_cases hki:k=i
 ·subst hki
  rw[if_pos ek.symm,if_pos rfl]
  rfl
 ·rw[if_neg hki,if_neg (fun z=>hki (List.getElem_inj h |>.mp (z.trans ek)).symm),getElem_map]
theorem ixN_ok{k:Int}{n:Nat}(h0:0≤k)(h:k.toNat<n):ixN n k=some k.toNat:=by
 unfold ixN
 rw[if_pos h0,if_pos (by omega)]
theorem Sh.rows_strike(S:Sh)(c:Int):(S.strike c).rows=S.rows.map (wo c):=by
 unfold Sh.rows
 rw[map_map]
 refine map_congr_left fun j _=>?_
 show((S.card j).map (wo c)).getD []=wo c ((S.card j).getD [])
 cases S.card j with
 | none=>rfl
 | some d=>rfl
end L2
namespace M5
open PySem L2 M3
def key(ms:List Int):Nat→List Int
 | 0=>[]
 | k+1=>(fun a:List Int=>if a=[] then [] else a++[-((got ms ((k:Int)+1)).length:Int),(got ms ((k:Int)+1)).sum])
    (if key ms k=[]∧ms.length<2*(got ms ((k:Int)+1)).length then [(k:Int)+1] else key ms k)
def zl(cs:List (List Int))(c:Int):List Int:=cs.map fun card=>(card.idxOf c:Int)+1
def zfb(cs:List (List Int))(us:List Int):List (List Int):=us.map fun c=>key (zl cs c) us.length
def zen(rs:List (List Int))(m:List Int):Nat:=(rs.filter fun r=>HT.lexLt r m).length
def spots(cs:List (List Int))(us:List Int):List Int:=(zfb cs us).map fun m=>1+(zen (zfb cs us) m:Int)
def rows(ps us:List Int):List (Int×Int):=(List.range us.length).flatMap fun(i:Nat)=>(ps.zip us).filter fun p=>decide (p.1=(i:Int)+1)
theorem key_len(ms:List Int):∀k,(key ms k).length≤1+2*k
 | 0=>zero_le _
 | k+1=>by
   have ih:=key_len ms k
   unfold key
   dsimp only
   have go:∀a:List Int,a.length≤1+2*k→(if a=[] then [] else a++[-((got ms ((k:Int)+1)).length:Int),(got ms ((k:Int)+1)).sum]).length≤1+2*(k+1):=fun a h=>by
    split
    ·simp
    ·rw[length_append,length_cons,length_cons,length_nil];omega
   refine go _ ?_
   split
   ·rw[length_cons,length_nil];omega
   ·exact ih
theorem zV(cs:List (List Int))(c:Int):(zl cs c).length=cs.length:=by unfold zl;simp
theorem rows_len(ps us:List Int)(h:ps.length=us.length):(rows ps us).length≤us.length*us.length:=by
 unfold rows
 have go:∀n:Nat,((List.range n).flatMap fun(i:Nat)=>(ps.zip us).filter fun p=>decide (p.1=(i:Int)+1)).length≤n*us.length:=fun n=>by
  induction n with
  | zero=>simp
  | succ n ih =>
    rw[range_succ,flatMap_append,length_append,Nat.succ_mul]
    have h1:=length_filter_le (fun p=>decide (p.1=(n:Int)+1)) (ps.zip us)
    rw[length_zip,h,Nat.min_self] at h1
    have e:flatMap (fun(i:Nat)=>(ps.zip us).filter fun p=>decide (p.1=(i:Int)+1)) [n]=(ps.zip us).filter fun p=>decide (p.1=(n:Int)+1):=by simp
    rw[e]
    omega
 exact go us.length
end M5
namespace M6
open PySem L2 M3 M5
abbrev Sg:=Option (Int×Int)
def sg(a:List Int)(k:Int):Sg:=if a.length<2*cnt a k then some ((cnt a k:Int),sm a k)else none
def olt:Sg→Sg→Bool
 | some _,none=>true
 | none,_=>false
 | some p,some q=>decide (q.1<p.1) || (decide (p.1=q.1) && decide (p.2<q.2))
def zL:List Sg→List Sg→Bool
 | x::xs,y::ys=>if x=y then zL xs ys else olt x y
 | _,_=>false
def wb(a:List Int)(n:Nat):List Sg:=(List.range n).map fun(i:Nat)=>sg a ((i:Int)+1)
def yl(a b:List Int)(n:Nat):Bool:=zL (wb a n) (wb b n)
theorem zea(k:Nat)(x:Sg)(xs ys:List Sg):zL (replicate k x++xs) (replicate k x++ys)=zL xs ys:=by
 induction k with
 | zero=>rfl
 | succ k ih=>rw[List.replicate_succ,cons_append,cons_append,zL,if_pos rfl];exact ih
def tl(a:List Int)(f m:Nat):List Int:=(List.range m).flatMap fun(i:Nat)=>[-(cnt a ((f:Int)+i):Int),sm a ((f:Int)+i)]
theorem tl_succ(a:List Int)(f m:Nat):tl a f (m+1)=tl a f m++[-(cnt a ((f:Int)+m):Int),sm a ((f:Int)+m)]:=by
 unfold tl;rw[range_succ,flatMap_append];simp
theorem zj9{a:List Int}:∀{k:Nat},(∀j:Nat,j≤k→1≤j→2*cnt a j≤a.length)→key a k=[]
 | 0,_=>rfl
 | k+1,h=>by
   have ih:=zj9 (a:=a) (k:=k) fun j hj h1=>h j (by omega) h1
   have hk:=h (k+1) (le_refl _) (by omega)
   have e:((k+1:Nat):Int)=(k:Int)+1:=by omega
   rw[e] at hk
   unfold cnt at hk
   unfold key
   rw[ih,if_neg (fun z=>absurd z.2 (by omega))]
   rfl
theorem zgx{a:List Int}{f:Nat}(h1:1≤f)(hf:isF a f):∀m:Nat,key a (f+m)=(f:Int)::tl a f (m+1)
 | 0=>by
   obtain⟨g,rfl⟩:∃g,f=g+1:=⟨f-1,by omega⟩
   have e:((g+1:Nat):Int)=(g:Int)+1:=by omega
   have hlow:key a g=[]:=zj9 fun j hj hj1=>by
    have:=zbW (ms:=a) (show(j:Int)≤((g+1:Nat):Int)-1 by omega)
    have:=hf.2
    omega
   have hov:=hf.1
   rw[e] at hov
   unfold cnt at hov
   show key a (g+1)=_
   unfold key
   rw[hlow,if_pos ⟨rfl,hov⟩,tl_succ]
   have e0:((g+1:Nat):Int)+((0:Nat):Int)=(g:Int)+1:=by omega
   rw[e0,e]
   rfl
 | m+1=>by
   have ih:=zgx h1 hf m
   show key a ((f+m)+1)=_
   unfold key
   rw[ih,if_neg (fun z=>by cases z.1),tl_succ a f (m+1)]
   have e:((f+m:Nat):Int)+1=(f:Int)+((m+1:Nat):Int):=by omega
   rw[e]
   rfl
theorem zch{a:List Int}{k:Int}(h:2*cnt a k≤a.length):sg a k=none:=by unfold sg;rw[if_neg (by omega)]
theorem yU{a:List Int}{k:Int}(h:a.length<2*cnt a k):sg a k=some ((cnt a k:Int),sm a k):=by unfold sg;rw[if_pos h]
theorem zhJ{a:List Int}{f m:Nat}(h1:1≤f)(hf:isF a f):wb a (f+m)=replicate (f-1) none++(List.range (m+1)).map fun(i:Nat)=>some ((cnt a ((f:Int)+i):Int),sm a ((f:Int)+i)):=by
 refine ext_getElem ?_ fun i hi1 hi2=>?_
 ·unfold wb;simp;omega
 ·have hi:i<f+m:=by unfold wb at hi1;simpa using hi1
  have e1:(wb a (f+m))[i]=sg a ((i:Int)+1):=by
   have:(wb a (f+m))[i]? = some (sg a ((i:Int)+1)):=by
    show((List.range (f+m)).map fun(i:Nat)=>sg a ((i:Int)+1))[i]? = _
    rw[getElem?_map,getElem?_range hi]
    rfl
   rw[getElem?_eq_getElem hi1] at this
   exact Option.some.inj this
  rw[e1]
  by_cases c:i<f-1
  ·rw[List.getElem_append_left (by simpa using c),List.getElem_replicate]
   refine zch ?_
   have:=zbW (ms:=a) (show(i:Int)+1≤(f:Int)-1 by omega)
   have:=hf.2
   omega
  ·rw[List.getElem_append_right (by simpa using c)]
   simp only[List.length_replicate,getElem_map,getElem_range]
   have e2:(f:Int)+((i-(f-1):Nat):Int)=(i:Int)+1:=by omega
   rw[e2]
   refine yU ?_
   have:=zbW (ms:=a) (show(f:Int)≤(i:Int)+1 by omega)
   have:=hf.1
   omega
theorem zh7(c s c' s':Nat→Int):∀(m j:Nat),HT.lexLt ((range' j m).flatMap fun(i:Nat)=>[-c i,s i]) ((range' j m).flatMap fun(i:Nat)=>[-c' i,s' i])=zL ((range' j m).map fun(i:Nat)=>some (c i,s i)) ((range' j m).map fun(i:Nat)=>some (c' i,s' i))
 | 0,j=>rfl
 | m+1,j=>by
   rw[List.range'_succ,List.flatMap_cons,List.flatMap_cons,map_cons,map_cons]
   show HT.lexLt (-c j::s j::_) (-c' j::s' j::_)=_
   rw[HT.lexLt_cons,HT.lexLt_cons,zL,←zh7 c s c' s' m (j+1)]
   by_cases h1:c j=c' j
   ·rw[if_pos (by rw[h1])]
    by_cases h2:s j=s' j
    ·rw[if_pos h2,if_pos (by rw[h1,h2])];rfl
    ·rw[if_neg h2,if_neg (fun z=>h2 (by injection z with z;exact(Prod.mk.inj z).2))]
     show _=(decide (c' j<c j) || (decide (c j=c' j) && decide (s j<s' j)))
     rw[decide_eq_false (show ¬c' j<c j by omega),decide_eq_true h1]
     rfl
   ·rw[if_neg (fun z=>h1 (by omega)),if_neg (fun z=>h1 (by injection z with z;exact(Prod.mk.inj z).1))]
    show _=(decide (c' j<c j) || (decide (c j=c' j) && decide (s j<s' j)))
    rw[decide_eq_false h1,Bool.false_and,Bool.or_false]
    by_cases h3:c' j<c j
    ·rw[decide_eq_true h3,decide_eq_true (by omega)]
    ·rw[decide_eq_false h3,decide_eq_false (by omega)]
theorem rep_add{α:Type}(m n:Nat)(x:α):replicate (m+n) x=replicate m x++replicate n x:=by simp
theorem key_ahead{a b:List Int}{f g n:Nat}(hf1:1≤f)(hg1:1≤g)(hf:isF a f)(hg:isF b g)(hfn:f≤n)(hgn:g≤n):HT.lexLt (key a n) (key b n)=yl a b n:=by
 obtain⟨m,rfl⟩:∃m,n=f+m:=⟨n-f,by omega⟩
 obtain⟨k,hk⟩:∃k,f+m=g+k:=⟨f+m-g,by omega⟩
 unfold yl
 rw[zgx hf1 hf m,zhJ hf1 hf]
 rw[hk,zgx hg1 hg k,zhJ hg1 hg,HT.lexLt_cons]
 rcases Nat.lt_trichotomy f g with h | h | h
 ·rw[if_neg (by omega),decide_eq_true (show(f:Int)<g by omega)]
  obtain⟨d,hd⟩:∃d,g-1=(f-1)+(d+1):=⟨g-1-(f-1)-1,by omega⟩
  rw[hd,rep_add,append_assoc,zea,range_succ_eq_map,map_cons,List.replicate_succ,cons_append,zL,if_neg (by intro z;cases z)]
  rfl
 ·subst h
  have:k=m:=by omega
  subst this
  rw[if_pos rfl,zea]
  have:=zh7 (fun i=>(cnt a ((f:Int)+i):Int)) (fun i=>sm a ((f:Int)+i)) (fun i=>(cnt b ((f:Int)+i):Int)) (fun i=>sm b ((f:Int)+i)) (k+1) 0
  rw[←List.range_eq_range'] at this
  exact this
 ·rw[if_neg (by omega),decide_eq_false (show ¬(f:Int)<g by omega)]
  obtain⟨d,hd⟩:∃d,f-1=(g-1)+(d+1):=⟨f-1-(g-1)-1,by omega⟩
  rw[hd,rep_add,append_assoc,zea,range_succ_eq_map (n:=k),map_cons,List.replicate_succ,cons_append,zL,if_neg (by intro z;cases z)]
  rfl
theorem exF{a:List Int}(hlo:∀x∈a,1≤x):∀n:Nat,a.length<2*cnt a n→∃f:Nat,1≤f∧f≤n∧isF a f
 | 0,h=>by
   have:=zix (ms:=a) (n:=((0:Nat):Int)) fun x hx=>by have:=hlo x hx;omega
   omega
 | n+1,h=>by
   by_cases c:a.length<2*cnt a n
   ·obtain⟨f,h1,h2,h3⟩:=exF hlo n c
    exact⟨f,h1,by omega,h3⟩
   ·refine⟨n+1,by omega,le_refl _,h,?_⟩
    have e:((n+1:Nat):Int)-1=(n:Int):=by omega
    rw[e]
    omega
theorem zju{a:List Int}{n:Nat}(hne:a≠[])(h:∀x∈a,1≤x∧x≤n):∃f:Nat,1≤f∧f≤n∧isF a f :=
 exF (fun x hx=>(h x hx).1) n (by
  rw[zgr fun x hx=>(h x hx).2]
  have:=List.length_pos_iff.mpr hne
  omega)
theorem sg_high{a:List Int}{n k:Int}(h:∀x∈a,x≤n)(hk:n≤k):sg a k=sg a n:=by
 have e:got a k=got a n:=by
  unfold got
  exact filter_congr fun x hx=>by
   have:=h x hx
   rw[decide_eq_true (by omega),decide_eq_true this]
 unfold sg cnt sm
 rw[e]
theorem zh8(a:List Int)(n:Nat):wb a (n+1)=wb a n++[sg a ((n:Int)+1)]:=by unfold wb;rw[range_succ,map_append];rfl
theorem zcV(a:List Int)(n:Nat):(wb a n).length=n:=by unfold wb;simp
theorem ze2:∀{xs ys:List Sg}{x y:Sg},xs.length=ys.length→(x=y∨xs≠ys)→zL (xs++[x]) (ys++[y])=zL xs ys
 | [],[],x,y,_,h=>by
   rcases h with h | h
   ·subst h;show(if x=x then false else olt x x)=false;rw[if_pos rfl]
   ·exact absurd rfl h
 | p::xs,q::ys,x,y,hl,h=>by
   rw[cons_append,cons_append,zL,zL]
   by_cases e:p=q
   ·subst e
    rw[if_pos rfl,if_pos rfl]
    exact ze2 (by simpa using hl) (h.imp id fun z w=>z (by rw[w]))
   ·rw[if_neg e,if_neg e]
theorem zeD{a b:List Int}{n:Nat}(h1:1≤n)(ha:∀x∈a,x≤n)(hb:∀x∈b,x≤n):∀k,yl a b (n+k)=yl a b n
 | 0=>rfl
 | k+1=>by
   rw[←zeD h1 ha hb k]
   show zL (wb a ((n+k)+1)) (wb b ((n+k)+1))=_
   rw[zh8,zh8]
   refine ze2 (by rw[zcV,zcV]) ?_
   by_cases e:wb a (n+k)=wb b (n+k)
   ·left
    have:(wb a (n+k))[n-1]? = (wb b (n+k))[n-1]? := by rw[e]
    unfold wb at this
    rw[getElem?_map,getElem?_map,getElem?_range (by omega)] at this
    have this:sg a (((n-1:Nat):Int)+1)=sg b (((n-1:Nat):Int)+1):=Option.some.inj this
    have en:((n-1:Nat):Int)+1=(n:Int):=by omega
    rw[en] at this
    rw[sg_high ha (by omega),sg_high hb (by omega)]
    exact this
   ·exact .inr e
theorem ahead_any{a b:List Int}{n m:Nat}(h1:1≤n)(hm:1≤m)(ha:∀x∈a,x≤n∧x≤m)(hb:∀x∈b,x≤n∧x≤m):yl a b n=yl a b m:=by
 rcases Nat.le_total n m with h | h
 ·obtain⟨k,rfl⟩:=Nat.exists_eq_add_of_le h
  exact(zeD h1 (fun x hx=>(ha x hx).1) (fun x hx=>(hb x hx).1) k).symm
 ·obtain⟨k,rfl⟩:=Nat.exists_eq_add_of_le h
  exact zeD hm (fun x hx=>(ha x hx).2) (fun x hx=>(hb x hx).2) k
def word:Sg→Sg→Str
 | some p,some q=>if p.1=q.1 then "sum" else "count"
 | _,_=> "half"
def yL(a b:List Int)(n:Nat):Option (Nat×Str)→Prop
 | none=>∀k:Nat,1≤k→k≤n→sg a k=sg b k
 | some r=>1≤r.1∧r.1≤n∧(∀j:Nat,1≤j→j<r.1→sg a j=sg b j)∧sg a r.1≠sg b r.1∧r.2=word (sg a r.1) (sg b r.1)
theorem zaS{a b:List Int}{n:Nat}{r r':Option (Nat×Str)}(h:yL a b n r)(h':yL a b n r'):r=r':=by
 cases r with
 | none =>
   cases r' with
   | none=>rfl
   | some q=>exact absurd (h q.1 h'.1 h'.2.1) h'.2.2.2.1
 | some p =>
   cases r' with
   | none=>exact absurd (h' p.1 h.1 h.2.1) h.2.2.2.1
   | some q =>
     obtain⟨k,w⟩:=p
     obtain⟨j,v⟩:=q
     obtain⟨a1,a2,a3,a4,a5⟩:=h
     obtain⟨b1,b2,b3,b4,b5⟩:=h'
     dsimp only at a1 a2 a3 a4 a5 b1 b2 b3 b4 b5
     have e:k=j:=by
      rcases Nat.lt_trichotomy k j with c | c | c
      ·exact absurd (b3 k a1 c) a4
      ·exact c
      ·exact absurd (a3 j b1 c) b4
     subst e
     rw[a5,b5]
theorem zgD:∀{xs ys:List Sg}(k:Nat)(h1:k<xs.length)(h2:k<ys.length),(∀j,j<k→xs[j]? = ys[j]?)→xs[k]≠ys[k]→zL xs ys=olt xs[k] ys[k]
 | x::xs,y::ys,0,_,_,_,hne=>by rw[zL,if_neg (show ¬x=y from hne)];rfl
 | x::xs,y::ys,k+1,h1,h2,he,hne=>by
   have e:x=y:=by have:=he 0 (by omega);simpa using this
   rw[zL,if_pos e]
   exact zgD k (by simpa using h1) (by simpa using h2) (fun j hj=>by have:=he (j+1) (by omega);simpa using this) (by simpa using hne)
theorem zeZ:∀(xs:List Sg),zL xs xs=false
 | []=>rfl
 | x::xs=>by rw[zL,if_pos rfl];exact zeZ xs
theorem zgl(a:List Int){n k:Nat}(h:k<n):(wb a n)[k]? = some (sg a ((k:Int)+1)):=by
 unfold wb
 rw[getElem?_map,getElem?_range h]
 rfl
theorem ahead_none{a b:List Int}{n:Nat}(h:yL a b n none):yl a b n=false:=by
 have e:wb a n=wb b n:=by
  unfold wb
  refine map_congr_left fun i hi=>?_
  have hi:=List.mem_range.mp hi
  have:=h (i+1) (by omega) (by omega)
  have ei:((i+1:Nat):Int)=(i:Int)+1:=by omega
  rw[ei] at this
  exact this
 unfold yl
 rw[e]
 exact zeZ _
theorem zeJ{a b:List Int}{n:Nat}{r:Nat×Str}(h:yL a b n (some r)):yl a b n=olt (sg a r.1) (sg b r.1):=by
 obtain⟨k,w⟩:=r
 obtain⟨a1,a2,a3,a4,a5⟩:=h
 dsimp only at a1 a2 a3 a4 a5 ⊢
 obtain⟨j,rfl⟩:∃j,k=j+1:=⟨k-1,by omega⟩
 have ej:((j+1:Nat):Int)=(j:Int)+1:=by omega
 have l1:j<(wb a n).length:=by rw[zcV];omega
 have l2:j<(wb b n).length:=by rw[zcV];omega
 have g1:(wb a n)[j]=sg a ((j+1:Nat):Int):=by
  have:=zgl a (n:=n) (k:=j) (by omega)
  rw[getElem?_eq_getElem l1] at this
  rw[ej];exact Option.some.inj this
 have g2:(wb b n)[j]=sg b ((j+1:Nat):Int):=by
  have:=zgl b (n:=n) (k:=j) (by omega)
  rw[getElem?_eq_getElem l2] at this
  rw[ej];exact Option.some.inj this
 unfold yl
 rw[zgD j l1 l2 (fun i hi=>?_) (by rw[g1,g2];exact a4),g1,g2]
 rw[zgl a (by omega),zgl b (by omega)]
 have:=a3 (i+1) (by omega) (by omega)
 have ei:((i+1:Nat):Int)=(i:Int)+1:=by omega
 rw[ei] at this
 rw[this]
end M6
namespace L2
open PySem
end L2
namespace M6
open PySem L2 M3 M5
def zv(cs:List (List Int))(us:List Int):List Int:=us.map fun c=>1+((us.filter fun d=>yl (zl cs d) (zl cs c) us.length).length:Int)
theorem yw{cs:List (List Int)}{us:List Int}{c:Int}(hp:∀d∈cs,d.Perm us)(hc:c∈us):∀x∈zl cs c,1≤x∧x≤us.length:=fun x hx=>by
 unfold zl at hx
 obtain⟨d,hd,rfl⟩:=List.mem_map.mp hx
 have h:=hp d hd
 have:d.idxOf c<d.length:=List.idxOf_lt_length_of_mem (h.mem_iff.mpr hc)
 have:=h.length_eq
 omega
theorem zjf{cs:List (List Int)}{c:Int}(h:1≤cs.length):zl cs c≠[]:=fun e=>by
 have:=zV cs c
 rw[e] at this
 simp at this
 omega
theorem key_cs{cs:List (List Int)}{us:List Int}{c d:Int}(hp:∀d∈cs,d.Perm us)(h1:1≤cs.length)(hc:c∈us)(hd:d∈us):HT.lexLt (key (zl cs c) us.length) (key (zl cs d) us.length)=yl (zl cs c) (zl cs d) us.length:=by
 obtain⟨f,f1,f2,f3⟩:=zju (zjf h1) (yw hp hc)
 obtain⟨g,g1,g2,g3⟩:=zju (zjf h1) (yw hp hd)
 exact key_ahead f1 g1 f3 g3 f2 g2
theorem zbG{cs:List (List Int)}{us:List Int}(hp:∀d∈cs,d.Perm us)(h1:1≤cs.length):spots cs us=zv cs us:=by
 unfold spots zv zfb
 rw[map_map]
 refine map_congr_left fun c hc=>?_
 show 1+(M5.zen (us.map fun c=>key (zl cs c) us.length) (key (zl cs c) us.length):Int)=_
 unfold M5.zen
 rw[filter_map,length_map]
 congr 3
 exact filter_congr fun d hd=>key_cs hp h1 hd hc
theorem zS(cs:List (List Int))(us:List Int):(zv cs us).length=us.length:=by unfold zv;simp
def zbn(ms:List Int)(n:Nat):List (Int×Int):=(List.range n).map fun(i:Nat)=>((cnt ms ((i:Int)+1):Int),sm ms ((i:Int)+1))
theorem zfO(ms:List Int)(n:Nat):zbn ms (n+1)=zbn ms n++[((cnt ms ((n:Int)+1):Int),sm ms ((n:Int)+1))]:=by unfold zbn;rw[range_succ,map_append];rfl
theorem zc4(ms:List Int)(n:Nat):(zbn ms n).length=n:=by unfold zbn;simp
theorem word_symm(p q:Sg):word p q=word q p:=by
 cases p with
 | none=>cases q <;> rfl
 | some p=>cases q with
   | none=>rfl
   | some q =>
     show(if p.1=q.1 then("sum":Str)else("count":Str))=if q.1=p.1 then("sum":Str)else("count":Str)
     by_cases h:p.1=q.1
     ·rw[if_pos h,if_pos h.symm]
     ·rw[if_neg h,if_neg fun z=>h z.symm]
theorem zj3{a b:List Int}{n:Nat}{r:Option (Nat×Str)}(h:yL a b n r):yL b a n r:=by
 cases r with
 | none=>exact fun k h1 h2=>(h k h1 h2).symm
 | some r=>exact⟨h.1,h.2.1,fun j h1 h2=>(h.2.2.1 j h1 h2).symm,fun z=>h.2.2.2.1 z.symm,by rw[word_symm];exact h.2.2.2.2⟩
end M6
namespace L2
open PySem
def Told(K:Frag)(H:Hp)(x:V):Option (Nat×Str)→Prop
 | none=>x=.non
 | some r=>∃l,x=.ref l∧SqT K H l [.int (r.1:Nat),.str r.2]
end L2
namespace M3
open PySem L2
theorem zji{a b:List Int}(h:a.Perm b)(n:Int):cnt a n=cnt b n:=(h.filter _).length_eq
theorem zhj(a b:List Int)(n:Int):cnt (a++b) n=cnt a n+cnt b n:=by
 unfold cnt got
 rw[filter_append,length_append]
theorem isF_perm{a b:List Int}(h:a.Perm b){f:Int}(hf:isF a f):isF b f:=by
 unfold isF at *
 rw[←zji h,←zji h,←h.length_eq]
 exact hf
theorem sorted_isF{ns:List Int}(hs:ns.Pairwise (·≤ ·))(hne:ns≠[]):isF ns (ns.getD (ns.length/2) 0):=by
 have hn:=List.length_pos_iff.mpr hne
 have hk:ns.length/2<ns.length:=by omega
 generalize hK:ns.length/2=k at hk ⊢
 have e:ns=ns.take k++ns.drop k:=(take_append_drop k ns).symm
 have ed:ns.drop k=ns.getD k 0::ns.drop (k+1):=by rw[zeQ hk];exact drop_eq_getElem_cons hk
 generalize ns.getD k 0=f at ed ⊢
 have lt:(ns.take k).length=k:=by rw[length_take];omega
 rw[e] at hs
 obtain⟨h1,h2,h3⟩:=List.pairwise_append.mp hs
 rw[ed] at h2 h3
 have h4:=List.pairwise_cons.mp h2
 unfold isF
 constructor
 ·have a1:cnt (ns.take k) f=k:=by rw[zgr fun x hx=>h3 x hx f (mem_cons_self ..),lt]
  have a2:1≤cnt (ns.drop k) f:=by
   rw[ed]
   unfold cnt got
   rw[filter_cons,if_pos (decide_eq_true (Int.le_refl f)),length_cons]
   omega
  have a3:cnt ns f=cnt (ns.take k) f+cnt (ns.drop k) f:=by rw[←zhj,←e]
  omega
 ·have a1:=zc5 (ns.take k) (f-1)
  have a2:cnt (ns.drop k) (f-1)=0:=by
   refine zix fun x hx=>?_
   rw[ed] at hx
   rcases List.mem_cons.mp hx with z | z
   ·omega
   ·have:=h4.1 x z;omega
  have a3:cnt ns (f-1)=cnt (ns.take k) (f-1)+cnt (ns.drop k) (f-1):=by rw[←zhj,←e]
  omega
end M3
namespace M6
open PySem L2 M3 M5
def zjw(a b:List Int)(f:Int):Option Int→Prop
 | none=>∀k,f≤k→cnt a k=cnt b k∧sm a k=sm b k
 | some n=>f≤n∧n≤24∧(∀j,f≤j→j<n→cnt a j=cnt b j∧sm a j=sm b j)∧¬(cnt a n=cnt b n∧sm a n=sm b n)
theorem zcS{a:List Int}{f j:Int}(hf:isF a f)(hj:j<f):sg a j=none:=by
 refine zch ?_
 have:=zbW (ms:=a) (show j≤f-1 by omega)
 have:=hf.2
 omega
theorem zcT{a:List Int}{f j:Int}(hf:isF a f)(hj:f≤j):sg a j=some ((cnt a j:Int),sm a j):=by
 refine yU ?_
 have:=zbW (ms:=a) hj
 have:=hf.1
 omega
theorem zit{a b:List Int}{f g:Int}(hf:isF a f)(hg:isF b g)(h:f<g)(h1:1≤f)(h2:f≤24):yL a b 24 (some (f.toNat,"half")):=by
 have e:((f.toNat:Nat):Int)=f:=by omega
 refine⟨by dsimp only;omega,by dsimp only;omega,fun j j1 j2=>?_,?_,?_⟩
 ·dsimp only at j2
  rw[zcS hf (by omega),zcS hg (by omega)]
 ·dsimp only
  rw[e,zcT hf (Int.le_refl _),zcS hg h]
  exact fun z=>nomatch z
 ·dsimp only
  rw[e,zcT hf (Int.le_refl _),zcS hg h]
  rfl
theorem part_gt{a b:List Int}{f g:Int}(hf:isF a f)(hg:isF b g)(h:g<f)(h1:1≤g)(h2:g≤24):yL a b 24 (some (g.toNat,"half")):=zj3 (zit hg hf h h1 h2)
theorem zhT{a b:List Int}{f:Int}(hf:isF a f)(hg:isF b f)(h:zjw a b f none):yL a b 24 none:=fun k k1 k2=>by
 by_cases c:(k:Int)<f
 ·rw[zcS hf c,zcS hg c]
 ·obtain⟨e1,e2⟩:=h k (by omega)
  rw[zcT hf (by omega),zcT hg (by omega),e1,e2]
theorem zhU{a b:List Int}{f n:Int}(hf:isF a f)(hg:isF b f)(h1:1≤f)(h:zjw a b f (some n)):yL a b 24 (some (n.toNat,if(cnt a n:Int)=cnt b n then "sum" else "count")):=by
 obtain⟨a1,a2,a3,a4⟩:=h
 have e:((n.toNat:Nat):Int)=n:=by omega
 refine⟨by dsimp only;omega,by dsimp only;omega,fun j j1 j2=>?_,?_,?_⟩
 ·dsimp only at j2
  by_cases c:(j:Int)<f
  ·rw[zcS hf c,zcS hg c]
  ·obtain⟨e1,e2⟩:=a3 j (by omega) (by omega)
   rw[zcT hf (by omega),zcT hg (by omega),e1,e2]
 ·dsimp only
  rw[e,zcT hf a1,zcT hg a1]
  intro z
  injection z with z
  injection z with z1 z2
  exact a4 ⟨by omega,z2⟩
 ·dsimp only
  rw[e,zcT hf a1,zcT hg a1]
  rfl
theorem ahead_lt{a b:List Int}{f g:Int}(hf:isF a f)(hg:isF b g)(h:f<g)(h1:1≤f)(h2:f≤24):yl a b 24=true:=by
 rw[zeJ (zit hf hg h h1 h2)]
 dsimp only
 have e:((f.toNat:Nat):Int)=f:=by omega
 rw[e,zcT hf (Int.le_refl _),zcS hg h]
 rfl
theorem ahead_gt{a b:List Int}{f g:Int}(hf:isF a f)(hg:isF b g)(h:g<f)(h1:1≤g)(h2:g≤24):yl a b 24=false:=by
 rw[zeJ (part_gt hf hg h h1 h2)]
 dsimp only
 have e:((g.toNat:Nat):Int)=g:=by omega
 rw[e,zcS hf h]
 rfl
theorem ahead_at{a b:List Int}{f n:Int}(hf:isF a f)(hg:isF b f)(h1:1≤f)(h:zjw a b f (some n)):yl a b 24=if(cnt a n:Int)=cnt b n then decide (sm a n<sm b n)else decide ((cnt b n:Int)<cnt a n):=by
 rw[zeJ (zhU hf hg h1 h)]
 dsimp only
 have e:((n.toNat:Nat):Int)=n:=by have:=h.1;omega
 rw[e,zcT hf h.1,zcT hg h.1]
 show(decide ((cnt b n:Int)<cnt a n) || (decide ((cnt a n:Int)=cnt b n) && decide (sm a n<sm b n)))=_
 by_cases c:(cnt a n:Int)=cnt b n
 ·rw[if_pos c,decide_eq_true c,decide_eq_false (show ¬(cnt b n:Int)<cnt a n by omega)]
  rfl
 ·rw[if_neg c,decide_eq_false c,Bool.false_and,Bool.or_false]
theorem unl_beyond{a b:List Int}{f M:Int}(ha:∀x∈a,x≤M)(hb:∀x∈b,x≤M)(hM:f≤M)(h:∀j,f≤j→j≤M→cnt a j=cnt b j∧sm a j=sm b j):zjw a b f none:=fun k hk=>by
 by_cases c:k≤M
 ·exact h k hk c
 ·have ea:got a k=got a M:=by
   unfold got
   exact filter_congr fun x hx=>by have:=ha x hx;rw[decide_eq_true (by omega),decide_eq_true this]
  have eb:got b k=got b M:=by
   unfold got
   exact filter_congr fun x hx=>by have:=hb x hx;rw[decide_eq_true (by omega),decide_eq_true this]
  have:=h M hM (Int.le_refl _)
  unfold cnt sm at *
  rw[ea,eb]
  exact this
theorem places_24{cs:List (List Int)}{us:List Int}(hp:∀d∈cs,d.Perm us)(h1:1≤us.length)(h24:us.length≤24):zv cs us=us.map fun c=>1+(((us.map (zl cs)).filter fun r=>yl r (zl cs c) 24).length:Int):=by
 unfold zv
 refine map_congr_left fun c hc=>?_
 rw[filter_map,length_map]
 congr 3
 refine filter_congr fun d hd=>?_
 refine ahead_any h1 (by omega) (fun x hx=>?_) (fun x hx=>?_)
 ·have:=yw hp hd x hx;omega
 ·have:=yw hp hc x hx;omega
end M6
namespace L2
open PySem
theorem Sh.cardsIn_perm{S:Sh}(ok:S.Ok):∀d∈S.cardsIn,d.Perm S.couples:=fun d hd=>by
 obtain⟨j,hj,rfl⟩:=List.mem_map.mp hd
 have h2:=(List.mem_filter.mp hj).2
 cases e:S.card j with
 | none=>rw[e] at h2;cases h2
 | some c=>exact(ok.cd j c e).2
theorem Sh.cardsIn_len(S:Sh):S.cardsIn.length=S.handed.length:=by unfold Sh.cardsIn;simp
def Sh.cardsWo(S:Sh)(j:Str):List (List Int):=(S.handed.filter fun i => !decide (i=j)).map fun i=>(S.card i).getD []
theorem Sh.cardsWo_perm{S:Sh}(ok:S.Ok)(j:Str):∀d∈S.cardsWo j,d.Perm S.couples:=fun d hd=>by
 obtain⟨i,hi,rfl⟩:=List.mem_map.mp hd
 exact Sh.cardsIn_perm ok _ (List.mem_map_of_mem (List.mem_filter.mp hi).1)
theorem Sh.row_some{S:Sh}(ok:S.Ok)(j:Str):(!decide ((S.card j).getD []=[]))=(S.card j).isSome:=by
 cases e:S.card j with
 | none=>rfl
 | some c=>rw[show(some c).getD ([]:List Int)=c from rfl,decide_eq_false (ok.full e)];rfl
theorem Sh.cardsIn_rows{S:Sh}(ok:S.Ok):S.cardsIn=S.rows.filter fun d => !decide (d=[]):=by
 unfold Sh.cardsIn Sh.handed Sh.rows
 rw[filter_map]
 congr 1
 exact filter_congr fun j _=>(Sh.row_some ok j).symm
theorem zg2:∀{l:List Str},l.Nodup→∀{k:Nat}(hk:k<l.length),(l.filter fun i => !decide (i=l[k]))=l.take k++l.drop (k+1)
 | a::l,nd,0,_=>by
   have h:=List.nodup_cons.mp nd
   show((a::l).filter fun i => !decide (i=a))=l
   rw[filter_cons,if_neg (by rw[decide_eq_true rfl];decide),List.filter_eq_self]
   intro x hx
   have:¬x=a:=fun z=>h.1 (z ▸ hx)
   rw[decide_eq_false this]
   rfl
 | a::l,nd,k+1,hk=>by
   have h:=List.nodup_cons.mp nd
   have hk':k<l.length:=by simpa using hk
   show((a::l).filter fun i => !decide (i=l[k]))=a::(l.take k++l.drop (k+1))
   have:¬a=l[k]:=fun z=>h.1 (z ▸ getElem_mem hk')
   rw[filter_cons,if_pos (by rw[decide_eq_false this];rfl),zg2 h.2 hk']
theorem Sh.cardsWo_rows{S:Sh}(ok:S.Ok){k:Nat}(hk:k<S.panel.length):S.cardsWo (S.panel.getD k "")=(S.rows.take k++S.rows.drop (k+1)).filter fun d => !decide (d=[]):=by
 have e:S.panel.getD k ""=S.panel[k]:=by rw[getD_eq_getElem?_getD,getElem?_eq_getElem hk];rfl
 unfold Sh.cardsWo Sh.handed Sh.rows
 rw[e,filter_filter,←map_take,←map_drop,←map_append,←zg2 ok.pnd hk,filter_map,filter_filter]
 congr 1
 refine filter_congr fun j _=>?_
 show((!decide (j=S.panel[k])) && (S.card j).isSome)=((!decide ((S.card j).getD []=[])) && (!decide (j=S.panel[k])))
 rw[Sh.row_some ok j,Bool.and_comm]
theorem Sh.cardsWo_len{S:Sh}{j:Str}(nd:S.panel.Nodup)(hj:j∈S.handed):(S.cardsWo j).length+1=S.handed.length:=by
 unfold Sh.cardsWo
 rw[length_map]
 have hn:S.handed.Nodup:=nd.filter _
 have e:(S.handed.filter fun i => !decide (i=j))=S.handed.erase j:=by
  rw[hn.erase_eq_filter]
  refine filter_congr fun x _=>?_
  by_cases h:x=j
  ·simp[h]
  ·simp[h]
 rw[e,List.length_erase_of_mem hj]
 have:=List.length_pos_of_mem hj
 omega
theorem zh3{K:Frag}{a:Addr}{ls:List Addr}{cs:List (List Int)}{c:St}{tc:TT}{te:TE}{H:Hp}{fin:List V→Hp→Prop}(hA:SqL K H a (ls.map V.ref))(hR:All2 (IL K H) ls cs)(hz:cs.length≤1000)
 (htc:∀(m:Addr)(d:List Int)(H':Hp)(Q:Bool→Hp→Prop),SqL K H' m (d.map V.int)→(∀H2,Same H' H2→Q (!decide (d=[])) H2)→tc (some (.ref m)::c) H' Q)
 (hte:∀(m:Addr)(H':Hp)(Q:VK),Q (.ref m) H'→te (some (.ref m)::c) H' Q)
 (hd:∀(ks:List Addr)(H':Hp),Same H H'→All2 (IL K H') ks (cs.filter fun d => !decide (d=[]))→fin (ks.map V.ref) H'):zdA (Itl K a) c tc te H fin:=by
 have hln:=zr
 have hl:=hR.length
 refine yI (xs:=ls.map V.ref) (fun i ys H2=>∃ks:List Addr,ys=ks.map V.ref∧Same H H2∧All2 (IL K H2) ks ((cs.take i).filter fun d => !decide (d=[]))) ⟨[],rfl,Same.refl _,.nil⟩ ?_ (by rw[length_map];omega) ?_ ?_
 ·rintro i ys H2 hi ⟨ks,rfl,s2,r2⟩
  refine⟨s2.seq hA,?_⟩
  have h3:=r2.length
  have h4:=length_filter_le (fun d:List Int => !decide (d=[])) (cs.take i)
  rw[length_take] at h4
  rw[length_map]
  omega
 ·rintro i x ys H2 hx ⟨ks,rfl,s2,r2⟩
  obtain⟨m,em,rfl⟩:=wF hx
  obtain⟨d,ed,rd⟩:=hR.getL em
  refine htc m d H2 _ (s2.seq rd) fun H3 s3=>?_
  have e:(cs.take (i+1)).filter (fun d => !decide (d=[]))=(cs.take i).filter (fun d => !decide (d=[]))++if(!decide (d=[]))=true then [d] else []:=by
   rw[take_succ,ed,filter_append]
   congr 1
   show filter _ [d]=_
   rw[filter_cons]
   rfl
  refine zi4 (fun hb=>?_) (fun hb=>?_)
  ·refine hte m H3 _ ⟨ks++[m],by rw[map_append];rfl,s2.trans s3,?_⟩
   rw[e,if_pos hb]
   exact(r2.imp fun _ _=>IL.stays K _ _ _ _ s3).snoc ((s2.trans s3).seq rd)
  ·refine⟨ks,rfl,s2.trans s3,?_⟩
   rw[e,if_neg (by rw[hb];exact Bool.false_ne_true),append_nil]
   exact r2.imp fun _ _=>IL.stays K _ _ _ _ s3
 ·rintro ys H2 ⟨ks,rfl,s2,r2⟩
  rw[length_map,hl,take_length] at r2
  exact hd ks H2 s2 r2
theorem All2.takeN{α β:Type}{R:α→β→Prop}{as:List α}{bs:List β}(h:All2 R as bs):∀k,All2 R (as.take k) (bs.take k):=by
 induction h with
 | nil=>intro k;rw[take_nil,take_nil];exact .nil
 | cons r _ ih =>
   intro k
   cases k with
   | zero=>exact .nil
   | succ k=>exact .cons r (ih k)
theorem All2.dropN{α β:Type}{R:α→β→Prop}{as:List α}{bs:List β}(h:All2 R as bs):∀k,All2 R (as.drop k) (bs.drop k):=by
 induction h with
 | nil=>intro k;rw[drop_nil,drop_nil];exact .nil
 | cons r h' ih =>
   intro k
   cases k with
   | zero=>exact .cons r h'
   | succ k=>exact ih k
theorem All2.app{α β:Type}{R:α→β→Prop}{as as':List α}{bs bs':List β}(h:All2 R as bs)(h2:All2 R as' bs'):All2 R (as++as') (bs++bs'):=by
 induction h with
 | nil=>exact h2
 | cons r _ ih=>exact .cons r ih
end L2
namespace M6
open PySem L2 M3 M5
end M6
namespace L2
open PySem
end L2
namespace M6
open PySem L2 M3 M5
variable {cs:List (List Int)}{us:List Int}{c:Int}
end M6
namespace L2
open PySem
end L2
namespace M6
open PySem L2 M3 M5
end M6
namespace L2
open PySem
end L2
namespace M6
open PySem L2 M3 M5
def ze1(a b:List Int)(n:Nat):Option (Nat×Str):=((List.range n).find? fun(i:Nat)=>decide (sg a ((i:Int)+1)≠sg b ((i:Int)+1))).map fun(i:Nat)=>(i+1,word (sg a ((i:Int)+1)) (sg b ((i:Int)+1)))
theorem zgs{p:Nat→Bool}:∀{n j i:Nat},(range' j n).find? p=some i→p i=true∧j≤i∧i<j+n∧∀k,j≤k→k<i→p k=false
 | 0,j,i,h=>by cases h
 | n+1,j,i,h=>by
   rw[List.range'_succ,find?_cons] at h
   cases hp:p j with
   | true =>
     rw[hp] at h
     have e:j=i:=Option.some.inj h
     subst e
     exact⟨hp,le_refl _,by omega,fun k h1 h2=>by omega⟩
   | false =>
     rw[hp] at h
     obtain⟨h1,h2,h3,h4⟩:=zgs h
     refine⟨h1,by omega,by omega,fun k k1 k2=>?_⟩
     by_cases e:k=j
     ·subst e;exact hp
     ·exact h4 k (by omega) k2
theorem zcv(a b:List Int)(n:Nat):yL a b n (ze1 a b n):=by
 unfold ze1
 rw[List.range_eq_range']
 cases h:(range' 0 n).find? fun(i:Nat)=>decide (sg a ((i:Int)+1)≠sg b ((i:Int)+1))with
 | none =>
   rw[List.find?_eq_none] at h
   show yL a b n none
   intro k h1 h2
   have:=h (k-1) (by rw[List.mem_range'_1];omega)
   have e:((k-1:Nat):Int)+1=(k:Int):=by omega
   rw[e] at this
   by_cases c:sg a k=sg b k
   ·exact c
   ·exact absurd (decide_eq_true c) this
 | some i =>
   obtain⟨h1,h2,h3,h4⟩:=zgs h
   have e:((i+1:Nat):Int)=(i:Int)+1:=by omega
   show yL a b n (some (i+1,word (sg a ((i:Int)+1)) (sg b ((i:Int)+1))))
   refine⟨by show 1≤i+1;omega,by show i+1≤n;omega,fun j j1 j2=>?_,?_,?_⟩
   ·have j2:j<i+1:=j2
    have:=h4 (j-1) (by omega) (by omega)
    have ej:((j-1:Nat):Int)+1=(j:Int):=by omega
    rw[ej] at this
    by_cases c:sg a j=sg b j
    ·exact c
    ·rw[decide_eq_true c] at this;cases this
   ·show sg a ((i+1:Nat):Int)≠sg b ((i+1:Nat):Int)
    rw[e]
    exact of_decide_eq_true h1
   ·show _=word (sg a ((i+1:Nat):Int)) (sg b ((i+1:Nat):Int))
    rw[e]
abbrev R4:=Int×Int×Int×Str
def nb(cs:List (List Int))(us:List Int)(p q:Int×Int):Option R4:=if p.1=q.1 then none else(ze1 (zl cs p.2) (zl cs q.2) us.length).map fun r=>(p.2,q.2,(r.1:Int),r.2)
def zbd(cs:List (List Int))(us:List Int):List R4:=((rows (zv cs us) us).zip (rows (zv cs us) us).tail).filterMap fun pq=>nb cs us pq.1 pq.2
def yD(cs:List (List Int))(us:List Int)(c:Int):Int:=1+((us.filter fun d=>yl (zl cs d) (zl cs c) us.length).length:Int)
theorem zfa{cs:List (List Int)}{us:List Int}{p:Int×Int}(h:p∈rows (zv cs us) us):p.2∈us∧p.1=yD cs us p.2:=by
 unfold rows at h
 obtain⟨i,_,hi⟩:=List.mem_flatMap.mp h
 have hz:=(List.mem_filter.mp hi).1
 have e:(zv cs us).zip us=us.map fun c=>(yD cs us c,c):=by
  show(us.map fun c=>yD cs us c).zip us=_
  rw[List.zip_map_left]
  have:us.zip us=us.map fun c=>(c,c):=by
   induction us with
   | nil=>rfl
   | cons a us ih=>rw[List.zip_cons_cons,map_cons];congr 1;rw[List.zip_eq_zipWith,List.zipWith_self]
  rw[this,map_map]
  rfl
 rw[e] at hz
 obtain⟨c,hc,rfl⟩:=List.mem_map.mp hz
 exact⟨hc,rfl⟩
theorem zg8{cs:List (List Int)}{us:List Int}{c d:Int}(h:yD cs us c≠yD cs us d):ze1 (zl cs c) (zl cs d) us.length≠none:=fun e=>by
 have hp:=zcv (zl cs c) (zl cs d) us.length
 rw[e] at hp
 apply h
 have es:wb (zl cs c) us.length=wb (zl cs d) us.length:=by
  unfold wb
  refine map_congr_left fun i hi=>?_
  have hi:=List.mem_range.mp hi
  have:=hp (i+1) (by omega) (by omega)
  have ei:((i+1:Nat):Int)=(i:Int)+1:=by omega
  rw[ei] at this
  exact this
 unfold yD yl
 rw[es]
end M6
namespace L2
open PySem
def F4(K:Frag)(H:Hp)(l:Addr)(p:M6.R4):Prop:=SqT K H l [.int p.1,.int p.2.1,.int p.2.2.1,.str p.2.2.2]
theorem F4.stays(K:Frag):Stays (F4 K):=fun _ _ _ _ s h=>s.seqT h
theorem F4.put{K:Frag}{H:Hp}{p:Addr}{ys:List V}{o:HO}{ls:List Addr}{ps:List M6.R4}(h:All2 (F4 K H) ls ps)(hp:H p=some (.lst ys)):All2 (F4 K (upd H p o)) ls ps:=h.imp fun _ _ r=>SqT.put r hp
end L2
namespace M9
open PySem L2 M3 M5
end M9
namespace M6
open PySem L2 M3 M5 M9
variable {cs:List (List Int)}{us:List Int}{c d f:Int}
end M6
namespace L2
open PySem
def upC(d:List Int)(i:Nat):List Int:=d.take (i-1)++[d.getD i 0,d.getD (i-1) 0]++d.drop (i+1)
theorem upC_eq{d:List Int}{i:Nat}(h0:0<i)(hi:i<d.length):∃p q,p.length=i-1∧d=p++[d.getD (i-1) 0,d.getD i 0]++q∧upC d i=p++[d.getD i 0,d.getD (i-1) 0]++q:=by
 refine⟨d.take (i-1),d.drop (i+1),by rw[length_take];omega,?_,rfl⟩
 have h1:i-1<d.length:=by omega
 have e1:d.getD (i-1) 0=d[i-1]:=by rw[getD_eq_getElem?_getD,getElem?_eq_getElem h1];rfl
 have e2:d.getD i 0=d[i]:=by rw[getD_eq_getElem?_getD,getElem?_eq_getElem hi];rfl
 rw[e1,e2,append_assoc]
 conv=>lhs;rw[←take_append_drop (i-1) d]
 congr 1
 rw[drop_eq_getElem_cons h1]
 show d[i-1]::d.drop (i-1+1)=d[i-1]::(d[i]::d.drop (i+1))
 congr 1
 have:i-1+1=i:=by omega
 rw[this]
 exact drop_eq_getElem_cons hi
theorem zjk{d:List Int}{i:Nat}(h0:0<i)(hi:i<d.length):(upC d i).Perm d:=by
 obtain⟨p,q,_,e1,e2⟩:=upC_eq h0 hi
 rw[e2]
 conv=>rhs;rw[e1]
 refine List.Perm.append_right _ (List.Perm.append_left _ ?_)
 exact List.Perm.swap _ _ _
theorem upC_at{d:List Int}{i:Nat}(h0:0<i)(hi:i<d.length):(upC d i)[i]? = some (d.getD (i-1) 0):=by
 obtain⟨p,q,hp,_,e2⟩:=upC_eq h0 hi
 rw[e2,append_assoc,List.getElem?_append_right (by omega),hp,show i-(i-1)=1 by omega]
 rfl
def Sh.cardsUp(S:Sh)(j:Str)(d:List Int):List (List Int):=S.handed.map fun i=>if i=j then d else(S.card i).getD []
theorem Sh.cardsUp_perm{S:Sh}(ok:S.Ok){j:Str}{d:List Int}(h:d.Perm S.couples):∀e∈S.cardsUp j d,e.Perm S.couples:=fun e he=>by
 obtain⟨i,hi,rfl⟩:=List.mem_map.mp he
 by_cases c:i=j
 ·rw[if_pos c];exact h
 ·rw[if_neg c];exact Sh.cardsIn_perm ok _ (List.mem_map_of_mem hi)
theorem Sh.cardsUp_len(S:Sh)(j:Str)(d:List Int):(S.cardsUp j d).length=S.handed.length:=by unfold Sh.cardsUp;simp
def Sh.setc(S:Sh)(j:Str)(d:List Int):Sh:={ S with card:=fun k=>if k=j then some d else S.card k }
theorem Sh.Ok.setc{S:Sh}(h:S.Ok){j:Str}{d:List Int}(hj:j∈S.panel)(hd:d.Perm S.couples):(S.setc j d).Ok:=by
 refine⟨h.c1,h.c24,h.nd,h.rng,h.p1,h.p15,h.pnd,fun k e z=>?_,h.t200⟩
 have z:(if k=j then some d else S.card k)=some e:=z
 by_cases ek:k=j
 ·rw[if_pos ek] at z
  cases z
  subst ek
  exact⟨hj,hd⟩
 ·rw[if_neg ek] at z
  exact h.cd k e z
theorem set_cut{α:Type}{l:List α}{k:Nat}(hk:k<l.length)(x:α):l.take k++[x]++l.drop (k+1)=l.set k x:=by
 rw[List.set_eq_take_append_cons_drop,if_pos hk,append_assoc]
 rfl
theorem Sh.cardsUp_rows{S:Sh}(ok:S.Ok){w:Nat}(hw:w<S.panel.length){d:List Int}(hd:d.Perm S.couples)(hs:(S.card (S.panel.getD w "")).isSome=true):S.cardsUp (S.panel.getD w "") d=(S.rows.take w++[d]++S.rows.drop (w+1)).filter fun d => !decide (d=[]):=by
 have hj:S.panel.getD w "" ∈ S.panel:=wC hw
 rw[set_cut (by rw[S.rows_len];exact hw),←Sh.rows_hand ok.pnd hw d]
 rw[show(S.hand (S.panel.getD w "") d).rows=(S.setc (S.panel.getD w "") d).rows from rfl,←Sh.cardsIn_rows (ok.setc hj hd)]
 unfold Sh.cardsUp Sh.cardsIn
 have e:(S.setc (S.panel.getD w "") d).handed=S.handed:=by
  unfold Sh.handed
  refine filter_congr fun i _=>?_
  show(if i=S.panel.getD w "" then some d else S.card i).isSome=_
  by_cases c:i=S.panel.getD w ""
  ·rw[if_pos c,c,hs];rfl
  ·rw[if_neg c]
 rw[e]
 refine map_congr_left fun i _=>?_
 show _=(if i=S.panel.getD w "" then some d else S.card i).getD []
 by_cases c:i=S.panel.getD w ""
 ·rw[if_pos c,if_pos c];rfl
 ·rw[if_neg c,if_neg c]
end L2
namespace M6
open PySem L2 M3 M5
variable {cs cs':List (List Int)}{us:List Int}{c:Int}
end M6
namespace L2
open PySem M6 M5
def Sh.more(S:Sh)(n:Nat):Sh:={ S with taken:=S.taken+n }
section
variable {S:Sh}{j:Str}{d:List Int}{k:Nat}
end
end L2
namespace M6
open PySem L2 M3 M5
section
variable {A B C:List Int}{c:Int}
end
end M6
namespace L2
open PySem
def zae(ps us:List Int)(n:Nat):List Int:=((List.range n).filter fun k=>decide (ps.getD k 0=1)).map fun k=>us.getD k 0
theorem ww(ps us:List Int)(n:Nat):zae ps us (n+1)=zae ps us n++if ps.getD n 0=1 then [us.getD n 0] else []:=by
 unfold zae
 rw[range_succ,filter_append,map_append]
 congr 1
 by_cases h:ps.getD n 0=1
 ·rw[if_pos h,filter_cons,if_pos (by rw[decide_eq_true h])];rfl
 ·rw[if_neg h,filter_cons,if_neg (by rw[decide_eq_false h];decide)];rfl
theorem za5(ps us:List Int)(n:Nat):(zae ps us n).length≤n:=by
 unfold zae
 rw[length_map]
 exact le_trans (length_filter_le _ _) (by rw[length_range];exact le_refl _)
def wa(cs:List (List Int))(us:List Int):List Int:=zae (M6.zv cs us) us us.length
def Sh.decide(S:Sh):List Str:=S.handed.filter fun j => !Decidable.decide (wa (S.cardsWo j) S.couples=wa S.cardsIn S.couples)
theorem Sh.cardsWo_le(S:Sh)(j:Str):(S.cardsWo j).length≤S.handed.length:=by
 unfold Sh.cardsWo
 rw[length_map]
 exact length_filter_le _ _
theorem Sh.cardsWo_ge{S:Sh}(nd:S.panel.Nodup)(j:Str):S.handed.length≤(S.cardsWo j).length+1:=by
 by_cases hj:j∈S.handed
 ·exact le_of_eq (Sh.cardsWo_len nd hj).symm
 ·unfold Sh.cardsWo
  rw[length_map,List.filter_eq_self.mpr]
  ·exact le_succ _
  ·intro x hx
   have:¬x=j:=fun z=>hj (z ▸ hx)
   rw[decide_eq_false this]
   rfl
end L2
namespace M6
open PySem L2 M3 M5
variable {cs:List (List Int)}{us:List Int}{c:Int}
end M6
namespace L2
open PySem
end L2
namespace M6
open PySem L2 M3 M5
def blk(f:Int→Int)(us:List Int)(i:Nat):List (Int×Int):=(us.filter fun c=>decide (f c=(i:Int)+1)).map fun c=>(f c,c)
variable {cs:List (List Int)}{us:List Int}{c:Int}
end M6
namespace L2
open PySem
def zje(cs:List (List Int))(us:List Int)(k:Nat):Bool := !decide (cs.getD k []=[]) && !decide (wa ((cs.take k++cs.drop (k+1)).filter fun d => !decide (d=[])) us=wa (cs.filter fun d => !decide (d=[])) us)
def zik(ts:List Str)(cs:List (List Int))(us:List Int)(n:Nat):List Str:=((List.range n).filter (zje cs us)).map fun k=>ts.getD k ""
theorem zfx(ts:List Str)(cs:List (List Int))(us:List Int)(n:Nat):zik ts cs us (n+1)=zik ts cs us n++if zje cs us n=true then [ts.getD n ""] else []:=by
 unfold zik
 rw[range_succ,filter_append,map_append]
 congr 1
 by_cases h:zje cs us n=true
 ·rw[if_pos h,filter_cons,if_pos h];rfl
 ·rw[if_neg h,filter_cons,if_neg h];rfl
theorem ziZ(ts:List Str)(cs:List (List Int))(us:List Int)(n:Nat):(zik ts cs us n).length≤n:=by
 unfold zik
 rw[length_map]
 exact le_trans (length_filter_le _ _) (by rw[length_range];exact le_refl _)
theorem Sh.decide_rows{S:Sh}(ok:S.Ok):S.decide=zik S.panel S.rows S.couples S.panel.length:=by
 unfold Sh.decide Sh.handed zik
 rw[filter_filter]
 conv=>lhs;rw[←zi7 S.panel ""]
 rw[filter_map]
 congr 1
 refine filter_congr fun k hk=>?_
 have hk:=List.mem_range.mp hk
 show((!Decidable.decide (wa (S.cardsWo (S.panel.getD k "")) S.couples=wa S.cardsIn S.couples)) && (S.card (S.panel.getD k "")).isSome)=zje S.rows S.couples k
 unfold zje
 rw[Sh.cardsWo_rows ok hk,Sh.cardsIn_rows ok,S.rows_at hk,Sh.row_some ok,Bool.and_comm]
theorem SheetAt.sameN{K:Frag}{H H':Hp}{p:Addr}{F:Addr→Prop}{S:Sh}(h:SheetAt K H p F S)(s:SameN H H'):∃F':Addr→Prop,(∀b,F' b→F b)∧SheetAt K H' p F' S:=by
 obtain⟨dx,a1,a2,a3,d,kvs,h⟩:=h
 refine⟨fun b=>F b∧∀ps,H b≠some (.tbl ps),fun b z=>z.1,dx,a1,a2,a3,d,kvs,⟨⟨s.1 _ _ h.ip (fun _ z=>by cases z),s.1 _ _ h.i1 (fun _ z=>by cases z),s.1 _ _ h.i2 (fun _ z=>by cases z),s.1 _ _ h.i3 (fun _ z=>by cases z),s.1 _ _ h.i4 (fun _ z=>by cases z),h.kl,h.cn,fun j c hc=>?_,⟨h.fp,fun ps z=>by rw[h.ip] at z;cases z⟩,⟨h.f1,fun ps z=>by rw[h.i1] at z;cases z⟩,⟨h.f2,fun ps z=>by rw[h.i2] at z;cases z⟩,⟨h.f3,fun ps z=>by rw[h.i3] at z;cases z⟩,⟨h.f4,fun ps z=>by rw[h.i4] at z;cases z⟩,h.n12,h.n32,fun b hb=>?_⟩,h.ok⟩⟩
 ·obtain⟨l,x1,x2,x3,x4⟩:=h.cs j c hc
  exact⟨l,x1,s.1 _ _ x2 (fun _ z=>by cases z),⟨x3,fun ps z=>by rw[x2] at z;cases z⟩,x4⟩
 ·cases e:H b with
  | none=>exact absurd e (h.fh b hb.1)
  | some u =>
    rw[s.1 b u e fun ps z=>hb.2 ps (by rw[e,z])]
    simp
theorem SameN.lst{H H':Hp}(s:SameN H H'){a:Addr}{xs:List V}(e:H a=some (.lst xs)):H' a=some (.lst xs):=s.1 _ _ e fun _ z=>by cases z
theorem SameN.seqT{K:Frag}{H H':Hp}(s:SameN H H'){a:Addr}{xs:List V}(h:SqT K H a xs):SqT K H' a xs:=by
 rcases h with(r | ⟨o,r⟩) | h
 ·exact .inl (.inl (s.1 _ _ r fun _ z=>by cases z))
 ·exact .inl (.inr ⟨o,s.1 _ _ r fun _ z=>by cases z⟩)
 ·exact .inr h
theorem TPl.sameN{K:Frag}{H H':Hp}(s:SameN H H'){ls:List Addr}{rs:List (Int×Int)}(h:All2 (TPl K H) ls rs):All2 (TPl K H') ls rs:=h.imp fun _ _ z=>s.seqT z
end L2
namespace M6
open PySem L2 M3 M5 M9
section
variable {φ:Sg→Sg}{cs cs':List (List Int)}{us:List Int}
end
theorem ze5(cs:List (List Int))(us:List Int):(zbd cs us).length≤us.length*us.length:=by
 have h1:=rows_len (zv cs us) us (zS cs us)
 have h2:=List.length_filterMap_le (fun pq=>nb cs us pq.1 pq.2) ((rows (zv cs us) us).zip (rows (zv cs us) us).tail)
 rw[length_zip] at h2
 unfold zbd
 omega
end M6
namespace M6
open PySem L2 M3 M5
section
variable {cs:List (List Int)}{us d:List Int}
end
end M6
namespace L2
open PySem
end L2
namespace M6
open PySem L2 M3 M5
def bar:Str:=Str.ofString "|"
def sl:Str:=Str.ofString "/"
def blank:Str:=Str.ofString " "
def ziX(p:Int×Int):Str:=tN p.1++sl++tN p.2
def zdF(ms:List Int)(n:Nat):List Str:=(zbn ms n).map ziX
def rowW(p c:Int)(ms:List Int)(n:Nat):List Str:=[tN p,tN c]++[bar]++ms.map tN++[bar]++zdF ms n
def rowT(p c:Int)(ms:List Int)(n:Nat):Str:=Txt.join blank (rowW p c ms n)
theorem tN_len{n:Int}(h:n.natAbs≤990):(tN n).length≤992:=by
 have:=len_str_of_int n
 unfold tN
 omega
theorem zh6:∀{ms:List Int},(∀x∈ms,1≤x∧x≤24)→0≤ms.sum∧ms.sum≤24*ms.length
 | [],_=>by simp
 | x::ms,h=>by
   have h1:=h x (mem_cons_self ..)
   have h2:=zh6 (ms:=ms) fun y hy=>h y (mem_cons_of_mem _ hy)
   simp only[List.sum_cons,length_cons]
   omega
theorem zgw{ms:List Int}(h:∀x∈ms,1≤x∧x≤24)(n:Int):0≤sm ms n∧sm ms n≤24*ms.length:=by
 have h1:=zh6 (ms:=got ms n) fun x hx=>h x (List.mem_filter.mp hx).1
 have h2:=zc5 ms n
 unfold cnt at h2
 unfold sm
 omega
theorem ziW:sl.length=1:=by decide +kernel
theorem bar_len:bar.length=1:=by decide +kernel
theorem zhZ(ms:List Int)(n:Nat):zdF ms (n+1)=zdF ms n++[tN (cnt ms ((n:Int)+1))++sl++tN (sm ms ((n:Int)+1))]:=by
 unfold zdF
 rw[zfO,map_append]
 rfl
theorem zfI{ms:List Int}(hl:ms.length≤15)(h:∀x∈ms,1≤x∧x≤24)(n:Int):(tN (cnt ms n)).length≤992∧(tN (sm ms n)).length≤992:=by
 have h1:=zc5 ms n
 have h2:=zgw h n
 exact⟨tN_len (by omega),tN_len (by omega)⟩
theorem zjh(ms:List Int)(n:Nat):(zdF ms n).length=n:=by unfold zdF;rw[length_map,zc4]
theorem ladW_short{ms:List Int}(hl:ms.length≤15)(h:∀x∈ms,1≤x∧x≤24)(n:Nat):∀w∈zdF ms n,w.length≤2000:=fun w hw=>by
 induction n with
 | zero=>unfold zdF zbn at hw;simp at hw
 | succ n ih =>
   rw[zhZ] at hw
   rcases List.mem_append.mp hw with z | z
   ·exact ih z
   ·rw[List.mem_singleton.mp z,yR,yR,ziW]
    have:=zfI hl h ((n:Int)+1)
    omega
theorem zgW{ms:List Int}(hl:ms.length≤15)(h:∀x∈ms,1≤x∧x≤24){p c:Int}(hp:p.natAbs≤990)(hc:c.natAbs≤1000)(n:Nat):∀w∈rowW p c ms n,w.length≤2000:=fun w hw=>by
 unfold rowW at hw
 simp only[mem_append,mem_cons,not_mem_nil,or_false,List.mem_map] at hw
 have l1:=len_str_of_int p
 have l2:=len_str_of_int c
 rcases hw with((((rfl | rfl) | rfl) | ⟨x,hx,rfl⟩) | rfl) | hw
 ·unfold tN;omega
 ·unfold tN;omega
 ·rw[bar_len];omega
 ·have:=h x hx
  have:=tN_len (n:=x) (by omega)
  omega
 ·rw[bar_len];omega
 ·exact ladW_short hl h n w hw
def zdO(cs:List (List Int))(us:List Int):List Str:=(rows (zv cs us) us).map fun p=>rowT p.1 p.2 (zl cs p.2) us.length
theorem emp_app(y:Str):Str.empty++y=y:=by
 refine PySem.Str.ext' ?_
 show(#[]:Array Nat)++y.cps=y.cps
 simp
end M6
namespace L2
open PySem
inductive WordOf:V→Str→Prop
 | int {i:Int}:i.natAbs≤100000→WordOf (.int i) (tN i)
 | str {y:Str}:WordOf (.str y) y
theorem zg7:∀{ns:List Int},(∀n∈ns,n.natAbs≤100000)→All2 WordOf (ns.map V.int) (ns.map tN)
 | [],_=>.nil
 | n::ns,h=>.cons (.int (h n (mem_cons_self ..))) (zg7 fun m hm=>h m (mem_cons_of_mem _ hm))
theorem zeH:∀(ts:List Str),All2 WordOf (ts.map V.str) ts
 | []=>.nil
 | t::ts=>.cons .str (zeH ts)
theorem zex{K:Frag}{a:Addr}{ls:List Addr}{rs:List (Int×Int)}{f:Int×Int→Str}{c:St}{te:TE}{H:Hp}{fin:List V→Hp→Prop}(hA:SqL K H a (ls.map V.ref))(hR:All2 (TPl K H) ls rs)(hz:rs.length≤1000)
 (hte:∀(p:Int×Int)(H':Hp)(Q:VK),p∈rs→Same H H'→(∀H2,Same H' H2→Q (.str (f p)) H2)→te (some (.int p.1)::some (.int p.2)::c) H' Q)
 (hd:∀(H':Hp),Same H H'→fin ((rs.map f).map V.str) H'):zfw K (Itl K a) c zjr te H fin:=by
 have hln:=zr
 have hl:=hR.length
 refine zfR (xs:=ls.map V.ref) (fun i ys H3=>Same H H3∧ys=((rs.take i).map f).map V.str) ⟨Same.refl _,rfl⟩ ?_ (by rw[length_map];omega) ?_ ?_
 ·rintro i ys H3 hi ⟨s3,rfl⟩
  refine⟨s3.seq hA,?_⟩
  rw[length_map,length_map,length_take]
  omega
 ·rintro i x ys H3 hx ⟨s3,rfl⟩
  obtain⟨p,ep,rfl⟩:=wF hx
  obtain⟨m,em,rm⟩:=hR.getL ep
  refine⟨p,.int m.1,.int m.2,rfl,s3.seqT rm,hte m H3 _ (mem_of_getElem? em) s3 fun H4 s4=>⟨s3.trans s4,?_⟩⟩
  rw[take_succ,em,map_append,map_append]
  rfl
 ·rintro ys H3 ⟨s3,rfl⟩
  rw[length_map,hl,take_length]
  exact hd H3 s3
theorem comp_strN{K:Frag}{a:Addr}{us:List Int}{f:Int→Str}{c:St}{te:TE}{H:Hp}{fin:List V→Hp→Prop}(hA:SqL K H a (us.map V.int))(hz:us.length≤1000)
 (hte:∀(x:Int)(H':Hp)(Q:VK),x∈us→Same H H'→(∀(H2:Hp),Same H' H2→Q (.str (f x)) H2)→te (some (.int x)::c) H' Q)
 (hd:∀(H':Hp),Same H H'→fin ((us.map f).map V.str) H'):zdA (Itl K a) c zjr te H fin:=by
 have hln:=zr
 refine yc (xs:=us.map V.int) (fun k ys H5=>ys=((us.take k).map f).map V.str∧Same H H5) ⟨rfl,Same.refl _⟩ ?_ (by rw[length_map];omega) ?_ ?_
 ·rintro k ys H5 hk ⟨rfl,s5⟩
  refine⟨s5.seq hA,?_⟩
  rw[length_map,length_map,length_take]
  omega
 ·rintro k x ys H5 hx ⟨rfl,s5⟩
  obtain⟨hk,rfl⟩:=yN hx
  refine hte _ H5 _ (wL hk) s5 fun H2 s2=>⟨?_,s5.trans s2⟩
  rw[yy hk,map_append,map_append]
  rfl
 ·rintro ys H5 ⟨rfl,s5⟩
  rw[length_map,take_length]
  exact hd H5 s5
end L2
namespace M6
open PySem L2 M3 M5
end M6
namespace L2
open PySem
theorem zki{K:Frag}{F:Addr→Prop}{a:Addr}{ls:List Addr}{cs:List (List Int)}{f:List Int→List Int}{c:St}{te:TE}{H:Hp}{fin:List V→Hp→Prop}(hA:SqL K H a (ls.map V.ref))(hR:All2 (fun l d=>H l=some (.lst (d.map V.int))) ls cs)(hz:cs.length≤1000)
 (hte:∀(m:Addr)(d:List Int)(H':Hp)(Q:VK),d∈cs→H' m=some (.lst (d.map V.int))→Same H H'→(∀(l:Addr)(H2:Hp),Same H' H2→H2 l=some (.lst ((f d).map V.int))→¬F l→Q (.ref l) H2)→te (some (.ref m)::c) H' Q)
 (hd:∀(ks:List Addr)(H':Hp),Same H H'→All2 (fun l d=>H' l=some (.lst (d.map V.int))∧¬F l) ks (cs.map f)→fin (ks.map V.ref) H'):zdA (Itl K a) c zjr te H fin:=by
 have hln:=zr
 have hl:=hR.length
 refine yc (xs:=ls.map V.ref) (fun k ys H5=>∃ks:List Addr,ys=ks.map V.ref∧Same H H5∧All2 (fun l d=>H5 l=some (.lst (d.map V.int))∧¬F l) ks ((cs.take k).map f)) ⟨[],rfl,Same.refl _,.nil⟩ ?_ (by rw[length_map];omega) ?_ ?_
 ·rintro k ys H5 hk ⟨ks,rfl,s5,r5⟩
  refine⟨s5.seq hA,?_⟩
  have:=r5.length
  rw[length_map,length_take] at this
  rw[length_map]
  omega
 ·rintro k x ys H5 hx ⟨ks,rfl,s5,r5⟩
  obtain⟨m,em,rfl⟩:=wF hx
  obtain⟨d,ed,rm⟩:=hR.getL em
  refine hte m d H5 _ (mem_of_getElem? ed) (s5 _ _ rm) s5 fun l H2 s2 r2 n2=>⟨ks++[l],by rw[map_append];rfl,s5.trans s2,?_⟩
  rw[take_succ,ed,map_append]
  exact(r5.imp fun _ _ z=>⟨s2 _ _ z.1,z.2⟩).snoc ⟨r2,n2⟩
 ·rintro ys H5 ⟨ks,rfl,s5,r5⟩
  rw[length_map,hl,take_length] at r5
  exact hd ks H5 s5 r5
def DeedN(G:Addr→Prop)(H:Hp)(G':Addr→Prop)(H':Hp):Prop:=∀b o,H b=some o→(∀ps,o ≠ .tbl ps)→¬G b→H' b=some o∧¬G' b
theorem DeedN.trans{G G1 G2:Addr→Prop}{H H1 H2:Hp}(a:DeedN G H G1 H1)(b:DeedN G1 H1 G2 H2):DeedN G H G2 H2:=fun c o e n m=>b c o (a c o e n m).1 n (a c o e n m).2
def KB:HO→Prop
 | .lst _=>True
 | .ins _ _ _=>True
 | .dK _=>True
 | _=>False
variable {K:Frag}{H H':Hp}{G G':Addr→Prop}{S:Sh}{st n u g k x:Addr}{F:Addr→Prop}{ls:List Addr}
theorem LamS.deed{P:Addr}{q:Str}(h:LamS P q H)(kd:∀b,G b→∃o,H b=some o∧KB o)(d:∀b o,H b=some o→¬G b→H' b=some o):LamS P q H':=by
 obtain⟨ps,e,t,c⟩:=h
 have no:∀{b:Addr}{o:HO},H b=some o→¬KB o→¬G b:=fun {b o} e n z=>by
  obtain⟨o',e',t'⟩:=kd b z
  rw[e] at e'
  cases e'
  exact n t'
 refine⟨ps,d _ _ e (no e fun z=>z),t,fun pos cv hc=>?_⟩
 obtain⟨c',rfl,ec⟩:=c pos cv hc
 exact⟨c',rfl,d _ _ ec (no ec fun z=>z)⟩
def Spo(H:Hp)(r:Addr)(n:Nat)(H':Hp):Prop:=(∀b,b≠r→H' b=H b)∧∃zs,H' r=some (.lst zs)∧zs.length≤n+1
theorem Spo.sameN{H H2 H3:Hp}{l:Addr}{n:Nat}(t:SameN H H2)(f:H l=none)(p:Spo H2 l n H3):SameN H H3 :=
 ⟨fun b o e nt=>(p.1 b (zj e f)).trans (t.1 b o e nt),fun b ps e=>let ⟨qs,e2⟩:=t.2 b ps e;⟨qs,(p.1 b (zj e f)).trans e2⟩⟩
theorem Spo.lam{P:Addr}{q:Str}{H2 H3:Hp}{l:Addr}{n:Nat}{xs:List V}(L:LamS P q H2)(e:H2 l=some (.lst xs))(p:Spo H2 l n H3):LamS P q H3 :=
 L.deed (G:=fun b=>b=l) (fun b z=>⟨.lst xs,by cases z;exact e,trivial⟩) fun b o eb nb=>(p.1 b nb).trans eb
def SpI(K:Frag)(H0 H:Hp)(lp:Addr)(rs:List Addr)(i:Nat):Prop :=
 SameN H0 H∧LamS (zax K "by_place") zcM H∧H lp=some (.lst (rs.map V.ref))∧∀r∈rs,H0 r=none∧r≠lp∧∃zs,H r=some (.lst zs)∧zs.length≤600+i
theorem SpI.step{K:Frag}{H0 H H':Hp}{lp r:Addr}{rs:List Addr}{i:Nat}{xs:List V}(h:SpI K H0 H lp rs i)(hr:r∈rs)(e:H r=some (.lst xs))(hn:xs.length≤600+i)(p:Spo H r xs.length H'):SpI K H0 H' lp rs (i+1):=by
 obtain⟨h1,h2,h3,h4⟩:=h
 obtain⟨g1,g2,_⟩:=h4 r hr
 refine⟨p.sameN h1 g1,p.lam h2 e,(p.1 lp (Ne.symm g2)).trans h3,fun s hs=>?_⟩
 obtain⟨w1,w2,zs,w3,w4⟩:=h4 s hs
 refine⟨w1,w2,?_⟩
 by_cases hsr:s=r
 ·obtain⟨_,ys,y1,y2⟩:=p
  exact⟨ys,by rw[hsr];exact y1,by omega⟩
 ·exact⟨zs,(p.1 s hsr).trans w3,by omega⟩
theorem zey{S:Sh}(h:∀j∈S.panel,S.card j≠none):S.handed=S.panel:=by
 unfold Sh.handed
 refine List.filter_eq_self.mpr fun j hj=>?_
 cases e:S.card j with
 | none=>exact absurd e (h j hj)
 | some c=>rfl
theorem all_cards{S:Sh}(ok:S.Ok)(h:∀j∈S.panel,S.card j≠none):S.cardsIn=S.rows:=by
 unfold Sh.cardsIn Sh.rows
 rw[zey h]
end L2
namespace M15
open M14
def idx(key:Nat→Int)(n:Nat):List Nat:=(List.range n).flatMap fun(i:Nat)=>(List.range n).filter fun k=>decide (key k=(i:Int)+1)
theorem zkm(key:Nat→Int)(n:Nat):(idx key n).Pairwise (R key):=by
 unfold idx
 rw[List.pairwise_flatMap]
 refine⟨fun i _=>?_,?_⟩
 ·rw[List.pairwise_filter]
  refine List.Pairwise.imp ?_ (pairwise_lt_range (n:=n))
  intro a b l ha hb
  have ha:=of_decide_eq_true ha
  have hb:=of_decide_eq_true hb
  exact .inr ⟨by omega,l⟩
 ·refine List.Pairwise.imp ?_ (pairwise_lt_range (n:=n))
  intro i j l x hx y hy
  have hx:=of_decide_eq_true (List.mem_filter.mp hx).2
  have hy:=of_decide_eq_true (List.mem_filter.mp hy).2
  exact .inl (by omega)
theorem idx_mem(key:Nat→Int)(n:Nat)(h:∀k,k<n→1≤key k∧key k≤n)(x:Nat):x∈idx key n↔x∈List.range n:=by
 unfold idx
 rw[List.mem_flatMap]
 constructor
 ·rintro ⟨i,_,z⟩
  exact(List.mem_filter.mp z).1
 ·intro z
  have hx:=List.mem_range.mp z
  have:=h x hx
  exact⟨(key x-1).toNat,List.mem_range.mpr (by omega),List.mem_filter.mpr ⟨z,decide_eq_true (by omega)⟩⟩
theorem R.asymm{key:Nat→Int}{a b:Nat}(h:R key a b)(k:R key b a):False:=by
 rcases h with h | h <;> rcases k with k | k <;> omega
theorem one{key:Nat→Int}:∀{l m:List Nat},l.Pairwise (R key)→m.Pairwise (R key)→(∀x,x∈l↔x∈m)→l=m
 | [],[],_,_,_=>rfl
 | [],b::m,_,_,h=>absurd ((h b).mpr (mem_cons_self ..)) (not_mem_nil)
 | a::l,[],_,_,h=>absurd ((h a).mp (mem_cons_self ..)) (not_mem_nil)
 | a::l,b::m,hl,hm,h=>by
   rw[List.pairwise_cons] at hl hm
   have e:a=b:=by
    rcases List.mem_cons.mp ((h a).mp (mem_cons_self ..))with e | z
    ·exact e
    ·rcases List.mem_cons.mp ((h b).mpr (mem_cons_self ..))with e | y
     ·exact e.symm
     ·exact(R.asymm (hm.1 a z) (hl.1 b y)).elim
   subst e
   refine congrArg _ (one hl.2 hm.2 fun x=>?_)
   have nl:∀{l:List Nat},(∀y,y∈l→R key a y)→a∉l:=fun q z=>R.asymm (q a z) (q a z)
   constructor
   ·intro z
    rcases List.mem_cons.mp ((h x).mp (mem_cons_of_mem _ z))with e | y
    ·subst e;exact(nl hl.1 z).elim
    ·exact y
   ·intro z
    rcases List.mem_cons.mp ((h x).mpr (mem_cons_of_mem _ z))with e | y
    ·subst e;exact(nl hm.1 z).elim
    ·exact y
theorem zjs{key:Nat→Int}{n:Nat}{p:Array Nat}(h:I key n p n):p.toList.Pairwise (R key):=by
 rw[List.pairwise_iff_getElem]
 intro i j hi hj l
 have hz:=h.1.size
 have e:∀(k:Nat)(hk:k<p.toList.length),p.toList[k]=g p k:=fun k hk=>by
  have hk':k<p.size:=by simpa using hk
  show _=p.getD k 0
  simp[Array.getD,hk']
 rw[e i hi,e j hj]
 refine h.2 i j l ?_
 rw[←hz]
 simpa using hj
theorem is_idx{key:Nat→Int}{n:Nat}{p:Array Nat}(h:I key n p n)(hk:∀k,k<n→1≤key k∧key k≤n):p.toList=idx key n:=by
 refine one (zjs h) (zkm key n) fun x=>?_
 rw[idx_mem key n hk]
 have:=h.1.pm.toList.mem_iff (a:=x)
 simpa using this
theorem zip_get(ps us:List Int)(h:ps.length=us.length):(List.range us.length).map (fun k=>(ps.getD k 0,us.getD k 0))=ps.zip us:=by
 refine ext_getElem (by simp[h]) fun i h1 h2=>?_
 have hi:i<us.length:=by simpa using h1
 have hp:i<ps.length:=by omega
 simp[hi,hp]
theorem rows_of{ps us:List Int}{p:Array Nat}(hl:ps.length=us.length)(hk:∀k,k<us.length→1≤ps.getD k 0∧ps.getD k 0≤us.length)(h:I (fun k=>ps.getD k 0) us.length p us.length):
 p.toList.map (fun k=>(ps.getD k 0,us.getD k 0))=M5.rows ps us:=by
 rw[is_idx h hk]
 unfold idx M5.rows
 rw[List.map_flatMap]
 congr 1
 funext i
 rw[←zip_get ps us hl,filter_map]
 rfl
end M15
namespace L2
open PySem PySem.W
theorem Refs.noT{K:Frag}{H:Hp}{a:Addr}{cs:List (List Int)}(h:Refs K (IL K) H a cs):Refs K (IL K) (L2.noT H) a cs:=by
 obtain⟨ls,h1,h2⟩:=h
 exact⟨ls,h1.noT,h2.imp fun _ _ r=>SqL.noT r⟩
theorem zjE{K:Frag}{H:Hp}{ts:List Addr}{ps us:List Int}(hl:ps.length=us.length)(pr:Prs H ts ((ps.map V.int).zip (us.map V.int))):∀(l:List Nat),(∀i∈l,i<us.length)→All2 (TPl K H) (l.map fun i=>ts.getD i 0) (l.map fun i=>(ps.getD i 0,us.getD i 0))
 | [],_=>.nil
 | i::l,h=>by
   have hi:=h i (mem_cons_self ..)
   have lt:ts.length=us.length:=by rw[pr.length,length_zip,length_map,length_map];omega
   refine .cons ?_ (zjE hl pr l fun j hj=>h j (mem_cons_of_mem _ hj))
   have ht:ts[i]? = some (ts.getD i 0):=by rw[getD_eq_getElem?_getD,getElem?_eq_getElem (by omega)];rfl
   obtain⟨⟨pa,pb⟩,ep,e⟩:=pr.get i _ ht
   rw[List.getElem?_zip_eq_some] at ep
   obtain⟨e1,e2⟩:=ep
   rw[getElem?_map,getElem?_eq_getElem (by omega)] at e1 e2
   cases e1
   cases e2
   have h1:ps.getD i 0=ps[i]:=by rw[getD_eq_getElem?_getD,getElem?_eq_getElem (by omega)];rfl
   have h2:us.getD i 0=us[i]:=by rw[getD_eq_getElem?_getD,getElem?_eq_getElem (by omega)];rfl
   show SqT K H (ts.getD i 0) [.int (ps.getD i 0),.int (us.getD i 0)]
   rw[h1,h2]
   exact .inl (.inl e)
end L2
namespace M6
open M5
theorem ziq(xs:List Sg):zL xs xs=false:=by
 induction xs with
 | nil=>rfl
 | cons x xs ih=>rw[zL,if_pos rfl];exact ih
theorem zgE(a:List Int)(n:Nat):yl a a n=false:=ziq _
theorem zhR{α:Type}{p:α→Bool}:∀{l:List α}{x:α},x∈l→p x=false→(l.filter p).length<l.length
 | y::l,x,h,hp=>by
   rcases List.mem_cons.mp h with e | h
   ·subst e
    rw[filter_cons_of_neg (by rw[hp];exact Bool.false_ne_true),length_cons]
    exact Nat.lt_succ_of_le (length_filter_le _ _)
   ·have:=zhR h hp
    rw[filter_cons]
    split
    ·rw[length_cons,length_cons];omega
    ·rw[length_cons];omega
theorem places_rng(cs:List (List Int))(us:List Int):∀k,k<us.length→1≤(zv cs us).getD k 0∧(zv cs us).getD k 0≤us.length:=fun k hk=>by
 have e:(zv cs us).getD k 0=1+((us.filter fun d=>yl (zl cs d) (zl cs us[k]) us.length).length:Int):=by
  unfold zv
  rw[getD_eq_getElem?_getD,getElem?_map,getElem?_eq_getElem hk]
  rfl
 have:=zhR (p:=fun d=>yl (zl cs d) (zl cs us[k]) us.length) (getElem_mem hk) (zgE _ _)
 rw[e]
 omega
end M6
namespace M6
open PySem L2 M3 M5
theorem olt_trans{x y z:Sg}(h:olt x y=true)(k:olt y z=true):olt x z=true:=by
 cases x with
 | none=>cases h
 | some p =>
   cases y with
   | none=>cases k
   | some q =>
     cases z with
     | none=>rfl
     | some r =>
       simp only[olt,Bool.or_eq_true,Bool.and_eq_true,decide_eq_true_eq] at h k ⊢
       omega
theorem olt_ne{x y:Sg}(h:olt x y=true):x≠y:=fun e=>by
 subst e
 cases x with
 | none=>cases h
 | some p=>simp only[olt,Bool.or_eq_true,Bool.and_eq_true,decide_eq_true_eq] at h;omega
theorem olt_total{x y:Sg}(h:x≠y):olt x y=true∨olt y x=true:=by
 cases x with
 | none=>cases y with
   | none=>exact absurd rfl h
   | some q=>exact .inr rfl
 | some p=>cases y with
   | none=>exact .inl rfl
   | some q =>
     obtain⟨p1,p2⟩:=p
     obtain⟨q1,q2⟩:=q
     have:¬(p1=q1∧p2=q2):=fun z=>h (by rw[z.1,z.2])
     simp only[olt,Bool.or_eq_true,Bool.and_eq_true,decide_eq_true_eq]
     omega
theorem zep:∀{xs ys zs:List Sg},zL xs ys=true→zL ys zs=true→zL xs zs=true
 | [],_,_,h,_=>by cases h
 | _::_,[],_,h,_=>by cases h
 | _::_,_::_,[],_,k=>by cases k
 | x::xs,y::ys,z::zs,h,k=>by
   rw[zL] at h k ⊢
   by_cases c:x=y
   ·rw[if_pos c] at h
    subst c
    by_cases d:x=z
    ·rw[if_pos d] at k ⊢
     exact zep h k
    ·rw[if_neg d] at k ⊢
     exact k
   ·rw[if_neg c] at h
    by_cases d:y=z
    ·subst d
     rw[if_neg c]
     exact h
    ·rw[if_neg d] at k
     have:=olt_trans h k
     rw[if_neg (olt_ne this)]
     exact this
theorem zer:∀{xs ys:List Sg},xs.length=ys.length→xs≠ys→zL xs ys=true∨zL ys xs=true
 | [],[],_,h=>absurd rfl h
 | [],_::_,l,_=>by cases l
 | _::_,[],l,_=>by cases l
 | x::xs,y::ys,l,h=>by
   rw[zL,zL]
   by_cases c:x=y
   ·rw[if_pos c,if_pos c.symm]
    exact zer (by simpa using l) fun z=>h (by rw[c,z])
   ·rw[if_neg c,if_neg fun z=>c z.symm]
    exact olt_total c
theorem zgK{α:Type}{p q:α→Bool}:∀{l:List α},(∀x∈l,p x=true→q x=true)→(l.filter p).length≤(l.filter q).length
 | [],_=>le_refl _
 | x::l,h=>by
   have ih:=zgK (p:=p) (q:=q) fun y hy=>h y (mem_cons_of_mem _ hy)
   rw[filter_cons,filter_cons]
   cases hp:p x with
   | false =>
     cases hq:q x with
     | false=>exact ih
     | true=>exact Nat.le_succ_of_le ih
   | true =>
     rw[h x (mem_cons_self ..) hp]
     exact Nat.succ_le_succ ih
theorem zfl{α:Type}{p q:α→Bool}:∀{l:List α}{x:α},x∈l→p x=false→q x=true→(∀x∈l,p x=true→q x=true)→(l.filter p).length<(l.filter q).length
 | y::l,x,hx,hp,hq,h=>by
   have le:=zgK (p:=p) (q:=q) fun y hy=>h y (mem_cons_of_mem _ hy)
   rw[filter_cons,filter_cons]
   rcases List.mem_cons.mp hx with e | hx
   ·subst e
    rw[hp,hq]
    exact Nat.lt_succ_of_le le
   ·have ih:=zfl hx hp hq fun y hy=>h y (mem_cons_of_mem _ hy)
    cases hp':p y with
    | false =>
      cases hq':q y with
      | false=>exact ih
      | true=>exact lt_succ_of_lt ih
    | true =>
      rw[h y (mem_cons_self ..) hp']
      exact Nat.succ_lt_succ ih
theorem zjy{cs:List (List Int)}{us:List Int}{c d:Int}(hc:c∈us)(h:yl (zl cs c) (zl cs d) us.length=true):yD cs us c<yD cs us d:=by
 unfold yD
 have:=zfl (p:=fun e=>yl (zl cs e) (zl cs c) us.length) (q:=fun e=>yl (zl cs e) (zl cs d) us.length) hc (zgE _ _) h fun x _ hx=>zep hx h
 omega
theorem place_eq{cs:List (List Int)}{us:List Int}{c d:Int}(hc:c∈us)(hd:d∈us)(h:yD cs us c=yD cs us d):wb (zl cs c) us.length=wb (zl cs d) us.length:=by
 by_cases e:wb (zl cs c) us.length=wb (zl cs d) us.length
 ·exact e
 ·rcases zer (by rw[zcV,zcV]) e with z | z
  ·have:=zjy (d:=d) hc z;omega
  ·have:=zjy (d:=c) hd z;omega
theorem zhO{a:List Int}{n:Nat}(ha:∀x∈a,x≤n){k:Nat}(h:n≤k):sg a k=sg a n:=by
 have e:got a k=got a n:=by
  unfold got
  exact filter_congr fun x hx=>by have:=ha x hx;rw[decide_eq_true (by omega),decide_eq_true this]
 unfold sg cnt sm
 rw[e]
theorem zj1{a b:List Int}{n m:Nat}{r:Option (Nat×Str)}(ha:∀x∈a,x≤n)(hb:∀x∈b,x≤n)(h1:1≤n)(hm:n≤m)(h:yL a b m r):yL a b n r:=by
 cases r with
 | none=>exact fun k k1 k2=>h k k1 (by omega)
 | some r =>
   refine⟨h.1,?_,h.2.2.1,h.2.2.2⟩
   by_cases c:r.1≤n
   ·exact c
   ·refine absurd ?_ h.2.2.2.1
    rw[zhO ha (by omega),zhO hb (by omega)]
    exact h.2.2.1 n h1 (by omega)
theorem nb_part{cs:List (List Int)}{us:List Int}{c d:Int}{r:Option (Nat×Str)}(hp:∀d∈cs,d.Perm us)(h1:1≤us.length)(h24:us.length≤24)(hc:c∈us)(hd:d∈us)(h:yL (zl cs c) (zl cs d) 24 r):
 nb cs us (yD cs us c,c) (yD cs us d,d)=r.map fun r=>(c,d,(r.1:Int),r.2):=by
 have h':=zj1 (fun x hx=>(yw hp hc x hx).2) (fun x hx=>(yw hp hd x hx).2) h1 h24 h
 have e:=zaS h' (zcv (zl cs c) (zl cs d) us.length)
 unfold nb
 dsimp only
 by_cases z:yD cs us c=yD cs us d
 ·rw[if_pos z]
  have es:=place_eq hc hd z
  have:yL (zl cs c) (zl cs d) us.length none:=fun k k1 k2=>by
   have:=congrArg (fun l=>l[k-1]?) es
   unfold wb at this
   simp only[getElem?_map] at this
   rw[getElem?_range (by omega)] at this
   have ek:((k-1:Nat):Int)+1=(k:Int):=by omega
   simpa [ek] using this
  rw[zaS h' this]
  rfl
 ·rw[if_neg z,e]
end M6
namespace L2
open PySem
theorem zdT{xs:List V}{d:Nat}{i:Int}{v:V}(hi:i = -((d+1:Nat):Int))(h:d<xs.length)(e:xs[xs.length-1-d]? = some v):atI xs i=some v:=by
 subst hi
 unfold atI ixN
 rw[if_neg (by omega),if_pos (by omega),show(-((d+1:Nat):Int)+(xs.length:Int)).toNat=xs.length-1-d by omega]
 exact e
theorem zjl{xs:List V}{d:Nat}{i:Int}(hi:i = -((d+1:Nat):Int)):zhf xs none (some i)=xs.take (xs.length-1-d):=by
 subst hi
 show(xs.drop 0).take ((if -((d+1:Nat):Int)<0 then(-((d+1:Nat):Int)+(xs.length:Int)).toNat else min (-((d+1:Nat):Int)).toNat xs.length)-0)=_
 rw[if_pos (by omega),show(-((d+1:Nat):Int)+(xs.length:Int)).toNat=xs.length-1-d by omega,List.drop_zero,Nat.sub_zero]
def fil(us:List Int)(ts:List Str)(cs:List (List Int)):Nat→Sh
 | 0=>Sh.new us ts
 | j+1=>(fil us ts cs j).hand (ts.getD j "") (cs.getD j [])
theorem zi5(us:List Int)(ts:List Str)(cs:List (List Int))(j:Nat):(fil us ts cs j).couples=us∧(fil us ts cs j).struck=[]∧(fil us ts cs j).panel=ts∧(fil us ts cs j).taken=j∧(fil us ts cs j).shut=false:=by
 induction j with
 | zero=>exact⟨rfl,rfl,rfl,rfl,rfl⟩
 | succ j ih=>exact⟨ih.1,ih.2.1,ih.2.2.1,by show(fil us ts cs j).taken+1=j+1;rw[ih.2.2.2.1],ih.2.2.2.2⟩
theorem zjW{us:List Int}{ts:List Str}{cs:List (List Int)}(nd:ts.Nodup)(hl:cs.length=ts.length):∀j,j≤ts.length→(fil us ts cs j).rows=cs.take j++(List.range (ts.length-j)).map fun _=>([]:List Int)
 | 0,_=>by
   show ts.map (fun _=>([]:List Int))=_
   refine ext_getElem (by simp) fun i h1 h2=>?_
   simp
 | j+1,h=>by
   have ih:=zjW (us:=us) nd hl j (by omega)
   obtain⟨_,_,hp,_⟩:=zi5 us ts cs j
   have hj:j<(fil us ts cs j).panel.length:=by rw[hp];omega
   have e:=Sh.rows_hand (S:=fil us ts cs j) (by rw[hp];exact nd) hj (cs.getD j [])
   rw[hp,ih] at e
   show((fil us ts cs j).hand (ts.getD j "") (cs.getD j [])).rows=_
   rw[e]
   have hc:j<cs.length:=by omega
   rw[List.set_append_right _ _ (by rw[length_take];omega),length_take,Nat.min_eq_left (by omega),Nat.sub_self,show ts.length-j=(ts.length-(j+1))+1 by omega,range_succ_eq_map,map_cons,List.set_cons_zero,map_map,take_succ,getElem?_eq_getElem hc,append_assoc,getD_eq_getElem?_getD,getElem?_eq_getElem hc]
   rfl
theorem zjB{us:List Int}{ts:List Str}{cs:List (List Int)}(nd:ts.Nodup)(hl:cs.length=ts.length):(fil us ts cs ts.length).rows=cs:=by
 rw[zjW nd hl _ (le_refl _),Nat.sub_self,List.range_zero,map_nil,append_nil,←hl,take_length]
theorem zj6{S:Sh}(h:∀d∈S.rows,d≠[]):∀j∈S.panel,S.card j≠none:=fun j hj e=>by
 have:(S.card j).getD []∈S.rows:=List.mem_map.mpr ⟨j,hj,rfl⟩
 rw[e] at this
 exact h _ this rfl
structure TwoS (K:Frag) (H0 H:Hp) (x y:Addr) (F G:Addr→Prop) (S T:Sh) (lh sh:Addr) (ps:List V) (hl:List Addr) (m:Nat):Prop where
 s:Same H0 H
 n0:∀b o,H0 b=some o→¬F b∧¬G b
 ax:SheetAt K H x F S
 ay:SheetAt K H y G T
 dj:∀b,F b→¬G b
 eh:H lh=some (.lst (hl.map V.ref))
 nh:¬F lh∧¬G lh∧H0 lh=none
 es:H sh=some (.lst ps)
 ns:¬F sh∧¬G sh∧sh≠lh
 hh:∀l∈hl,H0 l=none∧(¬F l∧¬G l)∧l≠lh∧l≠sh∧∃zs,H l=some (.lst zs)∧zs.length≤m
variable {K:Frag}{H0 H H':Hp}{x y:Addr}{F F' G:Addr→Prop}{S S' T:Sh}{lh sh:Addr}{ps:List V}{hl:List Addr}{m:Nat}
theorem TwoS.swap(h:TwoS K H0 H x y F G S T lh sh ps hl m):TwoS K H0 H y x G F T S lh sh ps hl m :=
 ⟨h.s,fun b o e=>(h.n0 b o e).symm,h.ay,h.ax,fun b z w=>h.dj b w z,h.eh,⟨h.nh.2.1,h.nh.1,h.nh.2.2⟩,h.es,⟨h.ns.2.1,h.ns.1,h.ns.2.2⟩,fun l hl=>let ⟨a,b,c⟩:=h.hh l hl;⟨a,b.symm,c⟩⟩
theorem TwoS.same(h:TwoS K H0 H x y F G S T lh sh ps hl m)(s:Same H H'):TwoS K H0 H' x y F G S T lh sh ps hl m :=
 ⟨h.s.trans s,h.n0,h.ax.same s,h.ay.same s,h.dj,s _ _ h.eh,h.nh,s _ _ h.es,h.ns,fun l hl=>let ⟨a,b,c,d,zs,e,f⟩:=h.hh l hl;⟨a,b,c,d,zs,s _ _ e,f⟩⟩
theorem TwoS.push(h:TwoS K H0 H x y F G S T lh sh ps hl m){l:Addr}{zs:List V}(hH:H l=none)(hz:zs.length≤m)(ln:l≠lh):
 TwoS K H0 (upd (upd H l (.lst zs)) lh (.lst ((hl++[l]).map V.ref))) x y F G S T lh sh ps (hl++[l]) m:=by
 have h2:=h.same (Same.new (o:=.lst zs) hH)
 have el:upd H l (.lst zs) l=some (.lst zs):=zd
 have nF:¬F l:=h.ax.apart hH
 have nG:¬G l:=h.ay.apart hH
 have hs:l≠sh:=fun z=>by rw[z,h.es] at hH;cases hH
 have h0:H0 l=none:=h.s.free hH
 generalize upd H l (.lst zs)=H1 at h2 el ⊢
 refine⟨fun b o e=>?_,h2.n0,h2.ax.put h2.nh.1,h2.ay.put h2.nh.2.1,h2.dj,zd,h2.nh,by rw[zi h2.ns.2.2];exact h2.es,h2.ns,fun r hr=>?_⟩
 ·rw[zi (zj e h2.nh.2.2)]
  exact h2.s _ _ e
 ·rcases List.mem_append.mp hr with hr | hr
  ·obtain⟨a,b,c,d,ws,e,f⟩:=h2.hh r hr
   exact⟨a,b,c,d,ws,by rw[zi c];exact e,f⟩
  ·rw[List.mem_singleton.mp hr]
   exact⟨h0,⟨nF,nG⟩,ln,hs,zs,by rw[zi ln];exact el,hz⟩
theorem TwoS.deed(h:TwoS K H0 H x y F G S T lh sh ps hl m)(a:SheetAt K H' x F' S')(d:Deed F H F' H'):TwoS K H0 H' x y F' G S' T lh sh ps hl m:=by
 have inG:∀b,G b→H' b=H b∧¬F' b:=fun b z=>by
  have:=h.ay.fh b z
  cases e:H b with
  | none=>exact absurd e this
  | some o=>exact d b o e fun w=>h.dj b w z
 refine⟨fun b o e=>(d b o (h.s b o e) (h.n0 b o e).1).1,fun b o e=>⟨(d b o (h.s b o e) (h.n0 b o e).1).2,(h.n0 b o e).2⟩,a,h.ay.off fun b z=>(inG b z).1,fun b z w=>(inG b w).2 z,(d _ _ h.eh h.nh.1).1,⟨(d _ _ h.eh h.nh.1).2,h.nh.2⟩,(d _ _ h.es h.ns.1).1,⟨(d _ _ h.es h.ns.1).2,h.ns.2⟩,fun l hl=>?_⟩
 obtain⟨a1,⟨b1,b2⟩,c,e1,zs,e,f⟩:=h.hh l hl
 exact⟨a1,⟨(d _ _ e b1).2,b2⟩,c,e1,zs,(d _ _ e b1).1,f⟩
theorem TwoS.spoil(h:TwoS K H0 H x y F G S T lh sh ps hl m){l:Addr}{n:Nat}(hm:l∈hl)(hn:n≤m)(p:Spo H l n H'):TwoS K H0 H' x y F G S T lh sh ps hl (m+1):=by
 obtain⟨a1,⟨b1,b2⟩,c1,c2,_⟩:=h.hh l hm
 refine⟨fun b o e=>(p.1 b (zj e a1)).trans (h.s b o e),h.n0,h.ax.off fun b z=>p.1 b fun w=>b1 (by rw[←w];exact z),h.ay.off fun b z=>p.1 b fun w=>b2 (by rw[←w];exact z),h.dj,(p.1 _ (Ne.symm c1)).trans h.eh,h.nh,(p.1 _ (Ne.symm c2)).trans h.es,h.ns,fun r hr=>?_⟩
 obtain⟨a,b,c,d,zs,e,f⟩:=h.hh r hr
 refine⟨a,b,c,d,?_⟩
 by_cases hrl:r=l
 ·obtain⟨_,ws,w1,w2⟩:=p
  exact⟨ws,by rw[hrl];exact w1,by omega⟩
 ·exact⟨zs,(p.1 r hrl).trans e,by omega⟩
end L2
set_option maxHeartbeats 4000000
namespace Pp
open PySem L2
def top(i:Nat):Stmt:=PySem.Challenge.pw_panelplace_k26_lists_are_copies.main.body.getD i (.Pass ⟨0,0,0,0⟩)
structure Txt (K:Frag) (mg:Str→Option Value):Prop where
 b_all:mg "all"=none
 b_bool:mg "bool"=none
 b_int:mg "int"=none
 b_isinstance:mg "isinstance"=none
 b_len:mg "len"=none
 b_list:mg "list"=none
 b_max:mg "max"=none
 b_min:mg "min"=none
 b_range:mg "range"=none
 b_set:mg "set"=none
 b_sorted:mg "sorted"=none
 b_str:mg "str"=none
 b_sum:mg "sum"=none
 b_tuple:mg "tuple"=none
 b_zip:mg "zip"=none
 c_MOST_COUPLES:∃t,mg "MOST_COUPLES"=some (.int 24 t)
 c_MOST_JUDGES:∃t,mg "MOST_JUDGES"=some (.int 15 t)
 c_MOST_NUMBER:∃t,mg "MOST_NUMBER"=some (.int 999 t)
 c_MOST_SIGNS:∃t,mg "MOST_SIGNS"=some (.int 8 t)
 c_MOST_CARDS:∃t,mg "MOST_CARDS"=some (.int 200 t)
 x_BadCouples:∃C,zdr K "BadCouples" C∧mg "BadCouples"=some (.ref C)∧ExC K C
 x_BadJudges:∃C,zdr K "BadJudges" C∧mg "BadJudges"=some (.ref C)∧ExC K C
 x_SheetSealed:∃C,zdr K "SheetSealed" C∧mg "SheetSealed"=some (.ref C)∧ExC K C
 x_UnknownJudge:∃C,zdr K "UnknownJudge" C∧mg "UnknownJudge"=some (.ref C)∧ExC K C
 x_BadCard:∃C,zdr K "BadCard" C∧mg "BadCard"=some (.ref C)∧ExC K C
 x_TooManyCards:∃C,zdr K "TooManyCards" C∧mg "TooManyCards"=some (.ref C)∧ExC K C
 x_UnknownCouple:∃C,zdr K "UnknownCouple" C∧mg "UnknownCouple"=some (.ref C)∧ExC K C
 x_LastCouple:∃C,zdr K "LastCouple" C∧mg "LastCouple"=some (.ref C)∧ExC K C
 x_NoCard:∃C,zdr K "NoCard" C∧mg "NoCard"=some (.ref C)∧ExC K C
 x_AtTop:∃C,zdr K "AtTop" C∧mg "AtTop"=some (.ref C)∧ExC K C
 cl_Sheet:Cls K (zE K "Sheet")
 n_Sheet_standing:NoAttr K (zE K "Sheet") "standing"
 n_Sheet_struck_so_far:NoAttr K (zE K "Sheet") "struck_so_far"
 n_Sheet_panel:NoAttr K (zE K "Sheet") "panel"
 n_Sheet_card_by_judge:NoAttr K (zE K "Sheet") "card_by_judge"
 n_Sheet_taken_so_far:NoAttr K (zE K "Sheet") "taken_so_far"
 n_Sheet_sealed:NoAttr K (zE K "Sheet") "sealed"
abbrev zcR:Stmt:=wy (top 33) 10
theorem zhg:FnScope ["self"] ["self"] (zf zcR):=scM
abbrev zab:Stmt:=wy (top 33) 11
theorem zeF:FnScope ["self"] ["self"] (zf zab):=scM
abbrev yE:Stmt:=wy (top 33) 12
theorem zcd:FnScope ["self"] ["self"] (zf yE):=scM
abbrev yp:Stmt:=wy (top 33) 13
abbrev zG:List Str:=["self","judge"]
theorem za8:FnScope ["self","judge"] zG (zf yp):=scM
abbrev zbi:Stmt:=wy (top 33) 4
abbrev zz:List Str:=["self"]
theorem zfJ:FnScope ["self"] zz (zf zbi):=scM
abbrev zbS:Stmt:=wy (top 33) 5
theorem zgb:FnScope ["self"] ["self"] (zf zbS):=scM
abbrev zbZ:Stmt:=wy (top 33) 6
theorem zf4:FnScope ["self"] ["self"] (zf zbZ):=scM
abbrev wZ:Stmt:=wy (top 33) 7
abbrev zI:List Str:=["self"]
theorem zgh:FnScope ["self"] zI (zf wZ):=scM
abbrev zc8:Stmt:=top 15
abbrev zaI:List Str:=["card","couples"]
theorem zhz:FnScope ["card","couples"] zaI (zf zc8):=scM
abbrev zfp:Stmt:=top 16
abbrev zdj:List Str:=["card","couple"]
theorem sc_mark_on:FnScope ["card","couple"] zdj (zf zfp):=scM
abbrev wp:Stmt:=top 17
abbrev y7:List Str:=["card","couple"]
theorem zfc:FnScope ["card","couple"] y7 (zf wp):=scM
abbrev zgX:Stmt:=top 18
abbrev zef:List Str:=["card","couple"]
theorem zfE:FnScope ["card","couple","place","passed"] zef (zf zgX):=scM
abbrev zcE:Stmt:=top 26
theorem zgZ:FnScope ["couple"] ["couple"] (zf zcE):=scM
abbrev zb1:Stmt:=top 28
theorem zf9:FnScope ["sign"] ["sign"] (zf zb1):=scM
abbrev zcL:Stmt:=top 29
abbrev yM:List Str:=["things","most"]
theorem zgp:FnScope ["things","most"] yM (zf zcL):=scM
abbrev zc2:Stmt:=top 30
theorem zhm:FnScope ["things"] ["things"] (zf zc2):=scM
abbrev zcG:Stmt:=top 35
theorem zhd:FnScope ["many"] ["many"] (zf zcG):=scM
abbrev zda:Stmt:=top 39
abbrev za9:List Str:=["marks","number"]
theorem zjJ:FnScope ["marks","number"] za9 (zf zda):=scM
abbrev zd7:Stmt:=top 67
abbrev yA:List Str:=["_law_found"]
theorem ziD:FnScope ["_law_found"] yA (zf zd7):=scM
abbrev zgt:Stmt:=top 68
abbrev zej:List Str:=["_law_script","_law_k"]
theorem sc_law_at:FnScope ["_law_script","_law_k"] zej (zf zgt):=scM
abbrev zdI:Stmt:=top 70
abbrev zao:List Str:=["_law_found","_law_due"]
theorem zfk:FnScope ["_law_found","_law_due","_law_k"] zao (zf zdI):=scM
abbrev zfr:Stmt:=top 74
abbrev zdv:List Str:=["_law_cell","_law_place"]
theorem zgz:FnScope ["_law_cell","_law_place","_law_once"] zdv (zf zfr):=scM
abbrev zaW:Stmt:=top 75
abbrev zd3:List Str:=["_law_cell","_law_many","_law_gap"]
abbrev zap:List Str:=["_law_cell","_law_many"]
theorem zdW:FnScope zd3 zap (zf zaW):=scM
abbrev zbr:Stmt:=top 76
abbrev zeu:List Str:=["_law_cell","_law_many","_law_letters","_law_size","_law_spot","_law_ends"]
abbrev zaQ:List Str:=["_law_cell","_law_many"]
theorem wK:FnScope zeu zaQ (zf zbr):=scM
abbrev zcr:Stmt:=top 78
abbrev wu:List Str:=["_law_cards","_law_couple"]
theorem zij:FnScope ["_law_cards","_law_couple"] wu (zf zcr):=scM
abbrev zek:Stmt:=top 79
abbrev zgL:List Str:=["_law_marks_here","_law_last","_law_key_here","_law_number","_law_got"]
abbrev zdh:List Str:=["_law_marks_here","_law_last"]
theorem zdn:FnScope zgL zdh (zf zek):=scM
abbrev zeK:Stmt:=top 81
abbrev zbb:List Str:=["_law_spots_here","_law_couples_here"]
theorem zcA:FnScope ["_law_spots_here","_law_couples_here","_law_rows_here","_law_place","_law_k"] zbb (zf zeK):=scM
abbrev zbO:Stmt:=top 82
abbrev zdP:List Str:=["_law_one","_law_other","_law_last","_law_number","_law_got","_law_had"]
abbrev zcp:List Str:=["_law_one","_law_other","_law_last"]
theorem zco:FnScope zdP zcp (zf zbO):=scM
abbrev zaM:Stmt:=top 85
abbrev zd1:List Str:=["_law_card_here","_law_couple"]
abbrev zat:List Str:=["_law_card_here","_law_couple"]
theorem zgY:FnScope zd1 zat (zf zaM):=scM
abbrev zcg:Stmt:=top 86
abbrev zbC:List Str:=["_law_things"]
theorem ziF:FnScope ["_law_things"] zbC (zf zcg):=scM
abbrev zby:Stmt:=top 87
abbrev zel:List Str:=["_law_marks_here","_law_last","_law_steps","_law_number","_law_got"]
abbrev za0:List Str:=["_law_marks_here","_law_last"]
theorem zaU:FnScope zel za0 (zf zby):=scM
abbrev zd0:Stmt:=top 91
abbrev zaj:List Str:=["_law_row","_law_kind"]
theorem zfg:FnScope ["_law_row","_law_kind","_law_k"] zaj (zf zd0):=scM
abbrev zbm:Stmt:=wy (top 33) 1
abbrev wB:List Str:=["self","judge","card"]
theorem zft:FnScope ["self","judge","card"] wB (zf zbm):=scM
abbrev zca:Stmt:=wy (top 33) 2
abbrev wQ:List Str:=["self","couple"]
theorem zdz:FnScope ["self","couple","judge"] wQ (zf zca):=scM
abbrev zbg:Stmt:=wy (top 33) 9
abbrev zR:List Str:=["self","judge"]
theorem zfL:FnScope ["self","judge"] zR (zf zbg):=scM
abbrev zai:Stmt:=top 24
theorem zf3:FnScope ["couples"] ["couples"] (zf zai):=scM
abbrev zcu:Stmt:=top 27
theorem ziw:FnScope ["judge"] ["judge"] (zf zcu):=scM
abbrev zc3:Stmt:=top 36
abbrev wW:List Str:=["cards","couple"]
theorem zja:FnScope ["cards","couple"] wW (zf zc3):=scM
abbrev zfy:Stmt:=top 37
abbrev wS:List Str:=["marks","number"]
theorem sc_granted:FnScope ["marks","number"] wS (zf zfy):=scM
abbrev zcN:Stmt:=top 38
abbrev yJ:List Str:=["marks","number"]
theorem zhc:FnScope ["marks","number"] yJ (zf zcN):=scM
abbrev zb2:Stmt:=top 40
theorem zgg:FnScope ["marks"] ["marks"] (zf zb2):=scM
abbrev wn:Stmt:=top 60
abbrev zA:List Str:=["sheet","least"]
theorem zdD:FnScope ["sheet","least"] zA (zf wn):=scM
abbrev zeL:Stmt:=top 69
abbrev wV:List Str:=["_law_found","_law_due"]
theorem zfS:FnScope ["_law_found","_law_due","_law_k"] wV (zf zeL):=scM
abbrev zdS:Stmt:=top 72
abbrev zbv:List Str:=["_law_found","_law_due"]
theorem ze0:FnScope ["_law_found","_law_due","_law_k"] zbv (zf zdS):=scM
abbrev zdX:Stmt:=top 73
abbrev zbt:List Str:=["_law_found","_law_due"]
theorem zc7:FnScope ["_law_found","_law_due","_law_k","_law_j"] zbt (zf zdX):=scM
abbrev zeC:Stmt:=top 77
abbrev zcs:List Str:=["_law_cell","_law_couples_here","_law_style"]
theorem yh:FnScope ["_law_cell","_law_couples_here","_law_style","_law_pool","_law_turn","_law_left","_law_made","_law_k","_law_spot"] zcs (zf zeC):=scM
abbrev za2:Stmt:=top 80
abbrev zdw:List Str:=["_law_cards","_law_couples_here","_law_ranks"]
abbrev wY:List Str:=["_law_cards","_law_couples_here"]
theorem ze9:FnScope zdw wY (zf za2):=scM
abbrev zd4:Stmt:=top 83
abbrev zbF:List Str:=["_law_cards","_law_couples_here","_law_spots_here"]
theorem yS:FnScope ["_law_cards","_law_couples_here","_law_spots_here","_law_rows_here","_law_made","_law_k","_law_one","_law_other","_law_what"] zbF (zf zd4):=scM
abbrev zeG:Stmt:=top 88
abbrev zcx:List Str:=["_law_place","_law_couple","_law_cards","_law_last"]
theorem zfT:FnScope ["_law_place","_law_couple","_law_cards","_law_last","_law_marks_here"] zcx (zf zeG):=scM
abbrev zaO:Stmt:=wy (top 33) 8
abbrev zZ:List Str:=["self"]
theorem zgN:FnScope ["self"] zZ (zf zaO):=scM
abbrev zaY:Stmt:=top 25
theorem zgV:FnScope ["judges"] ["judges"] (zf zaY):=scM
abbrev zcl:Stmt:=top 41
abbrev zbx:List Str:=["marks","last"]
theorem zid:FnScope ["marks","last"] zbx (zf zcl):=scM
abbrev zec:Stmt:=top 44
abbrev zaq:List Str:=["one","other"]
theorem zeU:FnScope ["one","other","number"] zaq (zf zec):=scM
abbrev wN:Stmt:=top 62
abbrev yH:List Str:=["sheet","judge"]
theorem zfC:FnScope ["sheet","judge"] yH (zf wN):=scM
abbrev zd2:Stmt:=top 71
abbrev zbw:List Str:=["_law_found","_law_due"]
theorem zeS:FnScope ["_law_found","_law_due","_law_k"] zbw (zf zd2):=scM
abbrev zbs:Stmt:=top 89
abbrev zes:List Str:=["_law_cards","_law_couples_here","_law_spots_here"]
abbrev zaR:List Str:=["_law_cards","_law_couples_here"]
theorem zeo:FnScope zes zaR (zf zbs):=scM
abbrev zc6:Stmt:=wy (top 33) 0
abbrev zaT:List Str:=["self","couples","judges"]
theorem zhH:FnScope ["self","couples","judges"] zaT (zf zc6):=scM
abbrev zeN:Stmt:=top 43
abbrev zcq:List Str:=["one","other"]
theorem zfU:FnScope ["one","other","number"] zcq (zf zeN):=scM
abbrev zdk:Stmt:=top 50
abbrev zaZ:List Str:=["one","other"]
theorem zem:FnScope ["one","other","number"] zaZ (zf zdk):=scM
abbrev zb4:Stmt:=top 65
abbrev zdZ:List Str:=["sheet","place","couple","marks","ladder","head","steps"]
abbrev zcf:List Str:=["sheet","place","couple"]
theorem za3:FnScope zdZ zcf (zf zb4):=scM
abbrev wz:Stmt:=top 84
abbrev zaK:List Str:=["_law_sheet","_law_names","_law_couples_here","_law_gone","_law_cards","_law_many","_law_shut","_law_into","_law_k","_law_count","_law_sealed"]
abbrev zaP:List Str:=["_law_sheet","_law_names","_law_couples_here","_law_gone","_law_cards","_law_many","_law_shut"]
theorem wE:FnScope zaK zaP (zf wz):=scM
abbrev wk:Stmt:=top 90
abbrev zbp:List Str:=["_law_names","_law_cards","_law_couples_here","_law_now","_law_made","_law_k","_law_rest"]
abbrev wM:List Str:=["_law_names","_law_cards","_law_couples_here"]
theorem yY:FnScope zbp wM (zf wk):=scM
abbrev zaL:Stmt:=top 46
abbrev zas:List Str:=["rows","own"]
theorem zgI:FnScope ["rows","own"] zas (zf zaL):=scM
abbrev za6:Stmt:=top 45
abbrev zdm:List Str:=["cards","couples","rows"]
abbrev yC:List Str:=["cards","couples"]
theorem zeO:FnScope zdm yC (zf za6):=scM
abbrev zgQ:Stmt:=top 53
theorem sc_places:FnScope ["sheet"] ["sheet"] (zf zgQ):=scM
abbrev zew:Stmt:=top 57
abbrev za1:List Str:=["sheet","judge"]
theorem zjn:FnScope ["sheet","judge"] za1 (zf zew):=scM
abbrev zeg:Stmt:=top 59
abbrev zgR:List Str:=["sheet","judge","couple","card","stepped","passed","cards"]
abbrev zbL:List Str:=["sheet","judge","couple"]
theorem zb6:FnScope zgR zbL (zf zeg):=scM
abbrev zcj:Stmt:=top 61
abbrev zaa:List Str:=["cards","couples"]
theorem ziM:FnScope ["cards","couples"] zaa (zf zcj):=scM
abbrev zgm:Stmt:=top 55
theorem sc_firsts:FnScope ["sheet"] ["sheet"] (zf zgm):=scM
abbrev zdq:Stmt:=top 58
theorem zfQ:FnScope ["sheet","now"] ["sheet"] (zf zdq):=scM
abbrev zaB:Stmt:=top 48
theorem zjc:FnScope ["places","couples"] ["places","couples"] (zf zaB):=scM
abbrev zdb:Stmt:=top 47
abbrev wJ:List Str:=["cards","couples"]
theorem zhw:FnScope ["cards","couples"] wJ (zf zdb):=scM
abbrev zaH:Stmt:=top 51
abbrev zdY:List Str:=["cards","couples","ranked","rows","one","other","parting"]
abbrev zar:List Str:=["cards","couples"]
theorem yK:FnScope zdY zar (zf zaH):=scM
abbrev zfq:Stmt:=top 54
theorem sc_ranking:FnScope ["sheet"] ["sheet"] (zf zfq):=scM
abbrev zev:Stmt:=top 56
theorem zjC:FnScope ["sheet"] ["sheet"] (zf zev):=scM
abbrev zgk:Stmt:=top 64
theorem sc_table:FnScope ["sheet"] ["sheet"] (zf zgk):=scM
abbrev zaz:Stmt:=top 92
abbrev y9:List Str:=["_law_sheet","_law_names","_law_cards","_law_kind"]
theorem yn:FnScope ["_law_sheet","_law_names","_law_cards","_law_kind","_law_k","_law_inner","_law_card_here","_law_row"] y9 (zf zaz):=scM
abbrev zbM:Stmt:=top 93
abbrev zee:List Str:=["_law_sheet","_law_names","_law_couples_here","_law_cards","_law_spots_here","_law_rows_here","_law_card_here","_law_found"]
abbrev zct:List Str:=["_law_sheet","_law_names","_law_couples_here","_law_cards"]
theorem za4:FnScope zee zct (zf zbM):=scM
abbrev zdG:Stmt:=top 94
abbrev zkj:List Str:=["_law_script","_law_couples_here","_law_names","_law_style","_law_cards","_law_handed","_law_sheets","_law_sheet","_law_k","_law_gone","_law_left","_law_fewer","_law_kind","_law_row"]
theorem zad:FnScope zkj ["_law_script"] (zf zdG):=scM
inductive zbK (K:Frag) (vs:List V) (H:Hp) (Q:VK) (E:XK):Prop
 | mk (p:Addr) (F:Addr→Prop) (S:Sh):vs=[.ref p]→SheetAt K H p F S→Q (.int S.taken) H→zbK K vs H Q E
section
variable {P:Program}{w:World}{K:Frag}{mg:Str→Option Value}{base:Heap}
theorem zg0{f:Addr}{fd:FuncData}(F:Fun K "taken" "Sheet.taken" zcR f fd)(T:Txt K mg):FnOk P w K mg base CX0 1 f fd ["self"] (zbK K):=by
 refine F.ok zhg (fun vs H Q E h=>?_) (fun cdv A outer s H vs Q E hr h=>?_)
 ·obtain⟨p,F,S,rfl,_⟩:=h
  rfl
 ·obtain⟨p,F,S,rfl,⟨dx,a1,a2,a3,d,kvs,h⟩,q⟩:=h
  refine⟨_,(ze (zk (yF (pv 0) rfl))),?_⟩
  exact⟨_,rfl,p,_,dx,_,_,rfl,h.ip,T.cl_Sheet,T.n_Sheet_taken_so_far,rfl,q⟩
inductive wR (K:Frag) (vs:List V) (H:Hp) (Q:VK) (E:XK):Prop
 | mk (p:Addr) (F:Addr→Prop) (S:Sh):vs=[.ref p]→SheetAt K H p F S→Q (.bl S.shut) H→wR K vs H Q E
theorem zeE{f:Addr}{fd:FuncData}(F:Fun K "is_sealed" "Sheet.is_sealed" zab f fd)(T:Txt K mg):FnOk P w K mg base CX0 1 f fd ["self"] (wR K):=by
 refine F.ok zeF (fun vs H Q E h=>?_) (fun cdv A outer s H vs Q E hr h=>?_)
 ·obtain⟨p,F,S,rfl,_⟩:=h
  rfl
 ·obtain⟨p,F,S,rfl,⟨dx,a1,a2,a3,d,kvs,h⟩,q⟩:=h
  refine⟨_,(ze (zk (yF (pv 0) rfl))),?_⟩
  exact⟨_,rfl,p,_,dx,_,_,rfl,h.ip,T.cl_Sheet,T.n_Sheet_sealed,rfl,q⟩
inductive yi (K:Frag) (vs:List V) (H:Hp) (Q:VK) (E:XK):Prop
 | mk (p:Addr) (F:Addr→Prop) (S:Sh):vs=[.ref p]→SheetAt K H p F S→((S.shut=true→∀C,zdr K "SheetSealed" C→E (.ref C) none H))→((S.shut=false→Q .non H))→yi K vs H Q E
theorem zcc{f:Addr}{fd:FuncData}(F:Fun K "refuse_if_sealed" "Sheet.refuse_if_sealed" yE f fd)(T:Txt K mg):FnOk P w K mg base (CX1 P w) 1 f fd ["self"] (yi K):=by
 obtain⟨c_SheetSealed,n_SheetSealed,m_SheetSealed,x_SheetSealed⟩:=T.x_SheetSealed
 refine F.okX zcd (fun vs H Q E h=>?_) (fun X W cdv A outer s H vs Q E hX hW fl md hr h=>?_)
 ·obtain⟨p,F,S,rfl,_⟩:=h
  rfl
 ·obtain⟨p,F,S,rfl,⟨dx,a1,a2,a3,d,kvs,h⟩,qE,q⟩:=h
  subst hX
  refine⟨_,(ze (zx (zK (yF (pv 0) rfl)) (ze (wI rfl md rfl m_SheetSealed x_SheetSealed (za yf zb))) zo)),?_⟩
  refine⟨_,rfl,p,_,dx,_,_,rfl,h.ip,T.cl_Sheet,T.n_Sheet_sealed,rfl,_,rfl,zi4 (fun hs=>?_) (fun hs=>q hs)⟩
  exact⟨(by show 1≤sizeLine;decide),by rw[hW];exact qE hs _ n_SheetSealed⟩
inductive zU (K:Frag) (vs:List V) (H:Hp) (Q:VK) (E:XK):Prop
 | mk (p:Addr) (F:Addr→Prop) (S:Sh) (j:Str):vs=[.ref p,.str j]→SheetAt K H p F S→((j∉S.panel→∀C,zdr K "UnknownJudge" C→E (.ref C) none H))→((j∈S.panel→Q .non H))→zU K vs H Q E
theorem zbe{f:Addr}{fd:FuncData}(F:Fun K "refuse_unknown_judge" "Sheet.refuse_unknown_judge" yp f fd)(T:Txt K mg):FnOk P w K mg base (CX1 P w) 1 f fd zG (zU K):=by
 obtain⟨c_UnknownJudge,n_UnknownJudge,m_UnknownJudge,x_UnknownJudge⟩:=T.x_UnknownJudge
 refine F.okX za8 (fun vs H Q E h=>?_) (fun X W cdv A outer s H vs Q E hX hW fl md hr h=>?_)
 ·obtain⟨p,F,S,j,rfl,_⟩:=h
  rfl
 ·obtain⟨p,F,S,j,rfl,⟨dx,a1,a2,a3,d,kvs,h⟩,qE,q⟩:=h
  subst hX
  refine⟨_,(ze (zx (zm zdc (pv 1) (yF (pv 0) rfl) (by first | exact zp _ | rfl)) (ze (wI rfl md rfl m_UnknownJudge x_UnknownJudge (za yf zb))) zo)),?_⟩
  refine⟨_,rfl,_,rfl,p,_,dx,_,_,rfl,h.ip,T.cl_Sheet,T.n_Sheet_panel,rfl,_,_,rfl,.inl (SqL.of h.i3),rfl,flat_strs _,_,rfl,?_⟩
  rw[inV_strs]
  refine yk (fun hj=>?_) (fun hj=>q hj)
  exact⟨(by show 1≤sizeLine;decide),by rw[hW];exact qE hj _ n_UnknownJudge⟩
inductive zD (K:Frag) (vs:List V) (H:Hp) (Q:VK) (E:XK):Prop
 | mk (p:Addr) (F:Addr→Prop) (S:Sh):vs=[.ref p]→SheetAt K H p F S→(∀(l:Addr)(H':Hp),Same H H'→H l=none→H' l=some (.lst (S.couples.map V.int))→Q (.ref l) H')→zD K vs H Q E
theorem zfG{f:Addr}{fd:FuncData}(F:Fun K "couples" "Sheet.couples" zbi f fd)(T:Txt K mg):FnOk P w K mg base CX0 1 f fd zz (zD K):=by
 refine F.ok zfJ (fun vs H Q E h=>?_) (fun cdv A outer s H vs Q E hr h=>?_)
 ·obtain⟨p,F,S,rfl,_⟩:=h
  rfl
 ·obtain⟨p,F,S,rfl,⟨dx,a1,a2,a3,d,kvs,h⟩,q⟩:=h
  refine⟨_,(ze (zk (zM zP (by rfl) T.b_list boot_list (za (yF (pv 0) rfl) zb)))),?_⟩
  exact⟨_,rfl,p,_,dx,_,_,rfl,h.ip,T.cl_Sheet,T.n_Sheet_standing,rfl,_,_,rfl,.inl (SqL.of h.i1),fun l hl=>q l _ (Same.new hl) hl zd⟩
inductive wP (K:Frag) (vs:List V) (H:Hp) (Q:VK) (E:XK):Prop
 | mk (p:Addr) (F:Addr→Prop) (S:Sh):vs=[.ref p]→SheetAt K H p F S→(∀(l:Addr)(H':Hp),Same H H'→H l=none→H' l=some (.lst (S.struck.map V.int))→Q (.ref l) H')→wP K vs H Q E
theorem zgf{f:Addr}{fd:FuncData}(F:Fun K "struck" "Sheet.struck" zbS f fd)(T:Txt K mg):FnOk P w K mg base CX0 1 f fd ["self"] (wP K):=by
 refine F.ok zgb (fun vs H Q E h=>?_) (fun cdv A outer s H vs Q E hr h=>?_)
 ·obtain⟨p,F,S,rfl,_⟩:=h
  rfl
 ·obtain⟨p,F,S,rfl,⟨dx,a1,a2,a3,d,kvs,h⟩,q⟩:=h
  refine⟨_,(ze (zk (zM zP (by rfl) T.b_list boot_list (za (yF (pv 0) rfl) zb)))),?_⟩
  exact⟨_,rfl,p,_,dx,_,_,rfl,h.ip,T.cl_Sheet,T.n_Sheet_struck_so_far,rfl,_,_,rfl,.inl (SqL.of h.i2),fun l hl=>q l _ (Same.new hl) hl zd⟩
inductive wO (K:Frag) (vs:List V) (H:Hp) (Q:VK) (E:XK):Prop
 | mk (p:Addr) (F:Addr→Prop) (S:Sh):vs=[.ref p]→SheetAt K H p F S→(∀(l:Addr)(H':Hp),Same H H'→H l=none→H' l=some (.lst (S.panel.map V.str))→Q (.ref l) H')→wO K vs H Q E
theorem zf7{f:Addr}{fd:FuncData}(F:Fun K "judges" "Sheet.judges" zbZ f fd)(T:Txt K mg):FnOk P w K mg base CX0 1 f fd ["self"] (wO K):=by
 refine F.ok zf4 (fun vs H Q E h=>?_) (fun cdv A outer s H vs Q E hr h=>?_)
 ·obtain⟨p,F,S,rfl,_⟩:=h
  rfl
 ·obtain⟨p,F,S,rfl,⟨dx,a1,a2,a3,d,kvs,h⟩,q⟩:=h
  refine⟨_,(ze (zk (zM zP (by rfl) T.b_list boot_list (za (yF (pv 0) rfl) zb)))),?_⟩
  exact⟨_,rfl,p,_,dx,_,_,rfl,h.ip,T.cl_Sheet,T.n_Sheet_panel,rfl,_,_,rfl,.inl (SqL.of h.i3),fun l hl=>q l _ (Same.new hl) hl zd⟩
inductive zO (K:Frag) (vs:List V) (H:Hp) (Q:VK) (E:XK):Prop
 | mk (p:Addr) (F:Addr→Prop) (S:Sh):vs=[.ref p]→ShapeAt K H p F S→S.panel.length≤15→(∀(l:Addr)(H':Hp),Same H H'→H l=none→H' l=some (.lst (S.handed.map V.str))→Q (.ref l) H')→zO K vs H Q E
theorem zge{f:Addr}{fd:FuncData}(F:Fun K "handed" "Sheet.handed" wZ f fd)(T:Txt K mg):FnOk P w K mg base CX0 1 f fd zI (zO K):=by
 refine F.ok zgh (fun vs H Q E h=>?_) (fun cdv A outer s H vs Q E hr h=>?_)
 ·obtain⟨p,F,S,rfl,_⟩:=h
  rfl
 ·obtain⟨p,F,S,rfl,⟨dx,a1,a2,a3,d,kvs,h⟩,h15,q⟩:=h
  refine⟨_,(ze (zk (zQ (show CompScope (zf wZ) ["self"] "judge" ["self"] [0] _ from csM) rfl (zw (yF (pv 0) rfl)) (fun _ _ _ _ _=>(yZ (pt_cmp (pc_din (zhX hr) (pv 0) (pe_fldK (K:=K) rfl (pv 1) rfl))))) (fun _ _ _ _ _=>(pv 0))))),?_⟩
  have hln:=zr
  refine⟨_,rfl,p,_,dx,_,_,rfl,h.ip,T.cl_Sheet,T.n_Sheet_panel,rfl,a3,rfl,⟨_,SqL.of h.i3⟩,?_⟩
  refine yI (xs:=S.panel.map V.str) (fun i ys H2=>H2=H∧ys=((S.panel.take i).filter fun j=>(S.card j).isSome).map V.str) ⟨rfl,rfl⟩ ?_ (by rw[length_map];omega) ?_ ?_
  ·rintro i ys H2 hi ⟨rfl,rfl⟩
   refine⟨SqL.of h.i3,?_⟩
   rw[length_map]
   exact le_trans (length_filter_le _ _) (by rw[length_take];omega)
  ·rintro i x ys H2 hx ⟨rfl,rfl⟩
   obtain⟨hi,rfl⟩:=zbY hx
   refine⟨_,rfl,_,rfl,p,_,dx,_,_,rfl,h.ip,T.cl_Sheet,T.n_Sheet_card_by_judge,rfl,d,_,rfl,DGet.k (k:=Sum.inr (S.panel.getD i "")) h.i4,_,rfl,?_⟩
   have hv:(zaA kvs (Sum.inr (S.panel.getD i ""))).isSome=(S.card (S.panel.getD i "")).isSome:=by
    cases e:S.card (S.panel.getD i "")with
    | none=>rw[h.cn _ e];rfl
    | some c=>obtain⟨l,e1,_⟩:=h.cs _ _ e;rw[e1];rfl
   rw[hv]
   refine zi4 (fun hb=>?_) (fun hb=>?_)
   ·refine⟨_,rfl,rfl,?_⟩
    rw[yq hi,filter_append,filter_cons,if_pos hb,map_append]
    rfl
   ·refine⟨rfl,?_⟩
    rw[yq hi,filter_append,filter_cons,if_neg (by rw[hb];exact Bool.false_ne_true)]
    simp
  ·rintro ys H2 ⟨rfl,rfl⟩ l hl
   rw[length_map,take_length]
   exact q l _ (Same.new hl) hl zd
inductive zcC (K:Frag) (vs:List V) (H:Hp) (Q:VK) (E:XK):Prop
 | mk (a b:Addr) (ns ms:List Int):vs=[.ref a,.ref b]→SqL K H a (ns.map V.int)→SqL K H b (ms.map V.int)→ns.length<64→ms.length<64→(∀H',Same H H'→Q (.bl (decide (ns.Perm ms))) H')→zcC K vs H Q E
theorem zjq{ns ms ns' ms':List Int}(h1:ns'.Perm ns)(h2:ns'.Pairwise (·≤ ·))(h3:ms'.Perm ms)(h4:ms'.Pairwise (·≤ ·)):decide (ns'=ms')=decide (ns.Perm ms):=by
 by_cases h:ns.Perm ms
 ·rw[decide_eq_true h]
  exact decide_eq_true (List.Perm.eq_of_pairwise (fun a b _ _ x y=>Int.le_antisymm x y) h2 h4 (h1.trans (h.trans h3.symm)))
 ·rw[decide_eq_false h]
  refine decide_eq_false fun e=>h ?_
  subst e
  exact h1.symm.trans h3
theorem zhC{f:Addr}{fd:FuncData}(F:Fun K "whole_card" "whole_card" zc8 f fd)(T:Txt K mg):FnOk P w K mg base CX0 1 f fd zaI (zcC K):=by
 refine F.ok zhz (fun vs H Q E h=>?_) (fun cdv A outer s H vs Q E hr h=>?_)
 ·obtain⟨a,b,ns,ms,rfl,_⟩:=h
  rfl
 ·obtain⟨a,b,ns,ms,rfl,hA,hB,hz1,hz2,q⟩:=h
  refine⟨_,(ze (zk (zbB (zhl hr.units0) (zB zd9 (by rfl) T.b_sorted PyProof.Rows.boot_sorted (za (pv 0) zb)) (zB zd9 (by rfl) T.b_sorted PyProof.Rows.boot_sorted (za (pv 1) zb)) (zp _)))),?_⟩
  refine⟨_,rfl,a,ns,rfl,hA,hz1,fun l1 ns' hl1 p1 w1=>?_⟩
  refine⟨_,rfl,b,ms,rfl,(Same.new hl1).seq hB,hz2,fun l2 ms' hl2 p2 w2=>?_⟩
  refine⟨l1,l2,_,_,rfl,rfl,(Same.new hl2).seq SqL.new,SqL.new,zX _,zX _,?_⟩
  rw[zbc,zjq p1 w1 p2 w2]
  exact q _ ((Same.new hl1).newT hl2)
inductive zeM (K:Frag) (vs:List V) (H:Hp) (Q:VK) (E:XK):Prop
 | mk (a:Addr) (ns:List Int) (c:Int):vs=[.ref a,.int c]→SqL K H a (ns.map V.int)→c∈ns→Q (.int ((ns.idxOf c:Nat)+1)) H→zeM K vs H Q E
theorem ok_mark_on{f:Addr}{fd:FuncData}(F:Fun K "mark_on" "mark_on" zfp f fd)(T:Txt K mg):FnOk P w K mg base CX0 1 f fd zdj (zeM K):=by
 refine F.ok sc_mark_on (fun vs H Q E h=>?_) (fun cdv A outer s H vs Q E hr h=>?_)
 ·obtain⟨a,ns,c,rfl,_⟩:=h
  rfl
 ·obtain⟨a,ns,c,rfl,hS,hc,q⟩:=h
  refine⟨_,(ze (zk (zu yt (zaf PySem.F.plainAttrs_list PySem.F.slot_list_index PySem.F.type_list_index zfj (pv 0) (za (pv 1) zb)) zh))),?_⟩
  refine⟨_,rfl,.inl ⟨rfl,_,hS⟩,_,rfl,a,_,_,rfl,rfl,hS,rfl,zX _,?_,_,_,rfl,rfl,?_⟩
  ·rw[zbR,length_map];exact List.idxOf_lt_length_iff.mpr hc
  ·rw[zbR];exact q
inductive zaw (K:Frag) (vs:List V) (H:Hp) (Q:VK) (E:XK):Prop
 | mk (a:Addr) (ns:List Int) (c:Int):vs=[.ref a,.int c]→SqL K H a (ns.map V.int)→ns.length≤1000→(∀l H',Same H H'→H l=none→H' l=some (.lst ((ns.filter fun o => !decide (o=c)).map V.int))→Q (.ref l) H')→zaw K vs H Q E
theorem zfh{f:Addr}{fd:FuncData}(F:Fun K "without_couple" "without_couple" wp f fd)(T:Txt K mg):FnOk P w K mg base CX0 1 f fd y7 (zaw K):=by
 refine F.ok zfc (fun vs H Q E h=>?_) (fun cdv A outer s H vs Q E hr h=>?_)
 ·obtain⟨a,ns,c,rfl,_⟩:=h
  rfl
 ·obtain⟨a,ns,c,rfl,hS,hz,q⟩:=h
  refine⟨_,(ze (zk (zQ (show CompScope (zf wp) ["card","couple"] "other" ["couple"] [1] _ from csM) rfl (zw (pv 0)) (fun _ _ _ _ _=>(yZ (zm yG (pv 0) (pv 1) (zp _)))) (fun _ _ _ _ _=>(pv 0))))),?_⟩
  refine⟨_,rfl,a,rfl,⟨_,hS⟩,?_⟩
  refine yI (xs:=ns.map V.int) (fun i ys H2=>H2=H∧ys=((ns.take i).filter fun o => !decide (o=c)).map V.int) ⟨rfl,rfl⟩ ?_ (by rw[length_map];exact le_trans hz (le_trans (by decide) zr)) ?_ ?_
  ·rintro i ys H2 hi ⟨rfl,rfl⟩
   refine⟨hS,?_⟩
   rw[length_map]
   exact le_trans (length_filter_le _ _) (by rw[length_take];omega)
  ·rintro i x ys H2 hx ⟨rfl,rfl⟩
   obtain⟨hi,rfl⟩:=yN hx
   refine⟨_,rfl,_,rfl,rfl,_,rfl,yk (fun hne=>?_) (fun he=>?_)⟩
   ·refine⟨_,rfl,rfl,?_⟩
    have:¬ns.getD i 0=c:=fun e=>hne (by rw[e])
    rw[yy hi,filter_append,filter_cons_of_pos (by show(!decide (ns.getD i 0=c))=true;rw[decide_eq_false this];rfl),map_append]
    rfl
   ·refine⟨rfl,?_⟩
    have:ns.getD i 0=c:=by injection he
    rw[yy hi,filter_append,filter_cons_of_neg (by show ¬(!decide (ns.getD i 0=c))=true;rw[decide_eq_true this];decide),map_append]
    simp
  ·rintro ys H2 ⟨rfl,rfl⟩ l hl
   rw[length_map,take_length]
   exact q l _ (Same.new hl) hl zd
inductive zfn (K:Frag) (vs:List V) (H:Hp) (Q:VK) (E:XK):Prop
 | mk (a:Addr) (ns:List Int) (i:Nat):vs=[.ref a,.int (ns.getD i 0)]→SqL K H a (ns.map V.int)→ns.Nodup→i<ns.length→ns.length≤1000→((∀n∈ns,1≤n∧n≤999))→((i=0→∀C,zdr K "AtTop" C→E (.ref C) none H))→((0<i→∀l H',Same H H'→H l=none→H' l=some (.lst ((ns.take (i-1)++[ns.getD i 0,ns.getD (i-1) 0]++ns.drop (i+1)).map V.int))→Q (.ref l) H'))→zfn K vs H Q E
theorem ok_one_up{f:Addr}{fd:FuncData}(F:Fun K "one_up" "one_up" zgX f fd)(T:Txt K mg):FnOk P w K mg base (CX1 P w) 1 f fd zef (zfn K):=by
 obtain⟨c_AtTop,n_AtTop,m_AtTop,x_AtTop⟩:=T.x_AtTop
 refine F.okX zfE (fun vs H Q E h=>?_) (fun X W cdv A outer s H vs Q E hX hW fl md hr h=>?_)
 ·obtain⟨a,ns,i,rfl,_⟩:=h
  rfl
 ·obtain⟨a,ns,i,rfl,hS,hn,hi,hz,hrg,qE,qQ⟩:=h
  subst hX
  refine⟨_,(zc (zt (i:=2) zfE.nd rfl (Or.inl rfl) (zaf PySem.F.plainAttrs_list PySem.F.slot_list_index PySem.F.type_list_index zfj (pv 0) (za (pv 1) zb)))
   (zc (zx (zm zay (pv 2) zh (zp _)) (ze (wI rfl md rfl m_AtTop x_AtTop (za (pe_fstr (zeh yf (zeh (pe_fmt (pv 1)) (zeh yf pj_nil)))) zb))) zo)
   (zc (zt (i:=3) zfE.nd rfl (Or.inl rfl) (zq zn (pv 0) (zu zhb (pv 2) zh) (fun _ _=>rfl)))
   (ze (zk (zu zaF (zu zaF (yW zaX (pv 0) zal (wt (zu zhb (pv 2) zh))) (ye (za (pv 1) (za (pv 3) zb)))) (yW zaX (pv 0) (wt (zu yt (pv 2) zh)) zal))))))),?_⟩
  have hix:ns.idxOf (ns.getD i 0)=i:=by rw[zeQ hi];exact hn.idxOf_getElem i hi
  have hl:=zr
  have hlog:(ns.getD i 0).natAbs.log2<1920:=by
   have:=hrg _ (wL hi)
   exact(Nat.log2_lt (by omega)).mpr (lt_of_lt_of_le (show(ns.getD i 0).natAbs<2 ^ 10 by omega) (Nat.pow_le_pow_right (by decide) (by decide)))
  refine⟨_,rfl,.inl ⟨rfl,_,hS⟩,_,rfl,a,_,_,rfl,rfl,hS,rfl,zX _,by rw[zbR,hix,length_map];exact hi,?_⟩
  rw[zbR,hix]
  refine⟨_,rfl,rfl,_,rfl,wv (fun h0=>?_) (fun h0=>?_)⟩
  ·have h0:i=0:=by injection h0 with h0;omega
   have hL:=PyProof.Rows.int_text_len_1921 hlog
   have l1:(Str.empty++Str.ofString "couple ").length≤0+7:=zis (by decide) (by decide)
   have l2:=zis l1 hL
   have l3:=zis l2 (show(Str.ofString " is the first one on the card").length≤29 by decide)
   exact⟨_,rfl,le_trans l1 (by decide),_,rfl,.inl ⟨_,rfl,hlog,_,rfl,le_trans l2 (by decide),_,rfl,le_trans l3 (by decide),le_trans l3 (by decide),(by show 1≤sizeLine;decide),by rw[hW];exact qE h0 _ n_AtTop⟩⟩
  ·have h0:0<i:=Nat.pos_of_ne_zero fun z=>h0 (by rw[z];rfl)
   refine⟨_,rfl,_,rfl,_,_,rfl,rfl,a,_,_,_,rfl,rfl,hS,ze4 (by omega) (by omega),?_⟩
   refine⟨_,rfl,_,rfl,_,_,rfl,rfl,_,rfl,a,_,rfl,hS,fun l1 hl1=>?_⟩
   rw[zh4 (by omega),show((i:Int)-1).toNat=i-1 by omega]
   refine⟨_,rfl,_,rfl,(by show 2≤sizeLine;decide),fun l2 hl2=>?_⟩
   have s1:=Same.new (o:=.lst ((ns.take (i-1)).map V.int)) hl1
   have s2:=s1.newT (o:=.lst ([ns.getD i 0,ns.getD (i-1) 0].map V.int)) hl2
   have n12:l1≠l2:=zj zd hl2
   refine⟨l1,l2,_,[ns.getD i 0,ns.getD (i-1) 0].map V.int,rfl,rfl,by rw[zi n12];exact zd,zd,by simp only[length_map,length_take,length_cons,length_nil];omega,fun l3 hl3=>?_⟩
   rw[←map_append]
   have s3:=s2.newT (o:=.lst ((ns.take (i-1)++[ns.getD i 0,ns.getD (i-1) 0]).map V.int)) hl3
   refine⟨_,rfl,_,rfl,_,_,rfl,rfl,_,rfl,a,_,rfl,s3.seq hS,fun l4 hl4=>?_⟩
   rw[zfK (by omega),show((i:Int)+1).toNat=i+1 by omega]
   have s4:=s3.newT (o:=.lst ((ns.drop (i+1)).map V.int)) hl4
   have n34:l3≠l4:=zj zd hl4
   refine⟨l3,l4,_,_,rfl,rfl,by rw[zi n34];exact zd,zd,by simp only[length_map,length_append,length_take,length_drop,length_cons,length_nil];omega,fun l5 hl5=>?_⟩
   rw[←map_append]
   exact qQ h0 l5 _ (s4.newT hl5) (s4.free hl5) zd
inductive zb8 (K:Frag) (vs:List V) (H:Hp) (Q:VK) (E:XK):Prop
 | mk (n:Int):vs=[.int n]→Q (.bl (decide (1≤n) && decide (n≤999))) H→zb8 K vs H Q E
theorem zgF{f:Addr}{fd:FuncData}(F:Fun K "good_number" "good_number" zcE f fd)(T:Txt K mg):FnOk P w K mg base CX0 1 f fd ["couple"] (zb8 K):=by
 refine F.ok zgZ (fun vs H Q E h=>?_) (fun cdv A outer s H vs Q E hr h=>?_)
 ·obtain⟨n,rfl,_⟩:=h
  rfl
 ·obtain⟨n,rfl,q⟩:=h
  refine⟨_,(ze (zk (zg5 zeR zeR zh (pv 0) (zdN T.c_MOST_NUMBER rfl)))),?_⟩
  refine⟨_,rfl,_,_,rfl,rfl,_,rfl,wv (fun h1=>?_) (fun h1=>?_)⟩
  ·rw[decide_eq_true h1,Bool.true_and] at q
   exact⟨_,_,rfl,rfl,q⟩
  ·rw[decide_eq_false h1,Bool.false_and] at q
   exact q
inductive zbo (K:Frag) (vs:List V) (H:Hp) (Q:VK) (E:XK):Prop
 | mk (c:Nat):vs=[.str ⟨#[c]⟩]→Q (.bl (zeb c)) H→zbo K vs H Q E
theorem zf6{f:Addr}{fd:FuncData}(F:Fun K "small_letter" "small_letter" zb1 f fd)(T:Txt K mg):FnOk P w K mg base CX0 1 f fd ["sign"] (zbo K):=by
 refine F.ok zf9 (fun vs H Q E h=>?_) (fun cdv A outer s H vs Q E hr h=>?_)
 ·obtain⟨c,rfl,_⟩:=h
  rfl
 ·obtain⟨c,rfl,q⟩:=h
  refine⟨_,(ze (zk (zg5 zh2 zh2 yf (pv 0) yf))),?_⟩
  unfold zeb at q
  refine⟨_,rfl,_,_,rfl,rfl,_,rfl,?_⟩
  rw[M2.le_a]
  refine wv (fun h1=>?_) (fun h1=>?_)
  ·rw[decide_eq_true h1,Bool.true_and] at q
   refine⟨_,_,rfl,rfl,?_⟩
   rw[M2.le_z]
   exact q
  ·rw[decide_eq_false h1,Bool.false_and] at q
   exact q
inductive wl (K:Frag) (vs:List V) (H:Hp) (Q:VK) (E:XK):Prop
 | mk (x:V) (n:Nat) (m:Int):vs=[x,.int m]→LenV K x H n→Q (.bl (decide (1≤(n:Int)) && decide ((n:Int)≤m))) H→wl K vs H Q E
theorem zgS{f:Addr}{fd:FuncData}(F:Fun K "good_length" "good_length" zcL f fd)(T:Txt K mg):FnOk P w K mg base CX0 1 f fd yM (wl K):=by
 refine F.ok zgp (fun vs H Q E h=>?_) (fun cdv A outer s H vs Q E hr h=>?_)
 ·obtain⟨x,n,m,rfl,_⟩:=h
  rfl
 ·obtain⟨x,n,m,rfl,hx,q⟩:=h
  refine⟨_,(ze (zk (zg5 zeR zeR zh (zB call_len (by rfl) T.b_len PySem.boot_len (za (pv 0) zb)) (pv 1)))),?_⟩
  refine⟨_,rfl,x,n,rfl,hx,_,_,rfl,rfl,_,rfl,wv (fun h1=>?_) (fun h1=>?_)⟩
  ·rw[decide_eq_true h1,Bool.true_and] at q
   exact⟨_,rfl,_,_,rfl,rfl,q⟩
  ·rw[decide_eq_false h1,Bool.false_and] at q
   exact q
inductive zaJ (K:Frag) (vs:List V) (H:Hp) (Q:VK) (E:XK):Prop
 | mk (a:Addr):vs=[.ref a]→(((∃ns:List Int,SqL K H a (ns.map V.int)∧ns.length<4000∧∀H',Same H H'→Q (.bl (decide ns.Nodup)) H')∨∃ts:List Str,SqL K H a (ts.map V.str)∧ts.length<4000∧Q (.bl (decide ts.Nodup)) H))→zaJ K vs H Q E
theorem zhr{f:Addr}{fd:FuncData}(F:Fun K "all_unlike" "all_unlike" zc2 f fd)(T:Txt K mg):FnOk P w K mg base CX0 1 f fd ["things"] (zaJ K):=by
 refine F.ok zhm (fun vs H Q E h=>?_) (fun cdv A outer s H vs Q E hr h=>?_)
 ·obtain⟨a,rfl,_⟩:=h
  rfl
 ·obtain⟨a,rfl,h⟩:=h
  refine⟨_,(ze (zk (zbB zay (pe_both (zB call_len_set (by rfl) T.b_len PySem.boot_len (za (zM (ziK rfl) (by rfl) T.b_set boot_set (za (pv 0) zb)) zb)) (pe_lensetS rfl (by rfl) T.b_len (by rfl) T.b_set (pv 0))) (ya T.b_len (pv 0)) (zp _)))),?_⟩
  rcases h with⟨ns,hS,hz,q⟩|⟨ts,hS,hz,q⟩
  ·refine .inl ⟨_,rfl,a,ns,rfl,hS,hz,fun l hl=>?_⟩
   refine⟨l,_,_,rfl,zd,_,rfl,a,_,rfl,.inl ((Same.new hl).seq hS),rfl,?_⟩
   have e:decide (V.int ((PyProof.Rows.firstMet (fun i=>ns.getD i 0) ns.length).length:Int)=V.int ((ns.map V.int).length:Int))=decide ns.Nodup:=by
    rw[length_map]
    by_cases h:ns.Nodup
    ·rw[decide_eq_true h,(zjX ns).mpr h];exact decide_eq_true rfl
    ·rw[decide_eq_false h]
     refine decide_eq_false fun z=>h ((zjX ns).mp ?_)
     injection z with z
     exact Int.ofNat.inj z
   rw[e]
   exact q _ (Same.new hl)
  ·refine .inr ⟨_,rfl,a,ts,rfl,hS,hz,?_⟩
   refine⟨_,rfl,a,_,rfl,.inl hS,rfl,?_⟩
   have e:decide (V.int ((met (fun i=>ts.getD i "") ts.length).length:Int)=V.int ((ts.map V.str).length:Int))=decide ts.Nodup:=by
    rw[length_map]
    by_cases h:ts.Nodup
    ·rw[decide_eq_true h,(zjx ts "").mpr h];exact decide_eq_true rfl
    ·rw[decide_eq_false h]
     refine decide_eq_false fun z=>h ((zjx ts "").mp ?_)
     injection z with z
     exact Int.ofNat.inj z
   rw[e]
   exact q
inductive zb5 (K:Frag) (vs:List V) (H:Hp) (Q:VK) (E:XK):Prop
 | mk (n:Int):vs=[.int n]→Q (.int (n/2+1)) H→zb5 K vs H Q E
theorem zg9{f:Addr}{fd:FuncData}(F:Fun K "majority_of" "majority_of" zcG f fd)(T:Txt K mg):FnOk P w K mg base CX0 1 f fd ["many"] (zb5 K):=by
 refine F.ok zhd (fun vs H Q E h=>?_) (fun cdv A outer s H vs Q E hr h=>?_)
 ·obtain⟨n,rfl,_⟩:=h
  rfl
 ·obtain⟨n,rfl,q⟩:=h
  refine⟨_,(ze (zk (zu yt (zu zei (pv 0) zh) zh))),?_⟩
  exact⟨_,rfl,_,_,rfl,rfl,⟨by decide,by decide⟩,_,_,rfl,rfl,q⟩
inductive zcm (K:Frag) (vs:List V) (H:Hp) (Q:VK) (E:XK):Prop
 | mk (a:Addr) (ms:List Int) (n:Int):vs=[.ref a,.int n]→SqL K H a (ms.map V.int)→ms.length≤1000→(∀(l:Addr)(H':Hp),Same H H'→H l=none→H' l=some (.lst ((M3.got ms n).map V.int))→Q (.ref l) H')→zcm K vs H Q E
theorem zjO{f:Addr}{fd:FuncData}(F:Fun K "granting" "granting" zda f fd)(T:Txt K mg):FnOk P w K mg base CX0 1 f fd za9 (zcm K):=by
 refine F.ok zjJ (fun vs H Q E h=>?_) (fun cdv A outer s H vs Q E hr h=>?_)
 ·obtain⟨a,ms,n,rfl,_⟩:=h
  rfl
 ·obtain⟨a,ms,n,rfl,hS,hz,q⟩:=h
  refine⟨_,(ze (zk (zQ (show CompScope (zf zda) ["marks","number"] "mark" ["number"] [1] _ from csM) rfl (zw (pv 0)) (fun _ _ _ _ _=>(yZ (zm zeR (pv 0) (pv 1) (zp _)))) (fun _ _ _ _ _=>(pv 0))))),?_⟩
  refine⟨_,rfl,a,rfl,⟨_,hS⟩,?_⟩
  refine yI (xs:=ms.map V.int) (fun i ys H2=>H2=H∧ys=(M3.got (ms.take i) n).map V.int) ⟨rfl,rfl⟩ ?_ (by rw[length_map];have:=zr;omega) ?_ ?_
  ·rintro i ys H2 hi ⟨rfl,rfl⟩
   refine⟨hS,?_⟩
   rw[length_map]
   have:=M3.zc5 (ms.take i) n
   unfold M3.cnt at this
   rw[length_take] at this
   omega
  ·rintro i x ys H2 hx ⟨rfl,rfl⟩
   obtain⟨hi,rfl⟩:=yN hx
   refine⟨_,rfl,_,rfl,_,_,rfl,rfl,_,rfl,wv (fun h=>?_) (fun h=>?_)⟩
   ·refine⟨_,rfl,rfl,?_⟩
    rw[M3.zff n hi,if_pos h,map_append]
    rfl
   ·refine⟨rfl,?_⟩
    rw[M3.zff n hi,if_neg h]
  ·rintro ys H2 ⟨rfl,rfl⟩ l hl
   rw[length_map,take_length]
   exact q l _ (Same.new hl) hl zd
inductive yP (K:Frag) (vs:List V) (H:Hp) (Q:VK) (E:XK):Prop
 | mk (x:_) (b1:_) (b2:_):vs=[x]→isInt x=some b1→isBool x=some b2→Q (.bl (b1 && !b2)) H→yP K vs H Q E
theorem ziN{f:Addr}{fd:FuncData}(F:Fun K "_law_whole" "_law_whole" zd7 f fd)(T:Txt K mg):FnOk P w K mg base CX0 1 f fd yA (yP K):=by
 refine F.ok ziD (fun vs H Q E h=>?_) (fun cdv A outer s H vs Q E hr h=>?_)
 ·obtain⟨x,b1,b2,rfl,_⟩:=h
  rfl
 ·obtain⟨x,b1,b2,rfl,h1,h2,k⟩:=h
  refine⟨_,(ze (zk (zde (zB zil (by rfl) T.b_isinstance boot_isinstance (za (pv 0) (za (wx (v:=V.ty "int") rfl T.b_int boot_int rfl) zb))) (zg4 (pe_not (zB zet (by rfl) T.b_isinstance boot_isinstance (za (pv 0) (za (wx (v:=V.ty "bool") rfl T.b_bool boot_bool rfl) zb)))))))),?_⟩
  refine⟨_,rfl,x,b1,rfl,h1,_,rfl,?_⟩
  cases b1 with
  | false=>exact yT k
  | true=>exact zhB ⟨_,rfl,x,b2,rfl,h2,_,rfl,k⟩
inductive zfv (K:Frag) (vs:List V) (H:Hp) (Q:VK) (E:XK):Prop
 | mk (a:Addr) (ns:List Int) (k:Int):vs=[.ref a,.int k]→SqL K H a (ns.map V.int)→0≤k→Q (.int (ns.getD k.toNat 0)) H→zfv K vs H Q E
theorem ok_law_at{f:Addr}{fd:FuncData}(F:Fun K "_law_at" "_law_at" zgt f fd)(T:Txt K mg):FnOk P w K mg base CX0 1 f fd zej (zfv K):=by
 refine F.ok sc_law_at (fun vs H Q E h=>?_) (fun cdv A outer s H vs Q E hr h=>?_)
 ·obtain⟨a,ns,k,rfl,_⟩:=h
  rfl
 ·obtain⟨a,ns,k,rfl,hS,h0,q⟩:=h
  refine⟨_,(zc (zx (zm op_lt (pv 1) (ya T.b_len (pv 0)) (zp _)) (ze (zk (zq zn (pv 0) (pv 1) (fun _ _=>rfl)))) zo)
   (ze (zk zh))),?_⟩
  refine⟨_,rfl,_,rfl,a,_,rfl,.inl hS,_,_,rfl,rfl,_,rfl,wv (fun hk=>?_) (fun hk=>?_)⟩
  ·rw[length_map] at hk
   exact⟨_,rfl,_,rfl,a,_,k,_,rfl,rfl,hS,ze4 h0 hk,q⟩
  ·rw[length_map] at hk
   show Q (.int 0) H
   rw[getD_eq_getElem?_getD,List.getElem?_eq_none (by omega)] at q
   exact q
inductive zbz (K:Frag) (vs:List V) (H:Hp) (Q:VK) (E:XK):Prop
 | mk (a b:Addr) (ts us:List Str):vs=[.ref a,.ref b]→SqL K H a (ts.map V.str)→SqL K H b (us.map V.str)→us.length≤1000000→Q (.bl (decide (ts=us))) H→zbz K vs H Q E
theorem texts_all{ts us:List Str}(hl:ts.length=us.length)(h:∀j,j<us.length→ts.getD j ""=us.getD j ""):ts=us:=by
 refine ext_getElem hl fun j h1 h2=>?_
 have:=h j h2
 rwa [getD_eq_getElem?_getD,getD_eq_getElem?_getD,getElem?_eq_getElem h1,getElem?_eq_getElem h2] at this
theorem zif{f:Addr}{fd:FuncData}(F:Fun K "_law_texts" "_law_texts" zdI f fd)(T:Txt K mg):FnOk P w K mg base CX0 1 f fd zao (zbz K):=by
 refine F.ok zfk (fun vs H Q E h=>?_) (fun cdv A outer s H vs Q E hr h=>?_)
 ·obtain⟨a,b,ts,us,rfl,_⟩:=h
  rfl
 ·obtain⟨a,b,ts,us,rfl,hA,hB,hz,q⟩:=h
  refine⟨_,(zc (zx (PW.pt (wU (zN (zK (zB wD (by rfl) T.b_isinstance boot_isinstance (za (pv 0) (za (wx (v:=V.ty "list") rfl T.b_list boot_list rfl) zb))))) (wj (zm yG (ya T.b_len (pv 0)) (ya T.b_len (pv 1)) (zp _))))) (ze (zk yj)) zo)
   (zc (ym PassesOwn.never rfl (zW rfl T.b_range (za (ya T.b_len (pv 1)) zb)) (zH (i:=2) zfk.nd rfl (Or.inl rfl))
     (ze (zx (PW.pt (wU (zN (zK (zB zfe (by rfl) T.b_isinstance boot_isinstance (za (zq zn (pv 0) (pv 2) (fun _ _=>rfl)) (za (wx (v:=V.ty "str") rfl T.b_str boot_str rfl) zb))))) (wj (zm yG (zq zn (pv 0) (pv 2) (fun _ _=>rfl)) (zq zn (pv 1) (pv 2) (fun _ _=>rfl)) (zp _))))) (ze (zk yj)) zo)))
   (ze (zk yj)))),?_⟩
  refine⟨_,rfl,_,_,rfl,.yes hA,_,rfl,yT ?_⟩
  refine⟨_,rfl,a,_,rfl,.inl hA,_,rfl,b,_,rfl,.inl hB,rfl,_,rfl,?_⟩
  rw[length_map,length_map]
  refine yk (fun hne=>?_) (fun he=>?_)
  ·show Q (.bl false) H
   have:ts≠us:=fun e=>hne (by rw[e])
   rw[decide_eq_false this] at q
   exact q
  ·have hl:ts.length=us.length:=by injection he with he;exact Int.ofNat.inj he
   refine⟨_,rfl,b,_,rfl,.inl hB,_,rfl,by omega,by rw[length_map];omega,?_⟩
   rw[length_map]
   refine zY (fun i σ H2=>∃v,σ=[some (.ref a),some (.ref b),v]∧H2=H∧∀j,j<i→ts.getD j ""=us.getD j "") ⟨_,rfl,rfl,fun j hj=>by omega⟩ ?_ ?_
   ·rintro i σ H2 hi ⟨v,rfl,rfl,hj⟩
    have hi':i<us.length:=by simpa using hi
    have e1:atI (ts.map V.str) (0+(i:Int))=some (.str (ts.getD i "")):=by rw[Int.zero_add];exact zJ (zaV (by omega))
    have e2:atI (us.map V.str) (0+(i:Int))=some (.str (us.getD i "")):=by rw[Int.zero_add];exact zJ (zaV hi')
    refine⟨_,rfl,_,rfl,a,_,_,_,rfl,rfl,hA,e1,_,_,rfl,rfl,_,rfl,yT ?_⟩
    refine⟨_,rfl,_,rfl,a,_,_,_,rfl,rfl,hA,e1,_,rfl,_,rfl,b,_,_,_,rfl,rfl,hB,e2,rfl,_,rfl,yk (fun hne=>?_) (fun he=>?_)⟩
    ·show Q (.bl false) _
     have:ts≠us:=fun e=>hne (by rw[e])
     rw[decide_eq_false this] at q
     exact q
    ·refine⟨_,rfl,rfl,fun j hj'=>?_⟩
     by_cases hji:j=i
     ·subst hji;injection he
     ·exact hj j (by omega)
   ·rintro σ H2 ⟨v,rfl,rfl,hj⟩
    show Q (.bl true) _
    have:ts=us:=texts_all hl fun j h=>hj j (by simpa using h)
    rw[decide_eq_true this] at q
    exact q
def mixZ(c p:Int):Int:=(c*48271%2147483647+p+1)*69621%2147483647
inductive zez (K:Frag) (vs:List V) (H:Hp) (Q:VK) (E:XK):Prop
 | mk (c:_) (p:_):vs=[.int c,.int p]→Q (.int (mixZ c p)) H→zez K vs H Q E
theorem ok_law_mix{f:Addr}{fd:FuncData}(F:Fun K "_law_mix" "_law_mix" zfr f fd)(T:Txt K mg):FnOk P w K mg base CX0 1 f fd zdv (zez K):=by
 refine F.ok zgz (fun vs H Q E h=>?_) (fun cdv A outer s H vs Q E hr h=>?_)
 ·obtain⟨c,p,rfl,_⟩:=h
  rfl
 ·obtain⟨c,p,rfl,q⟩:=h
  refine⟨_,(zc (zt (i:=2) zgz.nd rfl (Or.inl rfl) (zu wT (zu zdi (pv 0) zh) zh))
   (ze (zk (zu wT (zu zdi (zu yt (zu yt (pv 2) (pv 1)) zh) zh) zh)))),?_⟩
  refine⟨_,rfl,_,_,rfl,rfl,.inr ⟨by decide,by decide⟩,_,_,rfl,rfl,(by show(0:Int)<2147483647;decide),?_⟩
  exact⟨_,rfl,_,rfl,_,_,rfl,rfl,_,_,rfl,rfl,_,_,rfl,rfl,.inr ⟨by decide,by decide⟩,_,_,rfl,rfl,(by show(0:Int)<2147483647;decide),q⟩
inductive zbX (K:Frag) (vs:List V) (H:Hp) (Q:VK) (E:XK):Prop
 | mk (c:_) (m:_):vs=[.int c,.int m]→0≤m→m≤1000→(∀l H',Same H H'→H l=none→H' l=some (.lst ((M1.couples c m.toNat).map V.int))→Q (.ref l) H')→zbX K vs H Q E
theorem zg1{f:Addr}{fd:FuncData}(F:Fun K "_law_couples" "_law_couples" zaW f fd)(T:Txt K mg):FnOk P w K mg base CX0 1 f fd zap (zbX K):=by
 refine F.ok zdW (fun vs H Q E h=>?_) (fun cdv A outer s H vs Q E hr h=>?_)
 ·obtain⟨c,m,rfl,_⟩:=h
  rfl
 ·obtain⟨c,m,rfl,h0,h1,q⟩:=h
  refine⟨_,(zc (zt (i:=2) zdW.nd rfl (Or.inr rfl) (zq zn (ye (za zh (za zh (za zh (za zh zb))))) (zu wT (pv 0) zh) (fun _ _=>rfl)))
   (ze (zk (zQ (show CompScope (zf zaW) zd3 "_law_k" ["_law_cell","_law_gap"] [0,2] _ from csM) rfl (zW rfl T.b_range (za (pv 1) zb)) (fun _ _ _ _ _=>yu) (fun _ _ _ _ _=>(zu yt (zu wT (zu yt (zu zei (pv 1) zh) (zu zdi (pv 0) (pv 2))) zh) zh)))))),?_⟩
  refine⟨by decide,fun p hp=>?_⟩
  have g4:0≤c%4∧c%4<4:=⟨Int.emod_nonneg _ (by decide),Int.emod_lt_of_pos _ (by decide)⟩
  have eg:atI [V.int 1,V.int 7,V.int 500,V.int 998] (c%4)=some (.int (M1.gap c)):=by
   have h:c%4=0∨c%4=1∨c%4=2∨c%4=3:=by omega
   unfold M1.gap
   rcases h with h | h | h | h <;> rw[h] <;> rfl
  refine⟨_,rfl,_,_,rfl,rfl,(by show(0:Int)<4;decide),p,_,_,_,rfl,rfl,SqL.new,eg,?_⟩
  refine⟨_,rfl,m,rfl,by omega,by omega,?_⟩
  refine zcw (fun i ys H2=>H2=upd H p (.lst [V.int 1,V.int 7,V.int 500,V.int 998])∧ys=(M1.couples c i).map V.int) ⟨rfl,rfl⟩ ?_ (le_trans (by omega) zr) ?_ ?_
  ·rintro i ys H2 hi ⟨_,rfl⟩
   rw[length_map,M1.zf2]
   exact le_refl _
  ·rintro i ys H2 hi ⟨rfl,rfl⟩
   refine⟨_,rfl,_,_,rfl,rfl,⟨by decide,by decide⟩,_,rfl,_,rfl,_,_,rfl,rfl,.inl ⟨by omega,by omega⟩,_,_,rfl,rfl,_,_,rfl,rfl,(by show(0:Int)<999;decide),_,_,rfl,rfl,rfl,?_⟩
   rw[M1.ziL,map_append,Int.zero_add]
   rfl
  ·rintro ys H2 ⟨rfl,rfl⟩ l hl
   exact q l _ ((Same.new hp).newT hl) (Same.free (Same.new hp) hl) zd
inductive zcJ (K:Frag) (vs:List V) (H:Hp) (Q:VK) (E:XK):Prop
 | mk (c m:Int):vs=[.int c,.int m]→0≤m→m≤15→(∀(l:Addr)(H':Hp)(ts:List Str),Same H H'→H l=none→H' l=some (.lst (ts.map V.str))→ts.length=m.toNat→ts.Nodup→(∀z∈ts,M2.zfY z=true)→Q (.ref l) H')→zcJ K vs H Q E
theorem abc_at{i:Int}(h0:0≤i)(h1:i<26):atI abc.cps.toList i=some (97+i.toNat):=by
 have:∀k:Fin 26,abc.cps.toList[k.val]? = some (97+k.val):=by decide +kernel
 have:=zJ (this ⟨i.toNat,by omega⟩)
 rwa [show((i.toNat:Nat):Int)=i by omega] at this
theorem zhD{f:Addr}{fd:FuncData}(F:Fun K "_law_judges" "_law_judges" zbr f fd)(T:Txt K mg):FnOk P w K mg base CX0 1 f fd zaQ (zcJ K):=by
 refine F.ok wK (fun vs H Q E h=>?_) (fun cdv A outer s H vs Q E hr h=>?_)
 ·obtain⟨c,m,rfl,_⟩:=h
  rfl
 ·obtain⟨c,m,rfl,m0,m1,q⟩:=h
  refine⟨_,(zc (zt (i:=2) wK.nd rfl (Or.inr rfl) yf)
   (zc (zt (i:=3) wK.nd rfl (Or.inl rfl) (zu wT (pv 0) zh))
   (zc (zt (i:=4) wK.nd rfl (Or.inl rfl) (zu wT (zu zei (pv 0) zh) (zu yt (pv 3) zh)))
   (zc (zt (i:=5) wK.nd rfl (Or.inr rfl) (ye (za (yW sl_str yf zal (wt (pv 4))) (za (yW sl_str yf (wt (pv 4)) (wt (pv 3))) zb))))
   (ze (zk (zQ (show CompScope (zf zbr) zeu "_law_k" ["_law_cell","_law_letters","_law_ends"] [0,2,5] _ from csM) rfl (zW rfl T.b_range (za (pv 1) zb)) (fun _ _ _ _ _=>yu) (fun _ _ _ _ _=>(zu zdd (zu zdd (zq (zau (K:=K) rfl) (pv 3) zh (fun _ _=>rfl)) (zq ix_str (pv 2) (zu wT (zu yt (zu zei (pv 1) zh) (zu zdi zh (pv 0))) zh) (fun _ _=>rfl))) (zq (zau (K:=K) rfl) (pv 3) zh (fun _ _=>rfl))))))))))),?_⟩
  have hln:=zr
  have z0:0≤c%8:=Int.emod_nonneg _ (by decide)
  have z1:c%8<8:=Int.emod_lt_of_pos _ (by decide)
  refine⟨_,rfl,_,_,rfl,rfl,(by show(0:Int)<8;decide),?_⟩
  dsimp only
  generalize c%8=size at z0 z1 ⊢
  have p0:0≤c/8%(size+1):=Int.emod_nonneg _ (by omega)
  have p1:c/8%(size+1)<size+1:=Int.emod_lt_of_pos _ (by omega)
  refine⟨_,rfl,_,_,rfl,rfl,⟨by decide,by decide⟩,_,rfl,_,_,rfl,rfl,_,_,rfl,rfl,(by show 0<size+1;omega),?_⟩
  dsimp only
  generalize c/8%(size+1)=spot at p0 p1 ⊢
  have he:=M10.ends_ok ⟨size.toNat,by omega⟩ ⟨spot.toNat,by omega⟩ (by show spot.toNat≤size.toNat;omega)
  dsimp only at he
  rw[show((spot.toNat:Nat):Int)=spot by omega,show((size.toNat:Nat):Int)=size by omega] at he
  refine⟨_,rfl,_,rfl,_,rfl,(by show 7≤sizeLine;decide),_,rfl,_,rfl,_,rfl,_,rfl,_,rfl,(by show 7≤sizeLine;decide),(by show 2≤sizeLine;decide),fun p3 hp3=>?_⟩
  generalize PySem.Txt.slice "vwxyzab" none (some spot)=e0 at he ⊢
  generalize PySem.Txt.slice "vwxyzab" (some spot) (some size)=e1 at he ⊢
  obtain⟨hl,h0,h1⟩:=he
  have s3:=Same.new (o:=.lst [.str e0,.str e1]) hp3
  have q3:=SqL.new (K:=K) (H:=H) (l:=p3) (xs:=[.str e0,.str e1])
  generalize hH3:upd H p3 _=H3 at s3 q3 ⊢
  refine⟨_,rfl,m,rfl,by omega,by omega,?_⟩
  refine zcw (fun i ys H4=>H4=H3∧ys=(M10.zdx e0 e1 (c/64) i).map V.str) ⟨rfl,rfl⟩ ?_ (by omega) ?_ ?_
  ·rintro i ys H4 hi ⟨rfl,rfl⟩
   rw[length_map,M10.zgy]
   omega
  ·rintro i ys H4 hi ⟨rfl,rfl⟩
   have i0:=Int.emod_nonneg (c/64+11*(0+(i:Int))) (show(26:Int)≠0 by decide)
   have i1:=Int.emod_lt_of_pos (c/64+11*(0+(i:Int))) (show(0:Int)<26 by decide)
   refine⟨_,rfl,p3,_,_,_,rfl,rfl,q3,rfl,_,rfl,_,rfl,_,_,rfl,rfl,⟨by decide,by decide⟩,_,rfl,_,_,rfl,rfl,.inl ⟨by decide,by decide⟩,_,_,rfl,rfl,_,_,rfl,rfl,(by show(0:Int)<26;decide),abc,_,_,rfl,rfl,(by decide),abc_at i0 i1,_,_,rfl,rfl,(by show e0.length+1≤sizeLine;omega),_,rfl,p3,_,_,_,rfl,rfl,q3,rfl,_,_,rfl,rfl,(by rw[yR];show e0.length+1+e1.length≤sizeLine;omega),rfl,?_⟩
   rw[M10.zj7,map_append,Int.zero_add]
   rfl
  ·rintro ys H4 ⟨rfl,rfl⟩ l hl'
   refine q l _ _ (s3.newT hl') (s3.free hl') zd (M10.zgy _ _ _ _) (M10.ziU _ _ _ (by omega)) fun z hz=>?_
   unfold M10.zdx at hz
   obtain⟨k,_,rfl⟩:=List.mem_map.mp hz
   exact M10.nameK_good _ _ hl h0 h1
inductive zan (K:Frag) (vs:List V) (H:Hp) (Q:VK) (E:XK):Prop
 | mk (a:Addr) (cs:List (List Int)) (c:Int):vs=[.ref a,.int c]→Refs K (IL K) H a cs→cs.length≤1000→((∀d∈cs,c∈d))→(∀(l:Addr)(H':Hp),Same H H'→H l=none→H' l=some (.lst ((M5.zl cs c).map V.int))→Q (.ref l) H')→zan K vs H Q E
theorem ziI{f:Addr}{fd:FuncData}(F:Fun K "_law_marks" "_law_marks" zcr f fd)(T:Txt K mg):FnOk P w K mg base CX0 1 f fd wu (zan K):=by
 refine F.ok zij (fun vs H Q E h=>?_) (fun cdv A outer s H vs Q E hr h=>?_)
 ·obtain⟨a,cs,c,rfl,_⟩:=h
  rfl
 ·obtain⟨a,cs,c,rfl,⟨ls,hS,hR⟩,hz,hm,q⟩:=h
  refine⟨_,(ze (zk (zQ (show CompScope (zf zcr) ["_law_cards","_law_couple"] "_law_card_here" ["_law_couple"] [1] _ from csM) rfl (zw (pv 0)) (fun _ _ _ _ _=>yu) (fun _ _ _ _ _=>(zu yt (pe_bmK (K:=K) rfl PySem.F.plainAttrs_list PySem.F.slot_list_index PySem.F.type_list_index (mt_indexK (K:=K) rfl) (pv 0) (za (pv 1) zb)) zh))))),?_⟩
  have hl:=hR.length
  refine⟨_,rfl,a,rfl,⟨_,hS⟩,?_⟩
  refine yc (xs:=ls.map V.ref) (fun i ys H2=>H2=H∧ys=(M5.zl (cs.take i) c).map V.int) ⟨rfl,rfl⟩ ?_ (by rw[length_map];have:=zr;omega) ?_ ?_
  ·rintro i ys H2 hi ⟨rfl,rfl⟩
   refine⟨hS,?_⟩
   rw[length_map,M5.zV,length_take]
   omega
  ·rintro i x ys H2 hx ⟨rfl,rfl⟩
   obtain⟨l,el,rfl⟩:=wF hx
   obtain⟨d,ed,rd⟩:=hR.getL el
   have hmem:=hm d (mem_of_getElem? ed)
   refine⟨_,rfl,.inl ⟨rfl,_,rd⟩,_,rfl,l,_,_,rfl,rfl,rd,rfl,zX _,?_⟩
   rw[zbR,length_map]
   refine⟨List.idxOf_lt_length_of_mem hmem,_,_,rfl,rfl,rfl,?_⟩
   rw[take_succ,ed]
   unfold M5.zl
   rw[map_append,map_append]
   rfl
  ·rintro ys H2 ⟨rfl,rfl⟩ l hl'
   rw[length_map,hl,take_length]
   exact q l _ (Same.new hl') hl' zd
inductive zeI (K:Frag) (vs:List V) (H:Hp) (Q:VK) (E:XK):Prop
 | mk (a:Addr) (ms:List Int) (n:Int):vs=[.ref a,.int n]→SqL K H a (ms.map V.int)→ms.length≤1000→0≤n→n≤1000→(∀(l:Addr)(H':Hp),Same H H'→H l=none→H' l=some (.lst ((M5.key ms n.toNat).map V.int))→Q (.ref l) H')→zeI K vs H Q E
theorem eqL_nil(ns:List Int):eqL (ns.map V.int) []=decide (ns=[]):=by cases ns <;> rfl
theorem ok_law_key{f:Addr}{fd:FuncData}(F:Fun K "_law_key" "_law_key" zek f fd)(T:Txt K mg):FnOk P w K mg base CX0 1 f fd zdh (zeI K):=by
 refine F.ok zdn (fun vs H Q E h=>?_) (fun cdv A outer s H vs Q E hr h=>?_)
 ·obtain⟨a,ms,n,rfl,_⟩:=h
  rfl
 ·obtain⟨a,ms,n,rfl,hS,hz,n0,n1,q⟩:=h
  refine⟨_,(zc (zt (i:=2) zdn.nd rfl (Or.inl rfl) (ye zb))
   (zc (ym PassesOwn.never rfl (zaE rfl T.b_range (za zh (za (zu yt (pv 1) zh) zb))) (zH (i:=3) zdn.nd rfl (Or.inr rfl))
     (zc (yV (i:=4) (show CompScope (zf zek) zgL "_law_mark" ["_law_number"] [3] _ from csM) rfl zdn.nd rfl (Or.inl rfl) (zw (pv 0)) (fun _ _ _ _ _=>(yZ (zm zeR (pv 0) (pv 1) (zp _)))) (fun _ _ _ _ _=>(pv 0)))
   (zc (zcP (zx (PW.pt (ziB (zm (zhl hr.units0) (pv 2) (ye zb) (zp _)) (zgj (zm zgU (zu zdi zh (ya T.b_len (pv 4))) (ya T.b_len (pv 0)) (zp _))))) (ze (zC (zaf PySem.F.plainAttrs_list PySem.F.slot_list_append PySem.F.type_list_append yz (pv 2) (za (pv 3) zb)))) zo))
   (ze (zcP (zx (zm (zdy hr.units0) (pv 2) (ye zb) (zp _)) (zc (zC (zaf PySem.F.plainAttrs_list PySem.F.slot_list_append PySem.F.type_list_append yz (pv 2) (za (zdU zbP (ya T.b_len (pv 4))) zb)))
   (ze (zC (zaf PySem.F.plainAttrs_list PySem.F.slot_list_append PySem.F.type_list_append yz (pv 2) (za (zB (zed rfl) (by rfl) T.b_sum boot_sum (za (pv 4) zb)) zb))))) zo))))))
   (ze (zk (pv 2))))),?_⟩
  have hln:=zr
  refine⟨by decide,fun p0 hp0=>?_⟩
  refine⟨_,rfl,_,_,rfl,rfl,_,_,rfl,⟨by decide,by decide,by omega,by omega⟩,?_⟩
  refine zY (fun i σ H2=>∃(v3 v4:Option V),σ=[some (.ref a),some (.int n),some (.ref p0),v3,v4]∧Same H H2∧H2 p0=some (.lst ((M5.key ms i).map V.int))) ⟨_,_,rfl,Same.new hp0,zd⟩ ?_ ?_
  ·rintro i σ H2 hi ⟨v3,v4,rfl,s2,e2⟩
   have hi:i<1000:=by omega
   have hkl:=M5.key_len ms i
   have hS2:=s2.seq hS
   refine⟨_,rfl,a,rfl,⟨_,hS2⟩,?_⟩
   refine zeV (ms:=ms) (n:=1+(i:Int)) hS2 (by omega) (fun x R h=>⟨_,rfl,_,rfl,_,_,rfl,rfl,_,rfl,h⟩) (fun x R h=>⟨_,rfl,h⟩) ?_
   intro l3 hl3
   have en:(1:Int)+(i:Int)=(i:Int)+1:=by omega
   rw[en]
   have hgl:(M3.got ms ((i:Int)+1)).length≤ms.length:=M3.zc5 ms _
   have hkey:M5.key ms (i+1)=(fun a:List Int=>if a=[] then [] else a++[-((M3.got ms ((i:Int)+1)).length:Int),(M3.got ms ((i:Int)+1)).sum]) (if M5.key ms i=[]∧ms.length<2*(M3.got ms ((i:Int)+1)).length then [(i:Int)+1] else M5.key ms i):=rfl
   generalize M3.got ms ((i:Int)+1)=g at hgl hkey ⊢
   generalize M5.key ms i=ks at hkl hkey e2 ⊢
   generalize hH3:upd H2 l3 _=H3
   have s3:Same H H3:=by rw[←hH3];exact s2.newT hl3
   have n03:p0≠l3:=zj e2 hl3
   have e3:H3 p0=some (.lst (ks.map V.int)):=by rw[←hH3,zi n03];exact e2
   have t3:H3 l3=some (.lst (g.map V.int)):=by rw[←hH3];exact zd
   have f3:H l3=none:=s2.free hl3
   refine⟨fun σ' H'=>σ'=[some (.ref a),some (.int n),some (.ref p0),some (.int ((i:Int)+1)),some (.ref l3)]∧Same H H'∧H' l3=some (.lst (g.map V.int))∧H' p0=some (.lst ((if ks=[]∧ms.length<2*g.length then [(i:Int)+1] else ks).map V.int)),?_,?_⟩
   ·refine⟨_,rfl,by decide,fun p4 hp4=>?_⟩
    have s4:=s3.newT (o:=.lst []) hp4
    have n04:p0≠p4:=zj e3 hp4
    have n34:l3≠p4:=zj t3 hp4
    refine⟨p0,p4,_,_,rfl,rfl,SqL.of (by rw[zi n04];exact e3),SqL.new,zX _,rfl,_,rfl,?_⟩
    rw[eqL_nil]
    refine wv (fun hk=>?_) (fun hk=>yT ⟨rfl,s4,by rw[zi n34];exact t3,by rw[zi n04,if_neg (fun z=>hk z.1)];exact e3⟩)
    refine⟨_,rfl,l3,_,rfl,.inl (SqL.of (by rw[zi n34];exact t3)),_,_,rfl,rfl,.inl ⟨by decide,by decide⟩,_,rfl,a,_,rfl,.inl (s4.seq hS),_,_,rfl,rfl,_,rfl,?_⟩
    rw[length_map,length_map]
    refine wv (fun h2=>?_) (fun h2=>⟨rfl,s4,by rw[zi n34];exact t3,by rw[zi n04,if_neg (fun z=>h2 (by omega))];exact e3⟩)
    refine⟨_,rfl,.inl ⟨rfl,_,SqL.of (by rw[zi n04];exact e3)⟩,_,rfl,p0,_,_,rfl,rfl,(by rw[zi n04];exact e3),(by rw[length_map];omega),?_⟩
    refine⟨rfl,s4.put hp0,by rw[zi (Ne.symm n03),zi n34];exact t3,?_⟩
    rw[lst_app,if_pos ⟨hk,by omega⟩,hk]
    rfl
   rintro σ' H5 ⟨rfl,s5,t5,e5⟩
   have hal:(if ks=[]∧ms.length<2*g.length then [(i:Int)+1] else ks).length≤1+2*i:=by
    split
    ·rw[length_cons,length_nil];omega
    ·exact hkl
   generalize (if ks=[]∧ms.length<2*g.length then [(i:Int)+1] else ks)=as at e5 hkey hal
   refine⟨fun σ' H'=>σ'=[some (.ref a),some (.int n),some (.ref p0),some (.int ((i:Int)+1)),some (.ref l3)]∧Same H H'∧H' p0=some (.lst ((if as=[] then [] else as++[-(g.length:Int),g.sum]).map V.int)),?_,?_⟩
   ·refine⟨_,rfl,by decide,fun p4 hp4=>?_⟩
    have s4:=s5.newT (o:=.lst []) hp4
    have n04:p0≠p4:=zj e5 hp4
    have n34:l3≠p4:=zj t5 hp4
    refine⟨p0,p4,_,_,rfl,rfl,SqL.of (by rw[zi n04];exact e5),SqL.new,zX _,rfl,_,rfl,?_⟩
    rw[eqL_nil]
    refine yk (fun hk=>?_) (fun hk=>⟨rfl,s4,by rw[zi n04,if_pos hk];rw[hk] at e5;exact e5⟩)
    refine⟨_,rfl,.inl ⟨rfl,_,SqL.of (by rw[zi n04];exact e5)⟩,_,rfl,l3,_,rfl,.inl (SqL.of (by rw[zi n34];exact t5)),_,rfl,p0,_,_,rfl,rfl,(by rw[zi n04];exact e5),(by rw[length_map];omega),?_⟩
    rw[length_map]
    refine⟨_,rfl,.inl ⟨rfl,_,SqL.of zd⟩,_,rfl,l3,g,rfl,SqL.of (by rw[zi (Ne.symm n03),zi n34];exact t5),p0,_,_,rfl,rfl,zd,(by rw[length_append,length_map,length_cons,length_nil];omega),?_⟩
    refine⟨rfl,(s4.put hp0).put hp0,?_⟩
    rw[zd,if_neg hk,map_append,append_assoc]
    rfl
   rintro σ' H6 ⟨rfl,s6,e6⟩
   exact⟨_,_,rfl,s6,by rw[hkey];exact e6⟩
  ·rintro σ H2 ⟨v3,v4,rfl,s2,e2⟩
   have e:(n+1-1).toNat=n.toNat:=by omega
   rw[e] at e2
   exact⟨_,rfl,q p0 _ s2 hp0 e2⟩
inductive zci (K:Frag) (vs:List V) (H:Hp) (Q:VK) (E:XK):Prop
 | mk (a b:Addr) (ps us:List Int):vs=[.ref a,.ref b]→SqL K H a (ps.map V.int)→SqL K H b (us.map V.int)→ps.length=us.length→us.length≤500→(∀(l:Addr)(H':Hp)(ls:List Addr),Same H H'→H l=none→H' l=some (.lst (ls.map V.ref))→All2 (TPl K H') ls (M5.rows ps us)→Q (.ref l) H')→zci K vs H Q E
theorem zi1{ps us:List Int}{j:Nat}(h1:j<ps.length)(h2:j<us.length):(ps.zip us).take (j+1)=(ps.zip us).take j++[(ps.getD j 0,us.getD j 0)]:=by
 have e:(ps.zip us)[j]? = some (ps.getD j 0,us.getD j 0):=by
  rw[getElem?_eq_getElem (by rw[length_zip];omega),List.getElem_zip,zeQ h1,zeQ h2]
 rw[take_succ,e]
 rfl
theorem zka{f:Addr}{fd:FuncData}(F:Fun K "_law_rows" "_law_rows" zeK f fd)(T:Txt K mg):FnOk P w K mg base CX0 1 f fd zbb (zci K):=by
 refine F.ok zcA (fun vs H Q E h=>?_) (fun cdv A outer s H vs Q E hr h=>?_)
 ·obtain⟨a,b,ps,us,rfl,_⟩:=h
  rfl
 ·obtain⟨a,b,ps,us,rfl,hA,hB,hl,hz,q⟩:=h
  refine⟨_,(zc (zt (i:=2) zcA.nd rfl (Or.inl rfl) (ye zb))
   (zc (ym PassesOwn.never rfl (zaE rfl T.b_range (za zh (za (zu yt (ya T.b_len (pv 1)) zh) zb))) (zH (i:=3) zcA.nd rfl (Or.inl rfl))
     (ze (ym PassesOwn.never rfl (zW rfl T.b_range (za (ya T.b_len (pv 1)) zb)) (zH (i:=4) zcA.nd rfl (Or.inl rfl))
     (ze (zx (zm zay (zq zn (pv 0) (pv 4) (fun _ _=>rfl)) (pv 3) (zp _)) (ze (zC (zaf PySem.F.plainAttrs_list PySem.F.slot_list_append PySem.F.type_list_append yz (pv 2) (za (zb9 (za (pv 3) (za (zq zn (pv 1) (pv 4) (fun _ _=>rfl)) zb))) zb)))) zo)))))
   (ze (zk (pv 2))))),?_⟩
  have hln:=zr
  let F:=fun(i:Nat)=>(ps.zip us).filter fun p=>decide (p.1=(i:Int)+1)
  have hF:∀i,(F i).length≤us.length:=fun i=>by
   have:=length_filter_le (fun p=>decide (p.1=(i:Int)+1)) (ps.zip us)
   rw[length_zip] at this
   show(filter _ _).length≤_
   omega
  have hR:∀i,((List.range i).flatMap F).length≤i*us.length:=fun i=>by
   induction i with
   | zero=>simp
   | succ i ih =>
     rw[range_succ,flatMap_append,length_append]
     have e:flatMap F [i]=F i:=by simp
     rw[e,Nat.succ_mul]
     have:=hF i
     omega
  refine⟨by decide,fun p0 hp0=>?_⟩
  refine⟨_,rfl,b,_,rfl,.inl ((Same.new hp0).seq hB),_,_,rfl,rfl,_,_,rfl,⟨by decide,by decide,by rw[length_map];omega,by rw[length_map];omega⟩,?_⟩
  refine zY (fun i σ H2=>∃(v3 v4:Option V)(ls:List Addr),σ=[some (.ref a),some (.ref b),some (.ref p0),v3,v4]∧Same H H2∧H2 p0=some (.lst (ls.map V.ref))∧All2 (TPl K H2) ls ((List.range i).flatMap F)) ⟨_,_,[],rfl,Same.new hp0,zd,.nil⟩ ?_ ?_
  ·rintro i σ H2 hi ⟨v3,v4,ls,rfl,s2,e2,r2⟩
   have hi:i<us.length:=by rw[length_map] at hi;omega
   have hri:=hR i
   have hmul:i*us.length≤500*500:=mul_le_mul (by omega) hz
   refine⟨_,rfl,b,_,rfl,.inl (s2.seq hB),_,rfl,by omega,by rw[length_map];omega,?_⟩
   refine zY (fun j σ H3=>∃(v4:Option V)(ls:List Addr),σ=[some (.ref a),some (.ref b),some (.ref p0),some (.int (1+(i:Int))),v4]∧Same H H3∧H3 p0=some (.lst (ls.map V.ref))∧All2 (TPl K H3) ls ((List.range i).flatMap F++(((ps.zip us).take j).filter fun p=>decide (p.1=(i:Int)+1)))) ⟨_,ls,rfl,s2,e2,by rw[take_zero,filter_nil,append_nil];exact r2⟩ ?_ ?_
   ·rintro j σ H3 hj ⟨v4,ls,rfl,s3,e3,r3⟩
    have hj:j<us.length:=by rw[length_map] at hj;omega
    have hjp:j<ps.length:=by omega
    have e1:atI (ps.map V.int) (0+(j:Int))=some (.int (ps.getD j 0)):=by rw[Int.zero_add];exact zJ (y8 hjp)
    have e4:atI (us.map V.int) (0+(j:Int))=some (.int (us.getD j 0)):=by rw[Int.zero_add];exact zJ (y8 hj)
    have hlen:=r3.length
    rw[length_append] at hlen
    have hfl:=length_filter_le (fun p=>decide (p.1=(i:Int)+1)) ((ps.zip us).take j)
    rw[length_take] at hfl
    refine⟨_,rfl,_,rfl,a,_,_,_,rfl,rfl,s3.seq hA,e1,_,rfl,rfl,_,rfl,wv (fun h=>?_) (fun h=>?_)⟩
    ·have h:ps.getD j 0=(i:Int)+1:=by injection h with h;omega
     refine⟨_,rfl,.inl ⟨rfl,_,SqL.of e3⟩,_,rfl,_,rfl,_,rfl,b,_,_,_,rfl,rfl,s3.seq hB,e4,(by show 2≤sizeLine;decide),fun p5 hp5=>?_⟩
     have n05:p0≠p5:=zj e3 hp5
     refine⟨p0,_,_,rfl,rfl,(by rw[zi n05];exact e3),(by rw[length_map];omega),?_⟩
     refine⟨_,ls++[p5],rfl,(s3.newT hp5).put hp0,zg3 ls p5,?_⟩
     rw[zi1 hjp hj,filter_append,filter_cons_of_pos (by simpa using h),filter_nil,←append_assoc]
     refine All2.snoc (TPl.put (r3.imp fun _ _=>TPl.stays K _ _ _ _ (Same.new hp5)) (by rw[zi n05];exact e3)) ?_
     refine SqT.put (ys:=ls.map V.ref) ?_ (by rw[zi n05];exact e3)
     show SqT K _ p5 [.int (ps.getD j 0),.int (us.getD j 0)]
     rw[h,Int.add_comm]
     exact SqT.new
    ·have h:¬ps.getD j 0=(i:Int)+1:=fun z=>h (by rw[z,Int.add_comm])
     refine⟨_,ls,rfl,s3,e3,?_⟩
     rw[zi1 hjp hj,filter_append,filter_cons_of_neg (by simpa using h),filter_nil,append_nil]
     exact r3
   ·rintro σ H3 ⟨v4,ls,rfl,s3,e3,r3⟩
    refine⟨_,_,ls,rfl,s3,e3,?_⟩
    rw[range_succ,flatMap_append]
    have e:flatMap F [i]=F i:=by simp
    have et:(ps.zip us).take ((us.map V.int).length:Int).toNat=ps.zip us:=take_of_length_le (by rw[length_zip,length_map];omega)
    rw[et] at r3
    rw[e]
    exact r3
  ·rintro σ H2 ⟨v3,v4,ls,rfl,s2,e2,r2⟩
   have e:(((us.map V.int).length:Int)+1-1).toNat=us.length:=by rw[length_map];omega
   rw[e] at r2
   exact⟨_,rfl,q p0 _ ls s2 hp0 e2 r2⟩
inductive zdR (K:Frag) (vs:List V) (H:Hp) (Q:VK) (E:XK):Prop
 | mk (a b:Addr) (ms us:List Int) (n:Nat):vs=[.ref a,.ref b,.int n]→SqL K H a (ms.map V.int)→SqL K H b (us.map V.int)→ms.length=us.length→ms.length≤1000→n≤1000→((M6.yL ms us n none→∀H',Same H H'→Q .non H'))→((∀r,M6.yL ms us n (some r)→∀(l:Addr)(H':Hp),Same H H'→SqT K H' l [.int (r.1:Nat),.str r.2]→Q (.ref l) H'))→zdR K vs H Q E
theorem zi3{f:Addr}{fd:FuncData}(F:Fun K "_law_part" "_law_part" zbO f fd)(T:Txt K mg):FnOk P w K mg base CX0 1 f fd zcp (zdR K):=by
 refine F.ok zco (fun vs H Q E h=>?_) (fun cdv A outer s H vs Q E hr h=>?_)
 ·obtain⟨a,b,ms,us,n,rfl,_⟩:=h
  rfl
 ·obtain⟨a,b,ms,us,n,rfl,hA,hB,hl,hz,hn,qn,qs⟩:=h
  refine⟨_,(zc (ym PassesOwn.never rfl (zaE rfl T.b_range (za zh (za (zu yt (pv 2) zh) zb))) (zH (i:=3) zco.nd rfl (Or.inr rfl))
   (zc (yV (i:=4) (show CompScope (zf zbO) zdP "_law_mark" ["_law_number"] [3] _ from csM) rfl zco.nd rfl (Or.inl rfl) (zw (pv 0)) (fun _ _ _ _ _=>(yZ (zm zeR (pv 0) (pv 1) (zp _)))) (fun _ _ _ _ _=>(pv 0)))
   (zc (yV (i:=5) (show CompScope (zf zbO) zdP "_law_mark" ["_law_number"] [3] _ from csM) rfl zco.nd rfl (Or.inl rfl) (zw (pv 1)) (fun _ _ _ _ _=>(yZ (zm zeR (pv 0) (pv 1) (zp _)))) (fun _ _ _ _ _=>(pv 0)))
   (zc (zcP (zx (zm yG (zbB zgU (zu zdi zh (ya T.b_len (pv 4))) (ya T.b_len (pv 0)) (zp _)) (zbB zgU (zu zdi zh (ya T.b_len (pv 5))) (ya T.b_len (pv 0)) (zp _)) (zp _)) (ze (zk (zb9 (za (pv 3) (za yf zb))))) zo))
   (zc (zcP (zx (PW.pt (ziB (zm zgU (zu zdi zh (ya T.b_len (pv 4))) (ya T.b_len (pv 0)) (zp _)) (zgj (zm yG (ya T.b_len (pv 4)) (ya T.b_len (pv 5)) (zp _))))) (ze (zk (zb9 (za (pv 3) (za yf zb))))) zo))
   (ze (zx (PW.pt (ziB (zm zgU (zu zdi zh (ya T.b_len (pv 4))) (ya T.b_len (pv 0)) (zp _)) (zgj (zm yG (zB (zed rfl) (by rfl) T.b_sum boot_sum (za (pv 4) zb)) (zB (zed rfl) (by rfl) T.b_sum boot_sum (za (pv 5) zb)) (zp _))))) (ze (zk (zb9 (za (pv 3) (za yf zb))))) zo)))))))
   (ze (zk zfm))),?_⟩
  have hln:=zr
  refine⟨_,rfl,_,_,rfl,rfl,_,_,rfl,⟨by decide,by decide,by omega,by omega⟩,?_⟩
  refine zY (fun i σ H2=>∃(v3 v4 v5:Option V),σ=[some (.ref a),some (.ref b),some (.int n),v3,v4,v5]∧Same H H2∧∀j:Nat,1≤j→j≤i→M6.sg ms j=M6.sg us j) ⟨_,_,_,rfl,Same.refl _,fun j h1 h2=>by omega⟩ ?_ ?_
  ·rintro i σ H2 hi ⟨v3,v4,v5,rfl,s2,hj⟩
   have hi:i<n:=by omega
   refine⟨_,rfl,a,rfl,⟨_,s2.seq hA⟩,?_⟩
   refine zeV (ms:=ms) (n:=1+(i:Int)) (s2.seq hA) (by omega) (fun x R h=>⟨_,rfl,_,rfl,_,_,rfl,rfl,_,rfl,h⟩) (fun x R h=>⟨_,rfl,h⟩) ?_
   intro l3 hl3
   have s3:=s2.newT (o:=.lst ((M3.got ms (1+(i:Int))).map V.int)) hl3
   refine⟨_,rfl,b,rfl,⟨_,s3.seq hB⟩,?_⟩
   refine zeV (ms:=us) (n:=1+(i:Int)) (s3.seq hB) (by omega) (fun x R h=>⟨_,rfl,_,rfl,_,_,rfl,rfl,_,rfl,h⟩) (fun x R h=>⟨_,rfl,h⟩) ?_
   intro l4 hl4
   have en:(1:Int)+(i:Int)=((i+1:Nat):Int):=by omega
   have n34:l3≠l4:=zj zd hl4
   generalize hH4:upd (upd H2 l3 _) l4 _=H4
   have s4:Same H H4:=by rw[←hH4];exact s3.newT hl4
   have t3:H4 l3=some (.lst ((M3.got ms (1+(i:Int))).map V.int)):=by rw[←hH4,zi n34];exact zd
   have t4:H4 l4=some (.lst ((M3.got us (1+(i:Int))).map V.int)):=by rw[←hH4];exact zd
   rw[en] at t3 t4 ⊢
   have c3:(M3.got ms ((i+1:Nat):Int)).length=M3.cnt ms ((i+1:Nat):Int):=rfl
   have c4:(M3.got us ((i+1:Nat):Int)).length=M3.cnt us ((i+1:Nat):Int):=rfl
   have m3:(M3.got ms ((i+1:Nat):Int)).sum=M3.sm ms ((i+1:Nat):Int):=rfl
   have m4:(M3.got us ((i+1:Nat):Int)).sum=M3.sm us ((i+1:Nat):Int):=rfl
   have told:∀(w:Str),M6.sg ms ((i+1:Nat):Int)≠M6.sg us ((i+1:Nat):Int)→w=M6.word (M6.sg ms ((i+1:Nat):Int)) (M6.sg us ((i+1:Nat):Int))→∀(H5:Hp),Same H H5→∀p,H5 p=none→Q (.ref p) (upd H5 p (.tup [.int ((i+1:Nat):Int),.str w])):=fun w hne hw H5 s5 p hp =>
    qs (i+1,w) ⟨Nat.succ_le_succ (zero_le _),hi,fun j h1 h2=>hj j h1 (Nat.le_of_lt_succ h2),hne,hw⟩ p _ (s5.newT hp) SqT.new
   generalize hk:((i+1:Nat):Int)=k at *
   have q3:=SqL.of (K:=K) t3
   have q4:=SqL.of (K:=K) t4
   have g1:(M3.got ms k).length=M3.cnt ms k:=rfl
   have g2:(M3.got us k).length=M3.cnt us k:=rfl
   refine⟨fun σ' H'=>σ'=[some (.ref a),some (.ref b),some (.int n),some (.int k),some (.ref l3),some (.ref l4)]∧H'=H4∧(us.length<2*M3.cnt us k↔ms.length<2*M3.cnt ms k),?_,?_⟩
   ·refine⟨_,rfl,l3,_,rfl,.inl q3,_,_,rfl,rfl,.inl ⟨by decide,by decide⟩,_,rfl,a,_,rfl,.inl (s4.seq hA),_,_,rfl,rfl,_,rfl,l4,_,rfl,.inl q4,_,_,rfl,rfl,.inl ⟨by decide,by decide⟩,_,rfl,a,_,rfl,.inl (s4.seq hA),_,_,rfl,rfl,rfl,_,rfl,?_⟩
    rw[length_map,length_map,length_map,g1,g2]
    refine yk (fun hne=>?_) (fun he=>?_)
    ·have hne2:¬(ms.length<2*M3.cnt ms k↔us.length<2*M3.cnt us k):=fun z=>hne (by
      show V.bl (decide ((ms.length:Int)<2*(M3.cnt ms k:Int)))=V.bl (decide ((ms.length:Int)<2*(M3.cnt us k:Int)))
      rw[decide_eq_decide.mpr (show(ms.length:Int)<2*(M3.cnt ms k:Int)↔(ms.length:Int)<2*(M3.cnt us k:Int)by omega)])
     refine⟨_,rfl,(by show 2≤sizeLine;decide),told "half" (fun z=>hne2 ?_) ?_ H4 s4⟩
     ·by_cases c1:ms.length<2*M3.cnt ms k
      ·by_cases c2:us.length<2*M3.cnt us k
       ·exact⟨fun _=>c2,fun _=>c1⟩
       ·rw[M6.yU c1,M6.zch (by omega)] at z;cases z
      ·by_cases c2:us.length<2*M3.cnt us k
       ·rw[M6.zch (by omega),M6.yU c2] at z;cases z
       ·exact⟨fun z=>absurd z c1,fun z=>absurd z c2⟩
     ·by_cases c1:ms.length<2*M3.cnt ms k
      ·by_cases c2:us.length<2*M3.cnt us k
       ·exact absurd ⟨fun _=>c2,fun _=>c1⟩ hne2
       ·rw[M6.yU c1,M6.zch (by omega)];rfl
      ·rw[M6.zch (show 2*M3.cnt ms k≤ms.length by omega)];rfl
    ·refine⟨rfl,rfl,?_⟩
     injection he with he
     have:=decide_eq_decide.mp he
     omega
   rintro σ' H' ⟨rfl,rfl,hov⟩
   refine⟨fun σ' H''=>σ'=[some (.ref a),some (.ref b),some (.int n),some (.int k),some (.ref l3),some (.ref l4)]∧H''=H'∧(ms.length<2*M3.cnt ms k→M3.cnt ms k=M3.cnt us k),?_,?_⟩
   ·refine⟨_,rfl,l3,_,rfl,.inl q3,_,_,rfl,rfl,.inl ⟨by decide,by decide⟩,_,rfl,a,_,rfl,.inl (s4.seq hA),_,_,rfl,rfl,_,rfl,?_⟩
    rw[length_map,length_map,g1]
    refine wv (fun h1=>?_) (fun h1=>yT ⟨rfl,rfl,fun z=>absurd (show(ms.length:Int)<2*(M3.cnt ms k:Int)by omega) h1⟩)
    refine⟨_,rfl,l3,_,rfl,.inl q3,_,rfl,l4,_,rfl,.inl q4,rfl,_,rfl,?_⟩
    rw[length_map,length_map,g1,g2]
    refine yk (fun hne=>?_) (fun he=>⟨rfl,rfl,fun _=>by injection he with he;omega⟩)
    have c1:ms.length<2*M3.cnt ms k:=by omega
    have hne':¬M3.cnt ms k=M3.cnt us k:=fun z=>hne (by rw[z])
    refine⟨_,rfl,(by show 2≤sizeLine;decide),told "count" (fun z=>hne' ?_) ?_ _ s4⟩
    ·rw[M6.yU c1,M6.yU (hov.mpr c1)] at z
     injection z with z
     have:=(Prod.mk.inj z).1
     omega
    ·rw[M6.yU c1,M6.yU (hov.mpr c1)]
     show _=if((M3.cnt ms k:Nat):Int)=(M3.cnt us k:Nat)then _ else _
     rw[if_neg (by omega)]
   rintro σ' H'' ⟨rfl,rfl,hcn⟩
   refine⟨_,rfl,l3,_,rfl,.inl q3,_,_,rfl,rfl,.inl ⟨by decide,by decide⟩,_,rfl,a,_,rfl,.inl (s4.seq hA),_,_,rfl,rfl,_,rfl,?_⟩
   rw[length_map,length_map,g1]
   have same:M6.sg ms k=M6.sg us k→∀j:Nat,1≤j→j≤i+1→M6.sg ms j=M6.sg us j:=fun e j h1 h2=>by
    by_cases c:j≤i
    ·exact hj j h1 c
    ·have:j=i+1:=by omega
     subst this
     rw[hk]
     exact e
   refine wv (fun h1=>?_) (fun h1=>yT ⟨_,_,_,rfl,s4,same ?_⟩)
   ·have c1:ms.length<2*M3.cnt ms k:=by omega
    refine⟨_,rfl,l3,_,rfl,q3,_,rfl,l4,_,rfl,q4,rfl,_,rfl,yk (fun hne=>?_) (fun he=>⟨_,_,_,rfl,s4,same ?_⟩)⟩
    ·have hne':¬M3.sm ms k=M3.sm us k:=fun z=>hne (by show V.int (M3.sm ms k)=V.int (M3.sm us k);rw[z])
     refine⟨_,rfl,(by show 2≤sizeLine;decide),told "sum" (fun z=>hne' ?_) ?_ _ s4⟩
     ·rw[M6.yU c1,M6.yU (hov.mpr c1)] at z
      injection z with z
      exact(Prod.mk.inj z).2
     ·rw[M6.yU c1,M6.yU (hov.mpr c1)]
      show _=if((M3.cnt ms k:Nat):Int)=(M3.cnt us k:Nat)then _ else _
      rw[if_pos (by rw[hcn c1])]
    ·injection he with he
     have he:M3.sm ms k=M3.sm us k:=he
     rw[M6.yU c1,M6.yU (hov.mpr c1),hcn c1,he]
   ·rw[M6.zch (by omega),M6.zch (by omega)]
  ·rintro σ H2 ⟨v3,v4,v5,rfl,s2,hj⟩
   have e:((n:Int)+1-1).toNat=n:=by omega
   rw[e] at hj
   exact qn (fun k h1 h2=>hj k h1 h2) _ s2
inductive zb3 (K:Frag) (vs:List V) (H:Hp) (Q:VK) (E:XK):Prop
 | mk (a:Addr) (ns:List Int) (c:Int):vs=[.ref a,.int c]→SqL K H a (ns.map V.int)→ns.length≤1000→(∀(l:Addr)(H':Hp),Same H H'→H l=none→H' l=some (.lst ((ns.filter fun o => !decide (o=c)).map V.int))→Q (.ref l) H')→zb3 K vs H Q E
theorem zg6{f:Addr}{fd:FuncData}(F:Fun K "_law_without" "_law_without" zaM f fd)(T:Txt K mg):FnOk P w K mg base CX0 1 f fd zat (zb3 K):=by
 refine F.ok zgY (fun vs H Q E h=>?_) (fun cdv A outer s H vs Q E hr h=>?_)
 ·obtain⟨a,ns,c,rfl,_⟩:=h
  rfl
 ·obtain⟨a,ns,c,rfl,hS,hz,q⟩:=h
  refine⟨_,(ze (zk (zQ (show CompScope (zf zaM) zd1 "_law_other" ["_law_couple"] [1] _ from csM) rfl (zw (pv 0)) (fun _ _ _ _ _=>(yZ (zm yG (pv 0) (pv 1) (zp _)))) (fun _ _ _ _ _=>(pv 0))))),?_⟩
  refine⟨_,rfl,a,rfl,⟨_,hS⟩,?_⟩
  refine yI (xs:=ns.map V.int) (fun i ys H2=>H2=H∧ys=((ns.take i).filter fun o => !decide (o=c)).map V.int) ⟨rfl,rfl⟩ ?_ (by rw[length_map];have:=zr;omega) ?_ ?_
  ·rintro i ys H2 hi ⟨rfl,rfl⟩
   refine⟨hS,?_⟩
   rw[length_map]
   have:=length_filter_le (fun o => !decide (o=c)) (ns.take i)
   rw[length_take] at this
   omega
  ·rintro i x ys H2 hx ⟨rfl,rfl⟩
   obtain⟨hi,rfl⟩:=yN hx
   refine⟨_,rfl,_,rfl,rfl,_,rfl,yk (fun h=>?_) (fun h=>?_)⟩
   ·have h:¬ns.getD i 0=c:=fun z=>h (by rw[z])
    refine⟨_,rfl,rfl,?_⟩
    rw[yy hi,filter_append,filter_cons_of_pos (by simpa using h),map_append]
    rfl
   ·have h:ns.getD i 0=c:=by injection h
    refine⟨rfl,?_⟩
    rw[yy hi,filter_append,filter_cons_of_neg (by simpa using h),filter_nil,append_nil]
  ·rintro ys H2 ⟨rfl,rfl⟩ l hl
   rw[length_map,take_length]
   exact q l _ (Same.new hl) hl zd
inductive zc9 (K:Frag) (vs:List V) (H:Hp) (Q:VK) (E:XK):Prop
 | mk (a:Addr) (xs:List V) (ws:List Str):vs=[.ref a]→SqL K H a xs→All2 WordOf xs ws→ws.length≤200→((∀w∈ws,w.length≤2000))→(∀H',Same H H'→Q (.str (Txt.join M6.blank ws)) H')→zc9 K vs H Q E
theorem ziP{f:Addr}{fd:FuncData}(F:Fun K "_law_words" "_law_words" zcg f fd)(T:Txt K mg):FnOk P w K mg base CX0 1 f fd zbC (zc9 K):=by
 refine F.ok ziF (fun vs H Q E h=>?_) (fun cdv A outer s H vs Q E hr h=>?_)
 ·obtain⟨a,xs,ws,rfl,_⟩:=h
  rfl
 ·obtain⟨a,xs,ws,rfl,hA,hW,hl,hw,q⟩:=h
  refine⟨_,(ze (zk (zaf PySem.F.plainAttrs_str PySem.F.slot_str_join PySem.F.type_str_join ms_join yf (za (zQ (show CompScope (zf zcg) ["_law_things"] "_law_thing" [] [] _ from csM) rfl (zw (pv 0)) (fun _ _ _ _ _=>yu) (fun _ _ _ _ _=>(zM zcZ (by rfl) T.b_str boot_str (za (pv 0) zb)))) zb)))),?_⟩
  have hln:=zr
  have hxl:=hW.length
  refine⟨rfl,_,rfl,a,rfl,⟨_,hA⟩,?_⟩
  refine yc (xs:=xs) (fun i ys H2=>H2=H∧ys=(ws.take i).map V.str) ⟨rfl,rfl⟩ ?_ (by omega) ?_ ?_
  ·rintro i ys H2 hi ⟨rfl,rfl⟩
   exact⟨hA,by rw[length_map,length_take];omega⟩
  ·rintro i x ys H2 hx ⟨rfl,rfl⟩
   obtain⟨w,ew,rw'⟩:=hW.getL hx
   have e:(ws.take (i+1)).map V.str=(ws.take i).map V.str++[.str w]:=by rw[take_succ,ew,map_append];rfl
   cases rw' with
   | int hb=>exact⟨_,rfl,.inl ⟨_,rfl,zdM hb,rfl,e.symm⟩⟩
   | str=>exact⟨_,rfl,.inr ⟨_,rfl,rfl,e.symm⟩⟩
  rintro ys H2 ⟨rfl,rfl⟩ l hl'
  rw[hxl,take_length]
  refine⟨_,l,ws,rfl,rfl,SqL.new,by decide +kernel,hl,hw,?_⟩
  exact q _ (Same.new hl')
inductive zcO (K:Frag) (vs:List V) (H:Hp) (Q:VK) (E:XK):Prop
 | mk (a:Addr) (ms:List Int) (n:Nat):vs=[.ref a,.int n]→SqL K H a (ms.map V.int)→ms.length≤15→((∀x∈ms,1≤x∧x≤24))→n≤24→(∀(l:Addr)(H':Hp),Same H H'→H l=none→H' l=some (.lst ((M6.zdF ms n).map V.str))→Q (.ref l) H')→zcO K vs H Q E
theorem zhx{f:Addr}{fd:FuncData}(F:Fun K "_law_ladder" "_law_ladder" zby f fd)(T:Txt K mg):FnOk P w K mg base CX0 1 f fd za0 (zcO K):=by
 refine F.ok zaU (fun vs H Q E h=>?_) (fun cdv A outer s H vs Q E hr h=>?_)
 ·obtain⟨a,ms,n,rfl,_⟩:=h
  rfl
 ·obtain⟨a,ms,n,rfl,hA,hz,hx,hn,q⟩:=h
  refine⟨_,(zc (zt (i:=2) zaU.nd rfl (Or.inl rfl) (ye zb))
   (zc (ym PassesOwn.never rfl (zaE rfl T.b_range (za zh (za (zu yt (pv 1) zh) zb))) (zH (i:=3) zaU.nd rfl (Or.inr rfl))
     (zc (yV (i:=4) (show CompScope (zf zby) zel "_law_mark" ["_law_number"] [3] _ from csM) rfl zaU.nd rfl (Or.inl rfl) (zw (pv 0)) (fun _ _ _ _ _=>(yZ (zm zeR (pv 0) (pv 1) (zp _)))) (fun _ _ _ _ _=>(pv 0)))
   (ze (zC (zaf PySem.F.plainAttrs_list PySem.F.slot_list_append PySem.F.type_list_append yz (pv 2) (za (zu zdd (zu zdd (zM zcZ (by rfl) T.b_str boot_str (za (ya T.b_len (pv 4)) zb)) yf) (zM zcZ (by rfl) T.b_str boot_str (za (zB (zed rfl) (by rfl) T.b_sum boot_sum (za (pv 4) zb)) zb))) zb))))))
   (ze (zk (pv 2))))),?_⟩
  have hln:=zr
  refine⟨(by show 0≤sizeLine;decide),fun l hl=>?_⟩
  have s1:=Same.new (o:=.lst []) hl
  have e1:upd H l (.lst []) l=some (.lst ((M6.zdF ms 0).map V.str)):=zd
  generalize hH1:upd H l _=H1 at s1 e1 ⊢
  refine⟨_,rfl,_,_,rfl,rfl,_,_,rfl,⟨by decide,by decide,by omega,by omega⟩,?_⟩
  rw[show((n:Int)+1-1).toNat=n by omega]
  refine zY (fun i σ H2=>∃v w,σ=[some (.ref a),some (.int n),some (.ref l),v,w]∧Same H H2∧H2 l=some (.lst ((M6.zdF ms i).map V.str))) ⟨_,_,rfl,s1,e1⟩ ?_ ?_
  ·rintro i σ H2 hi ⟨v,w,rfl,s2,e2⟩
   refine⟨_,rfl,a,rfl,⟨_,s2.seq hA⟩,?_⟩
   refine zeV (ms:=ms) (n:=1+(i:Int)) (s2.seq hA) (by omega) (fun x R h=>⟨_,rfl,_,rfl,_,_,rfl,rfl,_,rfl,h⟩) (fun x R h=>⟨_,rfl,h⟩) ?_
   intro l3 hl3
   have s3:=s2.newT (o:=.lst ((M3.got ms (1+(i:Int))).map V.int)) hl3
   have e3:=(Same.new (o:=.lst ((M3.got ms (1+(i:Int))).map V.int)) hl3) _ _ e2
   have g3:SqL K (upd H2 l3 (.lst ((M3.got ms (1+(i:Int))).map V.int))) l3 ((M3.got ms (1+(i:Int))).map V.int):=SqL.new
   generalize hH3:upd H2 l3 _=H3 at s3 e3 g3 ⊢
   have hc:=M3.zc5 ms (1+(i:Int))
   have hs:0≤M3.sm ms (1+(i:Int))∧M3.sm ms (1+(i:Int))≤24*ms.length:=M6.zgw hx _
   have hsl:=M6.zfI hz hx (1+(i:Int))
   have hll:(M6.zdF ms i).length=i:=by unfold M6.zdF;rw[length_map,M6.zc4]
   refine⟨_,rfl,.inl ⟨rfl,_,SqL.of e3⟩,_,rfl,l3,_,rfl,.inl g3,.inl ⟨_,rfl,?_,_,_,rfl,rfl,?_,_,rfl,l3,_,rfl,g3,.inl ⟨_,rfl,?_,_,_,rfl,rfl,?_,?_⟩⟩⟩
   ·rw[length_map];exact zdM (by show((M3.cnt ms (1+(i:Int)):Nat):Int).natAbs≤100000;omega)
   ·rw[length_map]
    show(tN ((M3.cnt ms (1+(i:Int)):Nat):Int)).length+M6.sl.length≤sizeLine
    rw[M6.ziW];omega
   ·exact zdM (by show(M3.sm ms (1+(i:Int))).natAbs≤100000;omega)
   ·rw[length_map]
    show(tN ((M3.cnt ms (1+(i:Int)):Nat):Int)++M6.sl).length+(tN (M3.sm ms (1+(i:Int)))).length≤sizeLine
    rw[yR,M6.ziW];omega
   ·rw[length_map]
    refine⟨l,_,_,rfl,rfl,e3,by rw[length_map,hll];omega,_,_,rfl,s3.put hl,?_⟩
    rw[zd,M6.zhZ,map_append,show(i:Int)+1=1+(i:Int)by omega]
    rfl
  ·rintro σ H2 ⟨v,w,rfl,s2,e2⟩
   exact⟨_,rfl,q l H2 s2 hl e2⟩
inductive zbu (K:Frag) (vs:List V) (H:Hp) (Q:VK) (E:XK):Prop
 | mk (r:Addr) (xs:List V) (kind:Int):vs=[.ref r,.int kind]→H r=some (.lst xs)→xs.length≤1000→(∀H',Spo H r xs.length H'→Q .non H')→zbu K vs H Q E
theorem ziQ{f:Addr}{fd:FuncData}(F:Fun K "_law_spoil" "_law_spoil" zd0 f fd)(T:Txt K mg):FnOk P w K mg base CX0 1 f fd zaj (zbu K):=by
 refine F.ok zfg (fun vs H Q E h=>?_) (fun cdv A outer s H vs Q E hr h=>?_)
 ·obtain⟨r,xs,kind,rfl,_⟩:=h
  rfl
 ·obtain⟨r,xs,kind,rfl,hx,hz,q⟩:=h
  refine⟨_,(zc (zcP (zx (zm zay (pv 1) zh (zp _)) (ze (ym PassesOwn.never rfl (zW rfl T.b_range (za (ya T.b_len (pv 0)) zb)) (zH (i:=2) zfg.nd rfl (Or.inl rfl))
   (ze (ps_asg zh (pg_sub (pv 0) (pv 2) set_list))))) zo))
   (zc (zcP (zx (zm zay (pv 1) zh (zp _)) (ze (zC (zaf PySem.F.plainAttrs_list PySem.F.slot_list_append PySem.F.type_list_append yz (pv 0) (za zh zb)))) zo))
   (ze (zcP (zx (zm zay (pv 1) zh (zp _)) (ze (zC (pe_bm0 PySem.F.plainAttrs_list PySem.F.slot_list_clear PySem.F.type_list_clear mt_clear (pv 0)))) zo))))),?_⟩
  have hln:=zr
  refine⟨fun σ H'=>∃(v:Option V)(zs:List V),σ=[some (.ref r),some (.int kind),v]∧(∀b,b≠r→H' b=H b)∧H' r=some (.lst zs)∧zs.length=xs.length,?_,?_⟩
  ·refine⟨_,rfl,rfl,_,rfl,wv (fun _=>?_) (fun _=>⟨_,xs,rfl,fun _ _=>rfl,hx,rfl⟩)⟩
   refine⟨_,rfl,r,_,rfl,.inl (SqL.of hx),_,rfl,by omega,by omega,?_⟩
   rw[show((xs.length:Nat):Int).toNat=xs.length by omega]
   refine zY (fun i σ H'=>∃(v:Option V)(zs:List V),σ=[some (.ref r),some (.int kind),v]∧(∀b,b≠r→H' b=H b)∧H' r=some (.lst zs)∧zs.length=xs.length) ⟨_,xs,rfl,fun _ _=>rfl,hx,rfl⟩ ?_ ?_
   ·rintro i σ H' hi ⟨v,zs,rfl,k1,k2,k3⟩
    rw[Int.zero_add]
    refine⟨_,rfl,_,rfl,r,zs,(i:Int),i,rfl,rfl,k2,ixN_ok (by omega) (by show i<zs.length;omega),?_⟩
    exact⟨_,_,rfl,fun b hb=>by rw[zi hb];exact k1 b hb,zd,by rw[List.length_set];exact k3⟩
   ·rintro σ H' ⟨v,zs,rfl,k1,k2,k3⟩
    exact⟨_,zs,rfl,k1,k2,k3⟩
  rintro σ H1 ⟨v,zs,rfl,k1,k2,k3⟩
  refine⟨fun σ H'=>∃(v:Option V)(zs:List V),σ=[some (.ref r),some (.int kind),v]∧(∀b,b≠r→H' b=H b)∧H' r=some (.lst zs)∧zs.length≤xs.length+1,?_,?_⟩
  ·refine⟨_,rfl,rfl,_,rfl,wv (fun _=>?_) (fun _=>⟨_,zs,rfl,k1,k2,by omega⟩)⟩
   refine⟨_,rfl,.inl ⟨rfl,_,SqL.of k2⟩,r,zs,_,rfl,rfl,k2,by omega,?_⟩
   exact⟨_,_,rfl,fun b hb=>by rw[zi hb];exact k1 b hb,zd,by rw[length_append,length_singleton];omega⟩
  clear k1 k2 k3
  rintro σ H2 ⟨v,zs,rfl,k1,k2,k3⟩
  refine⟨fun σ H'=>(∀b,b≠r→H' b=H b)∧∃zs,H' r=some (.lst zs)∧zs.length≤xs.length+1,?_,?_⟩
  ·refine⟨_,rfl,rfl,_,rfl,wv (fun _=>?_) (fun _=>⟨k1,zs,k2,k3⟩)⟩
   refine⟨_,rfl,.inl ⟨rfl,_,SqL.of k2⟩,r,zs,rfl,rfl,k2,?_⟩
   exact⟨fun b hb=>by rw[zi hb];exact k1 b hb,_,zd,zero_le _⟩
  rintro σ H3 ⟨k1,k2⟩
  exact q _ ⟨k1,k2⟩
inductive zaC (K:Frag) (vs:List V) (H:Hp) (Q:VK) (E:XK):Prop
 | mk (p:Addr) (F:Addr→Prop) (S:Sh) (j:Str) (a:Addr) (ns:List Int):vs=[.ref p,.str j,.ref a]→SheetAt K H p F S→SqL K H a (ns.map V.int)→ns.length<64→((∀c,S.refuse j ns=some c→∀C H',zdr K c C→Same H H'→E (.ref C) none H'))→((S.refuse j ns=none→∀H' F',SheetAt K H' p F' (S.hand j ns)→Deed F H F' H'→Q .non H'))→zaC K vs H Q E
theorem zfz{f:Addr}{fd:FuncData}(F:Fun K "hand_in" "Sheet.hand_in" zbm f fd)(T:Txt K mg)(c0S:Can P w K mg base 1 "whole_card" zaI (zcC K))(c0v:CanMX P w K mg base 1 (zE K "Sheet") "refuse_if_sealed" ["self"] (yi K))(c0w:CanMX P w K mg base 1 (zE K "Sheet") "refuse_unknown_judge" zG (zU K)):FnOk P w K mg base (CX1 P w) 2 f fd wB (zaC K):=by
 obtain⟨c_BadCard,n_BadCard,m_BadCard,x_BadCard⟩:=T.x_BadCard
 obtain⟨c_TooManyCards,n_TooManyCards,m_TooManyCards,x_TooManyCards⟩:=T.x_TooManyCards
 refine F.okX zft (fun vs H Q E h=>?_) (fun X W cdv A outer s H vs Q E hX hW fl md hr h=>?_)
 ·obtain⟨p,F,S,j,a,ns,rfl,_⟩:=h
  rfl
 ·obtain⟨p,F,S,j,a,ns,rfl,hSh,hA,hz,qE,q⟩:=h
  obtain⟨dx,a1,a2,a3,d,kvs,h⟩:=id hSh
  subst hX
  refine⟨_,(zc (zC (zhS c0v T.cl_Sheet fl (hM hr) (pv 0)))
   (zc (zC (wg c0w T.cl_Sheet fl (hM hr) (pv 0) (za (pv 1) zb)))
   (zc (zx (zN (zK (zg c0S (hM hr) rfl (za (pv 2) (za (yF (pv 0) rfl) zb))))) (ze (wI rfl md rfl m_BadCard x_BadCard (za yf zb))) zo)
   (zc (zx (zm op_ge (yF (pv 0) rfl) (zdN T.c_MOST_CARDS rfl) (zp _)) (ze (wI rfl md rfl m_TooManyCards x_TooManyCards (za yf zb))) zo)
   (zc (ps_dput (zhX hr) (yF (pv 0) rfl) (pv 1) (zM zP (by rfl) T.b_list boot_list (za (pv 2) zb)) rfl)
   (ze (zd5 (pv 0) (zu yt (yF (pv 0) rfl) zh) rfl))))))),?_⟩
  have hln:=zr
  have h24:=h.ok.c24
  refine⟨_,rfl,p,dx,_,rfl,h.ip,rfl,p,F,S,rfl,hSh,(fun hs C hC=>?_),fun hs=>?_⟩
  ·rw[hW]
   exact qE "SheetSealed" (by unfold Sh.refuse;rw[if_pos hs]) C _ hC (Same.refl _)
  refine⟨_,rfl,p,dx,_,rfl,h.ip,rfl,_,rfl,p,F,S,j,rfl,hSh,(fun hj C hC=>?_),fun hj=>?_⟩
  ·rw[hW]
   exact qE "UnknownJudge" (by unfold Sh.refuse;rw[if_neg (by rw[hs];exact Bool.false_ne_true),if_neg hj]) C _ hC (Same.refl _)
  refine⟨_,rfl,_,rfl,p,_,dx,_,_,rfl,h.ip,T.cl_Sheet,T.n_Sheet_standing,rfl,a,a1,ns,S.couples,rfl,hA,SqL.of h.i1,hz,by omega,fun H2 s2=>⟨_,rfl,?_⟩⟩
  refine yk (fun hp=>?_) (fun hp=>?_)
  ·refine⟨(by show 1≤sizeLine;decide),?_⟩
   rw[hW]
   exact qE "BadCard" (by unfold Sh.refuse;rw[if_neg (by rw[hs];exact Bool.false_ne_true),if_pos hj,if_neg hp]) _ _ n_BadCard s2
  have ip:=s2 _ _ h.ip
  have i1:=s2 _ _ h.i1
  have i2:=s2 _ _ h.i2
  have i3:=s2 _ _ h.i3
  have i4:=s2 _ _ h.i4
  refine⟨_,rfl,p,_,dx,_,_,rfl,ip,T.cl_Sheet,T.n_Sheet_taken_so_far,rfl,_,_,rfl,rfl,_,rfl,wv (fun ht=>?_) (fun ht=>?_)⟩
  ·refine⟨(by show 1≤sizeLine;decide),?_⟩
   rw[hW]
   exact qE "TooManyCards" (by unfold Sh.refuse;rw[if_neg (by rw[hs];exact Bool.false_ne_true),if_pos hj,if_pos hp,if_pos (by omega)]) _ _ n_TooManyCards s2
  have hn:S.refuse j ns=none:=by unfold Sh.refuse;rw[if_neg (by rw[hs];exact Bool.false_ne_true),if_pos hj,if_pos hp,if_neg (by omega)]
  have hk:=h.kl
  have ht2:=h.ok.t200
  refine⟨_,rfl,a,_,rfl,.inl (s2.seq hA),fun l hl=>?_⟩
  have kp:∀b o,H2 b=some o→upd H2 l (.lst (ns.map V.int)) b=some o:=fun b o e=>Same.new hl b o e
  refine⟨_,rfl,p,_,dx,_,_,rfl,kp _ _ ip,T.cl_Sheet,T.n_Sheet_card_by_judge,rfl,_,rfl,d,_,rfl,DPut.k (k:=Sum.inr j) (kp _ _ i4) (by omega),?_⟩
  have n1:a1≠p:=we i1 ip (by intro z;cases z)
  have n2:a2≠p:=we i2 ip (by intro z;cases z)
  have n3:a3≠p:=we i3 ip (by intro z;cases z)
  have n4:d≠p:=we i4 ip (by intro z;cases z)
  have m1:a1≠d:=we i1 i4 (by intro z;cases z)
  have m2:a2≠d:=we i2 i4 (by intro z;cases z)
  have m3:a3≠d:=we i3 i4 (by intro z;cases z)
  have lp:l≠p:=fun z=>by rw[z,ip] at hl;cases hl
  have ld:l≠d:=fun z=>by rw[z,i4] at hl;cases hl
  have l2:l≠a2:=fun z=>by rw[z,i2] at hl;cases hl
  have ip':upd (upd H2 l (.lst (ns.map V.int))) d (.dK (zcD kvs (Sum.inr j) (.ref l))) p=some (.ins (zE K "Sheet") dx (shF a1 a2 a3 d S)):=by rw[zi (Ne.symm n4)];exact kp _ _ ip
  refine⟨_,rfl,p,_,dx,_,_,rfl,ip',T.cl_Sheet,T.n_Sheet_taken_so_far,rfl,_,_,rfl,rfl,?_⟩
  refine⟨_,rfl,p,_,dx,_,rfl,ip',T.cl_Sheet,T.n_Sheet_taken_so_far,(by show 6<1000;decide),?_⟩
  have et:(V.int ((S.taken:Int)+1))=.int ((S.hand j ns).taken:Nat):=by show V.int _=V.int ((S.taken+1:Nat):Int);congr 1
  show _
  dsimp only
  rw[et,pf_taken a1 a2 a3 d S (S.hand j ns) rfl]
  obtain⟨ok',_⟩:=h.ok.hand hn
  have up:∀b o,H2 b=some o→b≠p→b≠d→upd (upd (upd H2 l (.lst (ns.map V.int))) d (.dK (zcD kvs (Sum.inr j) (.ref l)))) p (.ins (zE K "Sheet") dx (shF a1 a2 a3 d (S.hand j ns))) b=some o:=fun b o e nb nd=>by rw[zi nb,zi nd];exact kp b o e
  have el:upd (upd (upd H2 l (.lst (ns.map V.int))) d (.dK (zcD kvs (Sum.inr j) (.ref l)))) p (.ins (zE K "Sheet") dx (shF a1 a2 a3 d (S.hand j ns))) l=some (.lst (ns.map V.int)):=by rw[zi lp,zi ld];exact zd
  refine q hn _ (fun b=>F b∨b=l) ⟨dx,a1,a2,a3,d,zcD kvs (Sum.inr j) (.ref l),⟨⟨zd,up _ _ i1 n1 m1,up _ _ i2 n2 m2,up _ _ i3 n3 m3,by rw[zi n4];exact zd,?_,fun k hk'=>?_,fun k c hc=>?_,.inl h.fp,.inl h.f1,.inl h.f2,.inl h.f3,.inl h.f4,h.n12,h.n32,fun b hb=>?_⟩,ok'⟩⟩ fun b o e n=>⟨up b o (s2 _ _ e) (fun z=>n (z ▸ h.fp)) (fun z=>n (z ▸ h.f4)),?_⟩
  ·have:=zdQ kvs (Sum.inr j) (.ref l)
   show _≤S.taken+1
   omega
  ·have hk':(if k=j then some ns else S.card k)=none:=hk'
   rw[ze8]
   by_cases ek:k=j
   ·rw[if_pos ek] at hk';cases hk'
   ·rw[if_neg ek] at hk'
    rw[if_neg (fun z=>ek (by injection z))]
    exact h.cn k hk'
  ·have hc:(if k=j then some ns else S.card k)=some c:=hc
   rw[ze8]
   by_cases ek:k=j
   ·rw[if_pos ek] at hc
    cases hc
    rw[if_pos (by rw[ek])]
    exact⟨l,rfl,el,.inr rfl,l2⟩
   ·rw[if_neg ek] at hc
    rw[if_neg (fun z=>ek (by injection z))]
    obtain⟨l',x1,x2,x3,x4⟩:=h.cs k c hc
    exact⟨l',x1,up _ _ (s2 _ _ x2) (we x2 h.ip (by intro z;cases z)) (we x2 h.i4 (by intro z;cases z)),.inl x3,x4⟩
  ·by_cases hbp:b=p
   ·rw[hbp,zd];exact fun z=>nomatch z
   rw[zi hbp]
   by_cases hbd:b=d
   ·rw[hbd,zd];exact fun z=>nomatch z
   rw[zi hbd]
   rcases hb with hb | hb
   ·have:=h.fh b hb
    cases e:H b with
    | none=>exact absurd e this
    | some o=>rw[kp _ _ (s2 _ _ e)];exact fun z=>nomatch z
   ·rw[hb,zd];exact fun z=>nomatch z
  ·rintro (z | z)
   ·exact n z
   ·have:=s2 _ _ e
    rw[z,hl] at this
    cases this
inductive zbl (K:Frag) (vs:List V) (H:Hp) (Q:VK) (E:XK):Prop
 | mk (p:Addr) (F:Addr→Prop) (S:Sh) (c:Int):vs=[.ref p,.int c]→SheetAt K H p F S→((∀x,S.refuseS c=some x→∀C,zdr K x C→E (.ref C) none H))→((S.refuseS c=none→∀H' F',SheetAt K H' p F' (S.strike c)→Deed F H F' H'→Q .non H'))→zbl K vs H Q E
theorem zgi{f:Addr}{fd:FuncData}(F:Fun K "strike" "Sheet.strike" zca f fd)(T:Txt K mg)(c0K:Can P w K mg base 1 "without_couple" y7 (zaw K))(c0a:CanM P w K mg base 1 (zE K "Sheet") "handed" zI (zO K))(c0v:CanMX P w K mg base 1 (zE K "Sheet") "refuse_if_sealed" ["self"] (yi K)):FnOk P w K mg base (CX1 P w) 2 f fd wQ (zbl K):=by
 obtain⟨c_UnknownCouple,n_UnknownCouple,m_UnknownCouple,x_UnknownCouple⟩:=T.x_UnknownCouple
 obtain⟨c_LastCouple,n_LastCouple,m_LastCouple,x_LastCouple⟩:=T.x_LastCouple
 refine F.okX zdz (fun vs H Q E h=>?_) (fun X W cdv A outer s H vs Q E hX hW fl md hr h=>?_)
 ·obtain⟨p,F,S,c,rfl,_⟩:=h
  rfl
 ·obtain⟨p,F,S,c,rfl,hSh,qE,q⟩:=h
  obtain⟨dx,a1,a2,a3,d,kvs,h⟩:=id hSh
  subst hX
  refine⟨_,(zc (zC (zhS c0v T.cl_Sheet fl (hM hr) (pv 0)))
   (zc (zx (zm zdc (pv 1) (yF (pv 0) rfl) (by first | exact zp _ | rfl)) (ze (wI rfl md rfl m_UnknownCouple x_UnknownCouple (za yf zb))) zo)
   (zc (zx (zm zay (ya T.b_len (yF (pv 0) rfl)) zh (zp _)) (ze (wI rfl md rfl m_LastCouple x_LastCouple (za yf zb))) zo)
   (zc (zd5 (pv 0) (zg c0K (hM hr) rfl (za (yF (pv 0) rfl) (za (pv 1) zb))) rfl)
   (zc (zC (zaf PySem.F.plainAttrs_list PySem.F.slot_list_append PySem.F.type_list_append yz (yF (pv 0) rfl) (za (pv 1) zb)))
   (ze (ym PassesOwn.leaving rfl (zw (zy c0a T.cl_Sheet (hM hr) (pv 0))) (zH (i:=2) zdz.nd rfl (Or.inl rfl))
     (ze (ps_dput (zhX hr) (yF (pv 0) rfl) (pv 2) (zg c0K (hM hr) rfl (za (pe_dget (zhX hr) (yF (pv 0) rfl) (pv 2) (fun _ _=>rfl)) (za (pv 1) zb))) rfl))))))))),?_⟩
  have hln:=zr
  have h24:=h.ok.c24
  refine⟨_,rfl,p,dx,_,rfl,h.ip,rfl,p,F,S,rfl,hSh,(fun hs C hC=>?_),fun hs=>?_⟩
  ·rw[hW]
   exact qE "SheetSealed" (by unfold Sh.refuseS;rw[if_pos hs]) C hC
  have hs':¬S.shut=true:=by rw[hs];exact Bool.false_ne_true
  refine⟨_,rfl,_,rfl,p,_,dx,_,_,rfl,h.ip,T.cl_Sheet,T.n_Sheet_standing,rfl,a1,_,rfl,.inl (SqL.of h.i1),rfl,zX _,_,rfl,?_⟩
  rw[zj0]
  refine yk (fun hc=>?_) (fun hc=>?_)
  ·refine⟨(by show 1≤sizeLine;decide),?_⟩
   rw[hW]
   exact qE "UnknownCouple" (by unfold Sh.refuseS;rw[if_neg hs',if_neg hc]) _ n_UnknownCouple
  refine⟨_,rfl,p,_,dx,_,_,rfl,h.ip,T.cl_Sheet,T.n_Sheet_standing,rfl,a1,_,rfl,.inl (SqL.of h.i1),rfl,_,rfl,?_⟩
  rw[length_map]
  refine wv (fun h1=>?_) (fun h1=>?_)
  ·refine⟨(by show 1≤sizeLine;decide),?_⟩
   rw[hW]
   injection h1 with h1
   exact qE "LastCouple" (by unfold Sh.refuseS;rw[if_neg hs',if_pos hc,if_pos (by omega)]) _ n_LastCouple
  have h1:S.couples.length≠1:=fun z=>h1 (by rw[z];rfl)
  have hn:S.refuseS c=none:=by unfold Sh.refuseS;rw[if_neg hs',if_pos hc,if_neg h1]
  refine⟨_,rfl,p,_,dx,_,_,rfl,h.ip,T.cl_Sheet,T.n_Sheet_standing,rfl,_,rfl,a1,S.couples,c,rfl,SqL.of h.i1,by omega,fun b1 H2 s2 f2 e2=>?_⟩
  have ip:=s2 _ _ h.ip
  have i2:=s2 _ _ h.i2
  have i3:=s2 _ _ h.i3
  have i4:=s2 _ _ h.i4
  refine⟨_,rfl,p,_,dx,_,rfl,ip,T.cl_Sheet,T.n_Sheet_standing,(by show 6<1000;decide),?_⟩
  rw[ziY a1 a2 a3 d b1 S (S.strike c) rfl rfl]
  have n2:a2≠p:=we i2 ip (by intro z;cases z)
  have n3:a3≠p:=we i3 ip (by intro z;cases z)
  have n4:d≠p:=we i4 ip (by intro z;cases z)
  have n1:b1≠p:=we e2 ip (by intro z;cases z)
  have m2:a2≠d:=we i2 i4 (by intro z;cases z)
  have b2:b1≠a2:=fun z=>by rw[z,h.i2] at f2;cases f2
  have ni2:upd H2 p (.ins (zE K "Sheet") dx (shF b1 a2 a3 d (S.strike c))) a2=some (.lst (S.struck.map V.int)):=by rw[zi n2];exact i2
  refine⟨_,rfl,p,_,dx,_,_,rfl,zd,T.cl_Sheet,T.n_Sheet_struck_so_far,rfl,.inl ⟨rfl,_,SqL.of ni2⟩,_,rfl,a2,_,_,rfl,rfl,ni2,(by rw[length_map];omega),?_⟩
  have up:∀b o,H2 b=some o→b≠p→b≠a2→upd (upd H2 p (.ins (zE K "Sheet") dx (shF b1 a2 a3 d (S.strike c)))) a2 (.lst (S.struck.map V.int++[V.int c])) b=some o:=fun b o e nb nd=>by rw[zi nd,zi nb];exact e
  have up1:upd (upd H2 p (.ins (zE K "Sheet") dx (shF b1 a2 a3 d (S.strike c)))) a2 (.lst (S.struck.map V.int++[V.int c])) p=some (.ins (zE K "Sheet") dx (shF b1 a2 a3 d (S.strike c))):=by rw[zi (Ne.symm n2)];exact zd
  have up2:upd (upd H2 p (.ins (zE K "Sheet") dx (shF b1 a2 a3 d (S.strike c)))) a2 (.lst (S.struck.map V.int++[V.int c])) a2=some (.lst ((S.strike c).struck.map V.int)):=lst_app _ _
  generalize hH3:upd (upd H2 p _) a2 _=H3 at up up1 up2 ⊢
  have F3:∀b,(F b∨b=b1)→H3 b≠none:=fun b hb=>by
   by_cases hbp:b=p
   ·rw[hbp,up1];exact fun z=>nomatch z
   by_cases hba:b=a2
   ·rw[hba,up2];exact fun z=>nomatch z
   rcases hb with hb | hb
   ·have:=h.fh b hb
    cases e:H b with
    | none=>exact absurd e this
    | some o=>rw[up _ _ (s2 _ _ e) hbp hba];exact fun z=>nomatch z
   ·rw[hb,up _ _ e2 n1 b2];exact fun z=>nomatch z
  have D3:Deed F H (fun b=>F b∨b=b1) H3:=fun b o e n=>⟨up b o (s2 _ _ e) (fun z=>n (z ▸ h.fp)) (fun z=>n (z ▸ h.f2)),fun z=>z.elim n fun z=>by rw[z,f2] at e;cases e⟩
  have hcs:∀j cd,S.card j=some cd→∃l,zaA kvs (Sum.inr j)=some (.ref l)∧H3 l=some (.lst (cd.map V.int))∧(F l∨l=b1)∧l≠a2:=fun j cd e=>by
   obtain⟨l,x1,x2,x3,x4⟩:=h.cs j cd e
   exact⟨l,x1,up _ _ (s2 _ _ x2) (we x2 h.ip (by intro z;cases z)) x4,.inl x3,x4⟩
  obtain⟨ok',_⟩:=h.ok.strike hn
  refine⟨_,rfl,p,dx,_,rfl,up1,rfl,p,(fun b=>F b∨b=b1),⟨wo c S.couples,S.struck++[c],S.panel,S.card,S.taken,S.shut⟩,rfl,⟨dx,b1,a2,a3,d,kvs,⟨up1,up _ _ e2 n1 b2,up2,up _ _ i3 n3 h.n32,up _ _ i4 n4 (Ne.symm m2),h.kl,h.cn,hcs,.inl h.fp,.inr rfl,.inl h.f2,.inl h.f3,.inl h.f4,b2,h.n32,F3⟩⟩,h.ok.p15,fun a H4 s4 f4 e4=>?_⟩
  have hhl:S.handed.length≤15:=le_trans (length_filter_le _ _) h.ok.p15
  refine⟨a,rfl,⟨_,SqL.of e4⟩,?_⟩
  refine zbQ (xs:=S.handed.map V.str) (fun i σ H5=>∃(v:Option V)(kvs':List (Key×V)) (F':Addr→Prop),σ=[some (.ref p),some (.int c),v]∧H5 p=some (.ins (zE K "Sheet") dx (shF b1 a2 a3 d (S.strike c)))∧H5 b1=some (.lst ((wo c S.couples).map V.int))∧H5 a2=some (.lst ((S.strike c).struck.map V.int))∧H5 a3=some (.lst (S.panel.map V.str))∧H5 d=some (.dK kvs')∧H5 a=some (.lst (S.handed.map V.str)) ∧
   kvs'.length≤S.taken∧(∀j,S.card j=none→zaA kvs' (Sum.inr j)=none)∧(∀j cd,S.card j=some cd→∃l,zaA kvs' (Sum.inr j)=some (.ref l)∧H5 l=some (.lst ((if j∈S.handed.take i then wo c cd else cd).map V.int))∧F' l∧l≠a2)∧(∀b,F b→F' b)∧F' b1∧(∀b,F' b→H5 b≠none)∧Deed F H F' H5)
   ⟨_,kvs,fun b=>F b∨b=b1,rfl,s4 _ _ up1,s4 _ _ (up _ _ e2 n1 b2),s4 _ _ up2,s4 _ _ (up _ _ i3 n3 h.n32),s4 _ _ (up _ _ i4 n4 (Ne.symm m2)),e4,h.kl,h.cn,(fun j cd e=>?_),(fun b hb=>.inl hb),.inr rfl,(fun b hb=>?_),fun b o e n=>⟨s4 _ _ (D3 b o e n).1,(D3 b o e n).2⟩⟩ ?_ ?_ ?_
  ·obtain⟨l,x1,x2,x3,x4⟩:=hcs j cd e
   exact⟨l,x1,by rw[if_neg (by rw[take_zero];exact not_mem_nil)];exact s4 _ _ x2,x3,x4⟩
  ·have:=F3 b hb
   cases e:H3 b with
   | none=>exact absurd e this
   | some o=>rw[s4 _ _ e];exact fun z=>nomatch z
  ·rintro i σ H5 hi ⟨v,kvs',F',rfl,w1,w2,w3,w4,w5,w6,_⟩
   exact SqL.of w6
  ·rintro i x σ H5 hx ⟨v,kvs',F',rfl,w1,w2,w3,w4,w5,w6,w7,w8,w9,w10,w11,w12,w13⟩
   obtain⟨hi,rfl⟩:=zbY hx
   have hm:=List.mem_filter.mp (show S.handed.getD i "" ∈ S.panel.filter fun j=>(S.card j).isSome from wC hi)
   generalize hj:S.handed.getD i ""=j at hm
   cases e:S.card j with
   | none=>rw[e] at hm;exact absurd hm.2 Bool.false_ne_true
   | some cd =>
     have hnd:S.handed.Nodup:=h.ok.pnd.filter _
     have hnt:j∉S.handed.take i:=fun z=>by
      have e1:S.handed.take (i+1)=S.handed.take i++[j]:=by rw[yq hi,hj]
      have e2:(S.handed.take (i+1)).Nodup:=hnd.sublist (List.take_sublist _ _)
      rw[e1] at e2
      exact(List.nodup_append.mp e2).2.2 j z j (List.mem_singleton.mpr rfl) rfl
     obtain⟨l,x1,x2,x3,x4⟩:=w9 j cd e
     rw[if_neg hnt] at x2
     have hcl:cd.length≤24:=by have:=(h.ok.cd j cd e).2.length_eq;omega
     refine⟨_,rfl,p,_,dx,_,_,rfl,w1,T.cl_Sheet,T.n_Sheet_card_by_judge,rfl,_,rfl,d,.ref l,rfl,x1 ▸ DGet.k (k:=Sum.inr j) w5,_,rfl,l,cd,c,rfl,SqL.of x2,by omega,fun l' H6 s6 f6 e6=>?_⟩
     refine⟨_,rfl,p,_,dx,_,_,rfl,s6 _ _ w1,T.cl_Sheet,T.n_Sheet_card_by_judge,rfl,_,rfl,d,_,rfl,DPut.k (k:=Sum.inr j) (s6 _ _ w5) (by have:=h.ok.t200;omega),?_⟩
     have nd:∀b o,H6 b=some o→(∀k,o ≠ .dK k)→upd H6 d (.dK (zcD kvs' (Sum.inr j) (.ref l'))) b=some o:=fun b o e n=>by rw[zi (we e (s6 _ _ w5) (n _))];exact e
     have ld:l'≠d:=we e6 (s6 _ _ w5) (by intro z;cases z)
     refine⟨_,zcD kvs' (Sum.inr j) (.ref l'),fun b=>F' b∨b=l',rfl,nd _ _ (s6 _ _ w1) (fun _ z=>nomatch z),nd _ _ (s6 _ _ w2) (fun _ z=>nomatch z),nd _ _ (s6 _ _ w3) (fun _ z=>nomatch z),nd _ _ (s6 _ _ w4) (fun _ z=>nomatch z),zd,nd _ _ (s6 _ _ w6) (fun _ z=>nomatch z),by rw[putK_len x1];exact w7,fun k hk=>?_,fun k b hk=>?_,fun b hb=>.inl (w10 b hb),.inl w11,fun b hb=>?_,fun b o e' n=>?_⟩
     ·rw[ze8,if_neg (fun z=>by injection z with z;rw[z,e] at hk;cases hk)]
      exact w8 k hk
     ·rw[ze8,yq hi,hj]
      by_cases ek:k=j
      ·subst ek
       rw[e] at hk
       cases hk
       rw[if_pos rfl]
       refine⟨l',rfl,?_,.inr rfl,fun z=>by rw[z,w3] at f6;cases f6⟩
       rw[if_pos (mem_append_right _ (List.mem_singleton.mpr rfl))]
       exact nd _ _ e6 (fun _ z=>nomatch z)
      ·rw[if_neg (fun z=>ek (by injection z))]
       obtain⟨m,y1,y2,y3,y4⟩:=w9 k b hk
       refine⟨m,y1,?_,.inl y3,y4⟩
       have:(k∈S.handed.take i++[j])↔k∈S.handed.take i:=by
        rw[mem_append,List.mem_singleton]
        exact⟨fun z=>z.elim id fun w=>absurd w ek,.inl⟩
       simp only[this]
       exact nd _ _ (s6 _ _ y2) (fun _ z=>nomatch z)
     ·by_cases hbd:b=d
      ·rw[hbd,zd];exact fun z=>nomatch z
      rw[zi hbd]
      rcases hb with hb | hb
      ·have:=w12 b hb
       cases e7:H5 b with
       | none=>exact absurd e7 this
       | some o=>rw[s6 _ _ e7];exact fun z=>nomatch z
      ·rw[hb,e6];exact fun z=>nomatch z
     ·obtain⟨y1,y2⟩:=w13 b o e' n
      refine⟨?_,fun z=>z.elim y2 fun w=>by rw[w,f6] at y1;cases y1⟩
      have nbd:b≠d:=fun z=>n (by rw[z];exact h.f4)
      rw[zi nbd]
      exact s6 _ _ y1
  ·rintro σ H5 ⟨v,kvs',F',rfl,w1,w2,w3,w4,w5,w6,w7,w8,w9,w10,w11,w12,w13⟩
   rw[length_map,take_length] at w9
   refine q hn H5 F' ⟨dx,b1,a2,a3,d,kvs',⟨⟨w1,w2,w3,w4,w5,w7,fun j hj=>?_,fun j b hj=>?_,w10 _ h.fp,w11,w10 _ h.f2,w10 _ h.f3,w10 _ h.f4,b2,h.n32,w12⟩,ok'⟩⟩ w13
   ·have hj:(S.card j).map (wo c)=none:=hj
    exact w8 j (Option.map_eq_none_iff.mp hj)
   ·have hj:(S.card j).map (wo c)=some b:=hj
    obtain⟨cd,e,rfl⟩:=Option.map_eq_some_iff.mp hj
    obtain⟨l,x1,x2,x3,x4⟩:=w9 j cd e
    refine⟨l,x1,?_,x3,x4⟩
    have hin:j∈S.handed:=List.mem_filter.mpr ⟨(h.ok.cd j cd e).1,by rw[e];rfl⟩
    rw[if_pos hin] at x2
    exact x2
inductive yd (K:Frag) (vs:List V) (H:Hp) (Q:VK) (E:XK):Prop
 | mk (p:Addr) (F:Addr→Prop) (S:Sh) (j:Str):vs=[.ref p,.str j]→SheetAt K H p F S→((j∉S.panel→∀C,zdr K "UnknownJudge" C→E (.ref C) none H))→((j∈S.panel→S.card j=none→∀C,zdr K "NoCard" C→E (.ref C) none H))→((∀c,S.card j=some c→∀(l:Addr)(H':Hp),Same H H'→H l=none→H' l=some (.lst (c.map V.int))→Q (.ref l) H'))→yd K vs H Q E
theorem zfo{f:Addr}{fd:FuncData}(F:Fun K "card_of" "Sheet.card_of" zbg f fd)(T:Txt K mg)(c0w:CanMX P w K mg base 1 (zE K "Sheet") "refuse_unknown_judge" zG (zU K)):FnOk P w K mg base (CX1 P w) 2 f fd zR (yd K):=by
 obtain⟨c_NoCard,n_NoCard,m_NoCard,x_NoCard⟩:=T.x_NoCard
 refine F.okX zfL (fun vs H Q E h=>?_) (fun X W cdv A outer s H vs Q E hX hW fl md hr h=>?_)
 ·obtain⟨p,F,S,j,rfl,_⟩:=h
  rfl
 ·obtain⟨p,F,S,j,rfl,⟨dx,a1,a2,a3,d,kvs,h⟩,qU,qN,q⟩:=h
  subst hX
  refine⟨_,(zc (zC (wg c0w T.cl_Sheet fl (hM hr) (pv 0) (za (pv 1) zb)))
   (zc (zx (pt_cmp (pc_dnotin (zhX hr) (pv 1) (yF (pv 0) rfl))) (ze (wI rfl md rfl m_NoCard x_NoCard (za yf zb))) zo)
   (ze (zk (zM zP (by rfl) T.b_list boot_list (za (pe_dget (zhX hr) (yF (pv 0) rfl) (pv 1) (fun _ _=>rfl)) zb)))))),?_⟩
  refine⟨_,rfl,p,dx,_,rfl,h.ip,rfl,_,rfl,p,F,S,j,rfl,⟨dx,a1,a2,a3,d,kvs,h⟩,fun hj C hC=>by rw[hW];exact qU hj C hC,fun hj=>?_⟩
  refine⟨_,rfl,_,rfl,p,_,dx,_,_,rfl,h.ip,T.cl_Sheet,T.n_Sheet_card_by_judge,rfl,d,_,rfl,DGet.k (k:=Sum.inr j) h.i4,_,rfl,?_⟩
  cases e:S.card j with
  | none =>
    rw[h.cn _ e]
    exact⟨(by show 1≤sizeLine;decide),by rw[hW];exact qN hj e _ n_NoCard⟩
  | some c =>
    obtain⟨l,e1,e2,_⟩:=h.cs _ _ e
    rw[e1]
    refine⟨_,rfl,p,_,dx,_,_,rfl,h.ip,T.cl_Sheet,T.n_Sheet_card_by_judge,rfl,_,rfl,d,.ref l,rfl,e1 ▸ DGet.k (k:=Sum.inr j) h.i4,l,_,rfl,.inl (SqL.of e2),fun l' hl'=>?_⟩
    exact q c e l' _ (Same.new hl') hl' zd
inductive zbf (K:Frag) (vs:List V) (H:Hp) (Q:VK) (E:XK):Prop
 | mk (a:Addr) (ns:List Int):vs=[.ref a]→SqL K H a (ns.map V.int)→ns.length<4000→(∀H',Same H H'→Q (.bl (M1.zdK ns)) H')→zbf K vs H Q E
theorem zgd{f:Addr}{fd:FuncData}(F:Fun K "good_couples" "good_couples" zai f fd)(T:Txt K mg)(c0T:Can P w K mg base 1 "good_number" ["couple"] (zb8 K))(c0o:Can P w K mg base 1 "good_length" yM (wl K))(c0x:Can P w K mg base 1 "all_unlike" ["things"] (zaJ K)):FnOk P w K mg base CX0 2 f fd ["couples"] (zbf K):=by
 refine F.ok zf3 (fun vs H Q E h=>?_) (fun cdv A outer s H vs Q E hr h=>?_)
 ·obtain⟨a,ns,rfl,_⟩:=h
  rfl
 ·obtain⟨a,ns,rfl,hS,hz,q⟩:=h
  refine⟨_,(ze (zk (zde (zg c0o (hM hr) rfl (za (pv 0) (za (zdN T.c_MOST_COUPLES rfl) zb))) (zde (zg c0x (hM hr) rfl (za (pv 0) zb)) (zg4 (zB (zhi rfl) (by rfl) T.b_all boot_all (za (zQ (show CompScope (zf zai) ["couples"] "couple" [] [] _ from csM) rfl (zw (pv 0)) (fun _ _ _ _ _=>yu) (fun _ _ _ _ _=>(zg c0T (hM hr) rfl (za (pv 0) zb)))) zb))))))),?_⟩
  refine⟨_,rfl,_,_,_,rfl,.inl ⟨_,hS,rfl⟩,_,rfl,?_⟩
  rw[length_map]
  unfold M1.zdK at q
  refine zi4 (fun h1=>?_) (fun h1=>?_)
  ·rw[h1,Bool.true_and] at q
   refine⟨_,rfl,a,rfl,.inl ⟨ns,hS,hz,fun H1 s1=>⟨_,rfl,wv (fun h2=>?_) (fun h2=>?_)⟩⟩⟩
   ·rw[decide_eq_true h2,Bool.true_and] at q
    have hS1:=s1.seq hS
    refine⟨_,rfl,a,rfl,⟨_,hS1⟩,?_⟩
    refine yc (xs:=ns.map V.int) (fun i ys H2=>H2=H1∧ys=((ns.take i).map fun n=>decide (1≤n) && decide (n≤999)).map V.bl) ⟨rfl,rfl⟩ ?_ (by rw[length_map];have:=zr;omega) ?_ ?_
    ·rintro i ys H2 hi ⟨rfl,rfl⟩
     exact⟨hS1,by simp only[length_map,length_take];omega⟩
    ·rintro i x ys H2 hx ⟨rfl,rfl⟩
     obtain⟨hi,rfl⟩:=yN hx
     refine⟨_,rfl,_,rfl,rfl,?_⟩
     rw[yy hi,map_append,map_append]
     rfl
    ·rintro ys H2 ⟨rfl,rfl⟩ l hl
     rw[length_map,take_length]
     exact⟨l,_,rfl,SqL.new,q _ (s1.newT hl)⟩
   ·rw[decide_eq_false h2,Bool.false_and] at q
    exact q _ s1
  ·rw[h1,Bool.false_and] at q
   exact q _ (Same.refl _)
inductive zc1 (K:Frag) (vs:List V) (H:Hp) (Q:VK) (E:XK):Prop
 | mk (z:Str):vs=[.str z]→z.length≤1000→(∀H',Same H H'→Q (.bl (M2.zfY z)) H')→zc1 K vs H Q E
theorem ziS{f:Addr}{fd:FuncData}(F:Fun K "good_name" "good_name" zcu f fd)(T:Txt K mg)(c0U:Can P w K mg base 1 "small_letter" ["sign"] (zbo K))(c0o:Can P w K mg base 1 "good_length" yM (wl K)):FnOk P w K mg base CX0 2 f fd ["judge"] (zc1 K):=by
 refine F.ok ziw (fun vs H Q E h=>?_) (fun cdv A outer s H vs Q E hr h=>?_)
 ·obtain⟨z,rfl,_⟩:=h
  rfl
 ·obtain⟨z,rfl,hz,q⟩:=h
  refine⟨_,(ze (zk (zde (zg c0o (hM hr) rfl (za (pv 0) (za (zdN T.c_MOST_SIGNS rfl) zb))) (zg4 (zB (zhi rfl) (by rfl) T.b_all boot_all (za (zQ (show CompScope (zf zcu) ["judge"] "sign" [] [] _ from csM) rfl (pi_str (pv 0)) (fun _ _ _ _ _=>yu) (fun _ _ _ _ _=>(zg c0U (hM hr) rfl (za (pv 0) zb)))) zb)))))),?_⟩
  have hl:=zr
  refine⟨_,rfl,_,_,_,rfl,⟨by omega,rfl⟩,_,rfl,?_⟩
  unfold M2.zfY at q
  refine zi4 (fun h1=>?_) (fun h1=>?_)
  ·rw[h1,Bool.true_and] at q
   refine⟨_,rfl,z,rfl,?_⟩
   refine comp_str0 (fun i ys H2=>H2=H∧ys=((z.cps.toList.take i).map zeb).map V.bl) ⟨rfl,rfl⟩ ?_ (by omega) ?_ ?_
   ·rintro i ys H2 hi ⟨rfl,rfl⟩
    simp only[length_map,length_take]
    omega
   ·rintro i d ys H2 hx ⟨rfl,rfl⟩
    refine⟨_,rfl,d,rfl,rfl,?_⟩
    rw[take_succ,hx,map_append,map_append]
    rfl
   ·rintro ys H2 ⟨rfl,rfl⟩ l hl
    have e:z.cps.toList.take z.length=z.cps.toList:=take_of_length_le (by show z.cps.toList.length≤z.cps.size;rw[Array.length_toList];exact le_refl _)
    rw[e]
    exact⟨l,_,rfl,SqL.new,q _ (Same.new hl)⟩
  ·rw[h1,Bool.false_and] at q
   exact q _ (Same.refl _)
inductive za7 (K:Frag) (vs:List V) (H:Hp) (Q:VK) (E:XK):Prop
 | mk (a:Addr) (cs:List (List Int)) (c:Int):vs=[.ref a,.int c]→Refs K (IL K) H a cs→cs.length≤1000→((∀d∈cs,c∈d))→(∀(l:Addr)(H':Hp),Same H H'→H l=none→H' l=some (.lst ((M5.zl cs c).map V.int))→Q (.ref l) H')→za7 K vs H Q E
theorem zjY{f:Addr}{fd:FuncData}(F:Fun K "marks_of" "marks_of" zc3 f fd)(T:Txt K mg)(c0V:Can P w K mg base 1 "mark_on" zdj (zeM K)):FnOk P w K mg base CX0 2 f fd wW (za7 K):=by
 refine F.ok zja (fun vs H Q E h=>?_) (fun cdv A outer s H vs Q E hr h=>?_)
 ·obtain⟨a,cs,c,rfl,_⟩:=h
  rfl
 ·obtain⟨a,cs,c,rfl,⟨ls,hS,hR⟩,hz,hc,q⟩:=h
  refine⟨_,(ze (zk (zQ (show CompScope (zf zc3) ["cards","couple"] "card" ["couple"] [1] _ from csM) rfl (zw (pv 0)) (fun _ _ _ _ _=>yu) (fun _ _ _ _ _=>(zg c0V (hM hr) rfl (za (pv 0) (za (pv 1) zb))))))),?_⟩
  have hlen:=hR.length
  refine⟨_,rfl,a,rfl,⟨_,hS⟩,?_⟩
  refine yc (xs:=ls.map V.ref) (fun i ys H2=>H2=H∧ys=(M5.zl (cs.take i) c).map V.int) ⟨rfl,rfl⟩ ?_ (by rw[length_map];have:=zr;omega) ?_ ?_
  ·rintro i ys H2 hi ⟨rfl,rfl⟩
   refine⟨hS,?_⟩
   rw[length_map,M5.zV,length_take]
   omega
  ·rintro i x ys H2 hx ⟨rfl,rfl⟩
   obtain⟨l,el,rfl⟩:=wF hx
   obtain⟨d,ed,rd⟩:=hR.getL el
   refine⟨_,rfl,_,rfl,l,d,c,rfl,rd,hc d (mem_of_getElem? ed),rfl,?_⟩
   rw[take_succ,ed]
   unfold M5.zl
   rw[map_append,map_append]
   rfl
  ·rintro ys H2 ⟨rfl,rfl⟩ l hl
   rw[length_map,hlen,take_length]
   exact q l _ (Same.new hl) hl zd
inductive zaD (K:Frag) (vs:List V) (H:Hp) (Q:VK) (E:XK):Prop
 | mk (a:Addr) (ms:List Int) (n:Int):vs=[.ref a,.int n]→SqL K H a (ms.map V.int)→ms.length≤1000→(∀(H':Hp),Same H H'→Q (.int (M3.cnt ms n)) H')→zaD K vs H Q E
theorem zkf{f:Addr}{fd:FuncData}(F:Fun K "granted" "granted" zfy f fd)(T:Txt K mg)(c0y:Can P w K mg base 1 "granting" za9 (zcm K)):FnOk P w K mg base CX0 2 f fd wS (zaD K):=by
 refine F.ok sc_granted (fun vs H Q E h=>?_) (fun cdv A outer s H vs Q E hr h=>?_)
 ·obtain⟨a,ms,n,rfl,_⟩:=h
  rfl
 ·obtain⟨a,ms,n,rfl,hS,hz,q⟩:=h
  refine⟨_,(ze (zk (ya T.b_len (zg c0y (hM hr) rfl (za (pv 0) (za (pv 1) zb)))))),?_⟩
  refine⟨_,rfl,_,rfl,a,ms,n,rfl,hS,hz,fun l H1 s1 f1 e1=>?_⟩
  refine⟨l,_,rfl,.inl (SqL.of e1),?_⟩
  rw[length_map]
  exact q _ s1
inductive wf (K:Frag) (vs:List V) (H:Hp) (Q:VK) (E:XK):Prop
 | mk (a:Addr) (ms:List Int) (n:Int):vs=[.ref a,.int n]→SqL K H a (ms.map V.int)→ms.length≤1000→(∀(H':Hp),Same H H'→Q (.int (M3.sm ms n)) H')→wf K vs H Q E
theorem zgC{f:Addr}{fd:FuncData}(F:Fun K "granted_sum" "granted_sum" zcN f fd)(T:Txt K mg)(c0y:Can P w K mg base 1 "granting" za9 (zcm K)):FnOk P w K mg base CX0 2 f fd yJ (wf K):=by
 refine F.ok zhc (fun vs H Q E h=>?_) (fun cdv A outer s H vs Q E hr h=>?_)
 ·obtain⟨a,ms,n,rfl,_⟩:=h
  rfl
 ·obtain⟨a,ms,n,rfl,hS,hz,q⟩:=h
  refine⟨_,(ze (zk (zB (zed rfl) (by rfl) T.b_sum boot_sum (za (zg c0y (hM hr) rfl (za (pv 0) (za (pv 1) zb))) zb)))),?_⟩
  refine⟨_,rfl,_,rfl,a,ms,n,rfl,hS,hz,fun l H1 s1 f1 e1=>?_⟩
  exact⟨l,_,rfl,SqL.of e1,q _ s1⟩
inductive yX (K:Frag) (vs:List V) (H:Hp) (Q:VK) (E:XK):Prop
 | mk (a:Addr) (ms:List Int):vs=[.ref a]→SqL K H a (ms.map V.int)→ms≠[]→ms.length≤60→((∀x∈ms,1≤x∧x≤24))→(∀(H':Hp)(f:Int),Same H H'→M3.isF ms f→Q (.int f) H')→yX K vs H Q E
theorem zf5{f:Addr}{fd:FuncData}(F:Fun K "first_number" "first_number" zb2 f fd)(T:Txt K mg)(c0W:Can P w K mg base 1 "majority_of" ["many"] (zb5 K)):FnOk P w K mg base CX0 2 f fd ["marks"] (yX K):=by
 refine F.ok zgg (fun vs H Q E h=>?_) (fun cdv A outer s H vs Q E hr h=>?_)
 ·obtain⟨a,ms,rfl,_⟩:=h
  rfl
 ·obtain⟨a,ms,rfl,hS,hne,hz,hx,q⟩:=h
  refine⟨_,(ze (zk (zq zn (zB zd9 (by rfl) T.b_sorted PyProof.Rows.boot_sorted (za (pv 0) zb)) (zu zhb (zg c0W (hM hr) rfl (za (ya T.b_len (pv 0)) zb)) zh) (fun _ _=>rfl)))),?_⟩
  refine⟨_,rfl,a,ms,rfl,hS,by omega,fun l ns hl p w=>?_⟩
  refine⟨_,rfl,a,_,rfl,.inl ((Same.new hl).seq hS),_,rfl,_,_,rfl,rfl,?_⟩
  have hlen:=p.length_eq
  have hn:=List.length_pos_iff.mpr hne
  rw[length_map]
  refine⟨l,_,_,_,rfl,rfl,SqL.new,ze4 (by omega) (by omega),?_⟩
  have e:(((ms.length:Nat):Int)/2+1-1).toNat=ns.length/2:=by omega
  rw[e]
  exact q _ _ (Same.new hl) (M3.isF_perm p (M3.sorted_isF w fun z=>by rw[z] at hlen;simp at hlen;omega))
inductive zF (K:Frag) (vs:List V) (H:Hp) (Q:VK) (E:XK):Prop
 | mk (p:Addr) (F:Addr→Prop) (S:Sh) (n:Int):vs=[.ref p,.int n]→SheetAt K H p F S→n≤S.handed.length→(∀H',Same H H'→Q .non H')→zF K vs H Q E
theorem zdE{f:Addr}{fd:FuncData}(F:Fun K "refuse_fewer_cards" "refuse_fewer_cards" wn f fd)(T:Txt K mg)(c0a:CanM P w K mg base 1 (zE K "Sheet") "handed" zI (zO K)):FnOk P w K mg base CX0 2 f fd zA (zF K):=by
 refine F.ok zdD (fun vs H Q E h=>?_) (fun cdv A outer s H vs Q E hr h=>?_)
 ·obtain⟨p,F,S,n,rfl,_⟩:=h
  rfl
 ·obtain⟨p,F,S,n,rfl,hSh,hn,q⟩:=h
  refine⟨_,(ze (zx (zm op_lt (ya T.b_len (zy c0a T.cl_Sheet (hM hr) (pv 0))) (pv 1) (zp _)) (ze zjS) zo)),?_⟩
  obtain⟨dx,b1,b2,b3,d,hip⟩:=hSh.ins
  refine⟨_,rfl,p,dx,_,rfl,hip,rfl,p,F,S,rfl,hSh.shape,hSh.ok.p15,fun l1 H1 s1 f1 e1=>?_⟩
  refine⟨l1,_,rfl,.inl (SqL.of e1),_,rfl,_,_,rfl,rfl,_,rfl,wv (fun h=>?_) (fun _=>q H1 s1)⟩
  rw[length_map] at h
  exact absurd h (by omega)
inductive zba (K:Frag) (vs:List V) (H:Hp) (Q:VK) (E:XK):Prop
 | mk (a b:Addr) (ns ms:List Int):vs=[.ref a,.ref b]→SqL K H a (ns.map V.int)→SqL K H b (ms.map V.int)→ms.length≤1000000→Q (.bl (decide (ns=ms))) H→zba K vs H Q E
theorem same_all{ns ms:List Int}(hl:ns.length=ms.length)(h:∀j,j<ms.length→ns.getD j 0=ms.getD j 0):ns=ms:=by
 refine ext_getElem hl fun j h1 h2=>?_
 have:=h j h2
 rwa [getD_eq_getElem?_getD,getD_eq_getElem?_getD,getElem?_eq_getElem h1,getElem?_eq_getElem h2] at this
theorem zjT{f:Addr}{fd:FuncData}(F:Fun K "_law_same" "_law_same" zeL f fd)(T:Txt K mg)(c0g:Can P w K mg base 1 "_law_whole" yA (yP K)):FnOk P w K mg base CX0 2 f fd wV (zba K):=by
 refine F.ok zfS (fun vs H Q E h=>?_) (fun cdv A outer s H vs Q E hr h=>?_)
 ·obtain⟨a,b,ns,ms,rfl,_⟩:=h
  rfl
 ·obtain⟨a,b,ns,ms,rfl,hA,hB,hz,q⟩:=h
  refine⟨_,(zc (zx (PW.pt (wU (zN (zK (zB wD (by rfl) T.b_isinstance boot_isinstance (za (pv 0) (za (wx (v:=V.ty "list") rfl T.b_list boot_list rfl) zb))))) (wj (zm yG (ya T.b_len (pv 0)) (ya T.b_len (pv 1)) (zp _))))) (ze (zk yj)) zo)
   (zc (ym PassesOwn.never rfl (zW rfl T.b_range (za (ya T.b_len (pv 1)) zb)) (zH (i:=2) zfS.nd rfl (Or.inl rfl))
     (ze (zx (PW.pt (wU (zN (zK (zg c0g (hM hr) rfl (za (zq zn (pv 0) (pv 2) (fun _ _=>rfl)) zb)))) (wj (zm yG (zq zn (pv 0) (pv 2) (fun _ _=>rfl)) (zq zn (pv 1) (pv 2) (fun _ _=>rfl)) (zp _))))) (ze (zk yj)) zo)))
   (ze (zk yj)))),?_⟩
  refine⟨_,rfl,_,_,rfl,.yes hA,_,rfl,yT ?_⟩
  refine⟨_,rfl,a,_,rfl,.inl hA,_,rfl,b,_,rfl,.inl hB,rfl,_,rfl,?_⟩
  rw[length_map,length_map]
  refine yk (fun hne=>?_) (fun he=>?_)
  ·show Q (.bl false) H
   have:ns≠ms:=fun e=>hne (by rw[e])
   rw[decide_eq_false this] at q
   exact q
  ·have hl:ns.length=ms.length:=by injection he with he;exact Int.ofNat.inj he
   refine⟨_,rfl,b,_,rfl,.inl hB,_,rfl,by omega,by rw[length_map];omega,?_⟩
   rw[length_map]
   refine zY (fun i σ H2=>∃v,σ=[some (.ref a),some (.ref b),v]∧H2=H∧∀j,j<i→ns.getD j 0=ms.getD j 0) ⟨_,rfl,rfl,fun j hj=>by omega⟩ ?_ ?_
   ·rintro i σ H2 hi ⟨v,rfl,rfl,hj⟩
    have hi':i<ms.length:=by simpa using hi
    have e1:atI (ns.map V.int) (0+(i:Int))=some (.int (ns.getD i 0)):=by rw[Int.zero_add];exact zJ (y8 (by omega))
    have e2:atI (ms.map V.int) (0+(i:Int))=some (.int (ms.getD i 0)):=by rw[Int.zero_add];exact zJ (y8 hi')
    refine⟨_,rfl,_,rfl,a,_,_,_,rfl,rfl,hA,e1,_,true,false,rfl,rfl,rfl,_,rfl,yT ?_⟩
    refine⟨_,rfl,_,rfl,a,_,_,_,rfl,rfl,hA,e1,_,rfl,_,rfl,b,_,_,_,rfl,rfl,hB,e2,rfl,_,rfl,yk (fun hne=>?_) (fun he=>?_)⟩
    ·show Q (.bl false) _
     have:ns≠ms:=fun e=>hne (by rw[e])
     rw[decide_eq_false this] at q
     exact q
    ·refine⟨_,rfl,rfl,fun j hj'=>?_⟩
     by_cases hji:j=i
     ·subst hji;injection he
     ·exact hj j (by omega)
   ·rintro σ H2 ⟨v,rfl,rfl,hj⟩
    show Q (.bl true) _
    have:ns=ms:=same_all hl fun j h=>hj j (by simpa using h)
    rw[decide_eq_true this] at q
    exact q
inductive zdp (K:Frag) (vs:List V) (H:Hp) (Q:VK) (E:XK):Prop
 | mk (a b:Addr) (ps:List (Int×Int)):vs=[.ref a,.ref b]→Refs K (TPl K) H a ps→Refs K (TPl K) H b ps→ps.length≤1000→Q (.bl true) H→zdp K vs H Q E
theorem zig{f:Addr}{fd:FuncData}(F:Fun K "_law_pairs" "_law_pairs" zdS f fd)(T:Txt K mg)(c0g:Can P w K mg base 1 "_law_whole" yA (yP K)):FnOk P w K mg base CX0 2 f fd zbv (zdp K):=by
 refine F.ok ze0 (fun vs H Q E h=>?_) (fun cdv A outer s H vs Q E hr h=>?_)
 ·obtain⟨a,b,ps,rfl,_⟩:=h
  rfl
 ·obtain⟨a,b,ps,rfl,⟨ls,hA,rA⟩,⟨ks,hB,rB⟩,hz,q⟩:=h
  refine⟨_,(zc (zx (PW.pt (wU (zN (zK (zB wD (by rfl) T.b_isinstance boot_isinstance (za (pv 0) (za (wx (v:=V.ty "list") rfl T.b_list boot_list rfl) zb))))) (wj (zm yG (ya T.b_len (pv 0)) (ya T.b_len (pv 1)) (zp _))))) (ze (zk yj)) zo)
   (zc (ym PassesOwn.never rfl (zW rfl T.b_range (za (ya T.b_len (pv 1)) zb)) (zH (i:=2) ze0.nd rfl (Or.inl rfl))
     (zc (zx (PW.pt (wU (zN (zK (zB zbJ (by rfl) T.b_isinstance boot_isinstance (za (zq zn (pv 0) (pv 2) (fun _ _=>rfl)) (za (wx (v:=V.ty "tuple") rfl T.b_tuple boot_tuple rfl) zb))))) (wj (zm yG (ya T.b_len (zq zn (pv 0) (pv 2) (fun _ _=>rfl))) zh (zp _))))) (ze (zk yj)) zo)
   (zc (zx (PW.pt (wU (zN (zK (zg c0g (hM hr) rfl (za (zq yo (zq zn (pv 0) (pv 2) (fun _ _=>rfl)) zh (fun _ _=>rfl)) zb)))) (wj (zN (zK (zg c0g (hM hr) rfl (za (zq yo (zq zn (pv 0) (pv 2) (fun _ _=>rfl)) zh (fun _ _=>rfl)) zb))))))) (ze (zk yj)) zo)
   (ze (zx (PW.pt (wU (zm yG (zq yo (zq zn (pv 0) (pv 2) (fun _ _=>rfl)) zh (fun _ _=>rfl)) (zq yo (zq zn (pv 1) (pv 2) (fun _ _=>rfl)) zh (fun _ _=>rfl)) (zp _)) (wj (zm yG (zq yo (zq zn (pv 0) (pv 2) (fun _ _=>rfl)) zh (fun _ _=>rfl)) (zq yo (zq zn (pv 1) (pv 2) (fun _ _=>rfl)) zh (fun _ _=>rfl)) (zp _))))) (ze (zk yj)) zo)))))
   (ze (zk yj)))),?_⟩
  have la:=rA.length
  have lb:=rB.length
  refine⟨_,rfl,_,_,rfl,.yes hA,_,rfl,yT ?_⟩
  refine⟨_,rfl,a,_,rfl,.inl hA,_,rfl,b,_,rfl,.inl hB,rfl,_,rfl,?_⟩
  rw[length_map,length_map]
  refine yk (fun hne=>absurd (by rw[la,lb]) hne) (fun he=>?_)
  refine⟨_,rfl,b,_,rfl,.inl hB,_,rfl,by omega,by rw[length_map];omega,?_⟩
  rw[length_map]
  refine zY (fun i σ H2=>∃v,σ=[some (.ref a),some (.ref b),v]∧H2=H) ⟨_,rfl,rfl⟩ ?_ ?_
  ·rintro i σ H2 hi ⟨v,rfl,rfl⟩
   have hi':i<ps.length:=by rw[←lb];simpa using hi
   obtain⟨l,el,rl⟩:=rA.get (getElem?_eq_getElem hi')
   obtain⟨k,ek,rk⟩:=rB.get (getElem?_eq_getElem hi')
   generalize ps[i]=p at rl rk
   have e1:atI (ls.map V.ref) (0+(i:Int))=some (.ref l):=by rw[Int.zero_add];exact zJ (yO el)
   have e2:atI (ks.map V.ref) (0+(i:Int))=some (.ref k):=by rw[Int.zero_add];exact zJ (yO ek)
   refine⟨_,rfl,_,rfl,a,_,_,_,rfl,rfl,hA,e1,_,_,rfl,.yes rl,_,rfl,yT ?_⟩
   refine⟨_,rfl,_,rfl,a,_,_,_,rfl,rfl,hA,e1,l,_,rfl,.inr rl,rfl,_,rfl,yk (fun h=>absurd rfl h) (fun _=>?_)⟩
   refine⟨_,rfl,_,rfl,a,_,_,_,rfl,rfl,hA,e1,l,_,_,_,rfl,rfl,rl,rfl,_,true,false,rfl,rfl,rfl,_,rfl,yT ?_⟩
   refine⟨_,rfl,_,rfl,a,_,_,_,rfl,rfl,hA,e1,l,_,_,_,rfl,rfl,rl,rfl,_,true,false,rfl,rfl,rfl,_,rfl,yT ?_⟩
   refine⟨_,rfl,_,rfl,a,_,_,_,rfl,rfl,hA,e1,l,_,_,_,rfl,rfl,rl,rfl,_,rfl,_,rfl,b,_,_,_,rfl,rfl,hB,e2,k,_,_,_,rfl,rfl,rk,rfl,rfl,_,rfl,yk (fun h=>absurd rfl h) (fun _=>?_)⟩
   refine⟨_,rfl,_,rfl,a,_,_,_,rfl,rfl,hA,e1,l,_,_,_,rfl,rfl,rl,rfl,_,rfl,_,rfl,b,_,_,_,rfl,rfl,hB,e2,k,_,_,_,rfl,rfl,rk,rfl,rfl,_,rfl,yk (fun h=>absurd rfl h) (fun _=>?_)⟩
   exact⟨_,rfl,rfl⟩
  ·rintro σ H2 ⟨v,rfl,rfl⟩
   exact q
inductive zdf (K:Frag) (vs:List V) (H:Hp) (Q:VK) (E:XK):Prop
 | mk (a b:Addr) (ps:List M6.R4):vs=[.ref a,.ref b]→Refs K (F4 K) H a ps→Refs K (F4 K) H b ps→ps.length≤1000→Q (.bl true) H→zdf K vs H Q E
theorem zir{f:Addr}{fd:FuncData}(F:Fun K "_law_fours" "_law_fours" zdX f fd)(T:Txt K mg)(c0g:Can P w K mg base 1 "_law_whole" yA (yP K)):FnOk P w K mg base CX0 2 f fd zbt (zdf K):=by
 refine F.ok zc7 (fun vs H Q E h=>?_) (fun cdv A outer s H vs Q E hr h=>?_)
 ·obtain⟨a,b,ps,rfl,_⟩:=h
  rfl
 ·obtain⟨a,b,ps,rfl,⟨ls,hA,rA⟩,⟨ks,hB,rB⟩,hz,q⟩:=h
  refine⟨_,(zc (zx (PW.pt (wU (zN (zK (zB wD (by rfl) T.b_isinstance boot_isinstance (za (pv 0) (za (wx (v:=V.ty "list") rfl T.b_list boot_list rfl) zb))))) (wj (zm yG (ya T.b_len (pv 0)) (ya T.b_len (pv 1)) (zp _))))) (ze (zk yj)) zo)
   (zc (ym PassesOwn.never rfl (zW rfl T.b_range (za (ya T.b_len (pv 1)) zb)) (zH (i:=2) zc7.nd rfl (Or.inl rfl))
     (zc (zx (PW.pt (wU (zN (zK (zB zbJ (by rfl) T.b_isinstance boot_isinstance (za (zq zn (pv 0) (pv 2) (fun _ _=>rfl)) (za (wx (v:=V.ty "tuple") rfl T.b_tuple boot_tuple rfl) zb))))) (wU (zm yG (ya T.b_len (zq zn (pv 0) (pv 2) (fun _ _=>rfl))) zh (zp _)) (wj (zN (zK (zB zfe (by rfl) T.b_isinstance boot_isinstance (za (zq yo (zq zn (pv 0) (pv 2) (fun _ _=>rfl)) zh (fun _ _=>rfl)) (za (wx (v:=V.ty "str") rfl T.b_str boot_str rfl) zb))))))))) (ze (zk yj)) zo)
   (zc (ym PassesOwn.never rfl (zW rfl T.b_range (za zh zb)) (zH (i:=3) zc7.nd rfl (Or.inl rfl))
     (ze (zx (PW.pt (wU (zN (zK (zg c0g (hM hr) rfl (za (zq yo (zq zn (pv 0) (pv 2) (fun _ _=>rfl)) (pv 3) (fun _ _=>rfl)) zb)))) (wj (zm yG (zq yo (zq zn (pv 0) (pv 2) (fun _ _=>rfl)) (pv 3) (fun _ _=>rfl)) (zq yo (zq zn (pv 1) (pv 2) (fun _ _=>rfl)) (pv 3) (fun _ _=>rfl)) (zp _))))) (ze (zk yj)) zo)))
   (ze (zx (zm yG (zq yo (zq zn (pv 0) (pv 2) (fun _ _=>rfl)) zh (fun _ _=>rfl)) (zq yo (zq zn (pv 1) (pv 2) (fun _ _=>rfl)) zh (fun _ _=>rfl)) (zp _)) (ze (zk yj)) zo)))))
   (ze (zk yj)))),?_⟩
  have la:=rA.length
  have lb:=rB.length
  refine⟨_,rfl,_,_,rfl,.yes hA,_,rfl,yT ?_⟩
  refine⟨_,rfl,a,_,rfl,.inl hA,_,rfl,b,_,rfl,.inl hB,rfl,_,rfl,?_⟩
  rw[length_map,length_map]
  refine yk (fun hne=>absurd (by rw[la,lb]) hne) (fun he=>?_)
  refine⟨_,rfl,b,_,rfl,.inl hB,_,rfl,by omega,by rw[length_map];omega,?_⟩
  rw[length_map]
  refine zY (fun i σ H2=>∃v w,σ=[some (.ref a),some (.ref b),v,w]∧H2=H) ⟨_,_,rfl,rfl⟩ ?_ ?_
  ·rintro i σ H2 hi ⟨v,w,rfl,rfl⟩
   have hi':i<ps.length:=by rw[←lb];simpa using hi
   obtain⟨l,el,rl⟩:=rA.get (getElem?_eq_getElem hi')
   obtain⟨k,ek,rk⟩:=rB.get (getElem?_eq_getElem hi')
   generalize ps[i]=p at rl rk
   have e1:atI (ls.map V.ref) (0+(i:Int))=some (.ref l):=by rw[Int.zero_add];exact zJ (yO el)
   have e2:atI (ks.map V.ref) (0+(i:Int))=some (.ref k):=by rw[Int.zero_add];exact zJ (yO ek)
   refine⟨_,rfl,_,rfl,a,_,_,_,rfl,rfl,hA,e1,_,_,rfl,.yes rl,_,rfl,yT ?_⟩
   refine⟨_,rfl,_,rfl,a,_,_,_,rfl,rfl,hA,e1,l,_,rfl,.inr rl,rfl,_,rfl,yk (fun h=>absurd rfl h) (fun _=>?_)⟩
   refine⟨_,rfl,_,rfl,a,_,_,_,rfl,rfl,hA,e1,l,_,_,_,rfl,rfl,rl,rfl,_,_,rfl,rfl,_,rfl,yT ?_⟩
   refine⟨_,rfl,by decide,by decide,zY (fun j σ H3=>∃w,σ=[some (.ref a),some (.ref b),some (.int (0+(i:Int))),w]∧H3=H2) ⟨_,rfl,rfl⟩ ?_ ?_⟩
   ·rintro j σ H3 hj ⟨w,rfl,rfl⟩
    have hj:j<3:=hj
    obtain⟨z,ez⟩:∃z:Int,atI [V.int p.1,.int p.2.1,.int p.2.2.1,.str p.2.2.2] (0+(j:Int))=some (.int z):=by
     match j,hj with
     | 0,_=>exact⟨_,rfl⟩
     | 1,_=>exact⟨_,rfl⟩
     | 2,_=>exact⟨_,rfl⟩
    refine⟨_,rfl,_,rfl,a,_,_,_,rfl,rfl,hA,e1,_,rfl,l,_,_,_,rfl,rfl,rl,ez,_,true,false,rfl,rfl,rfl,_,rfl,yT ?_⟩
    refine⟨_,rfl,_,rfl,a,_,_,_,rfl,rfl,hA,e1,_,rfl,l,_,_,_,rfl,rfl,rl,ez,_,rfl,_,rfl,b,_,_,_,rfl,rfl,hB,e2,_,rfl,k,_,_,_,rfl,rfl,rk,ez,rfl,_,rfl,yk (fun h=>absurd rfl h) (fun _=>⟨_,rfl,rfl⟩)⟩
   ·rintro σ H3 ⟨w,rfl,rfl⟩
    refine⟨_,rfl,_,rfl,a,_,_,_,rfl,rfl,hA,e1,l,_,_,_,rfl,rfl,rl,rfl,_,rfl,_,rfl,b,_,_,_,rfl,rfl,hB,e2,k,_,_,_,rfl,rfl,rk,rfl,rfl,_,rfl,yk (fun h=>absurd rfl h) (fun _=>⟨_,_,rfl,rfl⟩)⟩
  ·rintro σ H2 ⟨v,w,rfl,rfl⟩
   exact q
inductive zd6 (K:Frag) (vs:List V) (H:Hp) (Q:VK) (E:XK):Prop
 | mk (c:Int) (a:Addr) (ns:List Int) (y:Int):vs=[.int c,.ref a,.int y]→SqL K H a (ns.map V.int)→ns≠[]→ns.length≤1000→(∀(l:Addr)(H':Hp)(ms:List Int),Same H H'→H l=none→H' l=some (.lst (ms.map V.int))→ms.Perm ns→Q (.ref l) H')→zd6 K vs H Q E
theorem zi6{f:Addr}{fd:FuncData}(F:Fun K "_law_card" "_law_card" zeC f fd)(T:Txt K mg)(c0L:Can P w K mg base 1 "_law_mix" zdv (zez K)):FnOk P w K mg base CX0 2 f fd zcs (zd6 K):=by
 refine F.ok yh (fun vs H Q E h=>?_) (fun cdv A outer s H vs Q E hr h=>?_)
 ·obtain⟨c,a,ns,y,rfl,_⟩:=h
  rfl
 ·obtain⟨c,a,ns,y,rfl,hS,hne,hz,q⟩:=h
  refine⟨_,(zc (zt (i:=3) yh.nd rfl (Or.inl rfl) (zM zP (by rfl) T.b_list boot_list (za (pv 1) zb)))
   (zc (zx (zm zay (pv 2) zh (zp _)) (zc (zt (i:=4) yh.nd rfl (Or.inl rfl) (zu wT (pv 0) (ya T.b_len (pv 1))))
   (zc (zt (i:=3) yh.nd rfl (Or.inl rfl) (zu zaF (yW zaX (pv 3) (wt (pv 4)) zal) (yW zaX (pv 3) zal (wt (pv 4)))))
   (zc (zx (zm zay (zu wT (zu zei (pv 0) (ya T.b_len (pv 1))) zh) zh (zp _)) (ze (zt (i:=3) yh.nd rfl (Or.inl rfl) (pe_rev (pv 3) (zdU zbP zh)))) zo)
   (ze (zk (pv 3)))))) zo)
   (zc (zt (i:=5) yh.nd rfl (Or.inl rfl) (pv 0))
   (zc (zx (zm zay (pv 2) zh (zp _)) (ze (zt (i:=5) yh.nd rfl (Or.inl rfl) (zg c0L (hM hr) rfl (za (pv 0) (za (ya T.b_len (pv 1)) zb))))) zo)
   (zc (zt (i:=6) yh.nd rfl (Or.inl rfl) (ye zb))
   (zc (ym PassesOwn.never rfl (zW rfl T.b_range (za (ya T.b_len (pv 1)) zb)) (zH (i:=7) yh.nd rfl (Or.inl rfl))
     (zc (zt (i:=8) yh.nd rfl (Or.inl rfl) (zu wT (pv 5) (ya T.b_len (pv 3))))
   (zc (zt (i:=5) yh.nd rfl (Or.inl rfl) (zu zei (pv 5) (ya T.b_len (pv 3))))
   (zc (zC (zaf PySem.F.plainAttrs_list PySem.F.slot_list_append PySem.F.type_list_append yz (pv 6) (za (zaf PySem.F.plainAttrs_list PySem.F.slot_list_pop PySem.F.type_list_pop mt_popAt (pv 3) (za (pv 8) zb)) zb)))
   (ze (zx (zm zay (pv 2) zh (zp _)) (ze (zt (i:=5) yh.nd rfl (Or.inl rfl) (zg c0L (hM hr) rfl (za (zu yt (pv 5) (pv 8)) (za (pv 7) zb))))) zo))))))
   (ze (zk (pv 6))))))))),?_⟩
  have hpos:0<ns.length:=List.length_pos_iff.mpr hne
  -- pool=list(couples)
  refine⟨_,rfl,a,_,rfl,.inl hS,fun p0 hp0=>?_⟩
  have s0:Same H (upd H p0 (.lst (ns.map V.int))):=Same.new hp0
  refine⟨_,rfl,rfl,_,rfl,wv (fun _=>?_) (fun _=>?_)⟩
  ·-- a turn,maybe turned round
   have ht:0≤c%(ns.map V.int).length:=Int.emod_nonneg _ (by rw[length_map];omega)
   refine⟨_,rfl,_,rfl,a,_,rfl,.inl (s0.seq hS),_,_,rfl,rfl,(by show(0:Int)<(ns.map V.int).length;rw[length_map];omega),?_⟩
   refine⟨_,rfl,_,rfl,_,rfl,p0,_,rfl,SqL.new,fun p1 hp1=>?_⟩
   rw[zfK ht]
   refine⟨_,rfl,_,rfl,_,rfl,p0,_,rfl,(Same.new hp1).seq SqL.new,fun p2 hp2=>?_⟩
   rw[zh4 ht]
   have n21:p1≠p2:=zj zd hp2
   refine⟨p1,p2,_,_,rfl,rfl,by rw[zi n21];exact zd,zd,?_,fun p3 hp3=>?_⟩
   ·simp only[length_map,length_take,length_drop];have:=zr;omega
   rw[←map_append]
   have f1:H p1=none:=s0.free hp1
   have s1:=s0.newT (o:=.lst ((ns.drop (c%(ns.map V.int).length).toNat).map V.int)) hp1
   have s2:=s1.newT (o:=.lst ((ns.take (c%(ns.map V.int).length).toNat).map V.int)) hp2
   have s3:=s2.newT (o:=.lst ((ns.drop (c%(ns.map V.int).length).toNat++ns.take (c%(ns.map V.int).length).toNat).map V.int)) hp3
   have pm:(ns.drop (c%(ns.map V.int).length).toNat++ns.take (c%(ns.map V.int).length).toNat).Perm ns:=by
    have:=List.perm_append_comm (l₁:=ns.drop (c%(ns.map V.int).length).toNat) (l₂:=ns.take (c%(ns.map V.int).length).toNat)
    rwa [take_append_drop] at this
   refine⟨_,rfl,_,rfl,a,_,rfl,.inl (s3.seq hS),_,_,rfl,rfl,⟨by rw[length_map];omega,by rw[length_map];omega⟩,_,_,rfl,rfl,(by show(0:Int)<2;decide),rfl,_,rfl,wv (fun _=>?_) (fun _=>?_)⟩
   ·refine⟨_,rfl,_,rfl,rfl,p3,_,rfl,SqL.new,fun p4 hp4=>?_⟩
    rw[←List.map_reverse]
    exact⟨_,rfl,q p4 _ _ (s3.newT hp4) (s3.free hp4) zd ((List.reverse_perm _).trans pm)⟩
   ·exact⟨_,rfl,q p3 _ _ s3 (s2.free hp3) zd pm⟩
  ·-- dealt out of the pool
   refine⟨_,rfl,?_⟩
   refine⟨_,rfl,rfl,_,rfl,wv (fun _=>?_) (fun _=>?_)⟩
   all_goals
    first
     | refine⟨by decide,fun m0 hm0=>?_⟩
     | refine⟨_,rfl,_,rfl,a,_,rfl,.inl (s0.seq hS),_,_,rfl,?_⟩
       refine⟨by decide,fun m0 hm0=>?_⟩
    have s1:=s0.newT (o:=.lst []) hm0
    have fm:H m0=none:=s0.free hm0
    have npm:p0≠m0:=zj zd hm0
    refine⟨_,rfl,a,_,rfl,.inl (s1.seq hS),_,rfl,by omega,by rw[length_map];omega,?_⟩
    rw[length_map]
    refine zY (fun i σ H2=>∃(pool made:List Int)(left:Int)(v4 v7 v8:Option V),σ=[some (.int c),some (.ref a),some (.int y),some (.ref p0),v4,some (.int left),some (.ref m0),v7,v8]∧Same H H2∧H2 p0=some (.lst (pool.map V.int))∧H2 m0=some (.lst (made.map V.int))∧pool.length+i=ns.length∧(made++pool).Perm ns)
     ⟨ns,[],_,_,_,_,rfl,s1,by rw[zi npm];exact zd,zd,rfl,List.Perm.refl _⟩ ?_ ?_
    ·rintro i σ H2 hi ⟨pool,made,left,v4,v7,v8,rfl,s2,e1,e2,hlen,pm⟩
     have hi':i<ns.length:=by simpa using hi
     have hpl:0<pool.length:=by omega
     have hr0:0≤left%((pool.map V.int).length:Int):=Int.emod_nonneg _ (by rw[length_map];omega)
     have hr1:left%((pool.map V.int).length:Int)<pool.length:=by
      have:=Int.emod_lt_of_pos left (b:=((pool.map V.int).length:Int)) (by rw[length_map];omega)
      rwa [length_map] at this ⊢
     have hsl:(left%((pool.map V.int).length:Int)).toNat<pool.length:=by omega
     have hix:seqIndex? (left%((pool.map V.int).length:Int)) (pool.map V.int).length=some (left%((pool.map V.int).length:Int)).toNat:=seqIx_ok hr0 (by rw[length_map] at hr1 ⊢;exact hr1)
     refine⟨_,rfl,_,rfl,p0,_,rfl,.inl (SqL.of e1),_,_,rfl,rfl,(by show(0:Int)<(pool.map V.int).length;rw[length_map];omega),?_⟩
     refine⟨_,rfl,_,rfl,p0,_,rfl,.inl (SqL.of e1),_,_,rfl,rfl,⟨by rw[length_map];omega,by rw[length_map];omega⟩,?_⟩
     refine⟨_,rfl,.inl ⟨rfl,_,SqL.of e2⟩,_,rfl,.inl ⟨rfl,_,SqL.of e1⟩,_,rfl,p0,_,_,_,_,rfl,rfl,e1,by omega,by omega,hix,y8 hsl,?_⟩
     generalize (left%((pool.map V.int).length:Int)).toNat=j at hsl
     rw[zhN]
     have s3:Same H (upd H2 p0 (.lst ((pool.eraseIdx j).map V.int))):=s2.put hp0
     refine⟨m0,_,_,rfl,rfl,by rw[zi (Ne.symm npm)];exact e2,by rw[length_map];have:=pm.length_eq;rw[length_append] at this;have:=zr;omega,?_⟩
     have s4:Same H (upd (upd H2 p0 (.lst ((pool.eraseIdx j).map V.int))) m0 (.lst ((made++[pool.getD j 0]).map V.int))):=s3.put fm
     have pm2:(made++[pool.getD j 0]++pool.eraseIdx j).Perm ns:=by
      refine List.Perm.trans ?_ pm
      rw[append_assoc]
      refine List.Perm.append_left _ ?_
      have e:pool.getD j 0=pool[j]:=by rw[getD_eq_getElem?_getD,getElem?_eq_getElem hsl];rfl
      rw[e]
      exact zgG pool j hsl
     have hl2:(pool.eraseIdx j).length+(i+1)=ns.length:=by rw[List.length_eraseIdx_of_lt hsl];omega
     have e1':upd (upd H2 p0 (.lst ((pool.eraseIdx j).map V.int))) m0 (.lst ((made++[pool.getD j 0]).map V.int)) p0=some (.lst ((pool.eraseIdx j).map V.int)):=by rw[zi npm];exact zd
     have eap:made.map V.int++[V.int (pool.getD j 0)]=(made++[pool.getD j 0]).map V.int:=by rw[map_append];rfl
     rw[eap]
     refine⟨_,rfl,rfl,_,rfl,wv (fun _=>?_) (fun _=>?_)⟩
     ·refine⟨_,rfl,_,rfl,_,_,rfl,rfl,_,rfl,_,_,rfl,?_⟩
      exact⟨_,_,_,_,_,_,rfl,s4,e1',zd,hl2,pm2⟩
     ·exact⟨_,_,_,_,_,_,rfl,s4,e1',zd,hl2,pm2⟩
    ·rintro σ H2 ⟨pool,made,left,v4,v7,v8,rfl,s2,e1,e2,hlen,pm⟩
     have hl0:(ns.length:Int).toNat=ns.length:=Int.toNat_natCast _
     have hp:pool=[]:=List.eq_nil_of_length_eq_zero (by omega)
     subst hp
     rw[append_nil] at pm
     exact⟨_,rfl,q m0 _ _ s2 fm e2 pm⟩
inductive zbE (K:Frag) (vs:List V) (H:Hp) (Q:VK) (E:XK):Prop
 | mk (a b:Addr) (cs:List (List Int)) (us:List Int):vs=[.ref a,.ref b]→Refs K (IL K) H a cs→SqL K H b (us.map V.int)→cs.length≤500→us.length≤500→((∀u∈us,∀d∈cs,u∈d))→(∀(l:Addr)(H':Hp),Same H H'→H l=none→H' l=some (.lst ((M5.spots cs us).map V.int))→Q (.ref l) H')→zbE K vs H Q E
theorem zib{f:Addr}{fd:FuncData}(F:Fun K "_law_spots" "_law_spots" za2 f fd)(T:Txt K mg)(c0m:Can P w K mg base 1 "_law_marks" wu (zan K))(c0X:Can P w K mg base 1 "_law_key" zdh (zeI K)):FnOk P w K mg base CX0 2 f fd wY (zbE K):=by
 refine F.ok ze9 (fun vs H Q E h=>?_) (fun cdv A outer s H vs Q E hr h=>?_)
 ·obtain⟨a,b,cs,us,rfl,_⟩:=h
  rfl
 ·obtain⟨a,b,cs,us,rfl,hA,hB,hz,hu,hm,q⟩:=h
  refine⟨_,(zc (zt (i:=2) ze9.nd rfl (Or.inr rfl) (zQ (show CompScope (zf za2) zdw "_law_couple" ["_law_cards","_law_couples_here"] [0,1] _ from csM) rfl (zw (pv 1)) (fun _ _ _ _ _=>yu) (fun _ _ _ _ _=>(zg c0X (hM hr) rfl (za (zg c0m (hM hr) rfl (za (pv 1) (za (pv 0) zb))) (za (pLenK (K:=K) rfl T.b_len (pv 2)) zb))))))
   (ze (zk (pe_compC (show CompScopeC (zf za2) zdw "_law_mine" ["_law_ranks"] [2] _ from csMC) rfl (zw (pv 2)) (fun _ _ _ _ _ _=>yu) (fun _ _ _ _ _ _=>(zu yt zh (pLenK (K:=K) rfl T.b_len (zQ (CompScope.under (show CompScope _ ["_law_mine","_law_ranks"] "_law_rank" ["_law_mine"] [0] _ from csM)) rfl (pi_listK (K:=K) rfl (pv 1)) (fun _ _ _ _ _=>(yZ (zm (zjg (K:=K) rfl hr.units0) (pv 0) (pv 1) (zp _)))) (fun _ _ _ _ _=>(pv 0)))))))))),?_⟩
  have hln:=zr
  refine⟨_,rfl,b,rfl,⟨_,hB⟩,?_⟩
  refine yc (xs:=us.map V.int) (fun i ys H2=>Same H H2∧∃ls:List Addr,ys=ls.map V.ref∧All2 (IL K H2) ls ((us.take i).map fun c=>M5.key (M5.zl cs c) us.length)) ⟨Same.refl _,[],rfl,.nil⟩ ?_ (by rw[length_map];omega) ?_ ?_
  ·rintro i ys H2 hi ⟨s2,ls,rfl,r⟩
   refine⟨s2.seq hB,?_⟩
   have:=r.length
   rw[length_map,length_take] at this
   rw[length_map]
   omega
  ·rintro i x ys H2 hx ⟨s2,ls,rfl,r⟩
   obtain⟨hi,rfl⟩:=yN hx
   refine⟨_,rfl,_,rfl,a,cs,_,rfl,hA.same (IL.stays K) s2,by omega,hm _ (wL hi),fun l3 H3 s3 f3 e3=>?_⟩
   have s03:=s2.trans s3
   refine⟨_,rfl,b,_,rfl,.inl (s03.seq hB),l3,_,_,rfl,SqL.of e3,by rw[M5.zV];omega,by omega,by rw[length_map];omega,fun l4 H4 s4 f4 e4=>?_⟩
   have el:(((us.map V.int).length:Nat):Int).toNat=us.length:=by rw[length_map];omega
   rw[el] at e4
   refine⟨s03.trans s4,ls++[l4],by rw[map_append];rfl,?_⟩
   rw[yy hi,map_append]
   exact(r.imp fun x y=>IL.stays K _ _ _ _ (s3.trans s4)).snoc (show IL K H4 l4 _ from SqL.of e4)
  rintro ys H2 ⟨s2,ls,rfl,r⟩ l5 hl5
  rw[length_map,take_length] at r
  generalize hH5:upd H2 l5 _=H5
  have s5:Same H2 H5:=by rw[←hH5];exact Same.new hl5
  have t5:H5 l5=some (.lst (ls.map V.ref)):=by rw[←hH5];exact zd
  have r5:All2 (IL K H5) ls (M5.zfb cs us):=r.imp fun x y=>IL.stays K _ _ _ _ s5
  have lr:(M5.zfb cs us).length=us.length:=by unfold M5.zfb;rw[length_map]
  have ll:=r5.length
  have hsp:M5.spots cs us=(M5.zfb cs us).map fun m=>1+(M5.zen (M5.zfb cs us) m:Int):=rfl
  rw[hsp] at q
  generalize M5.zfb cs us=rs at r5 lr ll q
  refine⟨_,rfl,l5,rfl,⟨_,SqL.of t5⟩,?_⟩
  refine yc (xs:=ls.map V.ref) (fun i ys H6=>Same H5 H6∧ys=((rs.take i).map fun m=>1+(M5.zen rs m:Int)).map V.int) ⟨Same.refl _,rfl⟩ ?_ (by rw[length_map];omega) ?_ ?_
  ·rintro i ys H6 hi ⟨s6,rfl⟩
   refine⟨s6.seq (SqL.of t5),?_⟩
   rw[length_map,length_map,length_take]
   omega
  ·rintro i x ys H6 hx ⟨s6,rfl⟩
   obtain⟨l,el,rfl⟩:=wF hx
   obtain⟨m,em,rm⟩:=r5.getL el
   have q6:SqL K H6 l5 (ls.map V.ref):=s6.seq (SqL.of t5)
   have m6:=IL.stays K _ _ _ _ s6 rm
   refine⟨_,rfl,l5,rfl,⟨_,q6⟩,?_⟩
   refine yI (xs:=ls.map V.ref) (fun j zs H7=>H7=H6∧zs.length=((rs.take j).filter fun r=>HT.lexLt r m).length) ⟨rfl,rfl⟩ ?_ (by rw[length_map];omega) ?_ ?_
   ·rintro j zs H7 hj ⟨rfl,e⟩
    refine⟨q6,?_⟩
    have:=length_filter_le (fun r=>HT.lexLt r m) (rs.take j)
    rw[length_take] at this
    omega
   ·rintro j y zs H7 hy ⟨rfl,e⟩
    obtain⟨k,ek,rfl⟩:=wF hy
    obtain⟨r',er,rr⟩:=r5.getL ek
    have r6:=IL.stays K _ _ _ _ s6 rr
    refine⟨_,rfl,_,rfl,k,l,_,_,rfl,rfl,r6,m6,_,rfl,zi4 (fun h=>?_) (fun h=>?_)⟩
    ·refine⟨_,rfl,rfl,?_⟩
     rw[take_succ,er,filter_append,length_append,length_append,e]
     show _+1=_+(filter (fun r=>HT.lexLt r m) [r']).length
     rw[filter_cons_of_pos (by simpa using h)]
     rfl
    ·refine⟨rfl,?_⟩
     rw[take_succ,er,filter_append,length_append,e]
     show _=_+(filter (fun r=>HT.lexLt r m) [r']).length
     rw[filter_cons_of_neg (by simpa using h)]
     rfl
   rintro zs H7 ⟨rfl,e⟩ l8 hl8
   rw[length_map,ll,take_length] at e
   refine⟨l8,_,rfl,.inl SqL.new,_,_,rfl,rfl,s6.newT hl8,?_⟩
   rw[e,take_succ,em,map_append,map_append]
   rfl
  ·rintro ys H6 ⟨s6,rfl⟩ l9 hl9
   rw[length_map,ll,take_length]
   exact q l9 _ ((s2.trans (s5.trans s6)).newT hl9) ((s2.trans (s5.trans s6)).free hl9) zd
inductive zdt (K:Frag) (vs:List V) (H:Hp) (Q:VK) (E:XK):Prop
 | mk (a b c:Addr) (cs:List (List Int)) (us:List Int):vs=[.ref a,.ref b,.ref c]→Refs K (IL K) H a cs→SqL K H b (us.map V.int)→SqL K H c ((M6.zv cs us).map V.int)→cs.length≤500→us.length≤500→((∀u∈us,∀d∈cs,u∈d))→(∀(l:Addr)(H':Hp)(ls:List Addr),Same H H'→H l=none→H' l=some (.lst (ls.map V.ref))→All2 (F4 K H') ls (M6.zbd cs us)→Q (.ref l) H')→zdt K vs H Q E
theorem ziG{f:Addr}{fd:FuncData}(F:Fun K "_law_parts" "_law_parts" zd4 f fd)(T:Txt K mg)(c0m:Can P w K mg base 1 "_law_marks" wu (zan K))(c0t:Can P w K mg base 1 "_law_rows" zbb (zci K))(c0Y:Can P w K mg base 1 "_law_part" zcp (zdR K)):FnOk P w K mg base CX0 2 f fd zbF (zdt K):=by
 refine F.ok yS (fun vs H Q E h=>?_) (fun cdv A outer s H vs Q E hr h=>?_)
 ·obtain⟨a,b,c,cs,us,rfl,_⟩:=h
  rfl
 ·obtain⟨a,b,c,cs,us,rfl,hA,hB,hC,hz,hu,hm,q⟩:=h
  refine⟨_,(zc (zt (i:=3) yS.nd rfl (Or.inl rfl) (zg c0t (hM hr) rfl (za (pv 2) (za (pv 1) zb))))
   (zc (zt (i:=4) yS.nd rfl (Or.inl rfl) (ye zb))
   (zc (ym PassesOwn.never rfl (zaE rfl T.b_range (za zh (za (ya T.b_len (pv 3)) zb))) (zH (i:=5) yS.nd rfl (Or.inl rfl))
     (ze (zx (zm yG (zq yo (zq zn (pv 3) (pv 5) (fun _ _=>rfl)) zh (fun _ _=>rfl)) (zq yo (zq zn (pv 3) (zu zhb (pv 5) zh) (fun _ _=>rfl)) zh (fun _ _=>rfl)) (zp _)) (zc (zt (i:=6) yS.nd rfl (Or.inl rfl) (zq yo (zq zn (pv 3) (zu zhb (pv 5) zh) (fun _ _=>rfl)) zh (fun _ _=>rfl)))
   (zc (zt (i:=7) yS.nd rfl (Or.inl rfl) (zq yo (zq zn (pv 3) (pv 5) (fun _ _=>rfl)) zh (fun _ _=>rfl)))
   (zc (zt (i:=8) yS.nd rfl (Or.inl rfl) (zg c0Y (hM hr) rfl (za (zg c0m (hM hr) rfl (za (pv 0) (za (pv 6) zb))) (za (zg c0m (hM hr) rfl (za (pv 0) (za (pv 7) zb))) (za (ya T.b_len (pv 1)) zb)))))
   (ze (zC (zaf PySem.F.plainAttrs_list PySem.F.slot_list_append PySem.F.type_list_append yz (pv 4) (za (zb9 (za (pv 6) (za (pv 7) (za (zq yo (pv 8) zh (fun _ _=>rfl)) (za (zq yo (pv 8) zh (fun _ _=>rfl)) zb))))) zb))))))) zo)))
   (ze (zk (pv 4)))))),?_⟩
  have hln:=zr
  refine⟨_,rfl,_,rfl,c,b,_,us,rfl,hC,hB,M6.zS cs us,hu,fun l1 H1 ls s1 f1 e1 r1=>?_⟩
  have hrl:=M5.rows_len (M6.zv cs us) us (M6.zS cs us)
  have hmul:us.length*us.length≤500*500:=mul_le_mul hu hu
  have hmem:=fun p (hp:p∈M5.rows (M6.zv cs us) us)=>M6.zfa hp
  unfold M6.zbd at q
  generalize M5.rows (M6.zv cs us) us=rs at r1 hrl hmem q
  have hl1:=r1.length
  refine⟨by decide,fun p2 hp2=>?_⟩
  have s2:=Same.new (o:=.lst []) hp2
  refine⟨_,rfl,l1,_,rfl,.inl (SqL.of (s2 _ _ e1)),_,_,rfl,⟨by decide,by decide,by rw[length_map];omega,by rw[length_map];omega⟩,?_⟩
  refine zY (fun i σ H2=>∃(v5 v6 v7 v8:Option V)(ms:List Addr),σ=[some (.ref a),some (.ref b),some (.ref c),some (.ref l1),some (.ref p2),v5,v6,v7,v8]∧Same H1 H2∧H2 p2=some (.lst (ms.map V.ref))∧All2 (F4 K H2) ms (((rs.zip rs.tail).take i).filterMap fun pq=>M6.nb cs us pq.1 pq.2)) ⟨_,_,_,_,[],rfl,s2,zd,.nil⟩ ?_ ?_
  ·rintro i σ H2 hi ⟨v5,v6,v7,v8,ms,rfl,s12,e2,r2⟩
   rw[length_map] at hi
   have hi1:i+1<rs.length:=by omega
   have hi0:i<rs.length:=by omega
   have ez:(rs.zip rs.tail)[i]? = some (rs[i],rs[i+1]):=by
    rw[getElem?_eq_getElem (by rw[length_zip,length_tail];omega),List.getElem_zip,List.getElem_tail]
   obtain⟨la,ela,ra⟩:=r1.get (getElem?_eq_getElem hi0)
   obtain⟨lb,elb,rb⟩:=r1.get (getElem?_eq_getElem hi1)
   obtain⟨ma1,ma2⟩:=hmem _ (getElem_mem hi0)
   obtain⟨mb1,mb2⟩:=hmem _ (getElem_mem hi1)
   rw[take_succ,ez,List.filterMap_append]
   generalize rs[i]=pa at ra ma1 ma2 ⊢
   generalize rs[i+1]=pb at rb mb1 mb2 ⊢
   have q1:SqL K H2 l1 (ls.map V.ref):=SqL.of (s12 _ _ e1)
   have ta:=s12.seqT ra
   have tb:=s12.seqT rb
   have ea:atI (ls.map V.ref) (1+(i:Int)-1)=some (.ref la):=by
    have:(1:Int)+(i:Int)-1=(i:Int):=by omega
    rw[this];exact zJ (yO ela)
   have eb:atI (ls.map V.ref) (1+(i:Int))=some (.ref lb):=by
    have:(1:Int)+(i:Int)=((i+1:Nat):Int):=by omega
    rw[this];exact zJ (yO elb)
   refine⟨_,rfl,_,rfl,l1,_,_,_,rfl,rfl,q1,eb,lb,_,_,_,rfl,rfl,tb,rfl,_,rfl,_,rfl,_,_,rfl,rfl,l1,_,_,_,rfl,rfl,q1,ea,la,_,_,_,rfl,rfl,ta,rfl,rfl,_,rfl,yk (fun hne=>?_) (fun he=>?_)⟩
   ·have hne:¬pa.1=pb.1:=fun z=>hne (by rw[z])
    refine⟨_,rfl,_,rfl,_,_,rfl,rfl,l1,_,_,_,rfl,rfl,q1,ea,la,_,_,_,rfl,rfl,ta,rfl,?_⟩
    refine⟨_,rfl,_,rfl,l1,_,_,_,rfl,rfl,q1,eb,lb,_,_,_,rfl,rfl,tb,rfl,?_⟩
    have s02:=s1.trans s12
    refine⟨_,rfl,_,rfl,a,cs,_,rfl,hA.same (IL.stays K) s02,by omega,hm _ ma1,fun l3 H3 s3 f3 e3=>?_⟩
    have s03:=s02.trans s3
    refine⟨_,rfl,_,rfl,a,cs,_,rfl,hA.same (IL.stays K) s03,by omega,hm _ mb1,fun l4 H4 s4 f4 e4=>?_⟩
    have s04:=s03.trans s4
    refine⟨_,rfl,b,_,rfl,.inl (s04.seq hB),l3,l4,_,_,us.length,?_,SqL.of (s4 _ _ e3),SqL.of e4,by rw[M5.zV,M5.zV],by rw[M5.zV];omega,by omega,?_,?_⟩
    ·rw[length_map];rfl
    ·intro hn
     have hp:=M6.zcv (M5.zl cs pa.2) (M5.zl cs pb.2) us.length
     exact absurd (M6.zaS hp hn) (M6.zg8 (by rw[←ma2,←mb2];exact hne))
    ·intro r hr l5 H5 s5 hT
     have hp:=M6.zaS (M6.zcv (M5.zl cs pa.2) (M5.zl cs pb.2) us.length) hr
     have s25:=s3.trans (s4.trans s5)
     have e25:=s25 _ _ e2
     refine⟨_,rfl,.inl ⟨rfl,_,SqL.of e25⟩,_,rfl,_,rfl,_,rfl,l5,_,_,_,rfl,rfl,hT,rfl,_,rfl,l5,_,_,_,rfl,rfl,hT,rfl,(by show 4≤sizeLine;decide),fun p6 hp6=>?_⟩
     have s6:=Same.new (o:=.tup [.int pa.2,.int pb.2,.int (r.1:Nat),.str r.2]) hp6
     have hl2:=r2.length
     have hfl:=List.length_filterMap_le (fun pq:(Int×Int)×(Int×Int)=>M6.nb cs us pq.1 pq.2) ((rs.zip rs.tail).take i)
     rw[length_take] at hfl
     refine⟨p2,_,_,rfl,rfl,s6 _ _ e25,by rw[length_map];omega,?_⟩
     refine⟨_,_,_,_,ms++[p6],rfl,(s12.trans (s25.trans s6)).put hp2,zg3 ms p6,?_⟩
     have en:M6.nb cs us pa pb=some (pa.2,pb.2,(r.1:Int),r.2):=by unfold M6.nb;rw[if_neg hne,hp];rfl
     have ef:filterMap (fun pq:(Int×Int)×(Int×Int)=>M6.nb cs us pq.1 pq.2) (some (pa,pb)).toList=[(pa.2,pb.2,(r.1:Int),r.2)]:=by
      show filterMap _ [(pa,pb)]=_
      rw[List.filterMap_cons_some (f:=fun pq:(Int×Int)×(Int×Int)=>M6.nb cs us pq.1 pq.2) (a:=(pa,pb)) en,filterMap_nil]
     rw[ef]
     refine All2.snoc (F4.put (r2.imp fun _ _=>F4.stays K _ _ _ _ (s25.trans s6)) (s6 _ _ e25)) ?_
     exact SqT.put (ys:=ms.map V.ref) SqT.new (s6 _ _ e25)
   ·have he:pb.1=pa.1:=by injection he
    have en:M6.nb cs us pa pb=none:=by unfold M6.nb;rw[if_pos he.symm]
    have ef:filterMap (fun pq:(Int×Int)×(Int×Int)=>M6.nb cs us pq.1 pq.2) (some (pa,pb)).toList=[]:=by
     show filterMap _ [(pa,pb)]=_
     rw[List.filterMap_cons_none (f:=fun pq:(Int×Int)×(Int×Int)=>M6.nb cs us pq.1 pq.2) (a:=(pa,pb)) en,filterMap_nil]
    rw[ef,append_nil]
    exact⟨_,_,_,_,ms,rfl,s12,e2,r2⟩
  ·rintro σ H2 ⟨v5,v6,v7,v8,ms,rfl,s12,e2,r2⟩
   have et:(rs.zip rs.tail).take ((((ls.map V.ref).length:Nat):Int)-1).toNat=rs.zip rs.tail:=take_of_length_le (by rw[length_zip,length_tail,length_map];omega)
   rw[et] at r2
   exact⟨_,rfl,q p2 _ ms (s1.trans s12) (s1.free hp2) e2 r2⟩
inductive zdL (K:Frag) (vs:List V) (H:Hp) (Q:VK) (E:XK):Prop
 | mk (p c:Int) (a:Addr) (cs:List (List Int)) (n:Nat):vs=[.int p,.int c,.ref a,.int n]→Refs K (IL K) H a cs→cs.length≤15→((∀d∈cs,c∈d))→((∀x∈M5.zl cs c,1≤x∧x≤24))→n≤24→p.natAbs≤990→c.natAbs≤1000→(∀H',Same H H'→Q (.str (M6.rowT p c (M5.zl cs c) n)) H')→zdL K vs H Q E
theorem zjD{f:Addr}{fd:FuncData}(F:Fun K "_law_line" "_law_line" zeG f fd)(T:Txt K mg)(c0m:Can P w K mg base 1 "_law_marks" wu (zan K))(c0Z:Can P w K mg base 1 "_law_words" zbC (zc9 K))(c00:Can P w K mg base 1 "_law_ladder" za0 (zcO K)):FnOk P w K mg base CX0 2 f fd zcx (zdL K):=by
 refine F.ok zfT (fun vs H Q E h=>?_) (fun cdv A outer s H vs Q E hr h=>?_)
 ·obtain⟨p,c,a,cs,n,rfl,_⟩:=h
  rfl
 ·obtain⟨p,c,a,cs,n,rfl,hA,hz,hc,hx,hn,hp,hcc,q⟩:=h
  refine⟨_,(zc (zt (i:=4) zfT.nd rfl (Or.inl rfl) (zg c0m (hM hr) rfl (za (pv 2) (za (pv 1) zb))))
   (ze (zk (zg c0Z (hM hr) rfl (za (zu zaF (zu zaF (zu zaF (ye (za (pv 0) (za (pv 1) (za yf zb)))) (pv 4)) (ye (za yf zb))) (zg c00 (hM hr) rfl (za (pv 4) (za (pv 3) zb)))) zb))))),?_⟩
  have hln:=zr
  refine⟨_,rfl,_,rfl,a,cs,c,rfl,hA,by omega,hc,fun l1 H1 s1 f1 e1=>?_⟩
  have hml:=M5.zV cs c
  generalize M5.zl cs c=ms at e1 hml hx q
  refine⟨_,rfl,_,rfl,(by show 3≤sizeLine;decide),fun l2 hl2=>?_⟩
  have s2:=s1.newT (o:=.lst [.int p,.int c,.str M6.bar]) hl2
  have e2:upd H1 l2 (.lst [.int p,.int c,.str M6.bar]) l2=some (.lst [.int p,.int c,.str M6.bar]):=zd
  have e12:=(Same.new (o:=.lst [.int p,.int c,.str M6.bar]) hl2) _ _ e1
  change Same H (upd H1 l2 (.lst [.int p,.int c,.str (Str.ofString "|")]))at s2
  change upd H1 l2 (.lst [.int p,.int c,.str (Str.ofString "|")]) l2=_ at e2
  change upd H1 l2 (.lst [.int p,.int c,.str (Str.ofString "|")]) l1=_ at e12
  generalize hH2:upd H1 l2 _=H2 at s2 e2 e12 ⊢
  refine⟨_,rfl,l2,l1,_,_,rfl,rfl,e2,e12,by rw[length_map];simp only[length_cons,length_nil];omega,fun l3 hl3=>?_⟩
  have s3:=s2.newT (o:=.lst ([.int p,.int c,.str M6.bar]++ms.map V.int)) hl3
  have e3:upd H2 l3 (.lst ([.int p,.int c,.str M6.bar]++ms.map V.int)) l3=some (.lst ([.int p,.int c,.str M6.bar]++ms.map V.int)):=zd
  have e13:=(Same.new (o:=.lst ([.int p,.int c,.str M6.bar]++ms.map V.int)) hl3) _ _ e12
  generalize hH3:upd H2 l3 _=H3 at s3 e3 e13 ⊢
  refine⟨(by show 1≤sizeLine;decide),fun l4 hl4=>?_⟩
  have s4:=Same.new (o:=.lst [.str M6.bar]) hl4
  change Same H3 (upd H3 l4 (.lst [.str (Str.ofString "|")]))at s4
  refine⟨l3,l4,_,[.str M6.bar],rfl,rfl,s4 _ _ e3,zd,by rw[length_append,length_map];simp only[length_cons,length_nil];omega,fun l5 hl5=>?_⟩
  have s5:=s4.newT (o:=.lst ([.int p,.int c,.str M6.bar]++ms.map V.int++[.str M6.bar])) hl5
  have e5:upd (upd H3 l4 (.lst [.str (Str.ofString "|")])) l5 (.lst ([.int p,.int c,.str M6.bar]++ms.map V.int++[.str M6.bar])) l5=some (.lst ([.int p,.int c,.str M6.bar]++ms.map V.int++[.str M6.bar])):=zd
  generalize hH5:upd (upd H3 l4 _) l5 _=H5 at s5 e5 ⊢
  have t5:=s3.trans s5
  refine⟨_,rfl,_,rfl,l1,ms,n,rfl,SqL.of (s5 _ _ e13),by omega,hx,hn,fun l6 H6 s6 f6 e6=>?_⟩
  have hlw:=M6.zjh ms n
  refine⟨l5,l6,_,_,rfl,rfl,s6 _ _ e5,e6,by simp only[length_append,length_map,length_cons,length_nil];omega,fun l7 hl7=>?_⟩
  have s7:=(t5.trans s6).newT (o:=.lst ([.int p,.int c,.str M6.bar]++ms.map V.int++[.str M6.bar]++(M6.zdF ms n).map V.str)) hl7
  refine⟨l7,_,M6.rowW p c ms n,rfl,SqL.new,?_,?_,?_,fun H' s'=>q H' (s7.trans s')⟩
  ·have hw1:All2 WordOf [.int p,.int c,.str M6.bar] ([tN p,tN c]++[M6.bar]):=.cons (.int (by omega)) (.cons (.int (by omega)) (.cons .str .nil))
   exact((hw1.append (zg7 fun x h=>by have:=hx x h;omega)).append (zeH [M6.bar])).append (zeH _)
  ·unfold M6.rowW
   simp only[length_append,length_map,length_cons,length_nil]
   omega
  ·intro w hw
   exact M6.zgW (by omega) hx hp hcc n w hw
inductive yg (K:Frag) (vs:List V) (H:Hp) (Q:VK) (E:XK):Prop
 | mk (p:Addr) (F:Addr→Prop) (S:Sh):vs=[.ref p]→SheetAt K H p F S→(∀(l:Addr)(H':Hp)(ks:List Addr),Same H H'→H l=none→H' l=some (.lst (ks.map V.ref))→All2 (fun k c=>H k=none∧H' k=some (.lst (c.map V.int))) ks S.cardsIn→Q (.ref l) H')→yg K vs H Q E
theorem zgA{f:Addr}{fd:FuncData}(F:Fun K "cards" "Sheet.cards" zaO f fd)(T:Txt K mg)(c0a:CanM P w K mg base 1 (zE K "Sheet") "handed" zI (zO K))(c0c:CanMX P w K mg base 2 (zE K "Sheet") "card_of" zR (yd K)):FnOk P w K mg base CX0 3 f fd zZ (yg K):=by
 refine F.ok zgN (fun vs H Q E h=>?_) (fun cdv A outer s H vs Q E hr h=>?_)
 ·obtain⟨p,F,S,rfl,_⟩:=h
  rfl
 ·obtain⟨p,F,S,rfl,hSh,q⟩:=h
  refine⟨_,(ze (zk (zQ (show CompScope (zf zaO) ["self"] "judge" ["self"] [0] _ from csM) rfl (zw (zy c0a T.cl_Sheet (hM hr) (pv 0))) (fun _ _ _ _ _=>yu) (fun _ _ _ _ _=>(wg c0c T.cl_Sheet zdC (hM hr) (pv 1) (za (pv 0) zb)))))),?_⟩
  have hln:=zr
  have h15:=hSh.ok.p15
  have hip:∃dx fs,H p=some (.ins (zE K "Sheet") dx fs)∧fs.lookup ("handed":Str)=none∧fs.lookup ("card_of":Str)=none:=by
   obtain⟨dx,a1,a2,a3,d,kvs,h⟩:=hSh
   exact⟨dx,_,h.ip,rfl,rfl⟩
  obtain⟨dx,fs,hip,fs1,fs2⟩:=hip
  refine⟨_,rfl,p,dx,_,rfl,hip,fs1,p,F,S,rfl,hSh.shape,h15,fun a H1 s1 f1 e1=>?_⟩
  have hl2:S.handed.length≤15:=le_trans (length_filter_le _ _) h15
  refine⟨a,rfl,⟨_,SqL.of e1⟩,?_⟩
  refine yc (xs:=S.handed.map V.str) (fun i ys H2=>∃ks:List Addr,ys=ks.map V.ref∧Same H1 H2∧All2 (fun k c=>H k=none∧H2 k=some (.lst (c.map V.int))) ks ((S.handed.take i).map fun j=>(S.card j).getD [])) ⟨[],rfl,Same.refl _,.nil⟩ ?_ (by rw[length_map];omega) ?_ ?_
  ·rintro i ys H2 hi ⟨ks,rfl,s2,r2⟩
   refine⟨s2.seq (SqL.of e1),?_⟩
   have:=r2.length
   rw[length_map,length_take] at this
   rw[length_map]
   omega
  ·rintro i x ys H2 hx ⟨ks,rfl,s2,r2⟩
   obtain⟨hi,rfl⟩:=zbY hx
   have hm:=List.mem_filter.mp (show S.handed.getD i "" ∈ S.panel.filter fun j=>(S.card j).isSome from wC hi)
   have s12:=s1.trans s2
   cases e:S.card (S.handed.getD i "")with
   | none=>rw[e] at hm;exact absurd hm.2 Bool.false_ne_true
   | some c =>
     refine⟨_,rfl,p,dx,_,rfl,s12 _ _ hip,fs2,_,rfl,p,F,S,_,rfl,hSh.same s12,fun hj=>absurd hm.1 hj,(fun _ z=>by rw[e] at z;cases z),fun c' e' l H3 s3 f3 e3=>?_⟩
     rw[e] at e'
     cases e'
     refine⟨ks++[l],by rw[map_append];rfl,s2.trans s3,?_⟩
     rw[yq hi,map_append]
     refine(r2.imp fun _ _ z=>⟨z.1,s3 _ _ z.2⟩).snoc ⟨s12.free f3,?_⟩
     dsimp only
     rw[e]
     exact e3
  ·rintro ys H2 ⟨ks,rfl,s2,r2⟩ l hl
   rw[length_map,take_length] at r2
   exact q l _ ks ((s1.trans s2).newT hl) ((s1.trans s2).free hl) zd (r2.imp fun _ _ z=>⟨z.1,Same.new hl _ _ z.2⟩)
inductive zb7 (K:Frag) (vs:List V) (H:Hp) (Q:VK) (E:XK):Prop
 | mk (a:Addr) (ts:List Str):vs=[.ref a]→SqL K H a (ts.map V.str)→ts.length<4000→((∀z∈ts,z.length≤1000))→(∀H',Same H H'→Q (.bl (M2.ze3 ts)) H')→zb7 K vs H Q E
theorem zgJ{f:Addr}{fd:FuncData}(F:Fun K "good_judges" "good_judges" zaY f fd)(T:Txt K mg)(c01:Can P w K mg base 2 "good_name" ["judge"] (zc1 K))(c0o:Can P w K mg base 1 "good_length" yM (wl K))(c0x:Can P w K mg base 1 "all_unlike" ["things"] (zaJ K)):FnOk P w K mg base CX0 3 f fd ["judges"] (zb7 K):=by
 refine F.ok zgV (fun vs H Q E h=>?_) (fun cdv A outer s H vs Q E hr h=>?_)
 ·obtain⟨a,ts,rfl,_⟩:=h
  rfl
 ·obtain⟨a,ts,rfl,hS,hz,ht,q⟩:=h
  refine⟨_,(ze (zk (zde (zg c0o (hM hr) rfl (za (pv 0) (za (zdN T.c_MOST_JUDGES rfl) zb))) (zde (zg c0x (hM hr) rfl (za (pv 0) zb)) (zg4 (zB (zhi rfl) (by rfl) T.b_all boot_all (za (zQ (show CompScope (zf zaY) ["judges"] "judge" [] [] _ from csM) rfl (zw (pv 0)) (fun _ _ _ _ _=>yu) (fun _ _ _ _ _=>(zg c01 (hM hr) rfl (za (pv 0) zb)))) zb))))))),?_⟩
  refine⟨_,rfl,_,_,_,rfl,.inl ⟨_,hS,rfl⟩,_,rfl,?_⟩
  rw[length_map]
  unfold M2.ze3 at q
  refine zi4 (fun h1=>?_) (fun h1=>?_)
  ·rw[h1,Bool.true_and] at q
   refine⟨_,rfl,a,rfl,.inr ⟨ts,hS,hz,_,rfl,wv (fun h2=>?_) (fun h2=>?_)⟩⟩
   ·rw[decide_eq_true h2,Bool.true_and] at q
    refine⟨_,rfl,a,rfl,⟨_,hS⟩,?_⟩
    refine yc (xs:=ts.map V.str) (fun i ys H2=>Same H H2∧ys=((ts.take i).map M2.zfY).map V.bl) ⟨Same.refl _,rfl⟩ ?_ (by rw[length_map];have:=zr;omega) ?_ ?_
    ·rintro i ys H2 hi ⟨s2,rfl⟩
     exact⟨s2.seq hS,by simp only[length_map,length_take];omega⟩
    ·rintro i x ys H2 hx ⟨s2,rfl⟩
     obtain⟨hi,rfl⟩:=zbY hx
     refine⟨_,rfl,_,rfl,ht _ (wC hi),fun H3 s3=>⟨s2.trans s3,?_⟩⟩
     rw[yq hi,map_append,map_append]
     rfl
    ·rintro ys H2 ⟨s2,rfl⟩ l hl
     rw[length_map,take_length]
     exact⟨l,_,rfl,SqL.new,q _ (s2.newT hl)⟩
   ·rw[decide_eq_false h2,Bool.false_and] at q
    exact q _ (Same.refl _)
  ·rw[h1,Bool.false_and] at q
   exact q _ (Same.refl _)
inductive zdo (K:Frag) (vs:List V) (H:Hp) (Q:VK) (E:XK):Prop
 | mk (a:Addr) (ms:List Int) (n:Int):vs=[.ref a,.int n]→SqL K H a (ms.map V.int)→ms.length≤1000→0≤n→n≤1000→(∀(l:Addr)(H':Hp)(ls:List Addr),Same H H'→H l=none→H' l=some (.lst (ls.map V.ref))→All2 (TPl K H') ls (M6.zbn ms n.toNat)→Q (.ref l) H')→zdo K vs H Q E
theorem zih{f:Addr}{fd:FuncData}(F:Fun K "ladder_of" "ladder_of" zcl f fd)(T:Txt K mg)(c0d:Can P w K mg base 2 "granted" wS (zaD K))(c0l:Can P w K mg base 2 "granted_sum" yJ (wf K)):FnOk P w K mg base CX0 3 f fd zbx (zdo K):=by
 refine F.ok zid (fun vs H Q E h=>?_) (fun cdv A outer s H vs Q E hr h=>?_)
 ·obtain⟨a,ms,n,rfl,_⟩:=h
  rfl
 ·obtain⟨a,ms,n,rfl,hS,hz,h0,h1,q⟩:=h
  refine⟨_,(ze (zk (zQ (show CompScope (zf zcl) ["marks","last"] "number" ["marks"] [0] _ from csM) rfl (zaE rfl T.b_range (za zh (za (zu yt (pv 1) zh) zb))) (fun _ _ _ _ _=>yu) (fun _ _ _ _ _=>(zb9 (za (zg c0d (hM hr) rfl (za (pv 1) (za (pv 0) zb))) (za (zg c0l (hM hr) rfl (za (pv 1) (za (pv 0) zb))) zb))))))),?_⟩
  refine⟨_,rfl,_,_,rfl,rfl,_,_,rfl,⟨by omega,by omega,by omega,by omega⟩,?_⟩
  have en:(n+1-1).toNat=n.toNat:=by omega
  rw[en]
  refine zcw (fun i ys H2=>∃ks:List Addr,ys=ks.map V.ref∧Same H H2∧All2 (TPl K H2) ks (M6.zbn ms i)) ⟨[],rfl,Same.refl _,.nil⟩ ?_ (by have:=zr;omega) ?_ ?_
  ·rintro i ys H2 hi ⟨ks,rfl,s2,r2⟩
   have:=r2.length
   rw[M6.zc4] at this
   rw[length_map]
   omega
  ·rintro i ys H2 hi ⟨ks,rfl,s2,r2⟩
   refine⟨_,rfl,_,rfl,a,ms,_,rfl,s2.seq hS,hz,fun H3 s3=>?_⟩
   refine⟨_,rfl,_,rfl,a,ms,_,rfl,(s2.trans s3).seq hS,hz,fun H4 s4=>?_⟩
   refine⟨by show 2≤sizeLine;decide,fun t ht=>?_⟩
   have s5:=(s2.trans s3).trans s4
   refine⟨ks++[t],by rw[map_append];rfl,s5.newT ht,?_⟩
   rw[M6.zfO,Int.add_comm (i:Int) 1]
   exact(r2.imp fun _ _=>TPl.stays K _ _ _ _ ((s3.trans s4).newT ht)).snoc (show TPl K _ t _ from SqT.new)
  ·rintro ys H2 ⟨ks,rfl,s2,r2⟩ l hl
   refine q l _ ks (s2.newT hl) ?_ zd (r2.imp fun _ _=>TPl.stays K _ _ _ _ (Same.new hl))
   cases e:H l with
   | none=>rfl
   | some u=>have:=s2 l u e;rw[hl] at this;cases this
def unlV:Option Int→V
 | none=>.non
 | some n=>.int n
inductive zbA (K:Frag) (vs:List V) (H:Hp) (Q:VK) (E:XK):Prop
 | mk (a b:Addr) (ms us:List Int) (f:Int):vs=[.ref a,.ref b]→SqL K H a (ms.map V.int)→SqL K H b (us.map V.int)→1≤ms.length→ms.length≤60→us.length≤60→((∀x∈ms,1≤x∧x≤24))→((∀x∈us,1≤x∧x≤24))→M3.isF ms f→M3.isF us f→(∀(r:Option Int)(H':Hp),Same H H'→M6.zjw ms us f r→Q (unlV r) H')→zbA K vs H Q E
theorem ziT{f:Addr}{fd:FuncData}(F:Fun K "unlike_at" "unlike_at" zec f fd)(T:Txt K mg)(c0d:Can P w K mg base 2 "granted" wS (zaD K))(c0l:Can P w K mg base 2 "granted_sum" yJ (wf K))(c0e:Can P w K mg base 2 "first_number" ["marks"] (yX K)):FnOk P w K mg base CX0 3 f fd zaq (zbA K):=by
 refine F.ok zeU (fun vs H Q E h=>?_) (fun cdv A outer s H vs Q E hr h=>?_)
 ·obtain⟨a,b,ms,us,f,rfl,_⟩:=h
  rfl
 ·obtain⟨a,b,ms,us,f,rfl,hA,hB,h1,hz,hz2,hm,hu,fF,fG,q⟩:=h
  refine⟨_,(zc (ym PassesOwn.never rfl (zaE rfl T.b_range (za (zg c0e (hM hr) rfl (za (pv 0) zb)) (za (zu yt (zB (zhs rfl) (by rfl) T.b_max boot_max (za (zu op_catS (pv 0) (pv 1)) zb)) zh) zb))) (zH (i:=2) zeU.nd rfl (Or.inl rfl))
   (zc (zcP (zx (zm yG (zg c0d (hM hr) rfl (za (pv 0) (za (pv 2) zb))) (zg c0d (hM hr) rfl (za (pv 1) (za (pv 2) zb))) (zp _)) (ze (zk (pv 2))) zo))
   (ze (zcP (zx (zm yG (zg c0l (hM hr) rfl (za (pv 0) (za (pv 2) zb))) (zg c0l (hM hr) rfl (za (pv 1) (za (pv 2) zb))) (zp _)) (ze (zk (pv 2))) zo)))))
   (ze (zk zfm))),?_⟩
  have hln:=zr
  have hne:ms≠[]:=by intro z;rw[z] at h1;simp at h1
  refine⟨_,rfl,a,ms,rfl,hA,hne,hz,hm,fun H1 f' s1 hf'=>?_⟩
  have ef:=M3.zbV hf' fF
  subst ef
  refine⟨_,rfl,_,rfl,a,b,_,_,rfl,rfl,s1.seq hA,s1.seq hB,(by rw[length_map,length_map];omega),fun l hl=>?_⟩
  rw[←map_append]
  refine⟨l,ms++us,rfl,SqL.new,(by rw[length_append];omega),fun M hM hMx=>?_⟩
  have hMr:1≤M∧M≤24:=by
   rcases List.mem_append.mp hM with z | z
   ·exact hm M z
   ·exact hu M z
  have hma:∀x∈ms,x≤M:=fun x hx=>hMx x (mem_append_left _ hx)
  have hub:∀x∈us,x≤M:=fun x hx=>hMx x (mem_append_right _ hx)
  have hfr:=M3.zcW hf' 1 M fun x hx=>⟨(hm x hx).1,hma x hx⟩
  refine⟨_,_,rfl,rfl,_,_,rfl,⟨by omega,by omega,by omega,by omega⟩,?_⟩
  generalize hH2:upd H1 l _=H2
  have s2:Same H H2:=by rw[←hH2];exact s1.newT hl
  refine zY (fun i σ H3=>∃v,σ=[some (.ref a),some (.ref b),v]∧Same H H3∧∀j,f'≤j→j<f'+i→M3.cnt ms j=M3.cnt us j∧M3.sm ms j=M3.sm us j) ⟨_,rfl,s2,fun j j1 j2=>by omega⟩ ?_ ?_
  ·rintro i σ H3 hi ⟨v,rfl,s3,hj⟩
   refine⟨fun σ' H'=>σ'=[some (.ref a),some (.ref b),some (.int (f'+i))]∧Same H H'∧M3.cnt ms (f'+i)=M3.cnt us (f'+i),?_,?_⟩
   ·refine⟨_,rfl,_,rfl,a,ms,_,rfl,s3.seq hA,by omega,fun H4 s4=>?_⟩
    refine⟨_,rfl,_,rfl,b,us,_,rfl,(s3.trans s4).seq hB,by omega,fun H5 s5=>?_⟩
    refine⟨rfl,_,rfl,yk (fun hne=>?_) (fun he=>?_)⟩
    ·refine⟨_,rfl,q (some (f'+i)) _ ((s3.trans s4).trans s5) ⟨by omega,by omega,hj,fun z=>hne (by rw[z.1])⟩⟩
    ·refine⟨rfl,(s3.trans s4).trans s5,?_⟩
     injection he with he
     omega
   ·rintro σ' H' ⟨rfl,s4,hcnt⟩
    refine⟨fun σ' H'=>σ'=[some (.ref a),some (.ref b),some (.int (f'+i))]∧Same H H'∧M3.sm ms (f'+i)=M3.sm us (f'+i),?_,?_⟩
    ·refine⟨_,rfl,_,rfl,a,ms,_,rfl,s4.seq hA,by omega,fun H5 s5=>?_⟩
     refine⟨_,rfl,_,rfl,b,us,_,rfl,(s4.trans s5).seq hB,by omega,fun H6 s6=>?_⟩
     refine⟨rfl,_,rfl,yk (fun hne=>?_) (fun he=>?_)⟩
     ·refine⟨_,rfl,q (some (f'+i)) _ ((s4.trans s5).trans s6) ⟨by omega,by omega,hj,fun z=>hne (by rw[z.2])⟩⟩
     ·refine⟨rfl,(s4.trans s5).trans s6,?_⟩
      injection he with he
    ·rintro σ' H'' ⟨rfl,s5,hsm⟩
     refine⟨_,rfl,s5,fun j j1 j2=>?_⟩
     by_cases c:j<f'+i
     ·exact hj j j1 c
     ·have:j=f'+i:=by omega
      subst this
      exact⟨hcnt,hsm⟩
  ·rintro σ H3 ⟨v,rfl,s3,hj⟩
   exact q none _ s3 (M6.unl_beyond hma hub hfr.2 fun j j1 j2=>hj j j1 (by omega))
inductive wq (K:Frag) (vs:List V) (H:Hp) (Q:VK) (E:XK):Prop
 | mk (p:Addr) (F:Addr→Prop) (S:Sh) (j:Str):vs=[.ref p,.str j]→SheetAt K H p F S→(∀(l:Addr)(H':Hp)(ks:List Addr),Same H H'→H l=none→H' l=some (.lst (ks.map V.ref))→All2 (IL K H') ks (S.cardsWo j)→Q (.ref l) H')→wq K vs H Q E
theorem zfN{f:Addr}{fd:FuncData}(F:Fun K "cards_without" "cards_without" wN f fd)(T:Txt K mg)(c0a:CanM P w K mg base 1 (zE K "Sheet") "handed" zI (zO K))(c0c:CanMX P w K mg base 2 (zE K "Sheet") "card_of" zR (yd K)):FnOk P w K mg base CX0 3 f fd yH (wq K):=by
 refine F.ok zfC (fun vs H Q E h=>?_) (fun cdv A outer s H vs Q E hr h=>?_)
 ·obtain⟨p,F,S,j,rfl,_⟩:=h
  rfl
 ·obtain⟨p,F,S,j,rfl,hSh,q⟩:=h
  refine⟨_,(ze (zk (zQ (show CompScope (zf wN) ["sheet","judge"] "other" ["sheet","judge"] [0,1] _ from csM) rfl (zw (zy c0a T.cl_Sheet (hM hr) (pv 0))) (fun _ _ _ _ _=>(yZ (zm yG (pv 0) (pv 2) (zp _)))) (fun _ _ _ _ _=>(wg c0c T.cl_Sheet zdC (hM hr) (pv 1) (za (pv 0) zb)))))),?_⟩
  have hln:=zr
  have h15:=hSh.ok.p15
  obtain⟨dx,b1,b2,b3,d,hip⟩:=hSh.ins
  refine⟨_,rfl,p,dx,_,rfl,hip,rfl,p,F,S,rfl,hSh.shape,h15,fun a H1 s1 f1 e1=>?_⟩
  have hl2:S.handed.length≤15:=le_trans (length_filter_le _ _) h15
  refine⟨a,rfl,⟨_,SqL.of e1⟩,?_⟩
  refine yI (xs:=S.handed.map V.str) (fun i ys H2=>∃ks:List Addr,ys=ks.map V.ref∧Same H1 H2∧All2 (IL K H2) ks (((S.handed.take i).filter fun i => !decide (i=j)).map fun i=>(S.card i).getD [])) ⟨[],rfl,Same.refl _,.nil⟩ ?_ (by rw[length_map];omega) ?_ ?_
  ·rintro i ys H2 hi ⟨ks,rfl,s2,r2⟩
   refine⟨s2.seq (SqL.of e1),?_⟩
   have h3:=r2.length
   have h4:=length_filter_le (fun i => !decide (i=j)) (S.handed.take i)
   rw[length_map] at h3
   rw[length_take] at h4
   rw[length_map]
   omega
  ·rintro i x ys H2 hx ⟨ks,rfl,s2,r2⟩
   obtain⟨hi,rfl⟩:=zbY hx
   have hm:=List.mem_filter.mp (show S.handed.getD i "" ∈ S.panel.filter fun j=>(S.card j).isSome from wC hi)
   have s12:=s1.trans s2
   refine⟨_,rfl,_,rfl,rfl,_,rfl,yk (fun hne=>?_) (fun he=>?_)⟩
   ·have hne:¬S.handed.getD i ""=j:=fun z=>hne (by rw[z])
    cases e:S.card (S.handed.getD i "")with
    | none=>rw[e] at hm;exact absurd hm.2 Bool.false_ne_true
    | some c =>
      refine⟨_,rfl,p,dx,_,rfl,s12 _ _ hip,rfl,_,rfl,p,F,S,_,rfl,hSh.same s12,fun hj=>absurd hm.1 hj,(fun _ z=>by rw[e] at z;cases z),fun c' e' l H3 s3 f3 e3=>?_⟩
      rw[e] at e'
      cases e'
      refine⟨ks++[l],by rw[map_append];rfl,s2.trans s3,?_⟩
      rw[yq hi,filter_append,filter_cons,if_pos (by rw[decide_eq_false hne];rfl),map_append]
      refine(r2.imp fun _ _=>IL.stays K _ _ _ _ s3).snoc ?_
      show IL K H3 l ((S.card (S.handed.getD i "")).getD [])
      rw[e]
      exact SqL.of e3
   ·have he:S.handed.getD i ""=j:=by injection he
    refine⟨ks,rfl,s2,?_⟩
    rw[yq hi,filter_append,filter_cons,if_neg (by rw[decide_eq_true he];decide),filter_nil,append_nil]
    exact r2
  ·rintro ys H2 ⟨ks,rfl,s2,r2⟩ l hl
   rw[length_map,take_length] at r2
   have s12:=s1.trans s2
   exact q l _ ks (s12.newT hl) (s12.free hl) zd (r2.imp fun _ _=>IL.stays K _ _ _ _ (Same.new hl))
inductive zds (K:Frag) (vs:List V) (H:Hp) (Q:VK) (E:XK):Prop
 | mk (a b:Addr) (cs:List (List Int)):vs=[.ref a,.ref b]→Refs K (IL K) H a cs→Refs K (IL K) H b cs→cs.length≤1000→((∀d∈cs,d.length≤1000))→Q (.bl true) H→zds K vs H Q E
theorem ziO{f:Addr}{fd:FuncData}(F:Fun K "_law_lists" "_law_lists" zd2 f fd)(T:Txt K mg)(c0h:Can P w K mg base 2 "_law_same" wV (zba K)):FnOk P w K mg base CX0 3 f fd zbw (zds K):=by
 refine F.ok zeS (fun vs H Q E h=>?_) (fun cdv A outer s H vs Q E hr h=>?_)
 ·obtain⟨a,b,cs,rfl,_⟩:=h
  rfl
 ·obtain⟨a,b,cs,rfl,⟨ls,hA,rA⟩,⟨ks,hB,rB⟩,hz,hd,q⟩:=h
  refine⟨_,(zc (zx (PW.pt (wU (zN (zK (zB wD (by rfl) T.b_isinstance boot_isinstance (za (pv 0) (za (wx (v:=V.ty "list") rfl T.b_list boot_list rfl) zb))))) (wj (zm yG (ya T.b_len (pv 0)) (ya T.b_len (pv 1)) (zp _))))) (ze (zk yj)) zo)
   (zc (ym PassesOwn.never rfl (zW rfl T.b_range (za (ya T.b_len (pv 1)) zb)) (zH (i:=2) zeS.nd rfl (Or.inl rfl))
     (ze (zx (zN (zK (zg c0h (hM hr) rfl (za (zq zn (pv 0) (pv 2) (fun _ _=>rfl)) (za (zq zn (pv 1) (pv 2) (fun _ _=>rfl)) zb))))) (ze (zk yj)) zo)))
   (ze (zk yj)))),?_⟩
  have la:=rA.length
  have lb:=rB.length
  refine⟨_,rfl,_,_,rfl,.yes hA,_,rfl,yT ?_⟩
  refine⟨_,rfl,a,_,rfl,.inl hA,_,rfl,b,_,rfl,.inl hB,rfl,_,rfl,?_⟩
  rw[length_map,length_map]
  refine yk (fun hne=>absurd (by rw[la,lb]) hne) (fun he=>?_)
  refine⟨_,rfl,b,_,rfl,.inl hB,_,rfl,by omega,by rw[length_map];omega,?_⟩
  rw[length_map]
  refine zY (fun i σ H2=>∃v,σ=[some (.ref a),some (.ref b),v]∧H2=H) ⟨_,rfl,rfl⟩ ?_ ?_
  ·rintro i σ H2 hi ⟨v,rfl,rfl⟩
   have hi':i<cs.length:=by rw[←lb];simpa using hi
   obtain⟨l,el,rl⟩:=rA.get (getElem?_eq_getElem hi')
   obtain⟨k,ek,rk⟩:=rB.get (getElem?_eq_getElem hi')
   have e1:atI (ls.map V.ref) (0+(i:Int))=some (.ref l):=by rw[Int.zero_add];exact zJ (yO el)
   have e2:atI (ks.map V.ref) (0+(i:Int))=some (.ref k):=by rw[Int.zero_add];exact zJ (yO ek)
   refine⟨_,rfl,_,rfl,a,_,_,_,rfl,rfl,hA,e1,_,rfl,_,rfl,b,_,_,_,rfl,rfl,hB,e2,l,k,_,_,rfl,rl,rk,by have:=hd _ (getElem_mem hi');omega,?_⟩
   rw[decide_eq_true rfl]
   exact⟨_,rfl,yT ⟨_,rfl,rfl⟩⟩
  ·rintro σ H2 ⟨v,rfl,rfl⟩
   exact q
inductive zcB (K:Frag) (vs:List V) (H:Hp) (Q:VK) (E:XK):Prop
 | mk (a b:Addr) (cs:List (List Int)) (us:List Int):vs=[.ref a,.ref b]→Refs K (IL K) H a cs→SqL K H b (us.map V.int)→((∀d∈cs,d.Perm us))→1≤cs.length→cs.length≤500→us.length≤500→(∀(l:Addr)(H':Hp),Same H H'→H l=none→H' l=some (.lst ((wa cs us).map V.int))→Q (.ref l) H')→zcB K vs H Q E
theorem zhI{f:Addr}{fd:FuncData}(F:Fun K "_law_firsts" "_law_firsts" zbs f fd)(T:Txt K mg)(c0p:Can P w K mg base 2 "_law_spots" wY (zbE K)):FnOk P w K mg base CX0 3 f fd zaR (zcB K):=by
 refine F.ok zeo (fun vs H Q E h=>?_) (fun cdv A outer s H vs Q E hr h=>?_)
 ·obtain⟨a,b,cs,us,rfl,_⟩:=h
  rfl
 ·obtain⟨a,b,cs,us,rfl,hA,hB,hp,c1,c15,u24,q⟩:=h
  refine⟨_,(zc (zt (i:=2) zeo.nd rfl (Or.inr rfl) (zg c0p (hM hr) rfl (za (pv 0) (za (pv 1) zb))))
   (ze (zk (zQ (show CompScope (zf zbs) zes "_law_k" ["_law_couples_here","_law_spots_here"] [1,2] _ from csM) rfl (zW rfl T.b_range (za (ya T.b_len (pv 1)) zb)) (fun _ _ _ _ _=>(yZ (zm zay (zq (zau (K:=K) rfl) (pv 2) (pv 0) (fun _ _=>rfl)) zh (zp _)))) (fun _ _ _ _ _=>(zq (zau (K:=K) rfl) (pv 1) (pv 0) (fun _ _=>rfl))))))),?_⟩
  have hln:=zr
  refine⟨_,rfl,_,rfl,a,b,cs,us,rfl,hA,hB,c15,u24,fun u hu d hd=>(hp d hd).mem_iff.mpr hu,fun l1 H1 s1 f1 e1=>?_⟩
  rw[M6.zbG hp c1] at e1
  have hpl:=M6.zS cs us
  refine⟨_,rfl,b,_,rfl,.inl (s1.seq hB),_,rfl,by omega,by rw[length_map];omega,?_⟩
  rw[length_map,show((us.length:Nat):Int).toNat=us.length by omega]
  refine zdg (fun i zs H2=>Same H1 H2∧zs=(zae (M6.zv cs us) us i).map V.int) ⟨Same.refl _,rfl⟩ ?_ (by omega) ?_ ?_
  ·rintro i zs H2 hi ⟨s2,rfl⟩
   rw[length_map]
   exact za5 _ _ _
  ·rintro i zs H2 hi ⟨s2,rfl⟩
   refine⟨_,rfl,_,rfl,l1,_,_,_,rfl,rfl,SqL.of (s2 _ _ e1),(by rw[Int.zero_add];exact zJ (y8 (by omega))),rfl,_,rfl,wv (fun he=>?_) (fun hne=>?_)⟩
   ·have he:(M6.zv cs us).getD i 0=1:=by injection he
    refine⟨_,rfl,_,rfl,b,_,_,_,rfl,rfl,(s1.trans s2).seq hB,(by rw[Int.zero_add];exact zJ (y8 hi)),s2,?_⟩
    rw[ww,if_pos he,map_append]
    rfl
   ·have hne:¬(M6.zv cs us).getD i 0=1:=fun z=>hne (by rw[z])
    refine⟨s2,?_⟩
    rw[ww,if_neg hne,append_nil]
  ·rintro zs H2 ⟨s2,rfl⟩ l hl
   have t2:=s1.trans s2
   exact q l _ (t2.newT hl) (t2.free hl) zd
inductive zcK (K:Frag) (vs:List V) (H:Hp) (Q:VK) (E:XK):Prop
 | mk (x dx a b:Addr) (us:List Int) (ts:List Str):vs=[.ref x,.ref a,.ref b]→H x=some (.ins (zE K "Sheet") dx [])→SqL K H a (us.map V.int)→us.length<4000→SqL K H b (ts.map V.str)→ts.length<4000→((∀z∈ts,z.length≤1000))→((M1.zdK us=false→∀C H',zdr K "BadCouples" C→Same H H'→E (.ref C) none H'))→((M1.zdK us=true→M2.ze3 ts=false→∀C H',zdr K "BadJudges" C→Same H H'→E (.ref C) none H'))→((M1.zdK us=true→M2.ze3 ts=true→∀H' F,SheetAt K H' x F (Sh.new us ts)→(∀b o,H b=some o→b≠x→H' b=some o∧¬F b)→Q .non H'))→zcK K vs H Q E
theorem zht{f:Addr}{fd:FuncData}(F:Fun K "__init__" "Sheet.__init__" zc6 f fd)(T:Txt K mg)(c02:Can P w K mg base 2 "good_couples" ["couples"] (zbf K))(c03:Can P w K mg base 3 "good_judges" ["judges"] (zb7 K)):FnOk P w K mg base (CX1 P w) 4 f fd zaT (zcK K):=by
 obtain⟨c_BadCouples,n_BadCouples,m_BadCouples,x_BadCouples⟩:=T.x_BadCouples
 obtain⟨c_BadJudges,n_BadJudges,m_BadJudges,x_BadJudges⟩:=T.x_BadJudges
 refine F.okX zhH (fun vs H Q E h=>?_) (fun X W cdv A outer s H vs Q E hX hW fl md hr h=>?_)
 ·obtain⟨x,dx,a,b,us,ts,rfl,_⟩:=h
  rfl
 ·obtain⟨x,dx,a,b,us,ts,rfl,hx,hA,hzA,hB,hzB,hzz,qC,qJ,q⟩:=h
  subst hX
  refine⟨_,(zc (zx (zN (zK (zg c02 (hM hr) rfl (za (pv 1) zb)))) (ze (wI rfl md rfl m_BadCouples x_BadCouples (za yf zb))) zo)
   (zc (zx (zN (zK (zg c03 (hM hr) rfl (za (pv 2) zb)))) (ze (wI rfl md rfl m_BadJudges x_BadJudges (za yf zb))) zo)
   (zc (zd5 (pv 0) (zM zP (by rfl) T.b_list boot_list (za (pv 1) zb)) rfl)
   (zc (zd5 (pv 0) (ye zb) rfl)
   (zc (zd5 (pv 0) (zM zP (by rfl) T.b_list boot_list (za (pv 2) zb)) rfl)
   (zc (zd5 (pv 0) pe_dnewK rfl)
   (zc (zd5 (pv 0) zh rfl)
   (ze (zd5 (pv 0) yj rfl))))))))),?_⟩
  refine⟨_,rfl,a,us,rfl,hA,hzA,fun H1 s1=>⟨_,rfl,?_⟩⟩
  cases hg:M1.zdK us with
  | false=>exact⟨(by show 1≤sizeLine;decide),by rw[hW];exact qC hg _ _ n_BadCouples s1⟩
  | true =>
    refine⟨_,rfl,b,ts,rfl,s1.seq hB,hzB,hzz,fun H2 s2=>⟨_,rfl,?_⟩⟩
    have s12:=s1.trans s2
    cases hj:M2.ze3 ts with
    | false=>exact⟨(by show 1≤sizeLine;decide),by rw[hW];exact qJ hg hj _ _ n_BadJudges s12⟩
    | true =>
      have x2:=s12 _ _ hx
      have k2:∀c o,H c=some o→c≠x→H2 c=some o:=fun c o e _=>s12 c o e
      refine⟨_,rfl,a,_,rfl,.inl (s12.seq hA),fun l1 hl1=>?_⟩
      have f1:=s12.free hl1
      obtain⟨x3,e1,n1,k3⟩:=zfd (o:=.lst (us.map V.int)) (u:=.ins (zE K "Sheet") dx [("standing",.ref l1)]) x2 hl1
      refine⟨_,rfl,x,_,dx,_,rfl,(by rw[zi (zj x2 hl1)];exact x2),T.cl_Sheet,T.n_Sheet_standing,(by decide),?_⟩
      rw[pf1]
      generalize hH3:upd (upd H2 l1 _) x _=H3 at x3 e1 k3 ⊢
      refine⟨(by show 0≤sizeLine;decide),fun l2 hl2=>?_⟩
      obtain⟨x4,e2,n2,k4⟩:=zfd (o:=.lst []) (u:=.ins (zE K "Sheet") dx [("standing",.ref l1),("struck_so_far",.ref l2)]) x3 hl2
      refine⟨_,rfl,x,_,dx,_,rfl,(by rw[zi (zj x3 hl2)];exact x3),T.cl_Sheet,T.n_Sheet_struck_so_far,(by show 1<1000;decide),?_⟩
      rw[pf2]
      generalize hH4:upd (upd H3 l2 _) x _=H4 at x4 e2 k4 ⊢
      have k24:∀c o,H c=some o→c≠x→H4 c=some o:=fun c o e n=>k4 c o (k3 c o (k2 c o e n) n) n
      have hB4:SqL K H4 b (ts.map V.str):=by
       rcases hB with(e | ⟨o,e⟩) | e
       ·exact .inl (.inl (k24 _ _ e (we e hx (by intro z;cases z))))
       ·exact .inl (.inr ⟨o,k24 _ _ e (we e hx (by intro z;cases z))⟩)
       ·exact .inr e
      refine⟨_,rfl,b,_,rfl,.inl hB4,fun l3 hl3=>?_⟩
      obtain⟨x5,e3,n3,k5⟩:=zfd (o:=.lst (ts.map V.str)) (u:=.ins (zE K "Sheet") dx [("standing",.ref l1),("struck_so_far",.ref l2),("panel",.ref l3)]) x4 hl3
      refine⟨_,rfl,x,_,dx,_,rfl,(by rw[zi (zj x4 hl3)];exact x4),T.cl_Sheet,T.n_Sheet_panel,(by show 2<1000;decide),?_⟩
      rw[pf3]
      generalize hH5:upd (upd H4 l3 _) x _=H5 at x5 e3 k5 ⊢
      intro d hd
      obtain⟨x6,e4,n4,k6⟩:=zfd (o:=.dK []) (u:=.ins (zE K "Sheet") dx [("standing",.ref l1),("struck_so_far",.ref l2),("panel",.ref l3),("card_by_judge",.ref d)]) x5 hd
      refine⟨_,rfl,x,_,dx,_,rfl,(by rw[zi (zj x5 hd)];exact x5),T.cl_Sheet,T.n_Sheet_card_by_judge,(by show 3<1000;decide),?_⟩
      rw[pf4]
      generalize hH6:upd (upd H5 d _) x _=H6 at x6 e4 k6 ⊢
      refine⟨_,rfl,x,_,dx,_,rfl,x6,T.cl_Sheet,T.n_Sheet_taken_so_far,(by show 4<1000;decide),?_⟩
      rw[pf5]
      refine⟨_,rfl,x,_,dx,_,rfl,zd,T.cl_Sheet,T.n_Sheet_sealed,(by show 5<1000;decide),?_⟩
      rw[pf6,upd_upd]
      have keep:∀c o,H6 c=some o→c≠x→upd H6 x (.ins (zE K "Sheet") dx (shF l1 l2 l3 d (Sh.new us ts))) c=some o:=fun c o e n=>by rw[zi n];exact e
      have g1:H6 l1=some (.lst (us.map V.int)):=k6 _ _ (k5 _ _ (k4 _ _ e1 n1) n1) n1
      have g2:H6 l2=some (.lst []):=k6 _ _ (k5 _ _ e2 n2) n2
      have g3:H6 l3=some (.lst (ts.map V.str)):=k6 _ _ e3 n3
      refine q hg hj (upd H6 x (.ins (zE K "Sheet") dx (shF l1 l2 l3 d (Sh.new us ts)))) (fun c=>c=x∨c=l1∨c=l2∨c=l3∨c=d) ⟨dx,l1,l2,l3,d,[],?_⟩ fun c o e n=>⟨?_,?_⟩
      ·refine⟨⟨zd,keep _ _ g1 n1,keep _ _ g2 n2,keep _ _ g3 n3,keep _ _ e4 n4,zero_le _,fun _ _=>rfl,(fun _ _ z=>nomatch z),.inl rfl,.inr (.inl rfl),.inr (.inr (.inl rfl)),.inr (.inr (.inr (.inl rfl))),.inr (.inr (.inr (.inr rfl))),?_,?_,?_⟩,Sh.Ok.new hg hj⟩
       ·exact zj e1 hl2
       ·exact fun z=>zj (k4 _ _ (show H3 l1=_ from e1) n1) hl3 (by rw[z] at hl3;rw[e2] at hl3;cases hl3)
       ·rintro c (rfl | rfl | rfl | rfl | rfl)
        ·rw[zd];exact fun z=>nomatch z
        ·rw[keep _ _ g1 n1];exact fun z=>nomatch z
        ·rw[keep _ _ g2 n2];exact fun z=>nomatch z
        ·rw[keep _ _ g3 n3];exact fun z=>nomatch z
        ·rw[keep _ _ e4 n4];exact fun z=>nomatch z
      ·exact keep _ _ (k6 _ _ (k5 _ _ (k24 _ _ e n) n) n) n
      ·have e2':=k2 _ _ e n
       have e3':=k3 _ _ e2' n
       have e4':=k4 _ _ e3' n
       have e5':=k5 _ _ e4' n
       rintro (z | z | z | z | z)
       ·exact n z
       ·rw[z,hl1] at e2';cases e2'
       ·rw[z,hl2] at e3';cases e3'
       ·rw[z,hl3] at e4';cases e4'
       ·rw[z,hd] at e5';cases e5'
inductive zd8 (K:Frag) (vs:List V) (H:Hp) (Q:VK) (E:XK):Prop
 | mk (a b:Addr) (ms us:List Int):vs=[.ref a,.ref b]→SqL K H a (ms.map V.int)→SqL K H b (us.map V.int)→ms.length=us.length→1≤ms.length→ms.length≤60→((∀x∈ms,1≤x∧x≤24))→((∀x∈us,1≤x∧x≤24))→(∀H',Same H H'→Q (.bl (M6.yl ms us 24)) H')→zd8 K vs H Q E
theorem zjm{f:Addr}{fd:FuncData}(F:Fun K "is_ahead" "is_ahead" zeN f fd)(T:Txt K mg)(c0d:Can P w K mg base 2 "granted" wS (zaD K))(c0l:Can P w K mg base 2 "granted_sum" yJ (wf K))(c0e:Can P w K mg base 2 "first_number" ["marks"] (yX K))(c0z:Can P w K mg base 3 "unlike_at" zaq (zbA K)):FnOk P w K mg base CX0 4 f fd zcq (zd8 K):=by
 refine F.ok zfU (fun vs H Q E h=>?_) (fun cdv A outer s H vs Q E hr h=>?_)
 ·obtain⟨a,b,ms,us,rfl,_⟩:=h
  rfl
 ·obtain⟨a,b,ms,us,rfl,hA,hB,hl,h1,hz,hm,hu,q⟩:=h
  refine⟨_,(zc (zx (zm yG (zg c0e (hM hr) rfl (za (pv 0) zb)) (zg c0e (hM hr) rfl (za (pv 1) zb)) (zp _)) (ze (zk (zbB op_lt (zg c0e (hM hr) rfl (za (pv 0) zb)) (zg c0e (hM hr) rfl (za (pv 1) zb)) (zp _)))) zo)
   (zc (zt (i:=2) zfU.nd rfl (Or.inl rfl) (zg c0z (hM hr) rfl (za (pv 0) (za (pv 1) zb))))
   (zc (zx (zm op_isN (pv 2) zfm (zp _)) (ze (zk yj)) zo)
   (zc (zx (zm yG (zg c0d (hM hr) rfl (za (pv 0) (za (pv 2) zb))) (zg c0d (hM hr) rfl (za (pv 1) (za (pv 2) zb))) (zp _)) (ze (zk (zbB zgU (zg c0d (hM hr) rfl (za (pv 0) (za (pv 2) zb))) (zg c0d (hM hr) rfl (za (pv 1) (za (pv 2) zb))) (zp _)))) zo)
   (ze (zk (zbB op_lt (zg c0l (hM hr) rfl (za (pv 0) (za (pv 2) zb))) (zg c0l (hM hr) rfl (za (pv 1) (za (pv 2) zb))) (zp _)))))))),?_⟩
  have hne:ms≠[]:=by intro z;rw[z] at h1;simp at h1
  have hne2:us≠[]:=by intro z;rw[z] at hl;have:ms.length=0:=hl;omega
  refine⟨_,rfl,a,ms,rfl,hA,hne,hz,hm,fun H1 f s1 hf=>?_⟩
  refine⟨_,rfl,b,us,rfl,s1.seq hB,hne2,by omega,hu,fun H2 g s2 hg=>?_⟩
  have fr:=M3.zcW hf 1 24 hm
  have gr:=M3.zcW hg 1 24 hu
  have t2:=s1.trans s2
  refine⟨rfl,_,rfl,yk (fun hfg=>?_) (fun hfg=>?_)⟩
  ·refine⟨_,rfl,a,ms,rfl,t2.seq hA,hne,hz,hm,fun H3 f' s3 hf'=>?_⟩
   have t3:=t2.trans s3
   refine⟨_,rfl,b,us,rfl,t3.seq hB,hne2,by omega,hu,fun H4 g' s4 hg'=>?_⟩
   have ef:=M3.zbV hf' hf
   have eg:=M3.zbV hg' hg
   subst ef eg
   refine⟨_,_,rfl,rfl,?_⟩
   have hfg:f'≠g':=fun z=>hfg (by rw[z])
   have e:decide (f'<g')=M6.yl ms us 24:=by
    by_cases c:f'<g'
    ·rw[decide_eq_true c,M6.ahead_lt hf' hg' c fr.1 fr.2]
    ·rw[decide_eq_false c,M6.ahead_gt hf' hg' (by omega) gr.1 gr.2]
   show Q (.bl (decide (f'<g'))) H4
   rw[e]
   exact q _ (t3.trans s4)
  ·injection hfg with hfg
   subst hfg
   refine⟨_,rfl,_,rfl,a,b,ms,us,f,rfl,t2.seq hA,t2.seq hB,h1,hz,by omega,hm,hu,hf,hg,fun r H3 s3 hr'=>?_⟩
   have t3:=t2.trans s3
   cases r with
   | none =>
     refine⟨_,rfl,rfl,_,rfl,wv (fun _=>?_) (fun z=>absurd rfl z)⟩
     rw[M6.ahead_none (M6.zhT hf hg hr')] at q
     exact q _ t3
   | some n =>
     refine⟨_,rfl,rfl,_,rfl,wv (fun z=>nomatch z) (fun _=>?_)⟩
     rw[M6.ahead_at hf hg fr.1 hr'] at q
     refine⟨_,rfl,_,rfl,a,ms,_,rfl,t3.seq hA,by omega,fun H4 s4=>?_⟩
     refine⟨_,rfl,_,rfl,b,us,_,rfl,(t3.trans s4).seq hB,by omega,fun H5 s5=>?_⟩
     have t5:=(t3.trans s4).trans s5
     refine⟨rfl,_,rfl,yk (fun hc=>?_) (fun hc=>?_)⟩
     ·rw[if_neg fun z=>hc (by rw[z])] at q
      refine⟨_,rfl,_,rfl,a,ms,_,rfl,t5.seq hA,by omega,fun H6 s6=>?_⟩
      refine⟨_,rfl,_,rfl,b,us,_,rfl,(t5.trans s6).seq hB,by omega,fun H7 s7=>?_⟩
      exact⟨_,_,rfl,rfl,q _ ((t5.trans s6).trans s7)⟩
     ·injection hc with hc
      rw[if_pos hc] at q
      refine⟨_,rfl,_,rfl,a,ms,_,rfl,t5.seq hA,by omega,fun H6 s6=>?_⟩
      refine⟨_,rfl,_,rfl,b,us,_,rfl,(t5.trans s6).seq hB,by omega,fun H7 s7=>?_⟩
      exact⟨_,_,rfl,rfl,q _ ((t5.trans s6).trans s7)⟩
inductive zcF (K:Frag) (vs:List V) (H:Hp) (Q:VK) (E:XK):Prop
 | mk (a b:Addr) (ms us:List Int):vs=[.ref a,.ref b]→SqL K H a (ms.map V.int)→SqL K H b (us.map V.int)→ms.length=us.length→1≤ms.length→ms.length≤60→((∀x∈ms,1≤x∧x≤24))→((∀x∈us,1≤x∧x≤24))→(∀r,M6.yL ms us 24 r→∀(x:V)(H':Hp),Same H H'→Told K H' x r→Q x H')→zcF K vs H Q E
theorem zhE{f:Addr}{fd:FuncData}(F:Fun K "parting_of" "parting_of" zdk f fd)(T:Txt K mg)(c0d:Can P w K mg base 2 "granted" wS (zaD K))(c0e:Can P w K mg base 2 "first_number" ["marks"] (yX K))(c0z:Can P w K mg base 3 "unlike_at" zaq (zbA K)):FnOk P w K mg base CX0 4 f fd zaZ (zcF K):=by
 refine F.ok zem (fun vs H Q E h=>?_) (fun cdv A outer s H vs Q E hr h=>?_)
 ·obtain⟨a,b,ms,us,rfl,_⟩:=h
  rfl
 ·obtain⟨a,b,ms,us,rfl,hA,hB,hl,h1,hz,hm,hu,q⟩:=h
  refine⟨_,(zc (zx (zm yG (zg c0e (hM hr) rfl (za (pv 0) zb)) (zg c0e (hM hr) rfl (za (pv 1) zb)) (zp _)) (ze (zk (zb9 (za (zB (call_min2 rfl) (by rfl) T.b_min boot_min (za (zg c0e (hM hr) rfl (za (pv 0) zb)) (za (zg c0e (hM hr) rfl (za (pv 1) zb)) zb))) (za yf zb))))) zo)
   (zc (zt (i:=2) zem.nd rfl (Or.inl rfl) (zg c0z (hM hr) rfl (za (pv 0) (za (pv 1) zb))))
   (zc (zx (zm op_isN (pv 2) zfm (zp _)) (ze (zk zfm)) zo)
   (zc (zx (zm yG (zg c0d (hM hr) rfl (za (pv 0) (za (pv 2) zb))) (zg c0d (hM hr) rfl (za (pv 1) (za (pv 2) zb))) (zp _)) (ze (zk (zb9 (za (pv 2) (za yf zb))))) zo)
   (ze (zk (zb9 (za (pv 2) (za yf zb))))))))),?_⟩
  have hne:ms≠[]:=by intro z;rw[z] at h1;simp at h1
  have hne2:us≠[]:=by intro z;rw[z] at hl;have:ms.length=0:=hl;omega
  refine⟨_,rfl,a,ms,rfl,hA,hne,hz,hm,fun H1 f s1 hf=>?_⟩
  refine⟨_,rfl,b,us,rfl,s1.seq hB,hne2,by omega,hu,fun H2 g s2 hg=>?_⟩
  have fr:=M3.zcW hf 1 24 hm
  have gr:=M3.zcW hg 1 24 hu
  have t2:=s1.trans s2
  refine⟨rfl,_,rfl,yk (fun hfg=>?_) (fun hfg=>?_)⟩
  ·refine⟨_,rfl,a,ms,rfl,t2.seq hA,hne,hz,hm,fun H3 f' s3 hf'=>?_⟩
   have t3:=t2.trans s3
   refine⟨_,rfl,b,us,rfl,t3.seq hB,hne2,by omega,hu,fun H4 g' s4 hg'=>?_⟩
   have ef:=M3.zbV hf' hf
   have eg:=M3.zbV hg' hg
   subst ef eg
   refine⟨_,_,rfl,(by show 2≤sizeLine;decide),fun t ht=>?_⟩
   have hfg:f'≠g':=fun z=>hfg (by rw[z])
   by_cases c:g'<f'
   ·rw[if_pos c]
    refine q (some (g'.toNat,"half")) (M6.part_gt hf' hg' c gr.1 gr.2) _ _ ((t3.trans s4).newT ht) ⟨t,rfl,?_⟩
    have e:((g'.toNat:Nat):Int)=g':=by omega
    dsimp only
    rw[e]
    exact SqT.new
   ·rw[if_neg c]
    refine q (some (f'.toNat,"half")) (M6.zit hf' hg' (by omega) fr.1 fr.2) _ _ ((t3.trans s4).newT ht) ⟨t,rfl,?_⟩
    have e:((f'.toNat:Nat):Int)=f':=by omega
    dsimp only
    rw[e]
    exact SqT.new
  ·injection hfg with hfg
   subst hfg
   refine⟨_,rfl,_,rfl,a,b,ms,us,f,rfl,t2.seq hA,t2.seq hB,h1,hz,by omega,hm,hu,hf,hg,fun r H3 s3 hr'=>?_⟩
   have t3:=t2.trans s3
   cases r with
   | none =>
     refine⟨_,rfl,rfl,_,rfl,wv (fun _=>?_) (fun z=>absurd rfl z)⟩
     exact q none (M6.zhT hf hg hr') _ _ t3 rfl
   | some n =>
     refine⟨_,rfl,rfl,_,rfl,wv (fun z=>nomatch z) (fun _=>?_)⟩
     have hp:=M6.zhU hf hg fr.1 hr'
     have e:((n.toNat:Nat):Int)=n:=by have:=hr'.1;omega
     refine⟨_,rfl,_,rfl,a,ms,_,rfl,t3.seq hA,by omega,fun H4 s4=>?_⟩
     refine⟨_,rfl,_,rfl,b,us,_,rfl,(t3.trans s4).seq hB,by omega,fun H5 s5=>?_⟩
     have t5:=(t3.trans s4).trans s5
     refine⟨rfl,_,rfl,yk (fun hc=>?_) (fun hc=>?_)⟩
     ·rw[if_neg fun z=>hc (by rw[z])] at hp
      refine⟨_,rfl,(by show 2≤sizeLine;decide),fun t ht=>?_⟩
      refine q _ hp _ _ (t5.newT ht) ⟨t,rfl,?_⟩
      dsimp only
      rw[e]
      exact SqT.new
     ·injection hc with hc
      rw[if_pos hc] at hp
      refine⟨_,rfl,(by show 2≤sizeLine;decide),fun t ht=>?_⟩
      refine q _ hp _ _ (t5.newT ht) ⟨t,rfl,?_⟩
      dsimp only
      rw[e]
      exact SqT.new
inductive zdJ (K:Frag) (vs:List V) (H:Hp) (Q:VK) (E:XK):Prop
 | mk (x:Addr) (F:Addr→Prop) (S:Sh) (p c:Int):vs=[.ref x,.int p,.int c]→SheetAt K H x F S→c∈S.couples→p.natAbs≤990→(∀H',Same H H'→Q (.str (M6.rowT p c (M5.zl S.cardsIn c) S.couples.length)) H')→zdJ K vs H Q E
theorem zjG{f:Addr}{fd:FuncData}(F:Fun K "row_text" "row_text" zb4 f fd)(T:Txt K mg)(c0n:Can P w K mg base 2 "marks_of" wW (za7 K))(c04:Can P w K mg base 3 "ladder_of" zbx (zdo K))(c0:CanM P w K mg base 1 (zE K "Sheet") "couples" zz (zD K))(c0b:CanM P w K mg base 3 (zE K "Sheet") "cards" zZ (yg K)):FnOk P w K mg base CX0 4 f fd zcf (zdJ K):=by
 refine F.ok za3 (fun vs H Q E h=>?_) (fun cdv A outer s H vs Q E hr h=>?_)
 ·obtain⟨x,F,S,p,c,rfl,_⟩:=h
  rfl
 ·obtain⟨x,F,S,p,c,rfl,hSh,hc,hp,q⟩:=h
  refine⟨_,(zc (zt (i:=3) za3.nd rfl (Or.inl rfl) (zg c0n (hM hr) rfl (za (zy c0b T.cl_Sheet (hM hr) (pv 0)) (za (pv 2) zb))))
   (zc (zt (i:=4) za3.nd rfl (Or.inl rfl) (zg c04 (hM hr) rfl (za (pv 3) (za (ya T.b_len (zy c0 T.cl_Sheet (hM hr) (pv 0))) zb))))
   (zc (zt (i:=5) za3.nd rfl (Or.inl rfl) (ye (za (zM zcZ (by rfl) T.b_str boot_str (za (pv 1) zb)) (za (zM zcZ (by rfl) T.b_str boot_str (za (pv 2) zb)) zb))))
   (zc (zfZ (i:=6) (show CompScope2 (zf zb4) zdZ "many" "total" [] [] _ from csM2) rfl za3.nd rfl (Or.inl rfl) (zw (pv 4)) (fun _ _ _ _ _=>yu) (fun _ _ _ _ _=>(pe_fstr (zeh (pe_fmt (pv 0)) (zeh yf (zeh (pe_fmt (pv 1)) pj_nil))))))
   (ze (zk (zaf PySem.F.plainAttrs_str PySem.F.slot_str_join PySem.F.type_str_join ms_join yf (za (zu zaF (zu zaF (zu zaF (zu zaF (pv 5) (ye (za yf zb))) (zQ (show CompScope (zf zb4) zdZ "mark" [] [] _ from csM) rfl (zw (pv 3)) (fun _ _ _ _ _=>yu) (fun _ _ _ _ _=>(zM zcZ (by rfl) T.b_str boot_str (za (pv 0) zb))))) (ye (za yf zb))) (pv 6)) zb)))))))),?_⟩
  have hln:=zr
  have ok:=hSh.ok
  have h15:S.handed.length≤15:=le_trans (length_filter_le _ _) ok.p15
  have hil:=Sh.cardsIn_len S
  have hip:=Sh.cardsIn_perm ok
  have c24:=ok.c24
  have hcr:=ok.rng c hc
  obtain⟨dx,b1,b2,b3,d,hi⟩:=hSh.ins
  refine⟨_,rfl,x,dx,_,rfl,hi,rfl,x,F,S,rfl,hSh,fun l1 H1 ks s1 f1 e1 r1=>?_⟩
  refine⟨_,rfl,l1,S.cardsIn,c,rfl,⟨ks,SqL.of e1,r1.imp fun _ _ z=>SqL.of z.2⟩,by omega,fun d hd=>(hip d hd).mem_iff.mpr hc,fun l2 H2 s2 f2 e2=>?_⟩
  have hx:∀y∈M5.zl S.cardsIn c,1≤y∧y≤24:=fun y hy=>by have:=M6.yw hip hc y hy;omega
  have hml:=M5.zV S.cardsIn c
  generalize M5.zl S.cardsIn c=ms at e2 hml hx q
  have t2:=s1.trans s2
  refine⟨_,rfl,_,rfl,x,dx,_,rfl,t2 _ _ hi,rfl,x,F,S,rfl,hSh.same t2,fun l3 H3 s3 f3 e3=>?_⟩
  refine⟨l3,_,rfl,.inl (SqL.of e3),?_⟩
  rw[length_map]
  refine⟨l2,ms,_,rfl,SqL.of (s3 _ _ e2),by omega,by omega,by omega,fun l4 H4 ls s4 f4 e4 r4=>?_⟩
  rw[show((S.couples.length:Nat):Int).toNat=S.couples.length by omega] at r4
  have t4:=(t2.trans s3).trans s4
  refine⟨_,rfl,.inl ⟨_,rfl,zdM (by omega),_,rfl,.inl ⟨_,rfl,zdM (by omega),(by show 2≤sizeLine;decide),fun l5 hl5=>?_⟩⟩⟩
  have s5:=Same.new (o:=.lst ([tN p,tN c].map V.str)) hl5
  have e5:upd H4 l5 (.lst ([tN p,tN c].map V.str)) l5=some (.lst ([tN p,tN c].map V.str)):=zd
  change Same H4 (upd H4 l5 (.lst [.str (Str.ofString (toString p)),.str (Str.ofString (toString c))]))at s5
  change upd H4 l5 (.lst [.str (Str.ofString (toString p)),.str (Str.ofString (toString c))]) l5=_ at e5
  generalize hH5:upd H4 l5 _=H5 at s5 e5 ⊢
  have e45:=s5 _ _ e4
  have r45:=r4.imp fun _ _=>TPl.stays K _ _ _ _ s5
  refine⟨_,rfl,l4,rfl,⟨_,SqL.of e45⟩,?_⟩
  refine zex (f:=M6.ziX) (SqL.of e45) r45 (by rw[M6.zc4];omega) (fun pr H' R hpr s' h=>?_) fun H6 s6=>?_
  ·obtain⟨k,hk,rfl⟩:=List.mem_map.mp hpr
   have hcn:=M3.zc5 ms ((k:Int)+1)
   have hsm:=M6.zgw hx ((k:Int)+1)
   have hsl:=M6.zfI (by omega) hx ((k:Int)+1)
   dsimp only at h ⊢
   refine⟨_,rfl,.inl ⟨_,rfl,zdM (by omega),_,rfl,?_,_,rfl,?_,_,rfl,.inl ⟨_,rfl,zdM (by omega),_,rfl,?_,?_,?_⟩⟩⟩
   all_goals unfold tN at hsl
   all_goals have l0:Str.empty.length=0:=rfl
   all_goals have l1:(Str.ofString "/").length=1:=M6.ziW
   ·rw[yR];omega
   ·rw[yR,yR];omega
   ·rw[yR,yR,yR];omega
   ·rw[yR,yR,yR];omega
   ·rw[M6.emp_app]
    exact h H' (Same.refl _)
  intro l6 hl6
  have s7:=(s5.trans s6).newT (o:=.lst ((M6.zdF ms S.couples.length).map V.str)) hl6
  have e7:upd H6 l6 (.lst ((M6.zdF ms S.couples.length).map V.str)) l6=some (.lst ((M6.zdF ms S.couples.length).map V.str)):=zd
  have e57:=(s6.newT (o:=.lst ((M6.zdF ms S.couples.length).map V.str)) hl6) _ _ e5
  change Same H4 (upd H6 l6 (.lst (((M6.zbn ms S.couples.length).map M6.ziX).map V.str)))at s7
  change upd H6 l6 (.lst (((M6.zbn ms S.couples.length).map M6.ziX).map V.str)) l6=_ at e7
  change upd H6 l6 (.lst (((M6.zbn ms S.couples.length).map M6.ziX).map V.str)) l5=_ at e57
  generalize hH7:upd H6 l6 _=H7 at s7 e7 e57 ⊢
  have m7:H7 l2=some (.lst (ms.map V.int)):=s7 _ _ (s4 _ _ (s3 _ _ e2))
  refine⟨rfl,_,rfl,(by show 1≤sizeLine;decide),fun l7 hl7=>?_⟩
  have s8:=Same.new (o:=.lst [.str M6.bar]) hl7
  change Same H7 (upd H7 l7 (.lst [.str (Str.ofString "|")]))at s8
  refine⟨l5,l7,_,[.str M6.bar],rfl,rfl,s8 _ _ e57,zd,(by show 3≤sizeLine;decide),fun l8 hl8=>?_⟩
  have s9:=s8.newT (o:=.lst (([tN p,tN c]++[M6.bar]).map V.str)) hl8
  have e9:upd (upd H7 l7 (.lst [.str (Str.ofString "|")])) l8 (.lst (([tN p,tN c]++[M6.bar]).map V.str)) l8=some (.lst (([tN p,tN c]++[M6.bar]).map V.str)):=zd
  change Same H7 (upd (upd H7 l7 (.lst [.str (Str.ofString "|")])) l8 (.lst ([tN p,tN c].map V.str++[.str M6.bar])))at s9
  change upd (upd H7 l7 (.lst [.str (Str.ofString "|")])) l8 (.lst ([tN p,tN c].map V.str++[.str M6.bar])) l8=_ at e9
  generalize hH9:upd (upd H7 l7 _) l8 _=H9 at s9 e9 ⊢
  have m9:=s9 _ _ m7
  refine⟨_,rfl,l2,rfl,⟨_,SqL.of m9⟩,?_⟩
  refine comp_strN (f:=tN) (SqL.of m9) (by omega) (fun y H' R hy s' h=>⟨_,rfl,.inl ⟨_,rfl,zdM (by have:=hx y hy;omega),h H' (Same.refl _)⟩⟩) fun H10 s10=>?_
  intro l9 hl9
  have s11:=s10.newT (o:=.lst ((ms.map tN).map V.str)) hl9
  refine⟨l8,l9,_,_,rfl,rfl,s11 _ _ e9,zd,by rw[length_map,length_map,length_map];simp only[length_append,length_cons,length_nil];omega,fun l10 hl10=>?_⟩
  rw[←map_append]
  have s12:=s11.newT (o:=.lst (([tN p,tN c]++[M6.bar]++ms.map tN).map V.str)) hl10
  have e12:upd (upd H10 l9 (.lst ((ms.map tN).map V.str))) l10 (.lst (([tN p,tN c]++[M6.bar]++ms.map tN).map V.str)) l10=some (.lst (([tN p,tN c]++[M6.bar]++ms.map tN).map V.str)):=zd
  generalize hH12:upd (upd H10 l9 _) l10 _=H12 at s12 e12 ⊢
  refine⟨(by show 1≤sizeLine;decide),fun l11 hl11=>?_⟩
  have s13:=Same.new (o:=.lst [.str M6.bar]) hl11
  change Same H12 (upd H12 l11 (.lst [.str (Str.ofString "|")]))at s13
  refine⟨l10,l11,_,[.str M6.bar],rfl,rfl,s13 _ _ e12,zd,by rw[length_map];simp only[length_append,length_map,length_cons,length_nil];omega,fun l12 hl12=>?_⟩
  rw[show([tN p,tN c]++[M6.bar]++ms.map tN).map V.str++[V.str M6.bar]=([tN p,tN c]++[M6.bar]++ms.map tN++[M6.bar]).map V.str by rw[map_append (l₂:=[M6.bar])];rfl]
  have s14:=s13.newT (o:=.lst (([tN p,tN c]++[M6.bar]++ms.map tN++[M6.bar]).map V.str)) hl12
  have e14:upd (upd H12 l11 (.lst [.str (Str.ofString "|")])) l12 (.lst (([tN p,tN c]++[M6.bar]++ms.map tN++[M6.bar]).map V.str)) l12=some (.lst (([tN p,tN c]++[M6.bar]++ms.map tN++[M6.bar]).map V.str)):=zd
  generalize hH14:upd (upd H12 l11 _) l12 _=H14 at s14 e14 ⊢
  have hlw:=M6.zjh ms S.couples.length
  refine⟨_,rfl,l12,l6,_,_,rfl,rfl,e14,s14 _ _ (s12 _ _ (s9 _ _ e7)),by simp only[length_append,length_map,length_cons,length_nil];omega,fun l13 hl13=>?_⟩
  rw[←map_append]
  refine⟨_,l13,M6.rowW p c ms S.couples.length,rfl,rfl,SqL.new,by decide +kernel,?_,M6.zgW (by omega) hx hp (by omega) _,?_⟩
  ·unfold M6.rowW
   simp only[length_append,length_map,length_cons,length_nil]
   omega
  ·exact q _ ((((((t4.trans s7).trans s9).trans s12).trans s14)).newT hl13)
inductive zcQ (K:Frag) (vs:List V) (H:Hp) (Q:VK) (E:XK):Prop
 | mk (p:Addr) (F:Addr→Prop) (S:Sh) (a1 a2 a3 a4:Addr):vs=[.ref p,.ref a1,.ref a2,.ref a3,.ref a4,.int S.taken,.bl S.shut]→SheetAt K H p F S→SqL K H a1 (S.panel.map V.str)→SqL K H a2 (S.couples.map V.int)→SqL K H a3 (S.struck.map V.int)→Refs K (IL K) H a4 S.rows→(∀H',Same H H'→Q (.bl true) H')→zcQ K vs H Q E
theorem zhp{f:Addr}{fd:FuncData}(F:Fun K "_law_stands" "_law_stands" wz f fd)(T:Txt K mg)(c0g:Can P w K mg base 1 "_law_whole" yA (yP K))(c0h:Can P w K mg base 2 "_law_same" wV (zba K))(c0q:Can P w K mg base 1 "_law_texts" zao (zbz K))(c05:Can P w K mg base 3 "_law_lists" zbw (zds K))(c0:CanM P w K mg base 1 (zE K "Sheet") "couples" zz (zD K))(c0A:CanM P w K mg base 1 (zE K "Sheet") "struck" ["self"] (wP K))(c0B:CanM P w K mg base 1 (zE K "Sheet") "judges" ["self"] (wO K))(c0a:CanM P w K mg base 1 (zE K "Sheet") "handed" zI (zO K))(c0b:CanM P w K mg base 3 (zE K "Sheet") "cards" zZ (yg K))(c0c:CanMX P w K mg base 2 (zE K "Sheet") "card_of" zR (yd K))(c06:CanM P w K mg base 1 (zE K "Sheet") "taken" ["self"] (zbK K))(c07:CanM P w K mg base 1 (zE K "Sheet") "is_sealed" ["self"] (wR K)):FnOk P w K mg base CX0 4 f fd zaP (zcQ K):=by
 refine F.ok wE (fun vs H Q E h=>?_) (fun cdv A outer s H vs Q E hr h=>?_)
 ·obtain⟨p,F,S,a1,a2,a3,a4,rfl,_⟩:=h
  rfl
 ·obtain⟨p,F,S,a1,a2,a3,a4,rfl,hSh,hA1,hA2,hA3,⟨ls,hA4,hR⟩,q⟩:=h
  refine⟨_,(zc (zx (PW.pt (wU (zN (zK (zg c0h (hM hr) rfl (za (zy c0 T.cl_Sheet (hM hr) (pv 0)) (za (pv 2) zb))))) (wj (zN (zK (zg c0h (hM hr) rfl (za (zy c0A T.cl_Sheet (hM hr) (pv 0)) (za (pv 3) zb)))))))) (ze (zk yj)) zo)
   (zc (yV (i:=7) (show CompScope (zf wz) zaK "_law_k" ["_law_cards"] [4] _ from csM) rfl wE.nd rfl (Or.inl rfl) (zW rfl T.b_range (za (ya T.b_len (pv 1)) zb)) (fun _ _ _ _ _=>(yZ (zm (zck (K:=K) rfl hr.units0) (zq (zau (K:=K) rfl) (pv 1) (pv 0) (fun _ _=>rfl)) (ye zb) (zp _)))) (fun _ _ _ _ _=>(pv 0)))
   (zc (zx (PW.pt (wU (zN (zK (zg c0q (hM hr) rfl (za (zy c0B T.cl_Sheet (hM hr) (pv 0)) (za (pv 1) zb))))) (wj (zN (zK (zg c0q (hM hr) rfl (za (zy c0a T.cl_Sheet (hM hr) (pv 0)) (za (zQ (show CompScope (zf wz) zaK "_law_k" ["_law_names"] [1] _ from csM) rfl (zw (pv 7)) (fun _ _ _ _ _=>yu) (fun _ _ _ _ _=>(zq (zau (K:=K) rfl) (pv 1) (pv 0) (fun _ _=>rfl)))) zb)))))))) (ze (zk yj)) zo)
   (zc (zx (zN (zK (zg c05 (hM hr) rfl (za (zy c0b T.cl_Sheet (hM hr) (pv 0)) (za (zQ (show CompScope (zf wz) zaK "_law_k" ["_law_cards"] [4] _ from csM) rfl (zw (pv 7)) (fun _ _ _ _ _=>yu) (fun _ _ _ _ _=>(zq (zau (K:=K) rfl) (pv 1) (pv 0) (fun _ _=>rfl)))) zb))))) (ze (zk yj)) zo)
   (zc (ym PassesOwn.never rfl (zw (pv 7)) (zH (i:=8) wE.nd rfl (Or.inl rfl))
     (ze (zx (zN (zK (zg c0h (hM hr) rfl (za (wg c0c T.cl_Sheet zdC (hM hr) (pv 0) (za (zq zn (pv 1) (pv 8) (fun _ _=>rfl)) zb)) (za (zq zn (pv 4) (pv 8) (fun _ _=>rfl)) zb))))) (ze (zk yj)) zo)))
   (zc (zt (i:=9) wE.nd rfl (Or.inl rfl) (zy c06 T.cl_Sheet (hM hr) (pv 0)))
   (zc (zt (i:=10) wE.nd rfl (Or.inl rfl) (zy c07 T.cl_Sheet (hM hr) (pv 0)))
   (ze (zk (zde (zg c0g (hM hr) rfl (za (pv 9) zb)) (zde (zbB zay (pv 9) (pv 5) (zp _)) (zde (zB zet (by rfl) T.b_isinstance boot_isinstance (za (pv 10) (za (wx (v:=V.ty "bool") rfl T.b_bool boot_bool rfl) zb))) (zg4 (zbB zay (pv 10) (pv 6) (zp _))))))))))))))),?_⟩
  have hln:=zr
  have ok:=hSh.ok
  have c24:=ok.c24
  have p15:=ok.p15
  obtain⟨dx,b1,b2,b3,d,hip⟩:=hSh.ins
  have hrl:=S.rows_len
  have hll:=hR.length
  refine⟨_,rfl,p,dx,_,rfl,hip,rfl,p,F,S,rfl,hSh,fun l1 H1 s1 f1 e1=>?_⟩
  refine⟨_,rfl,l1,a2,S.couples,S.couples,rfl,SqL.of e1,s1.seq hA2,by omega,?_⟩
  rw[decide_eq_true rfl]
  refine⟨_,rfl,yT ?_⟩
  refine⟨_,rfl,p,dx,_,rfl,s1 _ _ hip,rfl,p,F,S,rfl,hSh.same s1,fun l2 H2 s2 f2 e2=>?_⟩
  have t2:=s1.trans s2
  refine⟨_,rfl,l2,a3,S.struck,S.struck,rfl,SqL.of e2,t2.seq hA3,by omega,?_⟩
  rw[decide_eq_true rfl]
  refine⟨_,rfl,yT ?_⟩
  refine⟨_,rfl,a1,_,rfl,.inl (t2.seq hA1),_,rfl,by omega,by rw[length_map];omega,?_⟩
  rw[length_map,show((S.panel.length:Nat):Int).toNat=S.panel.length by omega]
  refine zdg (fun i ys H3=>Same H2 H3∧ys=(((List.range i).filter fun k => !decide (S.rows.getD k []=[])).map fun(k:Nat)=>(k:Int)).map V.int) ⟨Same.refl _,rfl⟩ ?_ (by omega) ?_ ?_
  ·rintro i ys H3 hi ⟨s3,rfl⟩
   rw[length_map,length_map]
   exact le_trans (length_filter_le _ _) (by rw[length_range];exact le_refl _)
  ·rintro i ys H3 hi ⟨s3,rfl⟩
   have t3:=t2.trans s3
   obtain⟨m,em,rm⟩:=hR.at (i:=i) (by omega) []
   refine⟨_,rfl,_,rfl,a4,_,_,_,rfl,rfl,t3.seq hA4,zgB (by omega) (by rw[show((0:Int)+(i:Int)).toNat=i by omega];exact yO em),(by show 0≤sizeLine;decide),fun l3 hl3=>?_⟩
   refine⟨m,l3,_,[],rfl,rfl,(t3.newT hl3).seq rm,SqL.new,zX _,rfl,_,rfl,?_⟩
   rw[show eqL ((S.rows.getD i []).map V.int) []=decide (S.rows.getD i []=[])from zbc _ []]
   refine yk (fun hb=>?_) (fun hb=>?_)
   ·refine⟨_,rfl,s3.newT hl3,?_⟩
    rw[zha,if_neg hb,map_append,show(0:Int)+(i:Int)=(i:Int)by omega]
    rfl
   ·refine⟨s3.newT hl3,?_⟩
    rw[zha,if_pos hb,append_nil]
  ·rintro ys H3 ⟨s3,rfl⟩ l3 hl3
   rw[show(((List.range S.panel.length).filter fun k => !decide (S.rows.getD k []=[])).map fun(k:Nat)=>(k:Int))=zeq S.rows by unfold zeq;rw[hrl]]
   have hin:=@zfM S.rows
   have hil:=intoK_len S.rows
   have n1:=Sh.into_names ok
   have n2:=Sh.into_cards ok
   have n3:=@Sh.into_one S ok
   generalize zeq S.rows=is at hin hil n1 n2 n3 ⊢
   generalize hH4:upd H3 l3 _=H4
   have s4:Same H2 H4:=by rw[←hH4];exact s3.newT hl3
   have e3:H4 l3=some (.lst (is.map V.int)):=by rw[←hH4];exact zd
   have t4:=t2.trans s4
   refine⟨_,rfl,p,dx,_,rfl,t4 _ _ hip,rfl,p,F,S,rfl,hSh.same t4,fun l5 H5 s5 f5 e5=>?_⟩
   have t5:=t4.trans s5
   refine⟨_,rfl,l5,a1,S.panel,S.panel,rfl,SqL.of e5,t5.seq hA1,by omega,?_⟩
   rw[decide_eq_true rfl]
   refine⟨_,rfl,yT ?_⟩
   refine⟨_,rfl,p,dx,_,rfl,t5 _ _ hip,rfl,p,F,S,rfl,(hSh.same t5).shape,p15,fun l6 H6 s6 f6 e6=>?_⟩
   have t6:=t5.trans s6
   have i6:=SqL.of (K:=K) (s6 _ _ (s5 _ _ e3))
   refine⟨_,rfl,l3,rfl,⟨_,i6⟩,?_⟩
   refine yc (xs:=is.map V.int) (fun i ys H7=>H7=H6∧ys=((is.take i).map fun x=>S.panel.getD x.toNat "").map V.str) ⟨rfl,rfl⟩ ?_ (by rw[length_map];omega) ?_ ?_
   ·rintro i ys H7 hi ⟨rfl,rfl⟩
    refine⟨i6,?_⟩
    rw[length_map,length_map,length_take]
    omega
   ·rintro i x ys H7 hx ⟨rfl,rfl⟩
    obtain⟨hi,rfl⟩:=yN hx
    have hx:=hin (wL hi)
    refine⟨_,rfl,_,rfl,a1,_,_,_,rfl,rfl,t6.seq hA1,zgM hx.1 (by omega),rfl,?_⟩
    rw[yy hi,map_append,map_append]
    rfl
   rintro ys H7 ⟨rfl,rfl⟩ l7 hl7
   rw[length_map,take_length,n1]
   generalize hH8:upd H7 l7 _=H8
   have s8:Same H7 H8:=by rw[←hH8];exact Same.new hl7
   have e8:H8 l7=some (.lst (S.handed.map V.str)):=by rw[←hH8];exact zd
   have hhl:S.handed.length≤15:=le_trans (length_filter_le _ _) p15
   refine⟨l6,l7,S.handed,S.handed,rfl,SqL.of (s8 _ _ e6),SqL.of e8,by omega,?_⟩
   rw[decide_eq_true rfl]
   refine⟨_,rfl,yT ?_⟩
   have t8:=t6.trans s8
   refine⟨_,rfl,p,dx,_,rfl,t8 _ _ hip,rfl,p,F,S,rfl,hSh.same t8,fun l9 H9 ks s9 f9 e9 r9=>?_⟩
   have t9:=t8.trans s9
   have i9:=(s8.trans s9).seq i6
   refine⟨_,rfl,l3,rfl,⟨_,i9⟩,?_⟩
   have at9:∀x∈is,∃m,ls[x.toNat]? = some m∧IL K H m (S.rows.getD x.toNat []):=fun x hx=>hR.at (hin hx).2.1 []
   refine yc (xs:=is.map V.int) (fun i ys H10=>H10=H9∧∃ms:List Addr,ys=ms.map V.ref∧All2 (IL K H) ms ((is.take i).map fun x=>S.rows.getD x.toNat [])) ⟨rfl,[],rfl,.nil⟩ ?_ (by rw[length_map];omega) ?_ ?_
   ·rintro i ys H10 hi ⟨rfl,ms,rfl,r10⟩
    refine⟨i9,?_⟩
    have:=r10.length
    rw[length_map,length_take] at this
    rw[length_map]
    omega
   ·rintro i x ys H10 hx ⟨rfl,ms,rfl,r10⟩
    obtain⟨hi,rfl⟩:=yN hx
    have hx:=hin (wL hi)
    obtain⟨m,em,rm⟩:=at9 _ (wL hi)
    refine⟨_,rfl,_,rfl,a4,_,_,_,rfl,rfl,t9.seq hA4,zgB hx.1 (yO em),rfl,ms++[m],by rw[map_append];rfl,?_⟩
    rw[yy hi,map_append]
    exact r10.snoc rm
   rintro ys H10 ⟨rfl,ms,rfl,r10⟩ l10 hl10
   rw[length_map,take_length,n2] at r10
   have s11:=Same.new (o:=.lst (ms.map V.ref)) hl10
   have hcl:S.cardsIn.length≤15:=by unfold Sh.cardsIn;rw[length_map];exact hhl
   refine⟨l9,l10,S.cardsIn,rfl,⟨ks,SqL.of (s11 _ _ e9),r9.imp fun _ _ z=>SqL.of (s11 _ _ z.2)⟩,⟨ms,SqL.new,r10.imp fun _ _=>IL.stays K _ _ _ _ (t9.trans s11)⟩,by omega,fun c hc=>?_,?_⟩
   ·unfold Sh.cardsIn at hc
    obtain⟨j,hj,rfl⟩:=List.mem_map.mp hc
    cases e:S.card j with
    | none=>exact zero_le _
    | some c =>
      have:=(ok.cd j c e).2.length_eq
      show c.length≤1000
      omega
   refine⟨_,rfl,yT ?_⟩
   generalize hH11:upd H10 l10 _=H11 at s11
   have t11:=t9.trans s11
   have i11:=s11.seq i9
   refine⟨_,rfl,l3,rfl,⟨_,i11⟩,?_⟩
   refine zbQ (xs:=is.map V.int) (fun i σ H12=>∃v,σ=[some (.ref p),some (.ref a1),some (.ref a2),some (.ref a3),some (.ref a4),some (.int S.taken),some (.bl S.shut),some (.ref l3),v,none,none]∧Same H11 H12) ⟨_,rfl,Same.refl _⟩ ?_ ?_ ?_
   ·rintro i σ H12 hi ⟨v,rfl,s12⟩
    exact s12.seq i11
   ·rintro i x σ H12 hx ⟨v,rfl,s12⟩
    obtain⟨hi,rfl⟩:=yN hx
    have hx:=hin (wL hi)
    have hone:=n3 (wL hi)
    obtain⟨m,em,rm⟩:=at9 _ (wL hi)
    have t12:=t11.trans s12
    refine⟨_,rfl,p,dx,_,rfl,t12 _ _ hip,rfl,_,rfl,_,rfl,a1,_,_,_,rfl,rfl,t12.seq hA1,zgM hx.1 (by omega),p,F,S,_,rfl,hSh.same t12,(fun z=>absurd (ok.cd _ _ hone).1 z),(fun _ z=>by rw[hone] at z;cases z),fun c hc l13 H13 s13 f13 e13=>?_⟩
    rw[hone] at hc
    cases hc
    have t13:=t12.trans s13
    have hcl:(S.rows.getD (is.getD i 0).toNat []).length≤24:=by have:=(ok.cd _ _ hone).2.length_eq;omega
    refine⟨_,rfl,_,rfl,a4,_,_,_,rfl,rfl,t13.seq hA4,zgB hx.1 (yO em),l13,m,_,_,rfl,SqL.of e13,t13.seq rm,by omega,?_⟩
    rw[decide_eq_true rfl]
    exact⟨_,rfl,yT ⟨_,rfl,s12.trans s13⟩⟩
   rintro σ H12 ⟨v,rfl,s12⟩
   have t12:=t11.trans s12
   refine⟨_,rfl,p,dx,_,rfl,t12 _ _ hip,rfl,p,F,S,rfl,hSh.same t12,?_⟩
   refine⟨_,rfl,p,dx,_,rfl,t12 _ _ hip,rfl,p,F,S,rfl,hSh.same t12,?_⟩
   refine⟨_,rfl,.int S.taken,true,false,rfl,rfl,rfl,_,rfl,zhB ?_⟩
   refine⟨_,rfl,_,rfl,rfl,_,rfl,?_⟩
   rw[decide_eq_true rfl]
   refine zhB ⟨_,rfl,.bl S.shut,true,rfl,rfl,_,rfl,zhB ?_⟩
   refine⟨_,rfl,_,rfl,rfl,?_⟩
   rw[decide_eq_true rfl]
   exact q _ t12
inductive zbj (K:Frag) (vs:List V) (H:Hp) (Q:VK) (E:XK):Prop
 | mk (a b c:Addr) (ts:List Str) (cs:List (List Int)) (us:List Int):vs=[.ref a,.ref b,.ref c]→SqL K H a (ts.map V.str)→Refs K (IL K) H b cs→SqL K H c (us.map V.int)→cs.length=ts.length→ts.length≤500→us.length≤500→((∀d∈cs,d=[]∨d.Perm us))→(2≤(cs.filter fun d => !decide (d=[])).length)→(∀(l:Addr)(H':Hp),Same H H'→H l=none→H' l=some (.lst ((zik ts cs us ts.length).map V.str))→Q (.ref l) H')→zbj K vs H Q E
theorem zjA{cs:List (List Int)}{k:Nat}(hk:k<cs.length):(cs.filter fun d => !decide (d=[])).length≤((cs.take k++cs.drop (k+1)).filter fun d => !decide (d=[])).length+1:=by
 conv=>lhs;rw[←take_append_drop k cs,drop_eq_getElem_cons hk,filter_append,length_append,filter_cons]
 rw[filter_append,length_append]
 split
 ·rw[length_cons];omega
 ·omega
theorem zgc{f:Addr}{fd:FuncData}(F:Fun K "_law_deciding" "_law_deciding" wk f fd)(T:Txt K mg)(c0M:Can P w K mg base 3 "_law_firsts" zaR (zcB K)):FnOk P w K mg base CX0 4 f fd wM (zbj K):=by
 refine F.ok yY (fun vs H Q E h=>?_) (fun cdv A outer s H vs Q E hr h=>?_)
 ·obtain⟨a,b,c,ts,cs,us,rfl,_⟩:=h
  rfl
 ·obtain⟨a,b,c,ts,cs,us,rfl,hA,⟨ls,hB,rB⟩,hC,hcl,hz,huz,hcd,h2,q⟩:=h
  refine⟨_,(zc (zt (i:=3) yY.nd rfl (Or.inl rfl) (zg c0M (hM hr) rfl (za (zQ (show CompScope (zf wk) zbp "_law_card_here" [] [] _ from csM) rfl (zw (pv 1)) (fun _ _ _ _ _=>(yZ (zm (zck (K:=K) rfl hr.units0) (pv 0) (ye zb) (zp _)))) (fun _ _ _ _ _=>(pv 0))) (za (pv 2) zb))))
   (zc (zt (i:=4) yY.nd rfl (Or.inl rfl) (ye zb))
   (zc (ym PassesOwn.never rfl (zW rfl T.b_range (za (ya T.b_len (pv 0)) zb)) (zH (i:=5) yY.nd rfl (Or.inl rfl))
     (zc (yV (i:=6) (show CompScope (zf wk) zbp "_law_card_here" [] [] _ from csM) rfl yY.nd rfl (Or.inl rfl) (zw (zu zaF (yW zaX (pv 1) zal (wt (pv 5))) (yW zaX (pv 1) (wt (zu yt (pv 5) zh)) zal))) (fun _ _ _ _ _=>(yZ (zm (zck (K:=K) rfl hr.units0) (pv 0) (ye zb) (zp _)))) (fun _ _ _ _ _=>(pv 0)))
   (ze (zx (PW.pt (ziB (zm (zdy hr.units0) (zq zn (pv 1) (pv 5) (fun _ _=>rfl)) (ye zb) (zp _)) (zgj (zm (zdy hr.units0) (zg c0M (hM hr) rfl (za (pv 6) (za (pv 2) zb))) (pv 3) (zp _))))) (ze (zC (zaf PySem.F.plainAttrs_list PySem.F.slot_list_append PySem.F.type_list_append yz (pv 4) (za (zq zn (pv 0) (pv 5) (fun _ _=>rfl)) zb)))) zo))))
   (ze (zk (pv 4)))))),?_⟩
  have hln:=zr
  have hll:=rB.length
  have hpc:∀ds:List (List Int),(∀d∈ds,d∈cs)→∀d∈ds.filter (fun d => !decide (d=[])),d.Perm us:=fun ds hs d hd=>by
   have h:=List.mem_filter.mp hd
   refine(hcd d (hs d h.1)).resolve_left fun z=>?_
   have h2:=h.2
   rw[decide_eq_true z] at h2
   exact absurd h2 (by decide)
  refine⟨_,rfl,b,rfl,⟨_,hB⟩,?_⟩
  refine zh3 hB rB (by omega) (fun m d H' R hm h=>?_) (fun m H' R h=>⟨_,rfl,h⟩) fun ks H1 s1 r1=>?_
  ·refine⟨_,rfl,(by show 0≤sizeLine;decide),fun l13 hl13=>?_⟩
   have s13:=Same.new (o:=.lst []) hl13
   refine⟨m,l13,_,[],rfl,rfl,s13.seq hm,SqL.new,zX _,rfl,_,rfl,?_⟩
   rw[show eqL (d.map V.int) []=decide (d=[])from zbc _ []]
   exact h _ s13
  intro l1 hl1
  have s2:=Same.new (o:=.lst (ks.map V.ref)) hl1
  have t2:=s1.trans s2
  refine⟨_,rfl,l1,c,_,us,rfl,⟨ks,SqL.new,r1.imp fun _ _=>IL.stays K _ _ _ _ s2⟩,t2.seq hC,hpc cs fun _ h=>h,by omega,le_trans (length_filter_le _ _) (by omega),huz,fun l3 H3 s3 f3 e3=>?_⟩
  have t3:=t2.trans s3
  refine⟨(by show 0≤sizeLine;decide),fun p0 hp0=>?_⟩
  have t3':=t3.newT (o:=.lst []) hp0
  refine⟨_,rfl,a,_,rfl,.inl (t3'.seq hA),_,rfl,by omega,by rw[length_map];omega,?_⟩
  rw[length_map,show((ts.length:Nat):Int).toNat=ts.length by omega]
  refine zY (fun i σ H4=>∃(v5 v6:Option V),σ=[some (.ref a),some (.ref b),some (.ref c),some (.ref l3),some (.ref p0),v5,v6]∧Same H3 H4∧H4 p0=some (.lst ((zik ts cs us i).map V.str))) ⟨_,_,rfl,Same.new hp0,zd⟩ ?_ ?_
  ·rintro i σ H4 hi ⟨v5,v6,rfl,s4,e4⟩
   have t4:=t3.trans s4
   rw[show(0:Int)+(i:Int)=(i:Int)by omega]
   refine⟨_,rfl,_,rfl,_,rfl,b,_,rfl,t4.seq hB,fun l10 hl10=>?_⟩
   rw[zi0 (by omega),show((i:Int)).toNat=i by omega]
   have s10:=Same.new (o:=.lst ((ls.map V.ref).take i)) hl10
   refine⟨_,rfl,_,rfl,_,_,rfl,rfl,_,rfl,b,_,rfl,(t4.trans s10).seq hB,fun l11 hl11=>?_⟩
   rw[zhe (by omega),show((i:Int)+1).toNat=i+1 by omega]
   have s11:=Same.new (o:=.lst ((ls.map V.ref).drop (i+1))) hl11
   have e10:=s11 _ _ (zd (H:=H4) (a:=l10) (o:=.lst ((ls.map V.ref).take i)))
   refine⟨l10,l11,_,_,rfl,rfl,e10,zd,by rw[length_take,length_drop,length_map];omega,fun l12 hl12=>?_⟩
   rw[←map_take,←map_drop,←map_append] at *
   have s12:=(s10.trans s11).newT (o:=.lst ((ls.take i++ls.drop (i+1)).map V.ref)) hl12
   have e12:upd (upd (upd H4 l10 (.lst ((ls.take i).map V.ref))) l11 (.lst ((ls.drop (i+1)).map V.ref))) l12 (.lst ((ls.take i++ls.drop (i+1)).map V.ref)) l12=some (.lst ((ls.take i++ls.drop (i+1)).map V.ref)):=zd
   generalize hH12:upd (upd (upd H4 l10 _) l11 _) l12 _=H12 at s12 e12 ⊢
   have t12:=t4.trans s12
   have r12:All2 (IL K H12) (ls.take i++ls.drop (i+1)) (cs.take i++cs.drop (i+1)):=by
    have z:=rB.imp fun _ _=>IL.stays K _ _ _ _ t12
    exact(z.takeN i).app (z.dropN (i+1))
   refine⟨l12,rfl,⟨_,SqL.of e12⟩,?_⟩
   refine zh3 (SqL.of e12) r12 (by rw[length_append,length_take,length_drop];omega) (fun m d H' R hm h=>?_) (fun m H' R h=>⟨_,rfl,h⟩) fun ks H13 s13 r13=>?_
   ·refine⟨_,rfl,(by show 0≤sizeLine;decide),fun l13 hl13=>?_⟩
    have s13:=Same.new (o:=.lst []) hl13
    refine⟨m,l13,_,[],rfl,rfl,s13.seq hm,SqL.new,zX _,rfl,_,rfl,?_⟩
    rw[show eqL (d.map V.int) []=decide (d=[])from zbc _ []]
    exact h _ s13
   intro l14 hl14
   have s14:=Same.new (o:=.lst (ks.map V.ref)) hl14
   have e14:upd H13 l14 (.lst (ks.map V.ref)) l14=some (.lst (ks.map V.ref)):=zd
   have r14:=r13.imp fun _ _=>IL.stays K _ _ _ _ s14
   generalize hH14:upd H13 l14 _=H14 at s14 e14 r14 ⊢
   have t14:=(s12.trans s13).trans s14
   obtain⟨m,em,rm⟩:=rB.at (i:=i) (by omega) []
   have rm:SqL K H m ((cs.getD i []).map V.int):=rm
   have u14:=t4.trans t14
   refine⟨_,rfl,_,rfl,b,_,_,_,rfl,rfl,u14.seq hB,zJ (yO em),(by show 0≤sizeLine;decide),fun l15 hl15=>?_⟩
   have s15:=Same.new (o:=.lst []) hl15
   refine⟨m,l15,_,[],rfl,rfl,(u14.trans s15).seq rm,SqL.new,zX _,rfl,_,rfl,?_⟩
   rw[show eqL ((cs.getD i []).map V.int) []=decide (cs.getD i []=[])from zbc _ []]
   generalize hH15:upd H14 l15 _=H15 at s15 ⊢
   have t15:=t14.trans s15
   refine yk (fun hne=>?_) (fun he=>?_)
   ·have hf:=zjA (cs:=cs) (k:=i) (by omega)
    have hsub:∀d∈cs.take i++cs.drop (i+1),d∈cs:=fun d hd=>by
     rcases List.mem_append.mp hd with h | h
     ·exact List.mem_of_mem_take h
     ·exact List.mem_of_mem_drop h
    have hle:=length_filter_le (fun d:List Int => !decide (d=[])) (cs.take i++cs.drop (i+1))
    rw[length_append,length_take,length_drop] at hle
    refine⟨_,rfl,_,rfl,l14,c,_,us,rfl,⟨ks,SqL.of (s15 _ _ e14),r14.imp fun _ _=>IL.stays K _ _ _ _ s15⟩,(t4.trans t15).seq hC,hpc _ hsub,by omega,by omega,huz,fun l16 H16 s16 f16 e16=>?_⟩
    have t16:=t15.trans s16
    refine⟨_,rfl,l16,l3,_,_,rfl,rfl,SqL.of e16,SqL.of ((s4.trans t16) _ _ e3),zX _,zX _,_,rfl,?_⟩
    rw[zbc]
    refine yk (fun hb=>?_) (fun hb=>?_)
    ·have ats:atI (ts.map V.str) (i:Int)=some (.str (ts.getD i "")):=by
      have:=zgM (ts:=ts) (i:=(i:Int)) (by omega) (by omega)
      rw[show((i:Int)).toNat=i by omega] at this
      exact this
     refine⟨_,rfl,.inl ⟨rfl,_,SqL.of (t16 _ _ e4)⟩,_,rfl,_,rfl,a,_,_,_,rfl,rfl,(t4.trans t16).seq hA,ats,p0,_,_,rfl,rfl,t16 _ _ e4,?_,_,_,rfl,(s4.trans t16).put hp0,?_⟩
     ·have:=ziZ ts cs us i
      rw[length_map]
      omega
     ·rw[zd,zfx,if_pos (by unfold zje;rw[decide_eq_false hne,decide_eq_false hb];rfl),map_append]
      rfl
    ·refine⟨_,_,rfl,s4.trans t16,?_⟩
     rw[zfx,if_neg (by unfold zje;rw[decide_eq_true hb];simp),append_nil]
     exact t16 _ _ e4
   ·refine⟨_,_,rfl,s4.trans t15,?_⟩
    rw[zfx,if_neg (by unfold zje;rw[decide_eq_true he];simp),append_nil]
    exact t15 _ _ e4
  ·rintro σ H4 ⟨v5,v6,rfl,s4,e4⟩
   exact⟨_,rfl,q p0 H4 (t3.trans s4) (t3.free hp0) e4⟩
inductive zbN (K:Frag) (vs:List V) (H:Hp) (Q:VK) (E:XK):Prop
 | mk (a b:Addr) (rs:List (List Int)) (ms:List Int):vs=[.ref a,.ref b]→Refs K (IL K) H a rs→SqL K H b (ms.map V.int)→((∀r∈rs,r.length=ms.length∧∀x∈r,1≤x∧x≤24))→((∀x∈ms,1≤x∧x≤24))→1≤ms.length→ms.length≤60→rs.length≤1000→(∀H',Same H H'→Q (.int (1+((rs.filter fun r=>M6.yl r ms 24).length:Int))) H')→zbN K vs H Q E
theorem zgq{f:Addr}{fd:FuncData}(F:Fun K "place_among" "place_among" zaL f fd)(T:Txt K mg)(c08:Can P w K mg base 4 "is_ahead" zcq (zd8 K)):FnOk P w K mg base CX0 5 f fd zas (zbN K):=by
 refine F.ok zgI (fun vs H Q E h=>?_) (fun cdv A outer s H vs Q E hr h=>?_)
 ·obtain⟨a,b,rs,ms,rfl,_⟩:=h
  rfl
 ·obtain⟨a,b,rs,ms,rfl,⟨ls,hS,hR⟩,hB,hrs,hm,h1,hz,hzr,q⟩:=h
  refine⟨_,(ze (zk (zu yt zh (ya T.b_len (zQ (show CompScope (zf zaL) ["rows","own"] "marks" ["own"] [1] _ from csM) rfl (zw (pv 0)) (fun _ _ _ _ _=>(yZ (zK (zg c08 (hM hr) rfl (za (pv 0) (za (pv 1) zb)))))) (fun _ _ _ _ _=>(pv 0))))))),?_⟩
  have hlen:=hR.length
  refine⟨_,rfl,a,rfl,⟨_,hS⟩,?_⟩
  refine yI (xs:=ls.map V.ref) (fun i ys H2=>Same H H2∧ys.length=((rs.take i).filter fun r=>M6.yl r ms 24).length) ⟨Same.refl _,rfl⟩ ?_ (by rw[length_map];have:=zr;omega) ?_ ?_
  ·rintro i ys H2 hi ⟨s2,e2⟩
   refine⟨s2.seq hS,?_⟩
   rw[e2]
   have:=length_filter_le (fun r=>M6.yl r ms 24) (rs.take i)
   rw[length_take] at this
   omega
  ·rintro i x ys H2 hx ⟨s2,e2⟩
   obtain⟨l,el,rfl⟩:=wF hx
   obtain⟨d,ed,rd⟩:=hR.getL el
   have hd:=hrs d (mem_of_getElem? ed)
   refine⟨_,rfl,_,rfl,l,b,d,ms,rfl,s2.seq rd,s2.seq hB,hd.1,by omega,by omega,hd.2,hm,fun H3 s3=>⟨_,rfl,zi4 (fun hb=>?_) (fun hb=>?_)⟩⟩
   ·refine⟨_,rfl,s2.trans s3,?_⟩
    rw[take_succ,ed,filter_append,length_append,length_append,e2]
    show _=_+(filter (fun r=>M6.yl r ms 24) [d]).length
    rw[filter_cons,if_pos hb]
    rfl
   ·refine⟨s2.trans s3,?_⟩
    rw[take_succ,ed,filter_append,length_append,e2]
    show _=_+(filter (fun r=>M6.yl r ms 24) [d]).length
    rw[filter_cons,if_neg (by rw[hb];exact Bool.false_ne_true)]
    rfl
  ·rintro ys H2 ⟨s2,e2⟩ l hl
   rw[length_map,hlen,take_length] at e2
   refine⟨l,_,rfl,.inl SqL.new,_,_,rfl,rfl,?_⟩
   rw[e2]
   exact q _ (s2.newT hl)
inductive yQ (K:Frag) (vs:List V) (H:Hp) (Q:VK) (E:XK):Prop
 | mk (a b:Addr) (cs:List (List Int)) (us:List Int):vs=[.ref a,.ref b]→Refs K (IL K) H a cs→SqL K H b (us.map V.int)→us.Nodup→((∀d∈cs,d.Perm us))→1≤cs.length→cs.length≤15→1≤us.length→us.length≤24→(∀(l:Addr)(H':Hp),Same H H'→H l=none→H' l=some (.lst ((M6.zv cs us).map V.int))→Q (.ref l) H')→yQ K vs H Q E
theorem ziV{f:Addr}{fd:FuncData}(F:Fun K "places_of" "places_of" za6 f fd)(T:Txt K mg)(c0n:Can P w K mg base 2 "marks_of" wW (za7 K))(c09:Can P w K mg base 5 "place_among" zas (zbN K)):FnOk P w K mg base CX0 6 f fd yC (yQ K):=by
 refine F.ok zeO (fun vs H Q E h=>?_) (fun cdv A outer s H vs Q E hr h=>?_)
 ·obtain⟨a,b,cs,us,rfl,_⟩:=h
  rfl
 ·obtain⟨a,b,cs,us,rfl,hC,hU,hnd,hp,c1,c2,u1,u2,q⟩:=h
  refine⟨_,(zc (zt (i:=2) zeO.nd rfl (Or.inr rfl) (zQ (show CompScope (zf za6) zdm "couple" ["cards"] [0] _ from csM) rfl (zw (pv 1)) (fun _ _ _ _ _=>yu) (fun _ _ _ _ _=>(zg c0n (hM hr) rfl (za (pv 1) (za (pv 0) zb))))))
   (ze (zk (zQ (show CompScope (zf za6) zdm "own" ["rows"] [2] _ from csM) rfl (zw (pv 2)) (fun _ _ _ _ _=>yu) (fun _ _ _ _ _=>(zg c09 (hM hr) rfl (za (pv 1) (za (pv 0) zb)))))))),?_⟩
  have hln:=zr
  refine⟨_,rfl,b,rfl,⟨_,hU⟩,?_⟩
  refine yc (xs:=us.map V.int) (fun i ys H2=>∃ks:List Addr,ys=ks.map V.ref∧Same H H2∧All2 (IL K H2) ks ((us.take i).map (M5.zl cs))) ⟨[],rfl,Same.refl _,.nil⟩ ?_ (by rw[length_map];omega) ?_ ?_
  ·rintro i ys H2 hi ⟨ks,rfl,s2,r2⟩
   refine⟨s2.seq hU,?_⟩
   have:=r2.length
   rw[length_map,length_take] at this
   rw[length_map]
   omega
  ·rintro i x ys H2 hx ⟨ks,rfl,s2,r2⟩
   obtain⟨hi,rfl⟩:=yN hx
   refine⟨_,rfl,_,rfl,a,cs,_,rfl,hC.same (IL.stays K) s2,by omega,fun d hd=>(hp d hd).mem_iff.mpr (wL hi),fun l H3 s3 f3 e3=>?_⟩
   refine⟨ks++[l],by rw[map_append];rfl,s2.trans s3,?_⟩
   rw[yy hi,map_append]
   exact(r2.imp fun _ _=>IL.stays K _ _ _ _ s3).snoc (show IL K _ l _ from SqL.of e3)
  ·rintro ys H2 ⟨ks,rfl,s2,r2⟩ l hl
   rw[length_map,take_length] at r2
   generalize hH3:upd H2 l _=H3
   have s23:Same H2 H3:=by rw[←hH3];exact Same.new hl
   have e3:H3 l=some (.lst (ks.map V.ref)):=by rw[←hH3];exact zd
   have r3:=r2.imp fun _ _=>IL.stays K _ _ _ _ s23
   have s3:=s2.trans s23
   have hk:=r3.length
   rw[length_map] at hk
   refine⟨_,rfl,l,rfl,⟨_,SqL.of e3⟩,?_⟩
   refine yc (xs:=ks.map V.ref) (fun i ys H4=>Same H3 H4∧ys=((us.take i).map fun c=>1+(((us.map (M5.zl cs)).filter fun r=>M6.yl r (M5.zl cs c) 24).length:Int)).map V.int) ⟨Same.refl _,rfl⟩ ?_ (by rw[length_map];omega) ?_ ?_
   ·rintro i ys H4 hi ⟨s4,rfl⟩
    refine⟨s4.seq (SqL.of e3),?_⟩
    rw[length_map,length_map,length_take]
    omega
   ·rintro i x ys H4 hx ⟨s4,rfl⟩
    obtain⟨p,ep,rfl⟩:=wF hx
    obtain⟨m,em,rm⟩:=r3.getL ep
    rw[getElem?_map] at em
    cases eu:us[i]? with
    | none=>rw[eu] at em;cases em
    | some c =>
      rw[eu] at em
      cases em
      have hc:=mem_of_getElem? eu
      have rng:∀d∈us,(M5.zl cs d).length=cs.length∧∀x∈M5.zl cs d,1≤x∧x≤24:=fun d hd=>⟨M5.zV cs d,fun x hx=>by have:=M6.yw hp hd x hx;omega⟩
      refine⟨_,rfl,_,rfl,l,p,us.map (M5.zl cs),M5.zl cs c,rfl,⟨ks,s4.seq (SqL.of e3),r3.imp fun _ _=>IL.stays K _ _ _ _ s4⟩,s4.seq rm,fun r hr=>?_,(rng c hc).2,by rw[(rng c hc).1];exact c1,by rw[(rng c hc).1];omega,by rw[length_map];omega,fun H5 s5=>⟨s4.trans s5,?_⟩⟩
      ·obtain⟨d,hd,rfl⟩:=List.mem_map.mp hr
       exact⟨by rw[(rng d hd).1,(rng c hc).1],(rng d hd).2⟩
      ·rw[take_succ,eu,map_append,map_append]
       rfl
   ·rintro ys H4 ⟨s4,rfl⟩ p hp'
    rw[length_map,hk,take_length]
    have st:=s3.trans s4
    refine q p _ (st.newT hp') ?_ ?_
    ·cases e:H p with
     | none=>rfl
     | some u=>have:=st p u e;rw[hp'] at this;cases this
    ·rw[M6.places_24 hp u1 u2]
     exact zd
inductive zcU (K:Frag) (vs:List V) (H:Hp) (Q:VK) (E:XK):Prop
 | mk (p:Addr) (F:Addr→Prop) (S:Sh):vs=[.ref p]→SheetAt K H p F S→1≤S.handed.length→(∀(l:Addr)(H':Hp),Same H H'→H l=none→H' l=some (.lst ((M6.zv S.cardsIn S.couples).map V.int))→Q (.ref l) H')→zcU K vs H Q E
theorem ok_places{f:Addr}{fd:FuncData}(F:Fun K "places" "places" zgQ f fd)(T:Txt K mg)(c0i:Can P w K mg base 6 "places_of" yC (yQ K))(c0f:Can P w K mg base 2 "refuse_fewer_cards" zA (zF K))(c0:CanM P w K mg base 1 (zE K "Sheet") "couples" zz (zD K))(c0b:CanM P w K mg base 3 (zE K "Sheet") "cards" zZ (yg K)):FnOk P w K mg base CX0 7 f fd ["sheet"] (zcU K):=by
 refine F.ok sc_places (fun vs H Q E h=>?_) (fun cdv A outer s H vs Q E hr h=>?_)
 ·obtain⟨p,F,S,rfl,_⟩:=h
  rfl
 ·obtain⟨p,F,S,rfl,hSh,h1,q⟩:=h
  refine⟨_,(zc (zC (zg c0f (hM hr) rfl (za (pv 0) (za zh zb))))
   (ze (zk (zg c0i (hM hr) rfl (za (zy c0b T.cl_Sheet (hM hr) (pv 0)) (za (zy c0 T.cl_Sheet (hM hr) (pv 0)) zb)))))),?_⟩
  have ok:=hSh.ok
  have h15:S.handed.length≤15:=le_trans (length_filter_le _ _) ok.p15
  have c24:=ok.c24
  obtain⟨dx,b1,b2,b3,d,hip⟩:=hSh.ins
  refine⟨_,rfl,p,F,S,1,rfl,hSh,by omega,fun H1 s1=>?_⟩
  refine⟨_,rfl,p,dx,_,rfl,s1 _ _ hip,rfl,p,F,S,rfl,hSh.same s1,fun l2 H2 ls s2 f2 e2 r2=>?_⟩
  have t2:=s1.trans s2
  refine⟨_,rfl,p,dx,_,rfl,t2 _ _ hip,rfl,p,F,S,rfl,hSh.same t2,fun l3 H3 s3 f3 e3=>?_⟩
  have t3:=t2.trans s3
  refine⟨l2,l3,S.cardsIn,S.couples,rfl,⟨ls,SqL.of (s3 _ _ e2),r2.imp fun _ _ z=>SqL.of (s3 _ _ z.2)⟩,SqL.of e3,ok.nd,Sh.cardsIn_perm ok,by rw[Sh.cardsIn_len];exact h1,by rw[Sh.cardsIn_len];exact h15,ok.c1,by omega,fun l4 H4 s4 f4 e4=>?_⟩
  exact q l4 H4 (t3.trans s4) (t3.free f4) e4
inductive zcn (K:Frag) (vs:List V) (H:Hp) (Q:VK) (E:XK):Prop
 | mk (p:Addr) (F:Addr→Prop) (S:Sh) (j:Str):vs=[.ref p,.str j]→SheetAt K H p F S→j∈S.handed→2≤S.handed.length→(∀(l:Addr)(H':Hp),Same H H'→H l=none→H' l=some (.lst ((M6.zv (S.cardsWo j) S.couples).map V.int))→Q (.ref l) H')→zcn K vs H Q E
theorem zjQ{f:Addr}{fd:FuncData}(F:Fun K "left_out" "left_out" zew f fd)(T:Txt K mg)(c0i:Can P w K mg base 6 "places_of" yC (yQ K))(c0f:Can P w K mg base 2 "refuse_fewer_cards" zA (zF K))(c0C:Can P w K mg base 3 "cards_without" yH (wq K))(c0:CanM P w K mg base 1 (zE K "Sheet") "couples" zz (zD K))(c0c:CanMX P w K mg base 2 (zE K "Sheet") "card_of" zR (yd K)):FnOk P w K mg base CX0 7 f fd za1 (zcn K):=by
 refine F.ok zjn (fun vs H Q E h=>?_) (fun cdv A outer s H vs Q E hr h=>?_)
 ·obtain⟨p,F,S,j,rfl,_⟩:=h
  rfl
 ·obtain⟨p,F,S,j,rfl,hSh,hj,h2,q⟩:=h
  refine⟨_,(zc (zC (wg c0c T.cl_Sheet zdC (hM hr) (pv 0) (za (pv 1) zb)))
   (zc (zC (zg c0f (hM hr) rfl (za (pv 0) (za zh zb))))
   (ze (zk (zg c0i (hM hr) rfl (za (zg c0C (hM hr) rfl (za (pv 0) (za (pv 1) zb))) (za (zy c0 T.cl_Sheet (hM hr) (pv 0)) zb))))))),?_⟩
  have hln:=zr
  have ok:=hSh.ok
  have h15:=ok.p15
  have c24:=ok.c24
  obtain⟨dx,b1,b2,b3,d,hip⟩:=hSh.ins
  have hm:=List.mem_filter.mp hj
  cases e:S.card j with
  | none=>rw[e] at hm;exact absurd hm.2 Bool.false_ne_true
  | some c =>
    refine⟨_,rfl,p,dx,_,rfl,hip,rfl,_,rfl,p,F,S,j,rfl,hSh,fun hn=>absurd hm.1 hn,(fun _ z=>by rw[e] at z;cases z),fun c' e' l1 H1 s1 f1 e1=>?_⟩
    refine⟨_,rfl,p,F,S,2,rfl,hSh.same s1,by omega,fun H2 s2=>?_⟩
    have t2:=s1.trans s2
    refine⟨_,rfl,_,rfl,p,F,S,j,rfl,hSh.same t2,fun l3 H3 ks s3 f3 e3 r3=>?_⟩
    have t3:=t2.trans s3
    refine⟨_,rfl,p,dx,_,rfl,t3 _ _ hip,rfl,p,F,S,rfl,hSh.same t3,fun l4 H4 s4 f4 e4=>?_⟩
    have t4:=t3.trans s4
    have hwl:=Sh.cardsWo_len ok.pnd hj
    have hl2:S.handed.length≤15:=le_trans (length_filter_le _ _) h15
    refine⟨l3,l4,S.cardsWo j,S.couples,rfl,⟨ks,SqL.of (s4 _ _ e3),r3.imp fun _ _=>IL.stays K _ _ _ _ s4⟩,SqL.of e4,ok.nd,Sh.cardsWo_perm ok j,by omega,by omega,ok.c1,by omega,fun l5 H5 s5 f5 e5=>?_⟩
    exact q l5 H5 (t4.trans s5) (t4.free f5) e5
inductive zc0 (K:Frag) (vs:List V) (H:Hp) (Q:VK) (E:XK):Prop
 | mk (p:Addr) (F:Addr→Prop) (S:Sh) (j:Str) (d:List Int) (i:Nat):vs=[.ref p,.str j,.int (d.getD i 0)]→SheetAt K H p F S→S.card j=some d→0<i→i<d.length→(∀(t l:Addr)(H':Hp),Same H H'→H t=none→H l=none→H' t=some (.tup [.int (d.getD (i-1) 0),.ref l])→H' l=some (.lst ((M6.zv (S.cardsUp j (upC d i)) S.couples).map V.int))→Q (.ref t) H')→zc0 K vs H Q E
theorem ok_step_up{f:Addr}{fd:FuncData}(F:Fun K "step_up" "step_up" zeg f fd)(T:Txt K mg)(c1a:CanX P w K mg base 1 "one_up" zef (zfn K))(c0i:Can P w K mg base 6 "places_of" yC (yQ K))(c0:CanM P w K mg base 1 (zE K "Sheet") "couples" zz (zD K))(c0a:CanM P w K mg base 1 (zE K "Sheet") "handed" zI (zO K))(c0c:CanMX P w K mg base 2 (zE K "Sheet") "card_of" zR (yd K)):FnOk P w K mg base CX0 7 f fd zbL (zc0 K):=by
 refine F.ok zb6 (fun vs H Q E h=>?_) (fun cdv A outer s H vs Q E hr h=>?_)
 ·obtain⟨p,F,S,j,d,i,rfl,_⟩:=h
  rfl
 ·obtain⟨p,F,S,j,d,i,rfl,hSh,hd,h0,hi,q⟩:=h
  refine⟨_,(zc (zt (i:=3) zb6.nd rfl (Or.inl rfl) (wg c0c T.cl_Sheet zdC (hM hr) (pv 0) (za (pv 1) zb)))
   (zc (zx (zm zdc (pv 2) (zy c0 T.cl_Sheet (hM hr) (pv 0)) (by first | exact zp _ | rfl)) (ze zjS) zo)
   (zc (zt (i:=4) zb6.nd rfl (Or.inr rfl) (pe_ownX c1a zdC (hM hr) rfl (za (pv 3) (za (pv 2) zb))))
   (zc (zt (i:=5) zb6.nd rfl (Or.inl rfl) (zq zn (pv 4) (zaf PySem.F.plainAttrs_list PySem.F.slot_list_index PySem.F.type_list_index zfj (pv 3) (za (pv 2) zb)) (fun _ _=>rfl)))
   (zc (yV (i:=6) (show CompScope (zf zeg) zgR "other" ["sheet","judge","stepped"] [0,1,4] _ from csM) rfl zb6.nd rfl (Or.inl rfl) (zw (zy c0a T.cl_Sheet (hM hr) (pv 0))) (fun _ _ _ _ _=>yu) (fun _ _ _ _ _=>(pe_ifExp (zm zay (pv 0) (pv 2) (zp _)) (pv 3) (wg c0c T.cl_Sheet zdC (hM hr) (pv 1) (za (pv 0) zb)))))
   (ze (zk (zb9 (za (pv 5) (za (zg c0i (hM hr) rfl (za (pv 6) (za (zy c0 T.cl_Sheet (hM hr) (pv 0)) zb))) zb)))))))))),?_⟩
  have hln:=zr
  have ok:=hSh.ok
  have h15:=ok.p15
  have c24:=ok.c24
  obtain⟨hjp,hdp⟩:=ok.cd j d hd
  have hdl:=hdp.length_eq
  have hdn:d.Nodup:=hdp.nodup_iff.mpr ok.nd
  obtain⟨dx,b1,b2,b3,dd,hip⟩:=hSh.ins
  refine⟨_,rfl,p,dx,_,rfl,hip,rfl,_,rfl,p,F,S,j,rfl,hSh,fun hn=>absurd hjp hn,(fun _ z=>by rw[hd] at z;cases z),fun d' e' l1 H1 s1 f1 e1=>?_⟩
  rw[hd] at e'
  cases e'
  refine⟨_,rfl,_,rfl,p,dx,_,rfl,s1 _ _ hip,rfl,p,F,S,rfl,hSh.same s1,fun l2 H2 s2 f2 e2=>?_⟩
  have hcm:d.getD i 0∈S.couples:=hdp.mem_iff.mp (wL hi)
  refine⟨l2,_,rfl,.inl (SqL.of e2),rfl,zX _,_,rfl,iteNo ?_ ?_⟩
  ·show(!inV (.int (d.getD i 0)) (S.couples.map V.int))=false
   rw[zj0,decide_eq_true hcm]
   rfl
  have t2:=s1.trans s2
  refine⟨_,rfl,_,rfl,l1,d,i,rfl,SqL.of (s2 _ _ e1),hdn,hi,by omega,fun n hn=>ok.rng n (hdp.mem_iff.mp hn),fun z=>absurd z (by omega),fun _ l3 H3 s3 f3 e3=>?_⟩
  have t3:=t2.trans s3
  have e1':=s3 _ _ (s2 _ _ e1)
  have hix:d.idxOf (d.getD i 0)=i:=by
   have:d.getD i 0=d[i]:=by rw[getD_eq_getElem?_getD,getElem?_eq_getElem hi];rfl
   rw[this]
   exact hdn.idxOf_getElem i hi
  refine⟨_,rfl,_,rfl,.inl ⟨rfl,_,SqL.of e1'⟩,_,rfl,l1,_,_,rfl,rfl,SqL.of e1',rfl,zX _,?_,l3,_,_,.int (d.getD (i-1) 0),rfl,rfl,SqL.of e3,?_,?_⟩
  ·rw[zbR,length_map,hix];exact hi
  ·rw[zbR,hix]
   refine zJ ?_
   rw[getElem?_map,show d.take (i-1)++[d.getD i 0,d.getD (i-1) 0]++d.drop (i+1)=upC d i from rfl,upC_at h0 hi]
   rfl
  refine⟨_,rfl,p,dx,_,rfl,t3 _ _ hip,rfl,p,F,S,rfl,(hSh.same t3).shape,h15,fun l4 H4 s4 f4 e4=>?_⟩
  have hl2:S.handed.length≤15:=le_trans (length_filter_le _ _) h15
  have e3':H4 l3=some (.lst ((upC d i).map V.int)):=s4 _ _ e3
  have t4:=t3.trans s4
  refine⟨l4,rfl,⟨_,SqL.of e4⟩,?_⟩
  refine yc (xs:=S.handed.map V.str) (fun k ys H5=>∃ks:List Addr,ys=ks.map V.ref∧Same H4 H5∧All2 (IL K H5) ks ((S.handed.take k).map fun i'=>if i'=j then upC d i else(S.card i').getD [])) ⟨[],rfl,Same.refl _,.nil⟩ ?_ (by rw[length_map];omega) ?_ ?_
  ·rintro k ys H5 hk ⟨ks,rfl,s5,r5⟩
   refine⟨s5.seq (SqL.of e4),?_⟩
   have:=r5.length
   rw[length_map,length_take] at this
   rw[length_map]
   omega
  ·rintro k x ys H5 hx ⟨ks,rfl,s5,r5⟩
   obtain⟨hk,rfl⟩:=zbY hx
   have hm:=List.mem_filter.mp (show S.handed.getD k "" ∈ S.panel.filter fun j=>(S.card j).isSome from wC hk)
   have t5:=t4.trans s5
   refine⟨_,rfl,_,rfl,rfl,_,rfl,wv (fun he=>?_) (fun hne=>?_)⟩
   ·have he:S.handed.getD k ""=j:=by injection he
    refine⟨_,rfl,ks++[l3],by rw[map_append];rfl,s5,?_⟩
    rw[yq hk,map_append]
    refine r5.snoc ?_
    show IL K H5 l3 (if S.handed.getD k ""=j then upC d i else _)
    rw[if_pos he]
    exact SqL.of (s5 _ _ e3')
   ·have hne:¬S.handed.getD k ""=j:=fun z=>hne (by rw[z])
    cases e:S.card (S.handed.getD k "")with
    | none=>rw[e] at hm;exact absurd hm.2 Bool.false_ne_true
    | some c =>
      refine⟨_,rfl,p,dx,_,rfl,t5 _ _ hip,rfl,_,rfl,p,F,S,_,rfl,hSh.same t5,fun hj=>absurd hm.1 hj,(fun _ z=>by rw[e] at z;cases z),fun c' e' l6 H6 s6 f6 e6=>?_⟩
      rw[e] at e'
      cases e'
      refine⟨ks++[l6],by rw[map_append];rfl,s5.trans s6,?_⟩
      rw[yq hk,map_append]
      refine(r5.imp fun _ _=>IL.stays K _ _ _ _ s6).snoc ?_
      show IL K H6 l6 (if S.handed.getD k ""=j then upC d i else(S.card (S.handed.getD k "")).getD [])
      rw[if_neg hne,e]
      exact SqL.of e6
  ·rintro ys H5 ⟨ks,rfl,s5,r5⟩ l7 hl7
   rw[length_map,take_length] at r5
   have s7:=s5.newT (o:=.lst (ks.map V.ref)) hl7
   have e7:upd H5 l7 (.lst (ks.map V.ref)) l7=some (.lst (ks.map V.ref)):=zd
   have r7:=r5.imp fun _ _=>IL.stays K _ _ _ _ (Same.new (o:=.lst (ks.map V.ref)) hl7)
   generalize hH7:upd H5 l7 _=H7 at s7 e7 r7 ⊢
   have t7:=t4.trans s7
   refine⟨_,rfl,_,rfl,_,rfl,p,dx,_,rfl,t7 _ _ hip,rfl,p,F,S,rfl,hSh.same t7,fun l8 H8 s8 f8 e8=>?_⟩
   have t8:=t7.trans s8
   have hjh:1≤S.handed.length:=List.length_pos_of_mem (List.mem_filter.mpr ⟨hjp,by rw[hd];rfl⟩)
   refine⟨l7,l8,S.cardsUp j (upC d i),S.couples,rfl,⟨ks,SqL.of (s8 _ _ e7),r7.imp fun _ _=>IL.stays K _ _ _ _ s8⟩,SqL.of e8,ok.nd,Sh.cardsUp_perm ok ((zjk h0 hi).trans hdp),by rw[Sh.cardsUp_len];exact hjh,by rw[Sh.cardsUp_len];exact hl2,ok.c1,by omega,fun l9 H9 s9 f9 e9=>⟨(by show 2≤sizeLine;decide),fun t hT=>?_⟩⟩
   have t9:=t8.trans s9
   exact q t l9 _ (t9.newT hT) (t9.free hT) (t8.free f9) zd ((Same.new hT) _ _ e9)
inductive zbH (K:Frag) (vs:List V) (H:Hp) (Q:VK) (E:XK):Prop
 | mk (a b:Addr) (cs:List (List Int)) (us:List Int):vs=[.ref a,.ref b]→Refs K (IL K) H a cs→SqL K H b (us.map V.int)→us.Nodup→((∀d∈cs,d.Perm us))→1≤cs.length→cs.length≤15→1≤us.length→us.length≤24→(∀(l:Addr)(H':Hp),Same H H'→H l=none→H' l=some (.lst ((wa cs us).map V.int))→Q (.ref l) H')→zbH K vs H Q E
theorem ziJ{f:Addr}{fd:FuncData}(F:Fun K "firsts_of" "firsts_of" zcj f fd)(T:Txt K mg)(c0i:Can P w K mg base 6 "places_of" yC (yQ K)):FnOk P w K mg base CX0 7 f fd zaa (zbH K):=by
 refine F.ok ziM (fun vs H Q E h=>?_) (fun cdv A outer s H vs Q E hr h=>?_)
 ·obtain⟨a,b,cs,us,rfl,_⟩:=h
  rfl
 ·obtain⟨a,b,cs,us,rfl,hA,hB,nd,hp,c1,c15,u1,u24,q⟩:=h
  refine⟨_,(ze (zk (zgv (show CompScope2 (zf zcj) ["cards","couples"] "place" "couple" [] [] _ from csM2) rfl (pi_zip rfl T.b_zip (za (zg c0i (hM hr) rfl (za (pv 0) (za (pv 1) zb))) (za (pv 1) zb))) (fun _ _ _ _ _=>(yZ (zm zay (pv 0) zh (zp _)))) (fun _ _ _ _ _=>(pv 1))))),?_⟩
  have hln:=zr
  refine⟨_,rfl,_,rfl,a,b,cs,us,rfl,hA,hB,nd,hp,c1,c15,u1,u24,fun l1 H1 s1 f1 e1=>?_⟩
  have hpl:=M6.zS cs us
  refine⟨_,rfl,l1,b,_,_,rfl,SqL.of e1,s1.seq hB,?_⟩
  refine comp2_zip (xs:=(M6.zv cs us).map V.int) (ys:=us.map V.int) (fun i zs H2=>Same H1 H2∧zs=(zae (M6.zv cs us) us i).map V.int) ⟨Same.refl _,rfl⟩ ?_ (by rw[length_map,length_map];omega) ?_ ?_
  ·rintro i zs H2 hi ⟨s2,rfl⟩
   refine⟨SqL.of (s2 _ _ e1),(s1.trans s2).seq hB,?_⟩
   rw[length_map]
   exact za5 _ _ _
  ·rintro i x y t zs H2 hx hy ht ⟨s2,rfl⟩
   obtain⟨hi,rfl⟩:=yN hx
   obtain⟨hi2,rfl⟩:=yN hy
   refine⟨_,rfl,rfl,_,rfl,wv (fun he=>?_) (fun hne=>?_)⟩
   ·have he:(M6.zv cs us).getD i 0=1:=by injection he
    refine⟨_,rfl,s2.newT ht,?_⟩
    rw[ww,if_pos he,map_append]
    rfl
   ·have hne:¬(M6.zv cs us).getD i 0=1:=fun z=>hne (by rw[z])
    refine⟨s2.newT ht,?_⟩
    rw[ww,if_neg hne,append_nil]
  ·rintro zs H2 ⟨s2,rfl⟩ l hl
   rw[length_map,length_map,hpl,Nat.min_self] at *
   have t2:=s1.trans s2
   exact q l _ (t2.newT hl) (t2.free hl) zd
inductive zcX (K:Frag) (vs:List V) (H:Hp) (Q:VK) (E:XK):Prop
 | mk (p:Addr) (F:Addr→Prop) (S:Sh):vs=[.ref p]→SheetAt K H p F S→1≤S.handed.length→(∀(l:Addr)(H':Hp),Same H H'→H l=none→H' l=some (.lst ((wa S.cardsIn S.couples).map V.int))→Q (.ref l) H')→zcX K vs H Q E
theorem ok_firsts{f:Addr}{fd:FuncData}(F:Fun K "firsts" "firsts" zgm f fd)(T:Txt K mg)(c0f:Can P w K mg base 2 "refuse_fewer_cards" zA (zF K))(c0D:Can P w K mg base 7 "firsts_of" zaa (zbH K))(c0:CanM P w K mg base 1 (zE K "Sheet") "couples" zz (zD K))(c0b:CanM P w K mg base 3 (zE K "Sheet") "cards" zZ (yg K)):FnOk P w K mg base CX0 8 f fd ["sheet"] (zcX K):=by
 refine F.ok sc_firsts (fun vs H Q E h=>?_) (fun cdv A outer s H vs Q E hr h=>?_)
 ·obtain⟨p,F,S,rfl,_⟩:=h
  rfl
 ·obtain⟨p,F,S,rfl,hSh,h1,q⟩:=h
  refine⟨_,(zc (zC (zg c0f (hM hr) rfl (za (pv 0) (za zh zb))))
   (ze (zk (zg c0D (hM hr) rfl (za (zy c0b T.cl_Sheet (hM hr) (pv 0)) (za (zy c0 T.cl_Sheet (hM hr) (pv 0)) zb)))))),?_⟩
  have ok:=hSh.ok
  have h15:S.handed.length≤15:=le_trans (length_filter_le _ _) ok.p15
  have c24:=ok.c24
  obtain⟨dx,b1,b2,b3,d,hip⟩:=hSh.ins
  refine⟨_,rfl,p,F,S,1,rfl,hSh,by omega,fun H1 s1=>?_⟩
  refine⟨_,rfl,p,dx,_,rfl,s1 _ _ hip,rfl,p,F,S,rfl,hSh.same s1,fun l2 H2 ls s2 f2 e2 r2=>?_⟩
  have t2:=s1.trans s2
  refine⟨_,rfl,p,dx,_,rfl,t2 _ _ hip,rfl,p,F,S,rfl,hSh.same t2,fun l3 H3 s3 f3 e3=>?_⟩
  have t3:=t2.trans s3
  refine⟨l2,l3,S.cardsIn,S.couples,rfl,⟨ls,SqL.of (s3 _ _ e2),r2.imp fun _ _ z=>SqL.of (s3 _ _ z.2)⟩,SqL.of e3,ok.nd,Sh.cardsIn_perm ok,by rw[Sh.cardsIn_len];exact h1,by rw[Sh.cardsIn_len];exact h15,ok.c1,by omega,fun l4 H4 s4 f4 e4=>?_⟩
  exact q l4 H4 (t3.trans s4) (t3.free f4) e4
inductive zce (K:Frag) (vs:List V) (H:Hp) (Q:VK) (E:XK):Prop
 | mk (p:Addr) (F:Addr→Prop) (S:Sh):vs=[.ref p]→SheetAt K H p F S→2≤S.handed.length→(∀(l:Addr)(H':Hp),Same H H'→H l=none→H' l=some (.lst (S.decide.map V.str))→Q (.ref l) H')→zce K vs H Q E
theorem zi2{f:Addr}{fd:FuncData}(F:Fun K "deciders" "deciders" zdq f fd)(T:Txt K mg)(c0r:Can P w K mg base 8 "firsts" ["sheet"] (zcX K))(c0f:Can P w K mg base 2 "refuse_fewer_cards" zA (zF K))(c0D:Can P w K mg base 7 "firsts_of" zaa (zbH K))(c0C:Can P w K mg base 3 "cards_without" yH (wq K))(c0:CanM P w K mg base 1 (zE K "Sheet") "couples" zz (zD K))(c0a:CanM P w K mg base 1 (zE K "Sheet") "handed" zI (zO K)):FnOk P w K mg base CX0 9 f fd ["sheet"] (zce K):=by
 refine F.ok zfQ (fun vs H Q E h=>?_) (fun cdv A outer s H vs Q E hr h=>?_)
 ·obtain⟨p,F,S,rfl,_⟩:=h
  rfl
 ·obtain⟨p,F,S,rfl,hSh,h2,q⟩:=h
  refine⟨_,(zc (zC (zg c0f (hM hr) rfl (za (pv 0) (za zh zb))))
   (zc (zt (i:=1) zfQ.nd rfl (Or.inr rfl) (zg c0r (hM hr) rfl (za (pv 0) zb)))
   (ze (zk (zQ (show CompScope (zf zdq) ["sheet","now"] "judge" ["sheet","now"] [0,1] _ from csM) rfl (zw (zy c0a T.cl_Sheet (hM hr) (pv 0))) (fun _ _ _ _ _=>(yZ (zm (zck (K:=K) rfl hr.units0) (zg c0D (hM hr) rfl (za (zg c0C (hM hr) rfl (za (pv 1) (za (pv 0) zb))) (za (zy c0 T.cl_Sheet (hM hr) (pv 1)) zb))) (pv 2) (zp _)))) (fun _ _ _ _ _=>(pv 0))))))),?_⟩
  have hln:=zr
  have ok:=hSh.ok
  have h15:S.handed.length≤15:=le_trans (length_filter_le _ _) ok.p15
  have c24:=ok.c24
  obtain⟨dx,b1,b2,b3,d,hip⟩:=hSh.ins
  refine⟨_,rfl,p,F,S,2,rfl,hSh,by omega,fun H1 s1=>?_⟩
  refine⟨_,rfl,p,F,S,rfl,hSh.same s1,by omega,fun l2 H2 s2 f2 e2=>?_⟩
  have t2:=s1.trans s2
  refine⟨_,rfl,p,dx,_,rfl,t2 _ _ hip,rfl,p,F,S,rfl,(hSh.same t2).shape,ok.p15,fun l3 H3 s3 f3 e3=>?_⟩
  have t3:=t2.trans s3
  refine⟨l3,rfl,⟨_,SqL.of e3⟩,?_⟩
  refine yI (xs:=S.handed.map V.str) (fun i ys H4=>Same H3 H4∧ys=((S.handed.take i).filter fun j => !Decidable.decide (wa (S.cardsWo j) S.couples=wa S.cardsIn S.couples)).map V.str) ⟨Same.refl _,rfl⟩ ?_ (by rw[length_map];omega) ?_ ?_
  ·rintro i ys H4 hi ⟨s4,rfl⟩
   refine⟨s4.seq (SqL.of e3),?_⟩
   rw[length_map]
   exact le_trans (length_filter_le _ _) (by rw[length_take];omega)
  ·rintro i x ys H4 hx ⟨s4,rfl⟩
   obtain⟨hi,rfl⟩:=zbY hx
   have t4:=t3.trans s4
   refine⟨_,rfl,_,rfl,p,F,S,_,rfl,hSh.same t4,fun l5 H5 ks s5 f5 e5 r5=>?_⟩
   have t5:=t4.trans s5
   refine⟨_,rfl,p,dx,_,rfl,t5 _ _ hip,rfl,p,F,S,rfl,hSh.same t5,fun l6 H6 s6 f6 e6=>?_⟩
   have g1:=Sh.cardsWo_ge ok.pnd (S.handed.getD i "")
   have g2:=Sh.cardsWo_le S (S.handed.getD i "")
   refine⟨l5,l6,_,S.couples,rfl,⟨ks,SqL.of (s6 _ _ e5),r5.imp fun _ _=>IL.stays K _ _ _ _ s6⟩,SqL.of e6,ok.nd,Sh.cardsWo_perm ok _,by omega,by omega,ok.c1,by omega,fun l7 H7 s7 f7 e7=>?_⟩
   have u7:=((s4.trans s5).trans s6).trans s7
   refine⟨_,rfl,l7,l2,_,_,rfl,rfl,SqL.of e7,SqL.of ((s3.trans u7) _ _ e2),zX _,zX _,_,rfl,?_⟩
   rw[zbc]
   refine yk (fun hne=>?_) (fun he=>?_)
   ·refine⟨_,rfl,u7,?_⟩
    rw[yq hi,filter_append,filter_cons,if_pos (by rw[decide_eq_false hne];rfl),map_append]
    rfl
   ·refine⟨u7,?_⟩
    rw[yq hi,filter_append,filter_cons,if_neg (by rw[decide_eq_true he];decide),filter_nil,append_nil]
  ·rintro ys H4 ⟨s4,rfl⟩ l hl
   rw[length_map,take_length] at *
   have t4:=t3.trans s4
   exact q l _ (t4.newT hl) (t4.free hl) zd
inductive zcz (K:Frag) (vs:List V) (H:Hp) (Q:VK) (E:XK):Prop
 | mk (a b:Addr) (ps us:List Int):vs=[.ref a,.ref b]→SqL K H a (ps.map V.int)→SqL K H b (us.map V.int)→ps.length=us.length→((∀k,k<us.length→1≤ps.getD k 0∧ps.getD k 0≤us.length))→1≤us.length→us.length≤24→LamS (zax K "by_place") zcM H→(∀(l:Addr)(H':Hp)(ls:List Addr),SameN H H'→LamS (zax K "by_place") zcM H'→H l=none→H' l=some (.lst (ls.map V.ref))→All2 (TPl K H') ls (M5.rows ps us)→Q (.ref l) H')→zcz K vs H Q E
theorem zj4{f:Addr}{fd:FuncData}(F:Fun K "by_place" "by_place" zaB f fd)(T:Txt K mg)(L:Lam K "by_place" f)(B:ze7 mg base)(c0u:Can P w K mg base 7 "places" ["sheet"] (zcU K)):FnOk P w K mg base CX0 11 f fd ["places","couples"] (zcz K):=by
 refine F.okC L zjc (fun vs H Q E h=>?_) (fun c A outer s H vs Q E hC hr h=>?_)
 ·obtain⟨a,b,ps,us,rfl,_⟩:=h
  rfl
 ·obtain⟨a,b,ps,us,rfl,hA,hB,hl,hk,u1,u2,hT,q⟩:=h
  refine⟨_,(ze (zk (pe_sortz2 rfl (hM hr) (by rfl) T.b_sorted (by rfl) T.b_zip rfl hC B ⟨rfl,rfl,rfl,by decide,rfl,by decide +kernel,by decide +kernel⟩ rfl (by decide) (by decide) rfl rfl (fun _ _ _ _ _ _=>rfl) (za (pv 0) (za (pv 1) zb))))),?_⟩
  refine⟨_,rfl,_,rfl,a,b,ps,us.map V.int,rfl,hA,hB,by rw[length_map];exact hl,by omega,by omega,hT,fun H2 ts l p sn ls pr hn hi=>?_⟩
  rw[hl] at hi
  have hm:∀i∈p.toList,i<us.length:=fun i h=>by
   rw[M15.is_idx hi hk] at h
   exact List.mem_range.mp ((M15.idx_mem _ _ hk i).mp h)
  have rr:=zjE (K:=K) hl pr p.toList hm
  rw[M15.rows_of hl hk hi] at rr
  refine q l _ (p.toList.map fun i=>ts.getD i 0) (sn.trans (Same.new hn).toN) (ls.same (Same.new hn)) (sn.free hn) ?_ (rr.imp fun _ _=>TPl.stays K _ _ _ _ (Same.new hn))
  rw[map_map]
  exact zd
inductive zaN (K:Frag) (vs:List V) (H:Hp) (Q:VK) (E:XK):Prop
 | mk (a b:Addr) (cs:List (List Int)) (us:List Int):vs=[.ref a,.ref b]→Refs K (IL K) H a cs→SqL K H b (us.map V.int)→us.Nodup→((∀d∈cs,d.Perm us))→1≤cs.length→cs.length≤15→1≤us.length→us.length≤24→LamS (zax K "by_place") zcM H→(∀(l:Addr)(H':Hp)(ls:List Addr),SameN H H'→LamS (zax K "by_place") zcM H'→H l=none→H' l=some (.lst (ls.map V.ref))→All2 (TPl K H') ls (M5.rows (M6.zv cs us) us)→Q (.ref l) H')→zaN K vs H Q E
theorem zhq{f:Addr}{fd:FuncData}(F:Fun K "ranking_of" "ranking_of" zdb f fd)(T:Txt K mg)(c0i:Can P w K mg base 6 "places_of" yC (yQ K))(c1b:Can P w K mg base 11 "by_place" ["places","couples"] (zcz K)):FnOk P w K mg base CX0 12 f fd wJ (zaN K):=by
 refine F.ok zhw (fun vs H Q E h=>?_) (fun cdv A outer s H vs Q E hr h=>?_)
 ·obtain⟨a,b,cs,us,rfl,_⟩:=h
  rfl
 ·obtain⟨a,b,cs,us,rfl,hC,hU,hnd,hp,c1,c2,u1,u2,hT,q⟩:=h
  refine⟨_,(ze (zk (zg c1b (hM hr) rfl (za (zg c0i (hM hr) rfl (za (pv 0) (za (pv 1) zb))) (za (pv 1) zb))))),?_⟩
  refine⟨_,rfl,_,rfl,a,b,cs,us,rfl,hC,hU,hnd,hp,c1,c2,u1,u2,fun l1 H1 s1 f1 e1=>?_⟩
  refine⟨_,rfl,l1,b,M6.zv cs us,us,rfl,SqL.of e1,s1.seq hU,M6.zS cs us,M6.places_rng cs us,u1,u2,hT.same s1,fun l H' ls s2 z2 f2 e2 r2=>?_⟩
  exact q l H' ls (s1.toN.trans s2) z2 (s1.toN.free f2) e2 r2
inductive zbU (K:Frag) (vs:List V) (H:Hp) (Q:VK) (E:XK):Prop
 | mk (a b:Addr) (cs:List (List Int)) (us:List Int):vs=[.ref a,.ref b]→Refs K (IL K) H a cs→SqL K H b (us.map V.int)→us.Nodup→((∀d∈cs,d.Perm us))→1≤cs.length→cs.length≤15→1≤us.length→us.length≤24→LamS (zax K "by_place") zcM H→(∀(l:Addr)(H':Hp)(ls:List Addr),SameN H H'→LamS (zax K "by_place") zcM H'→H l=none→H' l=some (.lst (ls.map V.ref))→All2 (F4 K H') ls (M6.zbd cs us)→Q (.ref l) H')→zbU K vs H Q E
theorem zgo{f:Addr}{fd:FuncData}(F:Fun K "partings_of" "partings_of" zaH f fd)(T:Txt K mg)(c0n:Can P w K mg base 2 "marks_of" wW (za7 K))(c0E:Can P w K mg base 12 "ranking_of" wJ (zaN K))(c1c:Can P w K mg base 4 "parting_of" zaZ (zcF K)):FnOk P w K mg base CX0 13 f fd zar (zbU K):=by
 refine F.ok yK (fun vs H Q E h=>?_) (fun cdv A outer s H vs Q E hr h=>?_)
 ·obtain⟨a,b,cs,us,rfl,_⟩:=h
  rfl
 ·obtain⟨a,b,cs,us,rfl,hC,hU,hnd,hp,c1,c2,u1,u2,hT,q⟩:=h
  refine⟨_,(zc (zfZ (i:=2) (show CompScope2 (zf zaH) zdY "place" "couple" [] [] _ from csM2) rfl yK.nd rfl (Or.inl rfl) (zw (zg c0E (hM hr) rfl (za (pv 0) (za (pv 1) zb)))) (fun _ _ _ _ _=>yu) (fun _ _ _ _ _=>(pv 1)))
   (zc (zt (i:=3) yK.nd rfl (Or.inl rfl) (ye zb))
   (zc (ym PassesOwn.never rfl (pi_zip rfl T.b_zip (za (pv 2) (za (yW zaX (pv 2) (wt zh) zal) zb))) (pg_tup rfl (zeT (zH (i:=4) yK.nd rfl (Or.inl rfl)) (zeT (zH (i:=5) yK.nd rfl (Or.inl rfl)) pgs_nil)))
     (zc (zt (i:=6) yK.nd rfl (Or.inl rfl) (zg c1c (hM hr) rfl (za (zg c0n (hM hr) rfl (za (pv 0) (za (pv 4) zb))) (za (zg c0n (hM hr) rfl (za (pv 0) (za (pv 5) zb))) zb))))
   (ze (zx (zm op_notN (pv 6) zfm (zp _)) (ze (zC (zaf PySem.F.plainAttrs_list PySem.F.slot_list_append PySem.F.type_list_append yz (pv 3) (za (zb9 (za (pv 4) (za (pv 5) (za (zq yo (pv 6) zh (fun _ _=>rfl)) (za (zq yo (pv 6) zh (fun _ _=>rfl)) zb))))) zb)))) zo))))
   (ze (zk (pv 3)))))),?_⟩
  have hln:=zr
  refine⟨_,rfl,_,rfl,a,b,cs,us,rfl,hC,hU,hnd,hp,c1,c2,u1,u2,hT,fun l1 H1 ls s1 z1 f1 e1 r1=>?_⟩
  refine⟨l1,rfl,⟨_,SqL.of e1⟩,?_⟩
  have t1:=s1.same
  have hC1:=hC.noT
  have hmem:=fun p (hp:p∈M5.rows (M6.zv cs us) us)=>M6.zfa hp
  have hrl:=M5.rows_len (M6.zv cs us) us (M6.zS cs us)
  have hmul:us.length*us.length≤24*24:=mul_le_mul u2 u2
  unfold M6.zbd at q
  generalize M5.rows (M6.zv cs us) us=rs at r1 hrl hmem q
  have hl1:=r1.length
  refine zfR (xs:=ls.map V.ref) (fun i ys H2=>Same H1 H2∧ys=((rs.take i).map fun p=>p.2).map V.int) ⟨Same.refl _,rfl⟩ ?_ (by rw[length_map];omega) ?_ ?_
  ·rintro i ys H2 hi ⟨s2,rfl⟩
   refine⟨s2.seq (SqL.of e1),?_⟩
   rw[length_map,length_map,length_take]
   omega
  ·rintro i x ys H2 hx ⟨s2,rfl⟩
   obtain⟨p,ep,rfl⟩:=wF hx
   obtain⟨m,em,rm⟩:=r1.getL ep
   refine⟨p,_,_,rfl,s2.seqT rm,_,rfl,s2,?_⟩
   rw[take_succ,em,map_append,map_append]
   rfl
  ·rintro ys H2 ⟨s2,rfl⟩ l2 hl2
   rw[length_map,hl1,take_length]
   generalize hH3:upd H2 l2 _=H3
   have s23:Same H2 H3:=by rw[←hH3];exact Same.new hl2
   have e3:H3 l2=some (.lst ((rs.map fun p=>p.2).map V.int)):=by rw[←hH3];exact zd
   have s13:=s2.trans s23
   refine⟨by decide,fun p4 hp4=>?_⟩
   have e4:(upd H3 p4 (.lst [])) l2=some (.lst ((rs.map fun p=>p.2).map V.int)):=(Same.new hp4) _ _ e3
   refine⟨_,rfl,_,rfl,_,rfl,l2,_,rfl,SqL.of e4,fun l5 hl5=>?_⟩
   rw[zfK (by decide)]
   have s4:=Same.new (o:=.lst []) hp4
   have s5:=Same.new (o:=.lst (((rs.map fun p=>p.2).drop (1:Int).toNat).map V.int)) hl5
   have n45:p4≠l5:=zj zd hl5
   have e6:upd (upd H3 p4 (.lst [])) l5 (.lst (((rs.map fun p=>p.2).drop (1:Int).toNat).map V.int)) p4=some (.lst (([]:List Addr).map V.ref)):=by rw[zi n45];exact zd
   have e5:upd (upd H3 p4 (.lst [])) l5 (.lst (((rs.map fun p=>p.2).drop (1:Int).toNat).map V.int)) l5=some (.lst (((rs.map fun p=>p.2).drop 1).map V.int)):=zd
   have s36:=s4.trans s5
   generalize hH6:upd (upd H3 p4 (.lst [])) l5 _=H6 at e6 e5 s36 ⊢
   have hf5:H3 l5=none:=s4.free hl5
   refine⟨l2,l5,_,_,rfl,SqL.of (s36 _ _ e3),SqL.of e5,?_⟩
   refine for_zip (xs:=(rs.map fun p=>p.2).map V.int) (ys:=((rs.map fun p=>p.2).drop 1).map V.int) (fun i σ H7=>∃(v4 v5 v6:Option V)(ms:List Addr),σ=[some (.ref a),some (.ref b),some (.ref l2),some (.ref p4),v4,v5,v6]∧Same H3 H7∧H7 l5=some (.lst (((rs.map fun p=>p.2).drop 1).map V.int))∧H7 p4=some (.lst (ms.map V.ref))∧All2 (F4 K H7) ms (((rs.zip rs.tail).take i).filterMap fun pq=>M6.nb cs us pq.1 pq.2)) ⟨_,_,_,[],rfl,s36,e5,e6,.nil⟩ ?_ ?_ ?_
   ·rintro i σ H7 hi ⟨v4,v5,v6,ms,rfl,s7,f5,f4,r7⟩
    exact⟨SqL.of (s7 _ _ e3),SqL.of f5⟩
   ·rintro i x y t σ H7 hx hy hn ⟨v4,v5,v6,ms,rfl,s7,f5,f4,r7⟩
    rw[getElem?_map,getElem?_map] at hx
    rw[getElem?_map,List.getElem?_drop,getElem?_map,Nat.add_comm] at hy
    cases ea:rs[i]? with
    | none=>rw[ea] at hx;cases hx
    | some pa =>
      cases eb:rs[i+1]? with
      | none=>rw[eb] at hy;cases hy
      | some pb =>
        rw[ea] at hx
        rw[eb] at hy
        cases hx
        cases hy
        have ez:(rs.zip rs.tail)[i]? = some (pa,pb):=by rw[List.getElem?_zip_eq_some];exact⟨ea,by rw[List.getElem?_tail];exact eb⟩
        obtain⟨ma1,ma2⟩:=hmem _ (mem_of_getElem? ea)
        obtain⟨mb1,mb2⟩:=hmem _ (mem_of_getElem? eb)
        have s8:=Same.new (o:=.tup [.int pa.2,.int pb.2]) hn
        refine⟨t,_,rfl,SqT.new,rfl,_,_,rfl,_,_,rfl,rfl,?_⟩
        have t8:=((t1.trans (s2.trans s23)).trans s7).trans s8
        have f48:=s8 _ _ f4
        have f58:=s8 _ _ f5
        have r8:=r7.imp fun _ _=>F4.stays K _ _ _ _ s8
        have s38:=s7.trans s8
        generalize hH8:upd H7 t _=H8 at s8 t8 f48 f58 r8 s38 ⊢
        refine⟨_,rfl,_,rfl,a,cs,_,rfl,hC1.same (IL.stays K) t8,by omega,fun d hd=>(hp d hd).mem_iff.mpr ma1,fun l9 H9 s9 f9 e9=>?_⟩
        refine⟨_,rfl,_,rfl,a,cs,_,rfl,hC1.same (IL.stays K) (t8.trans s9),by omega,fun d hd=>(hp d hd).mem_iff.mpr mb1,fun l10 H10 s10 f10 e10=>?_⟩
        have rng:∀d∈us,∀x∈M5.zl cs d,1≤x∧x≤24:=fun d hd x hx=>by have:=M6.yw hp hd x hx;omega
        refine⟨l9,l10,_,_,rfl,SqL.of (s10 _ _ e9),SqL.of e10,by rw[M5.zV,M5.zV],by rw[M5.zV];omega,by rw[M5.zV];omega,rng _ ma1,rng _ mb1,fun r hr v H11 s11 told=>?_⟩
        have hnb:=M6.nb_part hp u1 u2 ma1 mb1 hr
        rw[←ma2,←mb2] at hnb
        have s811:=s9.trans (s10.trans s11)
        have f4':=s811 _ _ f48
        have f5':=s811 _ _ f58
        have r11:=r8.imp fun _ _=>F4.stays K _ _ _ _ s811
        have s311:=s38.trans s811
        cases r with
        | none =>
          have told:v=.non:=told
          subst told
          have ef:filterMap (fun pq:(Int×Int)×(Int×Int)=>M6.nb cs us pq.1 pq.2) (some (pa,pb)).toList=[]:=by
           show filterMap _ [(pa,pb)]=_
           rw[List.filterMap_cons_none (f:=fun pq:(Int×Int)×(Int×Int)=>M6.nb cs us pq.1 pq.2) (a:=(pa,pb)) hnb,filterMap_nil]
          refine⟨_,rfl,rfl,_,rfl,iteNS rfl ?_⟩
          refine⟨_,_,_,ms,rfl,s311,f5',f4',?_⟩
          rw[take_succ,ez,List.filterMap_append,ef,append_nil]
          exact r11
        | some r =>
          obtain⟨l12,rfl,hT12⟩:=told
          have ef:filterMap (fun pq:(Int×Int)×(Int×Int)=>M6.nb cs us pq.1 pq.2) (some (pa,pb)).toList=[(pa.2,pb.2,(r.1:Int),r.2)]:=by
           show filterMap _ [(pa,pb)]=_
           rw[List.filterMap_cons_some (f:=fun pq:(Int×Int)×(Int×Int)=>M6.nb cs us pq.1 pq.2) (a:=(pa,pb)) hnb,filterMap_nil]
          refine⟨_,rfl,rfl,_,rfl,yk (fun _=>?_) (fun z=>by cases z)⟩
          refine⟨_,rfl,.inl ⟨rfl,_,SqL.of f4'⟩,_,rfl,_,rfl,_,rfl,l12,_,_,_,rfl,rfl,hT12,rfl,_,rfl,l12,_,_,_,rfl,rfl,hT12,rfl,(by show 4≤sizeLine;decide),fun p13 hp13=>?_⟩
          have s13:=Same.new (o:=.tup [.int pa.2,.int pb.2,.int (r.1:Nat),.str r.2]) hp13
          have hl2:=r7.length
          have hfl:=List.length_filterMap_le (fun pq:(Int×Int)×(Int×Int)=>M6.nb cs us pq.1 pq.2) ((rs.zip rs.tail).take i)
          rw[length_take,length_zip] at hfl
          refine⟨p4,_,_,rfl,rfl,s13 _ _ f4',by rw[length_map];omega,?_⟩
          refine⟨_,_,_,ms++[p13],rfl,(s311.trans s13).put hp4,by rw[zi (Ne.symm n45)];exact s13 _ _ f5',zg3 ms p13,?_⟩
          rw[take_succ,ez,List.filterMap_append,ef]
          refine All2.snoc (F4.put (r11.imp fun _ _=>F4.stays K _ _ _ _ s13) (s13 _ _ f4')) ?_
          exact SqT.put (ys:=ms.map V.ref) SqT.new (s13 _ _ f4')
   ·rintro σ H7 ⟨v4,v5,v6,ms,rfl,s7,f5,f4,r7⟩
    rw[length_map,length_map,length_map,length_drop,length_map,take_of_length_le (by rw[length_zip,length_tail];omega)] at r7
    refine⟨_,rfl,q p4 H7 ms ?_ (z1.same (s13.trans s7)) ?_ f4 r7⟩
    ·exact s1.trans (Same.toN (s13.trans s7))
    ·exact s1.free (s13.free hp4)
inductive zb0 (K:Frag) (vs:List V) (H:Hp) (Q:VK) (E:XK):Prop
 | mk (p:Addr) (F:Addr→Prop) (S:Sh):vs=[.ref p]→SheetAt K H p F S→1≤S.handed.length→LamS (zax K "by_place") zcM H→(∀(l:Addr)(H':Hp)(ls:List Addr),SameN H H'→LamS (zax K "by_place") zcM H'→H l=none→H' l=some (.lst (ls.map V.ref))→All2 (TPl K H') ls (M5.rows (M6.zv S.cardsIn S.couples) S.couples)→Q (.ref l) H')→zb0 K vs H Q E
theorem ok_ranking{f:Addr}{fd:FuncData}(F:Fun K "ranking" "ranking" zfq f fd)(T:Txt K mg)(c0E:Can P w K mg base 12 "ranking_of" wJ (zaN K))(c0f:Can P w K mg base 2 "refuse_fewer_cards" zA (zF K))(c0:CanM P w K mg base 1 (zE K "Sheet") "couples" zz (zD K))(c0b:CanM P w K mg base 3 (zE K "Sheet") "cards" zZ (yg K)):FnOk P w K mg base CX0 13 f fd ["sheet"] (zb0 K):=by
 refine F.ok sc_ranking (fun vs H Q E h=>?_) (fun cdv A outer s H vs Q E hr h=>?_)
 ·obtain⟨p,F,S,rfl,_⟩:=h
  rfl
 ·obtain⟨p,F,S,rfl,hSh,h1,hT,q⟩:=h
  refine⟨_,(zc (zC (zg c0f (hM hr) rfl (za (pv 0) (za zh zb))))
   (ze (zk (zg c0E (hM hr) rfl (za (zy c0b T.cl_Sheet (hM hr) (pv 0)) (za (zy c0 T.cl_Sheet (hM hr) (pv 0)) zb)))))),?_⟩
  have ok:=hSh.ok
  have h15:S.handed.length≤15:=le_trans (length_filter_le _ _) ok.p15
  have c24:=ok.c24
  obtain⟨dx,b1,b2,b3,d,hip⟩:=hSh.ins
  refine⟨_,rfl,p,F,S,1,rfl,hSh,by omega,fun H1 s1=>?_⟩
  refine⟨_,rfl,p,dx,_,rfl,s1 _ _ hip,rfl,p,F,S,rfl,hSh.same s1,fun l2 H2 ls s2 f2 e2 r2=>?_⟩
  have t2:=s1.trans s2
  refine⟨_,rfl,p,dx,_,rfl,t2 _ _ hip,rfl,p,F,S,rfl,hSh.same t2,fun l3 H3 s3 f3 e3=>?_⟩
  have t3:=t2.trans s3
  refine⟨l2,l3,S.cardsIn,S.couples,rfl,⟨ls,SqL.of (s3 _ _ e2),r2.imp fun _ _ z=>SqL.of (s3 _ _ z.2)⟩,SqL.of e3,ok.nd,Sh.cardsIn_perm ok,by rw[Sh.cardsIn_len];exact h1,by rw[Sh.cardsIn_len];exact h15,ok.c1,by omega,hT.same t3,fun l4 H4 ls4 s4 z4 f4 e4 r4=>?_⟩
  exact q l4 H4 ls4 (t3.toN.trans s4) z4 (t3.free f4) e4 r4
inductive zcy (K:Frag) (vs:List V) (H:Hp) (Q:VK) (E:XK):Prop
 | mk (p:Addr) (F:Addr→Prop) (S:Sh):vs=[.ref p]→SheetAt K H p F S→1≤S.handed.length→LamS (zax K "by_place") zcM H→(∀(l:Addr)(H':Hp)(ls:List Addr),SameN H H'→LamS (zax K "by_place") zcM H'→H l=none→H' l=some (.lst (ls.map V.ref))→All2 (F4 K H') ls (M6.zbd S.cardsIn S.couples)→Q (.ref l) H')→zcy K vs H Q E
theorem zjV{f:Addr}{fd:FuncData}(F:Fun K "partings" "partings" zev f fd)(T:Txt K mg)(c1d:Can P w K mg base 13 "partings_of" zar (zbU K))(c0f:Can P w K mg base 2 "refuse_fewer_cards" zA (zF K))(c0:CanM P w K mg base 1 (zE K "Sheet") "couples" zz (zD K))(c0b:CanM P w K mg base 3 (zE K "Sheet") "cards" zZ (yg K)):FnOk P w K mg base CX0 14 f fd ["sheet"] (zcy K):=by
 refine F.ok zjC (fun vs H Q E h=>?_) (fun cdv A outer s H vs Q E hr h=>?_)
 ·obtain⟨p,F,S,rfl,_⟩:=h
  rfl
 ·obtain⟨p,F,S,rfl,hSh,h1,hT,q⟩:=h
  refine⟨_,(zc (zC (zg c0f (hM hr) rfl (za (pv 0) (za zh zb))))
   (ze (zk (zg c1d (hM hr) rfl (za (zy c0b T.cl_Sheet (hM hr) (pv 0)) (za (zy c0 T.cl_Sheet (hM hr) (pv 0)) zb)))))),?_⟩
  have ok:=hSh.ok
  have h15:S.handed.length≤15:=le_trans (length_filter_le _ _) ok.p15
  have c24:=ok.c24
  obtain⟨dx,b1,b2,b3,d,hip⟩:=hSh.ins
  refine⟨_,rfl,p,F,S,1,rfl,hSh,by omega,fun H1 s1=>?_⟩
  refine⟨_,rfl,p,dx,_,rfl,s1 _ _ hip,rfl,p,F,S,rfl,hSh.same s1,fun l2 H2 ls s2 f2 e2 r2=>?_⟩
  have t2:=s1.trans s2
  refine⟨_,rfl,p,dx,_,rfl,t2 _ _ hip,rfl,p,F,S,rfl,hSh.same t2,fun l3 H3 s3 f3 e3=>?_⟩
  have t3:=t2.trans s3
  refine⟨l2,l3,S.cardsIn,S.couples,rfl,⟨ls,SqL.of (s3 _ _ e2),r2.imp fun _ _ z=>SqL.of (s3 _ _ z.2)⟩,SqL.of e3,ok.nd,Sh.cardsIn_perm ok,by rw[Sh.cardsIn_len];exact h1,by rw[Sh.cardsIn_len];exact h15,ok.c1,by omega,hT.same t3,fun l4 H4 ls4 s4 z4 f4 e4 r4=>?_⟩
  exact q l4 H4 ls4 (t3.toN.trans s4) z4 (t3.free f4) e4 r4
inductive ze6 (K:Frag) (vs:List V) (H:Hp) (Q:VK) (E:XK):Prop
 | mk (x:Addr) (F:Addr→Prop) (S:Sh):vs=[.ref x]→SheetAt K H x F S→1≤S.handed.length→LamS (zax K "by_place") zcM H→(∀(l:Addr)(H':Hp),SameN H H'→LamS (zax K "by_place") zcM H'→H l=none→H' l=some (.lst ((M6.zdO S.cardsIn S.couples).map V.str))→Q (.ref l) H')→ze6 K vs H Q E
theorem ok_table{f:Addr}{fd:FuncData}(F:Fun K "table" "table" zgk f fd)(T:Txt K mg)(c0s:Can P w K mg base 13 "ranking" ["sheet"] (zb0 K))(c1e:Can P w K mg base 4 "row_text" zcf (zdJ K)):FnOk P w K mg base CX0 14 f fd ["sheet"] (ze6 K):=by
 refine F.ok sc_table (fun vs H Q E h=>?_) (fun cdv A outer s H vs Q E hr h=>?_)
 ·obtain⟨x,F,S,rfl,_⟩:=h
  rfl
 ·obtain⟨x,F,S,rfl,hSh,h1,hL,q⟩:=h
  refine⟨_,(ze (zk (zgv (show CompScope2 (zf zgk) ["sheet"] "place" "couple" ["sheet"] [0] _ from csM2) rfl (zw (zg c0s (hM hr) rfl (za (pv 0) zb))) (fun _ _ _ _ _=>yu) (fun _ _ _ _ _=>(zg c1e (hM hr) rfl (za (pv 2) (za (pv 0) (za (pv 1) zb)))))))),?_⟩
  have hln:=zr
  have ok:=hSh.ok
  have c24:=ok.c24
  refine⟨_,rfl,x,F,S,rfl,hSh,h1,hL,fun l1 H1 ls s1 z1 f1 e1 r1=>?_⟩
  obtain⟨F1,hF1,g1⟩:=hSh.sameN s1
  have hrl:=M5.rows_len (M6.zv S.cardsIn S.couples) S.couples (M6.zS _ _)
  have hmul:S.couples.length*S.couples.length≤24*24:=mul_le_mul (by omega) (by omega)
  refine⟨l1,rfl,⟨_,SqL.of e1⟩,?_⟩
  refine zex (f:=fun p=>M6.rowT p.1 p.2 (M5.zl S.cardsIn p.2) S.couples.length) (SqL.of e1) r1 (by omega) (fun p H' R hp s' h=>?_) fun H2 s2=>?_
  ·obtain⟨m1,m2⟩:=M6.zfa hp
   have hb:p.1.natAbs≤990:=by
    rw[m2]
    unfold M6.yD
    have:=length_filter_le (fun d=>M6.yl (M5.zl S.cardsIn d) (M5.zl S.cardsIn p.2) S.couples.length) S.couples
    omega
   exact⟨_,rfl,_,rfl,_,rfl,x,F1,S,p.1,p.2,rfl,g1.same s',m1,hb,fun H2 s2=>h H2 s2⟩
  ·intro l2 hl2
   exact q l2 _ (s1.trans (s2.newT hl2).toN) (z1.same (s2.newT hl2)) (s1.free (s2.free hl2)) zd
inductive zak (K:Frag) (vs:List V) (H:Hp) (Q:VK) (E:XK):Prop
 | mk (x n k:Addr) (F:Addr→Prop) (S:Sh) (kl:List Addr) (kind:Int):vs=[.ref x,.ref n,.ref k,.int kind]→SheetAt K H x F S→H n=some (.lst (S.panel.map V.str))→H k=some (.lst (kl.map V.ref))→(All2 (fun l c=>H l=some (.lst (c.map V.int))) kl S.rows)→((∀j∈S.panel,S.card j≠none))→2≤S.panel.length→LamS (zax K "by_place") zcM H→(∀H',SameN H H'→LamS (zax K "by_place") zcM H'→Q .non H')→zak K vs H Q E
theorem zeY{f:Addr}{fd:FuncData}(F:Fun K "_law_spoil_told" "_law_spoil_told" zaz f fd)(T:Txt K mg)(c0u:Can P w K mg base 7 "places" ["sheet"] (zcU K))(c0s:Can P w K mg base 13 "ranking" ["sheet"] (zb0 K))(c0r:Can P w K mg base 8 "firsts" ["sheet"] (zcX K))(c0F:Can P w K mg base 14 "partings" ["sheet"] (zcy K))(c0G:Can P w K mg base 7 "left_out" za1 (zcn K))(c0H:Can P w K mg base 9 "deciders" ["sheet"] (zce K))(c0I:Can P w K mg base 7 "step_up" zbL (zc0 K))(c0J:Can P w K mg base 14 "table" ["sheet"] (ze6 K))(c0j:Can P w K mg base 1 "_law_spoil" zaj (zbu K))(c0:CanM P w K mg base 1 (zE K "Sheet") "couples" zz (zD K))(c0A:CanM P w K mg base 1 (zE K "Sheet") "struck" ["self"] (wP K))(c0B:CanM P w K mg base 1 (zE K "Sheet") "judges" ["self"] (wO K))(c0a:CanM P w K mg base 1 (zE K "Sheet") "handed" zI (zO K))(c0b:CanM P w K mg base 3 (zE K "Sheet") "cards" zZ (yg K))(c0c:CanMX P w K mg base 2 (zE K "Sheet") "card_of" zR (yd K)):FnOk P w K mg base CX0 15 f fd y9 (zak K):=by
 refine F.ok yn (fun vs H Q E h=>?_) (fun cdv A outer s H vs Q E hr h=>?_)
 ·obtain⟨x,n,k,F,S,kl,kind,rfl,_⟩:=h
  rfl
 ·obtain⟨x,n,k,F,S,kl,kind,rfl,hSh,hN,hK,rK,hall,h2,hL,q⟩:=h
  refine⟨_,(zc (ym PassesOwn.never rfl (zW rfl T.b_range (za (ya T.b_len (pv 1)) zb)) (zH (i:=4) yn.nd rfl (Or.inl rfl))
   (zc (zC (zg c0j (hM hr) rfl (za (wg c0c T.cl_Sheet zdC (hM hr) (pv 0) (za (zq zn (pv 1) (pv 4) (fun _ _=>rfl)) zb)) (za (pv 3) zb))))
   (zc (zC (zg c0j (hM hr) rfl (za (zg c0G (hM hr) rfl (za (pv 0) (za (zq zn (pv 1) (pv 4) (fun _ _=>rfl)) zb))) (za (pv 3) zb))))
   (ze (zcP (zx (zm zgU (ya T.b_len (zq zn (pv 2) (pv 4) (fun _ _=>rfl))) zh (zp _)) (ze (zC (zg c0j (hM hr) rfl (za (zq yo (zg c0I (hM hr) rfl (za (pv 0) (za (zq zn (pv 1) (pv 4) (fun _ _=>rfl)) (za (zq zn (zq zn (pv 2) (pv 4) (fun _ _=>rfl)) zh (fun _ _=>rfl)) zb)))) zh (fun _ _=>rfl)) (za (pv 3) zb))))) zo))))))
   (zc (zt (i:=5) yn.nd rfl (Or.inl rfl) (zy c0b T.cl_Sheet (hM hr) (pv 0)))
   (zc (ym PassesOwn.never rfl (zw (pv 5)) (zH (i:=6) yn.nd rfl (Or.inl rfl))
     (ze (zC (zg c0j (hM hr) rfl (za (pv 6) (za (pv 3) zb))))))
   (zc (zC (zg c0j (hM hr) rfl (za (pv 5) (za (pv 3) zb))))
   (zc (ym PassesOwn.never rfl (zw (ye (za (zy c0 T.cl_Sheet (hM hr) (pv 0)) (za (zy c0A T.cl_Sheet (hM hr) (pv 0)) (za (zy c0B T.cl_Sheet (hM hr) (pv 0)) (za (zy c0a T.cl_Sheet (hM hr) (pv 0)) (za (zg c0J (hM hr) rfl (za (pv 0) zb)) zb))))))) (zH (i:=7) yn.nd rfl (Or.inl rfl))
     (ze (zC (zg c0j (hM hr) rfl (za (pv 7) (za (pv 3) zb))))))
   (ze (ym PassesOwn.never rfl (zw (ye (za (zg c0u (hM hr) rfl (za (pv 0) zb)) (za (zg c0s (hM hr) rfl (za (pv 0) zb)) (za (zg c0r (hM hr) rfl (za (pv 0) zb)) (za (zg c0F (hM hr) rfl (za (pv 0) zb)) (za (zg c0H (hM hr) rfl (za (pv 0) zb)) zb))))))) (zH (i:=7) yn.nd rfl (Or.inl rfl))
     (ze (zC (zg c0j (hM hr) rfl (za (pv 7) (za (pv 3) zb)))))))))))),?_⟩
  have hln:=zr
  have ok:=hSh.ok
  have c1:=ok.c1
  have c24:=ok.c24
  have p15:=ok.p15
  have hhd:S.handed=S.panel:=zey hall
  have hci:S.cardsIn.length=S.panel.length:=by rw[Sh.cardsIn_len,hhd]
  have hkl:=rK.length
  rw[S.rows_len] at hkl
  have sheet:∀{H':Hp},SameN H H'→∃F':Addr→Prop,SheetAt K H' x F' S:=fun {H'} s=>by
   obtain⟨F',_,g⟩:=hSh.sameN s
   exact⟨F',g⟩
  refine⟨_,rfl,n,_,rfl,.inl (SqL.of hN),_,rfl,by omega,by rw[length_map];omega,?_⟩
  rw[length_map,show((S.panel.length:Nat):Int).toNat=S.panel.length by omega]
  refine zY (fun i σ H'=>∃(v:Option V),σ=[some (.ref x),some (.ref n),some (.ref k),some (.int kind),v,none,none,none]∧SameN H H'∧LamS (zax K "by_place") zcM H') ⟨_,rfl,(Same.refl _).toN,hL⟩ ?_ ?_
  ·rintro i σ H1 hi ⟨v,rfl,t1,L1⟩
   rw[Int.zero_add]
   have hj:=wC (ts:=S.panel) hi
   obtain⟨d,hd⟩:∃d,S.card (S.panel.getD i "")=some d:=by
    cases e:S.card (S.panel.getD i "")with
    | none=>exact absurd e (hall _ hj)
    | some d=>exact⟨d,rfl⟩
   have hdl:=(ok.cd _ _ hd).2.length_eq
   obtain⟨F1,g1⟩:=sheet t1
   obtain⟨dx,b1,b2,b3,dd,hip⟩:=g1.ins
   -- the card told
   refine⟨_,rfl,x,dx,_,rfl,hip,rfl,_,rfl,_,rfl,n,_,_,_,rfl,rfl,SqL.of (t1.lst hN),zJ (zaV hi),x,F1,S,_,rfl,g1,fun hn=>absurd hj hn,fun _ hn=>absurd (hn.symm.trans hd) (by simp),fun c hc l2 H2 s2 f2 e2=>?_⟩
   rw[hd] at hc
   cases hc
   refine⟨_,rfl,l2,_,kind,rfl,e2,by rw[length_map];omega,fun H3 p3=>?_⟩
   have t3:SameN H H3:=p3.sameN (t1.trans s2.toN) (t1.free f2)
   have L3:=p3.lam (L1.same s2) e2
   clear p3 e2 f2 s2 g1 hip
   obtain⟨F3,g3⟩:=sheet t3
   -- the zv without it
   refine⟨_,rfl,_,rfl,_,rfl,n,_,_,_,rfl,rfl,SqL.of (t3.lst hN),zJ (zaV hi),x,F3,S,_,rfl,g3,by rw[hhd];exact hj,by rw[hhd];exact h2,fun l4 H4 s4 f4 e4=>?_⟩
   refine⟨_,rfl,l4,_,kind,rfl,e4,by rw[length_map,M6.zS];omega,fun H5 p5=>?_⟩
   have t5:SameN H H5:=p5.sameN (t3.trans s4.toN) (t3.free f4)
   have L5:=p5.lam (L3.same s4) e4
   clear p5 e4 f4 s4 g3
   obtain⟨F5,g5⟩:=sheet t5
   obtain⟨lk,el,rl⟩:=rK.at (by rw[S.rows_len];exact hi) []
   have hrw:S.rows.getD i []=d:=by rw[S.rows_at hi,hd];rfl
   rw[hrw] at rl
   have rl5:=t5.lst rl
   have am:atI (kl.map V.ref) (i:Int)=some (.ref lk):=zJ (yO el)
   refine⟨fun σ H'=>∃(v:Option V),σ=[some (.ref x),some (.ref n),some (.ref k),some (.int kind),v,none,none,none]∧SameN H H'∧LamS (zax K "by_place") zcM H',?_,fun _ _ z=>z⟩
   refine⟨_,rfl,_,rfl,k,_,_,_,rfl,rfl,SqL.of (t5.lst hK),am,lk,_,rfl,.inl (SqL.of rl5),_,_,rfl,rfl,_,rfl,wv (fun h1=>?_) (fun _=>⟨_,rfl,t5,L5⟩)⟩
   rw[length_map] at h1
   have h1:1<d.length:=by omega
   have at1:atI (d.map V.int) 1=some (.int (d.getD 1 0)):=zJ (j:=1) (y8 h1)
   refine⟨_,rfl,_,rfl,_,rfl,n,_,_,_,rfl,rfl,SqL.of (t5.lst hN),zJ (zaV hi),_,rfl,_,rfl,k,_,_,_,rfl,rfl,SqL.of (t5.lst hK),am,lk,_,_,_,rfl,rfl,SqL.of rl5,at1,x,F5,S,_,d,1,rfl,g5,hd,by omega,h1,fun t l H6 s6 ft fl et el6=>?_⟩
   have qt:SqT K H6 t [.int (d.getD (1-1) 0),.ref l]:=.inl (.inl et)
   refine⟨t,_,_,_,rfl,rfl,qt,rfl,_,rfl,l,_,kind,rfl,el6,by rw[length_map,M6.zS];omega,fun H7 p7=>?_⟩
   exact⟨_,rfl,p7.sameN (t5.trans s6.toN) (t5.free fl),p7.lam (L5.same s6) el6⟩
  rintro σ H1 ⟨v,rfl,t1,L1⟩
  obtain⟨F1,g1⟩:=sheet t1
  obtain⟨dx,b1,b2,b3,dd,hip⟩:=g1.ins
  -- the cards
  refine⟨_,rfl,x,dx,_,rfl,hip,rfl,x,F1,S,rfl,g1,fun li H2 ks s2 f2 e2 r2=>?_⟩
  have hks:=r2.length
  have hkne:ks≠[]:=fun z=>by rw[z] at hks;simp at hks;omega
  have t2:=t1.trans s2.toN
  refine⟨_,rfl,li,rfl,⟨_,SqL.of e2⟩,?_⟩
  refine zbQ (xs:=ks.map V.ref) (fun i σ H'=>∃(w:Option V),σ=[some (.ref x),some (.ref n),some (.ref k),some (.int kind),v,some (.ref li),w,none]∧SpI K H H' li ks i) ⟨_,rfl,t2,L1.same s2,e2,fun r hr=>?_⟩ ?_ ?_ ?_
  ·obtain⟨c,z1,z2⟩:=r2.memL hr
   refine⟨t1.free z1,we z2 e2 (zim hkne),_,z2,?_⟩
   rw[length_map]
   obtain⟨j,hj,e⟩:=List.mem_iff_getElem.mp hr
   obtain⟨l,el,_,rl⟩:=r2.at (i:=j) (by omega) []
   rw[getElem?_eq_getElem hj,e] at el
   cases el
   rw[z2] at rl
   injection rl with rl
   injection rl with rl
   have rl:=congrArg List.length rl
   rw[length_map,length_map] at rl
   have:(S.cardsIn.getD j []).length=S.couples.length:=(Sh.cardsIn_perm ok _ (by rw[getD_eq_getElem?_getD,getElem?_eq_getElem (by omega)];exact getElem_mem _)).length_eq
   omega
  ·rintro i σ H' hi ⟨w,rfl,z⟩
   exact SqL.of z.2.2.1
  ·rintro i ev σ H' hy ⟨w,rfl,z⟩
   have hev:=mem_of_getElem? hy
   obtain⟨r,hr,rfl⟩:=List.mem_map.mp hev
   have hi15:i<ks.length:=by
    have:=(List.getElem?_eq_some_iff.mp hy).1
    rw[length_map] at this
    exact this
   obtain⟨y1,y2,zs,y3,y4⟩:=z.2.2.2 r hr
   exact⟨_,rfl,_,rfl,r,zs,kind,rfl,y3,by omega,fun H4 p4=>⟨_,rfl,z.step hr y3 y4 p4⟩⟩
  rintro σ H3 ⟨w,rfl,t3,L3,e3,-⟩
  refine⟨_,rfl,_,rfl,li,_,kind,rfl,e3,by rw[length_map];omega,fun H4 p4=>?_⟩
  have t4:SameN H H4:=p4.sameN t3 (t1.free f2)
  have L4:=p4.lam L3 e3
  clear p4 e3 t3 L3 t2 e2 r2 s2 f2 L1 t1 g1 hip
  -- lists of the sheet
  obtain⟨F4,g4⟩:=sheet t4
  obtain⟨dx,b1,b2,b3,dd,hip⟩:=g4.ins
  refine⟨_,rfl,x,dx,_,rfl,hip,rfl,x,F4,S,rfl,g4,fun m1 H5 s5 f5 e5=>?_⟩
  refine⟨_,rfl,x,dx,_,rfl,s5 _ _ hip,rfl,x,F4,S,rfl,g4.same s5,fun m2 H6 s6 f6 e6=>?_⟩
  have k6:=s5.trans s6
  refine⟨_,rfl,x,dx,_,rfl,k6 _ _ hip,rfl,x,F4,S,rfl,g4.same k6,fun m3 H7 s7 f7 e7=>?_⟩
  have k7:=k6.trans s7
  refine⟨_,rfl,x,dx,_,rfl,k7 _ _ hip,rfl,x,F4,S,rfl,(g4.same k7).shape,by omega,fun m4 H8 s8 f8 e8=>?_⟩
  have k8:=k7.trans s8
  refine⟨_,rfl,x,F4,S,rfl,g4.same k8,by rw[hhd];omega,L4.same k8,fun m5 H9 s9 L9 f9 e9=>?_⟩
  refine⟨(by show 5≤sizeLine;decide),fun lp hlp=>?_⟩
  have t9:SameN H H9:=(t4.trans k8.toN).trans s9
  have sP:=Same.new (o:=.lst [V.ref m1,.ref m2,.ref m3,.ref m4,.ref m5]) hlp
  have eP:upd H9 lp (.lst [V.ref m1,.ref m2,.ref m3,.ref m4,.ref m5]) lp=some (.lst ([m1,m2,m3,m4,m5].map V.ref)):=zd
  have i1:=s9.lst (s8 _ _ (s7 _ _ (s6 _ _ e5)))
  have i2:=s9.lst (s8 _ _ (s7 _ _ e6))
  have i3:=s9.lst (s8 _ _ e7)
  have i4:=s9.lst e8
  have hst:S.struck.length≤24:=by omega
  have hmul:S.couples.length*S.couples.length≤24*24:=mul_le_mul (by omega) (by omega)
  have htl:(M6.zdO S.cardsIn S.couples).length≤600:=by
   unfold M6.zdO
   rw[length_map]
   have:=M5.rows_len (M6.zv S.cardsIn S.couples) S.couples (M6.zS _ _)
   omega
  have each:∀r ∈ [m1,m2,m3,m4,m5],H r=none∧r≠lp∧∃zs,upd H9 lp (.lst [V.ref m1,.ref m2,.ref m3,.ref m4,.ref m5]) r=some (.lst zs)∧zs.length≤600+0:=by
   have one:∀{r:Addr}{zs:List V},H r=none→H9 r=some (.lst zs)→zs.length≤600→H r=none∧r≠lp∧∃zs,upd H9 lp (.lst [V.ref m1,.ref m2,.ref m3,.ref m4,.ref m5]) r=some (.lst zs)∧zs.length≤600+0:=fun {r zs} a b c=>⟨a,zj b hlp,zs,sP _ _ b,by omega⟩
   intro r hr
   simp only[mem_cons,not_mem_nil,or_false] at hr
   rcases hr with rfl | rfl | rfl | rfl | rfl
   ·exact one (t4.free f5) i1 (by rw[length_map];omega)
   ·exact one (t4.free (s5.free f6)) i2 (by rw[length_map];omega)
   ·exact one (t4.free (k6.free f7)) i3 (by rw[length_map];omega)
   ·exact one (t4.free (k7.free f8)) i4 (by rw[length_map,hhd];omega)
   ·exact one (t4.free (k8.free f9)) e9 (by rw[length_map];omega)
  generalize hHP:upd H9 lp _=HP at sP eP each ⊢
  refine⟨lp,rfl,⟨_,SqL.of eP⟩,?_⟩
  refine zbQ (xs:=[m1,m2,m3,m4,m5].map V.ref) (fun i σ H'=>∃(w2:Option V),σ=[some (.ref x),some (.ref n),some (.ref k),some (.int kind),v,some (.ref li),w,w2]∧SpI K H H' lp [m1,m2,m3,m4,m5] i) ⟨_,rfl,t9.trans sP.toN,L9.same sP,eP,each⟩ ?_ ?_ ?_
  ·rintro i σ H' hi ⟨w2,rfl,z⟩
   exact SqL.of z.2.2.1
  ·rintro i ev σ H' hy ⟨w2,rfl,z⟩
   have hev:=mem_of_getElem? hy
   obtain⟨r,hr,rfl⟩:=List.mem_map.mp hev
   have hi5:i<5:=by
    have:=(List.getElem?_eq_some_iff.mp hy).1
    rw[length_map] at this
    exact this
   obtain⟨y1,y2,zs,y3,y4⟩:=z.2.2.2 r hr
   exact⟨_,rfl,_,rfl,r,zs,kind,rfl,y3,by omega,fun H4 p4=>⟨_,rfl,z.step hr y3 y4 p4⟩⟩
  clear i1 i2 i3 i4 each eP sP hHP s9 L9 f9 e9 t9 f8 e8 f7 e7 f6 e6 f5 e5 k8 k7 k6 s8 s7 s6 s5 hip g4 L4 t4
  rintro σ H3 ⟨w2,rfl,t4,L4,-,-⟩
  -- lists of the questions
  obtain⟨F4,g4⟩:=sheet t4
  refine⟨_,rfl,x,F4,S,rfl,g4,by rw[hhd];omega,fun m1 H5 s5 f5 e5=>?_⟩
  refine⟨_,rfl,x,F4,S,rfl,g4.same s5,by rw[hhd];omega,L4.same s5,fun m2 H6 k2 s6 L6 f6 e6 r6=>?_⟩
  have k6:SameN H3 H6:=s5.toN.trans s6
  obtain⟨F6,_,g6⟩:=g4.sameN k6
  refine⟨_,rfl,x,F6,S,rfl,g6,by rw[hhd];omega,fun m3 H7 s7 f7 e7=>?_⟩
  have k7:=k6.trans s7.toN
  refine⟨_,rfl,x,F6,S,rfl,g6.same s7,by rw[hhd];omega,L6.same s7,fun m4 H8 k4 s8 L8 f8 e8 r8=>?_⟩
  have k8:=k7.trans s8
  obtain⟨F8,_,g8⟩:=g4.sameN k8
  refine⟨_,rfl,x,F8,S,rfl,g8,by rw[hhd];omega,fun m5 H9 s9 f9 e9=>?_⟩
  refine⟨(by show 5≤sizeLine;decide),fun lq hlq=>?_⟩
  have t9:SameN H H9:=(t4.trans k8).trans s9.toN
  have sP:=Same.new (o:=.lst [V.ref m1,.ref m2,.ref m3,.ref m4,.ref m5]) hlq
  have eP:upd H9 lq (.lst [V.ref m1,.ref m2,.ref m3,.ref m4,.ref m5]) lq=some (.lst ([m1,m2,m3,m4,m5].map V.ref)):=zd
  have i1:=s9 _ _ (s8.lst (s7 _ _ (s6.lst e5)))
  have i2:=s9 _ _ (s8.lst (s7 _ _ e6))
  have i3:=s9 _ _ (s8.lst e7)
  have i4:=s9 _ _ e8
  have hrl:k2.length≤600:=by
   rw[r6.length]
   have:=M5.rows_len (M6.zv S.cardsIn S.couples) S.couples (M6.zS _ _)
   omega
  have hpl:k4.length≤600:=by rw[r8.length];have:=M6.ze5 S.cardsIn S.couples;omega
  have hfl:(wa S.cardsIn S.couples).length≤600:=le_trans (za5 _ _ _) (by omega)
  have hdl:S.decide.length≤600:=by
   have:S.decide.length≤S.handed.length:=length_filter_le _ _
   rw[hhd] at this
   omega
  have each:∀r ∈ [m1,m2,m3,m4,m5],H r=none∧r≠lq∧∃zs,upd H9 lq (.lst [V.ref m1,.ref m2,.ref m3,.ref m4,.ref m5]) r=some (.lst zs)∧zs.length≤600+0:=by
   have one:∀{r:Addr}{zs:List V},H r=none→H9 r=some (.lst zs)→zs.length≤600→H r=none∧r≠lq∧∃zs,upd H9 lq (.lst [V.ref m1,.ref m2,.ref m3,.ref m4,.ref m5]) r=some (.lst zs)∧zs.length≤600+0:=fun {r zs} a b c=>⟨a,zj b hlq,zs,sP _ _ b,by omega⟩
   intro r hr
   simp only[mem_cons,not_mem_nil,or_false] at hr
   rcases hr with rfl | rfl | rfl | rfl | rfl
   ·exact one (t4.free f5) i1 (by rw[length_map,M6.zS];omega)
   ·exact one (t4.free (s5.free f6)) i2 (by rw[length_map];exact hrl)
   ·exact one (t4.free (k6.free f7)) i3 (by rw[length_map];exact hfl)
   ·exact one (t4.free (k7.free f8)) i4 (by rw[length_map];exact hpl)
   ·exact one (t4.free (k8.free f9)) e9 (by rw[length_map];exact hdl)
  generalize hHP:upd H9 lq _=HP at sP eP each ⊢
  refine⟨lq,rfl,⟨_,SqL.of eP⟩,?_⟩
  refine zbQ (xs:=[m1,m2,m3,m4,m5].map V.ref) (fun i σ H'=>∃(w2:Option V),σ=[some (.ref x),some (.ref n),some (.ref k),some (.int kind),v,some (.ref li),w,w2]∧SpI K H H' lq [m1,m2,m3,m4,m5] i) ⟨_,rfl,t9.trans sP.toN,(L8.same s9).same sP,eP,each⟩ ?_ ?_ ?_
  ·rintro i σ H' hi ⟨w2,rfl,z⟩
   exact SqL.of z.2.2.1
  ·rintro i ev σ H' hy ⟨w2,rfl,z⟩
   have hev:=mem_of_getElem? hy
   obtain⟨r,hr,rfl⟩:=List.mem_map.mp hev
   have hi5:i<5:=by
    have:=(List.getElem?_eq_some_iff.mp hy).1
    rw[length_map] at this
    exact this
   obtain⟨y1,y2,zs,y3,y4⟩:=z.2.2.2 r hr
   exact⟨_,rfl,_,rfl,r,zs,kind,rfl,y3,by omega,fun H4 p4=>⟨_,rfl,z.step hr y3 y4 p4⟩⟩
  rintro σ H3 ⟨w2,rfl,t4,L4,-,-⟩
  exact q _ t4 L4
inductive zdH (K:Frag) (vs:List V) (H:Hp) (Q:VK) (E:XK):Prop
 | mk (x n u k:Addr) (F:Addr→Prop) (S:Sh) (kl:List Addr):vs=[.ref x,.ref n,.ref u,.ref k]→SheetAt K H x F S→H n=some (.lst (S.panel.map V.str))→H u=some (.lst (S.couples.map V.int))→H k=some (.lst (kl.map V.ref))→(All2 (fun l c=>H l=some (.lst (c.map V.int))) kl S.rows)→((∀j∈S.panel,S.card j≠none))→2≤S.panel.length→LamS (zax K "by_place") zcM H→(∀H',SameN H H'→LamS (zax K "by_place") zcM H'→Q (.bl true) H')→zdH K vs H Q E
theorem zj8{f:Addr}{fd:FuncData}(F:Fun K "_law_told" "_law_told" zbM f fd)(T:Txt K mg)(c0u:Can P w K mg base 7 "places" ["sheet"] (zcU K))(c0s:Can P w K mg base 13 "ranking" ["sheet"] (zb0 K))(c0r:Can P w K mg base 8 "firsts" ["sheet"] (zcX K))(c0F:Can P w K mg base 14 "partings" ["sheet"] (zcy K))(c0G:Can P w K mg base 7 "left_out" za1 (zcn K))(c0H:Can P w K mg base 9 "deciders" ["sheet"] (zce K))(c0I:Can P w K mg base 7 "step_up" zbL (zc0 K))(c0J:Can P w K mg base 14 "table" ["sheet"] (ze6 K))(c0g:Can P w K mg base 1 "_law_whole" yA (yP K))(c0h:Can P w K mg base 2 "_law_same" wV (zba K))(c0q:Can P w K mg base 1 "_law_texts" zao (zbz K))(c1f:Can P w K mg base 2 "_law_pairs" zbv (zdp K))(c1g:Can P w K mg base 2 "_law_fours" zbt (zdf K))(c0p:Can P w K mg base 2 "_law_spots" wY (zbE K))(c0t:Can P w K mg base 1 "_law_rows" zbb (zci K))(c1h:Can P w K mg base 2 "_law_parts" zbF (zdt K))(c1i:Can P w K mg base 2 "_law_line" zcx (zdL K))(c1j:Can P w K mg base 4 "_law_deciding" wM (zbj K)):FnOk P w K mg base CX0 15 f fd zct (zdH K):=by
 refine F.ok za4 (fun vs H Q E h=>?_) (fun cdv A outer s H vs Q E hr h=>?_)
 ·obtain⟨x,n,u,k,F,S,kl,rfl,_⟩:=h
  rfl
 ·obtain⟨x,n,u,k,F,S,kl,rfl,hSh,hN,hU,hK,rK,hall,h2,hL,q⟩:=h
  refine⟨_,(zc (zt (i:=4) za4.nd rfl (Or.inr rfl) (zg c0p (hM hr) rfl (za (pv 3) (za (pv 2) zb))))
   (zc (zx (PW.pt (wU (zN (zK (zg c0h (hM hr) rfl (za (zg c0u (hM hr) rfl (za (pv 0) zb)) (za (pv 4) zb))))) (wj (zN (zK (zg c1f (hM hr) rfl (za (zg c0s (hM hr) rfl (za (pv 0) zb)) (za (zg c0t (hM hr) rfl (za (pv 4) (za (pv 2) zb))) zb)))))))) (ze (zk yj)) zo)
   (zc (zx (zN (zK (zg c0h (hM hr) rfl (za (zg c0r (hM hr) rfl (za (pv 0) zb)) (za (zQ (show CompScope (zf zbM) zee "_law_k" ["_law_couples_here","_law_spots_here"] [2,4] _ from csM) rfl (zW rfl T.b_range (za (ya T.b_len (pv 2)) zb)) (fun _ _ _ _ _=>(yZ (zm zay (zq (zau (K:=K) rfl) (pv 2) (pv 0) (fun _ _=>rfl)) zh (zp _)))) (fun _ _ _ _ _=>(zq (zau (K:=K) rfl) (pv 1) (pv 0) (fun _ _=>rfl)))) zb))))) (ze (zk yj)) zo)
   (zc (zx (zN (zK (zg c1g (hM hr) rfl (za (zg c0F (hM hr) rfl (za (pv 0) zb)) (za (zg c1h (hM hr) rfl (za (pv 3) (za (pv 2) (za (pv 4) zb)))) zb))))) (ze (zk yj)) zo)
   (zc (zx (zN (zK (zg c0q (hM hr) rfl (za (zg c0H (hM hr) rfl (za (pv 0) zb)) (za (zg c1j (hM hr) rfl (za (pv 1) (za (pv 3) (za (pv 2) zb)))) zb))))) (ze (zk yj)) zo)
   (zc (zx (zN (zK (zg c0h (hM hr) rfl (za (zg c0G (hM hr) rfl (za (pv 0) (za (zq zn (pv 1) zh (fun _ _=>rfl)) zb))) (za (zg c0p (hM hr) rfl (za (yW zaX (pv 3) (wt zh) zal) (za (pv 2) zb))) zb))))) (ze (zk yj)) zo)
   (zc (zt (i:=5) za4.nd rfl (Or.inl rfl) (zg c0t (hM hr) rfl (za (pv 4) (za (pv 2) zb))))
   (zc (zx (zN (zK (zg c0q (hM hr) rfl (za (zg c0J (hM hr) rfl (za (pv 0) zb)) (za (zgv (show CompScope2 (zf zbM) zee "_law_place" "_law_couple" ["_law_couples_here","_law_cards"] [2,3] _ from csM2) rfl (zw (pv 5)) (fun _ _ _ _ _=>yu) (fun _ _ _ _ _=>(zg c1i (hM hr) rfl (za (pv 0) (za (pv 1) (za (pv 3) (za (pLenK (K:=K) rfl T.b_len (pv 2)) zb))))))) zb))))) (ze (zk yj)) zo)
   (zc (zx (zm zay (ya T.b_len (pv 2)) zh (zp _)) (ze (zk yj)) zo)
   (zc (zt (i:=6) za4.nd rfl (Or.inl rfl) (zq zn (pv 3) (zdU zbP zh) (fun _ _=>rfl)))
   (zc (zt (i:=7) za4.nd rfl (Or.inl rfl) (zg c0I (hM hr) rfl (za (pv 0) (za (zq zn (pv 1) (zdU zbP zh) (fun _ _=>rfl)) (za (zq zn (pv 6) (zdU zbP zh) (fun _ _=>rfl)) zb)))))
   (zc (zx (PW.pt (wU (zN (zK (zB zbJ (by rfl) T.b_isinstance boot_isinstance (za (pv 7) (za (wx (v:=V.ty "tuple") rfl T.b_tuple boot_tuple rfl) zb))))) (wU (zm yG (ya T.b_len (pv 7)) zh (zp _)) (wU (zN (zK (zg c0g (hM hr) rfl (za (zq yo (pv 7) zh (fun _ _=>rfl)) zb)))) (wj (zm yG (zq yo (pv 7) zh (fun _ _=>rfl)) (zq zn (pv 6) (zdU zbP zh) (fun _ _=>rfl)) (zp _))))))) (ze (zk yj)) zo)
   (ze (zk (zg c0h (hM hr) rfl (za (zq yo (pv 7) zh (fun _ _=>rfl)) (za (zg c0p (hM hr) rfl (za (zu zaF (yW zaX (pv 3) zal (wt (zdU zbP zh))) (ye (za (zu zaF (yW zaX (pv 6) zal (wt (zdU zbP zh))) (ye (za (zq zn (pv 6) (zdU zbP zh) (fun _ _=>rfl)) (za (zq zn (pv 6) (zdU zbP zh) (fun _ _=>rfl)) zb)))) zb))) (za (pv 2) zb))) zb))))))))))))))))),?_⟩
  have hln:=zr
  have ok:=hSh.ok
  have c24:=ok.c24
  have c1:=ok.c1
  have p15:=ok.p15
  have hhd:S.handed=S.panel:=zey hall
  have hrows:S.cardsIn=S.rows:=all_cards ok hall
  have hip:=Sh.cardsIn_perm ok
  have hrw:=Sh.rows_len S
  have hkl:=rK.length
  have hil:S.cardsIn.length=S.panel.length:=by rw[hrows,hrw]
  have hvn:S.couples.Nodup:=ok.nd
  have hvr:=ok.rng
  have hallu:∀u∈S.couples,∀d∈S.cardsIn,u∈d:=fun u hu d hd=>(hip d hd).mem_iff.mpr hu
  have hh1:1≤S.handed.length:=by rw[hhd];omega
  have hh2:2≤S.handed.length:=by rw[hhd];omega
  have sheet:∀{H':Hp},SameN H H'→∃F':Addr→Prop,SheetAt K H' x F' S:=fun {H'} s=>by
   obtain⟨F',_,g⟩:=hSh.sameN s
   exact⟨F',g⟩
  have rIL:∀{H':Hp},SameN H H'→All2 (IL K H') kl S.rows:=fun {H'} s=>rK.imp fun(l:Addr) (c:List Int) (z:H l=some (.lst (c.map V.int)))=>(show SqL K H' l _ from SqL.of (s.lst z))
  have rIC:∀{H':Hp},SameN H H'→Refs K (IL K) H' k S.cardsIn:=fun {H'} s=>⟨kl,SqL.of (s.lst hK),by rw[hrows];exact rIL s⟩
  refine⟨_,rfl,_,rfl,k,u,S.cardsIn,S.couples,rfl,rIC (Same.refl _).toN,SqL.of hU,by omega,by omega,hallu,fun lsp H9 s9 f9 e9=>?_⟩
  rw[M6.zbG hip (by omega)] at e9
  have hpl:=M6.zS S.cardsIn S.couples
  have t9:SameN H H9:=s9.toN
  have L9:=hL.same s9
  have hrl:=M5.rows_len (M6.zv S.cardsIn S.couples) S.couples hpl
  have hmul:S.couples.length*S.couples.length≤24*24:=mul_le_mul (by omega) (by omega)
  -- zv,ranking
  obtain⟨F9,g9⟩:=sheet t9
  refine⟨_,rfl,x,F9,S,rfl,g9,hh1,fun l1 H10 s1 f1 e1=>?_⟩
  refine⟨_,rfl,l1,lsp,_,_,rfl,SqL.of e1,SqL.of (s1 _ _ e9),by omega,?_⟩
  rw[decide_eq_true rfl]
  refine⟨_,rfl,yT ?_⟩
  refine⟨_,rfl,x,F9,S,rfl,g9.same s1,hh1,L9.same s1,fun l2 H11 k2 s2 z2 f2 e2 r2=>?_⟩
  have t11:SameN H9 H11:=s1.toN.trans s2
  have u11:=t9.trans t11
  refine⟨_,rfl,_,rfl,lsp,u,_,S.couples,rfl,SqL.of (t11.lst e9),SqL.of (u11.lst hU),hpl,by omega,fun l3 H12 k3 s3 f3 e3 r3=>?_⟩
  refine⟨l2,l3,_,rfl,⟨k2,SqL.of (s3 _ _ e2),r2.imp fun _ _=>TPl.stays K _ _ _ _ s3⟩,⟨k3,SqL.of e3,r3⟩,by omega,?_⟩
  refine⟨_,rfl,yT ?_⟩
  have t12:=t11.trans s3.toN
  have u12:=t9.trans t12
  have z12:=z2.same s3
  clear s9 g9 s1 f1 e1 s2 z2 f2 e2 r2 f3 e3 r3 t11 u11 s3
  -- firsts
  obtain⟨F12,g12⟩:=sheet u12
  refine⟨_,rfl,x,F12,S,rfl,g12,hh1,fun l6 H13 s6 f6 e6=>?_⟩
  have t13:=t12.trans s6.toN
  refine⟨_,rfl,u,_,rfl,.inl (SqL.of ((t9.trans t13).lst hU)),_,rfl,by omega,by rw[length_map];omega,?_⟩
  rw[length_map,show((S.couples.length:Nat):Int).toNat=S.couples.length by omega]
  refine zdg (fun i zs H2=>Same H13 H2∧zs=(zae (M6.zv S.cardsIn S.couples) S.couples i).map V.int) ⟨Same.refl _,rfl⟩ ?_ (by omega) ?_ ?_
  ·rintro i zs H2 hi ⟨s2,rfl⟩
   rw[length_map]
   exact za5 _ _ _
  ·rintro i zs H2 hi ⟨s2,rfl⟩
   refine⟨_,rfl,_,rfl,lsp,_,_,_,rfl,rfl,SqL.of (s2 _ _ (t13.lst e9)),(by rw[Int.zero_add];exact zJ (y8 (by omega))),rfl,_,rfl,wv (fun he=>?_) (fun hne=>?_)⟩
   ·have he:(M6.zv S.cardsIn S.couples).getD i 0=1:=by injection he
    refine⟨_,rfl,_,rfl,u,_,_,_,rfl,rfl,SqL.of (s2 _ _ ((t9.trans t13).lst hU)),(by rw[Int.zero_add];exact zJ (y8 hi)),s2,?_⟩
    rw[ww,if_pos he,map_append]
    rfl
   ·have hne:¬(M6.zv S.cardsIn S.couples).getD i 0=1:=fun z=>hne (by rw[z])
    refine⟨s2,?_⟩
    rw[ww,if_neg hne,append_nil]
  rintro zs H14 ⟨s7,rfl⟩ l7 hl7
  have s8:=s7.newT (o:=.lst ((zae (M6.zv S.cardsIn S.couples) S.couples S.couples.length).map V.int)) hl7
  have e8:upd H14 l7 (.lst ((zae (M6.zv S.cardsIn S.couples) S.couples S.couples.length).map V.int)) l7=some (.lst ((wa S.cardsIn S.couples).map V.int)):=zd
  generalize hH15:upd H14 l7 _=H15 at s8 e8 ⊢
  have hfl:(wa S.cardsIn S.couples).length≤24:=le_trans (za5 _ _ _) (by omega)
  refine⟨l6,l7,_,_,rfl,SqL.of (s8 _ _ e6),SqL.of e8,by omega,?_⟩
  rw[decide_eq_true rfl]
  refine⟨_,rfl,yT ?_⟩
  have t15:=t13.trans s8.toN
  have z15:=z12.same (s6.trans s8)
  clear z12 g12 s6 f6 e6 t13 s7 hl7 s8 e8 hH15
  -- zbd
  obtain⟨F15,g15⟩:=sheet (t9.trans t15)
  refine⟨_,rfl,x,F15,S,rfl,g15,hh1,z15,fun l4 H16 k4 s4 z4 f4 e4 r4=>?_⟩
  have t16:=t15.trans s4
  refine⟨_,rfl,_,rfl,_,rfl,k,u,lsp,S.cardsIn,S.couples,rfl,rIC (t9.trans t16),SqL.of ((t9.trans t16).lst hU),SqL.of (t16.lst e9),by omega,by omega,hallu,fun l5 H17 k5 s5 f5 e5 r5=>?_⟩
  have hpp:=M6.ze5 S.cardsIn S.couples
  refine⟨l4,l5,_,rfl,⟨k4,SqL.of (s5 _ _ e4),r4.imp fun _ _=>F4.stays K _ _ _ _ s5⟩,⟨k5,SqL.of e5,r5⟩,by omega,?_⟩
  refine⟨_,rfl,yT ?_⟩
  have t17:=t16.trans s5.toN
  have z17:=z4.same s5
  clear g15 z15 s4 z4 f4 e4 r4 t16 s5 f5 e5 r5 t15
  -- who decides
  obtain⟨F17,g17⟩:=sheet (t9.trans t17)
  refine⟨_,rfl,x,F17,S,rfl,g17,hh2,fun l8 H18 s8 f8 e8=>?_⟩
  have t18:=t17.trans s8.toN
  have hcd:∀d∈S.rows,d=[]∨d.Perm S.couples:=fun d hd=>.inr (hip d (by rw[hrows];exact hd))
  have hne:∀d∈S.rows,d≠[]:=fun d hd z=>by
   have:=(hip d (by rw[hrows];exact hd)).length_eq
   rw[z] at this
   simp at this
   omega
  have hfil:(S.rows.filter fun d => !decide (d=[]))=S.rows:=List.filter_eq_self.mpr fun d hd=>by rw[decide_eq_false (hne d hd)];rfl
  refine⟨_,rfl,_,rfl,_,rfl,n,k,u,S.panel,S.rows,S.couples,rfl,SqL.of ((t9.trans t18).lst hN),⟨kl,SqL.of ((t9.trans t18).lst hK),rIL (t9.trans t18)⟩,SqL.of ((t9.trans t18).lst hU),hrw,by omega,by omega,hcd,by rw[hfil];omega,fun l9 H19 s9 f9' e9'=>?_⟩
  have hdr:=Sh.decide_rows ok
  rw[hdr] at e8
  have hdl:=ziZ S.panel S.rows S.couples S.panel.length
  refine⟨l8,l9,_,_,rfl,SqL.of (s9 _ _ e8),SqL.of e9',by omega,?_⟩
  rw[decide_eq_true rfl]
  refine⟨_,rfl,yT ?_⟩
  have t19:=t18.trans s9.toN
  have z19:=z17.same (s8.trans s9)
  clear g17 z17 s8 f8 e8 s9 f9' e9' t18 t17
  -- one left out
  obtain⟨F19,g19⟩:=sheet (t9.trans t19)
  have hw0:0<S.panel.length:=by omega
  have at0:atI (S.panel.map V.str) 0=some (.str (S.panel.getD 0 "")):=zJ (j:=0) (zaV hw0)
  have hj0:S.panel.getD 0 "" ∈ S.handed:=by rw[hhd];exact wC hw0
  refine⟨_,rfl,_,rfl,n,_,_,_,rfl,rfl,SqL.of ((t9.trans t19).lst hN),at0,x,F19,S,_,rfl,g19,hj0,hh2,fun l10 H20 s10 f10 e10=>?_⟩
  have t20:=t19.trans s10.toN
  refine⟨_,rfl,_,rfl,k,_,rfl,SqL.of ((t9.trans t20).lst hK),fun l11 hl11=>?_⟩
  rw[zhe (by decide),←map_drop]
  have s11:=Same.new (o:=.lst ((kl.drop (1:Int).toNat).map V.ref)) hl11
  have e11:upd H20 l11 (.lst ((kl.drop (1:Int).toNat).map V.ref)) l11=some (.lst ((kl.drop 1).map V.ref)):=zd
  generalize hH21:upd H20 l11 _=H21 at s11 e11 ⊢
  have t21:=t20.trans s11.toN
  have hwo:S.cardsWo (S.panel.getD 0 "")=S.rows.drop 1:=by
   rw[Sh.cardsWo_rows ok hw0,take_zero,List.nil_append]
   exact List.filter_eq_self.mpr fun d hd=>by rw[decide_eq_false (hne d (List.mem_of_mem_drop hd))];rfl
  have hwp:=Sh.cardsWo_perm ok (S.panel.getD 0 "")
  have hwl:=Sh.cardsWo_len ok.pnd hj0
  refine⟨_,rfl,l11,u,S.rows.drop 1,S.couples,rfl,⟨kl.drop 1,SqL.of e11,(rIL (t9.trans t21)).dropN 1⟩,SqL.of ((t9.trans t21).lst hU),by rw[length_drop];omega,by omega,fun y hy d hd=>(hwp d (by rw[hwo];exact hd)).mem_iff.mpr hy,fun l12 H22 s12 f12 e12=>?_⟩
  rw[←hwo,M6.zbG hwp (by omega)] at e12
  refine⟨l10,l12,_,_,rfl,SqL.of (s12 _ _ (s11 _ _ e10)),SqL.of e12,by rw[M6.zS];omega,?_⟩
  rw[decide_eq_true rfl]
  refine⟨_,rfl,yT ?_⟩
  have t22:=t21.trans s12.toN
  have z22:=z19.same ((s10.trans s11).trans s12)
  clear g19 z19 s10 f10 e10 hl11 s11 e11 hH21 s12 f12 e12 t21 t20 t19 hwl hwp hwo
  -- the table
  refine⟨_,rfl,_,rfl,lsp,u,_,S.couples,rfl,SqL.of (t22.lst e9),SqL.of ((t9.trans t22).lst hU),hpl,by omega,fun lr H23 kr s13 f13 e13 r13=>?_⟩
  have t23:=t22.trans s13.toN
  obtain⟨F23,g23⟩:=sheet (t9.trans t23)
  refine⟨_,rfl,x,F23,S,rfl,g23,hh1,z22.same s13,fun lt H24 s14 z24 f14 e14=>?_⟩
  have t24:=t23.trans s14
  have hrm:=fun p (hp:p∈M5.rows (M6.zv S.cardsIn S.couples) S.couples)=>M6.zfa hp
  have hTd:M6.zdO S.cardsIn S.couples=(M5.rows (M6.zv S.cardsIn S.couples) S.couples).map fun p=>M6.rowT p.1 p.2 (M5.zl S.cardsIn p.2) S.couples.length:=rfl
  have e13:=s14.lst e13
  have r13:=TPl.sameN s14 r13
  generalize M5.rows (M6.zv S.cardsIn S.couples) S.couples=rs at r13 hrl hrm hTd
  have hpb:∀p∈rs,p.1.natAbs≤990:=fun p hp=>by
   rw[(hrm p hp).2]
   unfold M6.yD
   have:=length_filter_le (fun d=>M6.yl (M5.zl S.cardsIn d) (M5.zl S.cardsIn p.2) S.couples.length) S.couples
   omega
  refine⟨_,rfl,lr,rfl,⟨_,SqL.of e13⟩,?_⟩
  refine zex (f:=fun p=>M6.rowT p.1 p.2 (M5.zl S.cardsIn p.2) S.couples.length) (SqL.of e13) r13 (by omega) (fun p H' R hp s' h=>?_) fun H25 s15=>?_
  ·obtain⟨m1,m2⟩:=hrm p hp
   have hcr:=hvr _ m1
   have tt:=(t9.trans t24).trans s'.toN
   refine⟨_,rfl,_,rfl,_,rfl,_,rfl,u,_,rfl,.inl (SqL.of (tt.lst hU)),?_⟩
   rw[length_map]
   exact⟨p.1,p.2,k,S.cardsIn,S.couples.length,rfl,rIC tt,by omega,hallu _ m1,fun y hy=>(by have:=M6.yw hip m1 y hy;omega),by omega,hpb p hp,by omega,fun H2 s2=>h H2 s2⟩
  rw[←hTd]
  intro ln hln'
  have s16:=s15.newT (o:=.lst ((M6.zdO S.cardsIn S.couples).map V.str)) hln'
  have e16:upd H25 ln (.lst ((M6.zdO S.cardsIn S.couples).map V.str)) ln=some (.lst ((M6.zdO S.cardsIn S.couples).map V.str)):=zd
  generalize hH26:upd H25 ln _=H26 at s16 e16 ⊢
  have hTl:(M6.zdO S.cardsIn S.couples).length=rs.length:=by rw[hTd,length_map]
  refine⟨lt,ln,_,_,rfl,SqL.of (s16 _ _ e14),SqL.of e16,by omega,?_⟩
  rw[decide_eq_true rfl]
  refine⟨_,rfl,yT ?_⟩
  have t26:=t24.trans s16.toN
  have z26:=z24.same s16
  have u26:=t9.trans t26
  clear hTd hrm hpb hTl z22 g23 s13 f13 e13 r13 s14 z24 f14 e14 t23 t24 s15 hln' s16 e16 hH26 t22
  -- one step up
  refine⟨_,rfl,u,_,rfl,.inl (SqL.of (u26.lst hU)),rfl,_,rfl,wv (fun _=>q H26 u26 z26) (fun hu1=>?_)⟩
  have hu1:S.couples.length≠1:=fun z=>hu1 (by rw[length_map,z];rfl)
  obtain⟨w,hw⟩:∃w,S.panel.length=w+1:=⟨S.panel.length-1,by omega⟩
  have hwp:w<S.panel.length:=by omega
  obtain⟨m,em,rm⟩:=rK.at (i:=w) (by omega) []
  have hj:=wC (ts:=S.panel) hwp
  obtain⟨d,hd⟩:∃d,S.card (S.panel.getD w "")=some d:=by
   cases e:S.card (S.panel.getD w "")with
   | none=>exact absurd e (hall _ hj)
   | some d=>exact⟨d,rfl⟩
  have hdr:S.rows.getD w []=d:=by rw[S.rows_at hwp,hd];rfl
  rw[hdr] at rm
  have hdp:=(ok.cd _ _ hd).2
  have hdl:=hdp.length_eq
  obtain⟨i,hi⟩:∃i,d.length=i+2:=⟨d.length-2,by omega⟩
  have am:atI (kl.map V.ref) (-1)=some (.ref m):=zdT (d:=0) rfl (by rw[length_map];omega) (by rw[length_map,show kl.length-1-0=w by omega];exact yO em)
  have aj:atI (S.panel.map V.str) (-1)=some (.str (S.panel.getD w "")):=zdT (d:=0) rfl (by rw[length_map];omega) (by rw[length_map,show S.panel.length-1-0=w by omega];exact zaV hwp)
  have ad1:atI (d.map V.int) (-1)=some (.int (d.getD (i+1) 0)):=zdT (d:=0) rfl (by rw[length_map];omega) (by rw[length_map,show d.length-1-0=i+1 by omega];exact y8 (by omega))
  have ad2:atI (d.map V.int) (-2)=some (.int (d.getD i 0)):=zdT (d:=1) rfl (by rw[length_map];omega) (by rw[length_map,show d.length-1-1=i by omega];exact y8 (by omega))
  refine⟨_,rfl,_,rfl,k,_,_,_,rfl,rfl,SqL.of (u26.lst hK),am,?_⟩
  obtain⟨F26,g26⟩:=sheet u26
  refine⟨_,rfl,_,rfl,_,rfl,n,_,_,_,rfl,rfl,SqL.of (u26.lst hN),aj,_,rfl,_,rfl,m,_,_,_,rfl,rfl,SqL.of (u26.lst rm),ad1,x,F26,S,_,d,i+1,rfl,g26,hd,by omega,by omega,fun t l H27 s20 ft fl et el=>?_⟩
  rw[Nat.add_sub_cancel] at et
  have u27:=u26.trans s20.toN
  have qt:SqT K H27 t [.int (d.getD i 0),.ref l]:=.inl (.inl et)
  refine⟨_,rfl,_,_,rfl,.yes qt,_,rfl,yT ?_⟩
  refine⟨_,rfl,t,_,rfl,.inr qt,rfl,_,rfl,iteNS rfl ?_⟩
  refine⟨_,rfl,t,_,_,_,rfl,rfl,qt,rfl,_,true,false,rfl,rfl,rfl,_,rfl,yT ?_⟩
  refine⟨_,rfl,t,_,_,_,rfl,rfl,qt,rfl,_,rfl,_,rfl,m,_,_,_,rfl,rfl,SqL.of (u27.lst rm),ad2,rfl,_,rfl,iteNS rfl ?_⟩
  refine⟨_,rfl,t,_,_,_,rfl,rfl,qt,rfl,?_⟩
  -- the cards with the last one's last couples turned
  refine⟨_,rfl,_,rfl,_,rfl,k,_,rfl,SqL.of (u27.lst hK),fun l28 hl28=>?_⟩
  rw[zjl (d:=0) (i := -1) rfl,length_map,show kl.length-1-0=w by omega,←map_take]
  have s28:=Same.new (o:=.lst ((kl.take w).map V.ref)) hl28
  have e28:upd H27 l28 (.lst ((kl.take w).map V.ref)) l28=some (.lst ((kl.take w).map V.ref)):=zd
  generalize hH28:upd H27 l28 _=H28 at s28 e28 ⊢
  refine⟨_,rfl,_,rfl,_,rfl,m,_,rfl,SqL.of (s28 _ _ (u27.lst rm)),fun l29 hl29=>?_⟩
  rw[zjl (d:=1) (i := -2) rfl,length_map,show d.length-1-1=i by omega,←map_take]
  have s29:=s28.newT (o:=.lst ((d.take i).map V.int)) hl29
  have e29:upd H28 l29 (.lst ((d.take i).map V.int)) l29=some (.lst ((d.take i).map V.int)):=zd
  have i29:=(Same.new (o:=.lst ((d.take i).map V.int)) hl29) _ _ e28
  generalize hH29:upd H28 l29 _=H29 at s29 e29 i29 ⊢
  refine⟨_,rfl,_,rfl,m,_,_,_,rfl,rfl,SqL.of (s29 _ _ (u27.lst rm)),ad1,_,rfl,_,rfl,m,_,_,_,rfl,rfl,SqL.of (s29 _ _ (u27.lst rm)),ad2,(by show 2≤sizeLine;decide),fun l30 hl30=>?_⟩
  have s30:=Same.new (o:=.lst [V.int (d.getD (i+1) 0),.int (d.getD i 0)]) hl30
  have e30:upd H29 l30 (.lst [V.int (d.getD (i+1) 0),.int (d.getD i 0)]) l30=some (.lst [V.int (d.getD (i+1) 0),.int (d.getD i 0)]):=zd
  generalize hH30:upd H29 l30 _=H30 at s30 e30 ⊢
  refine⟨l29,l30,_,_,rfl,rfl,s30 _ _ e29,e30,by rw[length_map,length_take];simp only[length_cons,length_nil];omega,fun l31 hl31=>?_⟩
  have s31:=s30.newT (o:=.lst ((d.take i).map V.int++[V.int (d.getD (i+1) 0),.int (d.getD i 0)])) hl31
  have eup:upC d (i+1)=d.take i++[d.getD (i+1) 0,d.getD i 0]:=by
   unfold upC
   rw[Nat.add_sub_cancel,List.drop_eq_nil_of_le (by omega),append_nil]
  have e31:upd H30 l31 (.lst ((d.take i).map V.int++[V.int (d.getD (i+1) 0),.int (d.getD i 0)])) l31=some (.lst ((upC d (i+1)).map V.int)):=by
   rw[zd,eup,map_append]
   rfl
  generalize hH31:upd H30 l31 _=H31 at s31 e31 ⊢
  refine⟨(by show 1≤sizeLine;decide),fun l32 hl32=>?_⟩
  have s32:=Same.new (o:=.lst [V.ref l31]) hl32
  have e32:upd H31 l32 (.lst [V.ref l31]) l32=some (.lst [V.ref l31]):=zd
  have i32:=s32 _ _ e31
  generalize hH32:upd H31 l32 _=H32 at s32 e32 i32 ⊢
  refine⟨l28,l32,_,_,rfl,rfl,s32 _ _ (s31 _ _ i29),e32,by rw[length_map,length_take];simp only[length_cons,length_nil];omega,fun l33 hl33=>?_⟩
  have e33':(kl.take w).map V.ref++[V.ref l31]=(kl.take w++[l31]).map V.ref:=by rw[map_append];rfl
  rw[e33']
  have s33:=s32.newT (o:=.lst ((kl.take w++[l31]).map V.ref)) hl33
  have e33:upd H32 l33 (.lst ((kl.take w++[l31]).map V.ref)) l33=some (.lst ((kl.take w++[l31]).map V.ref)):=zd
  have i33:=(Same.new (o:=.lst ((kl.take w++[l31]).map V.ref)) hl33) _ _ i32
  generalize hH33:upd H32 l33 _=H33 at s33 e33 i33 ⊢
  have s34:=(s29.trans s31).trans s33
  have u33:=u27.trans s34.toN
  have hup:(upC d (i+1)).Perm S.couples:=(zjk (by omega) (by omega)).trans hdp
  have hcu:S.cardsUp (S.panel.getD w "") (upC d (i+1))=S.rows.take w++[upC d (i+1)]:=by
   rw[Sh.cardsUp_rows ok hwp hup (by rw[hd];rfl),List.drop_eq_nil_of_le (by omega),append_nil]
   refine List.filter_eq_self.mpr fun c hc=>?_
   rcases List.mem_append.mp hc with hc | hc
   ·rw[decide_eq_false (hne c (List.mem_of_mem_take hc))];rfl
   ·rw[List.mem_singleton.mp hc]
    have:upC d (i+1)≠[]:=fun z=>by
     have:=hup.length_eq
     rw[z] at this
     simp at this
     omega
    rw[decide_eq_false this];rfl
  have hwq:=Sh.cardsUp_perm (j:=S.panel.getD w "") ok hup
  have hwl:=Sh.cardsUp_len S (S.panel.getD w "") (upC d (i+1))
  rw[hcu] at hwq hwl el
  rw[hhd,hw] at hwl
  refine⟨_,rfl,l33,u,S.rows.take w++[upC d (i+1)],S.couples,rfl,⟨kl.take w++[l31],SqL.of e33,((rIL u33).takeN w).snoc (SqL.of i33)⟩,SqL.of (u33.lst hU),by omega,by omega,fun y hy c hc=>(hwq c hc).mem_iff.mpr hy,fun l35 H35 s35 f35 e35=>?_⟩
  rw[M6.zbG hwq (by omega)] at e35
  refine⟨l,l35,_,_,rfl,SqL.of (s35 _ _ (s34 _ _ el)),SqL.of e35,by rw[M6.zS];omega,?_⟩
  rw[decide_eq_true rfl]
  have s36:=(s20.trans s34).trans s35
  exact q H35 (u26.trans s36.toN) (z26.same s36)
theorem getD_inC{cs:List (List Int)}{j:Nat}(h:j<cs.length):cs.getD j []∈cs:=by
 rw[getD_eq_getElem?_getD,getElem?_eq_getElem h]
 exact getElem_mem _
inductive zgu (K:Frag) (vs:List V) (H:Hp) (Q:VK) (E:XK):Prop
 | mk (a:Addr) (ns:List Int):vs=[.ref a]→SqL K H a (ns.map V.int)→ns.length≤63→H (zax K "by_place")=some (.tbl #[])→(∀H',Q (.bl true) H')→zgu K vs H Q E
theorem ok_law{f:Addr}{fd:FuncData}(F:Fun K "law" "law" zdG f fd)(T:Txt K mg)(c0k:Can P w K mg base 1 "_law_at" zej (zfv K))(c1k:Can P w K mg base 1 "_law_couples" zap (zbX K))(c1l:Can P w K mg base 1 "_law_judges" zaQ (zcJ K))(c1m:Can P w K mg base 2 "_law_card" zcs (zd6 K))(c0N:Can P w K mg base 4 "_law_stands" zaP (zcQ K))(c0O:Can P w K mg base 1 "_law_without" zat (zb3 K))(c0j:Can P w K mg base 1 "_law_spoil" zaj (zbu K))(c0P:Can P w K mg base 15 "_law_spoil_told" y9 (zak K))(c0Q:Can P w K mg base 15 "_law_told" zct (zdH K))(c0R:CanK P w K mg base 4 "Sheet" (zE K "Sheet") zaT (zcK K))(c1n:CanMX P w K mg base 2 (zE K "Sheet") "hand_in" wB (zaC K))(c1o:CanMX P w K mg base 2 (zE K "Sheet") "strike" wQ (zbl K)):FnOk P w K mg base CX0 16 f fd ["_law_script"] (zgu K):=by
 refine F.ok zad (fun vs H Q E h=>?_) (fun cdv A outer s H vs Q E hr h=>?_)
 ·obtain⟨a,ns,rfl,_⟩:=h
  rfl
 ·obtain⟨a,ns,rfl,hS,hz,hT,q⟩:=h
  refine⟨_,(zc (zt (i:=1) zad.nd rfl (Or.inr rfl) (zg c1k (hM hr) rfl (za (zg c0k (hM hr) rfl (za (pv 0) (za zh zb))) (za (zu yt zh (zu wT (zg c0k (hM hr) rfl (za (pv 0) (za zh zb))) zh)) zb))))
   (zc (zt (i:=2) zad.nd rfl (Or.inl rfl) (zg c1l (hM hr) rfl (za (zg c0k (hM hr) rfl (za (pv 0) (za zh zb))) (za (zu yt zh (zu wT (zg c0k (hM hr) rfl (za (pv 0) (za zh zb))) zh)) zb))))
   (zc (zt (i:=3) zad.nd rfl (Or.inr rfl) (zu wT (zg c0k (hM hr) rfl (za (pv 0) (za zh zb))) zh))
   (zc (yV (i:=4) (show CompScope (zf zdG) zkj "_law_k" ["_law_script","_law_couples_here","_law_style"] [0,1,3] _ from csM) rfl zad.nd rfl (Or.inl rfl) (zW rfl T.b_range (za (ya T.b_len (pv 2)) zb)) (fun _ _ _ _ _=>yu) (fun _ _ _ _ _=>(zg c1m (hM hr) rfl (za (zg c0k (hM hr) rfl (za (pv 1) (za (zu yt zh (pv 0)) zb))) (za (pv 2) (za (pv 3) zb))))))
   (zc (zt (i:=5) zad.nd rfl (Or.inl rfl) (ye (za (zM zP (by rfl) T.b_list boot_list (za (pv 1) zb)) (za (zM zP (by rfl) T.b_list boot_list (za (pv 2) zb)) (za (zM zP (by rfl) T.b_list boot_list (za (pv 1) zb)) (za (zM zP (by rfl) T.b_list boot_list (za (pv 2) zb)) zb))))))
   (zc (zt (i:=6) zad.nd rfl (Or.inl rfl) (ye (za (zjM c0R zdC (hM hr) rfl (za (zq zn (pv 5) zh (fun _ _=>rfl)) (za (zq zn (pv 5) zh (fun _ _=>rfl)) zb))) (za (zjM c0R zdC (hM hr) rfl (za (zq zn (pv 5) zh (fun _ _=>rfl)) (za (zq zn (pv 5) zh (fun _ _=>rfl)) zb))) zb))))
   (zc (ym PassesOwn.never rfl (zw (pv 6)) (zH (i:=7) zad.nd rfl (Or.inl rfl))
     (ze (ym PassesOwn.never rfl (zW rfl T.b_range (za (ya T.b_len (pv 2)) zb)) (zH (i:=8) zad.nd rfl (Or.inl rfl))
     (zc (zC (zaf PySem.F.plainAttrs_list PySem.F.slot_list_append PySem.F.type_list_append yz (pv 5) (za (zM zP (by rfl) T.b_list boot_list (za (zq zn (pv 4) (pv 8) (fun _ _=>rfl)) zb)) zb)))
   (ze (zC (wg c1n T.cl_Sheet zdC (hM hr) (pv 7) (za (zq zn (pv 2) (pv 8) (fun _ _=>rfl)) (za (zq zn (pv 5) (zdU zbP zh) (fun _ _=>rfl)) zb)))))))))
   (zc (zt (i:=9) zad.nd rfl (Or.inr rfl) (zq zn (pv 1) (zu wT (zg c0k (hM hr) rfl (za (pv 0) (za zh zb))) (ya T.b_len (pv 1))) (fun _ _=>rfl)))
   (zc (zt (i:=10) zad.nd rfl (Or.inl rfl) (zg c0O (hM hr) rfl (za (pv 1) (za (pv 9) zb))))
   (zc (zC (wg c1o T.cl_Sheet zdC (hM hr) (zq zn (pv 6) zh (fun _ _=>rfl)) (za (pv 9) zb)))
   (zc (yV (i:=11) (show CompScope (zf zdG) zkj "_law_card_here" ["_law_gone"] [9] _ from csM) rfl zad.nd rfl (Or.inl rfl) (zw (pv 4)) (fun _ _ _ _ _=>yu) (fun _ _ _ _ _=>(zg c0O (hM hr) rfl (za (pv 0) (za (pv 1) zb)))))
   (zc (zt (i:=12) zad.nd rfl (Or.inl rfl) (zu wT (zg c0k (hM hr) rfl (za (pv 0) (za zh zb))) zh))
   (zc (ym PassesOwn.never rfl (zw (pv 5)) (zH (i:=13) zad.nd rfl (Or.inl rfl))
     (ze (zC (zg c0j (hM hr) rfl (za (pv 13) (za (pv 12) zb))))))
   (zc (zC (zg c0P (hM hr) rfl (za (zq zn (pv 6) zh (fun _ _=>rfl)) (za (pv 2) (za (pv 11) (za (pv 12) zb))))))
   (zc (zC (zg c0P (hM hr) rfl (za (zq zn (pv 6) zh (fun _ _=>rfl)) (za (pv 2) (za (pv 4) (za (pv 12) zb))))))
   (zc (zx (PW.pt (wU (zN (zK (zg c0Q (hM hr) rfl (za (zq zn (pv 6) zh (fun _ _=>rfl)) (za (pv 2) (za (pv 10) (za (pv 11) zb))))))) (wj (zN (zK (zg c0Q (hM hr) rfl (za (zq zn (pv 6) zh (fun _ _=>rfl)) (za (pv 2) (za (pv 1) (za (pv 4) zb)))))))))) (ze (zk yj)) zo)
   (zc (zx (zN (zK (zg c0N (hM hr) rfl (za (zq zn (pv 6) zh (fun _ _=>rfl)) (za (pv 2) (za (pv 10) (za (ye (za (pv 9) zb)) (za (pv 11) (za (ya T.b_len (pv 2)) (za yj zb)))))))))) (ze (zk yj)) zo)
   (ze (zk (zg c0N (hM hr) rfl (za (zq zn (pv 6) zh (fun _ _=>rfl)) (za (pv 2) (za (pv 1) (za (ye zb) (za (pv 4) (za (ya T.b_len (pv 2)) (za yj zb))))))))))))))))))))))))))),?_⟩
  have hln:=zr
  refine⟨_,rfl,a,ns,0,rfl,hS,by decide,_,rfl,a,ns,1,rfl,hS,by decide,_,_,rfl,rfl,(by show(0:Int)<4;decide),_,_,rfl,rfl,?_⟩
  dsimp only
  have m0:=Int.emod_nonneg (ns.getD (1:Int).toNat 0) (b:=4) (by decide)
  have m1:=Int.emod_lt_of_pos (ns.getD (1:Int).toNat 0) (b:=4) (by decide)
  refine⟨_,_,rfl,by omega,by omega,fun u H1 s1 f1 e1=>?_⟩
  generalize hus:M1.couples _ _=us at e1
  have hul:us.length=(2+ns.getD (1:Int).toNat 0%4).toNat:=by rw[←hus,M1.zf2]
  have hul:2≤us.length∧us.length≤5:=by omega
  have hun:us.Nodup:=by rw[←hus];exact M1.zhy (by omega)
  have hgc:M1.zdK us=true:=(M1.goodC_iff us).mpr ⟨by omega,hun,fun x hx=>by rw[←hus] at hx;exact M1.zhF hx⟩
  refine⟨_,rfl,a,ns,2,rfl,s1.seq hS,by decide,_,rfl,a,ns,3,rfl,s1.seq hS,by decide,_,_,rfl,rfl,(by show(0:Int)<4;decide),_,_,rfl,rfl,?_⟩
  dsimp only
  have j0:=Int.emod_nonneg (ns.getD (3:Int).toNat 0) (b:=4) (by decide)
  have j1:=Int.emod_lt_of_pos (ns.getD (3:Int).toNat 0) (b:=4) (by decide)
  refine⟨_,_,rfl,by omega,by omega,fun n H2 ts s2 f2 e2 htl htn htg=>?_⟩
  have htl:2≤ts.length∧ts.length≤5:=by omega
  have hgj:M2.ze3 ts=true:=(M2.zh1 ts).mpr ⟨by omega,htn,fun z hz=>(M2.zcY z).mp (htg z hz)⟩
  have t2:=s1.trans s2
  refine⟨_,rfl,a,ns,4,rfl,t2.seq hS,by decide,_,_,rfl,rfl,(by show(0:Int)<4;decide),?_⟩
  dsimp only
  generalize ns.getD (4:Int).toNat 0%4=style
  have hune:us≠[]:=fun z=>by rw[z] at hul;simp at hul
  -- the cards
  refine⟨_,rfl,n,_,rfl,.inl (SqL.of e2),_,rfl,by omega,by rw[length_map];omega,?_⟩
  rw[length_map,show((ts.length:Nat):Int).toNat=ts.length by omega]
  refine zcw (fun i ys H3=>∃(ls:List Addr)(cs:List (List Int)),ys=ls.map V.ref∧Same H2 H3∧All2 (fun l c=>H3 l=some (.lst (c.map V.int))) ls cs∧cs.length=i∧∀d∈cs,d.Perm us) ⟨[],[],rfl,Same.refl _,.nil,rfl,fun _ z=>nomatch z⟩ ?_ (by omega) ?_ ?_
  ·rintro i ys H3 hi ⟨ls,cs,rfl,s3,r3,hcl,hcp⟩
   rw[length_map,r3.length,hcl]
   exact le_refl _
  ·rintro i ys H3 hi ⟨ls,cs,rfl,s3,r3,hcl,hcp⟩
   refine⟨_,rfl,_,rfl,_,_,rfl,rfl,a,ns,5+(0+(i:Int)),rfl,(t2.trans s3).seq hS,by omega,_,rfl,_,rfl,_,u,us,style,rfl,SqL.of (s3 _ _ (s2 _ _ e1)),hune,by omega,fun l H4 ms s4 f4 e4 hp=>?_⟩
   refine⟨ls++[l],cs++[ms],by rw[map_append];rfl,s3.trans s4,(r3.imp fun _ _ z=>s4 _ _ z).snoc e4,by rw[length_append,hcl];rfl,fun d hd=>?_⟩
   rcases List.mem_append.mp hd with hd | hd
   ·exact hcp d hd
   ·rw[List.mem_singleton.mp hd]
    exact hp
  rintro ys H3 ⟨kl,cs,rfl,s3,r3,hcl,hcp⟩ k hk
  have sA:=s3.newT (o:=.lst (kl.map V.ref)) hk
  have eA:upd H3 k (.lst (kl.map V.ref)) k=some (.lst (kl.map V.ref)):=zd
  have rA:All2 (fun(l:Addr) (c:List Int)=>upd H3 k (.lst (kl.map V.ref)) l=some (.lst (c.map V.int))) kl cs:=r3.imp fun _ _ z=>(Same.new hk) _ _ z
  generalize hHA:upd H3 k _=HA at sA eA rA ⊢
  have tA:=t2.trans sA
  have uA:=sA _ _ (s2 _ _ e1)
  have nA:=sA _ _ e2
  have aA:SqL K HA a (ns.map V.int):=tA.seq hS
  have LA:LamS (zax K "by_place") zcM HA:=LamS.new (q:=zcM) (tA _ _ hT)
  have hcne:∀d∈cs,d≠[]:=fun d hd z=>by
   have:=(hcp d hd).length_eq
   rw[z] at this
   simp at this
   omega
  clear s3 r3 hk hHA t2 s2 e2 f2 s1 f1 e1 tA sA hS
  -- what is handed in
  refine⟨_,rfl,u,_,rfl,.inl (SqL.of uA),fun h1 hh1=>?_⟩
  have q1:=Same.new (o:=.lst (us.map V.int)) hh1
  have w1:upd HA h1 (.lst (us.map V.int)) h1=some (.lst (us.map V.int)):=zd
  generalize hB1:upd HA h1 _=B1 at q1 w1 ⊢
  refine⟨_,rfl,n,_,rfl,.inl (SqL.of (q1 _ _ nA)),fun h2 hh2=>?_⟩
  have q2:=q1.newT (o:=.lst (ts.map V.str)) hh2
  have w2:upd B1 h2 (.lst (ts.map V.str)) h2=some (.lst (ts.map V.str)):=zd
  have w12:=(Same.new (o:=.lst (ts.map V.str)) hh2) _ _ w1
  generalize hB2:upd B1 h2 _=B2 at q2 w2 w12 ⊢
  refine⟨_,rfl,u,_,rfl,.inl (SqL.of (q2 _ _ uA)),fun h3 hh3=>?_⟩
  have q3:=q2.newT (o:=.lst (us.map V.int)) hh3
  have w3:upd B2 h3 (.lst (us.map V.int)) h3=some (.lst (us.map V.int)):=zd
  have k3:=Same.new (o:=.lst (us.map V.int)) hh3
  generalize hB3:upd B2 h3 _=B3 at q3 w3 k3 ⊢
  refine⟨_,rfl,n,_,rfl,.inl (SqL.of (q3 _ _ nA)),fun h4 hh4=>?_⟩
  have q4:=q3.newT (o:=.lst (ts.map V.str)) hh4
  have w4:upd B3 h4 (.lst (ts.map V.str)) h4=some (.lst (ts.map V.str)):=zd
  have k4:=Same.new (o:=.lst (ts.map V.str)) hh4
  generalize hB4:upd B3 h4 _=B4 at q4 w4 k4 ⊢
  refine⟨(by show 4≤sizeLine;decide),fun lh hlh=>?_⟩
  have k5:=Same.new (o:=.lst [V.ref h1,.ref h2,.ref h3,.ref h4]) hlh
  have q5:=q4.trans k5
  have el:upd B4 lh (.lst [V.ref h1,.ref h2,.ref h3,.ref h4]) lh=some (.lst ([h1,h2,h3,h4].map V.ref)):=zd
  generalize hB5:upd B4 lh _=B5 at k5 q5 el ⊢
  have v1:B5 h1=some (.lst (us.map V.int)):=k5 _ _ (k4 _ _ (k3 _ _ w12))
  have v2:B5 h2=some (.lst (ts.map V.str)):=k5 _ _ (k4 _ _ (k3 _ _ w2))
  have v3:B5 h3=some (.lst (us.map V.int)):=k5 _ _ (k4 _ _ w3)
  have v4:B5 h4=some (.lst (ts.map V.str)):=k5 _ _ w4
  have g1:HA h1=none:=hh1
  have g2:HA h2=none:=q1.free hh2
  have g3:HA h3=none:=q2.free hh3
  have g4:HA h4=none:=q3.free hh4
  have g5:HA lh=none:=q4.free hlh
  have ne4:∀l ∈ [h1,h2,h3,h4],l≠lh:=fun l hl=>by
   simp only[mem_cons,not_mem_nil,or_false] at hl
   rcases hl with rfl | rfl | rfl | rfl
   ·exact zj (k4 _ _ (k3 _ _ w12)) hlh
   ·exact zj (k4 _ _ (k3 _ _ w2)) hlh
   ·exact zj (k4 _ _ w3) hlh
   ·exact zj w4 hlh
  clear q1 w1 hB1 q2 w2 w12 hB2 q3 w3 k3 hB3 q4 w4 k4 hB4 k5 hB5 hh1 hh2 hh3 hh4 hlh
  -- the one sheet
  refine⟨_,rfl,lh,_,_,_,rfl,rfl,SqL.of el,rfl,_,rfl,lh,_,_,_,rfl,rfl,SqL.of el,rfl,?_⟩
  intro x dx0 hx hdx hxd
  have sx:=(Same.new (o:=.own x) hdx).newT (o:=.ins (zE K "Sheet") dx0 []) (l:=x) (by rw[zi (Ne.symm hxd)];exact hx)
  refine⟨x,dx0,h1,h2,us,ts,rfl,zd,SqL.of (sx _ _ v1),by omega,SqL.of (sx _ _ v2),by omega,fun z hz=>?_,fun z=>?_,fun _ z=>?_,fun _ _ C1 F hF hkeep=>⟨rfl,?_⟩⟩
  ·have:=((M2.zcY z).mp (htg z hz)).1;omega
  ·rw[hgc] at z;cases z
  ·rw[hgj] at z;cases z
  have kpF:∀b o,B5 b=some o→C1 b=some o∧¬F b:=fun b o e=>hkeep b o (sx _ _ e) (zj e hx)
  have sF:Same B5 C1:=fun b o e=>(kpF b o e).1
  -- the other one
  refine⟨_,rfl,lh,_,_,_,rfl,rfl,SqL.of (sF _ _ el),rfl,_,rfl,lh,_,_,_,rfl,rfl,SqL.of (sF _ _ el),rfl,?_⟩
  intro y dy0 hy hdy hyd
  have sy:=(Same.new (o:=.own y) hdy).newT (o:=.ins (zE K "Sheet") dy0 []) (l:=y) (by rw[zi (Ne.symm hyd)];exact hy)
  refine⟨y,dy0,h3,h4,us,ts,rfl,zd,SqL.of (sy _ _ (sF _ _ v3)),by omega,SqL.of (sy _ _ (sF _ _ v4)),by omega,fun z hz=>?_,fun z=>?_,fun _ z=>?_,fun _ _ C2 G hG hkeep2=>⟨rfl,?_⟩⟩
  ·have:=((M2.zcY z).mp (htg z hz)).1;omega
  ·rw[hgc] at z;cases z
  ·rw[hgj] at z;cases z
  have kpG:∀b o,C1 b=some o→C2 b=some o∧¬G b:=fun b o e=>hkeep2 b o (sy _ _ e) (zj e hy)
  have sG:Same C1 C2:=fun b o e=>(kpG b o e).1
  refine⟨(by show 2≤sizeLine;decide),fun sh hsh=>?_⟩
  have k6:=Same.new (o:=.lst [V.ref x,.ref y]) hsh
  have es:upd C2 sh (.lst [V.ref x,.ref y]) sh=some (.lst [V.ref x,.ref y]):=zd
  have hF2:=hF.same sG
  have nsF:¬F sh:=hF2.apart hsh
  have nsG:¬G sh:=hG.apart hsh
  have fr:∀b o,C2 b=some o→b≠sh:=fun b o e=>zj e hsh
  generalize hC3:upd C2 sh _=C3 at k6 es ⊢
  have all5:∀b o,B5 b=some o→C3 b=some o∧(¬F b∧¬G b)∧b≠sh:=fun b o e=>⟨k6 _ _ (sG _ _ (sF _ _ e)),⟨(kpF b o e).2,(kpG b o (sF _ _ e)).2⟩,fr _ _ (sG _ _ (sF _ _ e))⟩
  have W0:TwoS K HA C3 x y F G (fil us ts cs 0) (fil us ts cs 0) lh sh [.ref x,.ref y] [h1,h2,h3,h4] 24:=by
   refine⟨fun b o e=>(all5 b o (q5 _ _ e)).1,fun b o e=>(all5 b o (q5 _ _ e)).2.1,hF2.same k6,hG.same k6,fun b z w=>?_,(all5 _ _ el).1,⟨(all5 _ _ el).2.1.1,(all5 _ _ el).2.1.2,g5⟩,es,⟨nsF,nsG,(all5 _ _ el).2.2.symm⟩,fun l hl=>?_⟩
   ·have:=hF.fh b z
    cases e:C1 b with
    | none=>exact this e
    | some o=>exact(kpG b o e).2 w
   ·have one:∀{l:Addr}{zs:List V},HA l=none→B5 l=some (.lst zs)→l≠lh→zs.length≤24→HA l=none∧(¬F l∧¬G l)∧l≠lh∧l≠sh∧∃zs,C3 l=some (.lst zs)∧zs.length≤24:=fun {l zs} a e n z=>⟨a,(all5 _ _ e).2.1,n,(all5 _ _ e).2.2,zs,(all5 _ _ e).1,z⟩
    have hne:=ne4 l hl
    simp only[mem_cons,not_mem_nil,or_false] at hl
    rcases hl with rfl | rfl | rfl | rfl
    ·exact one g1 v1 hne (by rw[length_map];omega)
    ·exact one g2 v2 hne (by rw[length_map];omega)
    ·exact one g3 v3 hne (by rw[length_map];omega)
    ·exact one g4 v4 hne (by rw[length_map];omega)
  clear all5 hC3 es nsF nsG fr k6 hF2 kpG sG kpF sF hkeep hkeep2 hF hG sx sy v1 v2 v3 v4 g1 g2 g3 g4 g5 ne4 el q5 hsh hx hdx hy hdy
  have fs:=zi5 us ts cs
  -- the cards are handed in
  refine⟨_,rfl,sh,rfl,⟨_,SqL.of W0.es⟩,?_⟩
  refine zbQ (xs:=[.ref x,.ref y]) (fun i σ H'=>∃(v w:Option V)(F G:Addr→Prop)(hl:List Addr),σ=[some (.ref a),some (.ref u),some (.ref n),some (.int style),some (.ref k),some (.ref lh),some (.ref sh),v,w,none,none,none,none,none]∧hl.length≤4+5*i∧TwoS K HA H' x y F G (fil us ts cs (if 0<i then ts.length else 0)) (fil us ts cs (if 1<i then ts.length else 0)) lh sh [.ref x,.ref y] hl 24) ⟨_,_,F,G,_,rfl,by simp,W0⟩ ?_ ?_ ?_
  ·rintro i σ H' hi ⟨v,w,F,G,hl,rfl,_,W⟩
   exact SqL.of W.es
  ·rintro i ev σ D hev ⟨v,w,F,G,hl,rfl,hhl,W⟩
   obtain⟨p,p',F1,G1,T,rfl,W1,back⟩:∃(p p':Addr)(F1 G1:Addr→Prop)(T:Sh),ev=.ref p∧TwoS K HA D p p' F1 G1 (fil us ts cs 0) T lh sh [.ref x,.ref y] hl 24∧∀(D':Hp)(F2:Addr→Prop)(hl':List Addr),TwoS K HA D' p p' F2 G1 (fil us ts cs ts.length) T lh sh [.ref x,.ref y] hl' 24→∃F G,TwoS K HA D' x y F G (fil us ts cs (if 0<i+1 then ts.length else 0)) (fil us ts cs (if 1<i+1 then ts.length else 0)) lh sh [.ref x,.ref y] hl' 24:=by
    match i,hev with
    | 0,hev =>
      cases hev
      exact⟨x,y,F,G,_,rfl,W,fun D' F2 hl' W'=>⟨F2,G,W'⟩⟩
    | 1,hev =>
      cases hev
      exact⟨y,x,G,F,_,rfl,W.swap,fun D' F2 hl' W'=>⟨F,F2,W'.swap⟩⟩
   refine⟨_,rfl,n,_,rfl,.inl (SqL.of (W1.s _ _ nA)),_,rfl,by omega,by rw[length_map];omega,?_⟩
   rw[length_map,show((ts.length:Nat):Int).toNat=ts.length by omega]
   refine zY (fun j σ H'=>∃(w:Option V)(F2:Addr→Prop)(hl':List Addr),σ=[some (.ref a),some (.ref u),some (.ref n),some (.int style),some (.ref k),some (.ref lh),some (.ref sh),some (.ref p),w,none,none,none,none,none]∧hl'.length=hl.length+j∧TwoS K HA H' p p' F2 G1 (fil us ts cs j) T lh sh [.ref x,.ref y] hl' 24) ⟨_,F1,hl,rfl,rfl,W1⟩ ?_ ?_
   ·rintro j σ D2 hj ⟨w,F2,hl',rfl,hhl',W2⟩
    rw[Int.zero_add]
    have hjc:j<cs.length:=by omega
    obtain⟨l0,el0,rl0⟩:=rA.at hjc []
    have hdp:=hcp _ (getD_inC hjc)
    have hdl:=hdp.length_eq
    have hlb:hl'.length≤14:=by
     have:i<2:=by
      have:=(List.getElem?_eq_some_iff.mp hev).1
      exact this
     omega
    refine⟨_,rfl,.inl ⟨rfl,_,SqL.of W2.eh⟩,_,rfl,_,rfl,k,_,_,_,rfl,rfl,SqL.of (W2.s _ _ eA),zJ (yO el0),l0,_,rfl,.inl (SqL.of (W2.s _ _ rl0)),fun l hl0=>?_⟩
    have ln:l≠lh:=fun z=>by rw[z,W2.eh] at hl0;cases hl0
    have W3:=W2.push (zs:=(cs.getD j []).map V.int) hl0 (by rw[length_map];omega) ln
    have e3:upd (upd D2 l (.lst ((cs.getD j []).map V.int))) lh (.lst ((hl'++[l]).map V.ref)) l=some (.lst ((cs.getD j []).map V.int)):=by rw[zi ln];exact zd
    refine⟨lh,_,_,rfl,rfl,by rw[zi ln.symm];exact W2.eh,by rw[length_map];omega,?_⟩
    rw[show hl'.map V.ref++[V.ref l]=(hl'++[l]).map V.ref by rw[map_append];rfl]
    generalize hD3:upd (upd D2 l _) lh _=D3 at W3 e3 ⊢
    obtain⟨dx,b1,b2,b3,dd,hip⟩:=W3.ax.ins
    have alast:atI ((hl'++[l]).map V.ref) (-1)=some (.ref l):=zdT (d:=0) rfl (by simp) (by simp)
    have fj:=fs j
    have hre:(fil us ts cs j).refuse (ts.getD j "") (cs.getD j [])=none:=by
     unfold Sh.refuse
     rw[fj.2.2.2.2,if_neg Bool.false_ne_true,fj.2.2.1,if_pos (wC hj),fj.1,if_pos hdp,fj.2.2.2.1,if_neg (by omega)]
    refine⟨_,rfl,p,dx,_,rfl,hip,rfl,_,rfl,_,rfl,n,_,_,_,rfl,rfl,SqL.of (W3.s _ _ nA),zJ (zaV hj),_,rfl,_,rfl,lh,_,_,_,rfl,rfl,SqL.of W3.eh,alast,p,F2,_,_,l,_,rfl,W3.ax,SqL.of e3,by omega,fun c hc=>(by rw[hre] at hc;cases hc),fun _ D4 F4 h4 d4=>?_⟩
    exact⟨_,F4,hl'++[l],rfl,by rw[length_append,hhl'];rfl,W3.deed h4 d4⟩
   ·rintro σ D2 ⟨w,F2,hl',rfl,hhl',W2⟩
    obtain⟨F,G,W5⟩:=back D2 F2 hl' W2
    exact⟨_,_,F,G,hl',rfl,by omega,W5⟩
  clear W0
  rintro σ D ⟨v,w,F,G,hl,rfl,hhl,W⟩
  have hhl:hl.length≤14:=hhl
  have W:TwoS K HA D x y F G (fil us ts cs ts.length) (fil us ts cs ts.length) lh sh [.ref x,.ref y] hl 24:=W
  -- one is struck on the first sheet
  have q0:=Int.emod_nonneg (ns.getD (11:Int).toNat 0) (b:=(us.length:Int)) (by omega)
  have q1:=Int.emod_lt_of_pos (ns.getD (11:Int).toNat 0) (b:=(us.length:Int)) (by omega)
  refine⟨_,rfl,_,rfl,a,ns,11,rfl,W.s.seq aA,by decide,_,rfl,u,_,rfl,.inl (SqL.of (W.s _ _ uA)),?_⟩
  rw[length_map]
  refine⟨_,_,rfl,rfl,(by show(0:Int)<us.length;omega),u,_,_,_,rfl,rfl,SqL.of (W.s _ _ uA),ze4 q0 (by omega),?_⟩
  dsimp only
  have hc:=wL (ns:=us) (i:=(ns.getD (11:Int).toNat 0%(us.length:Int)).toNat) (by omega)
  generalize us.getD (ns.getD (11:Int).toNat 0%(us.length:Int)).toNat 0=c at hc ⊢
  refine⟨_,rfl,_,rfl,u,us,c,rfl,SqL.of (W.s _ _ uA),by omega,fun ll D1 s1 f1 e1=>?_⟩
  have e1:D1 ll=some (.lst ((wo c us).map V.int)):=e1
  have W1:=W.same s1
  have fl:=fs ts.length
  have hrs:(fil us ts cs ts.length).refuseS c=none:=by
   unfold Sh.refuseS
   rw[fl.2.2.2.2,if_neg (by decide),fl.1,if_pos hc,if_neg (by omega)]
  obtain⟨dx,b1,b2,b3,dd,hip⟩:=W1.ax.ins
  have nl:¬F ll:=W.ax.apart f1
  refine⟨_,rfl,sh,_,_,_,rfl,rfl,SqL.of W1.es,rfl,x,dx,_,rfl,hip,rfl,_,rfl,x,F,_,c,rfl,W1.ax,fun z hz=>(by rw[hrs] at hz;cases hz),fun _ D2 F2 h2 d2=>?_⟩
  have W2:=W1.deed h2 d2
  have e2:=d2 _ _ e1 nl
  have ll0:HA ll=none:=W.s.free f1
  have llh:∀l∈hl,l≠ll:=fun l hm=>by
   obtain⟨_,_,_,_,zs,e,_⟩:=W.hh l hm
   exact zj e f1
  -- the cards without it
  refine⟨_,rfl,k,rfl,⟨_,SqL.of (W2.s _ _ eA)⟩,?_⟩
  refine zki (F:=fun l=>l∈hl) (f:=wo c) (SqL.of (W2.s _ _ eA)) (rA.imp fun _ _ z=>W2.s _ _ z) (by omega) (fun m d H' R hd hm s' h=>?_) fun kf D3 s3 r3=>?_
  ·have:=(hcp d hd).length_eq
   refine⟨_,rfl,_,rfl,m,d,c,rfl,SqL.of hm,by omega,fun l H2 s' f' e'=>h l H2 s' e' fun z=>?_⟩
   obtain⟨_,_,_,_,zs,e,_⟩:=W2.hh l z
   rw[‹Same D2 H'› _ _ e] at f'
   cases f'
  intro kn hkn
  have s4:=s3.newT (o:=.lst (kf.map V.ref)) hkn
  have e4:upd D3 kn (.lst (kf.map V.ref)) kn=some (.lst (kf.map V.ref)):=zd
  have r4:All2 (fun(l:Addr) (d:List Int)=>upd D3 kn (.lst (kf.map V.ref)) l=some (.lst (d.map V.int))∧¬l∈hl) kf (cs.map (wo c)):=r3.imp fun _ _ z=>⟨(Same.new hkn) _ _ z.1,z.2⟩
  have knh:∀l∈hl,l≠kn:=fun l hm=>by
   obtain⟨_,_,_,_,zs,e,_⟩:=W2.hh l hm
   exact zj (s3 _ _ e) hkn
  generalize hD4:upd D3 kn _=D4 at s4 e4 r4 ⊢
  have W4:=W2.same s4
  have e14:=s4 _ _ e2.1
  refine⟨_,rfl,a,ns,12,rfl,W4.s.seq aA,by decide,_,_,rfl,rfl,(by show(0:Int)<3;decide),?_⟩
  dsimp only
  generalize ns.getD (12:Int).toNat 0%3=kind
  -- all that was handed in is spoiled
  refine⟨_,rfl,lh,rfl,⟨_,SqL.of W4.eh⟩,?_⟩
  refine zbQ (xs:=hl.map V.ref) (fun i σ H'=>∃(z:Option V),σ=[some (.ref a),some (.ref u),some (.ref n),some (.int style),some (.ref k),some (.ref lh),some (.ref sh),v,w,some (.int c),some (.ref ll),some (.ref kn),some (.int kind),z]∧TwoS K HA H' x y F2 G ((fil us ts cs ts.length).strike c) (fil us ts cs ts.length) lh sh [.ref x,.ref y] hl (24+i)∧H' ll=some (.lst ((wo c us).map V.int))∧H' kn=some (.lst (kf.map V.ref))∧All2 (fun l d=>H' l=some (.lst (d.map V.int))∧¬l∈hl) kf (cs.map (wo c))) ⟨_,rfl,W4,e14,e4,r4⟩ ?_ ?_ ?_
  ·rintro i σ H' hi ⟨z,rfl,W,_⟩
   exact SqL.of W.eh
  ·rintro i ev σ E1 hy ⟨z,rfl,W,i1,i2,i3⟩
   have hev:=mem_of_getElem? hy
   obtain⟨r,hr,rfl⟩:=List.mem_map.mp hev
   have hi14:i<hl.length:=by
    have:=(List.getElem?_eq_some_iff.mp hy).1
    rw[length_map] at this
    exact this
   obtain⟨_,_,_,_,zs,y3,y4⟩:=W.hh r hr
   exact⟨_,rfl,_,rfl,r,zs,kind,rfl,y3,by omega,fun E2 p2=>⟨_,rfl,W.spoil hr y4 p2,(p2.1 _ (llh r hr).symm).trans i1,(p2.1 _ (knh r hr).symm).trans i2,i3.imp fun l d z=>⟨(p2.1 _ (fun w=>z.2 (by rw[w];exact hr))).trans z.1,z.2⟩⟩⟩
  clear W W1 W2 W4 e14 e4 r4 e1 e2 hD4 s4 s3 r3 hkn s1 f1 hip h2 d2
  rintro σ E0 ⟨z,rfl,W,i1,i2,i3⟩
  -- what is told is spoiled
  have LE:=LA.same W.s
  have row1:((fil us ts cs ts.length).strike c).rows=cs.map (wo c):=by rw[Sh.rows_strike,zjB htn hcl]
  have row2:(fil us ts cs ts.length).rows=cs:=zjB htn hcl
  have all1:∀j∈((fil us ts cs ts.length).strike c).panel,((fil us ts cs ts.length).strike c).card j≠none:=zj6 fun d hd=>by
   rw[row1] at hd
   obtain⟨d0,hd0,rfl⟩:=List.mem_map.mp hd
   have hl0:=(hcp d0 hd0).length_eq
   have:=Sh.wo_len (l:=d0) ((hcp d0 hd0).nodup_iff.mpr hun) ((hcp d0 hd0).mem_iff.mpr hc)
   intro z
   rw[z] at this
   simp at this
   omega
  have all2:∀j∈(fil us ts cs ts.length).panel,(fil us ts cs ts.length).card j≠none:=zj6 fun d hd=>by
   rw[row2] at hd
   exact hcne d hd
  have pn1:((fil us ts cs ts.length).strike c).panel=ts:=fl.2.2.1
  have pn2:(fil us ts cs ts.length).panel=ts:=fl.2.2.1
  have cp1:((fil us ts cs ts.length).strike c).couples=wo c us:=by show wo c (fil us ts cs ts.length).couples=_;rw[fl.1]
  have cp2:(fil us ts cs ts.length).couples=us:=fl.1
  have sk1:((fil us ts cs ts.length).strike c).struck=[c]:=by show(fil us ts cs ts.length).struck++[c]=_;rw[fl.2.1];rfl
  have sk2:(fil us ts cs ts.length).struck=[]:=fl.2.1
  have tk1:((fil us ts cs ts.length).strike c).taken=ts.length:=fl.2.2.2.1
  have tk2:(fil us ts cs ts.length).taken=ts.length:=fl.2.2.2.1
  have st1:((fil us ts cs ts.length).strike c).shut=false:=fl.2.2.2.2
  have st2:(fil us ts cs ts.length).shut=false:=fl.2.2.2.2
  have aX:=W.ax
  have aY:=W.ay
  have eS:=W.es
  have r1:All2 (fun(l:Addr) (d:List Int)=>E0 l=some (.lst (d.map V.int))) kf ((fil us ts cs ts.length).strike c).rows:=by rw[row1];exact i3.imp fun _ _ z=>z.1
  have r2:All2 (fun(l:Addr) (d:List Int)=>E0 l=some (.lst (d.map V.int))) kl (fil us ts cs ts.length).rows:=by rw[row2];exact rA.imp fun _ _ z=>W.s _ _ z
  have nE:=W.s _ _ nA
  have uE:=W.s _ _ uA
  have kE:=W.s _ _ eA
  clear i3 fl hrs fs W row1 row2
  generalize (fil us ts cs ts.length).strike c=S1 at *
  generalize fil us ts cs ts.length=S2 at *
  have n1:E0 n=some (.lst (S1.panel.map V.str)):=by rw[pn1];exact nE
  have n2:E0 n=some (.lst (S2.panel.map V.str)):=by rw[pn2];exact nE
  refine⟨_,rfl,sh,_,_,_,rfl,rfl,SqL.of eS,rfl,_,rfl,_,rfl,_,rfl,x,n,kn,F2,S1,kf,kind,rfl,aX,n1,i2,r1,all1,by rw[pn1];omega,LE,fun E1 t1 L1=>?_⟩
  obtain⟨Gy,_,aY1⟩:=aY.sameN t1
  refine⟨_,rfl,sh,_,_,_,rfl,rfl,SqL.of (t1.lst eS),rfl,_,rfl,_,rfl,_,rfl,y,n,k,Gy,S2,kl,kind,rfl,aY1,t1.lst n2,t1.lst kE,r2.imp fun _ _ z=>t1.lst z,all2,by rw[pn2];omega,L1,fun E2 t2' L2=>?_⟩
  have t2:=t1.trans t2'
  -- all is told as ever
  obtain⟨Fx,_,aX2⟩:=aX.sameN t2
  have uL:E0 ll=some (.lst (S1.couples.map V.int)):=by rw[cp1];exact i1
  refine⟨_,rfl,sh,_,_,_,rfl,rfl,SqL.of (t2.lst eS),rfl,_,rfl,_,rfl,_,rfl,x,n,ll,kn,Fx,S1,kf,rfl,aX2,t2.lst n1,t2.lst uL,t2.lst i2,r1.imp fun _ _ z=>t2.lst z,all1,by rw[pn1];omega,L2,fun E3 t3' L3=>⟨_,rfl,yT ?_⟩⟩
  have t3:=t2.trans t3'
  obtain⟨Gy3,_,aY3⟩:=aY.sameN t3
  refine⟨_,rfl,sh,_,_,_,rfl,rfl,SqL.of (t3.lst eS),rfl,_,rfl,_,rfl,_,rfl,y,n,u,k,Gy3,S2,kl,rfl,aY3,t3.lst n2,t3.lst (by rw[cp2];exact uE),t3.lst kE,r2.imp fun _ _ z=>t3.lst z,all2,by rw[pn2];omega,L3,fun E4 t4' L4=>⟨_,rfl,yT ?_⟩⟩
  have t4:=t3.trans t4'
  obtain⟨Fx4,_,aX4⟩:=aX.sameN t4
  refine⟨_,rfl,sh,_,_,_,rfl,rfl,SqL.of (t4.lst eS),rfl,_,rfl,_,rfl,_,rfl,(by show 1≤sizeLine;decide),fun lc hlc=>?_⟩
  have s5:=Same.new (o:=.lst [V.int c]) hlc
  have e5:upd E4 lc (.lst [V.int c]) lc=some (.lst ([c].map V.int)):=zd
  generalize hE5:upd E4 lc _=E5 at s5 e5 ⊢
  have t5:=t4.trans s5.toN
  refine⟨_,rfl,_,rfl,n,_,rfl,.inl (SqL.of (t5.lst nE)),?_⟩
  refine⟨x,Fx4,S1,n,ll,lc,kn,(by rw[length_map,tk1,st1];rfl),aX4.same s5,SqL.of (t5.lst n1),SqL.of (t5.lst uL),by rw[sk1];exact SqL.of e5,⟨kf,SqL.of (t5.lst i2),r1.imp fun _ _ z=>SqL.of (t5.lst z)⟩,fun E6 s6=>⟨_,rfl,yT ?_⟩⟩
  have t6:=t5.trans s6.toN
  obtain⟨Gy6,_,aY6⟩:=aY.sameN t6
  refine⟨_,rfl,sh,_,_,_,rfl,rfl,SqL.of (t6.lst eS),rfl,_,rfl,_,rfl,(by show 0≤sizeLine;decide),fun ld hld=>?_⟩
  have s7:=Same.new (o:=.lst []) hld
  have e7:upd E6 ld (.lst []) ld=some (.lst (([]:List Int).map V.int)):=zd
  generalize hE7:upd E6 ld _=E7 at s7 e7 ⊢
  have t7:=t6.trans s7.toN
  refine⟨_,rfl,_,rfl,n,_,rfl,.inl (SqL.of (t7.lst nE)),?_⟩
  exact⟨y,Gy6,S2,n,u,ld,k,(by rw[length_map,tk2,st2];rfl),aY6.same s7,SqL.of (t7.lst n2),by rw[cp2];exact SqL.of (t7.lst uE),by rw[sk2];exact SqL.of e7,⟨kl,SqL.of (t7.lst kE),r2.imp fun _ _ z=>SqL.of (t7.lst z)⟩,fun E8 _=>q E8⟩
theorem all_mk{l:PySem.W.OpenLaw}{w:World}{K:Frag}{h:Heap}{mg:Str→Option Value}{fa f78 f70 oC_Sheet:Addr}(X:K.In h)(G:h.Ns mainGlobals mg)(hfa:mg "law"=some (.ref fa))
 {oc70 kV70 dc70 pm70 cd70 ct70 oc78 kV78 dc78 pm78 cd78 ct78:Value} {od70 an70 od78 an78:Option Addr} {sl70 sl78:Array (Option Value)}
 (oa_Sheet:nsIn K mainGlobals "Sheet"=some (some (.ref oC_Sheet)))
 (a0:DM K oC_Sheet "taken" "Sheet.taken" zcR ["self"])
 (a1:DM K oC_Sheet "is_sealed" "Sheet.is_sealed" zab ["self"])
 (a2:DM K oC_Sheet "refuse_if_sealed" "Sheet.refuse_if_sealed" yE ["self"])
 (a3:DM K oC_Sheet "refuse_unknown_judge" "Sheet.refuse_unknown_judge" yp zG)
 (a4:DM K oC_Sheet "couples" "Sheet.couples" zbi zz)
 (a5:DM K oC_Sheet "struck" "Sheet.struck" zbS ["self"])
 (a6:DM K oC_Sheet "judges" "Sheet.judges" zbZ ["self"])
 (a7:DM K oC_Sheet "handed" "Sheet.handed" wZ zI)
 (a8:DF K "whole_card" zc8 zaI)
 (a9:DF K "mark_on" zfp zdj)
 (a10:DF K "without_couple" wp y7)
 (a11:DF K "one_up" zgX zef)
 (a12:DF K "good_number" zcE ["couple"])
 (a13:DF K "small_letter" zb1 ["sign"])
 (a14:DF K "good_length" zcL yM)
 (a15:DF K "all_unlike" zc2 ["things"])
 (a16:DF K "majority_of" zcG ["many"])
 (a17:DF K "granting" zda za9)
 (a18:DF K "_law_whole" zd7 yA)
 (a19:DF K "_law_at" zgt zej)
 (a20:DF K "_law_texts" zdI zao)
 (a21:DF K "_law_mix" zfr zdv)
 (a22:DF K "_law_couples" zaW zap)
 (a23:DF K "_law_judges" zbr zaQ)
 (a24:DF K "_law_marks" zcr wu)
 (a25:DF K "_law_key" zek zdh)
 (a26:DF K "_law_rows" zeK zbb)
 (a27:DF K "_law_part" zbO zcp)
 (a28:DF K "_law_without" zaM zat)
 (a29:DF K "_law_words" zcg zbC)
 (a30:DF K "_law_ladder" zby za0)
 (a31:DF K "_law_spoil" zd0 zaj)
 (a32:DM K oC_Sheet "hand_in" "Sheet.hand_in" zbm wB)
 (a33:DM K oC_Sheet "strike" "Sheet.strike" zca wQ)
 (a34:DM K oC_Sheet "card_of" "Sheet.card_of" zbg zR)
 (a35:DF K "good_couples" zai ["couples"])
 (a36:DF K "good_name" zcu ["judge"])
 (a37:DF K "marks_of" zc3 wW)
 (a38:DF K "granted" zfy wS)
 (a39:DF K "granted_sum" zcN yJ)
 (a40:DF K "first_number" zb2 ["marks"])
 (a41:DF K "refuse_fewer_cards" wn zA)
 (a42:DF K "_law_same" zeL wV)
 (a43:DF K "_law_pairs" zdS zbv)
 (a44:DF K "_law_fours" zdX zbt)
 (a45:DF K "_law_card" zeC zcs)
 (a46:DF K "_law_spots" za2 wY)
 (a47:DF K "_law_parts" zd4 zbF)
 (a48:DF K "_law_line" zeG zcx)
 (a49:DM K oC_Sheet "cards" "Sheet.cards" zaO zZ)
 (a50:DF K "good_judges" zaY ["judges"])
 (a51:DF K "ladder_of" zcl zbx)
 (a52:DF K "unlike_at" zec zaq)
 (a53:DF K "cards_without" wN yH)
 (a54:DF K "_law_lists" zd2 zbw)
 (a55:DF K "_law_firsts" zbs zaR)
 (a56:DM K oC_Sheet "__init__" "Sheet.__init__" zc6 zaT)
 (a57:DF K "is_ahead" zeN zcq)
 (a58:DF K "parting_of" zdk zaZ)
 (a59:DF K "row_text" zb4 zcf)
 (a60:DF K "_law_stands" wz zaP)
 (a61:DF K "_law_deciding" wk wM)
 (a62:DF K "place_among" zaL zas)
 (a63:DF K "places_of" za6 yC)
 (a64:DF K "places" zgQ ["sheet"])
 (a65:DF K "left_out" zew za1)
 (a66:DF K "step_up" zeg zbL)
 (a67:DF K "firsts_of" zcj zaa)
 (a68:DF K "firsts" zgm ["sheet"])
 (a69:DF K "deciders" zdq ["sheet"])
 (a70:nsIn K mainGlobals "by_place"=some (some (.ref f70))) (l70:K.lookup f70=some ⟨oc70,od70,.func (fnOf "by_place" "by_place" (zav zaB) (y6 zaB) (zf zaB) .none kV70 dc70 pm70 an70 cd70 ct70),sl70⟩) (c70:codeIn K cd70 "by_place"=true) (k70:keepIn K (.ref f70)=true)
 {lc lP:Addr} {lo:Value} {ld:Option Addr} {ls:Array (Option Value)} {lvs:Array Value} (qe:cd70=.ref lc) (qk:K.lookup lc=some ⟨lo,ld,.fields lvs,ls⟩) (qv:lvs[11]? = some (.ref lP)) (qh:PySem.W.codeHdIn K lc lP=true) (qn:K.lookup lP=none)
 (a71:DF K "ranking_of" zdb wJ)
 (a72:DF K "partings_of" zaH zar)
 (a73:DF K "ranking" zfq ["sheet"])
 (a74:DF K "partings" zev ["sheet"])
 (a75:DF K "table" zgk ["sheet"])
 (a76:DF K "_law_spoil_told" zaz y9)
 (a77:DF K "_law_told" zbM zct)
 (a78:nsIn K mainGlobals "law"=some (some (.ref f78))) (l78:K.lookup f78=some ⟨oc78,od78,.func (fnOf "law" "law" (zav zdG) (y6 zdG) (zf zdG) .none kV78 dc78 pm78 an78 cd78 ct78),sl78⟩) (c78:codeIn K cd78 "law"=true) (k78:keepIn K (.ref f78)=true)
 (z0:nsIn K mainGlobals "all"=some none)
 (z1:nsIn K mainGlobals "bool"=some none)
 (z2:nsIn K mainGlobals "int"=some none)
 (z3:nsIn K mainGlobals "isinstance"=some none)
 (z4:nsIn K mainGlobals "len"=some none)
 (z5:nsIn K mainGlobals "list"=some none)
 (z6:nsIn K mainGlobals "max"=some none)
 (z7:nsIn K mainGlobals "min"=some none)
 (z8:nsIn K mainGlobals "range"=some none)
 (z9:nsIn K mainGlobals "set"=some none)
 (z10:nsIn K mainGlobals "sorted"=some none)
 (z11:nsIn K mainGlobals "str"=some none)
 (z12:nsIn K mainGlobals "sum"=some none)
 (z13:nsIn K mainGlobals "tuple"=some none)
 (z14:nsIn K mainGlobals "zip"=some none)
 {t0:Tok} (y0:nsIn K mainGlobals "MOST_COUPLES"=some (some (.int 24 t0)))
 {t1:Tok} (y1:nsIn K mainGlobals "MOST_JUDGES"=some (some (.int 15 t1)))
 {t2:Tok} (y2:nsIn K mainGlobals "MOST_NUMBER"=some (some (.int 999 t2)))
 {t3:Tok} (y3:nsIn K mainGlobals "MOST_SIGNS"=some (some (.int 8 t3)))
 {t4:Tok} (y4:nsIn K mainGlobals "MOST_CARDS"=some (some (.int 200 t4)))
 {xc1:Addr} (xa1:nsIn K mainGlobals "BadCouples"=some (some (.ref xc1)))
 {xc2:Addr} (xa2:nsIn K mainGlobals "BadJudges"=some (some (.ref xc2)))
 {xc3:Addr} (xa3:nsIn K mainGlobals "SheetSealed"=some (some (.ref xc3)))
 {xc4:Addr} (xa4:nsIn K mainGlobals "UnknownJudge"=some (some (.ref xc4)))
 {xc5:Addr} (xa5:nsIn K mainGlobals "BadCard"=some (some (.ref xc5)))
 {xc6:Addr} (xa6:nsIn K mainGlobals "TooManyCards"=some (some (.ref xc6)))
 {xc7:Addr} (xa7:nsIn K mainGlobals "UnknownCouple"=some (some (.ref xc7)))
 {xc8:Addr} (xa8:nsIn K mainGlobals "LastCouple"=some (some (.ref xc8)))
 {xc9:Addr} (xa9:nsIn K mainGlobals "NoCard"=some (some (.ref xc9)))
 {xc11:Addr} (xa11:nsIn K mainGlobals "AtTop"=some (some (.ref xc11)))
 (xe1:excIn K xc1 bmV "ValueError.__new__"=true)
 (xe2:excIn K xc2 bmV "ValueError.__new__"=true)
 (xe3:excIn K xc3 bmV "ValueError.__new__"=true)
 (xe4:excIn K xc4 bmV "ValueError.__new__"=true)
 (xe5:excIn K xc5 bmV "ValueError.__new__"=true)
 (xe6:excIn K xc6 bmV "ValueError.__new__"=true)
 (xe7:excIn K xc7 bmV "ValueError.__new__"=true)
 (xe8:excIn K xc8 bmV "ValueError.__new__"=true)
 (xe9:excIn K xc9 bmV "ValueError.__new__"=true)
 (xe11:excIn K xc11 bmV "ValueError.__new__"=true)
 (opg_Sheet:plainGet K oC_Sheet Str.empty=true)
 (ohd_Sheet:hasDictIn K oC_Sheet=true)
 (opo_Sheet:plainOver K oC_Sheet=true)
 (osa_Sheet:findIn K (.ref oC_Sheet) "__setattr__"=some (some (.builtin "object.__setattr__")))
 (omk_Sheet:makesIn K oC_Sheet=true)
 (okc_Sheet:keepIn K (.ref oC_Sheet)=true)
 (on_Sheet_standing:findIn K (.ref oC_Sheet) "standing"=some none)
 (on_Sheet_struck_so_far:findIn K (.ref oC_Sheet) "struck_so_far"=some none)
 (on_Sheet_panel:findIn K (.ref oC_Sheet) "panel"=some none)
 (on_Sheet_card_by_judge:findIn K (.ref oC_Sheet) "card_by_judge"=some none)
 (on_Sheet_taken_so_far:findIn K (.ref oC_Sheet) "taken_so_far"=some none)
 (on_Sheet_sealed:findIn K (.ref oC_Sheet) "sealed"=some none)
 : LamK K "by_place"∧∃fd:FuncData,(∀(s:Shared)(v:Value),BindsTo s fd ⟨[v],[]⟩ [("_law_script",v)])∧∀base:Heap,K.In base→base.Ns mainGlobals mg→ze7 mg base→FnOk l.prog w K mg base CX0 16 fa fd ["_law_script"] (zgu K):=by
 obtain⟨L70,LK⟩:=lam_mk a70 l70 qe qk qv qh qn
 have e:=hfa.symm.trans (mg_of X G a78)
 cases e
 have oc_Sheet:=clsA_of oa_Sheet
 have T:Txt K mg:=⟨mg_none_of X G z0,mg_none_of X G z1,mg_none_of X G z2,mg_none_of X G z3,mg_none_of X G z4,mg_none_of X G z5,mg_none_of X G z6,mg_none_of X G z7,mg_none_of X G z8,mg_none_of X G z9,mg_none_of X G z10,mg_none_of X G z11,mg_none_of X G z12,mg_none_of X G z13,mg_none_of X G z14,⟨_,mg_of X G y0⟩,⟨_,mg_of X G y1⟩,⟨_,mg_of X G y2⟩,⟨_,mg_of X G y3⟩,⟨_,mg_of X G y4⟩,⟨xc1,xa1,mg_of X G xa1,xe1⟩,⟨xc2,xa2,mg_of X G xa2,xe2⟩,⟨xc3,xa3,mg_of X G xa3,xe3⟩,⟨xc4,xa4,mg_of X G xa4,xe4⟩,⟨xc5,xa5,mg_of X G xa5,xe5⟩,⟨xc6,xa6,mg_of X G xa6,xe6⟩,⟨xc7,xa7,mg_of X G xa7,xe7⟩,⟨xc8,xa8,mg_of X G xa8,xe8⟩,⟨xc9,xa9,mg_of X G xa9,xe9⟩,⟨xc11,xa11,mg_of X G xa11,xe11⟩,oc_Sheet ▸ ⟨opg_Sheet,ohd_Sheet,opo_Sheet,osa_Sheet⟩,oc_Sheet ▸ on_Sheet_standing,oc_Sheet ▸ on_Sheet_struck_so_far,oc_Sheet ▸ on_Sheet_panel,oc_Sheet ▸ on_Sheet_card_by_judge,oc_Sheet ▸ on_Sheet_taken_so_far,oc_Sheet ▸ on_Sheet_sealed⟩
 have F70:=zfu (st:=zaB) l70 c70 k70
 have b70:=F70.binds (ps:=["places","couples"]) fun _ _ _ _ _ _=>onS fun _=>onS fun _=>on0 rfl
 have F78:=zfu (st:=zdG) l78 c78 k78
 have b78:=F78.binds (ps:=["_law_script"]) fun _ _ _ _ _ _=>onS fun _=>on0 rfl
 refine⟨LK,fnOf "law" "law" (zav zdG) (y6 zdG) (zf zdG) .none kV78 dc78 pm78 an78 cd78 ct78,fun s v=>.of_eq rfl,fun base _ _ B=>?_⟩
 have C0:=canM l.prog w base oc_Sheet a0 fun F=>zg0 F T
 have C1:=canM l.prog w base oc_Sheet a1 fun F=>zeE F T
 have C2:=zjp l.prog w base oc_Sheet a2 fun F=>zcc F T
 have C3:=zjp l.prog w base oc_Sheet a3 fun F=>zbe F T
 have C4:=canM l.prog w base oc_Sheet a4 fun F=>zfG F T
 have C5:=canM l.prog w base oc_Sheet a5 fun F=>zgf F T
 have C6:=canM l.prog w base oc_Sheet a6 fun F=>zf7 F T
 have C7:=canM l.prog w base oc_Sheet a7 fun F=>zge F T
 have C8:=yb l.prog w base X G a8 fun F=>zhC F T
 have C9:=yb l.prog w base X G a9 fun F=>ok_mark_on F T
 have C10:=yb l.prog w base X G a10 fun F=>zfh F T
 have C11:=canFX l.prog w base X G a11 fun F=>ok_one_up F T
 have C12:=yb l.prog w base X G a12 fun F=>zgF F T
 have C13:=yb l.prog w base X G a13 fun F=>zf6 F T
 have C14:=yb l.prog w base X G a14 fun F=>zgS F T
 have C15:=yb l.prog w base X G a15 fun F=>zhr F T
 have C16:=yb l.prog w base X G a16 fun F=>zg9 F T
 have C17:=yb l.prog w base X G a17 fun F=>zjO F T
 have C18:=yb l.prog w base X G a18 fun F=>ziN F T
 have C19:=yb l.prog w base X G a19 fun F=>ok_law_at F T
 have C20:=yb l.prog w base X G a20 fun F=>zif F T
 have C21:=yb l.prog w base X G a21 fun F=>ok_law_mix F T
 have C22:=yb l.prog w base X G a22 fun F=>zg1 F T
 have C23:=yb l.prog w base X G a23 fun F=>zhD F T
 have C24:=yb l.prog w base X G a24 fun F=>ziI F T
 have C25:=yb l.prog w base X G a25 fun F=>ok_law_key F T
 have C26:=yb l.prog w base X G a26 fun F=>zka F T
 have C27:=yb l.prog w base X G a27 fun F=>zi3 F T
 have C28:=yb l.prog w base X G a28 fun F=>zg6 F T
 have C29:=yb l.prog w base X G a29 fun F=>ziP F T
 have C30:=yb l.prog w base X G a30 fun F=>zhx F T
 have C31:=yb l.prog w base X G a31 fun F=>ziQ F T
 have C32:=zjp l.prog w base oc_Sheet a32 fun F=>zfz F T C8 C2 C3
 have C33:=zjp l.prog w base oc_Sheet a33 fun F=>zgi F T C10 C7 C2
 have C34:=zjp l.prog w base oc_Sheet a34 fun F=>zfo F T C3
 have C35:=yb l.prog w base X G a35 fun F=>zgd F T C12 C14 C15
 have C36:=yb l.prog w base X G a36 fun F=>ziS F T C13 C14
 have C37:=yb l.prog w base X G a37 fun F=>zjY F T C9
 have C38:=yb l.prog w base X G a38 fun F=>zkf F T C17
 have C39:=yb l.prog w base X G a39 fun F=>zgC F T C17
 have C40:=yb l.prog w base X G a40 fun F=>zf5 F T C16
 have C41:=yb l.prog w base X G a41 fun F=>zdE F T C7
 have C42:=yb l.prog w base X G a42 fun F=>zjT F T C18
 have C43:=yb l.prog w base X G a43 fun F=>zig F T C18
 have C44:=yb l.prog w base X G a44 fun F=>zir F T C18
 have C45:=yb l.prog w base X G a45 fun F=>zi6 F T C21
 have C46:=yb l.prog w base X G a46 fun F=>zib F T C24 C25
 have C47:=yb l.prog w base X G a47 fun F=>ziG F T C24 C26 C27
 have C48:=yb l.prog w base X G a48 fun F=>zjD F T C24 C29 C30
 have C49:=canM l.prog w base oc_Sheet a49 fun F=>zgA F T C7 C34
 have C50:=yb l.prog w base X G a50 fun F=>zgJ F T C36 C14 C15
 have C51:=yb l.prog w base X G a51 fun F=>zih F T C38 C39
 have C52:=yb l.prog w base X G a52 fun F=>ziT F T C38 C39 C40
 have C53:=yb l.prog w base X G a53 fun F=>zfN F T C7 C34
 have C54:=yb l.prog w base X G a54 fun F=>ziO F T C42
 have C55:=yb l.prog w base X G a55 fun F=>zhI F T C46
 have C56:=canK l.prog w base oc_Sheet X G oa_Sheet omk_Sheet okc_Sheet a56 fun F=>zht F T C35 C50
 have C57:=yb l.prog w base X G a57 fun F=>zjm F T C38 C39 C40 C52
 have C58:=yb l.prog w base X G a58 fun F=>zhE F T C38 C40 C52
 have C59:=yb l.prog w base X G a59 fun F=>zjG F T C37 C51 C4 C49
 have C60:=yb l.prog w base X G a60 fun F=>zhp F T C18 C42 C20 C54 C4 C5 C6 C7 C49 C34 C0 C1
 have C61:=yb l.prog w base X G a61 fun F=>zgc F T C55
 have C62:=yb l.prog w base X G a62 fun F=>zgq F T C57
 have C63:=yb l.prog w base X G a63 fun F=>ziV F T C37 C62
 have C64:=yb l.prog w base X G a64 fun F=>ok_places F T C63 C41 C4 C49
 have C65:=yb l.prog w base X G a65 fun F=>zjQ F T C63 C41 C53 C4 C34
 have C66:=yb l.prog w base X G a66 fun F=>ok_step_up F T C11 C63 C4 C7 C34
 have C67:=yb l.prog w base X G a67 fun F=>ziJ F T C63
 have C68:=yb l.prog w base X G a68 fun F=>ok_firsts F T C41 C67 C4 C49
 have C69:=yb l.prog w base X G a69 fun F=>zi2 F T C68 C41 C67 C53 C4 C7
 have C70:Can l.prog w K mg base 11 "by_place" ["places","couples"] (zcz K):=Can.of F70 (zj4 F70 T L70 B C64) (mg_of X G a70) b70
 have C71:=yb l.prog w base X G a71 fun F=>zhq F T C63 C70
 have C72:=yb l.prog w base X G a72 fun F=>zgo F T C37 C71 C58
 have C73:=yb l.prog w base X G a73 fun F=>ok_ranking F T C71 C41 C4 C49
 have C74:=yb l.prog w base X G a74 fun F=>zjV F T C72 C41 C4 C49
 have C75:=yb l.prog w base X G a75 fun F=>ok_table F T C73 C59
 have C76:=yb l.prog w base X G a76 fun F=>zeY F T C64 C73 C68 C74 C65 C69 C66 C75 C31 C4 C5 C6 C7 C49 C34
 have C77:=yb l.prog w base X G a77 fun F=>zj8 F T C64 C73 C68 C74 C65 C69 C66 C75 C18 C42 C20 C43 C44 C46 C26 C47 C48 C61
 exact ok_law F78 T C19 C22 C23 C45 C60 C28 C31 C76 C77 C56 C32 C33
theorem walk{l:PySem.W.OpenLaw}{q:Program}{loose:List Str}{XP:(Str→Option Value)→Heap→Prop}{YP:World→Heap→Prop}{d:DefRec}{K:Params→Frag}(hn:l.most=some 63)(hdf:d.params.defaults=[])
 (hY:∀(w:World)(h:Heap),YP w h→(K w.params).In h)
 (hrec:∃dd,(PyProof.Rows.recsOf q).find? (fun e=>e.name==("by_place":Str))=some dd)
 (F:∀(w:World)(mg:Str→Option Value)(fa:Addr)(h:Heap),(K w.params).In h→h.Ns mainGlobals mg→mg d.name=some (.ref fa) →
   LamK (K w.params) "by_place"∧∃fd:FuncData,(∀(s:Shared)(u:Value),BindsTo s fd ⟨[u],[]⟩ [("_law_script",u)])∧∀base:Heap,(K w.params).In base→base.Ns mainGlobals mg→ze7 mg base→FnOk l.prog w (K w.params) mg base CX0 16 fa fd ["_law_script"] (zgu (K w.params))) :
 PySem.W.WalkO q loose XP YP l.row.toRowW d [] (fun f vs=>PySem.call f vs) :=
 L2.walk_ofT (n:=63) (k:=16) (x:= "_law_script") (y:= "by_place") (CX:=fun _=>CX0) (sp:=fun w=>zgu (K w.params)) hn (by decide) hdf ⟨rfl,by decide,by decide⟩ hrec hY F (fun _ _ a ns hl hT hS=>⟨a,ns,rfl,hS,hl,hT,fun _=>rfl⟩) fun _ _ _ _ _ z=>z
end
end Pp
namespace PySem.W.Fast
def tw18112872720146491364:=0
def tw13211812000687935501:=0
def tw11405530458023537389:=0
def tw2103298474647475846:=0
def tw1134038008288883722:=0
def tw990908077366834466:=0
def tw18069163375310616264:=0
def tw18126944690637434944:=0
def tw8253848007971094565:=0
def tw5270738512028707051:=0
def tw9241491742411408869:=0
def tw7212215919291853064:=0
def tw1334486961700748230:=0
def tw3948069283719188920:=0
def tw16578091340743350992:=0
def tw2862495413205807463:=0
def tw12919798192827798370:=0
def tw5906976220942110754:=0
def tw4316051610423720141:=0
def tw13795817928533620817:=0
def tw1191273437159562111:=0
def tw6425468245639782199:=0
def tw17745277789870212969:=0
def tw16425373335772485785:=0
def tw14491040579585996072:=0
def tw14617173468266800195:=0
def tw3387700931761405903:=0
def tw12755646725520934568:=0
def tw8977930499602474388:=0
def tw8802980451532008316:=0
def tw2727408857143855950:=0
def tw7207963742800255618:=0
def tw9970205264899139419:=0
def tw14249395896242637240:=0
def tw2424395787161436916:=0
def tw3738049771240949105:=0
def tw4273915696649905917:=0
def tw12310866992250064220:=0
def tw12065100903277852297:=0
def tw7586629291099970163:=0
def tw8502897833246590360:=0
def tw11101123299294944158:=0
def tw7080777687363913620:=0
def tw6397003747723300978:=0
def tw12765684003066241779:=0
def tw14756902277561780487:=0
def tw1127713576273639803:=0
def tw6090290665447433770:=0
def tw17113797085795817395:=0
def tw11556064680236631389:=0
def tw12225418907979556734:=0
def tw9302307204790832753:=0
def tw18335338329500014474:=0
def tw14649079006572813414:=0
def tw5185769119363724370:=0
def tw11235069499440783607:=0
def tw7473044115726658707:=0
def tw16545261147102945720:=0
def tw16396319537780445479:=0
def tw5357271606833636534:=0
def tw14273085133009676087:=0
def tw8124856362475785462:=0
def tw18009941898794211199:=0
def tw15392829280560265306:=0
def tw18400917654783791204:=0
def tw10751829549982197267:=0
def tw5202710527311231859:=0
def tw4535742726114499034:=0
def tw8770561052213932245:=0
def tw12363354207887010278:=0
def tw3575244213676225931:=0
def tw17622221514681192499:=0
def tw12173006944998581799:=0
def tw8490697819331430091:=0
def tw2050450650277978847:=0
def tw3047277114671179896:=0
def tw2019907084225867408:=0
def tw2714382281970655290:=0
def tw7263177186556810625:=0
def tw3805686996120368851:=0
def tw15625338552138871492:=0
def tw12695382945317179043:=0
def tw7826293379174815072:=0
def tw6032805397765786274:=0
def tw16727038976385832907:=0
def tw7953289228797639612:=0
def tw2400120386770099351:=0
def tw15715812676746768349:=0
def tw8114618100015440651:=0
def tw17150493839480008723:=0
def tw17745991361307786617:=0
def tw8357824410597380184:=0
def tw14844385407916052903:=0
def tw2881377582842728716:=0
def tw10345139666925131357:=0
def tw734743482039542930:=0
def tw14347563976925960709:=0
def tw8491740716801696062:=0
def tw16002458312458617121:=0
def tw1490485614646120714:=0
def tw17046254676328635788:=0
def tw8889725791589732243:=0
def tw16659048287497539285:=0
def tw17128379600420076561:=0
def tw16866476798736832474:=0
def tw8582941215913739928:=0
def tw909032909046716786:=0
def tw9565888374643191592:=0
def tw14531154153611843728:=0
def tw12948639387925254527:=0
def tw8898860533312827402:=0
def tw6389230626067538705:=0
def tw13121723912495426370:=0
def tw475734845857240423:=0
def tw4414539806451362617:=0
def tw15149601878313719577:=0
def tw5607803594603200155:=0
def tw16236648383622199557:=0
def tw16205387684740727047:=0
def tw13302675481926251759:=0
def tw18378513356422948899:=0
def tw14075933387299195056:=0
def tw3508343918513852980:=0
def tw3376129705558359804:=0
def tw5979872385053773603:=0
def tw8676788408114522249:=0
def tw17908092743173618298:=0
def tw17345598360405893858:=0
def tw11022430079462912045:=0
def tw16177473224129963142:=0
def tw13442148203714040869:=0
def tw9259889219870108449:=0
def tw16769840532715614895:=0
def tw1847297947911059146:=0
def tw17487875155873006529:=0
def tw12657352792083920307:=0
def tw13514462637477167069:=0
def tw15221605317686224760:=0
def tw18100645705651992586:=0
def tw525742625702373071:=0
def tw1619701633242073065:=0
def tw11993967657418844307:=0
def tw4546064733113232681:=0
def tw17012958434228388262:=0
def tw13494992633728385937:=0
def tw50429652634178899:=0
def tw9212299079978705527:=0
def tw11579253519403010255:=0
def tw9378788844173752788:=0
def tw885518799871126907:=0
def tw11227080978740526418:=0
def tw10688552701855808743:=0
def tw8573114171306230618:=0
def tw13354723714775906544:=0
def tw16340180135170632928:=0
def tw2971357231098611549:=0
def tw11565201107265120225:=0
def tw6415644862707134977:=0
def tw12073309691568244396:=0
def tw5909584255376970296:=0
def tw9737751893453661589:=0
def tw11822246934252778983:=0
def tw115660094636576398:=0
def tw1918572367415702350:=0
def tw13303888607507144416:=0
def tw14747076885074942981:=0
def tw5573860754037192341:=0
def tw3358988054906759505:=0
def tw1031127279383449626:=0
def tw15328306930052715170:=0
def tw15934569520561712616:=0
def tw1913389714407620116:=0
def tw13968164370871539593:=0
def tw255809986726551662:=0
def tw5255756162249567886:=0
def tw16643411911786915867:=0
def tw6480809822366022917:=0
def tw14071034830958953453:=0
def tw12910085151454119628:=0
def tw14214414890989361720:=0
def tw12224564694535496044:=0
def tw7400868584883832458:=0
def tw2433944790333590419:=0
def tw1805996329599616437:=0
def tw1476228985804773309:=0
def tw10159529819376263518:=0
def tw8810685095015944367:=0
def tw9456780909129727524:=0
def tw9131499313152368929:=0
def tw16133476505099967591:=0
def tw14462506592940243955:=0
def tw820782997271779003:=0
def tw12066387214159130517:=0
def tw4599548222735698538:=0
def tw766469168560241457:=0
def tw17510587254062602614:=0
def tw6806082545879407924:=0
def tw10879625587777128263:=0
def tw1075815342408693753:=0
def tw3565324237328027267:=0
def tw10866333328482460817:=0
def tw4720487019654556505:=0
def tw2011452585131531572:=0
def tw17110133447306936802:=0
def tw13829135525485535566:=0
def tw16210245535656377797:=0
def tw6101380889338555125:=0
def tw14071893726076910413:=0
def tw15459333254076604759:=0
def tw3106833660517037282:=0
def tw1315702071367137503:=0
def tw6925175351321456916:=0
def tw9056113088621150078:=0
def tw4461810926685723492:=0
def tw8665773012381365817:=0
def tw15747752085904181507:=0
def tw7891195809296573900:=0
def tw5834912378675459833:=0
def tw15742271482745519350:=0
def tw10013916229835164895:=0
def tw14076768727437586200:=0
def tw15496371980981387912:=0
def tw13813497134939106459:=0
def tw9118007706462640251:=0
def tw2949101430185147080:=0
def tw12684298913129233704:=0
def tw16270718013814251181:=0
def tw2033956766284224671:=0
def tw16540349102845283645:=0
def tw8962573311915266719:=0
def tw9377391545768830672:=0
def tw1628197275006945002:=0
def tw15575395834190837487:=0
def tw8025433046622452459:=0
def tw5554351009535685241:=0
def tw9165312420379548726:=0
def tw13902696997312462627:=0
def tw14925442267193760380:=0
def tw10255101015086977676:=0
def tw3747531622043119960:=0
def tw18190519252873837718:=0
def tw12388294287242854668:=0
def tw10502454092020100061:=0
def tw16306662571074832190:=0
def tw7296361354226408423:=0
def tw2430199657592753070:=0
def tw17848045829420522126:=0
def tw14844708247948263508:=0
def tw5520161544348595468:=0
def tw1283026895403018256:=0
def tw13638521987105908118:=0
def tw15283340091418069952:=0
def tw3861154978781309996:=0
def tw9880196391455454609:=0
def tw6090484995593507150:=0
def tw14176075202032505102:=0
def tw15115734252206321253:=0
def tw9965778779972302307:=0
def tw9104078233504685348:=0
def tw6045287197911686174:=0
def tw54619135587323387:=0
def tw1351214405269612379:=0
def tw18140278992926369895:=0
def tw3297159004113258089:=0
def tw17043779104703863779:=0
def tw14730271862172296101:=0
def tw14884184597574516222:=0
def tw16407178605291147451:=0
def tw10383174329665425263:=0
def tw18205532336915154562:=0
def tw14680525137194615688:=0
def tw4004971459530604542:=0
def tw10160952761504323739:=0
def tw606443603381753433:=0
def tw9572371148800698040:=0
def tw8526706236916748385:=0
def tw14611104003973551425:=0
def tw17232494135097919695:=0
def tw10308449995653176540:=0
def tw7958937982540621151:=0
def tw11619532492223637697:=0
def tw17708871732877744770:=0
def tw9160986798659790258:=0
def tw14519245477154309138:=0
def tw6061265909374656327:=0
def tw16288137784056247016:=0
def tw15902231363860568585:=0
def tw11431975882517231992:=0
def tw16302504049460356032:=0
def tw13416748169617326416:=0
def tw10472006388351525696:=0
def tw3204045906162437375:=0
def tw2711694127708890100:=0
def tw18203138143425836880:=0
def tw1957508406509732801:=0
def tw5980830071425161409:=0
def tw5277128992716927701:=0
def tw4238921055148807948:=0
def tw12158481545942998195:=0
def tw17714128767899686230:=0
def tw4033861162755754184:=0
def tw7789672654363402193:=0
def tw4749861749330498792:=0
def tw17370662871228621692:=0
def tw11996122477460530464:=0
def tw3091552149596515379:=0
def tw8064329463135848948:=0
def tw8563345251036525537:=0
def tw16138901150920130701:=0
def tw12654703860317266442:=0
def tw9051258634098025071:=0
def tw15375315545814747824:=0
def tw7468518666167291879:=0
def tw3825523968774448107:=0
def tw15219704297634201336:=0
def tw4246121051688074450:=0
def tw18159338051384200582:=0
def tw5892191008617056194:=0
def tw9250358765600895607:=0
def tw1799566191473476733:=0
def tw16897283463042539126:=0
def tw17350974708166094985:=0
def tw17344300389836997149:=0
def tw324533246750385807:=0
def tw2858667060684336713:=0
def tw15151906869027466467:=0
def tw2519447543128883835:=0
def tw16571701223638834580:=0
def tw16463598200939706457:=0
def tw16313673974615449142:=0
def tw7209646158041548254:=0
def tw16560620936506484992:=0
def tw11068830740058981751:=0
def tw13729606187096821462:=0
def tw8108039234007409826:=0
def tw10761746033536923643:=0
def tw8568735835022562018:=0
def tw18189185005167341581:=0
def tw11783898124917117823:=0
def tw9352480642907130762:=0
def tw191895106997188171:=0
def tw11297895698756331423:=0
def tw7132358246410038194:=0
def tw9879180897311870840:=0
def tw6523417108219852491:=0
def tw17147138811575878759:=0
def tw16230143339328686146:=0
def tw10395638899245603244:=0
def tw12052779792106164269:=0
def tw2470392894283325167:=0
def tw14387045611794448975:=0
def tw6656013226405002547:=0
def tw5207930137334891653:=0
def tw3776910791457339260:=0
def tw14466058610327579254:=0
def tw13305145964944477009:=0
def tw4528125827281380454:=0
def tw7811620933768876998:=0
def tw13853657280796793529:=0
def tw6396407308320580051:=0
def tw13759690097600008184:=0
def tw5779346322178086006:=0
def tw16861124898819998916:=0
def tw5799426393726164365:=0
def tw7093189648391066827:=0
def tw4441110909837782061:=0
def tw2391101336555125339:=0
def tw10126097601081613176:=0
def tw16907337923603439488:=0
def tw3468913691976542678:=0
def tw9785829303154990813:=0
def tw2920822675572153924:=0
def tw4860228628313073350:=0
def tw8664193488808045965:=0
def tw12787610258984985295:=0
def tw14768721992066138856:=0
def tw10990051573498739054:=0
def tw17358136218697444004:=0
def tw11815155092052712667:=0
def tw9342061681411137851:=0
def tw13028995429010500394:=0
def tw9832189294519392507:=0
def tw7239473456870283852:=0
def tw14652221114319575526:=0
def tw12686437167709656743:=0
def tw5337222860006260969:=0
def tw8598352015851748298:=0
def tw11056457617348225104:=0
def tw7659934298937326188:=0
def tw3289174128993656908:=0
def tw6657234409384413971:=0
def tw5234985305054071466:=0
def tw4719937948099952256:=0
def tw5713760485345656778:=0
def tw14413225454417930821:=0
def tw6516188065707465838:=0
def tw3771007415994642031:=0
def tw88003935641807960:=0
def tw10782558295753217533:=0
def tw9180603817522954352:=0
def tw10652175990302789874:=0
def tw12307786991757746113:=0
def tw13982713710583949949:=0
def tw5170222891679537236:=0
def tw7857985776524658936:=0
def tw5941530000245047079:=0
def tw3434602441904991375:=0
def tw4117187479834981797:=0
end PySem.W.Fast
open PySem PySem.W PyProof.Rows
set_option maxRecDepth 100000 in
set_option maxHeartbeats 0 in
theorem PySem.Challenge.cw_panelplace_k26_lists_are_copies_holds : PySem.Challenge.rw_panelplace_k26_lists_are_copies.Holds := by
 w_on;o_law;k_head;(case hw=>w_witness2)
 k_fill
 refine Pp.walk (l:=PySem.Challenge.rw_panelplace_k26_lists_are_copies) rfl rfl (fun w h Y=>PySem.W.km_in_of Y) ⟨_,rfl⟩ ?F
 case F =>
  intro w mg fa h KX G hmg
  refine' Pp.all_mk KX G hmg ?oa_Sheet ?a0 ?a1 ?a2 ?a3 ?a4 ?a5 ?a6 ?a7 ?a8 ?a9 ?a10 ?a11 ?a12 ?a13 ?a14 ?a15 ?a16 ?a17 ?a18 ?a19 ?a20 ?a21 ?a22 ?a23 ?a24 ?a25 ?a26 ?a27 ?a28 ?a29 ?a30 ?a31 ?a32 ?a33 ?a34 ?a35 ?a36 ?a37 ?a38 ?a39 ?a40 ?a41 ?a42 ?a43 ?a44 ?a45 ?a46 ?a47 ?a48 ?a49 ?a50 ?a51 ?a52 ?a53 ?a54 ?a55 ?a56 ?a57 ?a58 ?a59 ?a60 ?a61 ?a62 ?a63 ?a64 ?a65 ?a66 ?a67 ?a68 ?a69 ?a70 ?l70 ?c70 ?k70 ?qe ?qk ?qv ?qh ?qn ?a71 ?a72 ?a73 ?a74 ?a75 ?a76 ?a77 ?a78 ?l78 ?c78 ?k78 ?z0 ?z1 ?z2 ?z3 ?z4 ?z5 ?z6 ?z7 ?z8 ?z9 ?z10 ?z11 ?z12 ?z13 ?z14 ?y0 ?y1 ?y2 ?y3 ?y4 ?xa1 ?xa2 ?xa3 ?xa4 ?xa5 ?xa6 ?xa7 ?xa8 ?xa9 ?xa11 ?xe1 ?xe2 ?xe3 ?xe4 ?xe5 ?xe6 ?xe7 ?xe8 ?xe9 ?xe11 ?opg_Sheet ?ohd_Sheet ?opo_Sheet ?osa_Sheet ?omk_Sheet ?okc_Sheet ?on_Sheet_standing ?on_Sheet_struck_so_far ?on_Sheet_panel ?on_Sheet_card_by_judge ?on_Sheet_taken_so_far ?on_Sheet_sealed
  case oa_Sheet=>k_is
  (case a0|a1|a2|a4|a5|a6|a7|a49=>exact L2.dm (by k_is) (by k_is) (by k_is) (by k_is) (by k_is) (fun _ _ _ _ _ _=>L2.onS fun _=>L2.on0 rfl))
  (case a3|a33|a34=>exact L2.dm (by k_is) (by k_is) (by k_is) (by k_is) (by k_is) (fun _ _ _ _ _ _=>L2.onS fun _=>L2.onS fun _=>L2.on0 rfl))
  (case a8|a9|a10|a11|a14|a17|a19|a20|a21|a22|a23|a24|a25|a26|a28|a30|a31|a37|a38|a39|a41|a42|a43|a44|a46|a51|a52|a53|a54|a55|a57|a58|a62|a63|a65|a67|a71|a72=>exact L2.df (by k_is) (by k_is) (by k_is) (by k_is) (fun _ _ _ _ _ _=>L2.onS fun _=>L2.onS fun _=>L2.on0 rfl))
  (case a12|a13|a15|a16|a18|a29|a35|a36|a40|a50|a64|a68|a69|a73|a74|a75=>exact L2.df (by k_is) (by k_is) (by k_is) (by k_is) (fun _ _ _ _ _ _=>L2.onS fun _=>L2.on0 rfl))
  (case a27|a45|a47|a59|a61|a66=>exact L2.df (by k_is) (by k_is) (by k_is) (by k_is) (fun _ _ _ _ _ _=>L2.onS fun _=>L2.onS fun _=>L2.onS fun _=>L2.on0 rfl))
  (case a32|a56=>exact L2.dm (by k_is) (by k_is) (by k_is) (by k_is) (by k_is) (fun _ _ _ _ _ _=>L2.onS fun _=>L2.onS fun _=>L2.onS fun _=>L2.on0 rfl))
  (case a48|a76|a77=>exact L2.df (by k_is) (by k_is) (by k_is) (by k_is) (fun _ _ _ _ _ _=>L2.onS fun _=>L2.onS fun _=>L2.onS fun _=>L2.onS fun _=>L2.on0 rfl))
  (case a60=>exact L2.df (by k_is) (by k_is) (by k_is) (by k_is) (fun _ _ _ _ _ _=>L2.onS fun _=>L2.onS fun _=>L2.onS fun _=>L2.onS fun _=>L2.onS fun _=>L2.onS fun _=>L2.onS fun _=>L2.on0 rfl))
  (case a70|l70|c70|k70=>k_is)
  (case qe=>exact rfl)
  case qk=>k_is
  (case qv=>exact rfl)
  (case qh|qn=>kernel_rfl)
  (case a78|l78|c78|k78|z0|z1|z2|z3|z4|z5|z6|z7|z8|z9|z10|z11|z12|z13|z14|y0|y1|y2|y3|y4|xa1|xa2|xa3|xa4|xa5|xa6|xa7|xa8|xa9|xa11=>k_is)
  (case xe1|xe2|xe3|xe4|xe5|xe6|xe7|xe8|xe9|xe11=>kernel_rfl)
  (case opg_Sheet|ohd_Sheet|opo_Sheet|osa_Sheet|omk_Sheet|okc_Sheet|on_Sheet_standing|on_Sheet_struck_so_far|on_Sheet_panel|on_Sheet_card_by_judge|on_Sheet_taken_so_far|on_Sheet_sealed=>k_is)


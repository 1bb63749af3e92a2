import PyProof.Rows.All
import Wide.All
import OpenK.AllK
import Wide.FinOn
import Lean
import PyProof.EqAt
import PyProof.EqKinds
import PyProof.TupleCall
import PyProof.ListRange
import KE.KSortAsk
import KE.KSortKey
import KE.KSortTup
import KE.KItemsList
import KE.KLam
import KE.KNestM
import PyProof.Rows.StrLen
import PyProof.Rows.Range3
import PyProof.CallStr
import PyProof.StrBlockL
import PyProof.MeetsStr
import PyProof.Rows.StrDigits
import PySem.Challenge.RW_panelplace_k41_whole_struck_as_if_never
open PySem.W (Frag InstAt callWith_K callWith_K0 cellsFrom_some codeIn emptyDict excIn findIn fnOf handedIn hasDictIn hideAll hideAll_get instObj isFn keepIn lookIn makesIn methodCall_KW methodObj mg_none_of mg_of nsIn of_hideAll plainGet plainGet_of plainOver takerIn typeIn)
open List (all_cons all_eq_true all_map any_cons append_assoc append_nil cons_append cons_lt_cons_iff drop_eq_getElem_cons drop_nil drop_of_length_le ext_getElem filter filterMap filterMap_nil filter_append filter_congr filter_cons filter_cons_of_neg filter_cons_of_pos filter_filter filter_map filter_nil find?_cons findIdx_cons flatMap flatMap_append foldl_cons forIn_cons forIn_nil forIn_toArray getD_eq_getElem?_getD getElem?_eq_getElem getElem?_map getElem?_range getElem_map getElem_mem getElem_range idxOf_lt_length_of_mem length_append length_cons length_drop length_filter_le length_map length_nil length_pos_of_mem length_singleton length_tail length_take length_zip lookup_cons map_append map_congr_left map_cons map_drop map_map map_nil map_set map_take mem_append mem_append_left mem_append_right mem_cons mem_cons_of_mem mem_cons_self mem_of_getElem? nodup_append not_mem_nil of_mem_zip pairwise_lt_range push_toArray range' range_succ range_succ_eq_map replicate size_toArray take_append_drop take_length take_nil take_of_length_le take_succ take_zero)
open PyProof.Rows (boot_all boot_bool boot_int boot_isinstance boot_list boot_max boot_min boot_set boot_str boot_sum boot_tuple callWith_builtin1 callWith_type1 len_str_of_int)
open Nat (le_add_right le_of_eq le_of_lt le_refl le_succ le_trans lt_irrefl lt_of_lt_of_le lt_succ_of_lt lt_succ_self lt_trans mul_le_mul ne_of_gt ne_of_lt zero_le)
open PySem.Heap (SameBut get?_push_of_some get?_push_size get?_update_other lt_size size_push size_update)
noncomputable section
set_option Elab.async false
set_option linter.all false
set_option maxRecDepth 100000
namespace L2
open PySem PySem.Spec PyProof.Rows
abbrev Key:=Sum Int Str
def zgB:Key→Value→Bool
 | .inl k,v=>Value.isInt k v
 | .inr x,v=>Value.isStrOf x v
def keyH(w:World):Key→Int
 | .inl k=>hashInt k
 | .inr x=>hashStr w x
theorem yN:∀{k:Key}{v:Value},zgB k v=true→(∃i t,k=Sum.inl i∧v=Value.int i t)∨(∃x t,k=Sum.inr x∧v=Value.str x t)
 | .inl i,v,h=>by
   obtain⟨t,e⟩:=Value.isInt_shape (k:=i) (v:=v) h
   exact .inl ⟨i,t,rfl,e⟩
 | .inr x,v,h=>by
   obtain⟨t,e⟩:=Value.isStrOf_shape (x:=x) (v:=v) h
   exact .inr ⟨x,t,rfl,e⟩
theorem keyIs_int(i:Int)(t:Tok):zgB (.inl i) (.int i t)=true:=by simp[zgB,Value.isInt]
theorem keyIs_str(x:Str)(t:Tok):zgB (.inr x) (.str x t)=true:=by simp[zgB,Value.isStrOf]
theorem key_ll(a b:Int):decide ((Sum.inl a:Key)=Sum.inl b)=(a==b):=by
 by_cases e:a=b
 ·subst e;simp
 ·have h:¬(Sum.inl a:Key)=Sum.inl b:=fun q=>e (Sum.inl.inj q)
  rw[decide_eq_false h]
  exact(beq_eq_false_iff_ne.mpr e).symm
theorem key_rr(a b:Str):decide ((Sum.inr a:Key)=Sum.inr b)=decide (a=b):=by
 by_cases e:a=b
 ·subst e;simp
 ·have h:¬(Sum.inr a:Key)=Sum.inr b:=fun q=>e (Sum.inr.inj q)
  rw[decide_eq_false h,decide_eq_false e]
theorem key_lr(a:Int)(b:Str):decide ((Sum.inl a:Key)=Sum.inr b)=false:=decide_eq_false (fun q=>nomatch q)
theorem key_rl(a:Str)(b:Int):decide ((Sum.inr a:Key)=Sum.inl b)=false:=decide_eq_false (fun q=>nomatch q)
def zae(prog:Program)(w:World):PySem.KeyKind prog w Key where
 is:=zgB
 hash:=keyH w
 inj:=fun v a b ha hb=>by
  rcases yN ha with⟨i,t,rfl,rfl⟩|⟨x,t,rfl,rfl⟩
  ·rcases yN hb with⟨j,u,rfl,e⟩|⟨y,u,rfl,e⟩
   ·injection e with e1 _;rw[e1]
   ·exact nomatch e
  ·rcases yN hb with⟨j,u,rfl,e⟩|⟨y,u,rfl,e⟩
   ·exact nomatch e
   ·injection e with e1 _;rw[e1]
 byValue:=fun k v h=>by
  rcases yN h with⟨i,t,rfl,rfl⟩|⟨x,t,rfl,rfl⟩ <;> rfl
 pyHash:=fun hv h=>by
  rcases yN hv with⟨i,t,rfl,rfl⟩|⟨x,t,rfl,rfl⟩
  ·exact wpAny_pyHash_int h
  ·exact wpAny_pyHash_str h
 eqBool:=fun hu hv h=>by
  rcases yN hu with⟨i,t,rfl,rfl⟩|⟨x,t,rfl,rfl⟩
  ·rcases yN hv with⟨j,u,rfl,rfl⟩|⟨y,u,rfl,rfl⟩
   ·rw[key_ll] at h;exact wpAny_eqBool_int h
   ·rw[key_lr] at h;exact SeqAt.EqAt.int_str i t y u _ _ _ _ h
  ·rcases yN hv with⟨j,u,rfl,rfl⟩|⟨y,u,rfl,rfl⟩
   ·rw[key_rl] at h;exact SeqAt.EqAt.str_int x t j u _ _ _ _ h
   ·rw[key_rr] at h;exact wpAny_eqBool_str h
 «strs» := fun k x t v h=>by
  rcases yN h with⟨i,u,rfl,e⟩|⟨y,u,rfl,e⟩
  ·exact nomatch e
  ·injection e with e1 _
   subst e1
   cases v <;> rfl
theorem zhX(prog:Program)(w:World)(i:Int)(t:Tok):(zae prog w).is (.inl i) (.int i t)=true:=keyIs_int i t
theorem zit(prog:Program)(w:World)(x:Str)(t:Tok):(zae prog w).is (.inr x) (.str x t)=true:=keyIs_str x t
inductive V where
 | non | bl (b:Bool) | int (i:Int) | str (x:Str) | byt (b:Array UInt8) | flt (b:UInt64) | ref (a:Addr) | ty (n:String)
 deriving DecidableEq
def zS:V→Value→Prop
 | .non,u=>u=Value.none
 | .bl b,u=>u=Value.bool b
 | .int i,u=>∃t,u=Value.int i t
 | .str x,u=>∃t,u=Value.str x t
 | .byt b,u=>∃t,u=Value.bytes b t
 | .flt b,u=>∃t,u=Value.float b t
 | .ref a,u=>u=Value.ref a
 | .ty n,u=>u=Value.type n
abbrev zF:List V→List Value→Prop:=Paired zS
theorem zF.length{xs:List V}{us:List Value}(r:zF xs us):xs.length=us.length:=Paired.length r
theorem zF.get:∀{xs:List V}{us:List Value}{i:Nat}{x:V},zF xs us→xs[i]? = some x→∃u,us[i]? = some u∧zS x u
 | _,_,_,_,.nil,e=>by simp at e
 | _,_,0,_,.cons r _,e=>by simp at e;subst e;exact⟨_,rfl,r⟩
 | _,_,i+1,x,.cons _ t,e=>by
   obtain⟨u,h1,h2⟩:=zF.get (i:=i) (x:=x) t (by simpa using e)
   exact⟨u,by simpa using h1,h2⟩
theorem zF.set{x:V}{u:Value}(r:zS x u):∀{xs:List V}{us:List Value}(i:Nat),zF xs us→zF (xs.set i x) (us.set i u)
 | _,_,_,.nil=>.nil
 | _,_,0,.cons _ t=>.cons r t
 | _,_,i+1,.cons q t=>.cons q (zF.set r i t)
theorem zF.append:∀{xs ys:List V}{us ws:List Value},zF xs us→zF ys ws→zF (xs++ys) (us++ws)
 | _,_,_,_,.nil,s=>s
 | _,_,_,_,.cons r t,s=>.cons r (zF.append t s)
theorem zF.take:∀{xs:List V}{us:List Value}(n:Nat),zF xs us→zF (xs.take n) (us.take n)
 | _,_,0,_=>.nil
 | _,_,_+1,.nil=>.nil
 | _,_,n+1,.cons r t=>.cons r (zF.take n t)
theorem zF.drop:∀{xs:List V}{us:List Value}(n:Nat),zF xs us→zF (xs.drop n) (us.drop n)
 | _,_,0,r=>r
 | _,_,_+1,.nil=>.nil
 | _,_,n+1,.cons _ t=>zF.drop n t
def zdF:Option V→Option Value→Prop
 | some v,some u=>zS v u
 | none,none=>True
 | _,_=>False
def KV{κ:Type}:List (κ×V)→List (κ×Value)→Prop:=Paired fun(p:κ×V) (q:κ×Value)=>p.1=q.1∧zS p.2 q.2
def kV:Key→V
 | .inl i=>.int i
 | .inr x=>.str x
inductive HO where
 /-- a list -/
 | lst (xs:List V)
 /-- a tuple (never changes) -/
 | tup (xs:List V)
 /-- a dict whose keys are ints and texts;one whose keys are tuples of ints and texts (the empty one is both) -/
 | dK (kvs:List (Key×V)) | dT (kvs:List (List Key×V))
 /-- a set of ints: its members,its size -/
 | set (S:Int→Bool) (n:Nat)
 /-- an instance of the class at C,its dict at dx,its attributes -/
 | ins (C dx:Addr) (fs:List (Str×V))
 /-- the dict of the instance at x -/
 | own (x:Addr)
 /-- the dict of an exception -/
 | xd (fs:List (Str×V))
 /-- a bound method,f of x -/
 | met (f x:Addr)
 /-- a range object lo,lo+1,.. zdG hi -/
 | rng (lo hi:Int)
 /-- a thing that is known to the object (the script;a dict while a loop walks it): read,never written while it is so -/
 | frz (o:Obj) (u:HO)
 /-- a code object's table -/
 | tbl (ps:Array Value)
 /-- any other thing,by what is true of its one object (a def of one's own: SetO a S n:=HO.ext fun h => ..) -/
 | ext (φ:Heap→Prop)
abbrev Hp:=Addr→Option HO
def upd(H:Hp)(a:Addr)(o:HO):Hp:=fun b=>if b=a then some o else H b
theorem ze{H:Hp}{a:Addr}{o:HO}:upd H a o a=some o:=by unfold upd;rw[if_pos rfl]
theorem zl{H:Hp}{a b:Addr}{o:HO}(h:b≠a):upd H a o b=H b:=by unfold upd;rw[if_neg h]
theorem upd_upd{H:Hp}{a:Addr}{o u:HO}:upd (upd H a o) a u=upd H a u:=by
 funext b;unfold upd;split <;> rfl
theorem wR{H:Hp}{a b:Addr}{o u:HO}(h:H a=some o)(h':H b=some u)(d:o≠u):a≠b:=by
 intro e;subst e;rw[h] at h';exact d (Option.some.inj h')
theorem zr{H:Hp}{a b:Addr}{o:HO}(h:H a=some o)(h':H b=none):a≠b:=by
 intro e;subst e;rw[h] at h';cases h'
section
variable (P:Program)(w:World)
def wf(H:Hp)(h:Heap)(a:Addr):HO→Prop
 | .lst xs=>xs.length≤sizeLine∧∃(its:List Value)(n:Nat),zF xs its∧h.get? a=some { cls:=.type "list",data:=.seq its.toArray n }
 | .tup xs=>xs.length≤sizeLine∧∃its:List Value,zF xs its∧IsTup h a its.toArray
 | .dK kvs=>kvs.length≤sizeLine∧(a==sysModules)=false∧∃vs,KV kvs vs∧h.DictOf (zae P w) a vs
 | .dT kvs=>kvs.length≤sizeLine∧(a==sysModules)=false∧∃xs:List (List Key×Addr×Value),
    Paired (fun(p:List Key×V) (q:List Key×Addr×Value)=>p.1=q.1∧H q.2.1=some (.tup (p.1.map kV))∧zS p.2 q.2.2) kvs xs ∧
    ∃o es ep,h.get? a=some o∧o.ExactDict∧o.data=.dict es ep∧es.toList=xs.map (entryOfKey (tupleKind (zae P w)))∧(xs.map (·.1)).Nodup
 | .set S n=>h.SetOf (intKind P w) a S n
 | .ins C dx fs=>H dx=some (.own a)∧fs.length≤1000∧dx≠a∧h.get? a=some (instObj C dx) ∧
    ∃mA,h.Ns1 dx mA∧(∀f,zdF (fs.lookup f) (mA f))∧PySem.Within mA (fs.map (·.1))
 | .own _=>∃o,h.get? a=some o
 | .xd fs=>∃mA,h.Ns1 a mA∧∀f,zdF (fs.lookup f) (mA f)
 | .rng lo hi=>∃t u v,h.get? a=some { cls:=.type "range",data:=.fields #[.int lo t,.int hi u,.int 1 v] }
 | .frz o u=>h.get? a=some o∧wf H h a u
 | .tbl ps=>h.get? a=some { cls:=.none,data:=.fields ps }
 | .met f x=>h.get? a=some (methodObj (.ref f) (.ref x))
 | .ext φ=>φ h∧(∃o,h.get? a=some o)∧∀h1 h2:Heap,φ h1→(∀o,h1.get? a=some o→h2.get? a=some o)→φ h2
def HOk(H:Hp)(h:Heap):Prop:=∀a o,H a=some o→wf P w H h a o
end
section
variable {P:Program}{w:World}{H H':Hp}{h h':Heap}{a:Addr}{o:HO}
theorem wf.lt(x:wf P w H h a o):a<h.objs.size:=by
 cases o with
 | lst xs=>obtain⟨_,_,_,_,e⟩:=x;exact lt_size e
 | tup xs=>obtain⟨_,_,_,p⟩:=x;exact p.lt
 | dK kvs=>obtain⟨_,_,_,_,o,_,_,e,_⟩:=x;exact lt_size e
 | dT kvs=>obtain⟨_,_,_,_,o,_,_,e,_⟩:=x;exact lt_size e
 | set S n=>obtain⟨o,_,_,_,e,_⟩:=x;exact lt_size e
 | ins C dx fs=>obtain⟨_,_,_,e,_⟩:=x;exact lt_size e
 | own y=>obtain⟨_,e⟩:=x;exact lt_size e
 | xd fs=>obtain⟨_,⟨_,_,_,e,_⟩,_⟩:=x;exact lt_size e
 | rng lo hi=>obtain⟨_,_,_,e⟩:=x;exact lt_size e
 | frz ob u=>obtain⟨e,_⟩:=x;exact lt_size e
 | tbl ps=>exact lt_size (show h.get? a=some _ from x)
 | met f y=>exact lt_size (show h.get? a=some _ from x)
 | ext φ=>obtain⟨_,⟨_,e⟩,_⟩:=x;exact lt_size e
theorem Paired.mapP{α β:Type}{F G:α→β→Prop}:∀{l₁:List α}{l₂:List β},Paired F l₁ l₂→(∀a b,F a b→G a b)→Paired G l₁ l₂
 | _,_,.nil,_=>.nil
 | _,_,.cons r t,f=>.cons (f _ _ r) (Paired.mapP t f)
theorem wf.stay(x:wf P w H h a o)(k:∀b u,(b=a∨H b=some (.own a))→h.get? b=some u→h'.get? b=some u)
 (ho:∀b,H b=some (.own a)→H' b=some (.own a)) (ht:∀b xs,H b=some (.tup xs)→H' b=some (.tup xs)):wf P w H' h' a o:=by
 induction o with
 | lst xs=>obtain⟨z,its,n,r,e⟩:=x;exact⟨z,its,n,r,k _ _ (.inl rfl) e⟩
 | tup xs=>obtain⟨z,its,r,ob,e,c⟩:=x;exact⟨z,its,r,ob,k _ _ (.inl rfl) e,c⟩
 | dK kvs=>obtain⟨z,y,vs,r,ob,es,ep,e,c⟩:=x;exact⟨z,y,vs,r,ob,es,ep,k _ _ (.inl rfl) e,c⟩
 | dT kvs =>
   obtain⟨z,y,xs,r,ob,es,ep,e,c⟩:=x
   exact⟨z,y,xs,Paired.mapP r fun p q z=>⟨z.1,ht _ _ z.2.1,z.2.2⟩,ob,es,ep,k _ _ (.inl rfl) e,c⟩
 | set S n=>obtain⟨ob,es,ep,t,e,c⟩:=x;exact⟨ob,es,ep,t,k _ _ (.inl rfl) e,c⟩
 | ins C dx fs =>
   obtain⟨d,z,ne,e,mA,⟨od,es,ep,e2,c⟩,r⟩:=x
   exact⟨ho _ d,z,ne,k _ _ (.inl rfl) e,mA,⟨od,es,ep,k _ _ (.inr d) e2,c⟩,r⟩
 | own y=>obtain⟨ob,e⟩:=x;exact⟨ob,k _ _ (.inl rfl) e⟩
 | xd fs=>obtain⟨mA,⟨od,es,ep,e,c⟩,r⟩:=x;exact⟨mA,⟨od,es,ep,k _ _ (.inl rfl) e,c⟩,r⟩
 | rng lo hi=>obtain⟨t,u,v,e⟩:=x;exact⟨t,u,v,k _ _ (.inl rfl) e⟩
 | frz ob u ih=>obtain⟨e,q⟩:=x;exact⟨k _ _ (.inl rfl) e,ih q⟩
 | tbl ps =>
   have e:h.get? a=some { cls:=.none,data:=.fields ps }:=x
   show h'.get? a=some { cls:=.none,data:=.fields ps }
   exact k a _ (.inl rfl) e
 | met f y =>
   have e:h.get? a=some (methodObj (.ref f) (.ref y)):=x
   show h'.get? a=some (methodObj (.ref f) (.ref y))
   exact k a _ (.inl rfl) e
 | ext φ=>obtain⟨p,⟨o,e⟩,st⟩:=x;exact⟨st _ _ p fun o q=>k _ _ (.inl rfl) q,⟨o,k _ _ (.inl rfl) e⟩,st⟩
theorem HOk.lt(x:HOk P w H h)(e:H a=some o):a<h.objs.size:=(x a o e).lt
theorem HOk.fresh(x:HOk P w H h)(e:h.objs.size≤a):H a=none:=by
 cases q:H a with
 | none=>rfl
 | some u=>exact absurd (lt_of_lt_of_le (x.lt q) e) (lt_irrefl _)
theorem HOk.kept(x:HOk P w H h)(k:∀b u,h.get? b=some u→h'.get? b=some u):HOk P w H h':=fun a o e =>
 (x a o e).stay (fun b u _ q=>k b u q) (fun _ q=>q) fun _ _ q=>q
theorem HOk.laid(x:HOk P w H h)(k:∀b u,h.get? b=some u→h'.get? b=some u)(hp:h.objs.size≤a)(new:wf P w (upd H a o) h' a o):HOk P w (upd H a o) h':=fun b u e=>by
 have hn:=x.fresh hp
 by_cases hb:b=a
 ·subst hb;rw[ze] at e;cases e;exact new
 ·rw[zl hb] at e
  exact(x b u e).stay (fun c v _ q=>k c v q) (fun c q=>by rw[zl (zr q hn)];exact q) fun c xs q=>by rw[zl (zr q hn)];exact q
end
def Rd(H:Hp)(a:Addr)(u:HO):Prop:=H a=some u∨∃o,H a=some (.frz o u)
theorem Rd.of{H:Hp}{a:Addr}{u:HO}(h:H a=some u):Rd H a u:=.inl h
theorem Rd.ok{P:Program}{w:World}{H:Hp}{h:Heap}{a:Addr}{u:HO}(r:Rd H a u)(x:HOk P w H h):wf P w H h a u:=by
 rcases r with r | ⟨o,r⟩
 ·exact x a u r
 ·obtain⟨_,q⟩:=x a _ r
  exact q
def Mut:Option HO→Prop
 | some (.lst _)=>True
 | some (.dK _)=>True
 | some (.dT _)=>True
 | some (.set _ _)=>True
 | some (.ins _ _ _)=>True
 | some (.ext _)=>True
 | _=>False
section
variable {P:Program}{w:World}{H:Hp}{h h':Heap}{x e:Addr}{o':HO}
theorem HOk.write(ok:HOk P w H h)(mu:Mut (H x))(he:e=x∨H e=some (.own x))(k:∀b u,b≠e→h.get? b=some u→h'.get? b=some u)(heo:∃u,h'.get? e=some u)
 (new:wf P w (upd H x o') h' x o'):HOk P w (upd H x o') h':=fun b u q=>by
 have nown:∀c y,H c=some (.own y)→c≠x:=fun c y r z=>by subst z;rw[r] at mu;exact mu
 have ntup:∀c xs,H c=some (.tup xs)→c≠x:=fun c xs r z=>by subst z;rw[r] at mu;exact mu
 by_cases hb:b=x
 ·subst hb;rw[ze] at q;cases q;exact new
 ·rw[zl hb] at q
  by_cases hbe:b=e
  ·have q':H b=some (.own x):=by
    rcases he with z | z
    ·exact absurd (hbe.trans z) hb
    ·rw[hbe];exact z
   rw[q] at q';cases q'
   obtain⟨v,hv⟩:=heo
   exact⟨v,by rw[hbe];exact hv⟩
  ·refine(ok b u q).stay (fun c v hc r=>k c v ?_ r) (fun c r=>by rw[zl (nown c b r)];exact r) fun c xs r=>by rw[zl (ntup c xs r)];exact r
   rcases hc with rfl | hc
   ·exact hbe
   ·rintro rfl
    rcases he with z | z
    ·exact nown c b hc z
    ·rw[hc] at z;cases z;exact hb rfl
end
structure Un (fs ex:List Addr) (H H':Hp) (h h':Heap):Prop where
 keep:∀b o,h.get? b=some o→H b=none→b∉fs→b∉ex→h'.get? b=some o
 slot:∀b o,h.get? b=some o→H b=none→b∈fs→b∉ex→∃sl,h'.get? b=some { o with slots:=sl }
 free:∀b o,h.get? b=some o→H b=none→b∉ex→H' b=none
 there:∀b o,h.get? b=some o→b∉ex→∃o',h'.get? b=some o'
 tups:∀b xs,H b=some (.tup xs)→H' b=some (.tup xs)
 frzs:∀b o u,H b=some (.frz o u)→H' b=some (.frz o u)
 tbls:∀b ps,H b=some (.tbl ps)→∃more,H' b=some (.tbl (ps++more))
section
variable {fs fs' ex ex':List Addr}{H H1 H2:Hp}{h h1 h2 h':Heap}{a x e:Addr}{o:HO}
theorem Un.any(u:Un fs ex H H1 h h1){b:Addr}{ob:Obj}(q:h.get? b=some ob)(n:H b=none)(hx:b∉ex):∃sl,h1.get? b=some { ob with slots:=sl }:=by
 by_cases hb:b∈fs
 ·exact u.slot b ob q n hb hx
 ·exact⟨ob.slots,u.keep b ob q n hb hx⟩
theorem Un.trans(a:Un fs ex H H1 h h1)(b:Un fs ex H1 H2 h1 h2):Un fs ex H H2 h h2 where
 keep:=fun c ob q n hc hx=>b.keep c ob (a.keep c ob q n hc hx) (a.free c ob q n hx) hc hx
 slot:=fun c ob q n hc hx=>by
  obtain⟨sl,e1⟩:=a.slot c ob q n hc hx
  obtain⟨sl',e2⟩:=b.slot c _ e1 (a.free c ob q n hx) hc hx
  exact⟨sl',e2⟩
 free:=fun c ob q n hx=>by
  obtain⟨o',e1⟩:=a.there c ob q hx
  exact b.free c o' e1 (a.free c ob q n hx) hx
 there:=fun c ob q hx=>by
  obtain⟨o',e1⟩:=a.there c ob q hx
  exact b.there c o' e1 hx
 tups:=fun c xs q=>b.tups c xs (a.tups c xs q)
 frzs:=fun c ob xs q=>b.frzs c ob xs (a.frzs c ob xs q)
 tbls:=fun c ps q=>by
  obtain⟨m1,e1⟩:=a.tbls c ps q
  obtain⟨m2,e2⟩:=b.tbls c _ e1
  exact⟨m1++m2,by rw[e2,Array.append_assoc]⟩
theorem Un.kept(k:∀b u,h.get? b=some u→h'.get? b=some u):Un fs ex H H h h' :=
 ⟨fun b ob q _ _ _=>k b ob q,fun b ob q _ _ _=>⟨ob.slots,k b ob q⟩,fun _ _ _ n _=>n,fun b ob q _=>⟨ob,k b ob q⟩,fun _ _ q=>q,fun _ _ _ q=>q,fun _ ps q=>⟨#[],by rw[q];simp⟩⟩
theorem Un.refl:Un fs ex H H h h:=Un.kept fun _ _ q=>q
theorem Un.laid(k:∀b u,h.get? b=some u→h'.get? b=some u)(hp:h.objs.size≤a)(hn:H a=none):Un fs ex H (upd H a o) h h' where
 keep:=fun b u q _ _ _=>k b u q
 slot:=fun b u q _ _ _=>⟨u.slots,k b u q⟩
 free:=fun b u q n _=>by rw[zl (ne_of_lt (lt_of_lt_of_le (lt_size q) hp))];exact n
 there:=fun b u q _=>⟨u,k b u q⟩
 tups:=fun b xs q=>by rw[zl (zr q hn)];exact q
 frzs:=fun b u xs q=>by rw[zl (zr q hn)];exact q
 tbls:=fun b ps q=>⟨#[],by rw[zl (zr q hn),q];simp⟩
theorem Un.write(mu:Mut (H x))(he:e=x∨H e=some (.own x))(k:∀b u,b≠e→h.get? b=some u→h'.get? b=some u)(heo:∃u,h'.get? e=some u):Un fs ex H (upd H x o) h h':=by
 have hx:∀b,H b=none→b≠x:=fun b n z=>by subst z;rw[n] at mu;exact mu
 have hb:∀b,H b=none→b≠e:=fun b n z=>by
  subst z
  rcases he with r | r
  ·exact hx b n r
  ·rw[n] at r;cases r
 have hm:∀b u,H b=some u→¬Mut (some u)→b≠x:=fun b u q nm z=>by subst z;rw[q] at mu;exact nm mu
 refine⟨fun b u q n _ _=>k b u (hb b n) q,fun b u q n _ _=>⟨u.slots,k b u (hb b n) q⟩,fun b u q n _=>by rw[zl (hx b n)];exact n,fun b u q _=>?_,
  fun b xs q=>by rw[zl (hm b _ q fun z=>z)];exact q,fun b u xs q=>by rw[zl (hm b _ q fun z=>z)];exact q,fun b ps q=>⟨#[],by rw[zl (hm b _ q fun z=>z),q];simp⟩⟩
 by_cases hbe:b=e
 ·subst hbe;exact heo
 ·exact⟨u,k b u hbe q⟩
end
def trk(h:Heap)(H:Hp):List Addr:=(List.range h.objs.size).filter fun a=>(H a).isSome
def zgp(h:Heap)(H:Hp):Heap:=hideAll h (trk h H)
theorem hidT_size(h:Heap)(H:Hp):(zgp h H).objs.size=h.objs.size:=PySem.W.hideAll_size _ _
theorem hidT_get{h:Heap}{H:Hp}{b:Addr}{o:Obj}(e:h.get? b=some o)(n:H b=none):(zgp h H).get? b=some o :=
 hideAll_get _ e fun hm=>by
  have q:(H b).isSome=true:=(List.mem_filter.mp hm).2
  rw[n] at q;simp at q
theorem of_hidT{h:Heap}{H:Hp}{b:Addr}{o:Obj}(e:(zgp h H).get? b=some o):h.get? b=some o∧H b=none:=by
 have e':h.get? b=some o:=of_hideAll (trk h H) e
 refine⟨e',?_⟩
 cases q:H b with
 | none=>rfl
 | some x =>
   have hm:b∈trk h H:=List.mem_filter.mpr ⟨List.mem_range.mpr (lt_size e'),by simp[q]⟩
   have z:(zgp h H).get? b=none:=PySem.W.hideAll_none (trk h H) hm
   rw[z] at e;cases e
def allNews(g h:Heap)(L:Addr):List (Addr×Obj):=(List.range h.objs.size).filterMap fun a=>if a=L∨(g.get? a).isSome=true then none else(h.get? a).map fun o=>(a,o)
def zdM(g h:Heap)(L d:Addr):List (Addr×Obj):=(allNews g h L).filter fun p=>decide (p.1≠d)
structure Mod (K:Frag) (mg:Str→Option Value) (base:Heap):Prop where
 kin:K.In base
 glob:base.Ns mainGlobals mg
 blt:∃mb,base.Ns builtinsNs mb∧∀x:Str,x≠"__name__"→mb x=bootBuiltins x
 nolimit:base.NoLimit
/-- the context: a def's body (or a comprehension's block) running. base: fixed through the whole law;s₀,H₀: the entry;outer: the frames whose slots others may change (a def's callers);stack: all frames that run;
 ex: iterators that were made zR of the entry and are walked here (a comprehension's);fn: the names whose cells were made at the entry (a def: all;a comprehension's block: its own);calm: not within an except suite;pn: pins that every state bears;xe: what is wanted of an exception that leaves the code -/
structure Cx where
 prog:Program
 w:World
 K:Frag
 mg:Str→Option Value
 base:Heap
 A:Around
 N:List Str
 s₀:Shared
 H₀:Hp
 env:Env
 outer:List Env
 stack:List Env
 ex:List Addr
 fn:Str→Bool
 calm:Bool
 pn:List (Addr×Obj)
 xe:Value→Shared→Prop
def frs(l:List Env):List Addr:=l.filterMap (·.frame)
abbrev Cx.fs(X:Cx):List Addr:=frs X.outer
def Vis(sc:Scope)(x:Str):Prop:=sc.names.lookup x=some .local∨sc.names.lookup x=some .cell∨sc.names.lookup x=some .free
def Loc(sc:Scope)(x:Str):Prop:=sc.names.lookup x=some .local∨sc.names.lookup x=some .cell
def Look(env:Env)(h:Heap)(m:Str→Option Value)(x:Str)(u:Value):Prop :=
 (env.kindOf x=some .local∧m x=some u)∨((env.kindOf x=some .cell∨env.kindOf x=some .free)∧∃c,env.cells.lookup x=some c∧h.IsCell c (some u))
structure Cx.Ok (X:Cx):Prop where
 mod:Mod X.K X.mg X.base
 kind:X.env.scope.kind=.function
 glob:X.env.globals=mainGlobals
 blt:X.env.builtins=builtinsNs
 above:X.s₀.heap.objs.size≤X.env.locals
 inj:∀x y c,X.env.cells.lookup x=some c→X.env.cells.lookup y=some c→x=y
 has:∀x,(X.env.kindOf x=some .cell∨X.env.kindOf x=some .free)→∃c,X.env.cells.lookup x=some c
 cab:∀x c,X.fn x=true→X.env.cells.lookup x=some c→X.s₀.heap.objs.size≤c
 hd:X.calm=true→X.A.handled=none
 frames:X.A.frames=some X.stack
 stk:X.stack=X.outer∨(X.stack=X.env::X.outer∧X.env.frame=some X.env.locals)
 exf:∀b∈X.ex,b≠X.env.locals∧∀x c,X.env.cells.lookup x=some c→c≠b
 bs:∀b o,X.base.get? b=some o→X.s₀.heap.get? b=some o∧X.H₀ b=none
 bsz:X.base.objs.size≤X.s₀.heap.objs.size
 noex:∀b o,X.base.get? b=some o→b∉X.ex
 exfs:∀b∈X.ex,b∉X.fs
 funs:X.s₀.heap.FunFrames X.base X.outer
 frf:∀b∈X.fs,X.H₀ b=none
structure Inv (X:Cx) (pins:List (Addr×Obj)) (σ:List (Option V)) (H:Hp) (s:Shared):Prop where
 ok:X.Ok
 os:s.os=X.s₀.os
 bare:AllBare s.gens
 base:Un X.fs X.ex X.H₀ H X.s₀.heap s.heap
 loc:∃m,s.heap.Ns X.env.locals m∧∀(i:Nat)(x:Str)(v:V),X.N[i]? = some x→σ[i]? = some (some v)→Vis X.env.scope x→∃u,zS v u∧Look X.env s.heap m x u
 cell:∀x c,X.env.cells.lookup x=some c→∃v,s.heap.IsCell c v
 free:H X.env.locals=none
 freeC:∀x c,X.env.cells.lookup x=some c→H c=none
 pin:∀p∈X.pn++pins,s.heap.get? p.1=some p.2∧H p.1=none∧p.1≠X.env.locals∧p.1∉X.fs∧∀v,p.2.data ≠ .cell v
 hok:HOk X.prog X.w H s.heap
 len:σ.length=X.N.length
section
variable {X:Cx}{pins:List (Addr×Obj)}{σ:List (Option V)}{H H':Hp}{s:Shared}{h':Heap}
theorem Cx.Ok.nofr(ok:X.Ok){b:Addr}{o:Obj}(e:X.base.get? b=some o):b∉X.fs:=fun hb=>by
 have:=(ok.funs.mem hb).1
 rw[e] at this;cases this
theorem Inv.bs(I:Inv X pins σ H s):∀b o,X.base.get? b=some o→s.heap.get? b=some o∧H b=none:=fun b o e =>
 ⟨I.base.keep b o (I.ok.bs b o e).1 (I.ok.bs b o e).2 (I.ok.nofr e) (I.ok.noex b o e),I.base.free b o (I.ok.bs b o e).1 (I.ok.bs b o e).2 (I.ok.noex b o e)⟩
theorem Inv.bk(I:Inv X pins σ H s):∀b o,X.base.get? b=some o→s.heap.get? b=some o:=fun b o e=>(I.bs b o e).1
theorem Inv.mod(I:Inv X pins σ H s):Mod X.K X.mg X.base:=I.ok.mod
theorem Inv.kIn(I:Inv X pins σ H s):X.K.In s.heap:=I.ok.mod.kin.keeps I.bk
theorem Inv.lt(I:Inv X pins σ H s):X.env.locals<s.heap.objs.size:=let ⟨_,hn,_⟩:=I.loc;hn.lt
theorem Inv.sz(I:Inv X pins σ H s):X.s₀.heap.objs.size≤s.heap.objs.size:=le_trans I.ok.above (le_of_lt I.lt)
theorem Inv.nofs(I:Inv X pins σ H s){a:Addr}(h:s.heap.objs.size≤a):a∉X.fs:=fun hb=>by
 obtain⟨_,o,ho,_⟩:=I.ok.funs.mem hb
 exact absurd (lt_of_lt_of_le (lt_size ho) (le_trans I.sz h)) (lt_irrefl _)
theorem Inv.cne(I:Inv X pins σ H s):∀x c,X.env.cells.lookup x=some c→c≠X.env.locals:=fun x c e z=>by
 obtain⟨v,o,ho,hd⟩:=I.cell x c e
 obtain⟨m,⟨o',es,ep,ho',hd',_⟩,_⟩:=I.loc
 rw[z,ho'] at ho;cases ho;rw[hd'] at hd;cases hd
theorem Inv.funs(I:Inv X pins σ H s):s.heap.FunFrames X.base X.outer:=by
 have all:∀(l:List Env),(∀b∈frs l,b∈X.fs)→X.s₀.heap.FunFrames X.base l→s.heap.FunFrames X.base l:=by
  intro l
  induction l with
  | nil=>intro _ _;trivial
  | cons env r ih =>
    intro hs hl
    obtain⟨hk,⟨L,o,hf,hn,ho,hd⟩,hr⟩:=hl
    have hL:L∈X.fs:=hs L (by unfold frs;rw[List.filterMap_cons,hf];exact mem_cons_self)
    obtain⟨sl,e⟩:=I.base.slot L o ho (I.ok.frf L hL) hL fun z=>I.ok.exfs L z hL
    exact⟨hk,⟨L,_,hf,hn,e,hd⟩,ih (fun b hb=>hs b (by unfold frs;rw[List.filterMap_cons,hf];exact mem_cons_of_mem _ hb)) hr⟩
 exact all X.outer (fun _ hb=>hb) I.ok.funs
theorem Inv.stack(I:Inv X pins σ H s):s.heap.FunFrames X.base X.stack:=by
 rcases I.ok.stk with e | ⟨e,hf⟩
 ·rw[e];exact I.funs
 ·rw[e]
  obtain⟨m,hn,_⟩:=I.loc
  refine .cons (by rw[I.ok.kind];decide) hf hn ?_ I.funs
  exact Heap.get?_none_of_le (le_trans I.ok.bsz I.ok.above)
theorem Inv.stkSub(I:Inv X pins σ H s):∀b∈frs X.stack,b∈X.env.locals::X.fs:=fun b hb=>by
 rcases I.ok.stk with e | ⟨e,hf⟩
 ·rw[e] at hb;exact mem_cons_of_mem _ hb
 ·rw[e] at hb
  unfold frs at hb
  rw[List.filterMap_cons,hf] at hb
  exact hb
theorem Inv.stkFree(I:Inv X pins σ H s):∀b∈frs X.stack,H b=none:=fun b hb=>by
 rcases List.mem_cons.mp (I.stkSub b hb)with e | hb
 ·rw[e];exact I.free
 ·obtain⟨_,o,ho,_⟩:=I.ok.funs.mem hb
  exact I.base.free b o ho (I.ok.frf b hb) fun z=>I.ok.exfs b z hb
theorem Inv.step{g':Array GenState}{t':Nat}{d':Drawn}{ch:List Addr}(I:Inv X pins σ H s)
 (hch:∀b∈ch,(b∈X.ex∨X.s₀.heap.objs.size≤b)∧b≠X.env.locals∧(∀x c,X.env.cells.lookup x=some c→c≠b)∧∀p∈X.pn++pins,p.1≠b)
 (keep:∀b o,b≠X.env.locals→b∉X.fs→b∉ch→s.heap.get? b=some o→H b=none→h'.get? b=some o)
 (slot:∀b o,b≠X.env.locals→b∈X.fs→b∉ch→s.heap.get? b=some o→H b=none→∃sl,h'.get? b=some { o with slots:=sl }) (free:∀b o,b∉ch→s.heap.get? b=some o→H b=none→H' b=none)
 (there:∀b o,b∉ch→s.heap.get? b=some o→∃o',h'.get? b=some o')
 (tups:∀b xs,H b=some (.tup xs)→H' b=some (.tup xs)) (frzs:∀b o u,H b=some (.frz o u)→H' b=some (.frz o u)) (tbls:∀b ps,H b=some (.tbl ps)→∃more,H' b=some (.tbl (ps++more)))
 (ns:∀m,s.heap.Ns X.env.locals m→h'.Ns X.env.locals m) (hok:HOk X.prog X.w H' h') (hg:AllBare g') :
 Inv X pins σ H' { s with heap:=h',gens:=g',drawn:=d',toks:=t' }:=by
 have neL:∀b o,X.s₀.heap.get? b=some o→b≠X.env.locals:=fun b o e=>ne_of_lt (lt_of_lt_of_le (lt_size e) I.ok.above)
 have neC:∀b o,X.s₀.heap.get? b=some o→b∉X.ex→b∉ch:=fun b o e hx hb=>by
  rcases (hch b hb).1 with z | z
  ·exact hx z
  ·exact absurd (lt_of_lt_of_le (lt_size e) z) (lt_irrefl _)
 have cellK:∀x c,X.env.cells.lookup x=some c→∀v,s.heap.IsCell c v→h'.IsCell c v:=fun x c e v ⟨o,ho,hd⟩=>by
  have nch:c∉ch:=fun z=>(hch c z).2.2.1 x c e rfl
  by_cases hc:c∈X.fs
  ·obtain⟨sl,q⟩:=slot c o (I.cne x c e) hc nch ho (I.freeC x c e)
   exact⟨_,q,hd⟩
  ·exact⟨o,keep c o (I.cne x c e) hc nch ho (I.freeC x c e),hd⟩
 refine⟨I.ok,I.os,hg,⟨fun b o e n hb hx=>?_,fun b o e n hb hx=>?_,fun b o e n hx=>?_,fun b o e hx=>?_,fun b xs e=>tups b xs (I.base.tups b xs e),fun b o xs e=>frzs b o xs (I.base.frzs b o xs e),fun b ps e=>?_⟩,?_,fun x c e=>?_,?_,fun x c e=>?_,fun p hp=>?_,hok,I.len⟩
 ·exact keep b o (neL b o e) hb (neC b o e hx) (I.base.keep b o e n hb hx) (I.base.free b o e n hx)
 ·obtain⟨sl,e1⟩:=I.base.slot b o e n hb hx
  obtain⟨sl',e2⟩:=slot b _ (neL b o e) hb (neC b o e hx) e1 (I.base.free b o e n hx)
  exact⟨sl',e2⟩
 ·obtain⟨o',e1⟩:=I.base.there b o e hx
  exact free b o' (neC b o e hx) e1 (I.base.free b o e n hx)
 ·obtain⟨o',e1⟩:=I.base.there b o e hx
  exact there b o' (neC b o e hx) e1
 ·obtain⟨m1,e1⟩:=I.base.tbls b ps e
  obtain⟨m2,e2⟩:=tbls b _ e1
  exact⟨m1++m2,by rw[e2,Array.append_assoc]⟩
 ·obtain⟨m,hn,hl⟩:=I.loc
  refine⟨m,ns m hn,fun i x v e1 e2 e3=>?_⟩
  obtain⟨u,r,l⟩:=hl i x v e1 e2 e3
  refine⟨u,r,?_⟩
  rcases l with l | ⟨k,c,e,z⟩
  ·exact .inl l
  ·exact .inr ⟨k,c,e,cellK x c e _ z⟩
 ·obtain⟨v,z⟩:=I.cell x c e
  exact⟨v,cellK x c e v z⟩
 ·obtain⟨m,⟨o,_,_,ho,_⟩,_⟩:=I.loc
  exact free _ o (fun z=>(hch _ z).2.1 rfl) ho I.free
 ·obtain⟨v,o,ho,hd⟩:=I.cell x c e
  exact free c o (fun z=>(hch c z).2.2.1 x c e rfl) ho (I.freeC x c e)
 ·obtain⟨e,n,ne,nf,d⟩:=I.pin p hp
  have nch:p.1∉ch:=fun z=>(hch p.1 z).2.2.2 p hp rfl
  exact⟨keep p.1 p.2 ne nf nch e n,free p.1 p.2 nch e n,ne,nf,d⟩
theorem Inv.un{t':Nat}(I:Inv X pins σ H s)(u:Un X.fs [] H H' s.heap h')(hok:HOk X.prog X.w H' h'):Inv X pins σ H' { s with heap:=h',toks:=t' }:=by
 obtain⟨m,⟨o,es,ep,ho,r⟩,_⟩:=id I.loc
 obtain⟨sl,hL⟩:=u.any ho I.free (by simp)
 exact I.step (g':=s.gens) (d':=s.drawn) (ch:=[]) (fun _ z=>nomatch z) (fun b o _ hb _ e n=>u.keep b o e n hb (by simp)) (fun b o _ hb _ e n=>u.slot b o e n hb (by simp)) (fun b o _ e n=>u.free b o e n (by simp)) (fun b o _ e=>u.there b o e (by simp)) u.tups u.frzs u.tbls (fun m' hm=>by
  obtain⟨o',es',ep',ho',r'⟩:=hm
  rw[ho] at ho';cases ho'
  exact⟨_,es',ep',hL,r'⟩) hok I.bare
theorem Inv.call{g':Array GenState}{t':Nat}{d':Drawn}{ch:List Addr}(I:Inv X pins σ H s)(u:Un (frs X.stack) ch H H' s.heap h')(hok:HOk X.prog X.w H' h')(hg:AllBare g')
 (hch:∀b∈ch,(b∈X.ex∨X.s₀.heap.objs.size≤b)∧b≠X.env.locals∧(∀x c,X.env.cells.lookup x=some c→c≠b)∧∀p∈X.pn++pins,p.1≠b) :
 Inv X pins σ H' { s with heap:=h',gens:=g',drawn:=d',toks:=t' }:=by
 obtain⟨m,⟨o,es,ep,ho,r⟩,_⟩:=id I.loc
 obtain⟨sl,hL⟩:=u.any ho I.free fun z=>(hch _ z).2.1 rfl
 exact I.step (ch:=ch) hch (fun b o hL hb hc e n=>u.keep b o e n (fun z=>(List.mem_cons.mp (I.stkSub b z)).elim hL hb) hc) (fun b o _ _ hc e n=>u.any e n hc) (fun b o hc e n=>u.free b o e n hc) (fun b o hc e=>u.there b o e hc) u.tups u.frzs u.tbls (fun m' hm=>by
  obtain⟨o',es',ep',ho',r'⟩:=hm
  rw[ho] at ho';cases ho'
  exact⟨_,es',ep',hL,r'⟩) hok hg
theorem Inv.turned{t':Nat}{it:Addr}(I:Inv X pins σ H s)(k:∀b o,b≠it→s.heap.get? b=some o→h'.get? b=some o)(hn:H it=none)(hL:it≠X.env.locals)
 (h1:it∈X.ex∨X.s₀.heap.objs.size≤it) (h2:∀x c,X.env.cells.lookup x=some c→c≠it) (h3:∀p∈X.pn++pins,p.1≠it):Inv X pins σ H { s with heap:=h',toks:=t' }:=by
 have nit:∀b u,H b=some u→b≠it:=fun b u e z=>by rw[z,hn] at e;cases e
 refine I.step (g':=s.gens) (d':=s.drawn) (ch:=[it]) (fun b hb=>?_) (fun b o _ _ hc e _=>k b o (fun z=>hc (by simp[z])) e) (fun b o _ _ hc e _=>⟨o.slots,k b o (fun z=>hc (by simp[z])) e⟩) (fun _ _ _ _ n=>n)
  (fun b o hc e=>⟨o,k b o (fun z=>hc (by simp[z])) e⟩) (fun _ _ e=>e) (fun _ _ _ e=>e) (fun b ps e=>⟨#[],by rw[e];simp⟩) (fun m hm=>?_) (fun b u e=>?_) I.bare
 ·have e:b=it:=by simpa using hb
  subst e
  exact⟨h1,hL,h2,h3⟩
 ·obtain⟨o,es,ep,ho,r⟩:=hm
  exact⟨o,es,ep,k _ o (Ne.symm hL) ho,r⟩
 ·refine(I.hok b u e).stay (fun c v hc q=>k c v ?_ q) (fun _ q=>q) fun _ _ q=>q
  rcases hc with z | z
  ·rw[z];exact nit b u e
  ·exact nit c _ z
theorem Inv.tok(I:Inv X pins σ H s)(t:Nat):Inv X pins σ H { s with toks:=t }:=I.un (h':=s.heap) (t':=t) Un.refl I.hok
theorem Inv.kept{t':Nat}(I:Inv X pins σ H s)(k:∀b u,s.heap.get? b=some u→h'.get? b=some u):Inv X pins σ H { s with heap:=h',toks:=t' }:=I.un (Un.kept k) (I.hok.kept k)
theorem Inv.laid{a:Addr}{o:HO}{t':Nat}(I:Inv X pins σ H s)(k:∀b u,s.heap.get? b=some u→h'.get? b=some u)(hp:s.heap.objs.size≤a)(new:wf X.prog X.w (upd H a o) h' a o):
 Inv X pins σ (upd H a o) { s with heap:=h',toks:=t' }:=I.un (Un.laid k hp (I.hok.fresh hp)) (I.hok.laid k hp new)
theorem Inv.write{x e:Addr}{o:HO}{t':Nat}(I:Inv X pins σ H s)(mu:Mut (H x))(he:e=x∨H e=some (.own x))(k:∀b u,b≠e→s.heap.get? b=some u→h'.get? b=some u)(heo:∃u,h'.get? e=some u)
 (new:wf X.prog X.w (upd H x o) h' x o):Inv X pins σ (upd H x o) { s with heap:=h',toks:=t' }:=I.un (Un.write mu he k heo) (I.hok.write mu he k heo new)
theorem Inv.pins_of{pins':List (Addr×Obj)}(I:Inv X pins σ H s)(h:∀p∈pins',s.heap.get? p.1=some p.2∧H p.1=none∧p.1≠X.env.locals∧p.1∉X.fs∧∀v,p.2.data ≠ .cell v):Inv X pins' σ H s :=
 ⟨I.ok,I.os,I.bare,I.base,I.loc,I.cell,I.free,I.freeC,fun p hp=>(List.mem_append.mp hp).elim (fun z=>I.pin p (mem_append_left _ z)) (h p),I.hok,I.len⟩
theorem zi0{N:List Str}(hN:N.Nodup){i j:Nat}{x:Str}(a:N[i]? = some x)(b:N[j]? = some x):i=j:=by
 obtain⟨h1,e1⟩:=List.getElem?_eq_some_iff.mp a
 obtain⟨h2,e2⟩:=List.getElem?_eq_some_iff.mp b
 exact(List.getElem_inj hN).mp (e1.trans e2.symm)
theorem zeM{M:Model}{A:Around}{E:Value→Shared→Prop}{i:Nat}{x:Str}{v:V}{u:Value}{Q:Unit→Shared→Prop}(I:Inv X pins σ H s)(hN:X.N.Nodup)(hi:X.N[i]? = some x)(hx:Loc X.env.scope x)(r:zS v u)
 (h:∀s',Inv X pins (σ.set i (some v)) H s'→(∃a,SameBut a s.heap s'.heap∧(a=X.env.locals∨X.env.cells.lookup x=some a))→Q () s') (hf:X.fn x=true∨X.env.scope.names.lookup x=some .local:=by first | exact .inl rfl | exact .inr rfl | assumption):wpAny M A (storeName X.env x u) Q E s:=by
 obtain⟨m,hn,hl⟩:=id I.loc
 have hcls:(X.env.scope.kind == .class || (X.env.scope.kind == .module && X.env.locals != X.env.globals))=false:=by rw[I.ok.kind];rfl
 have hiσ:i<σ.length:=by rw[I.len];exact(List.getElem?_eq_some_iff.mp hi).1
 have cne:=I.cne
 have tracked:∀{a:Addr}{h':Heap},(∃o,s.heap.get? a=some o∧H a=none)→SameBut a s.heap h'→HOk X.prog X.w H h':=fun {a h'} ha hs b ob e=>by
  obtain⟨_,_,hfree⟩:=ha
  refine(I.hok b ob e).stay (fun c w' hc q=>(hs.2 c ?_).trans q) (fun _ q=>q) fun _ _ q=>q
  rintro rfl
  rcases hc with rfl | hc
  ·rw[hfree] at e;cases e
  ·rw[hfree] at hc;cases hc
 rcases hx with hk | hk
 ·refine wpAny_storeName_local hk hn (fun h' hn' hs=>?_) hcls
  obtain⟨oL,_,_,hoL,_⟩:=id hn
  refine h _ ⟨I.ok,I.os,I.bare,⟨fun b o e n hb hx=>?_,fun b o e n hb hx=>?_,I.base.free,fun b o e hx=>?_,I.base.tups,I.base.frzs,I.base.tbls⟩,⟨_,hn',fun j y v' e1 e2 e3=>?_⟩,fun y c e=>?_,I.free,I.freeC,fun p hp=>?_,tracked ⟨oL,hoL,I.free⟩ hs,by simpa using I.len⟩ ⟨_,hs,.inl rfl⟩
  ·exact(hs.2 b (ne_of_lt (lt_of_lt_of_le (lt_size e) I.ok.above))).trans (I.base.keep b o e n hb hx)
  ·obtain⟨sl,e1⟩:=I.base.slot b o e n hb hx
   exact⟨sl,(hs.2 b (ne_of_lt (lt_of_lt_of_le (lt_size e) I.ok.above))).trans e1⟩
  ·obtain⟨o',e1⟩:=I.base.there b o e hx
   exact⟨o',(hs.2 b (ne_of_lt (lt_of_lt_of_le (lt_size e) I.ok.above))).trans e1⟩
  ·by_cases hj:j=i
   ·subst hj
    rw[hi] at e1;cases e1
    rw[List.getElem?_set_self hiσ] at e2
    cases e2
    exact⟨u,r,.inl ⟨hk,by simp⟩⟩
   ·rw[List.getElem?_set_ne (Ne.symm hj)] at e2
    obtain⟨u',r',q⟩:=hl j y v' e1 e2 e3
    refine⟨u',r',?_⟩
    rcases q with⟨k,e⟩|⟨k,c,e,z⟩
    ·refine .inl ⟨k,?_⟩
     have:y≠x:=fun e=>hj (zi0 hN e1 (e ▸ hi))
     simp[this,e]
    ·exact .inr ⟨k,c,e,z.sameBut hs (cne y c e)⟩
  ·obtain⟨w',z⟩:=I.cell y c e
   exact⟨w',z.sameBut hs (cne y c e)⟩
  ·obtain⟨e,n,ne,nf,d⟩:=I.pin p hp
   exact⟨(hs.2 p.1 ne).trans e,n,ne,nf,d⟩
 ·have hfn:X.fn x=true:=by
   rcases hf with z | z
   ·exact z
   ·rw[z] at hk;cases hk
  obtain⟨c,hc⟩:=I.ok.has x (.inl hk)
  obtain⟨w',z⟩:=I.cell x c hc
  refine wpAny_storeName_cell I.ok.kind hk hc z (fun h' hc' hs=>?_)
  obtain⟨oc,hoc,hocd⟩:=id z
  refine h { s with heap:=h' } ⟨I.ok,I.os,I.bare,⟨fun b o e n hb hx=>?_,fun b o e n hb hx=>?_,I.base.free,fun b o e hx=>?_,I.base.tups,I.base.frzs,I.base.tbls⟩,⟨m,hn.sameBut hs (Ne.symm (cne x c hc)),fun j y v' e1 e2 e3=>?_⟩,fun y c' e=>?_,I.free,I.freeC,fun p hp=>?_,tracked ⟨oc,hoc,I.freeC x c hc⟩ hs,by simpa using I.len⟩ ⟨c,hs,.inr hc⟩
  ·exact(hs.2 b (ne_of_lt (lt_of_lt_of_le (lt_size e) (I.ok.cab x c hfn hc)))).trans (I.base.keep b o e n hb hx)
  ·obtain⟨sl,e1⟩:=I.base.slot b o e n hb hx
   exact⟨sl,(hs.2 b (ne_of_lt (lt_of_lt_of_le (lt_size e) (I.ok.cab x c hfn hc)))).trans e1⟩
  ·obtain⟨o',e1⟩:=I.base.there b o e hx
   exact⟨o',(hs.2 b (ne_of_lt (lt_of_lt_of_le (lt_size e) (I.ok.cab x c hfn hc)))).trans e1⟩
  ·by_cases hj:j=i
   ·subst hj
    rw[hi] at e1;cases e1
    rw[List.getElem?_set_self hiσ] at e2
    cases e2
    exact⟨u,r,.inr ⟨.inl hk,c,hc,hc'⟩⟩
   ·rw[List.getElem?_set_ne (Ne.symm hj)] at e2
    obtain⟨u',r',q⟩:=hl j y v' e1 e2 e3
    refine⟨u',r',?_⟩
    rcases q with q | ⟨k,c',e,z'⟩
    ·exact .inl q
    ·refine .inr ⟨k,c',e,z'.sameBut hs ?_⟩
     rintro rfl
     exact hj (zi0 hN e1 (I.ok.inj _ _ _ e hc ▸ hi))
  ·by_cases hcc:c'=c
   ·subst hcc;exact⟨_,hc'⟩
   ·obtain⟨w2,z2⟩:=I.cell y c' e
    exact⟨w2,z2.sameBut hs hcc⟩
  ·obtain⟨e,n,ne,nf,d⟩:=I.pin p hp
   refine⟨(hs.2 p.1 ?_).trans e,n,ne,nf,d⟩
   intro q
   rw[q,hoc] at e
   have q':oc=p.2:=Option.some.inj e
   exact d w' (by rw[←q'];exact hocd)
theorem zhZ{M:Model}{A:Around}{E:Value→Shared→Prop}{i:Nat}{x:Str}{v:V}{u:Value}{Q:Unit→Shared→Prop}(I:Inv X pins σ H s)(hN:X.N.Nodup)(hi:X.N[i]? = some x)(hx:Loc X.env.scope x)(r:zS v u)
 (h:∀s',Inv X pins (σ.set i (some v)) H s'→Q () s') (hf:X.fn x=true∨X.env.scope.names.lookup x=some .local:=by first | exact .inl rfl | exact .inr rfl | assumption):wpAny M A (storeName X.env x u) Q E s :=
 zeM I hN hi hx r (fun s' I' _=>h s' I') hf
theorem Inv.call'{s':Shared}{ch:List Addr}(I:Inv X pins σ H s)(ho:s'.os=s.os)(u:Un (frs X.stack) ch H H' s.heap s'.heap)(hok:HOk X.prog X.w H' s'.heap)(hg:AllBare s'.gens)
 (hch:∀b∈ch,(b∈X.ex∨X.s₀.heap.objs.size≤b)∧b≠X.env.locals∧(∀x c,X.env.cells.lookup x=some c→c≠b)∧∀p∈X.pn++pins,p.1≠b):Inv X pins σ H' s':=by
 obtain⟨h',g',d',t',o'⟩:=s'
 have e:o'=s.os:=ho
 subst e
 exact I.call (g':=g') (t':=t') (d':=d') u hok hg hch
end
abbrev XK:=Value→Option Addr→Hp→Prop
abbrev St:=List (Option V)
abbrev VK:=V→Hp→Prop
abbrev TE:=St→Hp→VK→Prop
abbrev TT:=St→Hp→(Bool→Hp→Prop)→Prop
abbrev TA:=St→Hp→(List V→Hp→Prop)→Prop
structure Ends where
 nx:St→Hp→Prop
 rt:VK
 bk:St→Hp→Prop:=fun _ _=>False
 ct:St→Hp→Prop:=fun _ _=>False
abbrev TS:=Ends→St→Hp→Prop
def EP(X:Cx)(pins:List (Addr×Obj))(σ:St)(Q:VK)(u:Value)(s':Shared):Prop:=∃v H',Inv X pins σ H' s'∧zS v u∧Q v H'
def TP(X:Cx)(pins:List (Addr×Obj))(σ:St)(Q:Bool→Hp→Prop)(b:Bool)(s':Shared):Prop:=∃H',Inv X pins σ H' s'∧Q b H'
def AP(X:Cx)(pins:List (Addr×Obj))(σ:St)(Q:List V→Hp→Prop)(us:List Value)(s':Shared):Prop:=∃vs H',Inv X pins σ H' s'∧zF vs us∧Q vs H'
def SP(X:Cx)(pins:List (Addr×Obj))(D:Ends)(f:Flow)(s':Shared):Prop :=
 match f with
 | .next=>∃σ' H',Inv X pins σ' H' s'∧D.nx σ' H'
 | .brk=>∃σ' H',Inv X pins σ' H' s'∧D.bk σ' H'
 | .cont=>∃σ' H',Inv X pins σ' H' s'∧D.ct σ' H'
 | .ret u=>∃v σ' H',Inv X pins σ' H' s'∧zS v u∧D.rt v H'
def PE(X:Cx)(e:Expr)(t:TE):Prop :=
 ∀(pins:List (Addr×Obj)) (s:Shared) (σ:St) (H:Hp) (Q:VK),Inv X pins σ H s→t σ H Q→wpAny (model X.prog X.w) X.A (eval e X.env) (EP X pins σ Q) X.xe s
def PT(X:Cx)(e:Expr)(t:TT):Prop :=
 ∀(pins:List (Addr×Obj)) (s:Shared) (σ:St) (H:Hp) (Q:Bool→Hp→Prop),Inv X pins σ H s→t σ H Q→wpAny (model X.prog X.w) X.A (isTrue e X.env (eval e X.env)) (TP X pins σ Q) X.xe s
def PW(X:Cx)(e:Expr)(t:TT):Prop :=
 ∀(whole:Sem Value)(pins:List (Addr×Obj)) (s:Shared) (σ:St) (H:Hp) (Q:Bool→Hp→Prop),Inv X pins σ H s→t σ H Q→wpAny (model X.prog X.w) X.A (isTrue e X.env whole) (TP X pins σ Q) X.xe s
theorem PW.pt{X:Cx}{e:Expr}{t:TT}(h:PW X e t):PT X e t:=h _
def PA(X:Cx)(es:List Expr)(t:TA):Prop :=
 ∀(pos:Pos)(pins:List (Addr×Obj)) (s:Shared) (σ:St) (H:Hp) (Q:List V→Hp→Prop),Inv X pins σ H s→t σ H Q→wpAny (model X.prog X.w) X.A (spliced (backTo pos (starEach es X.env))) (AP X pins σ Q) X.xe s
def PS(X:Cx)(st:Stmt)(t:TS):Prop :=
 ∀(pins:List (Addr×Obj)) (s:Shared) (σ:St) (H:Hp) (D:Ends),Inv X pins σ H s→t D σ H→wpAny (model X.prog X.w) X.A (exec st X.env) (SP X pins D) X.xe s
def PSs(X:Cx)(st:List Stmt)(t:TS):Prop :=
 ∀(pins:List (Addr×Obj)) (s:Shared) (σ:St) (H:Hp) (D:Ends),Inv X pins σ H s→t D σ H→wpAny (model X.prog X.w) X.A (execs st X.env) (SP X pins D) X.xe s
theorem thn{α:Type}{t:Sem α}{Q Q':α→Shared→Prop}{M:Model}{A:Around}{E:Value→Shared→Prop}{s:Shared}(h:wpAny M A t Q E s)(hQ:∀a s,Q a s→Q' a s):wpAny M A t Q' E s:=wpAny_mono h hQ fun _ _ x=>x
section
variable {X:Cx}
theorem bin{a b:Expr}{ta tb:TE}(ha:PE X a ta)(hb:PE X b tb){pins:List (Addr×Obj)}{s:Shared}{σ:St}{H:Hp}{R:V→V→Hp→Prop}(I:Inv X pins σ H s)(h:ta σ H fun x H1=>tb σ H1 fun y H2=>R x y H2)
 {α:Type} {Q:α→Shared→Prop} {f:Value→Value→Sem α}
 (hf:∀v u s2 x y H2,Inv X pins σ H2 s2→zS x v→zS y u→R x y H2→wpAny (model X.prog X.w) X.A (f v u) Q X.xe s2) :
 wpAny (model X.prog X.w) X.A (eval a X.env) (fun v s₁=>wpAny (model X.prog X.w) X.A (eval b X.env) (fun u s₂=>wpAny (model X.prog X.w) X.A (f v u) Q X.xe s₂) X.xe s₁) X.xe s:=by
 refine thn (ha pins s σ H _ I h) fun v s1 ⟨x,H1,I1,r1,q1⟩=>?_
 refine thn (hb pins s1 σ H1 _ I1 q1) fun u s2 ⟨y,H2,I2,r2,q2⟩=>?_
 exact hf v u s2 x y H2 I2 r1 r2 q2
def tVar(i:Nat):TE:=fun σ H Q=>∃v,σ[i]? = some (some v)∧Q v H
def tC(v:V):TE:=fun _ H Q=>Q v H
theorem pe_var{i:Nat}{x:Str}{pos:Pos}(hN:X.N[i]? = some x)(hv:Vis X.env.scope x)(hd:(x==("__debug__":Str))=false:=by decide)(hcd:(x==("__classdict__":Str))=false:=by decide):PE X (.Name x pos) (tVar i):=by
 intro pins s σ H Q I h
 obtain⟨v,e,h⟩:=h
 obtain⟨m,hn,hl⟩:=I.loc
 obtain⟨u,r,l⟩:=hl i x v hN e hv
 have fin:EP X pins σ Q u s:=⟨v,H,I,r,h⟩
 rcases l with⟨hk,hm⟩|⟨hk,c,hc,hcell⟩
 ·exact wpAny_Name (wpAny_loadName_local I.ok.kind hk hn hm fin) hd
 ·rcases hk with hk | hk
  ·exact wpAny_Name (wpAny_loadName_cell I.ok.kind hk hc hcell fin) hd
  ·exact wpAny_Name (wpAny_loadName_free I.ok.kind hk hc hcell fin hcd) hd
theorem zj{i j pos}:PE X (.Constant (.int i) j pos) (tC (.int i)):=fun _ _ _ H _ I h=>wpAny_Constant_int ⟨.int i,H,I.tok _,⟨_,rfl⟩,h⟩
theorem yq{b j pos}:PE X (.Constant (.bool b) j pos) (tC (.bl b)):=fun _ _ _ H _ I h=>Constant_bool ⟨.bl b,H,I,rfl,h⟩
theorem zeN{j pos}:PE X (.Constant .none j pos) (tC .non):=fun _ _ _ H _ I h=>Constant_none ⟨.non,H,I,rfl,h⟩
theorem yd{x j pos}:PE X (.Constant (.str x) j pos) (tC (.str x)):=fun _ _ _ H _ I h=>Calls.Constant_str ⟨.str x,H,I.tok _,⟨_,rfl⟩,h⟩
def Gl(X:Cx)(x:Str):Prop:=X.env.kindOf x=some .globalImplicit
theorem zej{E:Value→Shared→Prop}{pins:List (Addr×Obj)}{s:Shared}{σ:St}{H:Hp}{x:Str}{u:Value}{pos:Pos}{Q:Value→Shared→Prop}(I:Inv X pins σ H s)(hg:Gl X x)(hm:X.mg x=some u)(h:Q u s)
 (hd:(x==("__debug__":Str))=false:=by decide):wpAny (model X.prog X.w) X.A (eval (.Name x pos) X.env) Q E s :=
 Calls.Name_function_global I.ok.kind hg (Calls.loadGlobal_global (by rw[I.ok.glob];exact I.mod.glob.keeps I.bk) hm h) hd
theorem zch{E:Value→Shared→Prop}{pins:List (Addr×Obj)}{s:Shared}{σ:St}{H:Hp}{x:Str}{u:Value}{pos:Pos}{Q:Value→Shared→Prop}(I:Inv X pins σ H s)(hg:Gl X x)(hm:X.mg x=none)(hv:bootBuiltins x=some u)(h:Q u s)
 (hn:x≠"__name__":=by decide) (hd:(x==("__debug__":Str))=false:=by decide):wpAny (model X.prog X.w) X.A (eval (.Name x pos) X.env) Q E s:=by
 obtain⟨mb,h1,h2⟩:=I.mod.blt
 exact Calls.Name_function_global I.ok.kind hg (Calls.loadGlobal_builtin (by rw[I.ok.glob];exact I.mod.glob.keeps I.bk) hm (by rw[I.ok.blt];exact h1.keeps I.bk) ((h2 x hn).trans hv) h) hd
theorem pe_glob{x:Str}{v:V}{u:Value}{pos:Pos}(hg:Gl X x)(hm:X.mg x=some u)(r:zS v u)(hd:(x==("__debug__":Str))=false:=by decide):PE X (.Name x pos) (tC v) :=
 fun _ _ _ H _ I h=>zej I hg hm ⟨v,H,I,r,h⟩ hd
theorem zap{x:Str}{v:V}{u:Value}{pos:Pos}(hg:Gl X x)(hm:X.mg x=none)(hv:bootBuiltins x=some u)(r:zS v u)(hn:x≠"__name__":=by decide)(hd:(x==("__debug__":Str))=false:=by decide):PE X (.Name x pos) (tC v) :=
 fun _ _ _ H _ I h=>zch I hg hm hv ⟨v,H,I,r,h⟩ hn hd
variable {a b:Expr}{ta tb:TE}{pos:Pos}
def PC(X:Cx)(op:CmpOp)(a b:Expr)(t:TE):Prop :=
 ∀(pins:List (Addr×Obj)) (s:Shared) (σ:St) (H:Hp) (Q:VK),Inv X pins σ H s→t σ H Q →
  wpAny (model X.prog X.w) X.A (eval a X.env) (fun v s₁=>wpAny (model X.prog X.w) X.A (eval b X.env) (fun u s₂=>wpAny (model X.prog X.w) X.A (compareOp op v u) (EP X pins σ Q) X.xe s₂) X.xe s₁) X.xe s
def tB(t:TE):TT:=fun σ H Q=>t σ H fun x H1=>∃c,x=.bl c∧Q c H1
theorem pt_cmp{op:CmpOp}{t:TE}(h:PC X op a b t)(h1:behindInMarks op b=false:=by first | exact nobehind _ (by decide) (by decide) | rfl):PT X (.Compare a [op] [b] pos) (tB t):=by
 intro pins s σ H Q I hw
 refine wpAny_isTrue_Compare1 (thn (h pins s σ H _ I hw) fun v s1 h1=>thn h1 fun u s2 h2=>thn h2 fun c s3 ⟨x,H1,I1,r1,q1⟩=>?_) h1
 obtain⟨d,rfl,q⟩:=q1
 cases r1
 exact wpAny_truthy_bool ⟨H1,I1,q⟩
theorem ya{e:Expr}{t:TE}(h:PE X e t)(he:∀whole,isTrue e X.env whole=(do let v ←whole;standAt e.pos;holding [v] (truthy v)):=by intro _;rfl):PT X e (tB t):=by
 intro pins s σ H Q I hw
 refine isTrue_plain (thn (h pins s σ H _ I hw) fun v s1 ⟨x,H1,I1,r1,q1⟩=>?_) (he _)
 obtain⟨d,rfl,q⟩:=q1
 cases r1
 exact wpAny_truthy_bool ⟨H1,I1,q⟩
variable {tA tB':TT}{zdM:List Expr}
def tAnd(t u:TT):TT:=fun σ H Q=>t σ H fun c H1=>if c=true then u σ H1 Q else Q false H1
def tOr(t u:TT):TT:=fun σ H Q=>t σ H fun c H1=>if c=true then Q true H1 else u σ H1 Q
def tNot(t:TT):TT:=fun σ H Q=>t σ H fun c H1=>Q (!c) H1
theorem zcU(ha:PT X a tA):PW X (.BoolOp .And [a] pos) tA:=by
 intro wh pins s σ H Q I h
 refine isTrue_and (thn (ha pins s σ H Q I h) fun c s1 e=>?_)
 cases c with
 | true=>exact isTrue_and_nil e
 | false=>exact e
theorem zas(ha:PT X a tA):PW X (.BoolOp .Or [a] pos) tA:=by
 intro wh pins s σ H Q I h
 refine isTrue_or (thn (ha pins s σ H Q I h) fun c s1 e=>?_)
 cases c with
 | false=>exact isTrue_or_nil e
 | true=>exact e
theorem zdX(ha:PT X a tA)(hb:PW X (.BoolOp .And (b::zdM) pos) tB'):PW X (.BoolOp .And (a::b::zdM) pos) (tAnd tA tB'):=by
 intro wh pins s σ H Q I h
 refine isTrue_and (thn (ha pins s σ H _ I h) fun c s1 ⟨H1,I1,q1⟩=>?_)
 cases c with
 | true=>exact hb wh pins s1 σ H1 Q I1 q1
 | false=>exact⟨H1,I1,q1⟩
theorem zbv(ha:PT X a tA)(hb:PW X (.BoolOp .Or (b::zdM) pos) tB'):PW X (.BoolOp .Or (a::b::zdM) pos) (tOr tA tB'):=by
 intro wh pins s σ H Q I h
 refine isTrue_or (thn (ha pins s σ H _ I h) fun c s1 ⟨H1,I1,q1⟩=>?_)
 cases c with
 | true=>exact⟨H1,I1,q1⟩
 | false=>exact hb wh pins s1 σ H1 Q I1 q1
theorem ye(ha:PT X a tA):PT X (.UnaryOp .Not a pos) (tNot tA):=by
 intro pins s σ H Q I h
 exact isTrue_not (ha pins s σ H (fun c H1=>Q (!c) H1) I h)
def tAndV(ta tb:TE):TE:=fun σ H Q=>ta σ H fun x H1=>∃c,x=.bl c∧if c=true then tb σ H1 Q else Q (.bl false) H1
def tNotV(ta:TE):TE:=fun σ H Q=>ta σ H fun x H1=>∃c,x=.bl c∧Q (.bl (!c)) H1
theorem zhq{op}{t:TE}(h:PE X a t):PE X (.BoolOp op [a] pos) t:=fun pins s σ H Q I hw=>BoolOp_one (h pins s σ H Q I hw)
theorem zes(ha:PE X a ta)(hb:PE X (.BoolOp .And (b::zdM) pos) tb):PE X (.BoolOp .And (a::b::zdM) pos) (tAndV ta tb):=by
 intro pins s σ H Q I h
 refine BoolOp_and (thn (ha pins s σ H _ I h) fun v s1 ⟨x,H1,I1,r1,q1⟩=>?_)
 obtain⟨c,rfl,q1⟩:=q1
 cases r1
 refine wpAny_truthy_bool ?_
 cases c with
 | true=>exact hb pins s1 σ H1 Q I1 q1
 | false=>exact⟨.bl false,H1,I1,rfl,q1⟩
theorem pe_not(ha:PE X a ta):PE X (.UnaryOp .Not a pos) (tNotV ta):=by
 intro pins s σ H Q I h
 refine UnaryOp_ (thn (ha pins s σ H _ I h) fun v s1 ⟨x,H1,I1,r1,q1⟩=>?_)
 obtain⟨c,rfl,q1⟩:=q1
 cases r1
 exact not_of (wpAny_truthy_bool ⟨.bl (!c),H1,I1,rfl,q1⟩)
def tIf(t:TT)(ta tb:TE):TE:=fun σ H Q=>t σ H fun c H1=>if c=true then ta σ H1 Q else tb σ H1 Q
theorem pe_ifExp{c:Expr}(hc:PT X c tA)(ha:PE X a ta)(hb:PE X b tb):PE X (.IfExp c a b pos) (tIf tA ta tb):=by
 intro pins s σ H Q I h
 refine wpAny_IfExp (thn (hc pins s σ H _ I h) fun d s1 ⟨H1,I1,q1⟩=>?_)
 cases d with
 | true=>exact ha pins s1 σ H1 Q I1 q1
 | false=>exact hb pins s1 σ H1 Q I1 q1
end
def SqL(K:Frag)(H:Hp)(a:Addr)(xs:List V):Prop :=
 Rd H a (.lst xs) ∨
  ∃(o:Obj)(its:Array Value)(n:Nat),K.lookup a=some o∧o.cls=.type "list"∧o.dict=none∧o.data=.seq its n∧its.size≤sizeLine∧zF xs its.toList
def SqT(K:Frag)(H:Hp)(a:Addr)(xs:List V):Prop :=
 Rd H a (.tup xs) ∨
  ∃(o:Obj)(its:Array Value)(n:Nat),K.lookup a=some o∧o.cls=.type "tuple"∧o.data=.seq its n∧its.size≤sizeLine∧zF xs its.toList
def absV:Value→Option V
 | .none=>some .non
 | .bool b=>some (.bl b)
 | .int i _=>some (.int i)
 | .str x _=>some (.str x)
 | .bytes b _=>some (.byt b)
 | .float b _=>some (.flt b)
 | .ref a=>some (.ref a)
 | .type n=>some (.ty n)
 | _=>none
theorem zS.abs{x:V}{u:Value}(r:zS x u):absV u=some x:=by
 cases x with
 | non=>cases r;rfl
 | bl _=>cases r;rfl
 | int _=>obtain⟨t,rfl⟩:=r;rfl
 | str _=>obtain⟨t,rfl⟩:=r;rfl
 | byt _=>obtain⟨t,rfl⟩:=r;rfl
 | flt _=>obtain⟨t,rfl⟩:=r;rfl
 | ref _=>cases r;rfl
 | ty _=>cases r;rfl
theorem zS.inj{x y:V}{u:Value}(r:zS x u)(q:zS y u):x=y:=Option.some.inj (r.abs.symm.trans q.abs)
theorem zF.inj:∀{xs ys:List V}{us:List Value},zF xs us→zF ys us→xs=ys
 | _,_,_,.nil,.nil=>rfl
 | _,_,_,.cons r t,.cons r' t'=>by rw[r.inj r',zF.inj t t']
section
variable {X:Cx}{pins:List (Addr×Obj)}{σ:St}{H:Hp}{s:Shared}{a:Addr}{xs ys:List V}
theorem SqL.of{K:Frag}(h:H a=some (.lst xs)):SqL K H a xs:=.inl (.inl h)
theorem SqT.of{K:Frag}(h:H a=some (.tup xs)):SqT K H a xs:=.inl (.inl h)
theorem Inv.list(I:Inv X pins σ H s)(h:SqL X.K H a xs):∃its:List Value,zF xs its∧PlainL s.heap a its.toArray∧xs.length≤sizeLine:=by
 rcases h with h | ⟨o,its,n,hk,hc,hd,hs,hz,r⟩
 ·obtain⟨z,its,n,r,e⟩:=h.ok I.hok
  exact⟨its,r,⟨_,n,e,rfl,rfl,rfl⟩,z⟩
 ·refine⟨its.toList,r,⟨o,n,I.kIn a o hk,hc,hd,by simpa using hs⟩,?_⟩
  have e:=r.length
  simp only[Array.length_toList] at e
  omega
theorem Inv.tuple(I:Inv X pins σ H s)(h:SqT X.K H a xs):∃its:List Value,zF xs its∧IsTup s.heap a its.toArray∧xs.length≤sizeLine:=by
 rcases h with h | ⟨o,its,n,hk,hc,hs,hz,r⟩
 ·obtain⟨z,its,r,p⟩:=h.ok I.hok
  exact⟨its,r,p,z⟩
 ·refine⟨its.toList,r,⟨o,I.kIn a o hk,hc,n,by simpa using hs⟩,?_⟩
  have e:=r.length
  simp only[Array.length_toList] at e
  omega
theorem Inv.list_inj(I:Inv X pins σ H s)(h:SqL X.K H a xs)(h':SqL X.K H a ys):xs=ys:=by
 obtain⟨its,r,⟨o,n,e,_,_,d⟩,_⟩:=I.list h
 obtain⟨its',r',⟨o',n',e',_,_,d'⟩,_⟩:=I.list h'
 rw[e] at e';cases e'
 rw[d] at d'
 injection d' with d1 _
 have:its=its':=by simpa using congrArg Array.toList d1
 subst this
 exact r.inj r'
end
abbrev Cx.wish(X:Cx)(E:Value→Shared→Prop):Cx:={ X with xe:=E }
abbrev Cx.nox(X:Cx):Cx:=X.wish fun _ _=>False
theorem Cx.Ok.wish{X:Cx}(ok:X.Ok)(E:Value→Shared→Prop):(X.wish E).Ok :=
 ⟨ok.mod,ok.kind,ok.glob,ok.blt,ok.above,ok.inj,ok.has,ok.cab,ok.hd,ok.frames,ok.stk,ok.exf,ok.bs,ok.bsz,ok.noex,ok.exfs,ok.funs,ok.frf⟩
theorem Cx.Ok.unwish{X:Cx}{E:Value→Shared→Prop}(ok:(X.wish E).Ok):X.Ok :=
 ⟨ok.mod,ok.kind,ok.glob,ok.blt,ok.above,ok.inj,ok.has,ok.cab,ok.hd,ok.frames,ok.stk,ok.exf,ok.bs,ok.bsz,ok.noex,ok.exfs,ok.funs,ok.frf⟩
section
variable {X:Cx}{pins:List (Addr×Obj)}{σ:St}{H:Hp}{s:Shared}{E:Value→Shared→Prop}
theorem Inv.wish(I:Inv X pins σ H s)(E:Value→Shared→Prop):Inv (X.wish E) pins σ H s:=⟨I.ok.wish E,I.os,I.bare,I.base,I.loc,I.cell,I.free,I.freeC,I.pin,I.hok,I.len⟩
theorem Inv.unwish(I:Inv (X.wish E) pins σ H s):Inv X pins σ H s:=⟨I.ok.unwish,I.os,I.bare,I.base,I.loc,I.cell,I.free,I.freeC,I.pin,I.hok,I.len⟩
theorem SP.unwish{D:Ends}{f:Flow}{s':Shared}(h:SP (X.wish E) pins D f s'):SP X pins D f s':=by
 cases f with
 | next=>obtain⟨σ',H',I,q⟩:=h;exact⟨σ',H',I.unwish,q⟩
 | brk=>obtain⟨σ',H',I,q⟩:=h;exact⟨σ',H',I.unwish,q⟩
 | cont=>obtain⟨σ',H',I,q⟩:=h;exact⟨σ',H',I.unwish,q⟩
 | ret u=>obtain⟨v,σ',H',I,r,q⟩:=h;exact⟨v,σ',H',I.unwish,r,q⟩
theorem PSs.nox{st:List Stmt}{t:TS}(h:PSs X.nox st t):PSs X st t:=fun pins s σ H D I hw =>
 wpAny_mono (h pins s σ H D (I.wish _) hw) (fun _ _ q=>q.unwish) fun _ _ z=>False.elim z
end
section
variable {X:Cx}{st:Stmt}{zdM:List Stmt}{t u:TS}{e:Expr}{te:TE}{pos:Pos}
def tNext:TS:=fun D σ H=>D.nx σ H
def tSeq(t u:TS):TS:=fun D σ H=>t { D with nx:=u D } σ H
theorem zu:PSs X [] tNext:=fun _ _ σ H _ I h=>wpAny_execs_nil ⟨σ,H,I,h⟩
theorem zd(h1:PS X st t)(h2:PSs X zdM u):PSs X (st::zdM) (tSeq t u):=by
 intro pins s σ H D I h
 refine wpAny_execs_cons (thn (h1 pins s σ H { D with nx:=u D } I h) fun f s1 q=>?_)
 cases f with
 | next =>
   obtain⟨σ',H',I',q⟩:=q
   exact h2 pins s1 σ' H' D I' q
 | ret v=>exact q
 | brk=>exact q
 | cont=>exact q
theorem zf(h1:PS X st t):PSs X [st] t:=by
 intro pins s σ H D I h
 refine wpAny_execs_cons (thn (h1 pins s σ H D I h) fun f s1 q=>?_)
 cases f with
 | next=>exact wpAny_execs_nil q
 | ret v=>exact q
 | brk=>exact q
 | cont=>exact q
theorem Inv.quiet{pins:List (Addr×Obj)}{σ:St}{H:Hp}{s:Shared}(I:Inv X pins σ H s):interactive X.env=false:=by simp[interactive,I.ok.kind]
def tDrop(te:TE):TS:=fun D σ H=>te σ H fun _ H1=>D.nx σ H1
theorem zY(he:PE X e te)(hs:swapsWith e none pos.line X.env=pure false:=by rfl):PS X (.Expr e pos) (tDrop te):=by
 intro pins s σ H D I h
 exact wpAny_Expr_any (thn (he pins s σ H _ I h) fun v s1 ⟨x,H1,I1,r1,q1⟩=>⟨σ,H1,I1,q1⟩) I.quiet hs
def tRet(te:TE):TS:=fun D σ H=>te σ H D.rt
theorem zn(he:PE X e te):PS X (.Return (some e) pos) (tRet te):=by
 intro pins s σ H D I h
 exact wpAny_Return_some (thn (he pins s σ H _ I h) fun v s1 ⟨x,H1,I1,r1,q1⟩=>⟨x,σ,H1,I1,r1,q1⟩)
def tIfS(c:TT)(t u:TS):TS:=fun D σ H=>c σ H fun b H1=>if b=true then t D σ H1 else u D σ H1
theorem zD{c:Expr}{a b:List Stmt}{tc:TT}(hc:PT X c tc)(ha:PSs X a t)(hb:PSs X b u):PS X (.If c a b pos) (tIfS tc t u):=by
 intro pins s σ H D I h
 refine wpAny_If (thn (hc pins s σ H _ I h) fun d s1 ⟨H1,I1,q1⟩=>?_)
 cases d with
 | true=>exact ha pins s1 σ H1 D I1 q1
 | false=>exact hb pins s1 σ H1 D I1 q1
def tNever:TS:=fun _ _ _=>False
theorem zfp:PS X st tNever:=fun _ _ _ _ _ _ h=>h.elim
end
abbrev TG:=V→St→Hp→(St→Hp→Prop)→Prop
abbrev TGs:=List V→St→Hp→(St→Hp→Prop)→Prop
def PG(X:Cx)(target:Expr)(t:TG):Prop :=
 ∀(pins:List (Addr×Obj)) (s:Shared) (σ:St) (H:Hp) (v:V) (u:Value) (Q:St→Hp→Prop),Inv X pins σ H s→zS v u→t v σ H Q →
  wpAny (model X.prog X.w) X.A (assign target X.env u) (fun _ s'=>∃σ' H',Inv X pins σ' H' s'∧Q σ' H') X.xe s
def PGs(X:Cx)(ts:List Expr)(t:TGs):Prop :=
 ∀(pins:List (Addr×Obj)) (s:Shared) (σ:St) (H:Hp) (vs:List V) (us:List Value) (Q:St→Hp→Prop),Inv X pins σ H s→zF vs us→t vs σ H Q →
  wpAny (model X.prog X.w) X.A (assignInOrder ((assignEach ts X.env).map (·.2)) us) (fun _ s'=>∃σ' H',Inv X pins σ' H' s'∧Q σ' H') X.xe s
abbrev TSet:=V→V→V→Hp→(Hp→Prop)→Prop
def PSet(X:Cx)(t:TSet):Prop :=
 ∀(pins:List (Addr×Obj)) (s:Shared) (σ:St) (H:Hp) (o i v:V) (ov iv u:Value) (Q:Hp→Prop),Inv X pins σ H s→zS o ov→zS i iv→zS v u→t o i v H Q →
  wpAny (model X.prog X.w) X.A (setItem ov iv u) (fun _ s'=>∃H',Inv X pins σ H' s'∧Q H') X.xe s
section
variable {X:Cx}{pos:Pos}
def ze5(i:Nat):TG:=fun v σ H Q=>Q (σ.set i (some v)) H
theorem zV{i:Nat}{x:Str}(hN:X.N.Nodup)(hi:X.N[i]? = some x)(hx:Loc X.env.scope x)(hf:X.fn x=true∨X.env.scope.names.lookup x=some .local:=by first | exact .inl rfl | exact .inr rfl | assumption):PG X (.Name x pos) (ze5 i):=by
 intro pins s σ H v u Q I r h
 exact wpAny_assign_Name (zhZ I hN hi hx r (fun s' I'=>⟨_,H,I',h⟩) hf)
def gNil:TGs:=fun vs σ H Q=>vs=[]∧Q σ H
def gCons(t:TG)(u:TGs):TGs:=fun vs σ H Q=>∃v r,vs=v::r∧t v σ H fun σ' H'=>u r σ' H' Q
theorem pgs_nil:PGs X [] gNil:=by
 intro pins s σ H vs us Q I r h
 obtain⟨e,h⟩:=h
 subst e
 cases r
 exact assignInOrder_nil ⟨σ,H,I,h⟩
theorem zea{e:Expr}{es:List Expr}{t:TG}{u:TGs}(h1:PG X e t)(h2:PGs X es u)
 (hs:(assignEach (e::es) X.env).map (·.2)=assign e X.env::(assignEach es X.env).map (·.2):=by rfl):PGs X (e::es) (gCons t u):=by
 intro pins s σ H vs us Q I r h
 obtain⟨v,vr,e1,h⟩:=h
 subst e1
 cases r with
 | cons r rr =>
   rw[hs]
   refine assignInOrder_cons (thn (h1 pins s σ H _ _ _ I r h) fun _ s1 ⟨σ1,H1,I1,q1⟩=>?_)
   exact h2 pins s1 σ1 H1 _ _ Q I1 rr q1
def gTup(K:Frag)(n:Nat)(t:TGs):TG:=fun v σ H Q=>∃a xs,v=.ref a∧SqT K H a xs∧xs.length=n∧t xs σ H Q
theorem pg_tup{es:List Expr}{k:Nat}{t:TGs}{n:Nat}(hc:X.calm=true)(h:PGs X es t)
 (hn:(assignEach es X.env).length=n:=by rfl) (hst:(assignEach es X.env).findIdx? (·.1)=none:=by rfl):PG X (.Tuple es k pos) (gTup X.K n t):=by
 intro pins s σ H v u Q I r hw
 obtain⟨a,xs,e1,hq,hl,hw⟩:=hw
 subst e1
 cases r
 obtain⟨its,rv,ht,hz⟩:=I.tuple hq
 refine assign_Tuple_tuple (I.ok.hd hc) ht (by simp[hn,←hl,rv.length]) hst fun h' hx=>?_
 have I1:Inv X pins σ H { s with heap:=h' }:=I.kept (t':=s.toks) fun b o e=>hx b o (ne_of_lt (lt_size e)) e
 exact h pins _ σ H xs _ Q I1 (by simpa using rv) hw
def gSub(to ti:TE)(t:TSet):TG:=fun v σ H Q=>to σ H fun o H1=>ti σ H1 fun i H2=>t o i v H2 fun H3=>Q σ H3
theorem pg_sub{o i:Expr}{to ti:TE}{t:TSet}(ho:PE X o to)(hi:PE X i ti)(hs:PSet X t)
 (ha:∀v,assign (.Subscript o i pos) X.env v=(do
   let ov ←holding [v] (eval o X.env)
   let iv ←holding [v,ov] (eval i X.env)
   standAt pos
   holding [v,ov,iv] (setItem ov iv v)
   release [v,ov,iv] []):=by intro _;rfl):PG X (.Subscript o i pos) (gSub to ti t):=by
 intro pins s σ H v u Q I r h
 rw[ha]
 refine wpAny_bind (wpAny_holding (thn (ho pins s σ H _ I h) fun ov s1 ⟨x,H1,I1,r1,q1⟩=>?_))
 refine wpAny_bind (wpAny_holding (thn (hi pins s1 σ H1 _ I1 q1) fun iv s2 ⟨y,H2,I2,r2,q2⟩=>?_))
 refine wpAny_bind (wpAny_standAt (wpAny_bind (wpAny_holding (thn (hs pins s2 σ H2 x y v ov iv u _ I2 r1 r2 r q2) fun _ s3 ⟨H3,I3,q3⟩=>?_))))
 exact wpAny_release ⟨σ,H3,I3,q3⟩
def tAsg(te:TE)(g:TG):TS:=fun D σ H=>te σ H fun x H1=>g x σ H1 D.nx
theorem ps_asg{tg e:Expr}{te:TE}{g:TG}(he:PE X e te)(hg:PG X tg g)(hs:swapsWithSole [tg] e pos.line X.env=pure false:=by rfl)(hw:swappedStores [tg] e X.env=pure none:=by rfl)
 (h1:(assignEach [tg] X.env).map (·.2)=[assign tg X.env]:=by rfl):PS X (.Assign [tg] e pos) (tAsg te g):=by
 intro pins s σ H D I h
 refine wpAny_Assign_stores (thn (he pins s σ H _ I h) fun v s1 ⟨x,H1,I1,r1,q1⟩=>?_) hs hw
 rw[h1]
 exact thn (hg pins s1 σ H1 x v _ I1 r1 q1) fun _ s2 q=>q
theorem zz{i:Nat}{x:Str}{e:Expr}{te:TE}{pos':Pos}(hN:X.N.Nodup)(hi:X.N[i]? = some x)(hx:Loc X.env.scope x)(he:PE X e te)(hs:swapsWith e (some (.Name x pos')) pos.line X.env=pure false:=by rfl)(hf:X.fn x=true∨X.env.scope.names.lookup x=some .local:=by first | exact .inl rfl | exact .inr rfl | assumption):
 PS X (.Assign [.Name x pos'] e pos) (tAsg te (ze5 i)):=by
 intro pins s σ H D I h
 refine wpAny_Assign_Name (thn (he pins s σ H _ I h) fun v s1 ⟨y,H1,I1,r1,q1⟩=>?_) hs
 exact zhZ I1 hN hi hx r1 (fun s2 I2=>⟨_,H1,I2,q1⟩) hf
end
structure It where
 go:Nat→Hp→Prop
 yld:Nat→Hp→V→Hp→Prop
 stop:Nat→Hp→Prop
def zah(X:Cx)(pins:List (Addr×Obj))(H:Hp)(b:Addr):Prop :=
 H b=none∧b≠X.env.locals∧b∉X.fs∧(b∈X.ex∨X.s₀.heap.objs.size≤b)∧(∀x c,X.env.cells.lookup x=some c→c≠b)∧∀p∈X.pn++pins,p.1≠b
theorem Inv.fpOk{X:Cx}{pins:List (Addr×Obj)}{σ:St}{H H':Hp}{s:Shared}{b:Addr}(I:Inv X pins σ H s)(hb:s.heap.objs.size≤b)(hn:H' b=none):zah X pins H' b:=by
 refine⟨hn,ne_of_gt (lt_of_lt_of_le I.lt hb),I.nofs hb,.inr (le_trans I.sz hb),fun x c e z=>?_,fun p hp z=>?_⟩
 ·obtain⟨v,q⟩:=I.cell x c e
  exact absurd (lt_of_lt_of_le q.lt (by rw[z];exact hb)) (lt_irrefl _)
 ·exact absurd (lt_of_lt_of_le (lt_size (I.pin p hp).1) (by rw[z];exact hb)) (lt_irrefl _)
structure Turn (P:Program) (w:World) (K:Frag) (tg:Expr) (J:It) (fp:List Addr) (it:Addr) (tn:Nat→Heap→Prop):Prop where
 mem:it∈fp
 obj:∀i h,tn i h→∀b∈fp,∃o,h.get? b=some o∧∀v,o.data ≠ .cell v
 keep:∀i h h',tn i h→(∀b∈fp,∀o,h.get? b=some o→h'.get? b=some o)→tn i h'
 item:∀(X:Cx),X.prog=P→X.w=w→X.K=K→X.calm=true→∀(i:Nat)(pins:List (Addr×Obj)) (s:Shared) (σ:St) (H:Hp) (E:Value→Shared→Prop),Inv X pins σ H s→(∀b∈fp,zah X pins H b)→tn i s.heap→J.go i H →
  wpAny (model P w) X.A (pyNext (.ref it)) (fun r s1=>∃u,r=some u ∧
   wpAny (model P w) X.A (letOwnedTupleGo tg (.ref it) u) (fun _ s2=>∃x H',Inv X pins σ H' s2∧zS x u∧J.yld i H x H'∧tn (i+1) s2.heap∧∀b∈fp,H' b=none) E s1) E s
 done:∀(X:Cx),X.prog=P→X.w=w→X.K=K→X.calm=true→∀(i:Nat)(pins:List (Addr×Obj)) (s:Shared) (σ:St) (H:Hp) (E:Value→Shared→Prop),Inv X pins σ H s→(∀b∈fp,zah X pins H b)→tn i s.heap→J.stop i H →
  wpAny (model P w) X.A (pyNext (.ref it)) (fun r s1=>r=none∧Inv X pins σ H s1) E s
 self:∀(A:Around)(i:Nat)(s:Shared)(Q:Value→Shared→Prop)(E:Value→Shared→Prop),tn i s.heap→Q (.ref it) s→wpAny (model P w) A (pyIter (.ref it)) Q E s
abbrev TI:=St→Hp→(It→Hp→Prop)→Prop
def PIE(X:Cx)(pins:List (Addr×Obj))(σ:St)(tg:Expr)(R:It→Hp→Prop)(itv:Value)(s2:Shared):Prop :=
 ∃(it:Addr)(fp:List Addr)(tn:Nat→Heap→Prop)(J:It)(H':Hp),itv=.ref it∧Inv X pins σ H' s2∧Turn X.prog X.w X.K tg J fp it tn∧tn 0 s2.heap∧(∀b∈fp,zah X pins H' b)∧R J H'
def PI(X:Cx)(tg iter:Expr)(wi:TI):Prop :=
 ∀(pins:List (Addr×Obj)) (s:Shared) (σ:St) (H:Hp) (R:It→Hp→Prop),Inv X pins σ H s→wi σ H R →
  wpAny (model X.prog X.w) X.A (eval iter X.env) (fun v s1=>wpAny (model X.prog X.w) X.A (pyIter v) (PIE X pins σ tg R) X.xe s1) X.xe s
theorem go_of{M:Model}{A:Around}{E:Value→Shared→Prop}{s:Shared}{tg:Expr}{it:Addr}{u:Value}{o:Obj}{n:String}{vs:Array Value}{Q:Unit→Shared→Prop}(ho:s.heap.get? it=some o)(hc:o.cls=.type n)(hd:o.data=.fields vs)
 (hn : ["enumerate","zip","dict_itemiterator","dict_reverseitemiterator","odict_iterator","itertools.zip_longest","itertools.pairwise"].contains n=false) (hQ:Q () s):wpAny M A (letOwnedTupleGo tg (.ref it) u) Q E s:=by
 unfold letOwnedTupleGo
 cases tg <;> first
  | exact wpAny_pure hQ
  | (cases u <;> first
      | exact wpAny_pure hQ
      | (refine wpAny_bind (wpAny_load ho ?_)
         rw[hc,hd]
         show wpAny M A (if(["enumerate","zip","dict_itemiterator","dict_reverseitemiterator","odict_iterator","itertools.zip_longest","itertools.pairwise"].contains n && vs[0]? == some (rawInt _))=true then _ else _) Q E s
         rw[if_neg (by intro h;rw[hn,Bool.false_and] at h;cases h)]
         exact wpAny_pure hQ))
def Itl(K:Frag)(a:Addr):It :=
 ⟨fun i H=>∃xs x,SqL K H a xs∧xs[i]? = some x,fun i H x H'=>H'=H∧∀xs,SqL K H a xs→xs[i]? = some x,fun i H=>∃xs,SqL K H a xs∧xs.length≤i⟩
def Itr(lo:Int)(n:Nat):It:=⟨fun i _=>i<n,fun i H x H'=>H'=H∧x=.int (lo+i),fun i _=>n≤i⟩
theorem turn_list{P:Program}{w:World}{K:Frag}{tg:Expr}(a it:Addr):Turn P w K tg (Itl K a) [it] it (fun i h=>h.IsListIter it a i) where
 mem:=by simp
 obj:=fun i h st b hb=>by
  have e:b=it:=by simpa using hb
  subst e
  obtain⟨o,e,c,d⟩:=st
  exact⟨o,e,fun v z=>by rw[d] at z;cases z⟩
 keep:=fun i h h' st k=>st.at fun o e=>k it (by simp) o e
 item:=by
  intro X hP hw hK hc i pins s σ H E I hf st hg
  subst hP hw hK
  obtain⟨xs,x,hq,hx⟩:=hg
  obtain⟨its,rv,p,hz⟩:=I.list hq
  obtain⟨u,hu,ru⟩:=rv.get hx
  obtain⟨f0,f1,f2,f3,f4,f5⟩:=hf it (by simp)
  refine wpAny_pyNext_list_item st p.isList (x:=u) (by simpa using hu) fun h' st' sb=>?_
  have I1:Inv X pins σ H { s with heap:=h' }:=I.turned (t':=s.toks) (fun b o hb e=>(sb.2 b hb).trans e) f0 f1 f3 f4 f5
  obtain⟨o,e,c,d⟩:=id st'
  exact⟨u,rfl,go_of (s:={ s with heap:=h' }) e c d (by decide) ⟨x,H,I1,ru,⟨rfl,fun ys hy=>by rw[I.list_inj hy hq];exact hx⟩,st',fun b hb=>(hf b hb).1⟩⟩
 done:=by
  intro X hP hw hK hc i pins s σ H E I hf st hg
  subst hP hw hK
  obtain⟨xs,hq,hx⟩:=hg
  obtain⟨its,rv,p,hz⟩:=I.list hq
  obtain⟨f0,f1,f2,f3,f4,f5⟩:=hf it (by simp)
  have hl:=rv.length
  exact wpAny_pyNext_list_end (I.ok.hd hc) st p.isList (by simp;omega) fun h' eb=>⟨rfl,I.turned (t':=s.toks) (fun b o hb e=>eb b o hb e) f0 f1 f3 f4 f5⟩
 self:=fun _ _ _ _ _ st h=>wpAny_pyIter_listiter st h
theorem turn_range{P:Program}{w:World}{K:Frag}{tg:Expr}(it:Addr)(lo:Int)(n:Nat):Turn P w K tg (Itr lo n) [it] it (fun i h=>IsRangeIter h it (lo+(i:Nat)*1) ((n:Int)-(i:Nat)) 1) where
 mem:=by simp
 obj:=fun i h st b hb=>by
  have e:b=it:=by simpa using hb
  subst e
  exact⟨_,st,fun v z=>by
   have z':Data.fields _=Data.cell v:=z
   cases z'⟩
 keep:=fun i h h' st k=>k it (by simp) _ st
 item:=by
  intro X hP hw hK hc i pins s σ H E I hf st hg
  subst hP hw hK
  obtain⟨f0,f1,f2,f3,f4,f5⟩:=hf it (by simp)
  have W:=Walks.range (prog:=X.prog) (w:=X.w) (I.ok.hd hc) it lo 1 n
  refine W.item i s _ _ hg st fun v h' tk hv st' kk=>?_
  obtain⟨t,rfl⟩:=hv
  have I1:Inv X pins σ H { s with heap:=h',toks:=tk }:=I.turned (fun b o hb e=>kk b o (by simpa using hb) e) f0 f1 f3 f4 f5
  refine⟨_,rfl,go_of (s:={ s with heap:=h',toks:=tk }) (n:= "range_iterator") st' rfl rfl (by decide) ⟨.int (lo+i),H,I1,⟨t,?_⟩,⟨rfl,rfl⟩,st',fun b hb=>(hf b hb).1⟩⟩
  rw[Int.mul_one]
 done:=by
  intro X hP hw hK hc i pins s σ H E I hf st hg
  subst hP hw hK
  obtain⟨f0,f1,f2,f3,f4,f5⟩:=hf it (by simp)
  exact wpAny_pyNext_range_end (I.ok.hd hc) st (by have:n≤i:=hg;omega) fun h' eb=>⟨rfl,I.turned (t':=s.toks) (fun b o hb e=>eb b o hb e) f0 f1 f3 f4 f5⟩
 self:=fun _ _ _ _ _ st h=>wpAny_pyIter_rangeiter st h
section
variable {X:Cx}{tg:Expr}
def iList(K:Frag)(tl:TE):TI:=fun σ H R=>tl σ H fun x H1=>∃a,x=.ref a∧(∃xs,SqL K H1 a xs)∧R (Itl K a) H1
theorem zE{l:Expr}{tl:TE}(hl:PE X l tl):PI X tg l (iList X.K tl):=by
 intro pins s σ H R I h
 refine thn (hl pins s σ H _ I h) fun v s1 ⟨x,H1,I1,r1,q1⟩=>?_
 obtain⟨a,e,⟨xs,hq⟩,q⟩:=q1
 subst e
 cases r1
 obtain⟨its,rv,p,hz⟩:=I1.list hq
 refine wpAny_pyIter_list p.isList ?_
 refine⟨s1.heap.objs.size,[s1.heap.objs.size],_,_,H1,rfl,I1.kept (t':=s1.toks) fun b o e=>get?_push_of_some _ e,turn_list a _,⟨_,get?_push_size _ rfl,rfl,rfl⟩,fun b hb=>?_,q⟩
 have e:b=s1.heap.objs.size:=by simpa using hb
 subst e
 exact I1.fpOk (le_refl _) (I1.hok.fresh (le_refl _))
theorem ziu{pins:List (Addr×Obj)}{σ:St}{H:Hp}{s:Shared}{R:It→Hp→Prop}{E:Value→Shared→Prop}{lo hi:Int}{t u v:Tok}{tk:Nat}(I:Inv X pins σ H s)(h1 : -(2 ^ 62)≤lo)(h2:lo<2 ^ 62)(h3 : -(2 ^ 62)≤hi)(h4:hi<2 ^ 62)
 (q:R (Itr lo (hi-lo).toNat) H):wpAny (model X.prog X.w) X.A (pyIter (.ref s.heap.objs.size)) (PIE X pins σ tg R) E { s with heap:=s.heap.push { cls:=.type "range",data:=.fields #[.int lo t,.int hi u,.int 1 v] },toks:=tk }:=by
 refine wpAny_pyIter_range (IsRange.new ..) (small_one h1 h2 h3 h4) ?_
 have I1:Inv X pins σ H { s with heap:=s.heap.push { cls:=.type "range",data:=.fields #[.int lo t,.int hi u,.int 1 v] },toks:=tk }:=I.kept fun b o e=>get?_push_of_some _ e
 refine⟨(s.heap.push { cls:=.type "range",data:=.fields #[.int lo t,.int hi u,.int 1 v] }).objs.size,[(s.heap.push { cls:=.type "range",data:=.fields #[.int lo t,.int hi u,.int 1 v] }).objs.size],_,_,H,rfl,
  I1.kept (t':=tk) fun b o e=>get?_push_of_some _ e,turn_range _ lo (hi-lo).toNat,?_,fun b hb=>?_,q⟩
 ·have e1:lo+((0:Nat):Int)*1=lo:=by simp
  have e2:(((hi-lo).toNat:Nat):Int)-((0:Nat):Int)=Builtin.Range.rangeSize lo hi 1:=by rw[rangeSize_one];split <;> omega
  show IsRangeIter _ _ (lo+((0:Nat):Int)*1) ((((hi-lo).toNat:Nat):Int)-((0:Nat):Int)) 1
  rw[e1,e2]
  exact get?_push_size _ rfl
 ·have e:b=(s.heap.push { cls:=.type "range",data:=.fields #[.int lo t,.int hi u,.int 1 v] }).objs.size:=by simpa using hb
  subst e
  exact I1.fpOk (le_refl _) (I1.hok.fresh (le_refl _))
def iRng1(ta:TA):TI:=fun σ H R=>ta σ H fun vs H1=>∃j:Int,vs=[.int j] ∧ -(2 ^ 62)≤j∧j<2 ^ 62∧R (Itr 0 j.toNat) H1
def iRng2(ta:TA):TI:=fun σ H R=>ta σ H fun vs H1=>∃i j:Int,vs=[.int i,.int j]∧(-(2 ^ 62)≤i∧i<2 ^ 62 ∧ -(2 ^ 62)≤j∧j<2 ^ 62)∧R (Itr i (j-i).toNat) H1
theorem ym{a:Expr}{ta:TA}{p pos:Pos}(hg:Gl X "range")(hm:X.mg "range"=none)(ha:PA X [a] ta)(hs:starEach [a] X.env=[(false,eval a X.env)]:=by rfl):PI X tg (.Call (.Name "range" p) [a] [] pos) (iRng1 ta):=by
 intro pins s σ H R I h
 refine Call_ (zch I hg hm boot_range (callWith_type1 (thn (ha pos pins s σ H _ I h) fun us s1 ⟨vs,H1,I1,r1,q1⟩=>?_) hs rfl))
 obtain⟨j,e,q1,q2,q⟩:=q1
 subst e
 cases r1 with
 | cons r rr =>
   cases rr
   obtain⟨t,rfl⟩:=r
   exact call_range_1 (ziu I1 (by omega) (by omega) q1 q2 (by simpa using q))
theorem zba{a b:Expr}{ta:TA}{p pos:Pos}(hg:Gl X "range")(hm:X.mg "range"=none)(ha:PA X [a,b] ta)(hs:starEach [a,b] X.env=[(false,eval a X.env),(false,eval b X.env)]:=by rfl)(hs2:starEach [b] X.env=[(false,eval b X.env)]:=by rfl):
 PI X tg (.Call (.Name "range" p) [a,b] [] pos) (iRng2 ta):=by
 intro pins s σ H R I h
 refine Call_ (zch I hg hm boot_range (callWith_type1 (thn (ha pos pins s σ H _ I h) fun us s1 ⟨vs,H1,I1,r1,q1⟩=>?_) (by rw[hs,hs2]) (by rw[hs2];rfl)))
 obtain⟨i,j,e,⟨q1,q2,q3,q4⟩,q⟩:=q1
 subst e
 cases r1 with
 | cons r rr =>
   cases rr with
   | cons r' rr =>
     cases rr
     obtain⟨t,rfl⟩:=r
     obtain⟨t',rfl⟩:=r'
     exact call_range_2 (ziu I1 q1 q2 q3 q4 q)
def tFor(wi:TI)(g:TG)(tb:TS):TS:=fun D σ H=>wi σ H fun J H1=>∃W:Nat→Nat→St→Hp→Prop,(∃m,W 0 m σ H1)∧∀i m σ H,W i m σ H →
 (J.stop i H∧D.nx σ H)∨(J.go i H∧∃N:St→Hp→Prop,(∀σ' H',N σ' H'→∃m',m'<m∧W (i+1) m' σ' H')∧∀x H',J.yld i H x H'→g x σ H' fun σ2 H2=>tb { D with nx:=N,ct:=N,bk:=D.nx } σ2 H2)
def zg2(fp:List Addr)(h:Heap):List (Addr×Obj):=fp.filterMap fun b=>(h.get? b).map fun o=>(b,o)
theorem yB{fp:List Addr}{h:Heap}{b:Addr}{o:Obj}(hb:b∈fp)(e:h.get? b=some o):(b,o)∈zg2 fp h:=List.mem_filterMap.mpr ⟨b,hb,by rw[e];rfl⟩
theorem of_pinsAt{fp:List Addr}{h:Heap}{p:Addr×Obj}(hp:p∈zg2 fp h):p.1∈fp∧h.get? p.1=some p.2:=by
 obtain⟨b,hb,e⟩:=List.mem_filterMap.mp hp
 cases q:h.get? b with
 | none=>rw[q] at e;cases e
 | some o =>
   rw[q] at e
   have e':(b,o)=p:=Option.some.inj e
   subst e'
   exact⟨hb,q⟩
theorem Inv.pinned{pins:List (Addr×Obj)}{σ:St}{H:Hp}{s:Shared}{fp:List Addr}(I:Inv X pins σ H s)(hf:∀b∈fp,zah X pins H b)(ho:∀b∈fp,∃o,s.heap.get? b=some o∧∀v,o.data ≠ .cell v):Inv X (pins++zg2 fp s.heap) σ H s :=
 I.pins_of fun p hp=>(List.mem_append.mp hp).elim (fun z=>I.pin p (mem_append_right _ z)) fun z=>by
  obtain⟨hb,e⟩:=of_pinsAt z
  obtain⟨f0,f1,f2,_⟩:=hf p.1 hb
  obtain⟨o,e',d⟩:=ho p.1 hb
  rw[e] at e';cases e'
  exact⟨e,f0,f1,f2,d⟩
theorem Inv.unpinned{pins pl:List (Addr×Obj)}{σ:St}{H:Hp}{s:Shared}(I:Inv X (pins++pl) σ H s):Inv X pins σ H s:=I.pins_of fun p hp=>I.pin p (mem_append_right _ (mem_append_left _ hp))
theorem yT{iter:Expr}{body:List Stmt}{wi:TI}{g:TG}{tb:TS}{pos:Pos}(hp:PassesOwn (model X.prog X.w) X.A X.env X.xe)(hc:X.calm=true)(hi:PI X tg iter wi)(hg:PG X tg g)(hb:PSs X body tb)
 (hs:∀x,foldedSetIterable iter X.env x=pure x:=by intro _;rfl):PS X (.For tg iter body [] pos) (tFor wi g tb):=by
 intro pins s σ H D I h
 refine wpAny_For (thn (hi pins s σ H _ I h) fun v s1 h1=>thn h1 fun itv s2 h2=>?_) hs
 obtain⟨it,fp,tn,J,H2,e,I2,T,st2,f2,W,⟨m0,w0⟩,turn⟩:=h2
 subst e
 -- what stays true of the iterator's objects through the loop
 have stat:∀{H':Hp},(∀b∈fp,H' b=none)→∀b∈fp,zah X pins H' b:=fun hn b hb=>⟨hn b hb,(f2 b hb).2⟩
 refine codeAny_forLoop_any (fun n s'=>∃i σ' H',Inv X pins σ' H' s'∧tn i s'.heap∧(∀b∈fp,H' b=none)∧W i n σ' H') ?_ m0 ⟨0,σ,H2,I2,st2,fun b hb=>(f2 b hb).1,w0⟩
 rintro n s3 ⟨i,σ3,H3,I3,st3,fr3,w3⟩
 rcases turn i n σ3 H3 w3 with⟨stop,qn⟩|⟨go,N,hN,step⟩
 ·refine wpAny_passesOwn hp (thn (T.done X rfl rfl rfl hc i pins s3 σ3 H3 X.xe I3 (stat fr3) st3 stop) fun r s4 ⟨hr,I4⟩=>?_)
  subst hr
  exact wpAny_execs_nil ⟨σ3,H3,I4,qn⟩
 ·refine wpAny_passesOwn hp (thn (T.item X rfl rfl rfl hc i pins s3 σ3 H3 X.xe I3 (stat fr3) st3 go) fun r s4 ⟨u,hr,h4⟩=>?_)
  subst hr
  refine wpAny_passesOwn hp (thn h4 fun _ s5 ⟨x,H5,I5,r5,y5,st5,fr5⟩=>?_)
  have I5':=I5.pinned (stat fr5) (T.obj _ _ st5)
  refine wpAny_passesOwn hp (thn (hg _ s5 σ3 H5 x u _ I5' r5 (step x H5 y5)) fun _ s6 ⟨σ6,H6,I6,q6⟩=>?_)
  refine wpAny_passesOwn hp (thn (hb _ s6 σ6 H6 _ I6 q6) fun f s7 q7=>?_)
  have again:∀{σ7:St}{H7:Hp},Inv X (pins++zg2 fp s5.heap) σ7 H7 s7→N σ7 H7→∃m,m<n∧∃i σ' H',Inv X pins σ' H' s7∧tn i s7.heap∧(∀b∈fp,H' b=none)∧W i m σ' H':=fun {σ7 H7} I7 n7=>by
   obtain⟨m',hm,w7⟩:=hN σ7 H7 n7
   refine⟨m',hm,i+1,σ7,H7,I7.unpinned,T.keep _ _ _ st5 fun b hb o e=>(I7.pin (b,o) (mem_append_right _ (mem_append_right _ (yB hb e)))).1,fun b hb=>?_,w7⟩
   obtain⟨o,e,d⟩:=T.obj _ _ st5 b hb
   exact(I7.pin (b,o) (mem_append_right _ (mem_append_right _ (yB hb e)))).2.1
  cases f with
  | next=>obtain⟨σ7,H7,I7,n7⟩:=q7;exact again I7 n7
  | cont=>obtain⟨σ7,H7,I7,n7⟩:=q7;exact again I7 n7
  | brk=>obtain⟨σ7,H7,I7,q7⟩:=q7;exact⟨σ7,H7,I7.unpinned,q7⟩
  | ret v=>obtain⟨x7,σ7,H7,I7,r7,q7⟩:=q7;exact⟨x7,σ7,H7,I7.unpinned,r7,q7⟩
end
theorem ziH{K:Frag}{a:Addr}{xs:List V}{g:TG}{tb:TS}{D:Ends}{σ:St}{H:Hp}(Pv:Nat→St→Hp→Prop)(h0:Pv 0 σ H)(hl:∀i σ H,i≤xs.length→Pv i σ H→SqL K H a xs)
 (hs:∀i x σ H,xs[i]? = some x→Pv i σ H→g x σ H fun σ2 H2=>tb { D with nx:=Pv (i+1),ct:=Pv (i+1),bk:=D.nx } σ2 H2) (hd:∀σ H,Pv xs.length σ H→D.nx σ H) :
 ∃W:Nat→Nat→St→Hp→Prop,(∃m,W 0 m σ H)∧∀i m σ H,W i m σ H →
  ((Itl K a).stop i H∧D.nx σ H)∨((Itl K a).go i H∧∃N:St→Hp→Prop,(∀σ' H',N σ' H'→∃m',m'<m∧W (i+1) m' σ' H')∧∀x H',(Itl K a).yld i H x H'→g x σ H' fun σ2 H2=>tb { D with nx:=N,ct:=N,bk:=D.nx } σ2 H2):=by
 refine⟨fun i m σ H=>m=xs.length-i∧i≤xs.length∧Pv i σ H,⟨xs.length,by simp,zero_le _,h0⟩,?_⟩
 rintro i m σ H ⟨rfl,hi,p⟩
 have q:=hl i σ H hi p
 by_cases hlt:i<xs.length
 ·refine .inr ⟨⟨xs,xs[i],q,by simp[hlt]⟩,Pv (i+1),fun σ' H' p'=>⟨xs.length-(i+1),by omega,rfl,hlt,p'⟩,fun x H' y=>?_⟩
  obtain⟨e,y⟩:=y
  subst e
  exact hs i x σ _ (y xs q) p
 ·have e:i=xs.length:=by omega
  subst e
  exact .inl ⟨⟨xs,q,le_refl _⟩,hd σ H p⟩
theorem zX{lo:Int}{n:Nat}{g:TG}{tb:TS}{D:Ends}{σ:St}{H:Hp}(Pv:Nat→St→Hp→Prop)(h0:Pv 0 σ H)
 (hs:∀i σ H,i<n→Pv i σ H→g (.int (lo+i)) σ H fun σ2 H2=>tb { D with nx:=Pv (i+1),ct:=Pv (i+1),bk:=D.nx } σ2 H2) (hd:∀σ H,Pv n σ H→D.nx σ H) :
 ∃W:Nat→Nat→St→Hp→Prop,(∃m,W 0 m σ H)∧∀i m σ H,W i m σ H →
  ((Itr lo n).stop i H∧D.nx σ H)∨((Itr lo n).go i H∧∃N:St→Hp→Prop,(∀σ' H',N σ' H'→∃m',m'<m∧W (i+1) m' σ' H')∧∀x H',(Itr lo n).yld i H x H'→g x σ H' fun σ2 H2=>tb { D with nx:=N,ct:=N,bk:=D.nx } σ2 H2):=by
 refine⟨fun i m σ H=>m=n-i∧i≤n∧Pv i σ H,⟨n,by simp,zero_le _,h0⟩,?_⟩
 rintro i m σ H ⟨rfl,hi,p⟩
 by_cases hlt:i<n
 ·refine .inr ⟨hlt,Pv (i+1),fun σ' H' p'=>⟨n-(i+1),by omega,rfl,hlt,p'⟩,fun x H' y=>?_⟩
  obtain⟨e,y⟩:=y
  subst e y
  exact hs i σ _ hlt p
 ·have e:i=n:=by omega
  subst e
  exact .inl ⟨le_refl _,hd σ H p⟩
abbrev R2:=V→V→Hp→VK→Prop
def OpR(X:Cx)(f:Value→Value→Sem Value)(r:R2):Prop :=
 ∀(pins:List (Addr×Obj)) (s:Shared) (σ:St) (H:Hp) (x y:V) (v u:Value) (Q:VK),Inv X pins σ H s→zS x v→zS y u→r x y H Q →
  wpAny (model X.prog X.w) X.A (f v u) (EP X pins σ Q) X.xe s
def UnR(X:Cx)(f:Value→Sem Value)(r:V→Hp→VK→Prop):Prop :=
 ∀(pins:List (Addr×Obj)) (s:Shared) (σ:St) (H:Hp) (x:V) (v:Value) (Q:VK),Inv X pins σ H s→zS x v→r x H Q →
  wpAny (model X.prog X.w) X.A (f v) (EP X pins σ Q) X.xe s
def zaG(X:Cx)(f:Value)(r:List V→Hp→VK→Prop):Prop :=
 ∀(pins:List (Addr×Obj)) (s:Shared) (σ:St) (H:Hp) (xs:List V) (us:List Value) (Q:VK),Inv X pins σ H s→zF xs us→r xs H Q →
  wpAny (model X.prog X.w) X.A (call f us) (EP X pins σ Q) X.xe s
def tOp(r:R2)(ta tb:TE):TE:=fun σ H Q=>ta σ H fun x H1=>tb σ H1 fun y H2=>r x y H2 Q
def tUn(r:V→Hp→VK→Prop)(ta:TE):TE:=fun σ H Q=>ta σ H fun x H1=>r x H1 Q
def rI(C:Int→Int→Prop)(g:Int→Int→V):R2:=fun x y H Q=>∃i j,x=.int i∧y=.int j∧C i j∧Q (g i j) H
def rI0(g:Int→Int→V):R2:=fun x y H Q=>∃i j,x=.int i∧y=.int j∧Q (g i j) H
def rU(g:Int→V):V→Hp→VK→Prop:=fun x H Q=>∃i,x=.int i∧Q (g i) H
section
variable {X:Cx}{a b c:Expr}{ta tb tc:TE}{pos:Pos}
theorem binT(ha:PE X a ta)(hb:PE X b tb){pins:List (Addr×Obj)}{s:Shared}{σ:St}{H:Hp}{R:V→V→Hp→Prop}(I:Inv X pins σ H s)
 (h:ta σ H fun x H1=>tb σ H1 fun y H2=>R x y H2) {Q:Value→Shared→Prop} {f:Value→Value→Sem Value}
 (hf:∀v u s2 x y H2,Inv X pins σ H2 s2→zS x v→zS y u→R x y H2→wpAny (model X.prog X.w) X.A (f v u) Q X.xe s2) :
 wpAny (model X.prog X.w) X.A (eval a X.env) (fun v s₁=>wpAny (model X.prog X.w) X.A (eval b X.env) (fun u s₂=>wpAny (model X.prog X.w) X.A (f v u) Q X.xe s₂) X.xe s₁) X.xe s:=by
 refine thn (ha pins s σ H _ I h) fun v s1 ⟨x,H1,I1,r1,q1⟩=>?_
 refine thn (hb pins s1 σ H1 _ I1 q1) fun u s2 ⟨y,H2,I2,r2,q2⟩=>?_
 exact hf v u s2 x y H2 I2 r1 r2 q2
theorem zv{op:Operator}{r:R2}(ho:OpR X (binaryOp op) r)(ha:PE X a ta)(hb:PE X b tb):PE X (.BinOp a op b pos) (tOp r ta tb):=by
 intro pins s σ H Q I h
 exact wpAny_BinOp (binT ha hb I h fun v u s2 x y H2 I2 rx ry q=>ho pins s2 σ H2 x y v u Q I2 rx ry q)
theorem pe_un{op:UnaryOp}{r:V→Hp→VK→Prop}(ho:UnR X (unaryOp op) r)(ha:PE X a ta):PE X (.UnaryOp op a pos) (tUn r ta):=by
 intro pins s σ H Q I h
 exact UnaryOp_ (thn (ha pins s σ H _ I h) fun v s1 ⟨x,H1,I1,r1,q1⟩=>ho pins s1 σ H1 x v Q I1 r1 q1)
theorem opI{f:Value→Value→Sem Value}{C:Int→Int→Prop}{g:Int→Int→Int}
 (rule:∀(i j:Int)(t u:Tok)(s:Shared)(Q:Value→Shared→Prop)(E:Value→Shared→Prop),C i j→Q (.int (g i j) s.toks) { s with toks:=s.toks+1 }→wpAny (model X.prog X.w) X.A (f (.int i t) (.int j u)) Q E s) :
 OpR X f (rI C fun i j=>.int (g i j)):=by
 intro pins s σ H x y v u Q I rx ry h
 obtain⟨i,j,rfl,rfl,hc,q⟩:=h
 obtain⟨t,rfl⟩:=rx
 obtain⟨t',rfl⟩:=ry
 exact rule i j t t' s _ _ hc ⟨.int (g i j),H,I.tok _,⟨_,rfl⟩,q⟩
theorem opI0{f:Value→Value→Sem Value}{g:Int→Int→Int}
 (rule:∀(i j:Int)(t u:Tok)(s:Shared)(Q:Value→Shared→Prop)(E:Value→Shared→Prop),Q (.int (g i j) s.toks) { s with toks:=s.toks+1 }→wpAny (model X.prog X.w) X.A (f (.int i t) (.int j u)) Q E s) :
 OpR X f (rI0 fun i j=>.int (g i j)):=by
 intro pins s σ H x y v u Q I rx ry h
 obtain⟨i,j,rfl,rfl,q⟩:=h
 obtain⟨t,rfl⟩:=rx
 obtain⟨t',rfl⟩:=ry
 exact rule i j t t' s _ _ ⟨.int (g i j),H,I.tok _,⟨_,rfl⟩,q⟩
theorem opB0{f:Value→Value→Sem Value}{g:Int→Int→Bool}
 (rule:∀(i j:Int)(t u:Tok)(s:Shared)(Q:Value→Shared→Prop)(E:Value→Shared→Prop),Q (.bool (g i j)) s→wpAny (model X.prog X.w) X.A (f (.int i t) (.int j u)) Q E s) :
 OpR X f (rI0 fun i j=>.bl (g i j)):=by
 intro pins s σ H x y v u Q I rx ry h
 obtain⟨i,j,rfl,rfl,q⟩:=h
 obtain⟨t,rfl⟩:=rx
 obtain⟨t',rfl⟩:=ry
 exact rule i j t t' s _ _ ⟨.bl (g i j),H,I,rfl,q⟩
def CDiv(i j:Int):Prop:=0<j∧j<1073741824
def CMul(i j:Int):Prop:=(-(2 ^ 64)<i∧i<2 ^ 64)∨(-(2 ^ 64)<j∧j<2 ^ 64)
theorem CMul.ok{i j:Int}(h:CMul i j):IntMulOk i j:=by
 rcases h with⟨h1,h2⟩|⟨h1,h2⟩
 ·exact .of_left (intBits_le_64 h1 h2)
 ·exact .of_right (intBits_le_64 h1 h2)
theorem zZ:OpR X (binaryOp .Add) (rI0 fun i j=>.int (i+j)):=opI0 fun _ _ _ _ _ _ _ q=>add_int q
theorem za3:OpR X (binaryOp .Sub) (rI0 fun i j=>.int (i-j)):=opI0 fun _ _ _ _ _ _ _ q=>sub_int q
theorem zcT:OpR X (binaryOp .Mult) (rI CMul fun i j=>.int (i*j)):=opI fun _ _ _ _ _ _ _ hc q=>mul_int q hc.ok
theorem zca:OpR X (binaryOp .FloorDiv) (rI CDiv fun i j=>.int (i/j)):=opI fun i j _ _ _ _ _ hc q=>by
 have h1:(0:Int)<j:=hc.1
 have h2:j<1073741824:=hc.2
 exact floordiv_int (by omega) (by rw[Int.fdiv_eq_ediv_of_nonneg i (by omega)];exact q) (.inl (PyProof.noPylong_small (by omega)))
theorem yV:OpR X (binaryOp .Mod) (rI (fun _ j=>0<j) fun i j=>.int (i%j)):=opI fun i j _ _ _ _ _ hc q=>by
 have h1:(0:Int)<j:=hc
 exact mod_int' (by omega) (by rw[Int.fmod_eq_emod_of_nonneg i (by omega)];exact q)
theorem unI{f:Value→Sem Value}{g:Int→Int}
 (rule:∀(i:Int)(t:Tok)(s:Shared)(Q:Value→Shared→Prop)(E:Value→Shared→Prop),Q (.int (g i) s.toks) { s with toks:=s.toks+1 }→wpAny (model X.prog X.w) X.A (f (.int i t)) Q E s) :
 UnR X f (rU fun i=>.int (g i)):=by
 intro pins s σ H x v Q I rx h
 obtain⟨i,rfl,q⟩:=h
 obtain⟨t,rfl⟩:=rx
 exact rule i t s _ _ ⟨.int (g i),H,I.tok _,⟨_,rfl⟩,q⟩
theorem un_neg:UnR X (unaryOp .USub) (rU fun i=>.int (-i)):=unI fun _ _ _ _ _ q=>neg_int q
end
def scal:V→V→Bool
 | .non,.non=>true | .non,.int _=>true | .int _,.non=>true | .non,.bl _=>true | .bl _,.non=>true | .non,.str _=>true | .str _,.non=>true
 | .int _,.int _=>true | .bl _,.bl _=>true | .str _,.str _=>true | .byt _,.byt _=>true
 | .int _,.str _=>true | .str _,.int _=>true | .bl _,.str _=>true | .str _,.bl _=>true
 | _,_=>false
def rEq:R2:=fun x y H Q=>scal x y=true∧Q (.bl (decide (x=y))) H
def rNe:R2:=fun x y H Q=>scal x y=true∧Q (.bl (!decide (x=y))) H
theorem dec_int{i j:Int}:decide (V.int i=V.int j)=(i==j):=by
 rw[Bool.eq_iff_iff]
 simp
theorem dec_bl{i j:Bool}:decide (V.bl i=V.bl j)=(i==j):=by
 rw[Bool.eq_iff_iff]
 simp
theorem dec_str{i j:Str}:decide (V.str i=V.str j)=(i==j):=by
 rw[Bool.eq_iff_iff]
 simp
theorem dec_byt{i j:Array UInt8}:decide (V.byt i=V.byt j)=(i.toList==j.toList):=by
 rw[Bool.eq_iff_iff]
 cases i
 cases j
 simp
section
variable {X:Cx}{a b c:Expr}{ta tb tc:TE}{pos:Pos}
theorem zT{pins:List (Addr×Obj)}{σ:St}{H:Hp}{s:Shared}{Q:VK}{k k':Bool}(I:Inv X pins σ H s)(q:Q (.bl k) H)(e:k=k'):EP X pins σ Q (.bool k') s:=by
 subst e
 exact⟨.bl k,H,I,rfl,q⟩
theorem zbO:OpR X (compareOp .Eq) rEq:=by
 intro pins s σ H x y v u Q I rx ry h
 obtain⟨hs,q⟩:=h
 cases x with
 | non =>
   cases rx
   cases y with
   | non=>cases ry;exact PySem.EqNone.eq_none_none (zT I q (by simp))
   | bl j=>cases ry;exact PySem.EqNone.eq_none_bool (zT I q (by simp))
   | int j=>obtain⟨t',rfl⟩:=ry;exact PySem.EqNone.eq_none_int (zT I q (by simp))
   | str j=>obtain⟨t',rfl⟩:=ry;exact PySem.EqNone.eq_none_str (zT I q (by simp))
   | _=>exact absurd (show false=true from hs) Bool.false_ne_true
 | bl i =>
   cases rx
   cases y with
   | non=>cases ry;exact PySem.EqNone.eq_bool_none (zT I q (by simp))
   | bl j=>cases ry;exact eq_bool (zT I q dec_bl)
   | str j=>obtain⟨t',rfl⟩:=ry;exact PySem.EqMixed.eq_bool_str (zT I q (by simp))
   | _=>exact absurd (show false=true from hs) Bool.false_ne_true
 | int i =>
   obtain⟨t,rfl⟩:=rx
   cases y with
   | non=>cases ry;exact PySem.EqNone.eq_int_none (zT I q (by simp))
   | int j=>obtain⟨t',rfl⟩:=ry;exact eq_int (zT I q dec_int)
   | str j=>obtain⟨t',rfl⟩:=ry;exact PySem.EqMixed.eq_int_str (zT I q (by simp))
   | _=>exact absurd (show false=true from hs) Bool.false_ne_true
 | str i =>
   obtain⟨t,rfl⟩:=rx
   cases y with
   | non=>cases ry;exact PySem.EqNone.eq_str_none (zT I q (by simp))
   | bl j=>cases ry;exact PySem.EqMixed.eq_str_bool (zT I q (by simp))
   | int j=>obtain⟨t',rfl⟩:=ry;exact PySem.EqMixed.eq_str_int (zT I q (by simp))
   | str j=>obtain⟨t',rfl⟩:=ry;exact eq_str (zT I q dec_str)
   | _=>exact absurd (show false=true from hs) Bool.false_ne_true
 | byt i =>
   obtain⟨t,rfl⟩:=rx
   cases y with
   | byt j=>obtain⟨t',rfl⟩:=ry;exact PySem.W.eq_bytes (zT I q dec_byt)
   | _=>exact absurd (show false=true from hs) Bool.false_ne_true
 | _=>cases y <;> exact absurd (show false=true from hs) Bool.false_ne_true
theorem yK:OpR X (compareOp .NotEq) rNe:=by
 intro pins s σ H x y v u Q I rx ry h
 obtain⟨hs,q⟩:=h
 cases x with
 | non =>
   cases rx
   cases y with
   | non=>cases ry;exact PySem.EqNone.ne_none_none (zT I q (by simp))
   | bl j=>cases ry;exact PySem.EqNone.ne_none_bool (zT I q (by simp))
   | int j=>obtain⟨t',rfl⟩:=ry;exact PySem.EqNone.ne_none_int (zT I q (by simp))
   | str j=>obtain⟨t',rfl⟩:=ry;exact PySem.EqNone.ne_none_str (zT I q (by simp))
   | _=>exact absurd (show false=true from hs) Bool.false_ne_true
 | bl i =>
   cases rx
   cases y with
   | non=>cases ry;exact PySem.EqNone.ne_bool_none (zT I q (by simp))
   | bl j=>cases ry;exact ne_bool (zT I q (congrArg not dec_bl))
   | str j=>obtain⟨t',rfl⟩:=ry;exact PySem.EqMixed.ne_bool_str (zT I q (by simp))
   | _=>exact absurd (show false=true from hs) Bool.false_ne_true
 | int i =>
   obtain⟨t,rfl⟩:=rx
   cases y with
   | non=>cases ry;exact PySem.EqNone.ne_int_none (zT I q (by simp))
   | int j=>obtain⟨t',rfl⟩:=ry;exact ne_int (zT I q (congrArg not dec_int))
   | str j=>obtain⟨t',rfl⟩:=ry;exact PySem.EqMixed.ne_int_str (zT I q (by simp))
   | _=>exact absurd (show false=true from hs) Bool.false_ne_true
 | str i =>
   obtain⟨t,rfl⟩:=rx
   cases y with
   | non=>cases ry;exact PySem.EqNone.ne_str_none (zT I q (by simp))
   | bl j=>cases ry;exact PySem.EqMixed.ne_str_bool (zT I q (by simp))
   | int j=>obtain⟨t',rfl⟩:=ry;exact PySem.EqMixed.ne_str_int (zT I q (by simp))
   | str j=>obtain⟨t',rfl⟩:=ry;exact ne_str (zT I q (congrArg not dec_str))
   | _=>exact absurd (show false=true from hs) Bool.false_ne_true
 | byt i =>
   obtain⟨t,rfl⟩:=rx
   cases y with
   | byt j=>obtain⟨t',rfl⟩:=ry;exact PySem.W.ne_bytes (zT I q (congrArg not dec_byt))
   | _=>exact absurd (show false=true from hs) Bool.false_ne_true
 | _=>cases y <;> exact absurd (show false=true from hs) Bool.false_ne_true
theorem ze3:OpR X (compareOp .Lt) (rI0 fun i j=>.bl (decide (i<j))):=opB0 fun _ _ _ _ _ _ _ q=>lt_int q
theorem zed:OpR X (compareOp .LtE) (rI0 fun i j=>.bl (decide (i≤j))):=opB0 fun _ _ _ _ _ _ _ q=>le_int q
theorem zfl:OpR X (compareOp .Gt) (rI0 fun i j=>.bl (decide (j<i))):=opB0 fun _ _ _ _ _ _ _ q=>gt_int q
theorem op_ge:OpR X (compareOp .GtE) (rI0 fun i j=>.bl (decide (j≤i))):=opB0 fun _ _ _ _ _ _ _ q=>ge_int q
theorem op_isN:OpR X (compareOp .Is) (fun x y H Q=>y=.non∧Q (.bl (decide (x=.non))) H):=by
 intro pins s σ H x y v u Q I rx ry h
 obtain⟨rfl,q⟩:=h
 cases ry
 refine is_none_gen (zT I q ?_)
 cases x <;> first
  | (cases rx;rfl)
  | (obtain⟨t,rfl⟩:=rx;rfl)
theorem op_notN:OpR X (compareOp .IsNot) (fun x y H Q=>y=.non∧Q (.bl (!decide (x=.non))) H):=by
 intro pins s σ H x y v u Q I rx ry h
 obtain⟨rfl,q⟩:=h
 cases ry
 refine isnot_none_gen (zT I q ?_)
 cases x <;> first
  | (cases rx;rfl)
  | (obtain⟨t,rfl⟩:=rx;rfl)
theorem zt(b:Expr){op:CmpOp}(h:op ≠ .In:=by decide)(h2:op ≠ .NotIn:=by decide):behindInMarks op b=false:=by
 have e1:(op==CmpOp.In)=false:=by cases op <;> first | rfl | exact absurd rfl h
 have e2:(op==CmpOp.NotIn)=false:=by cases op <;> first | rfl | exact absurd rfl h2
 cases b <;> simp[behindInMarks,e1,e2]
theorem zcV{op:CmpOp}{r:R2}(ho:OpR X (compareOp op) r)(ha:PE X a ta)(hb:PE X b tb)(hm:behindInMarks op b=false):PE X (.Compare a [op] [b] pos) (tOp r ta tb):=by
 intro pins s σ H Q I h
 exact wpAny_Compare1 (binT ha hb I h fun v u s2 x y H2 I2 rx ry q=>ho pins s2 σ H2 x y v u Q I2 rx ry q) hm
def tTest(t:TE):TT:=fun σ H Q=>t σ H fun x H'=>∃k,x=.bl k∧Q k H'
theorem zp{op:CmpOp}{r:R2}(ho:OpR X (compareOp op) r)(ha:PE X a ta)(hb:PE X b tb)(hm:behindInMarks op b=false):PT X (.Compare a [op] [b] pos) (tTest (tOp r ta tb)):=by
 intro pins s σ H Q I h
 refine wpAny_isTrue_Compare1 (thn (ha pins s σ H _ I h) fun v s1 ⟨x,H1,I1,r1,q1⟩=>thn (hb pins s1 σ H1 _ I1 q1) fun u s2 ⟨y,H2,I2,r2,q2⟩ =>
  thn (ho pins s2 σ H2 x y v u _ I2 r1 r2 q2) fun c s3 ⟨z,H3,I3,r3,k,e,q3⟩=>?_) hm
 subst e
 cases r3
 exact wpAny_truthy_bool ⟨H3,I3,q3⟩
def tChain(r r':R2)(ta tb tc:TE):TE:=fun σ H Q=>ta σ H fun x H1=>tb σ H1 fun y H2=>r x y H2 fun z H3=>∃k,z=.bl k ∧
 (if k=true then tc σ H3 fun w' H4=>r' y w' H4 Q else Q (.bl false) H3)
theorem zf4{op op':CmpOp}{r r':R2}(ho:OpR X (compareOp op) r)(ho':OpR X (compareOp op') r')(ha:PE X a ta)(hb:PE X b tb)(hc:PE X c tc)
 (hm:lastMarks [op,op'] [b,c]=false:=by with_unfolding_all rfl):PE X (.Compare a [op,op'] [b,c] pos) (tChain r r' ta tb tc):=by
 intro pins s σ H Q I h
 refine Compare_chain (thn (ha pins s σ H _ I h) fun v s1 ⟨x,H1,I1,r1,q1⟩=>chain_link (thn (hb pins s1 σ H1 _ I1 q1) fun u s2 ⟨y,H2,I2,r2,q2⟩ =>
  thn (ho pins s2 σ H2 x y v u _ I2 r1 r2 q2) fun d s3 ⟨z,H3,I3,r3,k,e,q3⟩=>?_)) hm
 subst e
 cases r3
 refine wpAny_truthy_bool ?_
 cases k with
 | false=>exact ite_ff ⟨.bl false,H3,I3,rfl,q3⟩
 | true=>exact ite_tt (chain_last (thn (hc pins s3 σ H3 _ I3 q3) fun w' s4 ⟨z',H4,I4,r4,q4⟩=>ho' pins s4 σ H4 y z' u w' Q I4 r2 r4 q4))
theorem zeL:(sizeLine:Nat)<2 ^ 63:=by rw[sizeLine_eq];decide
theorem zcN:OpR X (binaryOp .Add) (fun x y H Q=>∃i j,x=.str i∧y=.str j∧i.length+j.length≤sizeLine∧Q (.str (i++j)) H):=by
 intro pins s σ H x y v u Q I rx ry h
 obtain⟨i,j,rfl,rfl,hz,q⟩:=h
 obtain⟨t,rfl⟩:=rx
 obtain⟨t',rfl⟩:=ry
 exact add_str (fun t' tk=>⟨.str (i++j),H,I.tok _,⟨_,rfl⟩,q⟩) hz
theorem vals1{x:V}{us:List Value}(r:zF [x] us):∃u,us=[u]∧zS x u:=by
 cases r with
 | cons r1 r2=>cases r2;exact⟨_,rfl,r1⟩
theorem vals2{x y:V}{us:List Value}(r:zF [x,y] us):∃u w',us=[u,w']∧zS x u∧zS y w':=by
 cases r with
 | cons r1 r2 =>
   cases r2 with
   | cons r3 r4=>cases r4;exact⟨_,_,rfl,r1,r3⟩
theorem call_min2(hc:X.calm=true):zaG X (.builtin "min") (fun xs H Q=>∃i j,xs=[.int i,.int j]∧Q (.int (if j<i then j else i)) H):=by
 intro pins s σ H xs us Q I r h
 obtain⟨i,j,rfl,q⟩:=h
 obtain⟨u,w',rfl,⟨t,rfl⟩,⟨t',rfl⟩⟩:=vals2 r
 refine min_two_ints (I.ok.hd hc) fun h' tk k=>⟨_,H,I.kept k,?_,q⟩
 by_cases hj:j<i
 ·rw[if_pos hj,if_pos hj];exact⟨_,rfl⟩
 ·rw[if_neg hj,if_neg hj];exact⟨_,rfl⟩
def LenV(K:Frag)(x:V)(H:Hp)(n:Nat):Prop :=
 match x with
 | .str y=>y.length≤sizeLine∧n=y.length
 | .byt y=>y.size≤sizeLine∧n=y.size
 | .ref p=>(∃xs,SqL K H p xs∧n=xs.length)∨∃xs,SqT K H p xs∧n=xs.length
 | _=>False
theorem call_len:zaG X (.builtin "len") (fun xs H Q=>∃x n,xs=[x]∧LenV X.K x H n∧Q (.int n) H):=by
 intro pins s σ H xs us Q I r h
 obtain⟨x,n,rfl,e,q⟩:=h
 obtain⟨u,rfl,rx⟩:=vals1 r
 have hl:=zeL
 have hs:sizeLine=16777216:=sizeLine_eq
 cases x with
 | str y =>
   obtain⟨t,rfl⟩:=rx
   obtain⟨hy,e'⟩:y.length≤sizeLine∧n=y.length:=e
   subst e'
   exact len_str (by omega) ⟨.int _,H,I.tok _,⟨_,rfl⟩,q⟩
 | byt y =>
   obtain⟨t,rfl⟩:=rx
   obtain⟨hy,e'⟩:y.size≤sizeLine∧n=y.size:=e
   subst e'
   exact PySem.W.len_bytes (by omega) ⟨.int _,H,I.tok _,⟨_,rfl⟩,q⟩
 | ref p =>
   cases rx
   have e':(∃xs,SqL X.K H p xs∧n=xs.length)∨∃xs,SqT X.K H p xs∧n=xs.length:=e
   rcases e' with⟨xs,hx,e'⟩|⟨xs,hx,e'⟩
   ·subst e'
    obtain⟨its,r',pl,hz⟩:=I.list hx
    have hlen:=r'.length
    exact Calls.call_len_list pl.isList (by simp only[size_toArray];omega) ⟨.int xs.length,H,I.tok _,⟨_,by simp only[size_toArray];rw[hlen]⟩,q⟩
   ·subst e'
    obtain⟨its,r',pl,hz⟩:=I.tuple hx
    have hlen:=r'.length
    exact len_tuple pl (by simp only[size_toArray];omega) ⟨.int xs.length,H,I.tok _,⟨_,by simp only[size_toArray];rw[hlen]⟩,q⟩
 | _=>exact(show False from e).elim
end
structure ObjM (h:Heap) (x dx C:Addr) (mA:Str→Option Value):Prop where
 obj:h.get? x=some (instObj C dx)
 ns:h.Ns1 dx mA
 ne:dx≠x
theorem lookIn_ns{h:Heap}{dx:Addr}{mA:Str→Option Value}(n:h.Ns1 dx mA):∃od,h.get? dx=some od∧∀name,lookIn name od=some (mA name):=by
 obtain⟨o,es,ep,ho,hd,hk,_,hm⟩:=n
 refine⟨o,ho,fun name=>?_⟩
 have e:=hm name
 unfold nsFind findBy at e
 rw[←Array.find?_toList] at e
 unfold lookIn
 rw[hd]
 dsimp only
 split
 ·rename_i y q
  rw[q] at e
  exact congrArg some e
 ·rename_i q
  rw[q] at e
  have a:es.toList.any (·.refKey)=false:=by
   rw[List.any_eq_false]
   intro y hy
   obtain⟨z,t,hkey⟩:=hk y (Array.mem_toList_iff.mp hy)
   simp[DictEntry.refKey,hkey]
  have a':¬es.toList.any (·.refKey)=true:=by rw[a];exact Bool.false_ne_true
  rw[if_neg a']
  exact congrArg some e
theorem ObjM.look{h:Heap}{x dx C:Addr}{mA:Str→Option Value}(I:ObjM h x dx C mA):∃od,InstAt h x (instObj C dx) C (some od)∧∀name,lookIn name od=some (mA name) :=
 let ⟨od,ho,hl⟩:=lookIn_ns I.ns
 ⟨od,⟨I.obj,rfl,rfl,ho⟩,hl⟩
section
variable {prog:Program}{w:World}{A:Around}{E:Value→Shared→Prop}{s:Shared}{K:Frag}{x dx C f:Addr}{mA:Str→Option Value}{name:Str}{v:Value}
theorem get_map{expr:Bool}{Q:Value→Shared→Prop}(X:K.In s.heap)(I:ObjM s.heap x dx C mA)(hg:plainGet K C name=true)(hh:hasDictIn K C=true)
 (ha:findIn K (.ref C) name=some none) (hv:mA name=some v) (hv':handedIn v=true) (h:Q v { s with toks:=s.toks+1 }) :
 wpAny (model prog w) A (getAttr (.ref x) name expr) Q E s:=by
 obtain⟨od,J,hl⟩:=I.look
 exact PySem.W.get_value X J (plainGet_of hg).1 (PySem.W.findObj_own hh ha rfl (by rw[hl,hv])) hv' h
theorem get_meth{pl:Sem Bool}{Q:Value×List Value→Shared→Prop}(X:K.In s.heap)(I:ObjM s.heap x dx C mA)(hg:plainGet K C name=true)
 (hf:findIn K (.ref C) name=some (some (.ref f))) (ht:isFn K (.ref f)=true) (hv:mA name=none) (h:Q (.ref f,[.ref x]) s) :
 wpAny (model prog w) A (getMethod (.ref x) name pl) Q E s:=by
 obtain⟨od,J,hl⟩:=I.look
 exact PySem.W.method_fn X J (plainGet_of hg).1 (plainGet_of hg).2 hf (beq_iff_eq.mp ht) (by show(lookIn name od).map (·.isSome)=some false;rw[hl,hv];rfl) h
theorem set_map{ns:List Str}{Q:Unit→Shared→Prop}(X:K.In s.heap)(I:ObjM s.heap x dx C mA)
 (hs:findIn K (.ref C) "__setattr__"=some (some (.builtin "object.__setattr__"))) (hp:plainOver K C=true) (ht:takerIn K C name=some none) (hh:hasDictIn K C=true)
 (hw:PySem.Within mA ns) (hsz:ns.length≤sizeLine)
 (h:∀h',ObjM h' x dx C (fun y=>if y=name then some v else mA y)→SameBut dx s.heap h'→Q () { s with heap:=h',toks:=s.toks+2 }) :
 wpAny (model prog w) A (setAttr (.ref x) name v) Q E s:=by
 obtain⟨od,J,hl⟩:=I.look
 refine PySem.W.set_plain X J hs (PySem.W.osa_open (s:={ s with toks:=s.toks+1 }) (r:=none) X J hp ht fun b=>?_)
 obtain⟨cd,hc,hd'⟩:=PySem.W.any_some hh
 have hx:s.heap.get? x=some ⟨.ref C,some dx,.plain,#[]⟩:=I.obj
 refine wpAny_bind (wpAny_pure (wpAny_bind (wpAny_bind (wpAny_loadPart hx (wpAny_bind (PySem.W.Looks.here (s:={ s with toks:=s.toks+1 }) (PySem.W.looks_clsIn X hc) ?_))))))
 rw[hd']
 refine wpAny_pure (a:=some dx) (wpAny_bind (wpAny_pure (wpAny_bind ?_)))
 refine wpAny_nsSet1 (s:={ s with toks:=s.toks+1 }) I.ns fun h' hn2 hs2=>?_
 obtain⟨oD,esD,epD,hoD,hdD,hcD⟩:=hn2.count (PySem.Within.cons name v hw)
 refine wpAny_bind (wpAny_lookBehind hoD (by rw[hdD];exact pastItsLine_dict (le_trans hcD (by rw[length_cons];omega))) ?_)
 exact wpAny_pure (h _ ⟨(hs2.2 _ (Ne.symm I.ne)).trans I.obj,hn2,I.ne⟩ hs2)
theorem make_map{R:Result→Shared→Prop}{vs:List Value}{kw:List (Str×Value)}(X:K.In s.heap)(hm:makesIn K C=true)
 (hi:findIn K (.ref C) "__init__"=some (some (.ref f))) (hf:typeIn K (.ref f)=some (.type "function"))
 (h:codeAny (model prog w) (A.under (.builtin "type.__call__" ⟨.ref C::vs,kw⟩)) (.call (.ref f) ⟨.ref (s.heap.objs.size+1)::vs,kw⟩) (PySem.W.InitBack (s.heap.objs.size+1) R)
   { s with heap:=(s.heap.push emptyDict).push (instObj C s.heap.objs.size) }) :
 codeAny (model prog w) A (.call (.ref C) ⟨vs,kw⟩) R s:=by
 obtain⟨hh,g,d,t,os⟩:=s
 exact PySem.W.make_core (PySem.W.makes_of X hm) (PySem.W.looks_findIn X hi) (fun self=>PySem.W.bind_fn X self hf) (.inl rfl) h
end
def zaH(f:Str)(v:V):List (Str×V)→List (Str×V)
 | []=>[(f,v)]
 | (g,x)::r=>if g=f then(g,v)::r else(g,x)::zaH f v r
theorem ze0(f g:Str)(v:V):∀fs:List (Str×V),(zaH f v fs).lookup g=if g=f then some v else fs.lookup g
 | []=>by
   show List.lookup g [(f,v)]=_
   by_cases h:g=f
   ·have hb:(g==f)=true:=beq_iff_eq.mpr h
    simp only[List.lookup,hb,if_pos h]
   ·have hb:(g==f)=false:=beq_eq_false_iff_ne.mpr h
    simp only[List.lookup,hb,if_neg h]
 | (k,x)::r=>by
   have ih:=ze0 f g v r
   rw[show zaH f v ((k,x)::r)=(if k=f then(k,v)::r else(k,x)::zaH f v r)from rfl]
   by_cases hk:k=f
   ·rw[if_pos hk]
    by_cases h:g=k
    ·have hb:(g==k)=true:=beq_iff_eq.mpr h
     simp only[List.lookup,hb,if_pos (h.trans hk)]
    ·have hb:(g==k)=false:=beq_eq_false_iff_ne.mpr h
     simp only[List.lookup,hb,if_neg (fun e:g=f=>h (e.trans hk.symm))]
   ·rw[if_neg hk]
    by_cases h:g=k
    ·have hb:(g==k)=true:=beq_iff_eq.mpr h
     simp only[List.lookup,hb,if_neg (fun e:g=f=>hk (h.symm.trans e))]
    ·have hb:(g==k)=false:=beq_eq_false_iff_ne.mpr h
     simp only[List.lookup,hb]
     exact ih
theorem zew(f:Str)(v:V):∀fs:List (Str×V),f∈(zaH f v fs).map (·.1)∧∀g,g∈fs.map (·.1)→g∈(zaH f v fs).map (·.1)
 | []=>⟨by simp[zaH],fun g h=>by simp at h⟩
 | (k,x)::r=>by
   obtain⟨i1,i2⟩:=zew f v r
   rw[show zaH f v ((k,x)::r)=(if k=f then(k,v)::r else(k,x)::zaH f v r)from rfl]
   by_cases hk:k=f
   ·rw[if_pos hk]
    subst hk
    exact⟨by simp,fun g h=>by simpa using h⟩
   ·rw[if_neg hk]
    refine⟨?_,fun g h=>?_⟩
    ·rw[map_cons]
     exact mem_cons_of_mem _ i1
    ·rw[map_cons] at h ⊢
     rcases List.mem_cons.mp h with e | e
     ·exact List.mem_cons.mpr (.inl e)
     ·exact mem_cons_of_mem _ (i2 g e)
theorem zeT(f:Str)(v:V):∀fs:List (Str×V),(zaH f v fs).length≤fs.length+1
 | []=>by simp[zaH]
 | (k,x)::r=>by
   have ih:=zeT f v r
   rw[show zaH f v ((k,x)::r)=(if k=f then(k,v)::r else(k,x)::zaH f v r)from rfl]
   by_cases hk:k=f
   ·rw[if_pos hk,length_cons,length_cons];omega
   ·rw[if_neg hk,length_cons,length_cons];omega
theorem zdF.some_of{v:V}{o:Option Value}(r:zdF (some v) o):∃u,o=some u∧zS v u:=by
 cases o with
 | none=>exact(show False from r).elim
 | some u=>exact⟨u,rfl,r⟩
theorem zdF.none_of{o:Option Value}(r:zdF none o):o=none:=by
 cases o with
 | none=>rfl
 | some u=>exact(show False from r).elim
theorem handed_of{v:V}{u:Value}(r:zS v u):handedIn u=true:=by
 cases v with
 | non=>cases (show u=Value.none from r);rfl
 | bl b=>cases (show u=Value.bool b from r);rfl
 | int i=>obtain⟨t,e⟩:=(show ∃t,u=Value.int i t from r);cases e;rfl
 | str x=>obtain⟨t,e⟩:=(show ∃t,u=Value.str x t from r);cases e;rfl
 | byt b=>obtain⟨t,e⟩:=(show ∃t,u=Value.bytes b t from r);cases e;rfl
 | flt b=>obtain⟨t,e⟩:=(show ∃t,u=Value.float b t from r);cases e;rfl
 | ref a=>cases (show u=Value.ref a from r);rfl
 | ty n=>cases (show u=Value.type n from r);rfl
section
variable {P:Program}{w:World}{H H':Hp}{h h':Heap}{a C dx:Addr}{fs fs':List (Str×V)}
theorem zhh(hok:HOk P w H h)(e:H a=some (.ins C dx fs)):∃mA,ObjM h a dx C mA∧(∀f,zdF (fs.lookup f) (mA f))∧PySem.Within mA (fs.map (·.1))∧fs.length≤1000∧H dx=some (.own a):=by
 obtain⟨d,z,ne,ob,mA,n,r,q⟩:=(show wf P w H h a (.ins C dx fs)from hok a _ e)
 exact⟨mA,⟨ob,n,ne⟩,r,q,z,d⟩
end
structure Cls (K:Frag) (C:Addr):Prop where
 pg:plainGet K C Str.empty=true
 hd:hasDictIn K C=true
 po:plainOver K C=true
 sa:findIn K (.ref C) "__setattr__"=some (some (.builtin "object.__setattr__"))
theorem Cls.get{K:Frag}{C:Addr}(c:Cls K C)(f:Str):plainGet K C f=true:=c.pg
def zbr(K:Frag)(C:Addr)(f:Str):Prop:=findIn K (.ref C) f=some none
theorem zbr.taker{K:Frag}{C:Addr}{f:Str}(n:zbr K C f):takerIn K C f=some none:=by
 unfold takerIn
 rw[show findIn K (.ref C) f=some none from n]
 rfl
structure Meth (K:Frag) (C:Addr) (m:Str) (f:Addr):Prop where
 at_:findIn K (.ref C) m=some (some (.ref f))
 fn:isFn K (.ref f)=true
 kp:keepIn K (.ref f)=true
section
variable {X:Cx}{pins:List (Addr×Obj)}{σ:St}{H:Hp}{s:Shared}{a C dx:Addr}{fs:List (Str×V)}{f:Str}{v:V}{A:Around}{E:Value→Shared→Prop}
theorem zi6{b:Bool}{Q:Value→Shared→Prop}(I:Inv X pins σ H s)(e:H a=some (.ins C dx fs))(c:Cls X.K C)(n:zbr X.K C f)(l:fs.lookup f=some v)
 (h:∀u s',Inv X pins σ H s'→zS v u→Q u s'):wpAny (model X.prog X.w) A (getAttr (.ref a) f b) Q E s:=by
 obtain⟨mA,O,r,_,_,_⟩:=zhh I.hok e
 obtain⟨u,hu,ru⟩:=zdF.some_of (v:=v) (o:=mA f) (by rw[←l];exact r f)
 exact get_map I.kIn O (c.get f) c.hd n hu (handed_of ru) (h u _ (I.tok _) ru)
theorem zdV{m:Str}{g:Addr}{pl:Sem Bool}{Q:Value×List Value→Shared→Prop}(I:Inv X pins σ H s)(e:H a=some (.ins C dx fs))(c:Cls X.K C)(k:Meth X.K C m g)(l:fs.lookup m=none)
 (h:Q (.ref g,[.ref a]) s):wpAny (model X.prog X.w) A (getMethod (.ref a) m pl) Q E s:=by
 obtain⟨mA,O,r,_,_,_⟩:=zhh I.hok e
 have hn:mA m=none:=zdF.none_of (by rw[←l];exact r m)
 exact get_meth I.kIn O (c.get m) k.at_ k.fn hn h
theorem zi5{y:V}{u:Value}{Q:Unit→Shared→Prop}(I:Inv X pins σ H s)(e:H a=some (.ins C dx fs))(c:Cls X.K C)(n:zbr X.K C f)(hl:fs.length<1000)(ry:zS y u)
 (h:∀s',Inv X pins σ (upd H a (.ins C dx (zaH f y fs))) s'→Q () s'):wpAny (model X.prog X.w) A (setAttr (.ref a) f u) Q E s:=by
 obtain⟨mA,O,r,wi,_,ho⟩:=zhh I.hok e
 have hz:(fs.map (·.1)).length≤sizeLine:=by rw[length_map,sizeLine_eq];omega
 refine set_map I.kIn O c.sa c.po n.taker c.hd wi hz fun h' O' sb=>h _ ?_
 have hd:∃o,h'.get? dx=some o:=let ⟨o,_,_,e',_⟩:=O'.ns;⟨o,e'⟩
 refine I.write (x:=a) (e:=dx) (by rw[e];exact True.intro) (.inr ho) (fun b q hb z=>(sb.2 b hb).trans z) hd ?_
 refine⟨by rw[zl O.ne];exact ho,?_,O.ne,O'.obj,_,O'.ns,fun g=>?_,fun g hg=>?_⟩
 ·have:=zeT f y fs;omega
 ·show zdF ((zaH f y fs).lookup g) (if g=f then some u else mA g)
  rw[ze0]
  by_cases q:g=f
  ·rw[if_pos q,if_pos q];exact ry
  ·rw[if_neg q,if_neg q];exact r g
 ·by_cases q:g=f
  ·rw[q];exact(zew f y fs).1
  ·refine(zew f y fs).2 g (wi g fun z=>hg ?_)
   show(if g=f then some u else mA g)=none
   rw[if_neg q];exact z
theorem Inv.made(I:Inv X pins σ H s):Inv X pins σ (upd (upd H s.heap.objs.size (.own (s.heap.objs.size+1))) (s.heap.objs.size+1) (.ins C s.heap.objs.size []))
 { s with heap:=(s.heap.push emptyDict).push (instObj C s.heap.objs.size) }:=by
 have e1:(s.heap.push emptyDict).get? s.heap.objs.size=some emptyDict:=get?_push_size s.heap rfl
 have e2:((s.heap.push emptyDict).push (instObj C s.heap.objs.size)).get? (s.heap.objs.size+1)=some (instObj C s.heap.objs.size):=by
  have:=get?_push_size (s.heap.push emptyDict) (o:=instObj C s.heap.objs.size) rfl
  rwa [size_push] at this
 have e3:(s.heap.push emptyDict).Ns s.heap.objs.size (fun _=>none):=⟨emptyDict,#[],_,e1,rfl,(fun e he=>absurd he (by simp)),fun _=>rfl⟩
 have I1:=I.laid (a:=s.heap.objs.size) (o:=.own (s.heap.objs.size+1)) (h':=s.heap.push emptyDict) (t':=s.toks) (fun b u q=>get?_push_of_some _ q) (le_refl _) ⟨_,e1⟩
 refine I1.laid (a:=s.heap.objs.size+1) (o:=.ins C s.heap.objs.size []) (t':=s.toks) (fun b u q=>get?_push_of_some _ q) (le_of_eq (size_push _ _)) ?_
 have ne:s.heap.objs.size≠s.heap.objs.size+1:=ne_of_lt (lt_succ_self _)
 refine⟨by rw[zl ne,ze],zero_le _,ne,e2,fun _=>none,(Heap.Ns1.of_empty e3).at fun o q=>get?_push_of_some _ q,fun _=>True.intro,fun y hy=>absurd rfl hy⟩
theorem attr_of{prog:Program}{w:World}{env:Env}{e:Expr}{f:Str}{pos:Pos}{s:Shared}{Q:Value→Shared→Prop}(hb:attributeBase e f env (eval e env)=eval e env)
 (h:wpAny (model prog w) A (eval e env) (fun o s₁=>wpAny (model prog w) A (getAttr o f true) Q E s₁) E s):wpAny (model prog w) A (eval (.Attribute e f pos) env) Q E s :=
 Attribute_any_ h (by rw[arm_eval_Attribute,hb])
end
def tFld(K:Frag)(ta:TE)(f:Str):TE:=fun σ H Q=>ta σ H fun x H1=>∃a C dx fs v,x=.ref a∧H1 a=some (.ins C dx fs)∧Cls K C∧zbr K C f∧fs.lookup f=some v∧Q v H1
def sFld(K:Frag)(ta tv:TE)(f:Str):TS:=fun D σ H=>tv σ H fun y H1=>ta σ H1 fun x H2=>∃a C dx fs,x=.ref a∧H2 a=some (.ins C dx fs)∧Cls K C∧zbr K C f∧fs.length<1000 ∧
 D.nx σ (upd H2 a (.ins C dx (zaH f y fs)))
section
variable {X:Cx}{o e value:Expr}{f:Str}{pos pos' tpos:Pos}{ta tv:TE}
theorem wJ(he:PE X e ta)(hb:attributeBase e f X.env (eval e X.env)=eval e X.env):PE X (.Attribute e f pos) (tFld X.K ta f):=by
 intro pins s σ H Q I h
 refine attr_of hb (thn (he pins s σ H _ I h) fun u s1 ⟨x,H1,I1,rx,a,C,dx,fs,v,ex,ea,c,n,l,q⟩=>?_)
 subst ex
 obtain rfl:u=Value.ref a:=rx
 exact zi6 I1 ea c n l fun u' s2 I2 ru=>⟨v,H1,I2,ru,q⟩
theorem zc9(ha:PE X o ta)(hv:PE X value tv)(hs:swapsWith value (some (.Attribute o f pos')) pos.line X.env=pure false):PS X (.Assign [.Attribute o f pos'] value pos) (sFld X.K ta tv f):=by
 intro pins s σ H D I h
 refine plainObj_wpAny_Assign_Attribute (thn (hv pins s σ H _ I h) fun u s1 ⟨y,H1,I1,ry,q⟩=>thn (ha pins s1 σ H1 _ I1 q) fun ov s2 ⟨x,H2,I2,rx,a,C,dx,fs,ex,ea,c,n,l,q2⟩=>?_) hs
 subst ex
 obtain rfl:ov=Value.ref a:=rx
 exact zi5 I2 ea c n l ry fun s3 I3=>⟨σ,_,I3,q2⟩
end
section
variable {X:Cx}{pins:List (Addr×Obj)}{σ:St}{H:Hp}{s:Shared}{A:Around}{E:Value→Shared→Prop}{Q:Value→Shared→Prop}{c:Value}{b:Bool}
end
structure Room (k:Nat) (A:Around):Prop where
 hd:A.handled=none
 dp:A.depth+3*k+5<recursionLimit
 un:A.units+16*k+200<cLine
theorem Room.mono{j k:Nat}{A:Around}(r:Room k A)(h:j≤k):Room j A:=⟨r.hd,by have:=r.dp;omega,by have:=r.un;omega⟩
theorem hM{j k:Nat}{A:Around}(r:Room k A)(h:j≤k:=by decide):Room j A:=r.mono h
theorem Room.deeper{k:Nat}{A:Around}(r:Room (k+1) A)(env:Env):Room k (A.deeper env) :=
 ⟨r.hd,by have:=r.dp;show A.depth+1+3*k+5<_;omega,by have:=r.un;show A.units+3+16*k+200<_;omega⟩
theorem Room.in1{k:Nat}{A:Around}(r:Room (k+1) A):Room k A.in1 :=
 ⟨r.hd,by have:=r.dp;show A.depth+3*k+5<_;omega,by have:=r.un;show A.units+1+16*k+200<_;omega⟩
theorem make_depth{A:Around}{C:Addr}{us:List Value}{kw:List (Str×Value)}:(A.under (.builtin "type.__call__" ⟨.ref C::us,kw⟩)).depth=A.depth+1:=by
 first | rfl | simp[Around.under,Code.weight,Code.isCreation,Code.isGuard,Code.isCaller,Code.frames,Code.isFrame,guardIds]
theorem make_units{A:Around}{C:Addr}{us:List Value}{kw:List (Str×Value)}:(A.under (.builtin "type.__call__" ⟨.ref C::us,kw⟩)).units=A.units+1:=by
 first | rfl | simp[Around.under,Code.cUnits,Code.frames,Code.isFrame]
theorem Room.make{k:Nat}{A:Around}(r:Room (k+1) A)(C:Addr)(us:List Value)(kw:List (Str×Value)):Room k (A.under (.builtin "type.__call__" ⟨.ref C::us,kw⟩)) :=
 ⟨r.hd,by have:=r.dp;rw[make_depth];omega,by have:=r.un;rw[make_units];omega⟩
theorem Room.depth{k:Nat}{A:Around}(r:Room k A):A.depth<recursionLimit:=by have:=r.dp;omega
theorem Room.units{k:Nat}{A:Around}(r:Room k A):A.units+64<cLine:=by have:=r.un;omega
theorem Room.units0{k:Nat}{A:Around}(r:Room k A):A.units<cLine:=by have:=r.un;omega
def tNil:TA:=fun _ H Q=>Q [] H
def tCons(ta:TE)(tr:TA):TA:=fun σ H Q=>ta σ H fun x H1=>tr σ H1 fun xs H2=>Q (x::xs) H2
section
variable {X:Cx}{e:Expr}{es:List Expr}{te:TE}{t:TA}{pos:Pos}
theorem zb:PA X [] tNil:=fun _ _ _ _ H Q I h=>Calls.spliced_nil ⟨[],H,I,.nil,h⟩
theorem za(ha:PE X e te)(hr:PA X es t)(hs:starEach (e::es) X.env=(false,eval e X.env)::starEach es X.env:=by rfl):PA X (e::es) (tCons te t):=by
 intro pos pins s σ H Q I h
 rw[hs]
 show wpAny _ _ (spliced ((false,eval e X.env)::backTo pos (starEach es X.env))) _ _ s
 refine Calls.spliced_cons (thn (ha pins s σ H _ I h) fun u s1 ⟨x,H1,I1,r1,q1⟩=>?_)
 exact thn (hr pos pins s1 σ H1 _ I1 q1) fun us s2 ⟨xs,H2,I2,r2,q2⟩=>⟨x::xs,H2,I2,.cons r1 r2,q2⟩
def tTup(t:TA):TE:=fun σ H Q=>t σ H fun xs H1=>xs.length≤sizeLine∧∀p,H1 p=none→Q (.ref p) (upd H1 p (.tup xs))
def tLst(t:TA):TE:=fun σ H Q=>t σ H fun xs H1=>xs.length≤sizeLine∧∀p,H1 p=none→Q (.ref p) (upd H1 p (.lst xs))
theorem zb1{x1}(h:PA X es t):PE X (.Tuple es x1 pos) (tTup t):=by
 intro pins s σ H Q I hq
 refine wpAny_Tuple_spliced (thn (h pos pins s σ H _ I hq) fun us s1 ⟨xs,H1,I1,r,z,q⟩=>⟨by rw[←r.length];exact z,?_⟩)
 have hf:H1 s1.heap.objs.size=none:=I1.hok.fresh (le_refl _)
 refine⟨.ref s1.heap.objs.size,upd H1 s1.heap.objs.size (.tup xs),I1.laid (t':=s1.toks) (fun b u e=>get?_push_of_some _ e) (le_refl _) ?_,rfl,q _ hf⟩
 exact⟨z,us,r,⟨_,get?_push_size _ rfl,rfl,_,rfl⟩⟩
theorem zO(h:PA X es t):PE X (.List es pos) (tLst t):=by
 intro pins s σ H Q I hq
 refine wpAny_List_spliced (thn (h pos pins s σ H _ I hq) fun us s1 ⟨xs,H1,I1,r,z,q⟩=>⟨by rw[←r.length];exact z,?_⟩)
 have hf:H1 s1.heap.objs.size=none:=I1.hok.fresh (le_refl _)
 refine⟨.ref s1.heap.objs.size,upd H1 s1.heap.objs.size (.lst xs),I1.laid (t':=s1.toks) (fun b u e=>get?_push_of_some _ e) (le_refl _) ?_,rfl,q _ hf⟩
 exact⟨z,us,0,r,get?_push_size _ rfl⟩
end
abbrev Sp:=List V→Hp→VK→XK→Prop
abbrev CXT:=List Env→Hp→Shared→XK→Value→Shared→Prop
structure Env0 (P:Program) (w:World) (K:Frag) (mg:Str→Option Value) (base:Heap) (A:Around) (outer:List Env) (s:Shared) (H:Hp):Prop where
 frames:A.frames=some outer
 mod:Mod K mg base
 bs:∀b o,base.get? b=some o→s.heap.get? b=some o∧H b=none
 bsz:base.objs.size≤s.heap.objs.size
 funs:s.heap.FunFrames base outer
 frf:∀b∈frs outer,H b=none
 hok:HOk P w H s.heap
 bare:AllBare s.gens
def CE(outer:List Env)(P:Program)(w:World)(H:Hp)(s:Shared)(Q:VK)(u:Value)(s':Shared):Prop :=
 ∃v H',s'.os=s.os∧AllBare s'.gens∧Un (frs outer) [] H H' s.heap s'.heap∧HOk P w H' s'.heap∧zS v u∧Q v H'
def CR(CX:CXT)(outer:List Env)(P:Program)(w:World)(H:Hp)(s:Shared)(Q:VK)(E:XK)(r:Result)(s':Shared):Prop :=
 match r with
 | .ok (.ret u)=>CE outer P w H s Q u s'
 | .ok _=>False
 | .error e=>CX outer H s E e s'
structure FnOk (P:Program) (w:World) (K:Frag) (mg:Str→Option Value) (base:Heap) (CX:CXT) (k:Nat) (f:Addr) (fd:FuncData) (ps:List Str) (sp:Sp):Prop where
 len:∀vs H Q E,sp vs H Q E→vs.length=ps.length
 run:∀(A:Around)(outer:List Env)(s:Shared)(H:Hp)(args:Args)(us:List Value)(vs:List V)(Q:VK)(E:XK),Room k A→Env0 P w K mg base A outer s H→BindsTo s fd args (ps.zip us)→zF vs us→sp vs H Q E →
  codeAny (model P w) A (.call (.ref f) args) (CR CX outer P w H s Q E) s
theorem Env0.make{P:Program}{w:World}{K:Frag}{mg:Str→Option Value}{base:Heap}{A:Around}{outer:List Env}{s:Shared}{H:Hp}(e:Env0 P w K mg base A outer s H)(C:Addr)(us:List Value)(kw:List (Str×Value)):
 Env0 P w K mg base (A.under (.builtin "type.__call__" ⟨.ref C::us,kw⟩)) outer s H:=⟨by first | exact e.frames | (simpa [Around.under,Code.envs,Code.isFrame,pushEnvs] using e.frames),e.mod,e.bs,e.bsz,e.funs,e.frf,e.hok,e.bare⟩
theorem Env0.in1{P:Program}{w:World}{K:Frag}{mg:Str→Option Value}{base:Heap}{A:Around}{outer:List Env}{s:Shared}{H:Hp}(e:Env0 P w K mg base A outer s H):
 Env0 P w K mg base A.in1 outer s H:=⟨e.frames,e.mod,e.bs,e.bsz,e.funs,e.frf,e.hok,e.bare⟩
section
variable {X:Cx}{pins:List (Addr×Obj)}{σ:St}{H:Hp}{s s':Shared}
theorem Inv.env0(I:Inv X pins σ H s):Env0 X.prog X.w X.K X.mg X.base X.A X.stack s H :=
 ⟨I.ok.frames,I.ok.mod,I.bs,le_trans I.ok.bsz I.sz,I.stack,I.stkFree,I.hok,I.bare⟩
theorem Inv.after{Q:VK}{u:Value}(I:Inv X pins σ H s)(h:CE X.stack X.prog X.w H s Q u s'):EP X pins σ Q u s':=by
 obtain⟨v,H',os,bare,un,hok,r,q⟩:=h
 obtain⟨hh,g,d,t,os'⟩:=s'
 obtain rfl:os'=s.os:=os
 exact⟨v,H',I.call (h':=hh) (g':=g) (d':=d) (t':=t) (ch:=[]) un hok bare (fun b z=>absurd z (by simp)),r,q⟩
end
def tCall(sp:Sp)(dvs:List V)(E:XK)(t:TA):TE:=fun σ H Q=>t σ H fun vs H1=>sp (vs++dvs) H1 Q E
def tMeth(C:Addr)(m:Str)(sp:Sp)(dvs:List V)(E:XK)(ta:TE)(t:TA):TE:=fun σ H Q=>ta σ H fun x H1=>∃a dx fs,x=.ref a∧H1 a=some (.ins C dx fs)∧fs.lookup m=none ∧
 t σ H1 fun vs H2=>sp (x::(vs++dvs)) H2 Q E
def zaS(K:Frag)(fd:FuncData)(ps:List Str)(ds:List Value):Prop :=
 ∀(s:Shared)(us:List Value),K.In s.heap→(us++ds).length=ps.length→BindsTo s fd ⟨us,[]⟩ (ps.zip (us++ds))
theorem zaS.all{K:Frag}{fd:FuncData}{ps:List Str}(h:∀us:List Value,us.length=ps.length→bindArgs fd ⟨us,[]⟩=pure (ps.zip us)):zaS K fd ps []:=fun s us _ hl=>by
 rw[append_nil] at hl ⊢
 exact .of_eq (h us hl)
def zg3(CX:CXT)(X:Cx)(E:XK):Prop:=∀(pins:List (Addr×Obj)) (σ:St) (H:Hp) (s:Shared) (e:Value) (s':Shared),Inv X pins σ H s→CX X.stack H s E e s'→X.xe e s'
section
variable {X:Cx}{CX:CXT}{k:Nat}{f C:Addr}{fd:FuncData}{ps:List Str}{sp:Sp}{dvs:List V}{ds:List Value}{E:XK}{x m:Str}{p pos apos:Pos}{e o:Expr}{es:List Expr}{ta:TE}{t:TA}
theorem run_fn{pins:List (Addr×Obj)}{σ:St}{H:Hp}{s:Shared}{Q:VK}{us:List Value}{vs:List V}(F:FnOk X.prog X.w X.K X.mg X.base CX k f fd ps sp)(hr:Room k X.A)(hb:zaS X.K fd ps ds)(hd:zF dvs ds)(hx:zg3 CX X E)
 (I:Inv X pins σ H s) (r:zF vs us) (h:sp (vs++dvs) H Q E):wpAny (model X.prog X.w) X.A (call (.ref f) us) (EP X pins σ Q) X.xe s:=by
 have r2:zF (vs++dvs) (us++ds):=r.append hd
 have hl:(us++ds).length=ps.length:=by rw[←r2.length];exact F.len _ _ _ _ h
 refine wpAny_call (codeAny_mono (F.run X.A X.stack s H ⟨us,[]⟩ (us++ds) (vs++dvs) Q E hr I.env0 (hb s us I.kIn hl) r2 h) fun r s' hq=>?_)
 cases r with
 | error e=>exact hx pins σ H s e s' I hq
 | ok fl =>
   cases fl with
   | ret u=>exact I.after hq
   | next=>exact False.elim hq
   | brk=>exact False.elim hq
   | cont=>exact False.elim hq
theorem pe_call(F:FnOk X.prog X.w X.K X.mg X.base CX k f fd ps sp)(hr:Room k X.A)(hg:Gl X x)(hm:X.mg x=some (.ref f))(hk:keepIn X.K (.ref f)=true)(hb:zaS X.K fd ps ds)(hd:zF dvs ds)(hx:zg3 CX X E)
 (ha:PA X (e::es) t) (hdb:(x==("__debug__":Str))=false:=by decide) (he:starEach (e::es) X.env=(false,eval e X.env)::starEach es X.env:=by rfl) (hpl:(backTo pos (starEach es X.env)).any (·.1)=false:=by rfl) :
 PE X (.Call (.Name x p) (e::es) [] pos) (tCall sp dvs E t):=by
 intro pins s σ H Q I h
 refine wpAny_Call_Name_kw (zej I hg hm ?_ hdb)
 refine callWith_K (h₀:=X.base) I.ok.mod.kin hk (thn (ha pos pins s σ H _ I h) fun us s1 ⟨vs,H1,I1,r,q⟩=>⟨I1.kIn,?_⟩) he hpl
 exact run_fn F hr hb hd hx I1 r q
theorem pe_meth0{pl:Sem Bool}(he:PE X o ta)(c:Cls X.K C)(hm:Meth X.K C m f)(F:FnOk X.prog X.w X.K X.mg X.base CX k f fd ps sp)(hr:Room k X.A)(hb:zaS X.K fd ps ds)(hd:zF dvs ds)(hx:zg3 CX X E)
 (ht:eval (.Call (.Attribute o m apos) [] [] pos) X.env=(do
   let ov ←eval o X.env
   standAt apos.atName
   let (f,first) ←holding [ov] (getMethod ov m pl)
   callWith pos f first (backTo pos (starEach [] X.env)) (backToKw pos (keywordEach [] X.env))):=by rfl) :
 PE X (.Call (.Attribute o m apos) [] [] pos) (tMeth C m sp dvs E ta tNil):=by
 intro pins s σ H Q I h
 refine methodCall_KW (pl:=pl) (thn (he pins s σ H _ I h) fun u s1 ⟨x,H1,I1,rx,a,dx,fs,ex,ea,l,q⟩=>?_) ht
 subst ex
 obtain rfl:u=Value.ref a:=rx
 refine zdV I1 ea c hm l ?_
 exact callWith_K0 (first:=[.ref a]) I1.kIn hm.kp (run_fn (us:=[.ref a]) (vs:=[.ref a]) F hr hb hd hx I1 (.cons rfl .nil) q)
structure Mk (K:Frag) (C f:Addr):Prop where
 makes:makesIn K C=true
 init:findIn K (.ref C) "__init__"=some (some (.ref f))
 fn:isFn K (.ref f)=true
 kp:keepIn K (.ref C)=true
end
section
variable {X:Cx}{CX:CXT}{k:Nat}{f C:Addr}{fd:FuncData}{ps ks:List Str}{sp:Sp}{E:XK}{x m:Str}{p pos apos kpos:Pos}{e o:Expr}{es:List Expr}{kws:List Keyword}{te ta:TE}{t tk:TA}{nm:Option Str}
variable {g:List Value→List Value→List Value}{gV:List V→List V→List V}
end
structure FnScope (N P:List Str) (sc:Scope):Prop where
 kind:sc.kind=.function
 co:sc.isCoroutine=false
 gen:sc.isGenerator=false
 nd:N.Nodup
 pre:N.take P.length=P
 par:∀x∈P,sc.names.lookup x=some .local∨sc.names.lookup x=some .cell
 nofree:∀y∈sc.names,y.2 ≠ .free
theorem zgK{kindOf:Str→Option NameKind}{x:Str}:∀{binds:List (Str×Value)} {m:Str→Option Value},(∀v,(x,v)∉binds)→bindL kindOf binds m x=m x
 | [],_,_=>rfl
 | (n,v)::r,m,h=>by
   unfold bindL
   rw[zgK fun w hw=>h w (mem_cons_of_mem _ hw)]
   split
   ·have:x≠n:=by rintro rfl;exact h v mem_cons_self
    simp[this]
   ·rfl
theorem zgz{kindOf:Str→Option NameKind}{x:Str}:∀{binds:List (Str×Value)} {m:Str→Option Value},(∀v,(x,v)∉binds)→bindC kindOf binds m x=m x
 | [],_,_=>rfl
 | (n,v)::r,m,h=>by
   unfold bindC
   rw[zgz fun w hw=>h w (mem_cons_of_mem _ hw)]
   split
   ·rfl
   ·have:x≠n:=by rintro rfl;exact h v mem_cons_self
    simp[this]
theorem zgE{kindOf:Str→Option NameKind}{x:Str}{v:Value}:∀{P:List Str}{vs:List Value}{i:Nat}{m:Str→Option Value},P.Nodup→P[i]? = some x→vs[i]? = some v→kindOf x=some .local →
 bindL kindOf (P.zip vs) m x=some v
 | [],_,_,_,_,h,_,_=>by simp at h
 | _::_,[],_,_,_,_,h,_=>by simp at h
 | p::P,w::vs,0,m,nd,h1,h2,hk=>by
   simp at h1 h2;subst h1;subst h2
   show bindL kindOf ((p,w)::P.zip vs) m p=_
   unfold bindL
   rw[zgK fun v hv=>(List.nodup_cons.mp nd).1 (of_mem_zip hv).1,if_pos hk]
   simp
 | p::P,w::vs,i+1,m,nd,h1,h2,hk=>by
   show bindL kindOf ((p,w)::P.zip vs) m x=_
   unfold bindL
   exact zgE (i:=i) (List.nodup_cons.mp nd).2 (by simpa using h1) (by simpa using h2) hk
theorem zgP{kindOf:Str→Option NameKind}{x:Str}{v:Value}:∀{P:List Str}{vs:List Value}{i:Nat}{m:Str→Option Value},P.Nodup→P[i]? = some x→vs[i]? = some v→kindOf x≠some .local →
 bindC kindOf (P.zip vs) m x=some v
 | [],_,_,_,_,h,_,_=>by simp at h
 | _::_,[],_,_,_,_,h,_=>by simp at h
 | p::P,w::vs,0,m,nd,h1,h2,hk=>by
   simp at h1 h2;subst h1;subst h2
   show bindC kindOf ((p,w)::P.zip vs) m p=_
   unfold bindC
   rw[zgz fun v hv=>(List.nodup_cons.mp nd).1 (of_mem_zip hv).1,if_neg hk]
   simp
 | p::P,w::vs,i+1,m,nd,h1,h2,hk=>by
   show bindC kindOf ((p,w)::P.zip vs) m x=_
   unfold bindC
   exact zgP (i:=i) (List.nodup_cons.mp nd).2 (by simpa using h1) (by simpa using h2) hk
def zbu(N:List Str)(vs:List V):St:=vs.map some++replicate (N.length-vs.length) none
def zbP(CX:CXT)(P:Program)(w:World)(K:Frag)(mg:Str→Option Value)(base:Heap)(N:List Str)(qual:Str)(scope:Scope)(f:Addr)(cd:Value)(A:Around)(outer:List Env)(s:Shared)(H:Hp)(E:XK):Cx where
 prog:=P
 w:=w
 K:=K
 mg:=mg
 base:=base
 A:=A.deeper (envOfC qual scope s.heap.objs.size f cd)
 N:=N
 s₀:=s
 H₀:=H
 env:=envOfC qual scope s.heap.objs.size f cd
 outer:=outer
 stack:=envOfC qual scope s.heap.objs.size f cd::outer
 ex:=[]
 calm:=true
 fn:=fun _=>true
 pn:=[]
 xe:=fun e s'=>wpAny (model P w) (A.deeper (envOfC qual scope s.heap.objs.size f cd)) (leaving (envOfC qual scope s.heap.objs.size f cd) e) (fun _ s''=>CX outer H s E e s'') (fun e' s''=>CX outer H s E e' s'') s'
theorem zib{sc:Scope}{n:Nat}{x:Str}(h:sc.names.lookup x=some .cell):∃c,(cellsFrom n sc.names []).lookup x=some c:=by
 have q:=cellsFrom_some sc.names n [] (.inl h)
 exact Option.isSome_iff_exists.mp q
theorem zgG{CX:CXT}{P:Program}{w:World}{K:Frag}{mg:Str→Option Value}{base:Heap}{N ps:List Str}{qual:Str}{scope:Scope}{f:Addr}{cd:Value}{A:Around}{outer:List Env}{s s1:Shared}{H:Hp}{E:XK}{us:List Value}{vs:List V}
 (S:FnScope N ps scope) (hd:A.handled=none) (e0:Env0 P w K mg base A outer s H) (hl:vs.length=ps.length) (r:zF vs us)
 (x:InCallC s s.heap.objs.size (bindL (envOfC qual scope s.heap.objs.size f cd).kindOf (ps.zip us) fun _=>none) (cellsFrom (s.heap.objs.size+1) scope.names []) (bindC (envOfC qual scope s.heap.objs.size f cd).kindOf (ps.zip us) fun _=>none) s1) :
 Inv (zbP CX P w K mg base N qual scope f cd A outer s H E) [] (zbu N vs) H s1:=by
 have hpl:ps.length≤N.length:=by have:=congrArg List.length S.pre;rw[length_take] at this;omega
 obtain⟨h1,tk,rfl,hk⟩:=x.done
 have noA:∀b:Addr,b∉(zbP CX P w K mg base N qual scope f cd A outer s H E).ex:=fun b z=>absurd (show b∈([]:List Addr)from z) (by simp)
 refine⟨⟨e0.mod,S.kind,rfl,rfl,le_refl _,fun y z c h1 h2=>?_,fun y hy=>?_,fun y c _ h=>?_,fun _=>hd,Around.frames_deeper e0.frames,.inr ⟨rfl,rfl⟩,fun b z=>absurd z (noA b),e0.bs,e0.bsz,fun b _ _=>noA b,fun b z=>absurd z (noA b),e0.funs,e0.frf⟩,
  rfl,e0.bare,Un.kept hk,⟨_,x.toInCall.ns,fun i y v h1 h2 h3=>?_⟩,fun y c h=>⟨_,x.cell y c h⟩,e0.hok.fresh (le_refl _),fun y c h=>?_,fun p hp=>absurd (show p∈([]:List (Addr×Obj))from hp) (by simp),e0.hok.kept hk,?_⟩
 ·exact name_of_addr x.apart (PySem.mem_of_lookup h1) (PySem.mem_of_lookup h2)
 ·have hy:scope.names.lookup y=some .cell∨scope.names.lookup y=some .free:=hy
  rcases hy with hy | hy
  ·exact zib hy
  ·exact absurd rfl (S.nofree _ (PySem.mem_of_lookup hy))
 ·exact le_of_lt (x.above y c (PySem.mem_of_lookup h))
 ·have hi:i<vs.length:=by
   unfold zbu at h2
   by_cases hi:i<vs.length
   ·exact hi
   ·rw[List.getElem?_append_right (by simpa using hi)] at h2
    rw[List.getElem?_replicate] at h2
    split at h2 <;> cases h2
  have ha:vs[i]? = some v:=by
   unfold zbu at h2
   rw[List.getElem?_append_left (by simpa using hi),getElem?_map] at h2
   cases e:vs[i]? with
   | none=>rw[e] at h2;cases h2
   | some a=>rw[e] at h2;cases h2;rfl
  obtain⟨u,hu,rv⟩:=r.get ha
  have hp:ps[i]? = some y:=by
   rw[←S.pre,List.getElem?_take_of_lt (by omega)];exact h1
  have ndP:ps.Nodup:=by rw[←S.pre];exact S.nd.sublist (List.take_sublist _ _)
  refine⟨u,rv,?_⟩
  rcases S.par y (mem_of_getElem? hp)with k | k
  ·exact .inl ⟨k,zgE ndP hp hu k⟩
  ·obtain⟨c,e⟩:=zib (n:=s.heap.objs.size+1) k
   refine .inr ⟨.inl k,c,e,?_⟩
   have q:=x.cell y c e
   rw[zgP ndP hp hu (by show scope.names.lookup y≠_;rw[k];decide)] at q
   exact q
 ·exact e0.hok.fresh (le_of_lt (x.above y c (PySem.mem_of_lookup h)))
 ·unfold zbu
  show _=N.length
  rw[length_append,length_map,List.length_replicate]
  omega
theorem fn_of{CX:CXT}{P:Program}{w:World}{K:Frag}{mg:Str→Option Value}{base:Heap}{k:Nat}{f:Addr}{name qual:Str}{params:Arguments}{body:List Stmt}{scope:Scope}{dV kV doc pm cdv ct oc:Value}{an od:Option Addr}
 {osl:Array (Option Value)} {N ps:List Str} {sp:Sp} (lk:K.lookup f=some ⟨oc,od,.func (fnOf name qual params body scope dV kV doc pm an cdv ct),osl⟩) (hcd:codeIn K cdv qual=true) (S:FnScope N ps scope)
 (len:∀vs H Q E,sp vs H Q E→vs.length=ps.length)
 (hbody:∀(A:Around)(outer:List Env)(s:Shared)(H:Hp)(vs:List V)(Q:VK)(E:XK),Room k (A.deeper (envOfC qual scope s.heap.objs.size f cdv))→sp vs H Q E →
   ∃t,PSs (zbP CX P w K mg base N qual scope f cdv A outer s H E) body t∧t { nx:=fun _ H'=>Q .non H',rt:=Q } (zbu N vs) H) :
 FnOk P w K mg base CX (k+1) f (fnOf name qual params body scope dV kV doc pm an cdv ct) ps sp:=by
 refine⟨len,fun A outer s H args us vs Q E hr e0 hb r hsp=>?_⟩
 have hl:=len _ _ _ _ hsp
 have KX:K.In s.heap:=e0.mod.kin.keeps fun b o e=>(e0.bs b o e).1
 have lim:s.heap.NoLimit:=e0.mod.nolimit.keeps fun b o e=>(e0.bs b o e).1
 have hkind:∀y∈ps.zip us,scope.names.lookup y.1=some .local∨(scope.names.lookup y.1=some .cell∧((cellsFrom (s.heap.objs.size+1) scope.names []).lookup y.1).isSome=true):=fun⟨n,v⟩ hy=>by
  rcases S.par n (of_mem_zip hy).1 with q | q
  ·exact .inl q
  ·exact .inr ⟨q,cellsFrom_some _ _ _ (.inl q)⟩
 refine codeAny_call_function hr.depth (KX _ _ lk) rfl S.co S.gen rfl (PySem.W.codeRec_of KX hcd) (hb _ _ _ _ ?_)
 refine wpAny_newFunctionEnv_cells S.kind hkind fun env he s1 x=>?_
 subst he
 refine⟨lim.keeps x.toInCall.keep,codeAny_func ?_⟩
 obtain⟨t,ht,hq⟩:=hbody A outer s H vs Q E (hr.deeper _) hsp
 have I:Inv (zbP CX P w K mg base N qual scope f cdv A outer s H E) [] (zbu N vs) H s1:=zgG S hr.hd e0 hl r x
 refine wpAny_mono (ht [] s1 (zbu N vs) H _ I hq) (fun fl s' hs=>?_) fun e s' hs=>hs
 have fin:∀{σ':St}{H':Hp}{v:V}{u:Value},Inv (zbP CX P w K mg base N qual scope f cdv A outer s H E) [] σ' H' s'→zS v u→Q v H'→CE outer P w H s Q u s' :=
  fun {σ' H' v u} J rv q=>⟨v,H',J.os,J.bare,J.base,J.hok,rv,q⟩
 cases fl with
 | ret u =>
   obtain⟨v,σ',H',J,rv,q⟩:=hs
   exact fin J rv q
 | next =>
   obtain⟨σ',H',J,q⟩:=hs
   exact fin (v:=V.non) (u:=Value.none) J rfl q
 | brk =>
   obtain⟨_,_,_,q⟩:=hs
   exact False.elim q
 | cont =>
   obtain⟨_,_,_,q⟩:=hs
   exact False.elim q
section
variable {X:Cx}{x:Str}{p pos:Pos}{e:Expr}{es:List Expr}{t:TA}{id T:String}{r:List V→Hp→VK→Prop}
def tCB(r:List V→Hp→VK→Prop)(t:TA):TE:=fun σ H Q=>t σ H fun vs H1=>r vs H1 Q
theorem zk(hc:zaG X (.builtin id) r)(hg:Gl X x)(hm:X.mg x=none)(hv:bootBuiltins x=some (.builtin id))(ha:PA X (e::es) t)(hn:x≠"__name__":=by decide)(hdb:(x==("__debug__":Str))=false:=by decide)
 (he:starEach (e::es) X.env=(false,eval e X.env)::starEach es X.env:=by rfl) (hpl:(backTo pos (starEach es X.env)).any (·.1)=false:=by rfl):PE X (.Call (.Name x p) (e::es) [] pos) (tCB r t):=by
 intro pins s σ H Q I h
 refine wpAny_Call_Name_kw (zch I hg hm hv ?_ hn hdb)
 exact callWith_builtin1 (thn (ha pos pins s σ H _ I h) fun us s1 ⟨vs,H1,I1,r1,q1⟩=>hc pins s1 σ H1 vs us Q I1 r1 q1) he hpl
theorem yb(hc:zaG X (.type T) r)(hg:Gl X x)(hm:X.mg x=none)(hv:bootBuiltins x=some (.type T))(ha:PA X (e::es) t)(hn:x≠"__name__":=by decide)(hdb:(x==("__debug__":Str))=false:=by decide)
 (he:starEach (e::es) X.env=(false,eval e X.env)::starEach es X.env:=by rfl) (hpl:(backTo pos (starEach es X.env)).any (·.1)=false:=by rfl):PE X (.Call (.Name x p) (e::es) [] pos) (tCB r t):=by
 intro pins s σ H Q I h
 refine wpAny_Call_Name_kw (zch I hg hm hv ?_ hn hdb)
 exact callWith_type1 (thn (ha pos pins s σ H _ I h) fun us s1 ⟨vs,H1,I1,r1,q1⟩=>hc pins s1 σ H1 vs us Q I1 r1 q1) he hpl
end
end L2
namespace HT
open PySem PyProof.Rows
def lexLt:List Int→List Int→Bool
 | [],[]=>false
 | [],_::_=>true
 | _::_,[]=>false
 | x::xs,y::ys=>if x=y then lexLt xs ys else decide (x<y)
theorem lexLt_cons(x y:Int)(xs ys:List Int):lexLt (x::xs) (y::ys)=if x=y then lexLt xs ys else decide (x<y):=rfl
theorem lexLt_nil_nil:lexLt [] []=false:=rfl
theorem lexLt_nil_cons(y:Int)(ys:List Int):lexLt [] (y::ys)=true:=rfl
theorem lexLt_cons_nil(x:Int)(xs:List Int):lexLt (x::xs) []=false:=rfl
theorem rcLt_int(A:Around)(s:Shared)(a:Int)(t:Tok)(c:Int)(u:Tok)(prog:Program)(w:World)(E:Value→Shared→Prop)(Q:Value→Shared→Prop)(h:Q (.bool (decide (a<c))) s):
 wpAny (model prog w) A (richCompare .Lt (.int a t) (.int c u)) Q E s :=
 (PyProof.Rows.lt_int h:wpAny (model prog w) A (compareOp .Lt (.int a t) (.int c u)) Q E s)
section
open PySem.SeqAt
open PySem.AutoSeq1 (wpAny_loadPart')
open PySem.MeetsSeq PySem.MeetsSeq2 PySem.MeetsSeq3
end
section
variable {prog:Program}{w:World}{A:Around}{E:Value→Shared→Prop}{s:Shared}
def sIx(n d:Nat):Option Int→Nat
 | none=>d
 | some v=>if v<0 then(v+(n:Int)).toNat else min v.toNat n
theorem sIx_none(n d:Nat):sIx n d none=d:=rfl
theorem sIx_nat(n d k:Nat):sIx n d (some (k:Int))=min k n:=by
 show(if(k:Int)<0 then((k:Int)+(n:Int)).toNat else min (k:Int).toNat n)=min k n
 rw[if_neg (by omega),Int.toNat_natCast]
end
end HT
namespace L2
open PySem PySem.Spec PyProof.Rows
abbrev TO:=St→Hp→(Option Int→Hp→Prop)→Prop
def PO(X:Cx)(e:Option Expr)(t:TO):Prop :=
 ∀(pins:List (Addr×Obj)) (s:Shared) (σ:St) (H:Hp) (Q:Option Int→Hp→Prop),Inv X pins σ H s→t σ H Q →
  wpAny (model X.prog X.w) X.A (evalPart e X.env) (fun u s'=>∃o H',Inv X pins σ H' s'∧IsPart u o∧Q o H') X.xe s
def tNoPart:TO:=fun _ H Q=>Q none H
def tPart(t:TE):TO:=fun σ H Q=>t σ H fun x H1=>∃i,x=.int i∧Q (some i) H1
theorem za1{ns:List Int}:∀{us:List Value},zF (ns.map V.int) us→IntsAre us ns:=by
 induction ns with
 | nil=>intro us r;rw[map_nil] at r;cases r;exact .nil
 | cons n ns ih =>
   intro us r
   rw[map_cons] at r
   cases r with
   | cons r1 r2 =>
     obtain⟨t,e⟩:=r1
     subst e
     exact .cons n t (ih r2)
section
variable {X:Cx}{e:Expr}{te:TE}{lo hi:Option Expr}{tl th:TO}{pos p2:Pos}
theorem wE:PO X none tNoPart:=by
 intro pins s σ H Q I h
 rw[evalPart_none]
 exact wpAny_pure ⟨none,H,I,.none,h⟩
theorem yZ(h:PE X e te):PO X (some e) (tPart te):=by
 intro pins s σ H Q I hw
 rw[evalPart_some]
 refine thn (h pins s σ H _ I hw) fun u s1 ⟨x,H1,I1,r1,q1⟩=>?_
 obtain⟨i,rfl,q⟩:=q1
 obtain⟨t,rfl⟩:=r1
 exact⟨some i,H1,I1,.int i t,q⟩
def SlR(X:Cx)(r:V→Option Int→Option Int→Hp→VK→Prop):Prop :=
 ∀(pins:List (Addr×Obj)) (s:Shared) (σ:St) (H:Hp) (x:V) (v vl vu:Value) (lo hi:Option Int) (sl:Addr) (Q:VK),Inv X pins σ H s→zS x v→s.heap.IsSliceOf sl vl vu .none→IsPart vl lo→IsPart vu hi→r x lo hi H Q →
  ∃T id,typeLookup (.type T) "__getitem__"=pure (some (.builtin id))∧s.TypeIs v T∧wpAny (model X.prog X.w) X.A (getItem v (.ref sl)) (EP X pins σ Q) X.xe s
def tSl(r:V→Option Int→Option Int→Hp→VK→Prop)(te:TE)(tl th:TO):TE:=fun σ H Q=>te σ H fun x H1=>tl σ H1 fun l H2=>th σ H2 fun u H3=>r x l u H3 Q
theorem yC{r:V→Option Int→Option Int→Hp→VK→Prop}(hr:SlR X r)(he:PE X e te)(hl:PO X lo tl)(hu:PO X hi th):PE X (.Subscript e (.Slice lo hi none p2) pos) (tSl r te tl th):=by
 intro pins s σ H Q I h
 refine Subscript_ (thn (he pins s σ H _ I h) fun v s1 ⟨x,H1,I1,r1,q1⟩=>?_)
 refine wpAny_Slice (thn (hl pins s1 σ H1 _ I1 q1) fun vl s2 ⟨l,H2,I2,pl,q2⟩=>thn (hu pins s2 σ H2 _ I2 q2) fun vu s3 ⟨u,H3,I3,pu,q3⟩=>?_)
 rw[evalPart_none]
 refine wpAny_pure ?_
 have I4:Inv X pins σ H3 { s3 with heap:=s3.heap.push { cls:=.type "slice",data:=.fields #[vl,vu,.none] } }:=I3.kept (t':=s3.toks) fun b ob q=>get?_push_of_some _ q
 obtain⟨T,id,hT,ht,hg⟩:=hr pins { s3 with heap:=s3.heap.push { cls:=.type "slice",data:=.fields #[vl,vu,.none] } } σ H3 x v vl vu l u s3.heap.objs.size Q I4 r1 (Heap.IsSliceOf.new ..) pl pu q3
 show wpAny (model X.prog X.w) X.A (subscriptTail e (.Slice lo hi none p2) v (.ref s3.heap.objs.size)) (EP X pins σ Q) X.xe { s3 with heap:=s3.heap.push { cls:=.type "slice",data:=.fields #[vl,vu,.none] } }
 exact tail_any (ops:=[.ref s3.heap.objs.size,v]) ht hT hg (by with_unfolding_all rfl)
def zgg(xs:List V)(lo hi:Option Int):List V:=(xs.drop (HT.sIx xs.length 0 lo)).take (HT.sIx xs.length xs.length hi-HT.sIx xs.length 0 lo)
theorem zh6(xs:List V)(lo hi:Option Int):(zgg xs lo hi).length≤xs.length:=by
 unfold zgg
 rw[length_take,length_drop]
 omega
end
def ixN(n:Nat)(i:Int):Option Nat:=if 0≤i then(if i<n then some i.toNat else none)else if -(n:Int)≤i then some (i+n).toNat else none
def atI{α:Type}(xs:List α)(i:Int):Option α:=(ixN xs.length i).bind fun j=>xs[j]?
theorem ixN_seq{n:Nat}{i:Int}{j:Nat}(h:ixN n i=some j):seqIndex? i n=some j∧j<n ∧ -(n:Int)≤i∧i<n:=by
 unfold ixN at h
 by_cases h0:0≤i
 ·rw[if_pos h0] at h
  by_cases h1:i<n
  ·rw[if_pos h1] at h
   have e:i.toNat=j:=Option.some.inj h
   exact⟨by rw[seqIndex_of h0 h1,e],by omega,by omega,h1⟩
  ·rw[if_neg h1] at h;cases h
 ·rw[if_neg h0] at h
  by_cases h1 : -(n:Int)≤i
  ·rw[if_pos h1] at h
   have e:(i+n).toNat=j:=Option.some.inj h
   exact⟨by rw[seqIndex_neg (by omega) h1,e],by omega,h1,by omega⟩
  ·rw[if_neg h1] at h;cases h
theorem zhv{α:Type}{xs:List α}{i:Int}{v:α}(h:atI xs i=some v):∃j,seqIndex? i xs.length=some j∧xs[j]? = some v∧j<xs.length ∧ -(xs.length:Int)≤i∧i<xs.length:=by
 unfold atI at h
 cases e:ixN xs.length i with
 | none=>rw[e] at h;cases h
 | some j =>
   rw[e] at h
   obtain⟨h1,h2,h3,h4⟩:=ixN_seq e
   exact⟨j,h1,h,h2,h3,h4⟩
theorem zP{α:Type}{xs:List α}{j:Nat}{v:α}(h:xs[j]? = some v):atI xs (j:Int)=some v:=by
 have hj:j<xs.length:=(List.getElem?_eq_some_iff.mp h).1
 have e:ixN xs.length (j:Int)=some j:=by
  unfold ixN
  rw[if_pos (by omega),if_pos (by omega)];simp
 unfold atI;rw[e];exact h
def PlainIx(b:Expr):Prop:=∀o i,subscripted b false o i=operate [o,i] (getItem o i)
def IxR(X:Cx)(r:R2):Prop :=
 ∀(value slice:Expr)(pins:List (Addr×Obj)) (s:Shared) (σ:St) (H:Hp) (x y:V) (v u:Value) (Q:VK),Inv X pins σ H s→zS x v→zS y u→r x y H Q →
  subscripted slice false v u=operate [v,u] (getItem v u)→wpAny (model X.prog X.w) X.A (subscriptTail value slice v u) (EP X pins σ Q) X.xe s
def MtR(X:Cx)(id:String)(r:V→List V→Hp→VK→Prop):Prop :=
 ∀(pins:List (Addr×Obj)) (s:Shared) (σ:St) (H:Hp) (x:V) (xs:List V) (v:Value) (us:List Value) (Q:VK),Inv X pins σ H s→zS x v→zF xs us→r x xs H Q →
  wpAny (model X.prog X.w) X.A (call (.builtin id) (v::us)) (EP X pins σ Q) X.xe s
section
variable {X:Cx}{a b:Expr}{ta tb:TE}{pos:Pos}
theorem zA{r:R2}(hr:IxR X r)(ha:PE X a ta)(hb:PE X b tb)(hs:PlainIx b):PE X (.Subscript a b pos) (tOp r ta tb):=by
 intro pins s σ H Q I h
 exact Subscript_ (binT ha hb I h fun v u s2 x y H2 I2 rx ry q=>hr a b pins s2 σ H2 x y v u Q I2 rx ry q (hs _ _))
def rIxL(K:Frag):R2:=fun x y H Q=>∃p xs i v,x=.ref p∧y=.int i∧SqL K H p xs∧atI xs i=some v∧Q v H
def rIxT(K:Frag):R2:=fun x y H Q=>∃p xs i v,x=.ref p∧y=.int i∧SqT K H p xs∧atI xs i=some v∧Q v H
def rIxS:R2:=fun x y H Q=>∃z i c,x=.str z∧y=.int i∧z.length≤sizeLine∧atI z.cps.toList i=some c∧Q (.str ⟨#[c]⟩) H
theorem zy:IxR X (rIxL X.K):=by
 intro value slice pins s σ H x y v u Q I rx ry h hs
 obtain⟨p,xs,i,z,rfl,rfl,hq,he,q⟩:=h
 cases rx
 obtain⟨t,rfl⟩:=ry
 obtain⟨its,r,pl,hz⟩:=I.list hq
 obtain⟨j,h1,h2,h3,h4,h5⟩:=zhv he
 obtain⟨w,ew,rw'⟩:=r.get h2
 have hl:=r.length
 have hn:=zeL
 have fin:EP X pins σ Q w s:=⟨z,H,I,rw',q⟩
 by_cases h0:0≤i
 ·have hj:i.toNat=j:=by
   rw[seqIndex_of h0 h5] at h1
   exact Option.some.inj h1
  exact item_listR pl.isList h0 (by omega) (by rw[hj];simpa using ew) fin hs
 ·have hj:(i+(its.toArray.size:Int)).toNat=j:=by
   rw[seqIndex_neg (by omega) h4] at h1
   rw[size_toArray,←hl]
   exact Option.some.inj h1
  exact subscriptTail_builtinR (x:=w) pl.isList.typeIs slot_list_getitem.lookup
   (wpAny_getItem_list_neg (Q:=fun r s'=>r=w∧EP X pins σ Q r s') pl.isList (by omega) (by rw[size_toArray] <;> omega) (by omega) (by rw[hj];simpa using ew) ⟨rfl,fin⟩) hs
theorem yt:IxR X (rIxT X.K):=by
 intro value slice pins s σ H x y v u Q I rx ry h hs
 obtain⟨p,xs,i,z,rfl,rfl,hq,he,q⟩:=h
 cases rx
 obtain⟨t,rfl⟩:=ry
 obtain⟨its,r,pl,hz⟩:=I.tuple hq
 obtain⟨j,h1,h2,h3,h4,h5⟩:=zhv he
 obtain⟨w,ew,rw'⟩:=r.get h2
 have hl:=r.length
 have hn:=zeL
 have fin:EP X pins σ Q w s:=⟨z,H,I,rw',q⟩
 exact subscriptTail_builtinR (x:=w) pl.typeIs slot_tuple_getitem.lookup
  (getItem_tuple (j:=j) (Q:=fun r s'=>r=w∧EP X pins σ Q r s') pl (by omega) (by omega) (by rw[size_toArray,←hl];exact h1) (by simpa using ew) ⟨rfl,fin⟩) hs
theorem ix_str:IxR X rIxS:=by
 intro value slice pins s σ H x y v u Q I rx ry h hs
 obtain⟨z,i,c,rfl,rfl,hz,he,q⟩:=h
 obtain⟨t,rfl⟩:=rx
 obtain⟨t',rfl⟩:=ry
 obtain⟨j,h1,h2,h3,h4,h5⟩:=zhv he
 have hl:z.cps.toList.length=z.length:=by simp[Str.length]
 rw[hl] at h1 h4 h5
 have hn:=zeL
 exact tail_any (typeIs_str s z t) slot_str_getitem.lookup (getItem_str (c:=c) (by
  have e1:decide (i < -(2 ^ 63:Int))=false:=decide_eq_false (by omega)
  have e2:decide (i ≥ 2 ^ 63)=false:=decide_eq_false (by omega)
  rw[e1,e2,Bool.or_false]) (by rw[h1];simpa using h2) ⟨.str ⟨#[c]⟩,H,I.tok _,⟨_,rfl⟩,q⟩) hs
theorem mapSeq_set(its:List Value)(n j:Nat)(u:Value):Obj.mapSeq (·.setIfInBounds j u) { cls:=.type "list",data:=.seq its.toArray n }={ cls:=.type "list",data:=.seq (its.set j u).toArray n }:=by
 simp[Obj.mapSeq]
theorem Inv.lst{pins:List (Addr×Obj)}{σ:St}{H:Hp}{s:Shared}{p:Addr}{xs:List V}(I:Inv X pins σ H s)(h:H p=some (.lst xs)):
 ∃(its:List Value)(n:Nat),zF xs its∧s.heap.get? p=some { cls:=.type "list",data:=.seq its.toArray n }∧xs.length≤sizeLine:=by
 obtain⟨z,its,n,r,e⟩:=I.hok p _ h
 exact⟨its,n,r,e,z⟩
theorem Inv.lstUpd{pins:List (Addr×Obj)}{σ:St}{H:Hp}{s:Shared}{p:Addr}{xs ys:List V}{its its':List Value}{n n':Nat}{f:Obj→Obj}(I:Inv X pins σ H s)(h:H p=some (.lst xs))
 (ho:s.heap.get? p=some { cls:=.type "list",data:=.seq its.toArray n }) (hf:f { cls:=.type "list",data:=.seq its.toArray n }={ cls:=.type "list",data:=.seq its'.toArray n' }) (r:zF ys its') (hz:ys.length≤sizeLine) (t:Nat) :
 Inv X pins σ (upd H p (.lst ys)) { s with heap:=s.heap.update p f,toks:=t }:=by
 have e:(s.heap.update p f).get? p=some { cls:=.type "list",data:=.seq its'.toArray n' }:=by
  rw[Heap.get?_update_self f ho (by rw[hf] <;> rfl),hf]
 refine I.write (x:=p) (e:=p) (by rw[h];trivial) (.inl rfl) (fun b u hb q=>(get?_update_other _ _ (Ne.symm hb)).trans q) ⟨_,e⟩ ?_
 exact⟨hz,its',n',r,e⟩
def rSetL:V→V→V→Hp→(Hp→Prop)→Prop:=fun o i v H Q=>∃p xs k j,o=.ref p∧i=.int k∧H p=some (.lst xs)∧ixN xs.length k=some j∧Q (upd H p (.lst (xs.set j v)))
theorem set_list:PSet X rSetL:=by
 intro pins s σ H o i v ov iv u Q I ro ri rv h
 obtain⟨p,xs,k,j,rfl,rfl,hp,hj,q⟩:=h
 cases ro
 obtain⟨t,rfl⟩:=ri
 obtain⟨its,n,r,ho,hz⟩:=I.lst hp
 obtain⟨h1,h2,h3,h4⟩:=ixN_seq hj
 have hl:=r.length
 have hn:=zeL
 have I':Inv X pins σ (upd H p (.lst (xs.set j v))) { s with heap:=s.heap.update p (Obj.mapSeq (·.setIfInBounds j u)) } :=
  I.lstUpd hp ho (mapSeq_set its n j u) (r.set rv j) (by rw[List.length_set];exact hz) s.toks
 by_cases h0:0≤k
 ·have hk:k.toNat=j:=by
   rw[seqIndex_of h0 h4] at h1
   exact Option.some.inj h1
  exact PySem.W.ki_setAt ho h0 (by omega) (by rw[size_toArray,←hl];exact h4) (by rw[hk];exact⟨_,I',q⟩)
 ·have hk:(k+(its.toArray.size:Int)).toNat=j:=by
   rw[seqIndex_neg (by omega) h3] at h1
   rw[size_toArray,←hl]
   exact Option.some.inj h1
  exact PySem.W.ki_setBack ho (by omega) (by rw[size_toArray,←hl];exact h3) (by omega) (by rw[hk];exact⟨_,I',q⟩)
theorem zgX(lo hi:Option Int)(n:Nat):(sliceBounds lo hi none n).1=((HT.sIx n 0 lo:Nat):Int)∧(sliceBounds lo hi none n).2.1=((HT.sIx n n hi:Nat):Int)∧(sliceBounds lo hi none n).2.2=1:=by
 refine⟨?_,?_,rfl⟩
 ·cases lo with
  | none=>simp[sliceBounds,HT.sIx]
  | some i =>
    simp only[sliceBounds,HT.sIx,Option.getD_none,show(1:Int) > 0 by decide,if_true]
    by_cases h:i<0
    ·simp only[h,if_true] <;> omega
    ·simp only[h,if_false] <;> omega
 ·cases hi with
  | none=>simp[sliceBounds,HT.sIx]
  | some i =>
    simp only[sliceBounds,HT.sIx,Option.getD_none,show(1:Int) > 0 by decide,if_true]
    by_cases h:i<0
    ·simp only[h,if_true] <;> omega
    ·simp only[h,if_false] <;> omega
theorem zf9(its:List Value)(lo hi:Option Int):slicePick its.toArray lo hi none=((its.drop (HT.sIx its.length 0 lo)).take (HT.sIx its.length its.length hi-HT.sIx its.length 0 lo)).toArray:=by
 obtain⟨h1,h2,h3⟩:=zgX lo hi its.toArray.size
 unfold slicePick
 rw[h1,h2,h3]
 simp only[sliceRange_one,pick_run,size_toArray] <;> rfl
def rSlL(K:Frag):V→Option Int→Option Int→Hp→VK→Prop:=fun x lo hi H Q=>∃a xs,x=.ref a∧SqL K H a xs∧∀p,H p=none→Q (.ref p) (upd H p (.lst (zgg xs lo hi)))
theorem zac:SlR X (rSlL X.K):=by
 intro pins s σ H x v vl vu lo hi sl Q I rx hs pl pu h
 obtain⟨a,xs,rfl,hx,q⟩:=h
 cases rx
 obtain⟨its,r,ht,hz⟩:=I.list hx
 have hlen:=r.length
 refine⟨"list",_,slot_list_getitem.lookup,ht.isList.typeIs,?_⟩
 refine wpAny_getItem_list_slice ht.isList hs pl pu .none (by simp) ?_ (by rw[size_toArray] <;> omega)
 rw[zf9,←hlen]
 refine⟨.ref s.heap.objs.size,_,I.laid (t':=s.toks) (o:=.lst (zgg xs lo hi)) (fun b ob q=>get?_push_of_some _ q) (le_refl _) ?_,rfl,q _ (I.hok.fresh (le_refl _))⟩
 exact⟨le_trans (zh6 xs lo hi) hz,_,0,(r.drop (HT.sIx xs.length 0 lo)).take (HT.sIx xs.length xs.length hi-HT.sIx xs.length 0 lo),get?_push_size _ rfl⟩
def zaM:V→Bool
 | .non=>true
 | .bl _=>true
 | .int _=>true
 | .str _=>true
 | _=>false
def eqV:V→V→Bool
 | .non,.non=>true
 | .bl a,.bl b=>a==b
 | .bl a,.int b=>(if a then 1 else 0)==b
 | .int a,.bl b=>a==(if b then 1 else 0)
 | .int a,.int b=>a==b
 | .str a,.str b=>a==b
 | _,_=>false
theorem eqAt_V{A:Around}{s:Shared}{y x:V}{u v:Value}(ry:zS y u)(rx:zS x v)(fy:zaM y=true)(fx:zaM x=true):SeqAt.EqAt A s u v (eqV y x):=by
 cases y with
 | non =>
   cases ry
   cases x with
   | non=>cases rx;exact SeqAt.EqAt.same _
   | bl b=>cases rx;exact SeqAt.EqAt.none_bool b
   | int b=>obtain⟨t,rfl⟩:=rx;exact SeqAt.EqAt.none_int b t
   | str b=>obtain⟨t,rfl⟩:=rx;exact SeqAt.EqAt.none_str b t
   | _=>exact absurd (show false=true from fx) Bool.false_ne_true
 | bl a =>
   cases ry
   cases x with
   | non=>cases rx;exact SeqAt.EqAt.bool_none a
   | bl b=>cases rx;exact SeqAt.EqAt.bool_bool a b
   | int b=>obtain⟨t,rfl⟩:=rx;exact SeqAt.EqAt.bool_int a b t
   | str b=>obtain⟨t,rfl⟩:=rx;exact SeqAt.EqAt.bool_str a b t
   | _=>exact absurd (show false=true from fx) Bool.false_ne_true
 | int a =>
   obtain⟨t',rfl⟩:=ry
   cases x with
   | non=>cases rx;exact SeqAt.EqAt.int_none a t'
   | bl b=>cases rx;exact SeqAt.EqAt.int_bool a t' b
   | int b=>obtain⟨t,rfl⟩:=rx;exact SeqAt.EqAt.int_int a t' b t
   | str b=>obtain⟨t,rfl⟩:=rx;exact SeqAt.EqAt.int_str a t' b t
   | _=>exact absurd (show false=true from fx) Bool.false_ne_true
 | str a =>
   obtain⟨t',rfl⟩:=ry
   cases x with
   | non=>cases rx;exact SeqAt.EqAt.str_none a t'
   | bl b=>cases rx;exact SeqAt.EqAt.str_bool a t' b
   | int b=>obtain⟨t,rfl⟩:=rx;exact SeqAt.EqAt.str_int a t' b t
   | str b=>obtain⟨t,rfl⟩:=rx;exact SeqAt.EqAt.str_str a t' b t
   | _=>exact absurd (show false=true from fx) Bool.false_ne_true
 | _=>exact absurd (show false=true from fy) Bool.false_ne_true
def eqU(x:V)(u:Value):Bool:=match u with
 | .none=>eqV .non x
 | .bool b=>eqV (.bl b) x
 | .int i _=>eqV (.int i) x
 | .str z _=>eqV (.str z) x
 | _=>false
theorem zi8{x y:V}{u:Value}(r:zS y u)(f:zaM y=true):eqU x u=eqV y x:=by
 cases y with
 | non=>cases r;rfl
 | bl b=>cases r;rfl
 | int i=>obtain⟨t,rfl⟩:=r;rfl
 | str z=>obtain⟨t,rfl⟩:=r;rfl
 | _=>exact absurd (show false=true from f) Bool.false_ne_true
theorem zhM{x:V}:∀{xs:List V}{us:List Value},zF xs us→xs.all zaM=true→us.any (eqU x)=xs.any fun y=>eqV y x
 | _,_,.nil,_=>rfl
 | y::xs,u::us,.cons r t,f=>by
   rw[all_cons,Bool.and_eq_true] at f
   rw[any_cons,any_cons,zi8 r f.1,zhM t f.2]
theorem zd2{A:Around}{s:Shared}{x:V}{v:Value}(rx:zS x v)(fx:zaM x=true):∀{xs:List V}{us:List Value},zF xs us→xs.all zaM=true→∀u∈us,SeqAt.EqAt A s u v (eqU x u)
 | _,_,.nil,_=>fun u hu=>by cases hu
 | y::xs,u::us,.cons r t,f=>fun u' hu=>by
   rw[all_cons,Bool.and_eq_true] at f
   rcases List.mem_cons.mp hu with rfl | hu
   ·rw[zi8 r f.1];exact eqAt_V r rx f.1 fx
   ·exact zd2 rx fx t f.2 u' hu
def inV(x:V)(xs:List V):Bool:=xs.any fun y=>eqV y x
def rIn(K:Frag)(neg:Bool):R2:=fun x y H Q=>∃p xs,y=.ref p∧(SqL K H p xs∨SqT K H p xs)∧zaM x=true∧xs.all zaM=true∧Q (.bl (if neg then !inV x xs else inV x xs)) H
theorem zbx:OpR X (compareOp .NotIn) (rIn X.K true):=by
 intro pins s σ H x y v u Q I rx ry h
 obtain⟨p,xs,rfl,hq,fx,fs,q⟩:=h
 cases ry
 rcases hq with hq | hq
 ·obtain⟨its,r,pl,hz⟩:=I.list hq
  refine SeqAt.notIn_listAt (eqU x) pl.isList (fun w hw=>zd2 rx fx r fs w (by simpa using hw)) ⟨.bl _,H,I,rfl,?_⟩
  rw[show its.toArray.any (eqU x)=its.any (eqU x)by simp,zhM r fs]
  exact q
 ·obtain⟨its,r,pl,hz⟩:=I.tuple hq
  refine SeqAt.notIn_tupleAt (eqU x) pl (fun w hw=>zd2 rx fx r fs w (by simpa using hw)) ⟨.bl _,H,I,rfl,?_⟩
  rw[show its.toArray.any (eqU x)=its.any (eqU x)by simp,zhM r fs]
  exact q
theorem zg:zaG X (.builtin "len") (fun xs H Q=>∃p ys,xs=[.ref p]∧(SqL X.K H p ys∨SqT X.K H p ys)∧Q (.int ys.length) H):=by
 intro pins s σ H xs us Q I r h
 obtain⟨p,ys,rfl,hq,q⟩:=h
 obtain⟨u,rfl,rx⟩:=vals1 r
 cases rx
 have hn:=zeL
 rcases hq with hq | hq
 ·obtain⟨its,r',pl,hz⟩:=I.list hq
  have hlen:=r'.length
  exact Calls.call_len_list pl.isList (by simp only[size_toArray] <;> omega) ⟨.int ys.length,H,I.tok _,⟨s.toks+1,by rw[size_toArray,hlen]⟩,q⟩
 ·obtain⟨its,r',pl,hz⟩:=I.tuple hq
  have hlen:=r'.length
  exact len_tuple pl (by simp only[size_toArray] <;> omega) ⟨.int ys.length,H,I.tok _,⟨s.toks+1,by rw[size_toArray,hlen]⟩,q⟩
theorem yo:zaG X (.type "list") (fun xs H Q=>∃p ys,xs=[.ref p]∧(SqL X.K H p ys∨SqT X.K H p ys)∧∀l,H l=none→Q (.ref l) (upd H l (.lst ys))):=by
 intro pins s σ H xs us Q I r h
 obtain⟨p,ys,rfl,hq,q⟩:=h
 obtain⟨u,rfl,rx⟩:=vals1 r
 cases rx
 have fin:∀(its:List Value),zF ys its→ys.length≤sizeLine→∀(h':Heap)(c':Nat),(∀b o',s.heap.get? b=some o'→h'.get? b=some o') →
  h'.get? s.heap.objs.size=some { cls:=.type "list",dict:=none,data:=.seq its.toArray c',slots := #[] }→EP X pins σ Q (.ref s.heap.objs.size) { s with heap:=h' }:=fun its r' hz h' c' kp e =>
  ⟨.ref s.heap.objs.size,_,I.laid (t':=s.toks) kp (le_refl _) (show wf X.prog X.w _ h' _ (.lst ys)from⟨hz,its,c',r',e⟩),rfl,q _ (I.hok.fresh (le_refl _))⟩
 rcases hq with hq | hq
 ·obtain⟨its,r',pl,hz⟩:=I.list hq
  have hlen:=r'.length
  obtain⟨o,ho,hc,n,hd⟩:=pl.isList
  exact call_list_seq p (.inl rfl) ho hc hd (fun h' c' kp e=>fin its r' hz h' c' kp e) (by simp only[size_toArray] <;> omega)
 ·obtain⟨its,r',pl,hz⟩:=I.tuple hq
  have hlen:=r'.length
  obtain⟨o,ho,hc,n,hd⟩:=pl
  exact call_list_seq p (.inr rfl) ho hc hd (fun h' c' kp e=>fin its r' hz h' c' kp e) (by simp only[size_toArray] <;> omega)
def tyV(K:Frag)(T:String)(x:V)(H:Hp):Prop:=match x with
 | .str _=>T= "str"
 | .int _=>T= "int"
 | .ref p=>(T= "list"∧∃xs,SqL K H p xs)∨(T= "tuple"∧∃o,K.lookup p=some o∧o.cls=.type "tuple"∧o.dict=none) ∨
    (T= "dict"∧((∃kvs,H p=some (.dK kvs))∨∃kvs,H p=some (.dT kvs)))∨(T= "set"∧∃S n,H p=some (.set S n))
 | _=>False
theorem tyV_is{pins:List (Addr×Obj)}{σ:St}{H:Hp}{s:Shared}{T:String}{x:V}{v:Value}(I:Inv X pins σ H s)(r:zS x v)(ty:tyV X.K T x H):
 s.TypeIs v T∧∀a,v=.ref a→∃ob,s.heap.get? a=some ob∧ob.dict=none:=by
 cases x with
 | str z =>
   obtain⟨t,rfl⟩:=r
   cases (show T= "str" from ty)
   exact⟨typeIs_str s z t,fun _ e=>nomatch e⟩
 | int i =>
   obtain⟨t,rfl⟩:=r
   cases (show T= "int" from ty)
   exact⟨typeIs_int s i t,fun _ e=>nomatch e⟩
 | ref p =>
   cases r
   rcases ty with⟨rfl,xs,hq⟩|⟨rfl,o,hk,hc,hd⟩|⟨rfl,hk⟩|⟨rfl,S,n,hk⟩
   ·obtain⟨its,_,pl,_⟩:=I.list hq
    refine⟨pl.isList.typeIs,fun a e=>?_⟩
    cases e
    obtain⟨o,n,e,c,hd,_⟩:=pl
    exact⟨o,e,hd⟩
   ·refine⟨⟨o,I.kIn p o hk,hc⟩,fun a e=>?_⟩
    cases e
    exact⟨o,I.kIn _ o hk,hd⟩
   ·have z:∃o,s.heap.get? p=some o∧o.ExactDict:=by
     rcases hk with⟨kvs,hk⟩|⟨kvs,hk⟩
     ·obtain⟨_,_,_,_,o,_,_,e,ex,_⟩:=I.hok p _ hk
      exact⟨o,e,ex⟩
     ·obtain⟨_,_,_,_,o,_,_,e,ex,_⟩:=I.hok p _ hk
      exact⟨o,e,ex⟩
    obtain⟨o,e,ex⟩:=z
    refine⟨⟨o,e,ex.1⟩,fun a e2=>?_⟩
    cases e2
    exact⟨o,e,ex.2.1⟩
   ·obtain⟨o,_,_,_,e,ex,_⟩:=I.hok p _ hk
    refine⟨⟨o,e,ex.1⟩,fun a e2=>?_⟩
    cases e2
    exact⟨o,e,ex.2.1⟩
 | _=>exact False.elim ty
def tBM(K:Frag)(T:String)(r:V→List V→Hp→VK→Prop)(to:TE)(t:TA):TE:=fun σ H Q=>to σ H fun x H1=>tyV K T x H1∧t σ H1 fun xs H2=>r x xs H2 Q
variable {o e:Expr}{es:List Expr}{to:TE}{t:TA}{name:Str}{apos cpos:Pos}{T id:String}{r:V→List V→Hp→VK→Prop}
theorem zaw(pa:PlainAttrs T)(slot:Slot T name id)(hty:typeOf (.builtin id)=pure (.type "method_descriptor"))(hm:MtR X id r)(ho:PE X o to)(ha:PA X (e::es) t)
 (hbase:attributeBase o name X.env (eval o X.env)=eval o X.env:=by rfl)
 (hfew:((backTo cpos (starEach (e::es) X.env)).all (fun x => !x.1) && (backToKw cpos (keywordEach [] X.env)).all (fun x=>x.1.isSome)
   && decide ((e::es).length+([]:List Keyword).length+(if([]:List Keyword).isEmpty then 0 else 1)<30))=true:=by rfl)
 (hline:(apos.endLine==cpos.line)=true:=by rfl) (hs:starEach (e::es) X.env=(false,eval e X.env)::starEach es X.env:=by rfl) (hplain:(backTo cpos (starEach es X.env)).any (·.1)=false:=by rfl) :
 PE X (.Call (.Attribute o name apos) (e::es) [] cpos) (tBM X.K T r to t):=by
 intro pins s σ H Q I h
 refine wpAny_Call_method_late hbase hfew hline rfl (thn (ho pins s σ H _ I h) fun v s1 ⟨x,H1,I1,r1,ty,q1⟩=>?_)
 obtain⟨h1,h2⟩:=tyV_is I1 r1 ty
 refine⟨T,id,pa,slot,hty,h1,h2,?_⟩
 have hA:=ha cpos pins s1 σ H1 _ I1 q1
 rw[hs] at hA ⊢
 refine Calls.callWith_builtin (by show(false || (backTo cpos (starEach es X.env)).any (·.1))=false;rw[hplain] <;> rfl) (Calls.evalArgs_plain ?_)
 exact thn hA fun us s2 ⟨vs,H2,I2,r2,q2⟩=>hm pins s2 σ H2 x vs v us Q I2 r1 r2 q2
/- xs.append(e),list.index on a module's tuple .. are MtR facts of 06m -/
end
def MtM(X:Cx)(id:String)(r:V→List V→Hp→VK→Prop):Prop :=
 ∀(pins:List (Addr×Obj)) (s:Shared) (σ:St) (H:Hp) (x:V) (xs:List V) (v:Value) (us:List Value) (Q:VK),Inv X pins σ H s→zS x v→zF xs us→r x xs H Q →
  wpAny (model X.prog X.w) X.A (call (.builtin id) (v::us)) (EP X pins σ Q) X.xe s
theorem zF.one:∀{x:V}{us:List Value},zF [x] us→∃u,us=[u]∧zS x u
 := by
 intro x us h
 cases h with
 | cons r q=>cases q;exact⟨_,rfl,r⟩
theorem zF.two:∀{x y:V}{us:List Value},zF [x,y] us→∃u v,us=[u,v]∧zS x u∧zS y v
 := by
 intro x y us h
 cases h with
 | cons r z=>cases z with
   | cons q z=>cases z;exact⟨_,_,rfl,r,q⟩
theorem zF.eraseIdx:∀{xs:List V}{us:List Value}(i:Nat),zF xs us→zF (xs.eraseIdx i) (us.eraseIdx i)
 | _,_,_,.nil=>.nil
 | _,_,0,.cons _ t=>t
 | _,_,i+1,.cons r t=>.cons r (zF.eraseIdx i t)
theorem zF.reverse{xs:List V}{us:List Value}(h:zF xs us):zF xs.reverse us.reverse:=by
 induction h with
 | nil=>exact .nil
 | cons r t ih=>rw[List.reverse_cons,List.reverse_cons];exact zF.append ih (.cons r .nil)
theorem zgQ{α:Type}:∀(l:List α)(i:Nat),(l.eraseIdx i).length≤l.length
 | [],_=>le_refl _
 | _::_,0=>le_succ _
 | _::r,i+1=>Nat.succ_le_succ (zgQ r i)
section
variable {X:Cx}{pins:List (Addr×Obj)}{σ:St}{H:Hp}{s:Shared}{l b:Addr}{xs ys zs:List V}
theorem Inv.lset{its its':List Value}{n:Nat}{f:Array Value→Array Value}{t':Nat}(I:Inv X pins σ H s)(hH:H l=some (.lst xs))
 (e:s.heap.get? l=some { cls:=.type "list",data:=.seq its.toArray n }) (hf:f its.toArray=its'.toArray) (hv:zF ys its') (hz:ys.length≤sizeLine) :
 Inv X pins σ (upd H l (.lst ys)) { s with heap:=s.heap.update l (Obj.mapSeq f),toks:=t' }:=by
 have q:=PySem.IsL.update e f
 rw[hf] at q
 refine I.write (x:=l) (e:=l) (by rw[hH];exact trivial) (.inl rfl) (fun b' u hb hu=>(get?_update_other s.heap (Obj.mapSeq f) (Ne.symm hb)).trans hu) ⟨_,q⟩ ?_
 exact⟨hz,its',_,hv,q⟩
theorem Inv.lnew{its:List Value}{t':Nat}(I:Inv X pins σ H s)(hv:zF ys its)(hz:ys.length≤sizeLine):
 Inv X pins σ (upd H s.heap.objs.size (.lst ys)) { s with heap:=s.heap.push { cls:=.type "list",data:=.seq its.toArray },toks:=t' } :=
 I.laid (fun _ _ q=>get?_push_of_some _ q) (le_refl _) ⟨hz,its,0,hv,get?_push_size _ rfl⟩
theorem Inv.fresh(I:Inv X pins σ H s):H s.heap.objs.size=none:=I.hok.fresh (le_refl _)
theorem Inv.lstM(I:Inv X pins σ H s)(hH:H l=some (.lst xs)):xs.length≤sizeLine∧∃(its:List Value)(n:Nat),zF xs its∧xs.length=its.length∧s.heap.get? l=some { cls:=.type "list",data:=.seq its.toArray n }:=by
 obtain⟨z,its,n,r,e⟩:=I.hok l _ hH
 exact⟨z,its,n,r,r.length,e⟩
end
section
variable {X:Cx}
def rAppend:V→List V→Hp→VK→Prop:=fun x vs H Q=>∃l xs y,x=.ref l∧vs=[y]∧H l=some (.lst xs)∧xs.length<sizeLine∧Q .non (upd H l (.lst (xs++[y])))
theorem yF:MtM X "list.append" rAppend:=by
 intro pins s σ H x vs v us Q I rx rv h
 obtain⟨l,xs,y,rfl,rfl,hH,hz,q⟩:=h
 cases rx
 obtain⟨u,rfl,ru⟩:=rv.one
 obtain⟨z,its,n,r,hl,e⟩:=I.lstM hH
 refine call_meets F.slot_list_append ⟨_,e,rfl⟩ F.entry_list_append (F.args_list_append_2 _ _) (PySem.list_append l its.toArray n u (by rw[size_toArray];omega)) ⟨e,?_⟩
 refine⟨.non,_,I.lset (its':=its++[u]) hH e (by simp) (r.append (.cons ru .nil)) ?_,rfl,q⟩
 rw[length_append,length_singleton]
 omega
def rPopAt:V→List V→Hp→VK→Prop:=fun x vs H Q=>∃l xs i k y,x=.ref l∧vs=[.int i]∧H l=some (.lst xs) ∧ -(2 ^ 63)≤i∧i<2 ^ 63∧seqIndex? i xs.length=some k∧xs[k]? = some y∧Q y (upd H l (.lst (xs.eraseIdx k)))
theorem mt_popAt:MtM X "list.pop" rPopAt:=by
 intro pins s σ H x vs v us Q I rx rv h
 obtain⟨l,xs,i,k,y,rfl,rfl,hH,h1,h2,hk,hy,q⟩:=h
 cases rx
 obtain⟨u,rfl,ru⟩:=rv.one
 obtain⟨t,rfl⟩:=ru
 obtain⟨z,its,n,r,hl,e⟩:=I.lstM hH
 obtain⟨w,hw,rw'⟩:=r.get hy
 refine call_meets F.slot_list_pop ⟨_,e,rfl⟩ F.entry_list_pop (F.args_list_pop_2 _ _)
  (MeetsSeq.list_pop_at l its.toArray n i t k w (fitsIndex_both h1 h2) (by rw[size_toArray,←hl];exact hk) (by rw[←Array.getElem?_toList];exact hw) (by rw[size_toArray];omega)) ⟨e,?_⟩
 refine⟨y,_,I.lset (its':=its.eraseIdx k) hH e ?_ (r.eraseIdx k) ?_,rw',q⟩
 ·show its.toArray.eraseIdxIfInBounds k=(its.eraseIdx k).toArray
  rw[List.eraseIdxIfInBounds_toArray]
 ·have:=zgQ xs k
  omega
def rCat:R2:=fun x y H Q=>∃l b xs zs,x=.ref l∧y=.ref b∧H l=some (.lst xs)∧H b=some (.lst zs)∧xs.length+zs.length≤sizeLine∧∀p,H p=none→Q (.ref p) (upd H p (.lst (xs++zs)))
theorem wD:OpR X (binaryOp .Add) rCat:=by
 intro pins s σ H x y v u Q I rx ry h
 obtain⟨l,b,xs,zs,rfl,rfl,hH,hB,hz,q⟩:=h
 cases rx
 cases ry
 obtain⟨z,its,n,r,hl,e⟩:=I.lstM hH
 obtain⟨z2,its2,n2,r2,hl2,e2⟩:=I.lstM hB
 refine PySem.P.add_list e e2 ?_ (by rw[size_toArray,size_toArray];omega)
 have ea:its.toArray++its2.toArray=(its++its2).toArray:=by simp
 rw[ea]
 exact⟨.ref _,_,I.lnew (t':=s.toks) (r.append r2) (by rw[length_append];omega),rfl,q _ I.fresh⟩
end
section
variable {prog:Program}{w:World}{A:Around}{E:Value→Shared→Prop}{s:Shared}
end
section
variable {X:Cx}
end
end L2
namespace Att
open PySem PySem.W PySem.Calls PyProof.Rows
theorem ze9{P:Params}{h:Heap}:∀(ns:List Int)(vs:List Value),WellAll P h vs (ns.map WData.int)→IntsAre vs ns:=by
 intro ns
 induction ns with
 | nil =>
   intro vs w
   rw[map_nil] at w
   cases w
   exact .nil
 | cons n ns ih =>
   intro vs w
   rw[map_cons] at w
   cases w with
   | cons a b =>
     cases a
     exact .cons _ _ (ih _ b)
theorem script_of{l:OpenLaw}{n:Nat}(hn:l.most=some n){P:Params}{h:Heap}{args:List WData}{vals:List Value}
 (hpre:l.row.toRowW.claim.pre args=true) (hwl:WellAll P h vals args) :
 ∃a vs ns,vals=[Value.ref a]∧args=[WData.list (ns.map WData.int)]∧h.get? a=some { cls:=.type "list",data:=.seq vs.toArray }∧IntsAre vs ns∧ns.length≤n:=by
 have hsh:WShape.hasAll [] args [.list .int]=true:=(pre_splitW hpre).1
 have hc:l.pre.holds [] { args:=args }=true:=(pre_splitW hpre).2
 obtain⟨d,r,rfl,h1,h2⟩:=hasAllW_cons hsh
 obtain rfl:=hasAllW_nil h2
 obtain⟨xs,rfl,h3⟩:=hasW_list h1
 obtain⟨ns,rfl⟩:=items_int h3
 have hlen:ns.length≤n:=by
  unfold OpenLaw.pre at hc
  have h4:(WTm.not (.lt (.lit (.int (n:Int))) (.len (.arg 0)))).holds [] { args:=[.list (ns.map .int)] }=true:=by
   have h4:=(holds_andW hc).1
   rw[hn] at h4
   exact h4
  have h5:=condW_of h4 (w_not (w_lt w_lit (w_len_list (w_arg rfl))))
  rw[length_map] at h5
  refine Nat.le_of_not_lt fun q=>?_
  have q':(n:Int)<((ns.length:Nat):Int):=by omega
  first
   | (rw[decide_eq_true q'] at h5;exact absurd h5 (by decide))
   | (simp at h5;omega)
 cases hwl with
 | cons w1 w2 =>
   cases w2
   cases w1 with
   | list ho hall=>exact⟨_,_,ns,rfl,rfl,ho,ze9 ns _ hall,hlen⟩
theorem post_true(l:OpenLaw)(args:List WData):l.row.toRowW.claim.post args (.bool true) args=true :=
 postW_of (r:=l.row.toRowW) (X:=(true==true))
  (show WShape.has [] (.bool true) .bool=true by first | rfl | decide | simp[WShape.has,WShape.arms,WShape.armsAll])
  (show(WTm.eq .res (.lit (.bool true))).value [] { args:=args,res:=some (.bool true),after:=args }=some (.bool (true==true))from w_eq_bool (w_res rfl) w_lit) rfl
theorem attach_call{l:OpenLaw}{n:Nat}{q:Program}{loose:List Str}{XP:(Str→Option Value)→Heap→Prop}{YP:World→Heap→Prop}{d:DefRec}
 (hn:l.most=some n) (hdf:d.params.defaults=[])
 (call:∀(w:World)(s₀ s₁:Shared)(mg mb:Str→Option Value)(fa:Addr)(o:Obj)(pm cd doc:Value)(a:Addr)(vs:List Value)(ns:List Int),
   Ground q loose [] XP w s₀ mg mb s₁.heap→YP w s₁.heap →
   s₁.heap.get? fa=some o→o.data=.func (docDef d.name d.params d.body d.scope pm cd doc)→s₁.heap.CodeRec cd d.name→mg d.name=some (.ref fa) →
   s₁.heap.get? a=some { cls:=.type "list",data:=.seq vs.toArray }→IntsAre vs ns→ns.length≤n→s₁.gens = #[] →
   codeAny (model l.prog w) callerA (.call (.ref fa) ⟨[.ref a],[]⟩) (fun r s'=>r=.ok (.ret (.bool true))∧OldK s₁.heap s'.heap∧s'.os=s₁.os∧AllBare s'.gens) s₁) :
 WalkO q loose XP YP l.row.toRowW d [] (fun f vs=>PySem.call f vs):=by
 intro w s₀ s₁ mg mb G Y fa o pm cd doc dV kV ho hd hcd hD hmg hg args vals as hpre hlay hrd hwl hlo
 obtain rfl:dV=.none:=Dflts.none hD hdf
 obtain rfl:kV=.none:=Dflts.noKw hD
 obtain⟨a,vs,ns,rfl,rfl,hobj,hints,hlen⟩:=script_of hn hpre hwl
 refine enter_call (codeAny_mono (call w s₀ s₁ mg mb fa o pm cd doc a vs ns G Y ho (fd_plain hd) hcd hmg hobj hints hlen hg) fun r s' hq=>?_)
 obtain⟨rfl,h2,h3,h4⟩:=hq
 exact⟨.inl ⟨.bool true,.bool true,[],rfl,fun _=>rfl,.bool true,post_true l _,fun _=>⟨List.Pairwise.nil,fun _ hm=>(nomatch hm)⟩⟩,h2,h3,h4⟩
section
variable {prog:Program}{w:World}{A:Around}{E:Value→Shared→Prop}{s:Shared}{K:Frag}
def ledger(h:Heap)(L d:Addr):List (Addr×Obj):=(List.range h.objs.size).filterMap fun a=>if a=L∨a=d then none else(h.get? a).map fun o=>(a,o)
end
end Att
namespace L2
open PySem PySem.Spec PyProof.Rows
theorem zgM:∀{vs:List Value}{ns:List Int},IntsAre vs ns→zF (ns.map V.int) vs
 | _,_,.nil=>.nil
 | _,_,.cons n t h=>.cons ⟨t,rfl⟩ (zgM h)
end L2
/- THE LAST THEOREM (shape;LID,My.* are yours):
 My.Adr: a structure of the addresses that your layer names (classes,functions);My.Txt K t: a structure (Prop) of the equations over K;
 My.txt_mk:{K} {implicit addresses ..} (e1:nsIn K mainGlobals "law"=some (some (.ref f))) (e2:K.lookup f=some ⟨oc,od,.func (fnOf "law" "law" params body scope dV kV doc pm an cdv ct),sl⟩) (e3:codeIn K cdv "law"=true) .. : ∃t,My.Txt K t
(the tactic k_is has no namespace: write k_is) -/
namespace L2
open PySem PySem.Spec PyProof.Rows
def zbz(s:Stmt)(j:Nat):Stmt:=match s with
 | .ClassDef _ _ _ body _ _ _ _ _ _ _=>body.getD j (.Pass ⟨0,0,0,0⟩)
 | _ => .Pass ⟨0,0,0,0⟩
def zq(s:Stmt):Arguments:=match s with
 | .FunctionDef _ a _ _ _ _ _ _ _ _=>a
 | _=>{ posonlyargs:=[],args:=[],vararg:=none,kwonlyargs:=[],kw_defaults:=[],kwarg:=none,defaults:=[] }
def zo(s:Stmt):List Stmt:=match s with
 | .FunctionDef _ _ b _ _ _ _ _ _ _=>b
 | _=>[]
def zc(s:Stmt):Scope:=match s with
 | .FunctionDef _ _ _ _ _ _ sc _ _ _=>sc
 | _=>{ kind:=.function,names:=[],isGenerator:=false,isCoroutine:=false }
abbrev CX0:CXT:=fun _ _ _ _ _ _=>False
abbrev E0:XK:=fun _ _ _=>False
theorem pass0{X:Cx}:zg3 CX0 X E0:=fun _ _ _ _ _ _ _ h=>h.elim
structure Fun (K:Frag) (x qual:Str) (st:Stmt) (f:Addr) (fd:FuncData):Prop where
 ex:∃(oc:Value)(od:Option Addr)(kV doc pm:Value)(an:Option Addr)(cdv ct:Value)(osl:Array (Option Value)),
  fd=fnOf x qual (zq st) (zo st) (zc st) .none kV doc pm an cdv ct∧K.lookup f=some ⟨oc,od,.func fd,osl⟩∧codeIn K cdv qual=true
 kp:keepIn K (.ref f)=true
section
variable {P:Program}{w:World}{K:Frag}{mg:Str→Option Value}{base:Heap}
theorem Fun.ok{x qual:Str}{st:Stmt}{f:Addr}{fd:FuncData}{N ps:List Str}{k:Nat}{sp:Sp}(F:Fun K x qual st f fd)(S:FnScope N ps (zc st))(len:∀vs H Q E,sp vs H Q E→vs.length=ps.length)
 (hbody:∀(cdv:Value)(A:Around)(outer:List Env)(s:Shared)(H:Hp)(vs:List V)(Q:VK)(E:XK),Room k (A.deeper (envOfC qual (zc st) s.heap.objs.size f cdv))→sp vs H Q E →
   ∃t,PSs (zbP CX0 P w K mg base N qual (zc st) f cdv A outer s H E).nox (zo st) t∧t { nx:=fun _ H'=>Q .non H',rt:=Q } (zbu N vs) H):FnOk P w K mg base CX0 (k+1) f fd ps sp:=by
 obtain⟨oc,od,kV,doc,pm,an,cdv,ct,osl,rfl,lk,hcd⟩:=F.ex
 refine fn_of lk hcd S len fun A outer s H vs Q E hr hsp=>?_
 obtain⟨t,h,q⟩:=hbody cdv A outer s H vs Q E hr hsp
 exact⟨t,h.nox,q⟩
theorem Fun.binds{x qual:Str}{st:Stmt}{f:Addr}{fd:FuncData}{ps:List Str}(F:Fun K x qual st f fd)
 (h:∀(kV doc pm:Value)(an:Option Addr)(cdv ct:Value)(us:List Value),us.length=ps.length→bindArgs (fnOf x qual (zq st) (zo st) (zc st) .none kV doc pm an cdv ct) ⟨us,[]⟩=pure (ps.zip us)):zaS K fd ps []:=by
 obtain⟨oc,od,kV,doc,pm,an,cdv,ct,osl,rfl,lk,hcd⟩:=F.ex
 exact .all (h kV doc pm an cdv ct)
theorem zw{x qual:Str}{st:Stmt}{f:Addr}{oc:Value}{od an:Option Addr}{osl:Array (Option Value)}{kV doc pm cdv ct:Value}(l:K.lookup f=some ⟨oc,od,.func (fnOf x qual (zq st) (zo st) (zc st) .none kV doc pm an cdv ct),osl⟩)
 (c:codeIn K cdv qual=true) (k:keepIn K (.ref f)=true):Fun K x qual st f (fnOf x qual (zq st) (zo st) (zc st) .none kV doc pm an cdv ct):=⟨⟨oc,od,kV,doc,pm,an,cdv,ct,osl,rfl,l,c⟩,k⟩
end
theorem zgI{A:Around}{k:Nat}(hr:Room k A):A.units+1<cLine:=Nat.lt_of_le_of_lt (Nat.add_le_add_left (by decide:1≤64) _) hr.units
section
variable {X:Cx}
theorem pv(i:Nat){x:Str}{pos:Pos}(hN:X.N[i]? = some x:=by rfl)(hv:Vis X.env.scope x:=by first | exact Or.inl rfl | exact Or.inr (Or.inl rfl) | exact Or.inr (Or.inr rfl))(hd:(x==("__debug__":Str))=false:=by decide)
 (hcd:(x==("__classdict__":Str))=false:=by decide):PE X (.Name x pos) (tVar i):=pe_var hN hv hd hcd
end
theorem wF{A B:Prop}(h:B):if false=true then A else B:=by
 rw[if_neg Bool.false_ne_true]
 exact h
theorem iteT{A B:Prop}(h:A):if true=true then A else B:=by
 rw[if_pos rfl]
 exact h
theorem iteNS{c A B:Prop} [Decidable c](hc:c)(h:B):if(!decide c)=true then A else B:=by
 rw[decide_eq_true hc]
 exact wF h
def zi(H H':Hp):Prop:=∀b o,H b=some o→H' b=some o
theorem zi.refl(H:Hp):zi H H:=fun _ _ h=>h
theorem zi.trans{H H1 H2:Hp}(a:zi H H1)(b:zi H1 H2):zi H H2:=fun c o h=>b c o (a c o h)
theorem zi.free{H H':Hp}(e:zi H H'){l:Addr}(h:H' l=Option.none):H l=Option.none:=by
 cases q:H l with
 | none=>rfl
 | some o =>
   rw[e l o q] at h
   cases h
theorem zi.seq{K:Frag}{H H':Hp}{a:Addr}{xs:List V}(e:zi H H')(h:SqL K H a xs):SqL K H' a xs:=by
 rcases h with(h | ⟨o,h⟩) | h
 ·exact .inl (.inl (e _ _ h))
 ·exact .inl (.inr ⟨o,e _ _ h⟩)
 ·exact .inr h
theorem zc1{env:Env}:∀(l:List (Str×NameKind)) (acc:List (Str×Addr)),(∀y∈l,y.2=.free→∃c,env.cells.lookup y.1=some c)→(∀y c,acc.lookup y=some c→env.cells.lookup y=some c) →
 ∃cl,(forIn l acc fun(x:Str×NameKind) (r:List (Str×Addr))=>if(x.2==NameKind.free)=true then(do let a ←cellOf env x.1;pure (ForInStep.yield ((x.1,a)::r)))else(pure (ForInStep.yield r):Sem (ForInStep (List (Str×Addr)))))=(pure cl:Sem (List (Str×Addr))) ∧
  (∀y c,cl.lookup y=some c→env.cells.lookup y=some c)∧(∀y,((y,NameKind.free)∈l∨(acc.lookup y).isSome=true)→∃c,cl.lookup y=some c)
 | [],acc,_,ha=>⟨acc,rfl,ha,fun y h=>by
    rcases h with h | h
    ·cases h
    ·exact Option.isSome_iff_exists.mp h⟩
 | (n,k)::r,acc,h,ha=>by
   by_cases hk:k=.free
   ·subst hk
    obtain⟨c,hc⟩:=h (n,.free) mem_cons_self rfl
    obtain⟨cl,e,h1,h2⟩:=zc1 r ((n,c)::acc) (fun y hy=>h y (mem_cons_of_mem _ hy)) (fun y d hd=>by
     rw[lookup_cons] at hd
     by_cases hy:y=n
     ·subst hy;simp at hd;subst hd;exact hc
     ·rw[beq_eq_false_iff_ne.mpr hy] at hd;exact ha y d hd)
    refine⟨cl,?_,h1,fun y hy=>h2 y ?_⟩
    ·rw[forIn_cons]
     have:cellOf env n=pure c:=by unfold cellOf;rw[hc]
     simp only[this]
     exact e
    ·rcases hy with hy | hy
     ·rcases List.mem_cons.mp hy with z | z
      ·have:y=n:=by injection z
       right;simp[lookup_cons,this]
      ·exact .inl z
     ·right
      rw[lookup_cons]
      split
      ·rfl
      ·exact hy
   ·obtain⟨cl,e,h1,h2⟩:=zc1 r acc (fun y hy=>h y (mem_cons_of_mem _ hy)) ha
    refine⟨cl,?_,h1,fun y hy=>h2 y ?_⟩
    ·rw[forIn_cons]
     have hb:(k==NameKind.free)=false:=by simpa using hk
     simp only[hb]
     exact e
    ·rcases hy with hy | hy
     ·rcases List.mem_cons.mp hy with z | z
      ·injection z with _ z2;exact absurd z2.symm hk
      ·exact .inl z
     ·exact .inr hy
theorem zbS{env:Env}{scope:Scope}(h:∀y∈scope.names,y.2=.free→∃c,env.cells.lookup y.1=some c):
 ∃cl,closureFor scope env=pure cl∧(∀y c,cl.lookup y=some c→env.cells.lookup y=some c)∧∀y,(y,NameKind.free)∈scope.names→∃c,cl.lookup y=some c:=by
 obtain⟨cl,e,h1,h2⟩:=zc1 scope.names [] h (fun y c z=>by cases z)
 refine⟨cl,?_,h1,fun y hy=>h2 y (.inl hy)⟩
 unfold closureFor
 exact(congrArg (fun(m:Sem (List (Str×Addr)))=>m >>= fun r=>pure r) e).trans rfl
theorem zbs{f:Str×NameKind→Str×NameKind}(h1:∀p,(f p).1=p.1):∀{names:List (Str×NameKind)} {y:Str} {k:NameKind},(names.map f).lookup y=some k→∃k0,(y,k0)∈names∧(f (y,k0)).2=k
 | [],_,_,h=>by cases h
 | p::r,y,k,h=>by
   rw[map_cons] at h
   generalize hq:f p=q at h
   obtain⟨q1,q2⟩:=q
   rw[lookup_cons] at h
   have e1:q1=p.1:=by have:=h1 p;rw[hq] at this;exact this
   by_cases hy:y=q1
   ·have hb:(y==q1)=true:=by simp[hy]
    rw[hb] at h
    have h':q2=k:=Option.some.inj h
    refine⟨p.2,?_,?_⟩
    ·rw[hy,e1];exact mem_cons_self
    ·rw[hy,e1]
     have:f (p.1,p.2)=(q1,q2):=hq
     rw[this];exact h'
   ·rw[beq_eq_false_iff_ne.mpr hy] at h
    obtain⟨k0,m,e⟩:=zbs h1 (names:=r) h
    exact⟨k0,mem_cons_of_mem _ m,e⟩
theorem zaO{f:Str×NameKind→Str×NameKind}(h1:∀p,(f p).1=p.1):∀{names:List (Str×NameKind)} {y:Str} {k:NameKind},names.lookup y=some k→(names.map f).lookup y=some (f (y,k)).2
 | [],_,_,h=>by cases h
 | p::r,y,k,h=>by
   rw[map_cons]
   obtain⟨p1,p2⟩:=p
   have e1:=h1 (p1,p2)
   generalize hq:f (p1,p2)=q at e1 ⊢
   obtain⟨q1,q2⟩:=q
   have e1:q1=p1:=e1
   subst e1
   rw[lookup_cons] at h ⊢
   by_cases hy:y=q1
   ·have hb:(y==q1)=true:=by simp[hy]
    rw[hb] at h ⊢
    have h':p2=k:=Option.some.inj h
    subst h'
    subst hy
    show some q2=_
    rw[hq]
   ·rw[beq_eq_false_iff_ne.mpr hy] at h ⊢
    exact zaO h1 h
def rl(env:Env)(p:Str×NameKind):Str×NameKind:=if(p.2==NameKind.free && env.scope.kind == .function && env.kindOf p.1==some .cell)then(p.1,NameKind.cell)else(p.1,p.2)
theorem zfN(env:Env)(p:Str×NameKind):(rl env p).1=p.1:=by unfold rl;split <;> rfl
theorem rl_free(env:Env)(y:Str):(rl env (y,.free)).2=.cell∨(rl env (y,.free)).2=.free:=by
 unfold rl
 split
 ·exact .inl rfl
 ·exact .inr rfl
theorem zhd(env:Env)(y:Str)(k:NameKind)(h:k ≠ .free):(rl env (y,k)).2=k:=by
 unfold rl
 have hb:(k==NameKind.free)=false:=by simpa using h
 simp[hb]
theorem zag(scope:Scope)(env:Env):(relabel scope env).names=scope.names.map (rl env):=rfl
theorem zd1{env:Env}{scope:Scope}{y:Str}(hc:∀z∈scope.names,z.2 ≠ .cell)(h:(relabel scope env).names.lookup y=some .cell∨(relabel scope env).names.lookup y=some .free):(y,NameKind.free)∈scope.names:=by
 rw[zag] at h
 have go:∀k,(k=.cell∨k=.free)→(scope.names.map (rl env)).lookup y=some k→(y,NameKind.free)∈scope.names:=fun k hk q=>by
  obtain⟨k0,m,e⟩:=zbs (zfN env) q
  by_cases hf:k0=.free
  ·rw[hf] at m;exact m
  ·rw[zhd env y k0 hf] at e
   rcases hk with z | z
   ·exact absurd (e.trans z) (hc _ m)
   ·exact absurd (e.trans z) hf
 rcases h with h | h
 ·exact go _ (.inl rfl) h
 ·exact go _ (.inr rfl) h
theorem zbC{env:Env}{scope:Scope}{y:Str}(h:scope.names.lookup y=some .free):(relabel scope env).names.lookup y=some .cell∨(relabel scope env).names.lookup y=some .free:=by
 rw[zag,zaO (zfN env) h]
 rcases rl_free env y with z | z
 ·exact .inl (congrArg some z)
 ·exact .inr (congrArg some z)
def blk(X:Cx)(N:List Str)(scope:Scope)(cl:List (Str×Addr))(C:Addr)(s2:Shared)(H2:Hp)(fp:List Addr):Cx where
 prog:=X.prog
 w:=X.w
 K:=X.K
 mg:=X.mg
 base:=X.base
 A:=X.A
 N:=N
 s₀:=s2
 H₀:=H2
 env:=compEnvC scope cl C X.env
 outer:=X.stack
 stack:=X.stack
 ex:=fp
 fn:=fun _=>false
 calm:=X.calm
 pn:=[]
 xe:=fun _ _=>False
structure CompScope (sc:Scope) (N:List Str) (x:Str) (fr:List Str) (ix:List Nat) (scope:Scope):Prop where
 kind:scope.kind=.function
 nocell:∀y∈scope.names,y.2 ≠ .cell
 lcl:∀y∈scope.names,y.2=.local→scope.names.lookup y.1=some .local
 lx:scope.names.lookup x=some .local
 free:∀y∈scope.names,y.2=.free→sc.names.lookup y.1=some .cell∨sc.names.lookup y.1=some .free
 at':fr.map some=ix.map fun i=>N[i]?
 frk:∀y∈fr,scope.names.lookup y=some .free∧(sc.names.lookup y=some .cell∨sc.names.lookup y=some .free)
 nd:(x::fr).Nodup
def cap(ix:List Nat)(σ:St):St:=ix.map fun i=>(σ[i]?).join
section
variable {X:Cx}{pins:List (Addr×Obj)}{σ:St}{H:Hp}{s:Shared}{x:Str}{fr:List Str}{ix:List Nat}{scope:Scope}{cl:List (Str×Addr)}{fp:List Addr}{C D:Addr}
theorem blk_ok(S:CompScope X.env.scope X.N x fr ix scope)(I:Inv X pins σ H s)(hf:∀b∈fp,zah X pins H b)(hfo:∀b∈fp,b<s.heap.objs.size)(hC:s.heap.objs.size≤C)
 (h1:∀y c,cl.lookup y=some c→X.env.cells.lookup y=some c) (h2:∀y,(y,NameKind.free)∈scope.names→∃c,cl.lookup y=some c):(blk X (x::fr) scope cl C s H fp).Ok where
 mod:=I.ok.mod
 kind:=S.kind
 glob:=I.ok.glob
 blt:=I.ok.blt
 above:=hC
 inj:=fun y z c a b=>I.ok.inj y z c (h1 y c a) (h1 z c b)
 has:=fun y hy=>h2 y (zd1 (env:=X.env) (scope:=scope) S.nocell hy)
 cab:=fun y c h _=>Bool.noConfusion (show false=true from h)
 hd:=I.ok.hd
 frames:=I.ok.frames
 stk:=.inl rfl
 exf:=fun b hb=>⟨fun z=>absurd (hfo b hb) (by rw[z];exact Nat.not_lt.mpr hC),fun y c e=>(hf b hb).2.2.2.2.1 y c (h1 y c e)⟩
 bs:=I.bs
 bsz:=le_trans I.ok.bsz I.sz
 noex:=fun b o e hb=>by
  rcases (hf b hb).2.2.2.1 with z | z
  ·exact I.ok.noex b o e z
  ·exact absurd (lt_of_lt_of_le (lt_size e) (le_trans I.ok.bsz z)) (lt_irrefl _)
 exfs:=fun b hb z=>by
  rcases List.mem_cons.mp (I.stkSub b z)with e | e
  ·exact(hf b hb).2.1 e
  ·exact(hf b hb).2.2.1 e
 funs:=I.stack
 frf:=I.stkFree
theorem zg0:(cap ix σ).length=ix.length:=by unfold cap;rw[length_map]
theorem CompScope.len(S:CompScope X.env.scope X.N x fr ix scope):fr.length=ix.length:=by have:=congrArg List.length S.at';simpa using this
theorem blk_inv{s':Shared}{pn:List (Addr×Obj)}{m:Str→Option Value}(S:CompScope X.env.scope X.N x fr ix scope)(I:Inv X pins σ H s)(hf:∀b∈fp,zah X pins H b)(hfo:∀b∈fp,b<s.heap.objs.size)(hC:s.heap.objs.size≤C)
 (h1:∀y c,cl.lookup y=some c→X.env.cells.lookup y=some c) (h2:∀y,(y,NameKind.free)∈scope.names→∃c,cl.lookup y=some c)
 (ho:s'.os=s.os) (hg:s'.gens=s.gens) (k:∀b o,s.heap.get? b=some o→s'.heap.get? b=some o) (hn:s'.heap.Ns C m)
 (hp:∀p∈pn,s'.heap.get? p.1=some p.2∧s.heap.objs.size≤p.1∧p.1≠C∧∀v,p.2.data ≠ .cell v) :
 Inv (blk X (x::fr) scope cl C s H fp) pn (none::cap ix σ) H s':=by
 obtain⟨mX,hnX,hlX⟩:=I.loc
 refine⟨blk_ok S I hf hfo hC h1 h2,ho,by rw[hg];exact I.bare,Un.kept k,⟨m,hn,fun i y v e1 e2 e3=>?_⟩,fun y c e=>?_,I.hok.fresh hC,fun y c e=>I.freeC y c (h1 y c e),fun p hp'=>?_,I.hok.kept k,by
  show(none::cap ix σ).length=(x::fr).length
  simp[zg0,S.len]⟩
 ·cases i with
  | zero=>cases e2
  | succ j =>
    have e1':fr[j]? = some y:=e1
    have e2':(cap ix σ)[j]? = some (some v):=e2
    obtain⟨f1,f2⟩:=S.frk y (mem_of_getElem? e1')
    unfold cap at e2'
    rw[getElem?_map] at e2'
    cases ei:ix[j]? with
    | none=>rw[ei] at e2';cases e2'
    | some i =>
      rw[ei] at e2'
      have e3':(σ[i]?).join=some v:=Option.some.inj e2'
      have e4:σ[i]? = some (some v):=by
       cases q:σ[i]? with
       | none=>rw[q] at e3';cases e3'
       | some w=>rw[q] at e3';have:w=some v:=e3';rw[this]
      have e5:X.N[i]? = some y:=by
       have:=congrArg (fun l=>l[j]?) S.at'
       simp only[getElem?_map,e1',ei] at this
       simpa using this.symm
      have vis:Vis X.env.scope y:=by
       rcases f2 with z | z
       ·exact .inr (.inl z)
       ·exact .inr (.inr z)
      obtain⟨u,r,l⟩:=hlX i y v e5 e4 vis
      refine⟨u,r,.inr ⟨zbC f1,?_⟩⟩
      rcases l with⟨z,_⟩|⟨_,c,ec,hc⟩
      ·rcases f2 with q | q
       ·have q':=(show X.env.scope.names.lookup y=some .local from z).symm.trans q;cases q'
       ·have q':=(show X.env.scope.names.lookup y=some .local from z).symm.trans q;cases q'
      ·obtain⟨c',hc'⟩:=h2 y (PySem.mem_of_lookup f1)
       have:c'=c:=by have:=h1 y c' hc';rw[ec] at this;exact(Option.some.inj this).symm
       subst this
       refine⟨c',hc',?_⟩
       obtain⟨o,ho',hd⟩:=hc
       exact⟨o,k _ _ ho',hd⟩
 ·obtain⟨v,o,ho',hd⟩:=I.cell y c (h1 y c e)
  exact⟨v,o,k _ _ ho',hd⟩
 ·have hp'':p∈pn:=by simpa [blk] using hp'
  obtain⟨q1,q2,q3,q4⟩:=hp p hp''
  refine⟨q1,I.hok.fresh q2,q3,fun z=>?_,q4⟩
  obtain⟨_,o,ho',_⟩:=I.stack.mem z
  exact absurd (lt_of_lt_of_le (lt_size ho') q2) (lt_irrefl _)
end
def PIf(X:Cx)(ifs:List Expr)(t:TT):Prop :=
 ∀(pins:List (Addr×Obj)) (s:Shared) (σ:St) (H:Hp) (Q:Bool→Hp→Prop),Inv X pins σ H s→t σ H Q →
  wpAny (model X.prog X.w) X.A (forIn ifs true fun c r=>if r=true then do let ok ←isTrue c X.env (eval c X.env);pure (ForInStep.yield ok)else pure (ForInStep.yield r)) (TP X pins σ Q) X.xe s
def zhB:TT:=fun _ H Q=>Q true H
theorem yw{X:Cx}:PIf X [] zhB:=fun _ _ _ H _ I h=>wpAny_tests_nil ⟨H,I,h⟩
theorem yS{X:Cx}{c:Expr}{t:TT}(h:PT X c t):PIf X [c] t:=fun pins s σ H Q I q=>wpAny_tests_one (h pins s σ H Q I q)
def zcb(J:It)(c:St)(tc:TT)(te:TE)(H1:Hp)(fin:List V→Hp→Prop):Prop :=
 ∃W:Nat→Nat→List V→Hp→Prop,(∃m,W 0 m [] H1)∧∀i m ys H,W i m ys H →
  (J.stop i H∧ys.length≤sizeLine∧fin ys H) ∨
  (J.go i H∧ys.length<sizeLine∧∃N:List V→Hp→Prop,(∀ys' H',N ys' H'→∃m',m'<m∧W (i+1) m' ys' H')∧∀x H',J.yld i H x H'→tc (some x::c) H' fun b H2=>if b=true then te (some x::c) H2 fun y H3=>N (ys++[y]) H3 else N ys H2)
def tComp(ix:List Nat)(wi:TI)(tc:TT)(te:TE):TE:=fun σ H Q=>wi σ H fun J H1=>zcb J (cap ix σ) tc te H1 fun ys H2=>∀l,H2 l=none→Q (.ref l) (upd H2 l (.lst ys))
theorem zcA{prog:Program}{w:World}{A:Around}{R:Result→Shared→Prop}{s:Shared}{elt tg it0:Expr}{tests:List Expr}{scope:Scope}{pos:Pos}{it acc:Value}{env:Env}(J:Nat→Shared→Prop)
 (turn:∀n s,J n s→wpAny (model prog w) A (pyNext it) (fun r s1=>match r with
   | none=>R (.ok .next) s1
   | some v=>wpAny (model prog w) A (letOwnedTupleGo tg it v) (fun _ s2=>wpAny (model prog w) A (assign tg env v) (fun _ s3 =>
      wpAny (model prog w) A (forIn tests true fun c r=>if r=true then do let ok ←isTrue c env (eval c env);pure (ForInStep.yield ok)else pure (ForInStep.yield r)) (fun ok s4 =>
       if ok=true then wpAny (model prog w) A (eval elt env) (fun x s5 =>
        wpAny (model prog w) A (call (.builtin "list.append") [acc,x]) (fun _ s6=>∃m,m<n∧J m s6) (fun _ _=>False) s5) (fun _ _=>False) s4
       else ∃m,m<n∧J m s4) (fun _ _=>False) s3) (fun _ _=>False) s2) (fun _ _=>False) s1) (fun _ _=>False) s)
 (n:Nat) (h:J n s):codeAny (model prog w) A (.compLoop (.ListComp elt [⟨tg,it0,tests,0⟩] scope pos) 0 it acc env) R s:=by
 have up:∀{α:Type}{t:Sem α}{q q':α→Shared→Prop}{E':Value→Shared→Prop}{s:Shared},wpAny (model prog w) A t q (fun _ _=>False) s→(∀a s,q a s→q' a s)→wpAny (model prog w) A t q' E' s:=fun h k=>wpAny_mono h k fun _ _ z=>False.elim z
 refine codeAny_loop rfl J (fun n s hJ=>?_) n h
 show wpAny _ A ((compTurn (.ListComp elt [⟨tg,it0,tests,0⟩] scope pos) 0 it acc env).onRaise (fun x=>do noteFrame x env;theTreesLotGoes x)) _ _ s
 refine wpAny_noted ?_
 rw[compTurn_list]
 refine wpAny_bind (wpAny_standAt (wpAny_bind (up (turn n s hJ) fun r s1 h1=>?_)))
 cases r with
 | none=>exact wpAny_pure h1
 | some v =>
   refine wpAny_bind (up h1 fun _ s2 h2=>wpAny_bind (up h2 fun _ s3 h3=>wpAny_bind (up h3 fun ok s4 h4=>?_)))
   cases ok with
   | false=>exact wpAny_pure ⟨rfl,h4⟩
   | true =>
     exact wpAny_bind (wpAny_bind (up h4 fun x s5 h5=>wpAny_bind (up h5 fun _ s6 h6=>wpAny_pure (wpAny_pure ⟨rfl,h6⟩))))
section
variable {X:Cx}{x:Str}{fr:List Str}{ix:List Nat}{scope:Scope}{elt iter:Expr}{ifs:List Expr}{px pos:Pos}{wi:TI}{tc:TT}{te:TE}
theorem zhU{use:Option (Value→Sem Unit)}{Q:Value→Shared→Prop}{pins:List (Addr×Obj)}{s2:Shared}{σ:St}{H2:Hp}{it:Addr}{fp:List Addr}{tn:Nat→Heap→Prop}{J:It}{cl:List (Str×Addr)}(S:CompScope X.env.scope X.N x fr ix scope)(hc:X.calm=true)
 (hif:∀cl C s2 H2 fp,PIf (blk X (x::fr) scope cl C s2 H2 fp) ifs tc) (he:∀cl C s2 H2 fp,PE (blk X (x::fr) scope cl C s2 H2 fp) elt te)
 (h1:∀y c,cl.lookup y=some c→X.env.cells.lookup y=some c) (h2:∀y,(y,NameKind.free)∈scope.names→∃c,cl.lookup y=some c)
 (I2:Inv X pins σ H2 s2) (T:Turn X.prog X.w X.K (.Name x px) J fp it tn) (st2:tn 0 s2.heap) (f2:∀b∈fp,zah X pins H2 b) {fin:List V→Hp→Prop} (wc:zcb J (cap ix σ) tc te H2 fin)
 (hQ:∀(D C:Addr)(ys:List V)(H':Hp)(s':Shared)(m:Str→Option Value),Inv X pins σ (upd H' D (.lst ys)) s'→H' D=none→s'.heap.Ns C m→D≠C→s2.heap.objs.size≤C→H' C=none→fin ys H' →
   compPost (model X.prog X.w) X.A X.xe use Q (.ref D) C (.ok .next) s') :
 wpAny (model X.prog X.w) X.A (newList []) (fun acc s₃=>wpAny (model X.prog X.w) X.A (newFunctionEnv scope X.env.globals cl [] X.env.qual none .none (some X.env)) (fun cenv s₄ =>
  codeAny (model X.prog X.w) X.A (.compStart (.ListComp elt [⟨.Name x px,iter,ifs,0⟩] scope pos) 0 (.ref it) acc { cenv with scope:=relabel scope X.env }) (compPost (model X.prog X.w) X.A X.xe use Q acc cenv.locals) s₄) X.xe s₃) X.xe s2:=by
 have hfo:∀b∈fp,b<s2.heap.objs.size:=fun b hb=>by
  obtain⟨o,e,_⟩:=T.obj 0 _ st2 b hb
  exact lt_size e
 refine wpAny_newObj_type (wpAny_newFunctionEnv S.nocell (by intro y hy;simp at hy) (fun h₁ hns₁ hsb₁=>?_) S.kind)
 dsimp only at hns₁ hsb₁ ⊢
 generalize hHp:s2.heap.push { cls:=.type "list",dict:=none,data:=.seq ([]:List Value).toArray }=Hp2 at hns₁ hsb₁ ⊢
 have hCs:Hp2.objs.size=s2.heap.objs.size+1:=by rw[←hHp,size_push]
 have hDC:s2.heap.objs.size≠Hp2.objs.size:=by rw[hCs];exact ne_of_lt (lt_succ_self _)
 have hCle:s2.heap.objs.size≤Hp2.objs.size:=by rw[hCs];exact le_succ _
 have zdG:∀b,b<s2.heap.objs.size→b≠Hp2.objs.size:=fun b hb=>by rw[hCs];exact ne_of_lt (lt_succ_of_lt hb)
 have old:∀b o,s2.heap.get? b=some o→h₁.get? b=some o:=fun b o e=>hsb₁.extBut b o (zdG b (lt_size e)) (get?_push_of_some _ (hHp ▸ get?_push_of_some _ e))
 have hacc:h₁.get? s2.heap.objs.size=some { cls:=.type "list",data:=.seq ([]:List Value).toArray 0 }:=hsb₁.extBut _ _ hDC (get?_push_of_some _ (hHp ▸ get?_push_size _ rfl))
 have st1:tn 0 h₁:=T.keep 0 _ _ st2 fun b _ o e=>old b o e
 have fpD:∀b∈fp,b≠s2.heap.objs.size:=fun b hb=>ne_of_lt (hfo b hb)
 generalize hD:s2.heap.objs.size=D at hacc hDC fpD ⊢
 have hDle:s2.heap.objs.size≤D:=le_of_eq hD
 generalize hC:Hp2.objs.size=C at hns₁ hsb₁ hDC hCle ⊢
 have oldD:∀b o,s2.heap.get? b=some o→b≠D:=fun b o e z=>absurd (lt_size e) (by rw[z,←hD];exact lt_irrefl _)
 obtain⟨W,⟨m0,w0⟩,turn⟩:=wc
 have loop:∀s₃:Shared,s₃={ s2 with heap:=h₁,toks:=s2.toks+([]:List (Str×Value)).length } →
  codeAny (model X.prog X.w) X.A (.compLoop (.ListComp elt [⟨.Name x px,iter,ifs,0⟩] scope pos) 0 (.ref it) (.ref D) (compEnvC scope cl C X.env))
   (compPost (model X.prog X.w) X.A X.xe use Q (.ref D) C) s₃:=by
  rintro s₃ rfl
  have I0:Inv (blk X (x::fr) scope cl C s2 H2 fp) [(D,{ cls:=.type "list",data:=.seq ([]:List Value).toArray 0 })] (none::cap ix σ) H2 { s2 with heap:=h₁,toks:=s2.toks+([]:List (Str×Value)).length } :=
   blk_inv S I2 f2 hfo hCle h1 h2 rfl rfl old hns₁ (fun p hp=>by
    have e:p=(D,{ cls:=.type "list",data:=.seq ([]:List Value).toArray 0 }):=by simpa using hp
    subst e
    exact⟨hacc,hDle,hDC,fun v z=>by cases z⟩)
  have stat:∀{its:Obj}{H':Hp},(∀b∈fp,H' b=none)→∀b∈fp,zah (blk X (x::fr) scope cl C s2 H2 fp) [(D,its)] H' b:=fun {its H'} hn b hb=>by
   refine⟨hn b hb,fun z=>?_,fun z=>(I0.ok.exfs b hb z),.inl hb,fun y c e=>(I0.ok.exf b hb).2 y c e,fun p hp z=>?_⟩
   ·exact(I0.ok.exf b hb).1 z
   ·have e:p=(D,its):=by simpa [blk] using hp
    subst e
    exact fpD b hb (Eq.symm z)
  refine zcA (env:=compEnvC scope cl C X.env)
   (fun n s'=>∃i ys its k v0 H',zF ys its∧Inv (blk X (x::fr) scope cl C s2 H2 fp) [(D,{ cls:=.type "list",data:=.seq its.toArray k })] (v0::cap ix σ) H' s'∧tn i s'.heap∧(∀b∈fp,H' b=none)∧W i n ys H') ?_ m0
   ⟨0,[],[],0,none,H2,.nil,I0,st1,fun b hb=>(f2 b hb).1,w0⟩
  rintro n s3 ⟨i,ys,its,k,v0,H3,rv,I3,st3,fr3,w3⟩
  rcases turn i n ys H3 w3 with⟨stop,hz,hfin⟩|⟨go,hz,N,hN,step⟩
  ·refine thn (T.done (blk X (x::fr) scope cl C s2 H2 fp) rfl rfl rfl hc i _ s3 _ H3 _ I3 (stat fr3) st3 stop) fun r s4 ⟨hr,I4⟩=>?_
   subst hr
   have pD:=I4.pin (D,{ cls:=.type "list",data:=.seq its.toArray k }) (by simp[blk])
   obtain⟨mC,hnC,_⟩:=I4.loc
   have hH3D:H3 D=none:=pD.2.1
   have hok':HOk X.prog X.w (upd H3 D (.lst ys)) s4.heap:=fun b u e=>by
    by_cases hb:b=D
    ·subst hb
     rw[ze] at e;cases e
     exact⟨hz,its,k,rv,pD.1⟩
    ·rw[zl hb] at e
     exact(I4.hok b u e).stay (fun c v _ q=>q) (fun c q=>by rw[zl (zr q hH3D)];exact q) fun c xs q=>by rw[zl (zr q hH3D)];exact q
   have b4:Un (frs X.stack) fp H2 H3 s2.heap s4.heap:=I4.base
   have un:Un (frs X.stack) fp H2 (upd H3 D (.lst ys)) s2.heap s4.heap :=
    ⟨b4.keep,b4.slot,fun b o q n hx=>by
     rw[zl (oldD b o q)];exact b4.free b o q n hx,b4.there,fun b xs q=>by rw[zl (zr (b4.tups b xs q) hH3D)];exact b4.tups b xs q,
     fun b o u q=>by rw[zl (zr (b4.frzs b o u q) hH3D)];exact b4.frzs b o u q,fun b ps q=>by
      obtain⟨more,e⟩:=b4.tbls b ps q
      exact⟨more,by rw[zl (zr e hH3D)];exact e⟩⟩
   have I5:Inv X pins σ (upd H3 D (.lst ys)) s4:=I2.call' (ch:=fp) I4.os un hok' I4.bare fun b hb=>by
    obtain⟨g0,g1,g2,g3,g4,g5⟩:=f2 b hb
    exact⟨g3,g1,g4,g5⟩
   exact hQ D C ys H3 s4 mC I5 hH3D hnC hDC hCle I4.free hfin
  ·refine thn (T.item (blk X (x::fr) scope cl C s2 H2 fp) rfl rfl rfl hc i _ s3 _ H3 _ I3 (stat fr3) st3 go) fun r s4 ⟨u,hr,h4⟩=>?_
   subst hr
   refine thn h4 fun _ s5 ⟨y,H5,I5,r5,y5,st5,fr5⟩=>?_
   have I5':=I5.pinned (stat fr5) (T.obj _ _ st5)
   have pg:PG (blk X (x::fr) scope cl C s2 H2 fp) (.Name x px) (ze5 0):=zV S.nd rfl (.inl (lookup_relabel_local S.lx)) (.inr (lookup_relabel_local S.lx))
   refine thn (pg _ s5 _ H5 y u (fun σ6 H6=>σ6=some y::cap ix σ∧H6=H5) I5' r5 ⟨rfl,rfl⟩) fun _ s6 ⟨σ6,H6,I6,e6,e6'⟩=>?_
   subst e6 e6'
   refine thn (hif cl C s2 H2 fp _ s6 _ _ _ I6 (step y _ y5)) fun b s7 ⟨H7,I7,q7⟩=>?_
   have again:∀{s8:Shared}{H8:Hp}{its':List Value}{k':Nat}{ys':List V},zF ys' its'→Inv (blk X (x::fr) scope cl C s2 H2 fp) [(D,{ cls:=.type "list",data:=.seq its'.toArray k' })] (some y::cap ix σ) H8 s8→(∀b∈fp,∀o,s5.heap.get? b=some o→s8.heap.get? b=some o)→(∀b∈fp,H8 b=none)→N ys' H8 →
    ∃m,m<n∧∃i ys its k v0 H',zF ys its∧Inv (blk X (x::fr) scope cl C s2 H2 fp) [(D,{ cls:=.type "list",data:=.seq its.toArray k })] (v0::cap ix σ) H' s8∧tn i s8.heap∧(∀b∈fp,H' b=none)∧W i m ys H' :=
    fun {s8 H8 its' k' ys'} rv8 I8 kp fr8 nn=>let ⟨m',hm,w8⟩:=hN ys' H8 nn;⟨m',hm,i+1,ys',its',k',some y,H8,rv8,I8,T.keep _ _ _ st5 kp,fr8,w8⟩
   cases b with
   | false =>
     rw[if_neg Bool.false_ne_true] at q7 ⊢
     refine again rv I7.unpinned (fun b hb o e=>(I7.pin (b,o) (by simp[blk];exact .inr (yB hb e))).1) (fun b hb=>?_) q7
     obtain⟨o,e,d⟩:=T.obj _ _ st5 b hb
     exact(I7.pin (b,o) (by simp[blk];exact .inr (yB hb e))).2.1
   | true =>
     rw[if_pos rfl] at q7 ⊢
     refine thn (he cl C s2 H2 fp _ s7 _ _ _ I7 q7) fun v s8 ⟨z,H8,I8,r8,q8⟩=>?_
     have pD:=I8.pin (D,{ cls:=.type "list",data:=.seq its.toArray k }) (by simp[blk])
     have hvl:ys.length=its.length:=rv.length
     refine append_at (hsz:=by show its.toArray.size≤sizeLine;rw[size_toArray];omega) pD.1 fun h₉ hs₉ hD₉=>?_
     have eo:({ cls:=.type "list",data:=.seq (its.toArray.push v) (k+1) }:Obj)={ cls:=.type "list",data:=.seq (its++[v]).toArray (k+1) }:=by rw[push_toArray]
     rw[eo] at hD₉
     have pn8:∀b∈fp,∀o,s5.heap.get? b=some o→s8.heap.get? b=some o∧H8 b=none:=fun b hb o e=>by
      have q:=I8.pin (b,o) (by simp[blk];exact .inr (yB hb e))
      exact⟨q.1,q.2.1⟩
     have J8:=I8.unpinned.pins_of (pins':=[]) (fun p hp=>by cases hp)
     have f2D:zah (blk X (x::fr) scope cl C s2 H2 fp) [] H8 D:=⟨pD.2.1,pD.2.2.1,pD.2.2.2.1,.inr hDle,fun y c e z=>by
      obtain⟨v,o,ho,_⟩:=I2.cell y c (h1 y c e)
      exact oldD c o ho z,fun p hp=>by cases hp⟩
     have I9:Inv (blk X (x::fr) scope cl C s2 H2 fp) [] (some y::cap ix σ) H8 { s8 with heap:=h₉ }:=J8.turned (t':=s8.toks) (it:=D) (fun b o hb e=>(hs₉.2 b hb).trans e) f2D.1 f2D.2.1 f2D.2.2.2.1 f2D.2.2.2.2.1 f2D.2.2.2.2.2
     refine again (its':=its++[v]) (k':=k+1) (ys':=ys++[z]) (rv.append (.cons r8 .nil)) (I9.pins_of fun p hp=>?_) (fun b hb o e=>(hs₉.2 b (fpD b hb)).trans (pn8 b hb o e).1) (fun b hb=>?_) q8
     ·have e:p=(D,{ cls:=.type "list",data:=.seq (its++[v]).toArray (k+1) }):=by simpa using hp
      subst e
      exact⟨hD₉,f2D.1,f2D.2.1,f2D.2.2.1,fun v z=>by cases z⟩
     ·obtain⟨o,e,d⟩:=T.obj _ _ st5 b hb
      exact(pn8 b hb o e).2
 exact codeAny_compStart_list (loop _ rfl) (T.self X.A 0 _ _ _ st1 (loop _ rfl))
theorem zN(S:CompScope X.env.scope X.N x fr ix scope)(hc:X.calm=true)(hi:PI X (.Name x px) iter wi)(hif:∀cl C s2 H2 fp,PIf (blk X (x::fr) scope cl C s2 H2 fp) ifs tc)(he:∀cl C s2 H2 fp,PE (blk X (x::fr) scope cl C s2 H2 fp) elt te)
 (hs:∀x,foldedSetIterable iter X.env x=pure x:=by intro _;rfl):PE X (.ListComp elt [⟨.Name x px,iter,ifs,0⟩] scope pos) (tComp ix wi tc te):=by
 intro pins s σ H Q I h
 obtain⟨cl,ecl,h1,h2⟩:=zbS (env:=X.env) (scope:=scope) fun y hy hf=>I.ok.has y.1 (S.free y hy hf)
 rw[eval_ListComp]
 refine wpAny_comprehension_free (use:=none) rfl hs ecl S.kind S.lcl (thn (hi pins s σ H _ I h) fun xv s1 q1=>thn q1 fun itv s2 q2=>?_)
 obtain⟨it,fp,tn,J,H2,rfl,I2,T,st2,f2,wc⟩:=q2
 refine zhU S hc hif he h1 h2 I2 T st2 f2 wc fun D C ys H' s' m I' hD hn hDC hC hHC fin=>?_
 refine⟨m,hn,fun h' sb=>⟨.ref D,upd H' D (.lst ys),?_,rfl,fin D hD⟩⟩
 have hcf:zah X pins (upd H' D (.lst ys)) C:=by
  have z:=I2.fpOk (H':=upd H' D (.lst ys)) hC (by rw[zl (Ne.symm hDC)];exact hHC)
  exact z
 exact I'.turned (t':=s'.toks) (it:=C) (fun b o hb e=>(sb.2 b hb).trans e) hcf.1 hcf.2.1 hcf.2.2.2.1 hcf.2.2.2.2.1 hcf.2.2.2.2.2
theorem yU{i:Nat}{y:Str}{py spos:Pos}(S:CompScope X.env.scope X.N x fr ix scope)(hc:X.calm=true)(hN:X.N.Nodup)(hiy:X.N[i]? = some y)(hy:Loc X.env.scope y)(hi:PI X (.Name x px) iter wi)(hif:∀cl C s2 H2 fp,PIf (blk X (x::fr) scope cl C s2 H2 fp) ifs tc)(he:∀cl C s2 H2 fp,PE (blk X (x::fr) scope cl C s2 H2 fp) elt te)
 (hsw:swapsWith (.ListComp elt [⟨.Name x px,iter,ifs,0⟩] scope pos) (some (.Name y py)) spos.line X.env=pure true:=by rfl)
 (hf:X.fn y=true∨X.env.scope.names.lookup y=some .local:=by first | exact .inl rfl | exact .inr rfl | assumption)
 (hs:∀x,foldedSetIterable iter X.env x=pure x:=by intro _;rfl) :
 PS X (.Assign [.Name y py] (.ListComp elt [⟨.Name x px,iter,ifs,0⟩] scope pos) spos) (tAsg (tComp ix wi tc te) (ze5 i)):=by
 intro pins s σ H Dn I h
 obtain⟨cl,ecl,h1,h2⟩:=zbS (env:=X.env) (scope:=scope) fun y hy hf=>I.ok.has y.1 (S.free y hy hf)
 rw[exec_Assign_Name_used _ _ _ _ hsw]
 refine wpAny_bind (wpAny_standAt (wpAny_bind ?_))
 show wpAny _ X.A (do let _ ←comprehension (.ListComp elt [⟨.Name x px,iter,ifs,0⟩] scope pos) scope X.env _ (newList []) false (eval iter X.env) (some (assign (.Name y py) X.env))) _ _ s
 refine wpAny_bind (thn (Q:=fun _ s'=>SP X pins Dn .next s') ?_ fun _ s' q=>wpAny_pure (wpAny_pure q))
 refine wpAny_comprehension_free (use:=some (assign (.Name y py) X.env)) rfl hs ecl S.kind S.lcl (thn (hi pins s σ H _ I h) fun xv s1 q1=>thn q1 fun itv s2 q2=>?_)
 obtain⟨it,fp,tn,J,H2,rfl,I2,T,st2,f2,wc⟩:=q2
 refine zhU S hc hif he h1 h2 I2 T st2 f2 wc fun D C ys H' s' m I' hD hn hDC hC hHC fin=>?_
 have hcf:zah X pins (upd H' D (.lst ys)) C:=I2.fpOk (H':=upd H' D (.lst ys)) hC (by rw[zl (Ne.symm hDC)];exact hHC)
 show wpAny _ X.A (assign (.Name y py) X.env (.ref D)) _ _ s'
 refine wpAny_assign_Name (zeM (v:=V.ref D) I' hN hiy hy rfl (fun s'' I'' hsb=>?_) hf)
 obtain⟨a,sb,ha⟩:=hsb
 have hCa:C≠a:=fun z=>by
  rcases ha with q | q
  ·exact hcf.2.1 (z.trans q)
  ·exact hcf.2.2.2.2.1 y a q z.symm
 refine⟨m,hn.sameBut sb hCa,fun h' sb'=>⟨_,_,I''.turned (t':=s''.toks) (it:=C) (fun b o hb e=>(sb'.2 b hb).trans e) hcf.1 hcf.2.1 hcf.2.2.2.1 hcf.2.2.2.2.1 hcf.2.2.2.2.2,fin D hD⟩⟩
end
section
variable {X:Cx}
def ixV(xs:List V)(y:V):Nat:=xs.findIdx fun z=>eqV z y
theorem zh0{x:V}:∀{xs:List V}{us:List Value},zF xs us→xs.all zaM=true→us.findIdx (eqU x)=xs.findIdx fun y=>eqV y x
 | _,_,.nil,_=>rfl
 | y::xs,u::us,.cons r t,f=>by
   rw[all_cons,Bool.and_eq_true] at f
   rw[findIdx_cons,findIdx_cons,zi8 r f.1,zh0 t f.2]
def rIndex(K:Frag):V→List V→Hp→VK→Prop:=fun x vs H Q=>∃l xs y,x=.ref l∧vs=[y]∧SqL K H l xs∧zaM y=true∧xs.all zaM=true∧ixV xs y<xs.length∧Q (.int (ixV xs y:Nat)) H
theorem line_small:(sizeLine:Int)<2 ^ 63-1:=by decide
theorem zdv:MtM X "list.index" (rIndex X.K):=by
 intro pins s σ H x vs v us Q I rx rv h
 obtain⟨l,xs,y,rfl,rfl,hH,fy,fs,hj,q⟩:=h
 cases rx
 obtain⟨u,rfl,ru⟩:=rv.one
 obtain⟨its,r,⟨⟨oc,od,dt,sl⟩,n,e,c1,c2,c3⟩,z⟩:=I.list hH
 simp only at c1 c2 c3
 subst c1 c2 c3
 have hl:=r.length
 have ef:=zh0 (x:=y) r fs
 have hj':its.findIdx (eqU y)<its.length:=by rw[ef,←hl];exact hj
 refine call_meets F.slot_list_index ⟨_,e,rfl⟩ F.entry_list_index (F.args_list_index_2 _ _)
  (SeqAt.list_indexAt l its.toArray n none sl u (eqU y) (its.findIdx (eqU y)) (by simpa using hj') (by have:=line_small;omega) (by simpa using List.findIdx_getElem (w:=hj')) (fun m hm hlt=>by simpa using List.not_of_lt_findIdx hlt)) ⟨e,fun w hw=>zd2 ru fy r fs w (by simpa using hw),?_⟩
 refine⟨.int (ixV xs y:Nat),H,I.tok _,⟨s.toks,?_⟩,q⟩
 rw[ef];rfl
def isInt:V→Option Bool
 | .int _=>some true
 | .bl _=>some true
 | .str _=>some false
 | .non=>some false
 | _=>none
def isBool:V→Option Bool
 | .int _=>some false
 | .bl _=>some true
 | .str _=>some false
 | .non=>some false
 | _=>none
def isStr:V→Option Bool
 | .int _=>some false
 | .bl _=>some false
 | .str _=>some true
 | .non=>some false
 | _=>none
inductive IsLst (K:Frag) (H:Hp):V→Bool→Prop
 | yes {a:Addr} {xs:List V}:SqL K H a xs→IsLst K H (.ref a) true
 | no {a:Addr} {xs:List V}:SqT K H a xs→IsLst K H (.ref a) false
inductive IsTpl (K:Frag) (H:Hp):V→Bool→Prop
 | yes {a:Addr} {xs:List V}:SqT K H a xs→IsTpl K H (.ref a) true
 | no {a:Addr} {xs:List V}:SqL K H a xs→IsTpl K H (.ref a) false
theorem zhw:zaG X (.builtin "isinstance") (fun xs H Q=>∃x b,xs=[x,.ty "int"]∧isInt x=some b∧Q (.bl b) H):=by
 intro pins s σ H xs us Q I r h
 obtain⟨x,b,rfl,e,q⟩:=h
 obtain⟨u,t,rfl,ru,rt⟩:=r.two
 cases rt
 cases x with
 | int i=>obtain⟨t',rfl⟩:=ru;cases e;exact IsiPair.int_int ⟨.bl true,H,I,rfl,q⟩
 | bl i=>cases ru;cases e;exact IsiPair.bool_int ⟨.bl true,H,I,rfl,q⟩
 | str i=>obtain⟨t',rfl⟩:=ru;cases e;exact IsiPair.str_int ⟨.bl false,H,I.tok _,rfl,q⟩
 | non=>cases ru;cases e;exact IsiPair.NoneType_int ⟨.bl false,H,I.tok _,rfl,q⟩
 | _=>cases e
theorem zgh:zaG X (.builtin "isinstance") (fun xs H Q=>∃x b,xs=[x,.ty "bool"]∧isBool x=some b∧Q (.bl b) H):=by
 intro pins s σ H xs us Q I r h
 obtain⟨x,b,rfl,e,q⟩:=h
 obtain⟨u,t,rfl,ru,rt⟩:=r.two
 cases rt
 cases x with
 | int i=>obtain⟨t',rfl⟩:=ru;cases e;exact IsiPair.int_bool ⟨.bl false,H,I.tok _,rfl,q⟩
 | bl i=>cases ru;cases e;exact IsiPair.bool_bool ⟨.bl true,H,I,rfl,q⟩
 | str i=>obtain⟨t',rfl⟩:=ru;cases e;exact IsiPair.str_bool ⟨.bl false,H,I.tok _,rfl,q⟩
 | non=>cases ru;cases e;exact IsiPair.NoneType_bool ⟨.bl false,H,I.tok _,rfl,q⟩
 | _=>cases e
theorem zeg:zaG X (.builtin "isinstance") (fun xs H Q=>∃x b,xs=[x,.ty "str"]∧isStr x=some b∧Q (.bl b) H):=by
 intro pins s σ H xs us Q I r h
 obtain⟨x,b,rfl,e,q⟩:=h
 obtain⟨u,t,rfl,ru,rt⟩:=r.two
 cases rt
 cases x with
 | int i=>obtain⟨t',rfl⟩:=ru;cases e;exact IsiPair.int_str ⟨.bl false,H,I.tok _,rfl,q⟩
 | bl i=>cases ru;cases e;exact IsiPair.bool_str ⟨.bl false,H,I.tok _,rfl,q⟩
 | str i=>obtain⟨t',rfl⟩:=ru;cases e;exact IsiPair.str_str ⟨.bl true,H,I,rfl,q⟩
 | non=>cases ru;cases e;exact IsiPair.NoneType_str ⟨.bl false,H,I.tok _,rfl,q⟩
 | _=>cases e
theorem zai:zaG X (.builtin "isinstance") (fun xs H Q=>∃x b,xs=[x,.ty "list"]∧IsLst X.K H x b∧Q (.bl b) H):=by
 intro pins s σ H xs us Q I r h
 obtain⟨x,b,rfl,e,q⟩:=h
 obtain⟨u,t,rfl,ru,rt⟩:=r.two
 cases rt
 cases e with
 | yes hq =>
   cases ru
   obtain⟨its,r,⟨o,n,e,c1,c2,c3⟩,z⟩:=I.list hq
   exact IsiPair.list_list e c1 ⟨.bl true,H,I,rfl,q⟩
 | no hq =>
   cases ru
   obtain⟨its,r,⟨o,e,c1,n,c3⟩,z⟩:=I.tuple hq
   exact IsiPair.tuple_list e c1 ⟨.bl false,H,I.tok _,rfl,q⟩
theorem zbV:zaG X (.builtin "isinstance") (fun xs H Q=>∃x b,xs=[x,.ty "tuple"]∧IsTpl X.K H x b∧Q (.bl b) H):=by
 intro pins s σ H xs us Q I r h
 obtain⟨x,b,rfl,e,q⟩:=h
 obtain⟨u,t,rfl,ru,rt⟩:=r.two
 cases rt
 cases e with
 | yes hq =>
   cases ru
   obtain⟨its,r,⟨o,e,c1,n,c3⟩,z⟩:=I.tuple hq
   exact IsiPair.tuple_tuple e c1 ⟨.bl true,H,I,rfl,q⟩
 | no hq =>
   cases ru
   obtain⟨its,r,⟨o,n,e,c1,c2,c3⟩,z⟩:=I.list hq
   exact IsiPair.list_tuple e c1 ⟨.bl false,H,I.tok _,rfl,q⟩
def tRev(K:Frag)(te ts:TE):TE:=fun σ H Q=>te σ H fun x H1=>ts σ H1 fun y H2=>y=.int (-1)∧∃a xs,x=.ref a∧SqL K H2 a xs∧∀p,H2 p=none→Q (.ref p) (upd H2 p (.lst xs.reverse))
theorem pe_rev{e st:Expr}{te ts:TE}{p2 pos:Pos}(he:PE X e te)(hst:PE X st ts):PE X (.Subscript e (.Slice none none (some st) p2) pos) (tRev X.K te ts):=by
 intro pins s σ H Q I h
 refine Subscript_ (thn (he pins s σ H _ I h) fun v s1 ⟨x,H1,I1,r1,q1⟩=>?_)
 refine wpAny_Slice ?_
 rw[evalPart_none]
 refine wpAny_pure (wpAny_pure ?_)
 rw[evalPart_some]
 refine thn (hst pins s1 σ H1 _ I1 q1) fun u s3 ⟨y,H3,I3,r3,q3⟩=>?_
 obtain⟨rfl,a,xs,rfl,hx,q⟩:=q3
 obtain⟨t,rfl⟩:=r3
 cases r1
 have I4:Inv X pins σ H3 { s3 with heap:=s3.heap.push { cls:=.type "slice",data:=.fields #[.none,.none,.int (-1) t] } }:=I3.kept (t':=s3.toks) fun b ob q=>get?_push_of_some _ q
 obtain⟨its,r,ht,hz⟩:=I4.list hx
 have hlen:=r.length
 show wpAny (model X.prog X.w) X.A (subscriptTail e (.Slice none none (some st) p2) (.ref a) (.ref s3.heap.objs.size)) (EP X pins σ Q) X.xe { s3 with heap:=s3.heap.push { cls:=.type "slice",data:=.fields #[.none,.none,.int (-1) t] } }
 refine tail_any (ops:=[.ref a,.ref s3.heap.objs.size]) ht.isList.typeIs slot_list_getitem.lookup ?_ (by with_unfolding_all rfl)
 refine wpAny_getItem_list_slice ht.isList (Heap.IsSliceOf.new ..) .none .none (.int (-1) t) (by decide) ?_ (by rw[size_toArray] <;> omega)
 rw[PySem.W.krv_pick]
 refine⟨.ref _,_,I4.laid (t':=s3.toks) (o:=.lst xs.reverse) (fun b ob q=>get?_push_of_some _ q) (le_refl _) ?_,rfl,q _ (I4.hok.fresh (le_refl _))⟩
 exact⟨by rw[List.length_reverse];exact hz,_,0,r.reverse,get?_push_size _ rfl⟩
end
structure Can (P:Program) (w:World) (K:Frag) (mg:Str→Option Value) (base:Heap) (k:Nat) (x:Str) (ps:List Str) (sp:Sp):Prop where
 ex:∃f fd,FnOk P w K mg base CX0 k f fd ps sp∧mg x=some (.ref f)∧keepIn K (.ref f)=true∧zaS K fd ps []
theorem Can.of{P:Program}{w:World}{K:Frag}{mg:Str→Option Value}{base:Heap}{k:Nat}{x:Str}{ps:List Str}{sp:Sp}{f:Addr}{fd:FuncData}{qual:Str}{st:Stmt}
 (F:Fun K x qual st f fd) (G:FnOk P w K mg base CX0 k f fd ps sp) (hm:mg x=some (.ref f)) (b:zaS K fd ps []):Can P w K mg base k x ps sp:=⟨f,fd,G,hm,F.kp,b⟩
section
variable {X:Cx}{k:Nat}{x:Str}{ps:List Str}{sp:Sp}{p pos:Pos}{e:Expr}{es:List Expr}{t:TA}
theorem zh(C:Can X.prog X.w X.K X.mg X.base k x ps sp)(hr:Room k X.A)(hg:Gl X x)(ha:PA X (e::es) t)(hdb:(x==("__debug__":Str))=false:=by decide)(he:starEach (e::es) X.env=(false,eval e X.env)::starEach es X.env:=by rfl)
 (hpl:(backTo pos (starEach es X.env)).any (·.1)=false:=by rfl):PE X (.Call (.Name x p) (e::es) [] pos) (tCall sp [] E0 t):=by
 obtain⟨f,fd,F,hm,hk,hb⟩:=C.ex
 exact pe_call F hr hg hm hk hb .nil pass0 ha hdb he hpl
end
theorem yG{K:Frag}{a:Addr}{xs:List V}{c:St}{tc:TT}{te:TE}{H:Hp}{fin:List V→Hp→Prop}(Pv:Nat→List V→Hp→Prop)(h0:Pv 0 [] H)(hl:∀i ys H,i≤xs.length→Pv i ys H→SqL K H a xs∧ys.length≤i)(hz:xs.length≤sizeLine)
 (hs:∀i x ys H,xs[i]? = some x→Pv i ys H→tc (some x::c) H fun b H2=>if b=true then te (some x::c) H2 fun y H3=>Pv (i+1) (ys++[y]) H3 else Pv (i+1) ys H2)
 (hd:∀ys H,Pv xs.length ys H→fin ys H):zcb (Itl K a) c tc te H fin:=by
 refine⟨fun i m ys H=>m=xs.length-i∧i≤xs.length∧Pv i ys H,⟨xs.length,by simp,zero_le _,h0⟩,?_⟩
 rintro i m ys H ⟨rfl,hi,p⟩
 obtain⟨q,hy⟩:=hl i ys H hi p
 by_cases hlt:i<xs.length
 ·refine .inr ⟨⟨xs,xs[i],q,by simp[hlt]⟩,by omega,Pv (i+1),fun ys' H' p'=>⟨_,by omega,rfl,hlt,p'⟩,fun x H' y=>?_⟩
  obtain⟨e,y⟩:=y
  subst e
  exact hs i x ys _ (y xs q) p
 ·have e:i=xs.length:=by omega
  subst e
  exact .inl ⟨⟨xs,q,le_refl _⟩,by omega,hd ys H p⟩
theorem zfR{lo:Int}{n:Nat}{c:St}{tc:TT}{te:TE}{H:Hp}{fin:List V→Hp→Prop}(Pv:Nat→List V→Hp→Prop)(h0:Pv 0 [] H)(hl:∀i ys H,i≤n→Pv i ys H→ys.length≤i)(hz:n≤sizeLine)
 (hs:∀i ys H,i<n→Pv i ys H→tc (some (.int (lo+i))::c) H fun b H2=>if b=true then te (some (.int (lo+i))::c) H2 fun y H3=>Pv (i+1) (ys++[y]) H3 else Pv (i+1) ys H2)
 (hd:∀ys H,Pv n ys H→fin ys H):zcb (Itr lo n) c tc te H fin:=by
 refine⟨fun i m ys H=>m=n-i∧i≤n∧Pv i ys H,⟨n,by simp,zero_le _,h0⟩,?_⟩
 rintro i m ys H ⟨rfl,hi,p⟩
 have hy:=hl i ys H hi p
 by_cases hlt:i<n
 ·refine .inr ⟨hlt,by omega,Pv (i+1),fun ys' H' p'=>⟨_,by omega,rfl,hlt,p'⟩,fun x H' y=>?_⟩
  obtain⟨e,y⟩:=y
  subst e y
  exact hs i ys _ hlt p
 ·have e:i=n:=by omega
  subst e
  exact .inl ⟨le_refl _,by omega,hd ys H p⟩
theorem yf{K:Frag}{a:Addr}{xs:List V}{c:St}{te:TE}{H:Hp}{fin:List V→Hp→Prop}(Pv:Nat→List V→Hp→Prop)(h0:Pv 0 [] H)(hl:∀i ys H,i≤xs.length→Pv i ys H→SqL K H a xs∧ys.length≤i)(hz:xs.length≤sizeLine)
 (hs:∀i x ys H,xs[i]? = some x→Pv i ys H→te (some x::c) H fun y H3=>Pv (i+1) (ys++[y]) H3) (hd:∀ys H,Pv xs.length ys H→fin ys H):zcb (Itl K a) c zhB te H fin :=
 yG Pv h0 hl hz (fun i x ys H e p=>iteT (B:=Pv (i+1) ys H) (hs i x ys H e p)) hd
theorem zdx{lo:Int}{n:Nat}{c:St}{te:TE}{H:Hp}{fin:List V→Hp→Prop}(Pv:Nat→List V→Hp→Prop)(h0:Pv 0 [] H)(hl:∀i ys H,i≤n→Pv i ys H→ys.length≤i)(hz:n≤sizeLine)
 (hs:∀i ys H,i<n→Pv i ys H→te (some (.int (lo+i))::c) H fun y H3=>Pv (i+1) (ys++[y]) H3) (hd:∀ys H,Pv n ys H→fin ys H):zcb (Itr lo n) c zhB te H fin :=
 zfR Pv h0 hl hz (fun i ys H e p=>iteT (B:=Pv (i+1) ys H) (hs i ys H e p)) hd
theorem zdj{X:Cx}{x:Str}{i:Int}{pos:Pos}(h:∃t,X.mg x=some (.int i t))(hg:Gl X x)(hd:(x==("__debug__":Str))=false:=by decide):PE X (.Name x pos) (tC (.int i)):=by
 obtain⟨t,h⟩:=h
 exact pe_glob hg h ⟨t,rfl⟩ hd
theorem wv{c A B:Prop} [Decidable c](h1:c→A)(h2:¬c→B):if decide c=true then A else B:=by
 by_cases h:c
 ·rw[if_pos (decide_eq_true h)];exact h1 h
 ·rw[if_neg (by rw[decide_eq_false h];exact Bool.false_ne_true)];exact h2 h
theorem yk{c A B:Prop} [Decidable c](h1:¬c→A)(h2:c→B):if(!decide c)=true then A else B:=by
 by_cases h:c
 ·rw[decide_eq_true h];exact wF (h2 h)
 ·rw[decide_eq_false h];exact iteT (h1 h)
theorem zhC{b:Bool}{A B:Prop}(h1:b=true→A)(h2:b=false→B):if b=true then A else B:=by
 cases b with
 | true=>exact iteT (h1 rfl)
 | false=>exact wF (h2 rfl)
theorem zi.new{H:Hp}{l:Addr}{o:HO}(h:H l=Option.none):zi H (upd H l o):=fun b u e=>by rw[zl (zr e h)];exact e
theorem zi.newT{H H':Hp}{l:Addr}{o:HO}(s:zi H H')(h:H' l=Option.none):zi H (upd H' l o):=s.trans (zi.new h)
theorem zi.put{H H':Hp}{l:Addr}{o:HO}(s:zi H H')(h:H l=Option.none):zi H (upd H' l o):=fun b u e=>by rw[zl (zr e h)];exact s b u e
theorem zi.seqT{K:Frag}{H H':Hp}{a:Addr}{xs:List V}(e:zi H H')(h:SqT K H a xs):SqT K H' a xs:=by
 rcases h with(h | ⟨o,h⟩) | h
 ·exact .inl (.inl (e _ _ h))
 ·exact .inl (.inr ⟨o,e _ _ h⟩)
 ·exact .inr h
theorem SqL.new{K:Frag}{H:Hp}{l:Addr}{xs:List V}:SqL K (upd H l (.lst xs)) l xs:=SqL.of ze
theorem SqT.new{K:Frag}{H:Hp}{l:Addr}{xs:List V}:SqT K (upd H l (.tup xs)) l xs:=SqT.of ze
theorem zhE{xs:List V}{i:Int}{v:V}(h0:0≤i)(h:xs[i.toNat]? = some v):atI xs i=some v:=by
 have:=zP h
 rwa [Int.toNat_of_nonneg h0] at this
theorem zao{ns:List Int}{i:Nat}(h:i<ns.length):(ns.map V.int)[i]? = some (.int (ns.getD i 0)):=by
 rw[getElem?_map,getElem?_eq_getElem h,getD_eq_getElem?_getD,getElem?_eq_getElem h];rfl
theorem zct{ns:List Int}{i:Int}(h0:0≤i)(h:i<ns.length):atI (ns.map V.int) i=some (.int (ns.getD i.toNat 0)):=zhE h0 (zao (by omega))
theorem zG(ns:List Int):(ns.map V.int).all zaM=true:=by
 rw[all_map];exact List.all_eq_true.mpr fun _ _=>rfl
theorem zaN(ns:List Int)(c:Int):ixV (ns.map V.int) (.int c)=ns.idxOf c:=by
 unfold ixV
 induction ns with
 | nil=>rfl
 | cons a ns ih =>
   rw[map_cons,findIdx_cons,List.idxOf_cons,ih]
   rfl
theorem zfC(ns:List Int)(c:Int):inV (.int c) (ns.map V.int)=decide (c∈ns):=by
 unfold inV
 induction ns with
 | nil=>rfl
 | cons a ns ih =>
   rw[map_cons,any_cons,ih]
   show((a==c) || _)=_
   by_cases h:a=c
   ·subst h;simp
   ·have:¬c=a:=fun e=>h e.symm
    simp[h,this]
theorem zd8{xs:List V}{k:Int}(h:0≤k):zgg xs (some k) none=xs.drop k.toNat:=by
 obtain⟨n,rfl⟩:=Int.eq_ofNat_of_zero_le h
 unfold zgg
 rw[HT.sIx_none]
 show(xs.drop (HT.sIx xs.length 0 (some ((n:Nat):Int)))).take _=_
 rw[HT.sIx_nat,Int.toNat_natCast]
 by_cases h:n≤xs.length
 ·rw[Nat.min_eq_left h,take_of_length_le (by rw[length_drop];exact le_refl _)]
 ·rw[Nat.min_eq_right (by omega),drop_of_length_le (le_refl _),drop_of_length_le (by omega),take_nil]
theorem zdZ{xs:List V}{k:Int}(h:0≤k):zgg xs none (some k)=xs.take k.toNat:=by
 obtain⟨n,rfl⟩:=Int.eq_ofNat_of_zero_le h
 unfold zgg
 rw[HT.sIx_none,List.drop_zero]
 show xs.take (HT.sIx xs.length xs.length (some ((n:Nat):Int))-0)=_
 rw[HT.sIx_nat,Int.toNat_natCast,Nat.sub_zero]
 by_cases h:n≤xs.length
 ·rw[Nat.min_eq_left h]
 ·rw[Nat.min_eq_right (by omega),take_of_length_le (le_refl _),take_of_length_le (by omega)]
theorem zdD{ns:List Int}{k:Int}(h:0≤k):zgg (ns.map V.int) (some k) none=(ns.drop k.toNat).map V.int:=by rw[zd8 h,map_drop]
theorem zez{ns:List Int}{k:Int}(h:0≤k):zgg (ns.map V.int) none (some k)=(ns.take k.toNat).map V.int:=by rw[zdZ h,map_take]
theorem zx:1000000≤sizeLine:=by decide
theorem seqIx_ok{i:Int}{n:Nat}(h0:0≤i)(h1:i<n):seqIndex? i n=some i.toNat:=by
 have e:(if i<0 then i+(n:Int)else i)=i:=if_neg (by omega)
 unfold seqIndex?
 simp only[e]
 rw[if_pos (by simp only[Bool.and_eq_true,decide_eq_true_eq];exact⟨h0,h1⟩)]
theorem zgO{α β:Type}(f:α→β):∀(l:List α)(i:Nat),(l.map f).eraseIdx i=(l.eraseIdx i).map f
 | [],_=>rfl
 | _::_,0=>rfl
 | a::l,i+1=>by
   show f a::(l.map f).eraseIdx i=f a::(l.eraseIdx i).map f
   rw[zgO f l i]
theorem zfD{α:Type}:∀(l:List α)(i:Nat)(h:i<l.length),(l[i]::l.eraseIdx i).Perm l
 | a::l,0,_=>List.Perm.refl _
 | a::l,i+1,h=>(List.Perm.swap a (l[i]'(by simpa using h)) (l.eraseIdx i)).trans ((zfD l i (by simpa using h)).cons a)
theorem wB{ns:List Int}{i:Nat}(hi:i<ns.length):ns.take (i+1)=ns.take i++[ns.getD i 0]:=by
 rw[take_succ,getElem?_eq_getElem hi,getD_eq_getElem?_getD,getElem?_eq_getElem hi];rfl
theorem zam{ns:List Int}{i:Nat}{x:V}(hx:(ns.map V.int)[i]? = some x):i<ns.length∧x=.int (ns.getD i 0):=by
 have hi:i<ns.length:=by have:=(List.getElem?_eq_some_iff.mp hx).1;rwa [length_map] at this
 refine⟨hi,?_⟩
 rw[zao hi] at hx
 exact(Option.some.inj hx).symm
theorem zdA{ns:List Int}{i:Nat}(hi:i<ns.length):ns.getD i 0=ns[i]:=by rw[getD_eq_getElem?_getD,getElem?_eq_getElem hi];rfl
theorem zdB{ns:List Int}{i:Nat}(hi:i<ns.length):ns.getD i 0∈ns:=by rw[zdA hi];exact getElem_mem hi
theorem app_ints(ns:List Int)(x:Int):ns.map V.int++[V.int x]=(ns++[x]).map V.int:=by rw[map_append];rfl
theorem lst_app{H:Hp}{l:Addr}(ns:List Int)(x:Int):upd H l (.lst (ns.map V.int++[V.int x])) l=some (.lst ((ns++[x]).map V.int)):=ze.trans (congrArg (fun l=>some (HO.lst l)) (app_ints ns x))
def eqL:List V→List V→Bool
 | [],[]=>true
 | x::xs,y::ys=>eqV x y && eqL xs ys
 | _,_=>false
def eqAtJ(xs ys:List V)(j:Nat):Bool:=match xs[j]?,ys[j]? with
 | some x,some y=>eqV x y
 | _,_=>false
theorem zeI:∀{xs ys:List V},xs.length=ys.length→(List.range xs.length).all (eqAtJ xs ys)=eqL xs ys
 | [],[],_=>rfl
 | x::xs,y::ys,h=>by
   have h':xs.length=ys.length:=by simpa using h
   show(List.range (xs.length+1)).all _=(eqV x y && eqL xs ys)
   rw[range_succ_eq_map,all_cons,all_map,←zeI h']
   rfl
theorem zhO:∀{xs ys:List V},xs.length≠ys.length→eqL xs ys=false
 | [],[],h=>absurd rfl h
 | [],_::_,_=>rfl
 | _::_,[],_=>rfl
 | x::xs,y::ys,h=>by
   show(eqV x y && eqL xs ys)=false
   rw[zhO (fun e=>h (by simp[e])),Bool.and_false]
theorem yM:∀(ns ms:List Int),eqL (ns.map V.int) (ms.map V.int)=decide (ns=ms)
 | [],[]=>rfl
 | [],_::_=>rfl
 | _::_,[]=>rfl
 | a::ns,b::ms=>by
   show((a==b) && eqL (ns.map V.int) (ms.map V.int))=_
   rw[yM ns ms]
   by_cases h:a=b
   ·subst h;simp
   ·simp[h]
theorem eqAt_j{A:Around}{s:Shared}{xs ys:List V}{us vs:List Value}(ru:zF xs us)(rv:zF ys vs)(fx:xs.all zaM=true)(fy:ys.all zaM=true):
 ∀j (h1:j<us.toArray.size) (h2:j<vs.toArray.size),SeqAt.EqAt A s us.toArray[j] vs.toArray[j] (eqAtJ xs ys j):=fun j h1 h2=>by
 have l1:=ru.length
 have l2:=rv.length
 have h1':j<us.length:=by simpa using h1
 have h2':j<vs.length:=by simpa using h2
 obtain⟨u,eu,r1⟩:=ru.get (i:=j) (x:=xs[j]) (getElem?_eq_getElem (by omega))
 obtain⟨v,ev,r2⟩:=rv.get (i:=j) (x:=ys[j]) (getElem?_eq_getElem (by omega))
 have e1:us.toArray[j]=u:=by rw[List.getElem_toArray];rw[getElem?_eq_getElem h1'] at eu;exact Option.some.inj eu
 have e2:vs.toArray[j]=v:=by rw[List.getElem_toArray];rw[getElem?_eq_getElem h2'] at ev;exact Option.some.inj ev
 rw[e1,e2]
 have ej:eqAtJ xs ys j=eqV xs[j] ys[j]:=by unfold eqAtJ;rw[getElem?_eq_getElem (by omega),getElem?_eq_getElem (by omega)]
 rw[ej]
 exact eqAt_V r1 r2 (List.all_eq_true.mp fx _ (getElem_mem _)) (List.all_eq_true.mp fy _ (getElem_mem _))
section
variable {X:Cx}
def rEqL(K:Frag):R2:=fun x y H Q=>∃a b xs ys,x=.ref a∧y=.ref b∧SqL K H a xs∧SqL K H b ys∧xs.all zaM=true∧ys.all zaM=true∧Q (.bl (eqL xs ys)) H
theorem zdU(hu:X.A.units<cLine):OpR X (compareOp .Eq) (rEqL X.K):=by
 intro pins s σ H x y v u Q I rx ry h
 obtain⟨a,b,xs,ys,rfl,rfl,ha,hb,fx,fy,q⟩:=h
 cases rx
 cases ry
 obtain⟨its,r1,p1,z1⟩:=I.list ha
 obtain⟨its2,r2,p2,z2⟩:=I.list hb
 have l1:=r1.length
 have l2:=r2.length
 by_cases hl:xs.length=ys.length
 ·refine SeqAt.eq_listAt p1.isList p2.isList (by simp;omega) hu (eqAt_j r1 r2 fx fy) ⟨.bl (eqL xs ys),H,I,?_,q⟩
  rw[size_toArray,←l1,zeI hl]
  rfl
 ·refine SeqAt.eq_list_lengthsAt p1.isList p2.isList (by simp;omega) hu ⟨.bl (eqL xs ys),H,I,?_,q⟩
  rw[zhO hl]
  rfl
theorem zhm{ns:List Int}:∀{us:List Value},IntsAre us ns→zF (ns.map V.int) us:=by
 intro us h
 induction h with
 | nil=>exact .nil
 | cons n t _ ih=>exact .cons ⟨t,rfl⟩ ih
theorem zdy:zaG X (.builtin "sorted") (fun xs H Q=>∃(a:Addr)(ns:List Int),xs=[.ref a]∧SqL X.K H a (ns.map V.int)∧ns.length<64∧∀(l:Addr)(ms:List Int),H l=none→ms.Perm ns→ms.Pairwise (·≤ ·)→Q (.ref l) (upd H l (.lst (ms.map V.int)))):=by
 intro pins s σ H xs us Q I r h
 obtain⟨a,ns,rfl,hS,hz,q⟩:=h
 obtain⟨u,rfl,ru⟩:=r.one
 cases ru
 obtain⟨its,r1,p1,z1⟩:=I.list hS
 have l1:=r1.length
 rw[length_map] at l1
 refine sorted_ints p1.isList (za1 r1) (by omega) fun out ns' hI hp hw=>?_
 obtain⟨e,he⟩:=sortedAll_at s.heap its out
 have hf:H (s.heap.objs.size+1)=none:=I.hok.fresh (le_succ _)
 have hv:=zhm hI
 have hlen:ns'.length<64:=by rw[hp.length_eq];exact hz
 refine⟨.ref (s.heap.objs.size+1),upd H (s.heap.objs.size+1) (.lst (ns'.map V.int)),I.laid (t':=s.toks) (fun b o e=>sortedAll_old e) (le_succ _) ⟨?_,out.toList,e,hv,?_⟩,rfl,q _ ns' hf hp hw⟩
 ·rw[length_map];have:=zx;omega
 ·exact he
theorem bools_at{bs:List Bool}{us:List Value}(r:zF (bs.map V.bl) us){i:Nat}{v:Value}(h:us[i]? = some v):v=.bool (bs.getD i false):=by
 have hl:=r.length
 rw[length_map] at hl
 have hi:i<bs.length:=by rw[hl];exact(List.getElem?_eq_some_iff.mp h).1
 obtain⟨u,e,ru⟩:=r.get (i:=i) (x:=.bl bs[i]) (by rw[getElem?_map,getElem?_eq_getElem hi];rfl)
 rw[e] at h
 cases h
 rw[getD_eq_getElem?_getD,getElem?_eq_getElem hi]
 exact ru
theorem range_all(bs:List Bool):(List.range bs.length).all (fun i=>bs.getD i false)=bs.all id:=by
 induction bs with
 | nil=>rfl
 | cons b bs ih =>
   rw[length_cons,range_succ_eq_map,all_cons,all_map,all_cons,←ih]
   rfl
theorem zfk(hc:X.calm=true):zaG X (.builtin "all") (fun xs H Q=>∃(a:Addr)(bs:List Bool),xs=[.ref a]∧SqL X.K H a (bs.map V.bl)∧Q (.bl (bs.all id)) H):=by
 intro pins s σ H xs us Q I r h
 obtain⟨a,bs,rfl,hS,q⟩:=h
 obtain⟨u,rfl,ru⟩:=r.one
 cases ru
 obtain⟨its,r1,p1,z1⟩:=I.list hS
 have l1:=r1.length
 rw[length_map] at l1
 have hlt:a<s.heap.objs.size:=by obtain⟨o,n,e,_⟩:=p1;exact lt_size e
 refine call_all_walk (wpAny_pyIter_list p1.isList ?_)
 have I1:Inv X pins σ H { s with heap:=s.heap.push { cls:=.type "list_iterator",data:=.fields #[.ref a,.int 0 0] } }:=I.kept (t':=s.toks) fun b o e=>get?_push_of_some _ e
 refine⟨s.heap.objs.size,_,_,its.toArray.size,_,_,fun i=>bs.getD i false,rfl,Walks.list (by simpa using I.ok.hd hc) s.heap.objs.size a (ne_of_lt hlt) its.toArray,⟨⟨_,get?_push_size _ rfl,rfl,rfl⟩,p1.isList.push _⟩,?_,fun h' tk hk=>?_⟩
 ·intro i v s' Q' E' hP hQ
  have:=bools_at r1 (i:=i) (v:=v) (by simpa using hP)
  subst this
  exact wpAny_truthy_bool hQ
 ·have f:=I.fpOk (H':=H) (le_refl _) (I.hok.fresh (le_refl _))
  refine⟨.bl (bs.all id),H,I1.turned (it:=s.heap.objs.size) (fun b o hb e=>hk b o (by simpa using hb) e) f.1 f.2.1 f.2.2.2.1 f.2.2.2.2.1 f.2.2.2.2.2,?_,q⟩
  rw[size_toArray,←l1,range_all]
  rfl
theorem zhr(hc:X.calm=true):zaG X (.type "set") (fun xs H Q=>∃(a:Addr)(ns:List Int),xs=[.ref a]∧SqL X.K H a (ns.map V.int)∧ns.length<4000 ∧
 ∀l,H l=none→Q (.ref l) (upd H l (.set (fun k=>(firstMet (fun i=>ns.getD i 0) ns.length).any (·== k)) (firstMet (fun i=>ns.getD i 0) ns.length).length))):=by
 intro pins s σ H xs us Q I r h
 obtain⟨a,ns,rfl,hS,hz,q⟩:=h
 obtain⟨u,rfl,ru⟩:=r.one
 cases ru
 obtain⟨its,r1,p1,z1⟩:=I.list hS
 have l1:=r1.length
 rw[length_map] at l1
 have hsb:scanBound=4096:=rfl
 refine call_set_list (ns:=ns) (I.ok.hd hc) p1.isList (by simpa using za1 r1) (by rw[size_toArray];omega) fun h' tk hset hk=>?_
 have esz:its.toArray.size=ns.length:=by rw[size_toArray];omega
 rw[esz] at hset
 refine⟨.ref s.heap.objs.size,_,I.laid (t':=tk) (o:=.set _ _) (fun b o e=>hk b o (lt_size e) e) (le_refl _) hset,rfl,q _ (I.hok.fresh (le_refl _))⟩
theorem call_len_set:zaG X (.builtin "len") (fun xs H Q=>∃a S n,xs=[.ref a]∧H a=some (.set S n)∧Q (.int n) H):=by
 intro pins s σ H xs us Q I r h
 obtain⟨a,S,n,rfl,hS,q⟩:=h
 obtain⟨u,rfl,ru⟩:=r.one
 cases ru
 obtain⟨o,es,ep,t,ho,hex,hd,_,_,hsz,hf,hn⟩:=I.hok a _ hS
 have hsb:scanBound=4096:=rfl
 refine PySem.call_len_set ho hex hd hf (by omega) ⟨.int n,H,I.tok _,⟨s.toks+1,?_⟩,q⟩
 rw[hn]
end
theorem zgn(ns:List Int):firstMet (fun i=>ns.getD i 0) ns.length=ns.foldl step_dedup []:=by
 unfold firstMet
 congr 1
 refine ext_getElem (by simp) fun i h1 h2=>?_
 rw[getElem_map,getElem_range,getD_eq_getElem?_getD,getElem?_eq_getElem h2]
 rfl
theorem dedup_le(acc ns:List Int):(ns.foldl step_dedup acc).length≤acc.length+ns.length:=by
 induction ns generalizing acc with
 | nil=>exact le_refl _
 | cons a ns ih =>
   rw[foldl_cons]
   refine le_trans (ih _) ?_
   rw[step_length,length_cons]
   split <;> omega
theorem dedup_full(acc ns:List Int)(hacc:acc.Nodup):(ns.foldl step_dedup acc).length=acc.length+ns.length↔(acc++ns).Nodup:=by
 induction ns generalizing acc with
 | nil=>simpa using hacc
 | cons a ns ih =>
   rw[foldl_cons]
   by_cases h:acc.any (·== a)=true
   ·have e:step_dedup acc a=acc:=by unfold step_dedup;rw[if_pos h]
    rw[e]
    have hm:a∈acc:=by
     obtain⟨x,hx,hb⟩:=List.any_eq_true.mp h
     have:x=a:=by simpa using hb
     rw[←this];exact hx
    constructor
    ·intro q
     have:=dedup_le acc ns
     rw[length_cons] at q
     omega
    ·intro q
     rw[nodup_append] at q
     exact absurd rfl (q.2.2 a hm a mem_cons_self)
   ·have e:step_dedup acc a=acc++[a]:=by unfold step_dedup;rw[if_neg h]
    have hm:a∉acc:=fun hm=>h (List.any_eq_true.mpr ⟨a,hm,by simp⟩)
    have hn:(acc++[a]).Nodup:=by
     rw[nodup_append]
     exact⟨hacc,by simp,fun x hx y hy z=>hm (by rw[List.mem_singleton.mp hy] at z;rw[←z];exact hx)⟩
    rw[e]
    have:=ih (acc++[a]) hn
    rw[append_assoc,List.singleton_append] at this
    rw[←this,length_append,length_singleton,length_cons]
    omega
theorem ziV(ns:List Int):(firstMet (fun i=>ns.getD i 0) ns.length).length=ns.length↔ns.Nodup:=by
 rw[zgn]
 have:=dedup_full [] ns List.nodup_nil
 simpa using this
def tMid(t:TS):TS:=fun D σ H=>∃P:St→Hp→Prop,t { D with nx:=P } σ H∧∀σ' H',P σ' H'→D.nx σ' H'
theorem zbM{X:Cx}{st:Stmt}{t:TS}(h:PS X st t):PS X st (tMid t):=by
 intro pins s σ H D I hw
 obtain⟨P,h1,h2⟩:=hw
 refine thn (h pins s σ H _ I h1) fun f s' q=>?_
 cases f with
 | next=>obtain⟨σ',H',I',q⟩:=q;exact⟨σ',H',I',h2 _ _ q⟩
 | brk=>exact q
 | cont=>exact q
 | ret u=>exact q
structure Fly (P:Program) (w:World) (outer:List Env) (H:Hp) (s:Shared) (x:Addr) (cls:Value) (H':Hp) (s':Shared):Prop where
 os:s'.os=s.os
 bare:AllBare s'.gens
 ex:∃B a0,Heap.FlyingW B outer x cls a0 s'.heap∧HOk P w H' B∧(∀b o,s.heap.get? b=some o→H b=none→b∉frs outer→B.get? b=some o)∧∀b o,s.heap.get? b=some o→b∉frs outer→∃o',B.get? b=some o'
 slot:∀b o,s.heap.get? b=some o→H b=none→b∈frs outer→∃sl,s'.heap.get? b=some { o with slots:=sl }
 free:∀b o,s.heap.get? b=some o→H b=none→H' b=none
 tups:∀b xs,H b=some (.tup xs)→H' b=some (.tup xs)
 frzs:∀b o u,H b=some (.frz o u)→H' b=some (.frz o u)
 tbls:∀b ps,H b=some (.tbl ps)→∃more,H' b=some (.tbl (ps++more))
 new:H' x=none
def CX1(P:Program)(w:World):CXT:=fun outer H s E e s'=>∃x cls H',e=.ref x∧Fly P w outer H s x cls H' s'∧E cls none H'
section
variable {P:Program}{w:World}{outer:List Env}{H H':Hp}{s s':Shared}{x:Addr}{cls:Value}
theorem wf.obj{H:Hp}{h:Heap}{a:Addr}{o:HO}(x:wf P w H h a o):∃ob,h.get? a=some ob:=by
 cases o with
 | lst xs=>obtain⟨_,_,_,_,e⟩:=x;exact⟨_,e⟩
 | tup xs=>obtain⟨_,_,_,ob,e,_⟩:=x;exact⟨ob,e⟩
 | dK kvs=>obtain⟨_,_,_,_,o,_,_,e,_⟩:=x;exact⟨o,e⟩
 | dT kvs=>obtain⟨_,_,_,_,o,_,_,e,_⟩:=x;exact⟨o,e⟩
 | set S n=>obtain⟨o,_,_,_,e,_⟩:=x;exact⟨o,e⟩
 | ins C dx fs=>obtain⟨_,_,_,e,_⟩:=x;exact⟨_,e⟩
 | own y=>obtain⟨o,e⟩:=x;exact⟨o,e⟩
 | xd fs=>obtain⟨_,⟨o,_,_,e,_⟩,_⟩:=x;exact⟨o,e⟩
 | rng lo hi=>obtain⟨_,_,_,e⟩:=x;exact⟨_,e⟩
 | frz ob u=>obtain⟨e,_⟩:=x;exact⟨_,e⟩
 | tbl ps=>exact⟨_,(show h.get? a=some _ from x)⟩
 | met f y=>exact⟨_,(show h.get? a=some _ from x)⟩
 | ext φ=>obtain⟨_,⟨o,e⟩,_⟩:=x;exact⟨o,e⟩
end
section
variable {X:Cx}{pins:List (Addr×Obj)}{σ:St}{H H':Hp}{s s':Shared}{x:Addr}{cls:Value}
def zbI(h:Heap)(l:List Env):Heap:=hideAll h (frs l)
theorem zcl{h:Heap}{l:List Env}{b:Addr}{o:Obj}(e:h.get? b=some o)(n:b∉frs l):(zbI h l).get? b=some o:=hideAll_get _ e n
theorem zg6{h:Heap}{l:List Env}{b:Addr}{o:Obj}(e:(zbI h l).get? b=some o):h.get? b=some o:=of_hideAll _ e
theorem Inv.frameOk(I:Inv X pins σ H s):HOk X.prog X.w H (zbI s.heap X.stack):=fun a o e =>
 (I.hok a o e).stay (fun b u hb q=>zcl q fun z=>by
   have n:=I.stkFree b z
   rcases hb with hb | hb
   ·rw[hb,e] at n;cases n
   ·rw[n] at hb;cases hb) (fun _ q=>q) fun _ _ q=>q
end
abbrev XW:=St→Value→Hp→Prop
def Fl(X:Cx)(W:XW):Prop:=∀(pins:List (Addr×Obj)) (σ:St) (H:Hp) (s:Shared) (x:Addr) (cls:Value) (H':Hp) (s':Shared),Inv X pins σ H s→Fly X.prog X.w X.stack H s x cls H' s'→W σ cls H'→X.xe (.ref x) s'
def Md(X:Cx)(W:XW):Prop:=∀(pins:List (Addr×Obj)) (σ:St) (H:Hp) (s:Shared) (x:Addr) (cls:Value) (args:List Value) (h':Heap),Inv X pins σ H s→Heap.MadeExcOf s.heap h' x cls args→W σ cls H→X.xe (.ref x) { s with heap:=h' }
section
variable {P:Program}{w:World}{K:Frag}{mg:Str→Option Value}{base:Heap}{N:List Str}{qual:Str}{scope:Scope}{f:Addr}{cd:Value}{A:Around}{outer:List Env}{s0:Shared}{H0:Hp}{E:XK}
theorem fly_def:Fl (zbP (CX1 P w) P w K mg base N qual scope f cd A outer s0 H0 E) fun _ cls H'=>E cls none H':=by
 intro pins σ H s x cls H' s' I fl hE
 obtain⟨B,a0,hfl,hB,k1,k2⟩:=fl.ex
 have hst:frs (envOfC qual scope s0.heap.objs.size f cd::outer)=s0.heap.objs.size::frs outer:=rfl
 have old:∀b o,s0.heap.get? b=some o→b∉frs outer→b∉frs (envOfC qual scope s0.heap.objs.size f cd::outer):=fun b o e hb=>by
  rw[hst]
  exact fun z=>(List.mem_cons.mp z).elim (fun q=>absurd (lt_size e) (by rw[q];exact lt_irrefl _)) hb
 refine wpAny_leaves_onW (base:=B) (L:=s0.heap.objs.size) I.ok.frames rfl hfl fun h2 hfl2 up=>?_
 refine⟨x,cls,H',rfl,⟨fl.os.trans I.os,fl.bare,⟨B,a0,hfl2,hB,fun b o e n hb=>?_,fun b o e hb=>?_⟩,fun b o e n hb=>?_,fun b o e n=>?_,fun b xs e=>fl.tups b xs (I.base.tups b xs e),fun b o u e=>fl.frzs b o u (I.base.frzs b o u e),fun b ps e=>?_,fl.new⟩,hE⟩
 ·exact k1 b o (I.base.keep b o e n hb (by simp[zbP])) (I.base.free b o e n (by simp[zbP])) (old b o e hb)
 ·obtain⟨o1,e1⟩:=I.base.there b o e (by simp[zbP])
  exact k2 b o1 e1 (old b o e hb)
 ·obtain⟨sl,e1⟩:=I.base.slot b o e n hb (by simp[zbP])
  obtain⟨sl2,e2⟩:=fl.slot b _ e1 (I.base.free b o e n (by simp[zbP])) (mem_cons_of_mem _ hb)
  obtain⟨_,o',e',d⟩:=I.ok.funs.mem hb
  have eo:o'=o:=by
   have e'':s0.heap.get? b=some o':=e'
   rw[e] at e'';exact(Option.some.inj e'').symm
  subst eo
  obtain⟨sl3,e3⟩:=up b _ e2 d
  exact⟨sl3,e3⟩
 ·obtain⟨o1,e1⟩:=I.base.there b o e (by simp[zbP])
  exact fl.free b o1 e1 (I.base.free b o e n (by simp[zbP]))
 ·obtain⟨m1,e1⟩:=I.base.tbls b ps e
  obtain⟨m2,e2⟩:=fl.tbls b _ e1
  exact⟨m1++m2,by rw[e2,Array.append_assoc]⟩
theorem md_def:Md (zbP (CX1 P w) P w K mg base N qual scope f cd A outer s0 H0 E) fun _ cls H'=>E cls none H':=by
 intro pins σ H s x cls args h' I mk hE
 have hst:frs (envOfC qual scope s0.heap.objs.size f cd::outer)=s0.heap.objs.size::frs outer:=rfl
 have old:∀b o,s0.heap.get? b=some o→b∉frs outer→b∉frs (envOfC qual scope s0.heap.objs.size f cd::outer):=fun b o e hb=>by
  rw[hst]
  exact fun z=>(List.mem_cons.mp z).elim (fun q=>absurd (lt_size e) (by rw[q];exact lt_irrefl _)) hb
 have hl:s.heap.FunFrames (zbI s.heap (envOfC qual scope s0.heap.objs.size f cd::outer)) (envOfC qual scope s0.heap.objs.size f cd::outer) :=
  PySem.W.funFrames_hide I.stack fun env he b hb=>List.mem_filterMap.mpr ⟨env,he,hb⟩
 have hB:HOk P w H (zbI s.heap (envOfC qual scope s0.heap.objs.size f cd::outer)):=I.frameOk
 have hx:H x=none:=by
  cases q:H x with
  | none=>rfl
  | some o =>
    obtain⟨o',e⟩:=(I.hok x o q).obj
    rw[mk.new] at e;cases e
 refine wpAny_leaves_madeW (L:=s0.heap.objs.size) (h:=s.heap) (base:=zbI s.heap (envOfC qual scope s0.heap.objs.size f cd::outer)) I.ok.frames rfl (fun b o e=>zg6 e) hl mk fun h2 t hfl2 _ _ up=>?_
 refine⟨x,cls,H,rfl,⟨I.os,I.bare,⟨_,_,hfl2,hB,fun b o e n hb=>?_,fun b o e hb=>?_⟩,fun b o e n hb=>?_,fun b o e n=>I.base.free b o e n (by simp[zbP]),I.base.tups,I.base.frzs,I.base.tbls,hx⟩,hE⟩
 ·exact zcl (I.base.keep b o e n hb (by simp[zbP])) (old b o e hb)
 ·obtain⟨o1,e1⟩:=I.base.there b o e (by simp[zbP])
  exact⟨o1,zcl e1 (old b o e hb)⟩
 ·obtain⟨sl,e1⟩:=I.base.slot b o e n hb (by simp[zbP])
  obtain⟨_,o',e',d⟩:=I.ok.funs.mem hb
  have eo:o'=o:=by
   have e'':s0.heap.get? b=some o':=e'
   rw[e] at e'';exact(Option.some.inj e'').symm
  subst eo
  obtain⟨sl3,e3⟩:=up b _ (mk.keeps _ _ e1) d
  exact⟨sl3,e3⟩
end
abbrev TJ:=St→Hp→Str→(Str→Hp→Prop)→Prop
def PJ(X:Cx)(es:List Expr)(t:TJ):Prop :=
 ∀(pins:List (Addr×Obj)) (s:Shared) (σ:St) (H:Hp) (acc:Str) (Q:Str→Hp→Prop),Inv X pins σ H s→t σ H acc Q →
  wpAny (model X.prog X.w) X.A (joinParts acc (evalEach es X.env)) (EP X pins σ fun v H'=>∃y,v=.str y∧Q y H') X.xe s
def jNil:TJ:=fun _ H acc Q=>acc.length≤sizeLine∧Q acc H
def jCons(te:TE)(t:TJ):TJ:=fun σ H acc Q=>te σ H fun x H1=>∃y,x=.str y∧(acc++y).length≤sizeLine∧t σ H1 (acc++y) Q
def tFmt(te:TE):TE:=fun σ H Q=>te σ H fun x H1=>(∃i,x=.int i∧i.natAbs.log2<1920∧Q (.str (toString i)) H1)∨(∃y,x=.str y∧y.length≤sizeLine∧Q (.str y) H1)
def tJoin(t:TJ):TE:=fun σ H Q=>t σ H Str.empty fun y H1=>Q (.str y) H1
section
variable {X:Cx}{e v1 v2:Expr}{es:List Expr}{te:TE}{t:TJ}{pos:Pos}
theorem pj_nil:PJ X [] jNil:=fun pins s σ H acc Q I h=>joinParts_nil ⟨.str acc,H,I.tok _,⟨_,rfl⟩,acc,rfl,h.2⟩ h.1
theorem zdE(he:PE X e te)(hr:PJ X es t):PJ X (e::es) (jCons te t):=by
 intro pins s σ H acc Q I h
 show wpAny _ _ (joinParts acc (eval e X.env::evalEach es X.env)) _ _ s
 refine joinParts_cons (thn (he pins s σ H _ I h) fun u s1 ⟨x,H1,I1,r1,y,ey,hz,q⟩=>?_)
 subst ey
 obtain⟨t',rfl⟩:=r1
 exact⟨hz,hr pins s1 σ H1 _ Q I1 q⟩
theorem pe_fmt(he:PE X e te):PE X (.FormattedValue e (-1) none pos) (tFmt te):=by
 intro pins s σ H Q I h
 refine FormattedValue_plain (thn (he pins s σ H _ I h) fun u s1 ⟨x,H1,I1,r1,q⟩=>?_)
 rcases q with⟨i,ex,hd,q⟩|⟨y,ex,hz,q⟩
 ·subst ex
  obtain⟨t',rfl⟩:=r1
  exact formatField_int_small hd ⟨.str (toString i),H1,I1.tok _,⟨_,rfl⟩,q⟩
 ·subst ex
  obtain⟨t',rfl⟩:=r1
  exact formatField_str (fun t2 tk=>⟨.str y,H1,I1.tok _,⟨_,rfl⟩,q⟩) hz
theorem pe_fstr{zdM:List Expr}(h:PJ X (v1::v2::zdM) t):PE X (.JoinedStr (v1::v2::zdM) pos) (tJoin t):=by
 intro pins s σ H Q I q
 exact JoinedStr_many (thn (h pins s σ H Str.empty _ I q) fun u s1 ⟨x,H1,I1,r1,y,ey,q1⟩=>⟨x,H1,I1,r1,by subst ey;exact q1⟩)
end
theorem zhn{x y:Str}{a b:Nat}(hx:x.length≤a)(hy:y.length≤b):(x++y).length≤a+b:=by rw[strLen_append];omega
def bmV:List Value:=[.type "ValueError",.type "Exception",.type "BaseException",.type "object"]
abbrev ExC(K:Frag)(C:Addr):Prop:=excIn K C bmV "ValueError.__new__"=true
def subIn(K:Frag)(C D:Addr):Bool:=match K.lookup C with
 | some ⟨_,_,.cls cd,_⟩=>cd.mro.contains (.ref D)
 | _=>false
theorem exc_obj{K:Frag}{h:Heap}{C:Addr}(hk:K.In h)(q:ExC K C):∃tl N nm qn bs hd sn sb ab cl dd a0 a1 a2 a3 a5 mN,
 h.get? C=some (excClassObj nm qn C N bs tl hd sn sb ab cl dd a0 a1 a2 a3 a5 "ValueError.__new__")∧h.Ns N mN∧mN "__init__"=none∧OwnTail h bmV tl∧∀D,(Value.ref C::tl).contains (.ref D)=subIn K C D:=by
 unfold ExC excIn at q
 split at q
 next dd cd sl ho =>
  split at q
  next C' tl a0 a1 a2 a3 n a5 em es =>
   simp only[Bool.and_eq_true,beq_iff_eq,Bool.not_eq_true'] at q
   obtain⟨⟨⟨⟨⟨z1,z2⟩,z3⟩,z4⟩,z5⟩,z6⟩:=q
   subst z1 z2
   have sb:∀D,(Value.ref C'::tl).contains (.ref D)=subIn K C' D:=fun D=>by unfold subIn;rw[ho];show _=cd.mro.contains _;rw[em]
   obtain⟨nm,bs,mro,ns,qn,hd,sn,sub,ab,cl,del⟩:=cd
   dsimp only at em z3 z5 z6
   subst em z3
   obtain⟨l⟩:=sl
   have es':l=[a0,a1,a2,a3,some (.builtin "ValueError.__new__"),a5]:=es
   subst es'
   exact⟨tl,ns,nm,qn,bs,hd,sn,sub,ab,cl,dd,a0,a1,a2,a3,a5,_,hk _ _ ho,.of_isNs (PySem.W.isNs_of_in hk z5),PySem.W.nsMap_none_of_in hk z5 z6,PySem.W.tail_of_in hk z4,sb⟩
  next=>cases q
 next=>cases q
section
variable {X:Cx}
def tRaise(C:Addr)(W:XW)(ta:TA):TS:=fun _ σ H=>ta σ H fun vs H1=>vs.length≤sizeLine∧W σ (.ref C) H1
theorem zaf{x:Str}{C:Addr}{W:XW}{np cpos pos:Pos}{e:Expr}{es:List Expr}{ta:TA}(hc:X.calm=true)(md:Md X W)(hg:Gl X x)(hm:X.mg x=some (.ref C))(hx:ExC X.K C)(ha:PA X (e::es) ta)
 (hdb:(x==("__debug__":Str))=false:=by decide) (he:starEach (e::es) X.env=(false,eval e X.env)::starEach es X.env:=by rfl) (hpl:(backTo cpos (starEach es X.env)).any (·.1)=false:=by rfl) :
 PS X (.Raise (some (.Call (.Name x np) (e::es) [] cpos)) none pos) (tRaise C W ta):=by
 intro pins s σ H D I h
 obtain⟨tl,N,nm,qn,bs,hd,sn,sb,ab,cl,dd,a0,a1,a2,a3,a5,mN,hC,hN,hni,T,_⟩:=exc_obj I.mod.kin hx
 refine wpAny_Raise_call_subT (C:=C) (bm:=tl) (nm:=nm) (q:=qn) (N:=N) (bs:=bs) (hdct:=hd) (sn:=sn) (sub:=sb) (ab:=ab) (col:=cl) (dd:=dd) (k0:=a0) (k1:=a1) (k2:=a2) (k3:=a3) (k5:=a5) PySem.F.excBase_ValueError (mN:=mN) (T.hasType (by decide)) (I.ok.hd hc) (by rw[he];show(false || (backTo cpos (starEach es X.env)).any (·.1))=false;rw[hpl];rfl) hni (zej I hg hm ⟨rfl,?_⟩ hdb)
 have hA:=ha cpos pins s σ H _ I h
 rw[he] at hA ⊢
 refine Calls.evalArgs_plain (thn hA fun us s1 ⟨vs,H1,I1,r1,hz,q⟩=>⟨rfl,by show us.length≤sizeLine;rw[←r1.length];exact hz,I1.bk _ _ hC,hN.keeps I1.bk,T.keeps I1.bk,fun h' x mk=>?_⟩)
 exact md pins σ H1 s1 x (.ref C) us h' I1 mk q
end
structure CanX (P:Program) (w:World) (K:Frag) (mg:Str→Option Value) (base:Heap) (k:Nat) (x:Str) (ps:List Str) (sp:Sp):Prop where
 ex:∃f fd,FnOk P w K mg base (CX1 P w) k f fd ps sp∧mg x=some (.ref f)∧keepIn K (.ref f)=true∧zaS K fd ps []
theorem CanX.of{P:Program}{w:World}{K:Frag}{mg:Str→Option Value}{base:Heap}{k:Nat}{x:Str}{ps:List Str}{sp:Sp}{f:Addr}{fd:FuncData}{qual:Str}{st:Stmt}
 (F:Fun K x qual st f fd) (G:FnOk P w K mg base (CX1 P w) k f fd ps sp) (hm:mg x=some (.ref f)) (b:zaS K fd ps []):CanX P w K mg base k x ps sp:=⟨f,fd,G,hm,F.kp,b⟩
theorem Fun.okX{P:Program}{w:World}{K:Frag}{mg:Str→Option Value}{base:Heap}{x qual:Str}{st:Stmt}{f:Addr}{fd:FuncData}{N ps:List Str}{k:Nat}{sp:Sp}(F:Fun K x qual st f fd)(S:FnScope N ps (zc st))(len:∀vs H Q E,sp vs H Q E→vs.length=ps.length)
 (hbody:∀(X:Cx)(W:XW)(cdv:Value)(A:Around)(outer:List Env)(s:Shared)(H:Hp)(vs:List V)(Q:VK)(E:XK),X=zbP (CX1 P w) P w K mg base N qual (zc st) f cdv A outer s H E→W=(fun _ cls H'=>E cls none H')→Fl X W→Md X W→Room k X.A→sp vs H Q E →
   ∃t,PSs X (zo st) t∧t { nx:=fun _ H'=>Q .non H',rt:=Q } (zbu N vs) H):FnOk P w K mg base (CX1 P w) (k+1) f fd ps sp:=by
 obtain⟨oc,od,kV,doc,pm,an,cdv,ct,osl,rfl,lk,hcd⟩:=F.ex
 refine fn_of lk hcd S len fun A outer s H vs Q E hr hsp=>?_
 exact hbody _ _ cdv A outer s H vs Q E rfl rfl fly_def md_def hr hsp
def tCallX(W:XW)(sp:Sp)(t:TA):TE:=fun σ H Q=>t σ H fun vs H1=>sp vs H1 Q fun cls _ H'=>W σ cls H'
section
variable {X:Cx}{k:Nat}{x:Str}{ps:List Str}{sp:Sp}{p pos:Pos}{e:Expr}{es:List Expr}{t:TA}{W:XW}
theorem zhG{pins:List (Addr×Obj)}{σ:St}{H:Hp}{s:Shared}{Q:VK}{us:List Value}{vs:List V}{f:Addr}{fd:FuncData}(F:FnOk X.prog X.w X.K X.mg X.base (CX1 X.prog X.w) k f fd ps sp)(hr:Room k X.A)(hb:zaS X.K fd ps [])(fl:Fl X W)
 (I:Inv X pins σ H s) (r:zF vs us) (h:sp vs H Q fun cls _ H'=>W σ cls H'):wpAny (model X.prog X.w) X.A (call (.ref f) us) (EP X pins σ Q) X.xe s:=by
 have hl:us.length=ps.length:=by rw[←r.length];exact F.len _ _ _ _ h
 have hb':=hb s us I.kIn (by rw[append_nil];exact hl)
 rw[append_nil] at hb'
 refine wpAny_call (codeAny_mono (F.run X.A X.stack s H ⟨us,[]⟩ us vs Q _ hr I.env0 hb' r h) fun r s' hq=>?_)
 cases r with
 | error e =>
   obtain⟨y,cls,H',rfl,fly,w⟩:=hq
   exact fl pins σ H s y cls H' s' I fly w
 | ok fl' =>
   cases fl' with
   | ret u=>exact I.after hq
   | next=>exact False.elim hq
   | brk=>exact False.elim hq
   | cont=>exact False.elim hq
theorem pe_ownX(C:CanX X.prog X.w X.K X.mg X.base k x ps sp)(fl:Fl X W)(hr:Room k X.A)(hg:Gl X x)(ha:PA X (e::es) t)(hdb:(x==("__debug__":Str))=false:=by decide)(he:starEach (e::es) X.env=(false,eval e X.env)::starEach es X.env:=by rfl)
 (hpl:(backTo pos (starEach es X.env)).any (·.1)=false:=by rfl):PE X (.Call (.Name x p) (e::es) [] pos) (tCallX W sp t):=by
 obtain⟨f,fd,F,hm,hk,hb⟩:=C.ex
 intro pins s σ H Q I h
 refine wpAny_Call_Name_kw (zej I hg hm ?_ hdb)
 refine callWith_K (h₀:=X.base) I.ok.mod.kin hk (thn (ha pos pins s σ H _ I h) fun us s1 ⟨vs,H1,I1,r,q⟩=>⟨I1.kIn,?_⟩) he hpl
 exact zhG F hr hb fl I1 r q
end
section
variable {X:Cx}{pins:List (Addr×Obj)}{σ:St}{H H':Hp}{s s':Shared}{x:Addr}{cls:Value}
end
section
variable {X:Cx}{x n:Str}{Dx:Addr}{np hpos:Pos}{b0:Stmt}{suite:List Stmt}{zdM:List ExceptHandler}{ts:TS}{tr:Value→TS}{i:Nat}
end
section
variable {X:Cx}
end
theorem zdi{X:Cx}:Fl X fun _ _ _=>False:=fun _ _ _ _ _ _ _ _ _ _ h=>h.elim
abbrev zb4(K:Frag)(x:Str)(C:Addr):Prop:=nsIn K mainGlobals x=some (some (.ref C))
theorem zb4.inj{K:Frag}{x:Str}{C D:Addr}(a:zb4 K x C)(b:zb4 K x D):C=D:=by
 have:=a.symm.trans b
 cases this
 rfl
section
variable {X:Cx}{K:Frag}
theorem zdu(h:X.K=K):IxR X (rIxL K):=by subst h;exact zy
theorem zgC(h:X.K=K):MtM X "list.index" (rIndex K):=by subst h;exact zdv
theorem zck(h:X.K=K):zaG X (.builtin "len") (fun xs H Q=>∃p ys,xs=[.ref p]∧(SqL K H p ys∨SqT K H p ys)∧Q (.int ys.length) H):=by subst h;exact zg
theorem pi_listK{tg l:Expr}{tl:TE}(h:X.K=K)(hl:PE X l tl):PI X tg l (iList K tl):=by subst h;exact zE hl
theorem pe_bmK{o e:Expr}{es:List Expr}{to:TE}{t:TA}{name:Str}{apos cpos:Pos}{T id:String}{r:V→List V→Hp→VK→Prop}(h:X.K=K)(pa:PlainAttrs T)(slot:Slot T name id)(hty:typeOf (.builtin id)=pure (.type "method_descriptor"))(hm:MtR X id r)(ho:PE X o to)(ha:PA X (e::es) t)
 (hbase:attributeBase o name X.env (eval o X.env)=eval o X.env:=by rfl)
 (hfew:((backTo cpos (starEach (e::es) X.env)).all (fun x => !x.1) && (backToKw cpos (keywordEach [] X.env)).all (fun x=>x.1.isSome)
   && decide ((e::es).length+([]:List Keyword).length+(if([]:List Keyword).isEmpty then 0 else 1)<30))=true:=by rfl)
 (hline:(apos.endLine==cpos.line)=true:=by rfl) (hs:starEach (e::es) X.env=(false,eval e X.env)::starEach es X.env:=by rfl) (hplain:(backTo cpos (starEach es X.env)).any (·.1)=false:=by rfl) :
 PE X (.Call (.Attribute o name apos) (e::es) [] cpos) (tBM K T r to t):=by subst h;exact zaw pa slot hty hm ho ha hbase hfew hline hs hplain
end
theorem iteNo{b:Bool}{A B:Prop}(h:b=false)(k:B):if b=true then A else B:=by rw[h,if_neg Bool.false_ne_true];exact k
section
variable {α:Type} [DecidableEq α]
def zeu(acc:List α)(v:α):List α:=if v∈acc then acc else acc++[v]
def met(val:Nat→α)(i:Nat):List α:=((List.range i).map val).foldl zeu []
theorem zfw(val:Nat→α)(i:Nat):met val (i+1)=zeu (met val i) (val i):=by
 unfold met;rw[range_succ,map_append,List.foldl_append];rfl
theorem zf2{acc:List α}{v k:α}:k∈zeu acc v↔k∈acc∨k=v:=by
 unfold zeu
 split
 ·rename_i h
  exact⟨.inl,fun z=>z.elim id fun e=>by rw[e];exact h⟩
 ·rw[mem_append,List.mem_singleton]
theorem zfY(acc:List α)(v:α):(zeu acc v).length=if decide (v∈acc)=true then acc.length else acc.length+1:=by
 unfold zeu
 by_cases h:v∈acc
 ·rw[if_pos h,decide_eq_true h,if_pos rfl]
 ·rw[if_neg h,decide_eq_false h,if_neg (by decide),length_append];rfl
theorem met_len(val:Nat→α):∀i,(met val i).length≤i
 | 0=>le_refl _
 | i+1=>by
   rw[zfw,zfY]
   have:=met_len val i
   split <;> omega
theorem met_list(ts:List α)(d:α):met (fun i=>ts.getD i d) ts.length=ts.foldl zeu []:=by
 unfold met
 congr 1
 refine ext_getElem (by simp) fun i h1 h2=>?_
 rw[getElem_map,getElem_range,getD_eq_getElem?_getD,getElem?_eq_getElem h2]
 rfl
theorem zg5(acc ts:List α):(ts.foldl zeu acc).length≤acc.length+ts.length:=by
 induction ts generalizing acc with
 | nil=>exact le_refl _
 | cons a ts ih =>
   rw[foldl_cons]
   refine le_trans (ih _) ?_
   rw[zfY,length_cons]
   split <;> omega
theorem zfm(acc ts:List α)(hacc:acc.Nodup):(ts.foldl zeu acc).length=acc.length+ts.length↔(acc++ts).Nodup:=by
 induction ts generalizing acc with
 | nil=>simpa using hacc
 | cons a ts ih =>
   rw[foldl_cons]
   by_cases h:a∈acc
   ·have e:zeu acc a=acc:=by unfold zeu;rw[if_pos h]
    rw[e]
    constructor
    ·intro q
     have:=zg5 acc ts
     rw[length_cons] at q
     omega
    ·intro q
     rw[nodup_append] at q
     exact absurd rfl (q.2.2 a h a mem_cons_self)
   ·have e:zeu acc a=acc++[a]:=by unfold zeu;rw[if_neg h]
    have hn:(acc++[a]).Nodup:=by
     rw[nodup_append]
     exact⟨hacc,by simp,fun x hx y hy z=>h (by rw[List.mem_singleton.mp hy] at z;rw[←z];exact hx)⟩
    rw[e]
    have:=ih (acc++[a]) hn
    rw[append_assoc,List.singleton_append] at this
    rw[←this,length_append,length_singleton,length_cons]
    omega
theorem ziq(ts:List α)(d:α):(met (fun i=>ts.getD i d) ts.length).length=ts.length↔ts.Nodup:=by
 rw[met_list]
 have:=zfm [] ts List.nodup_nil
 simpa using this
end
section
variable {prog:Program}{w:World}{A:Around}{R:Result→Shared→Prop}{it:Addr}{fp wr:List Addr}{G:Array GenState→Array GenState→Prop}{n:Nat}{P:Nat→Value→Prop}{St:Nat→Shared→Prop}
variable {α:Type} [DecidableEq α] {knd:KeyKind prog w α}
theorem zeW{h h':Heap}{a:Addr}{S:α→Bool}{m:Nat}(x:h.SetOf knd a S m)(k:∀o,h.get? a=some o→h'.get? a=some o):h'.SetOf knd a S m:=by
 obtain⟨o,es,ep,t,ho,r⟩:=x
 exact⟨o,es,ep,t,k _ ho,r⟩
theorem ziC{h:Heap}{a:Addr}{S S':α→Bool}{m m':Nat}(x:h.SetOf knd a S m)(e:S=S')(e':m=m'):h.SetOf knd a S' m':=by subst e;subst e';exact x
theorem set_fill(W:WalksS prog w A.in1 it fp wr G n P St)(S:Addr)(hS:S∉fp)(val:Nat→α)(hv:∀i v,P i v→knd.is (val i) v=true∧v.scannable=true)(hb:n+1<scanBound):
 ∀(k i:Nat)(s:Shared),k+i=n→St i s→s.heap.SetOf knd S (fun x=>decide (x∈met val i)) (met val i).length →
  (∀s',Moved (S::wr) G s s'→s'.heap.SetOf knd S (fun x=>decide (x∈met val n)) (met val n).length→R (.ok (.ret .none)) s') →
  codeAny (model prog w) A (.builtin "set.update.loop" ⟨[.ref S,.ref it],[]⟩) R s:=by
 have hw:S∉wr:=fun z=>hS (W.sub _ z)
 intro k
 induction k with
 | zero =>
   intro i s hk st hs hR
   rw[Nat.zero_add] at hk
   subst hk
   refine codeAny_builtin F.entry_set_update_loop ?_
   rw[Around.under_plainId F.plain_set_update_loop _]
   refine wpAny_bind (W.done s _ _ st fun s' hm=>?_)
   exact wpAny_pure (hR s' (hm.mono fun b z=>mem_cons_of_mem _ z) (zeW hs fun o e=>hm.heap S o hw e))
 | succ k ih =>
   intro i s hk st hs hR
   refine codeAny_builtin F.entry_set_update_loop ?_
   rw[Around.under_plainId F.plain_set_update_loop _]
   refine wpAny_bind (W.item i s _ _ (by omega) st fun v s' hP st' hm=>?_)
   obtain⟨kv,sv⟩:=hv i v hP
   have hs':=zeW hs fun o e=>hm.heap S o hw e
   refine wpAny_bind (m:=holding [v] (setAdd S v)) (wpAny_holding ?_)
   unfold setAdd
   refine wpAny_holding (wpAny_bind (knd.pyHash kv ?_))
   refine wpAny_setAddHashed_of (knd:=knd) (s:={ s' with toks:=s'.toks+1 }) kv sv hs' (by have:=met_len val i;omega) fun h' hsb hs2=>?_
   have hs3:h'.SetOf knd S (fun x=>decide (x∈met val (i+1))) (met val (i+1)).length:=by
    refine ziC hs2 (funext fun x=>?_) ?_
    ·rw[zfw]
     by_cases h1:x∈met val i
     ·rw[decide_eq_true h1,decide_eq_true (zf2.mpr (.inl h1)),Bool.true_or]
     ·by_cases h2:x=val i
      ·rw[decide_eq_true h2,decide_eq_true (zf2.mpr (.inr h2)),Bool.or_true]
      ·rw[decide_eq_false h1,decide_eq_false h2,decide_eq_false fun z=>(zf2.mp z).elim h1 h2];rfl
    ·rw[zfw,zfY]
   refine wpAny_pure ⟨plainId_quiet F.plain_set_update_loop _,ih (i+1) _ (by omega) (W.frame _ s' _ _ st' (le_succ _) fun b hb o e=>?_) hs3 fun s'' hm''=>hR s'' ?_⟩
   ·rw[hsb.2 b fun z=>hS (by rw[←z];exact hb)];exact e
   ·refine Moved.trans W.gtrans ((hm.mono fun b z=>mem_cons_of_mem _ z).then_heap (le_succ _) fun b o hb e=>?_) hm''
    rw[hsb.2 b fun z=>hb (by rw[z];exact mem_cons_self)];exact e
end
section
variable {prog:Program}{w:World}{A:Around}{E:Value→Shared→Prop}{s:Shared}{α:Type} [DecidableEq α] {knd:KeyKind prog w α}
def Filled(knd:KeyKind prog w α)(s:Shared)(ks:List α)(s2:Shared):Prop :=
 ∃(h':Heap)(tk:Nat),s2={ s with heap:=h',toks:=tk }∧h'.SetOf knd s.heap.objs.size (fun k=>decide (k∈ks)) ks.length∧∀b o,b<s.heap.objs.size→s.heap.get? b=some o→h'.get? b=some o
set_option maxHeartbeats 3200000 in
theorem ziU{l:Addr}{items:Array Value}{val:Nat→α}{Q:Value→Shared→Prop}(hh:A.handled=none)(hl:s.heap.IsList l items)(hv:∀i v,items[i]? = some v→knd.is (val i) v=true∧v.scannable=true)(hb:items.size+1<scanBound)
 (h:∀s2,Filled knd s (met val items.size) s2→Q (.ref s.heap.objs.size) s2):wpAny (model prog w) A (call (.type "set") [.ref l]) Q E s:=by
 have hlt:l<s.heap.objs.size:=by obtain⟨o,e,_⟩:=hl;exact lt_size e
 obtain⟨c,tl,hmro⟩:=F.called_set.mro
 have hmade:=F.called_set.made
 have hsub:=F.called_set.sub
 refine wpAny_call (codeAny_of_tree ?_)
 show wpAny _ _ (callAny (.type "set") _) _ _ _
 refine wpAny_pure ⟨Code.quiet_builtin _ (by decide +kernel),codeAny_builtin F.entry_type_call ?_⟩
 rw[Around.under_plain (weight_type_call_type "set" [.ref l] []) rfl]
 have h1:=F.called_set.notType
 have h2:=F.called_set.canCreate
 have h3:=F.typeCall_set_1 (.ref l)
 repeat (any_goals (first | assumption | wp_step))
 refine codeAny_mono (code_set_new_1 (.ref l) (E:=E) (Q₁:=fun v s₁=>∃led:Bool,v=.ref s.heap.objs.size∧s₁={ s with heap:=s.heap.push { cls:=.type "set",dict:=none,data:=.set #[] 0 (.fresh 0 0 led) } }) fun led=>⟨led,rfl,rfl⟩) fun r s₁ hr=>?_
 rcases r with e | fl
 ·exact hr
 cases fl with
 | ret v =>
   obtain⟨led,rfl,rfl⟩:=hr
   generalize hob:({ cls:=.type "set",dict:=none,data:=.set #[] 0 (.fresh 0 0 led) }:Obj)=ob
   have hS:(s.heap.push ob).get? s.heap.objs.size=some ob:=get?_push_size _ (by rw[←hob];rfl)
   have hT:Shared.TypeIs { s with heap:=s.heap.push ob } (.ref s.heap.objs.size) "set":=⟨_,hS,by rw[←hob]⟩
   have h4:=F.called_set.init.lookup
   have h5:=F.called_set.init.bind (.ref s.heap.objs.size)
   repeat (any_goals (first | assumption | wp_step))
   refine codeAny_mono (codeAny_call_builtin (R:=wants (fun r s₂=>r=.none∧Filled knd s (met val items.size) s₂) E) F.called_set.init.plain F.entry_set_init (check_set_init_1 hT ?_)) fun r₂ s₂ hr₂=>?_
   ·have hl1:(s.heap.push ob).IsList l items:=hl.push _
    obtain⟨⟨ocls,odict,odata,oslots⟩,hol,hcl,nl,hdl⟩:=id hl1
    simp only at hcl hdl
    subst hcl hdl
    have h6:=F.sub_list_set
    have h7:=F.sub_list_frozenset
    have h8:(Value.type "list" == Value.type "dict")=false:=by decide
    subst hob
    unfold Builtin.«set.__init__» noKeywords Builtin.Frozenset.updateFrom
    generalize hPI:pyIter=PI
    wp_walk
    subst hPI
    refine wpAny_pyIter_list hl1 (wpAny_bind (wpAny_runValue ?_))
    have hsz:(s.heap.push { cls:=.type "set",dict:=none,data:=.set #[] 0 (.fresh 0 0 led) }).objs.size=s.heap.objs.size+1:=size_push ..
    refine set_fill (knd:=knd) ((Walks.list (by simp[hh]) _ l (by rw[hsz];exact ne_of_lt (lt_succ_of_lt hlt)) items).toS) s.heap.objs.size ?_ val hv hb items.size 0 _ rfl ⟨⟨_,get?_push_size _ rfl,rfl,rfl⟩,hl1.push _⟩ ?_ fun s' hm hS'=>?_
    ·rw[hsz]
     simp only[mem_cons,not_mem_nil,or_false,not_or]
     exact⟨ne_of_lt (lt_succ_self _),ne_of_gt hlt⟩
    ·exact ziC ((setObjOf_fresh (knd:=knd) led).setOf (get?_push_of_some _ hS) (by unfold scanBound;omega)) rfl rfl
    ·obtain⟨h',g',d',tk',os'⟩:=s'
     have eg:g'=s.gens:=hm.gens
     have ed:d'=s.drawn:=hm.drawn
     have eo:os'=s.os:=hm.os
     subst eg ed eo
     refine wpAny_pure (show wpAny _ _ (ret Value.none) _ _ _ from wpAny_pure ⟨rfl,h',tk',rfl,hS',fun b o hb e=>?_⟩)
     refine hm.heap b o ?_ (get?_push_of_some _ (get?_push_of_some _ e))
     rw[hsz]
     simp only[mem_cons,not_mem_nil,or_false,not_or]
     exact⟨ne_of_lt hb,ne_of_lt (lt_succ_of_lt hb)⟩
   ·rcases r₂ with e | fl₂
    ·exact hr₂
    cases fl₂ with
    | ret r =>
      obtain⟨rfl,hf⟩:=hr₂
      repeat (any_goals (first | assumption | wp_step))
      exact h _ hf
    | _=>exact hr₂.elim
 | _=>exact hr.elim
end
section
variable {X:Cx}
theorem zgU:OpR X (compareOp .LtE) (fun x y H Q=>∃i j,x=.str i∧y=.str j∧Q (.bl (!decide (j.cps.toList<i.cps.toList))) H):=by
 intro pins s σ H x y v u Q I rx ry h
 obtain⟨i,j,rfl,rfl,q⟩:=h
 obtain⟨t,rfl⟩:=rx
 obtain⟨t',rfl⟩:=ry
 exact PySem.P.le_str (zT I q rfl)
def rSlS:V→Option Int→Option Int→Hp→VK→Prop:=fun x lo hi H Q=>∃z,x=.str z∧z.length≤sizeLine∧Q (.str (PySem.Txt.slice z lo hi)) H
theorem part_as{v:Value}{o:Option Int}(h:IsPart v o):∃p:Option (Int×Tok),v=partValue p∧p.map (·.1)=o:=by
 cases h with
 | none=>exact⟨none,rfl,rfl⟩
 | int i t=>exact⟨some (i,t),rfl,rfl⟩
theorem sl_str:SlR X rSlS:=by
 intro pins s σ H x v vl vu lo hi sl Q I rx hs pl pu h
 obtain⟨z,rfl,hz,q⟩:=h
 obtain⟨t,rfl⟩:=rx
 obtain⟨l,rfl,rfl⟩:=part_as pl
 obtain⟨u,rfl,rfl⟩:=part_as pu
 refine⟨"str",_,PySem.F.slot_str_getitem.lookup,typeIs_str _ _ _,wpAny_getItem_str_slice (l:=l) (u:=u) (st:=none) hs rfl (post_val_or_str ⟨le_trans (PySem.Txt.slice_le z _ _) hz,fun t' k=>?_⟩)⟩
 exact⟨.str (PySem.Txt.slice z _ _),H,I.tok _,⟨t',rfl⟩,q⟩
def Its(z:Str):It:=⟨fun i _=>i<z.length,fun i H x H'=>H'=H∧∃c,z.cps[i]? = some c∧x=.str ⟨#[c]⟩,fun i _=>i=z.length⟩
theorem zh2{P:Program}{w:World}{K:Frag}{tg:Expr}(it:Addr)(T:String)(z:Str)(t:Tok)
 (hT : ["enumerate","zip","dict_itemiterator","dict_reverseitemiterator","odict_iterator","itertools.zip_longest","itertools.pairwise"].contains T=false)
 (W:∀A:Around,A.handled=none→Walks P w A it [it] [it] z.cps.size (SignAt z) (fun i h=>h.IsStrIter it T z t i))
 (slf:∀(A:Around)(i:Nat)(s:Shared)(Q:Value→Shared→Prop)(E:Value→Shared→Prop),s.heap.IsStrIter it T z t i→Q (.ref it) s→wpAny (model P w) A (pyIter (.ref it)) Q E s) :
 Turn P w K tg (Its z) [it] it (fun i h=>h.IsStrIter it T z t i) where
 mem:=by simp
 obj:=fun i h st b hb=>by
  have e:b=it:=by simpa using hb
  subst e
  obtain⟨o,e,c,d⟩:=st
  exact⟨o,e,fun v z=>by rw[d] at z;cases z⟩
 keep:=fun i h h' st k=>by obtain⟨o,e,r⟩:=st;exact⟨o,k it (by simp) o e,r⟩
 item:=by
  intro X hP hw hK hc i pins s σ H E I hf st hg
  subst hP hw hK
  obtain⟨f0,f1,f2,f3,f4,f5⟩:=hf it (by simp)
  refine(W X.A (I.ok.hd hc)).item i s _ _ hg st fun v h' tk hv st' kk=>?_
  obtain⟨c,u,ec,rfl⟩:=hv
  have I1:Inv X pins σ H { s with heap:=h',toks:=tk }:=I.turned (fun b o hb e=>kk b o (by simpa using hb) e) f0 f1 f3 f4 f5
  obtain⟨o,e,c1,d⟩:=id st'
  exact⟨_,rfl,go_of (s:={ s with heap:=h',toks:=tk }) (n:=T) e c1 d hT ⟨.str ⟨#[c]⟩,H,I1,⟨u,rfl⟩,⟨rfl,c,ec,rfl⟩,st',fun b hb=>(hf b hb).1⟩⟩
 done:=by
  intro X hP hw hK hc i pins s σ H E I hf st hg
  subst hP hw hK
  obtain⟨f0,f1,f2,f3,f4,f5⟩:=hf it (by simp)
  have hg:i=z.cps.size:=hg
  subst hg
  exact(W X.A (I.ok.hd hc)).done s _ _ st fun h' tk kk=>⟨rfl,I.turned (fun b o hb e=>kk b o (by simpa using hb) e) f0 f1 f3 f4 f5⟩
 self:=fun A i s Q E st h=>slf A i s Q E st h
def iStr(tl:TE):TI:=fun σ H R=>tl σ H fun x H1=>∃z,x=.str z∧R (Its z) H1
theorem pi_str{tg l:Expr}{tl:TE}(hl:PE X l tl):PI X tg l (iStr tl):=by
 intro pins s σ H R I h
 refine thn (hl pins s σ H _ I h) fun v s1 ⟨x,H1,I1,r1,q1⟩=>?_
 obtain⟨z,e,q⟩:=q1
 subst e
 obtain⟨t,rfl⟩:=r1
 have hf:∀b ∈ [s1.heap.objs.size],zah X pins H1 b:=fun b hb=>by
  have e:b=s1.heap.objs.size:=by simpa using hb
  subst e
  exact I1.fpOk (le_refl _) (I1.hok.fresh (le_refl _))
 have hk:∀o:Obj,Inv X pins σ H1 { s1 with heap:=s1.heap.push o }:=fun o=>I1.kept (t':=s1.toks) fun b u e=>get?_push_of_some _ e
 cases ha:z.cps.all (·< 128)
 ·refine wpAny_pyIter_wide ha ⟨s1.heap.objs.size,[s1.heap.objs.size],_,_,H1,rfl,hk _,zh2 _ "str_iterator" z t (by decide) (fun A hA=>Walks.strWide hA _ z t) (fun A i s Q E st h=>wpAny_pyIter_striter_wide st h),⟨_,get?_push_size _ rfl,rfl,rfl⟩,hf,q⟩
 ·refine wpAny_pyIter_ascii ha ⟨s1.heap.objs.size,[s1.heap.objs.size],_,_,H1,rfl,hk _,zh2 _ "str_ascii_iterator" z t (by decide) (fun A hA=>Walks.strAscii hA _ z t) (fun A i s Q E st h=>wpAny_pyIter_striter_ascii st h),⟨_,get?_push_size _ rfl,rfl,rfl⟩,hf,q⟩
theorem comp_str0{z:Str}{c:St}{te:TE}{H:Hp}{fin:List V→Hp→Prop}(Pv:Nat→List V→Hp→Prop)(h0:Pv 0 [] H)(hl:∀i ys H,i≤z.length→Pv i ys H→ys.length≤i)(hz:z.length≤sizeLine)
 (hs:∀i d ys H,z.cps.toList[i]? = some d→Pv i ys H→te (some (.str ⟨#[d]⟩)::c) H fun y H3=>Pv (i+1) (ys++[y]) H3) (hd:∀ys H,Pv z.length ys H→fin ys H):zcb (Its z) c zhB te H fin:=by
 refine⟨fun i m ys H=>m=z.length-i∧i≤z.length∧Pv i ys H,⟨z.length,by simp,zero_le _,h0⟩,?_⟩
 rintro i m ys H ⟨rfl,hi,p⟩
 have hy:=hl i ys H hi p
 by_cases hlt:i<z.length
 ·refine .inr ⟨hlt,by omega,Pv (i+1),fun ys' H' p'=>⟨_,by omega,rfl,hlt,p'⟩,fun x H' y=>?_⟩
  obtain⟨e,d,ed,ex⟩:=y
  subst e ex
  exact iteT (B:=Pv (i+1) ys H') (hs i d ys _ (by rw[Array.getElem?_toList];exact ed) p)
 ·have e:i=z.length:=by omega
  subst e
  exact .inl ⟨rfl,by omega,hd ys H p⟩
theorem strs_val{ts:List Str}{us:List Value}(r:zF (ts.map V.str) us){i:Nat}{v:Value}(h:us[i]? = some v)(d:Str):∃t,v=.str (ts.getD i d) t:=by
 have hl:=r.length
 rw[length_map] at hl
 have hi:i<ts.length:=by rw[hl];exact(List.getElem?_eq_some_iff.mp h).1
 obtain⟨u,e,ru⟩:=r.get (i:=i) (x:=.str ts[i]) (by rw[getElem?_map,getElem?_eq_getElem hi];rfl)
 rw[e] at h
 cases h
 obtain⟨t,rfl⟩:=ru
 exact⟨t,by rw[getD_eq_getElem?_getD,getElem?_eq_getElem hi];rfl⟩
def tLenSetS(K:Frag)(te:TE):TE:=fun σ H Q=>te σ H fun x H1=>∃(a:Addr)(ts:List Str),x=.ref a∧SqL K H1 a (ts.map V.str)∧ts.length<4000∧Q (.int (met (fun i=>ts.getD i "") ts.length).length) H1
theorem pe_lensetS{e:Expr}{te:TE}{p p2 pos pos2:Pos}(hc:X.calm=true)(hg:Gl X "len")(hm:X.mg "len"=none)(hg2:Gl X "set")(hm2:X.mg "set"=none)(he:PE X e te)
 (h1:starEach [.Call (.Name "set" p2) [e] [] pos2] X.env=[(false,eval (.Call (.Name "set" p2) [e] [] pos2) X.env)]:=by rfl) (h2:starEach [e] X.env=[(false,eval e X.env)]:=by rfl) :
 PE X (.Call (.Name "len" p) [.Call (.Name "set" p2) [e] [] pos2] [] pos) (tLenSetS X.K te):=by
 intro pins s σ H Q I h
 refine wpAny_Call_Name_kw (zch I hg hm PySem.boot_len ?_)
 refine callWith_builtin1 ?_ h1 rfl
 rw[h1]
 show wpAny _ _ (spliced ((false,eval (.Call (.Name "set" p2) [e] [] pos2) X.env)::backTo pos [])) _ _ s
 refine Calls.spliced_cons ?_
 refine wpAny_Call_Name_kw (zch I hg2 hm2 boot_set ?_)
 refine callWith_type1 ?_ h2 rfl
 rw[h2]
 show wpAny _ _ (spliced ((false,eval e X.env)::backTo pos2 [])) _ _ s
 refine Calls.spliced_cons (thn (he pins s σ H _ I h) fun v s1 ⟨x,H1,I1,r1,q1⟩=>?_)
 obtain⟨a,ts,rfl,hS,hz,q⟩:=q1
 cases r1
 obtain⟨its,rv,pl,hz2⟩:=I1.list hS
 have hl:=rv.length
 rw[length_map] at hl
 have hsb:scanBound=4096:=rfl
 refine Calls.spliced_nil ?_
 refine ziU (knd:=strKind X.prog X.w) (val:=fun i=>ts.getD i "") (I1.ok.hd hc) pl.isList (fun i v hv=>?_) (by rw[size_toArray];omega) fun s2 ⟨h',tk,e2,hs,hk⟩=>?_
 ·obtain⟨t,rfl⟩:=strs_val rv (i:=i) (v:=v) (by simpa using hv) ""
  exact⟨beq_self_eq_true _,rfl⟩
 subst e2
 have I2:Inv X pins σ H1 { s1 with heap:=h',toks:=tk }:=I1.kept (t':=tk) fun b o e=>hk b o (lt_size e) e
 refine Calls.spliced_nil ?_
 have esz:its.toArray.size=ts.length:=by rw[size_toArray];omega
 rw[esz] at hs
 obtain⟨o,es,ep,t,ho,hex,hd,_,_,hsz,hf,hn⟩:=hs
 refine PySem.call_len_set ho hex hd hf (by omega) ⟨.int (met (fun i=>ts.getD i "") ts.length).length,H1,I2.tok _,⟨tk+1,?_⟩,q⟩
 rw[hn]
theorem zfj{ts:List Str}{i:Nat}(h:i<ts.length):(ts.map V.str)[i]? = some (.str (ts.getD i "")):=by
 rw[getElem?_map,getElem?_eq_getElem h,getD_eq_getElem?_getD,getElem?_eq_getElem h];rfl
theorem zfA{ts:List Str}{i:Int}(h0:0≤i)(h:i<ts.length):atI (ts.map V.str) i=some (.str (ts.getD i.toNat "")):=zhE h0 (zfj (by omega))
theorem zgL(ts:List Str):(ts.map V.str).all zaM=true:=by
 rw[all_map];exact List.all_eq_true.mpr fun _ _=>rfl
theorem inV_strs(ts:List Str)(c:Str):inV (.str c) (ts.map V.str)=decide (c∈ts):=by
 unfold inV
 induction ts with
 | nil=>rfl
 | cons a ts ih =>
   rw[map_cons,any_cons,ih]
   show((a==c) || _)=_
   by_cases h:a=c
   ·subst h;simp
   ·have:¬c=a:=fun e=>h e.symm
    simp[h,this]
theorem zaL{ts:List Str}{i:Nat}{x:V}(hx:(ts.map V.str)[i]? = some x):i<ts.length∧x=.str (ts.getD i ""):=by
 have hi:i<ts.length:=by have:=(List.getElem?_eq_some_iff.mp hx).1;rwa [length_map] at this
 refine⟨hi,?_⟩
 rw[zfj hi] at hx
 exact(Option.some.inj hx).symm
theorem yg{ts:List Str}{i:Nat}(hi:i<ts.length):ts.take (i+1)=ts.take i++[ts.getD i ""]:=by
 rw[take_succ,getElem?_eq_getElem hi,getD_eq_getElem?_getD,getElem?_eq_getElem hi];rfl
theorem zak{ts:List Str}{i:Nat}(hi:i<ts.length):ts.getD i "" ∈ ts:=by
 rw[getD_eq_getElem?_getD,getElem?_eq_getElem hi];exact getElem_mem hi
theorem wl(x y:Str):(x++y).length=x.length+y.length:=by
 show(x.cps++y.cps).size=x.cps.size+y.cps.size
 exact Array.size_append
abbrev abc:Str:= "abcdefghijklmnopqrstuvwxyz"
def zdo(c:Nat):Bool:=decide (97≤c) && decide (c≤122)
theorem zeV(ns:List Int):∀i,i≤ns.length→preSum (fun i=>ns.getD i 0) i=(ns.take i).sum
 | 0,_=>by simp[preSum]
 | i+1,h=>by
   rw[wB (by omega),List.sum_append,←zeV ns i (by omega)]
   simp[preSum]
theorem zde(hc:X.calm=true):zaG X (.builtin "sum") (fun xs H Q=>∃(a:Addr)(ns:List Int),xs=[.ref a]∧SqL X.K H a (ns.map V.int)∧Q (.int ns.sum) H):=by
 intro pins s σ H xs us Q I r h
 obtain⟨a,ns,rfl,hS,q⟩:=h
 obtain⟨u,rfl,ru⟩:=r.one
 cases ru
 obtain⟨its,r1,p1,z1⟩:=I.list hS
 have l1:=r1.length
 rw[length_map] at l1
 have hlt:a<s.heap.objs.size:=by obtain⟨o,n,e,_⟩:=p1;exact lt_size e
 refine call_sum_walkAnyS (wpAny_pyIter_list p1.isList ?_)
 have I1:Inv X pins σ H { s with heap:=s.heap.push { cls:=.type "list_iterator",data:=.fields #[.ref a,.int 0 0] } }:=I.kept (t':=s.toks) fun b o e=>get?_push_of_some _ e
 refine⟨s.heap.objs.size,_,_,_,its.toArray.size,_,_,fun i=>ns.getD i 0,rfl,(Walks.list (by simpa using I.ok.hd hc) s.heap.objs.size a (ne_of_lt hlt) its.toArray).toS,⟨⟨_,get?_push_size _ rfl,rfl,rfl⟩,p1.isList.push _⟩,?_,?_,fun s' t' hm=>?_⟩
 ·intro b hb
  rw[size_push]
  simp only[mem_cons,not_mem_nil,or_false] at hb
  rcases hb with rfl | rfl
  ·exact lt_succ_self _
  ·exact lt_succ_of_lt hlt
 ·intro i v hP
  exact IntsAre.int_at (za1 r1) i v (by simpa using hP)
 ·obtain⟨h',g',d',tk',os'⟩:=s'
  have eg:g'=s.gens:=hm.gens
  have ed:d'=s.drawn:=hm.drawn
  have eo:os'=s.os:=hm.os
  subst eg ed eo
  have f:=I.fpOk (H':=H) (le_refl _) (I.hok.fresh (le_refl _))
  have I2:=I1.turned (t':=tk') (h':=h') (it:=s.heap.objs.size) (fun b o hb e=>hm.heap b o (by simpa using hb) e) f.1 f.2.1 f.2.2.2.1 f.2.2.2.2.1 f.2.2.2.2.2
  refine⟨.int ns.sum,H,I2,⟨t',?_⟩,q⟩
  rw[size_toArray,←l1,zeV ns _ (le_refl _),take_length]
end
def zbm(X:Cx)(x:Str)(N:List Str)(scope:Scope)(cl:List (Str×Addr))(cx:Addr)(C:Addr)(s2:Shared)(H2:Hp)(fp:List Addr):Cx where
 prog:=X.prog
 w:=X.w
 K:=X.K
 mg:=X.mg
 base:=X.base
 A:=X.A
 N:=N
 s₀:=s2
 H₀:=H2
 env:=compEnvC scope ((x,cx)::cl) C X.env
 outer:=X.stack
 stack:=X.stack
 ex:=fp
 fn:=fun y=>y==x
 calm:=X.calm
 pn:=[]
 xe:=fun _ _=>False
structure CompScopeC (sc:Scope) (N:List Str) (x:Str) (fr:List Str) (ix:List Nat) (scope:Scope):Prop where
 kind:scope.kind=.function
 one:∀a acc,cellsFrom a scope.names acc=(x,a)::acc
 push:∀h:Heap,pushCells h scope.names=h.push { cls:=.type "cell",data:=.cell none }
 cells:∀y∈scope.names,y.2=.cell→y.1=x
 lcl:∀y∈scope.names,y.2=.local→scope.names.lookup y.1=some .local
 lx:scope.names.lookup x=some .cell
 free:∀y∈scope.names,y.2=.free→sc.names.lookup y.1=some .cell∨sc.names.lookup y.1=some .free
 at':fr.map some=ix.map fun i=>N[i]?
 frk:∀y∈fr,scope.names.lookup y=some .free∧(sc.names.lookup y=some .cell∨sc.names.lookup y=some .free)
 nd:(x::fr).Nodup
theorem zeX{env:Env}{scope:Scope}{y:Str}(h:scope.names.lookup y=some .cell∨scope.names.lookup y=some .free):(relabel scope env).names.lookup y=some .cell∨(relabel scope env).names.lookup y=some .free:=by
 rcases h with h | h
 ·left
  rw[zag,zaO (zfN env) h,zhd env y .cell (by decide)]
 ·exact zbC h
theorem CompScope.under{env:Env}{sc:Scope}{N:List Str}{x:Str}{fr:List Str}{ix:List Nat}{scope:Scope}(S:CompScope sc N x fr ix scope):CompScope (relabel sc env) N x fr ix scope :=
 ⟨S.kind,S.nocell,S.lcl,S.lx,fun y hy hf=>zeX (S.free y hy hf),S.at',fun y hy=>⟨(S.frk y hy).1,zeX (S.frk y hy).2⟩,S.nd⟩
theorem zgq{env:Env}{scope:Scope}{x y:Str}(hc:∀z∈scope.names,z.2=.cell→z.1=x)(h:(relabel scope env).names.lookup y=some .cell∨(relabel scope env).names.lookup y=some .free):(y,NameKind.free)∈scope.names∨y=x:=by
 rw[zag] at h
 have go:∀k,(k=.cell∨k=.free)→(scope.names.map (rl env)).lookup y=some k→(y,NameKind.free)∈scope.names∨y=x:=fun k hk q=>by
  obtain⟨k0,m,e⟩:=zbs (zfN env) q
  by_cases hf:k0=.free
  ·rw[hf] at m;exact .inl m
  ·rw[zhd env y k0 hf] at e
   rcases hk with z | z
   ·exact .inr (hc _ m (e.trans z))
   ·exact absurd (e.trans z) hf
 rcases h with h | h
 ·exact go _ (.inl rfl) h
 ·exact go _ (.inr rfl) h
theorem zau{x y:Str}{cx c:Addr}{cl:List (Str×Addr)}(h:((x,cx)::cl).lookup y=some c):(y=x∧c=cx)∨(y≠x∧cl.lookup y=some c):=by
 rw[lookup_cons] at h
 by_cases hy:y=x
 ·have hb:(y==x)=true:=by simp[hy]
  rw[hb] at h
  exact .inl ⟨hy,(Option.some.inj h).symm⟩
 ·rw[beq_eq_false_iff_ne.mpr hy] at h
  exact .inr ⟨hy,h⟩
theorem look_ne{x y:Str}{cx:Addr}{cl:List (Str×Addr)}(hy:y≠x):((x,cx)::cl).lookup y=cl.lookup y:=by
 rw[lookup_cons,beq_eq_false_iff_ne.mpr hy]
theorem look_eq{x:Str}{cx:Addr}{cl:List (Str×Addr)}:((x,cx)::cl).lookup x=some cx:=by
 rw[lookup_cons,beq_self_eq_true]
section
variable {X:Cx}{pins:List (Addr×Obj)}{σ:St}{H:Hp}{s:Shared}{x:Str}{fr:List Str}{ix:List Nat}{scope:Scope}{cl:List (Str×Addr)}{fp:List Addr}{C D cx:Addr}
theorem ziR(I:Inv X pins σ H s)(h1:∀y c,cl.lookup y=some c→X.env.cells.lookup y=some c){y:Str}{c:Addr}(e:cl.lookup y=some c):c<s.heap.objs.size:=by
 obtain⟨v,o,ho,_⟩:=I.cell y c (h1 y c e)
 exact lt_size ho
theorem blkC_ok(S:CompScopeC X.env.scope X.N x fr ix scope)(I:Inv X pins σ H s)(hf:∀b∈fp,zah X pins H b)(hfo:∀b∈fp,b<s.heap.objs.size)(hC:s.heap.objs.size≤C)(hcx:s.heap.objs.size≤cx)
 (h1:∀y c,cl.lookup y=some c→X.env.cells.lookup y=some c) (h2:∀y,(y,NameKind.free)∈scope.names→∃c,cl.lookup y=some c):(zbm X x (x::fr) scope cl cx C s H fp).Ok where
 mod:=I.ok.mod
 kind:=S.kind
 glob:=I.ok.glob
 blt:=I.ok.blt
 above:=hC
 inj:=fun y z c a b=>by
  rcases zau a with⟨a1,a2⟩|⟨a1,a2⟩
  ·rcases zau b with⟨b1,b2⟩|⟨b1,b2⟩
   ·exact a1.trans b1.symm
   ·exact absurd (ziR I h1 b2) (by rw[a2];exact Nat.not_lt.mpr hcx)
  ·rcases zau b with⟨b1,b2⟩|⟨b1,b2⟩
   ·exact absurd (ziR I h1 a2) (by rw[b2];exact Nat.not_lt.mpr hcx)
   ·exact I.ok.inj y z c (h1 y c a2) (h1 z c b2)
 has:=fun y hy=>by
  by_cases e:y=x
  ·subst e;exact⟨cx,look_eq⟩
  ·rcases zgq (env:=X.env) (scope:=scope) S.cells hy with z | z
   ·obtain⟨c,hc⟩:=h2 y z
    exact⟨c,(look_ne e).trans hc⟩
   ·exact absurd z e
 cab:=fun y c h e=>by
  have hy:y=x:=by simpa [zbm] using h
  rcases zau e with⟨_,z⟩|⟨z,_⟩
  ·rw[z];exact hcx
  ·exact absurd hy z
 hd:=I.ok.hd
 frames:=I.ok.frames
 stk:=.inl rfl
 exf:=fun b hb=>⟨fun z=>absurd (hfo b hb) (by rw[z];exact Nat.not_lt.mpr hC),fun y c e=>by
  rcases zau e with⟨_,z⟩|⟨_,z⟩
  ·exact fun q=>absurd (hfo b hb) (by rw[←q,z];exact Nat.not_lt.mpr hcx)
  ·exact(hf b hb).2.2.2.2.1 y c (h1 y c z)⟩
 bs:=I.bs
 bsz:=le_trans I.ok.bsz I.sz
 noex:=fun b o e hb=>by
  rcases (hf b hb).2.2.2.1 with z | z
  ·exact I.ok.noex b o e z
  ·exact absurd (lt_of_lt_of_le (lt_size e) (le_trans I.ok.bsz z)) (lt_irrefl _)
 exfs:=fun b hb z=>by
  rcases List.mem_cons.mp (I.stkSub b z)with e | e
  ·exact(hf b hb).2.1 e
  ·exact(hf b hb).2.2.1 e
 funs:=I.stack
 frf:=I.stkFree
theorem CompScopeC.len(S:CompScopeC X.env.scope X.N x fr ix scope):fr.length=ix.length:=by have:=congrArg List.length S.at';simpa using this
theorem blkC_inv{s':Shared}{pn:List (Addr×Obj)}{m:Str→Option Value}(S:CompScopeC X.env.scope X.N x fr ix scope)(I:Inv X pins σ H s)(hf:∀b∈fp,zah X pins H b)(hfo:∀b∈fp,b<s.heap.objs.size)(hC:s.heap.objs.size≤C)(hcx:s.heap.objs.size≤cx)
 (h1:∀y c,cl.lookup y=some c→X.env.cells.lookup y=some c) (h2:∀y,(y,NameKind.free)∈scope.names→∃c,cl.lookup y=some c)
 (ho:s'.os=s.os) (hg:s'.gens=s.gens) (k:∀b o,s.heap.get? b=some o→s'.heap.get? b=some o) (hn:s'.heap.Ns C m) (hcell:s'.heap.IsCell cx none)
 (hp:∀p∈pn,s'.heap.get? p.1=some p.2∧s.heap.objs.size≤p.1∧p.1≠C∧∀v,p.2.data ≠ .cell v) :
 Inv (zbm X x (x::fr) scope cl cx C s H fp) pn (none::cap ix σ) H s':=by
 obtain⟨mX,hnX,hlX⟩:=I.loc
 refine⟨blkC_ok S I hf hfo hC hcx h1 h2,ho,by rw[hg];exact I.bare,Un.kept k,⟨m,hn,fun i y v e1 e2 e3=>?_⟩,fun y c e=>?_,I.hok.fresh hC,fun y c e=>?_,fun p hp'=>?_,I.hok.kept k,by
  show(none::cap ix σ).length=(x::fr).length
  simp[zg0,S.len]⟩
 ·cases i with
  | zero=>cases e2
  | succ j =>
    have e1':fr[j]? = some y:=e1
    have e2':(cap ix σ)[j]? = some (some v):=e2
    have hmem:=mem_of_getElem? e1'
    have hyx:y≠x:=fun z=>(List.nodup_cons.mp S.nd).1 (by rw[←z];exact hmem)
    obtain⟨f1,f2⟩:=S.frk y hmem
    unfold cap at e2'
    rw[getElem?_map] at e2'
    cases ei:ix[j]? with
    | none=>rw[ei] at e2';cases e2'
    | some i =>
      rw[ei] at e2'
      have e3':(σ[i]?).join=some v:=Option.some.inj e2'
      have e4:σ[i]? = some (some v):=by
       cases q:σ[i]? with
       | none=>rw[q] at e3';cases e3'
       | some w=>rw[q] at e3';have:w=some v:=e3';rw[this]
      have e5:X.N[i]? = some y:=by
       have:=congrArg (fun l=>l[j]?) S.at'
       simp only[getElem?_map,e1',ei] at this
       simpa using this.symm
      have vis:Vis X.env.scope y:=by
       rcases f2 with z | z
       ·exact .inr (.inl z)
       ·exact .inr (.inr z)
      obtain⟨u,r,l⟩:=hlX i y v e5 e4 vis
      refine⟨u,r,.inr ⟨zbC f1,?_⟩⟩
      rcases l with⟨z,_⟩|⟨_,c,ec,hc⟩
      ·rcases f2 with q | q
       ·have q':=(show X.env.scope.names.lookup y=some .local from z).symm.trans q;cases q'
       ·have q':=(show X.env.scope.names.lookup y=some .local from z).symm.trans q;cases q'
      ·obtain⟨c',hc'⟩:=h2 y (PySem.mem_of_lookup f1)
       have:c'=c:=by have:=h1 y c' hc';rw[ec] at this;exact(Option.some.inj this).symm
       subst this
       refine⟨c',(look_ne hyx).trans hc',?_⟩
       obtain⟨o,ho',hd⟩:=hc
       exact⟨o,k _ _ ho',hd⟩
 ·rcases zau e with⟨_,z⟩|⟨_,z⟩
  ·subst z;exact⟨none,hcell⟩
  ·obtain⟨v,o,ho',hd⟩:=I.cell y c (h1 y c z)
   exact⟨v,o,k _ _ ho',hd⟩
 ·rcases zau e with⟨_,z⟩|⟨_,z⟩
  ·subst z;exact I.hok.fresh hcx
  ·exact I.freeC y c (h1 y c z)
 ·have hp'':p∈pn:=by simpa [zbm] using hp'
  obtain⟨q1,q2,q3,q4⟩:=hp p hp''
  refine⟨q1,I.hok.fresh q2,q3,fun z=>?_,q4⟩
  obtain⟨_,o,ho',_⟩:=I.stack.mem z
  exact absurd (lt_of_lt_of_le (lt_size ho') q2) (lt_irrefl _)
end
theorem newEnv_one{M:Model}{A:Around}{E:Value→Shared→Prop}{s:Shared}{sc:Scope}{N:List Str}{x:Str}{fr:List Str}{ix:List Nat}{scope:Scope}{globals:Addr}{cl:List (Str×Addr)}{qual:Str}{outer:Env}{Q:Env→Shared→Prop}(S:CompScopeC sc N x fr ix scope)
 (h:Q (newEnv scope s.heap.objs.size globals ((x,s.heap.objs.size+1)::cl) qual none .none (some outer) builtinsNs) { s with heap:=(s.heap.push { cls:=.type "dict",data:=.dict #[] }).push { cls:=.type "cell",data:=.cell none } }) :
 wpAny M A (newFunctionEnv scope globals cl [] qual none .none (some outer)) Q E s:=by
 simp only[newFunctionEnv,Option.isSome_some,if_true]
 refine wpAny_bind (wpAny_alloc ?_)
 refine wpAny_bind (wpAny_layCells _ (fun name kind cells=>by cases hkc:kind==NameKind.cell <;> simp[hkc]) _ _ _ _ ?_)
 rw[S.one,S.push,show({ s with heap:=s.heap.push { cls:=.type "dict",data:=.dict #[] } }:Shared).heap.objs.size=s.heap.objs.size+1 from size_push ..]
 simp only[forIn_nil]
 exact wpAny_bind (wpAny_pure (wpAny_pure h))
section
variable {X:Cx}{x:Str}{fr:List Str}{ix:List Nat}{scope:Scope}{elt iter:Expr}{ifs:List Expr}{px pos:Pos}{wi:TI}{tc:TT}{te:TE}
theorem comp_runC{use:Option (Value→Sem Unit)}{Q:Value→Shared→Prop}{pins:List (Addr×Obj)}{s2:Shared}{σ:St}{H2:Hp}{it:Addr}{fp:List Addr}{tn:Nat→Heap→Prop}{J:It}{cl:List (Str×Addr)}(S:CompScopeC X.env.scope X.N x fr ix scope)(hc:X.calm=true)
 (hif:∀cl cx C s2 H2 fp,PIf (zbm X x (x::fr) scope cl cx C s2 H2 fp) ifs tc) (he:∀cl cx C s2 H2 fp,PE (zbm X x (x::fr) scope cl cx C s2 H2 fp) elt te)
 (h1:∀y c,cl.lookup y=some c→X.env.cells.lookup y=some c) (h2:∀y,(y,NameKind.free)∈scope.names→∃c,cl.lookup y=some c)
 (I2:Inv X pins σ H2 s2) (T:Turn X.prog X.w X.K (.Name x px) J fp it tn) (st2:tn 0 s2.heap) (f2:∀b∈fp,zah X pins H2 b) {fin:List V→Hp→Prop} (wc:zcb J (cap ix σ) tc te H2 fin)
 (hQ:∀(D C:Addr)(ys:List V)(H':Hp)(s':Shared)(m:Str→Option Value),Inv X pins σ (upd H' D (.lst ys)) s'→H' D=none→s'.heap.Ns C m→D≠C→s2.heap.objs.size≤C→H' C=none→fin ys H' →
   compPost (model X.prog X.w) X.A X.xe use Q (.ref D) C (.ok .next) s') :
 wpAny (model X.prog X.w) X.A (newList []) (fun acc s₃=>wpAny (model X.prog X.w) X.A (newFunctionEnv scope X.env.globals cl [] X.env.qual none .none (some X.env)) (fun cenv s₄ =>
  codeAny (model X.prog X.w) X.A (.compStart (.ListComp elt [⟨.Name x px,iter,ifs,0⟩] scope pos) 0 (.ref it) acc { cenv with scope:=relabel scope X.env }) (compPost (model X.prog X.w) X.A X.xe use Q acc cenv.locals) s₄) X.xe s₃) X.xe s2:=by
 have hfo:∀b∈fp,b<s2.heap.objs.size:=fun b hb=>by
  obtain⟨o,e,_⟩:=T.obj 0 _ st2 b hb
  exact lt_size e
 refine wpAny_newObj_type (newEnv_one S ?_)
 generalize hHp:s2.heap.push { cls:=.type "list",dict:=none,data:=.seq ([]:List Value).toArray }=Hp2
 have hCs:Hp2.objs.size=s2.heap.objs.size+1:=by rw[←hHp,size_push]
 have hDC:s2.heap.objs.size≠Hp2.objs.size:=by rw[hCs];exact ne_of_lt (lt_succ_self _)
 have hCle:s2.heap.objs.size≤Hp2.objs.size:=by rw[hCs];exact le_succ _
 have hcx:s2.heap.objs.size≤Hp2.objs.size+1:=le_trans hCle (le_succ _)
 have hDcx:s2.heap.objs.size≠Hp2.objs.size+1:=by rw[hCs];exact ne_of_lt (lt_succ_of_lt (lt_succ_self _))
 have hcs:(Hp2.push { cls:=.type "dict",data:=.dict #[] }).objs.size=Hp2.objs.size+1:=size_push ..
 have hcell:((Hp2.push { cls:=.type "dict",data:=.dict #[] }).push { cls:=.type "cell",data:=.cell none }).IsCell (Hp2.objs.size+1) none:=⟨_,by rw[←hcs];exact get?_push_size _ rfl,rfl⟩
 have hns₁:((Hp2.push { cls:=.type "dict",data:=.dict #[] }).push { cls:=.type "cell",data:=.cell none }).Ns Hp2.objs.size fun _=>none:=(Heap.Ns.new Hp2 (.type "dict")).push _
 have old:∀b o,s2.heap.get? b=some o→((Hp2.push { cls:=.type "dict",data:=.dict #[] }).push { cls:=.type "cell",data:=.cell none }).get? b=some o:=fun b o e=>get?_push_of_some _ (get?_push_of_some _ (hHp ▸ get?_push_of_some _ e))
 have hacc:((Hp2.push { cls:=.type "dict",data:=.dict #[] }).push { cls:=.type "cell",data:=.cell none }).get? s2.heap.objs.size=some { cls:=.type "list",data:=.seq ([]:List Value).toArray 0 }:=get?_push_of_some _ (get?_push_of_some _ (hHp ▸ get?_push_size _ rfl))
 generalize hcxe:Hp2.objs.size+1=cx at hcell hcx hDcx ⊢
 generalize hh1:(Hp2.push { cls:=.type "dict",data:=.dict #[] }).push { cls:=.type "cell",data:=.cell none }=h₁ at hcell hns₁ old hacc ⊢
 have st1:tn 0 h₁:=T.keep 0 _ _ st2 fun b _ o e=>old b o e
 have fpD:∀b∈fp,b≠s2.heap.objs.size:=fun b hb=>ne_of_lt (hfo b hb)
 generalize hD:s2.heap.objs.size=D at hacc hDC hDcx fpD ⊢
 have hDle:s2.heap.objs.size≤D:=le_of_eq hD
 generalize hC:Hp2.objs.size=C at hns₁ hDC hCle ⊢
 have oldD:∀b o,s2.heap.get? b=some o→b≠D:=fun b o e z=>absurd (lt_size e) (by rw[z,←hD];exact lt_irrefl _)
 obtain⟨W,⟨m0,w0⟩,turn⟩:=wc
 have loop:∀s₃:Shared,s₃={ s2 with heap:=h₁ } →
  codeAny (model X.prog X.w) X.A (.compLoop (.ListComp elt [⟨.Name x px,iter,ifs,0⟩] scope pos) 0 (.ref it) (.ref D) (compEnvC scope ((x,cx)::cl) C X.env))
   (compPost (model X.prog X.w) X.A X.xe use Q (.ref D) C) s₃:=by
  rintro s₃ rfl
  have I0:Inv (zbm X x (x::fr) scope cl cx C s2 H2 fp) [(D,{ cls:=.type "list",data:=.seq ([]:List Value).toArray 0 })] (none::cap ix σ) H2 { s2 with heap:=h₁ } :=
   blkC_inv S I2 f2 hfo hCle hcx h1 h2 rfl rfl old hns₁ hcell (fun p hp=>by
    have e:p=(D,{ cls:=.type "list",data:=.seq ([]:List Value).toArray 0 }):=by simpa using hp
    subst e
    exact⟨hacc,hDle,hDC,fun v z=>by cases z⟩)
  have stat:∀{its:Obj}{H':Hp},(∀b∈fp,H' b=none)→∀b∈fp,zah (zbm X x (x::fr) scope cl cx C s2 H2 fp) [(D,its)] H' b:=fun {its H'} hn b hb=>by
   refine⟨hn b hb,fun z=>?_,fun z=>(I0.ok.exfs b hb z),.inl hb,fun y c e=>(I0.ok.exf b hb).2 y c e,fun p hp z=>?_⟩
   ·exact(I0.ok.exf b hb).1 z
   ·have e:p=(D,its):=by simpa [zbm] using hp
    subst e
    exact fpD b hb (Eq.symm z)
  refine zcA (env:=compEnvC scope ((x,cx)::cl) C X.env)
   (fun n s'=>∃i ys its k v0 H',zF ys its∧Inv (zbm X x (x::fr) scope cl cx C s2 H2 fp) [(D,{ cls:=.type "list",data:=.seq its.toArray k })] (v0::cap ix σ) H' s'∧tn i s'.heap∧(∀b∈fp,H' b=none)∧W i n ys H') ?_ m0
   ⟨0,[],[],0,none,H2,.nil,I0,st1,fun b hb=>(f2 b hb).1,w0⟩
  rintro n s3 ⟨i,ys,its,k,v0,H3,rv,I3,st3,fr3,w3⟩
  rcases turn i n ys H3 w3 with⟨stop,hz,hfin⟩|⟨go,hz,N,hN,step⟩
  ·refine thn (T.done (zbm X x (x::fr) scope cl cx C s2 H2 fp) rfl rfl rfl hc i _ s3 _ H3 _ I3 (stat fr3) st3 stop) fun r s4 ⟨hr,I4⟩=>?_
   subst hr
   have pD:=I4.pin (D,{ cls:=.type "list",data:=.seq its.toArray k }) (by simp[zbm])
   obtain⟨mC,hnC,_⟩:=I4.loc
   have hH3D:H3 D=none:=pD.2.1
   have hok':HOk X.prog X.w (upd H3 D (.lst ys)) s4.heap:=fun b u e=>by
    by_cases hb:b=D
    ·subst hb
     rw[ze] at e;cases e
     exact⟨hz,its,k,rv,pD.1⟩
    ·rw[zl hb] at e
     exact(I4.hok b u e).stay (fun c v _ q=>q) (fun c q=>by rw[zl (zr q hH3D)];exact q) fun c xs q=>by rw[zl (zr q hH3D)];exact q
   have b4:Un (frs X.stack) fp H2 H3 s2.heap s4.heap:=I4.base
   have un:Un (frs X.stack) fp H2 (upd H3 D (.lst ys)) s2.heap s4.heap :=
    ⟨b4.keep,b4.slot,fun b o q n hx=>by
     rw[zl (oldD b o q)];exact b4.free b o q n hx,b4.there,fun b xs q=>by rw[zl (zr (b4.tups b xs q) hH3D)];exact b4.tups b xs q,
     fun b o u q=>by rw[zl (zr (b4.frzs b o u q) hH3D)];exact b4.frzs b o u q,fun b ps q=>by
      obtain⟨more,e⟩:=b4.tbls b ps q
      exact⟨more,by rw[zl (zr e hH3D)];exact e⟩⟩
   have I5:Inv X pins σ (upd H3 D (.lst ys)) s4:=I2.call' (ch:=fp) I4.os un hok' I4.bare fun b hb=>by
    obtain⟨g0,g1,g2,g3,g4,g5⟩:=f2 b hb
    exact⟨g3,g1,g4,g5⟩
   exact hQ D C ys H3 s4 mC I5 hH3D hnC hDC hCle I4.free hfin
  ·refine thn (T.item (zbm X x (x::fr) scope cl cx C s2 H2 fp) rfl rfl rfl hc i _ s3 _ H3 _ I3 (stat fr3) st3 go) fun r s4 ⟨u,hr,h4⟩=>?_
   subst hr
   refine thn h4 fun _ s5 ⟨y,H5,I5,r5,y5,st5,fr5⟩=>?_
   have I5':=I5.pinned (stat fr5) (T.obj _ _ st5)
   have pg:PG (zbm X x (x::fr) scope cl cx C s2 H2 fp) (.Name x px) (ze5 0):=zV S.nd rfl (.inr (by show(relabel scope X.env).names.lookup x=some .cell;rw[zag,zaO (zfN X.env) S.lx,zhd X.env x .cell (by decide)])) (.inl (by simp[zbm]))
   refine thn (pg _ s5 _ H5 y u (fun σ6 H6=>σ6=some y::cap ix σ∧H6=H5) I5' r5 ⟨rfl,rfl⟩) fun _ s6 ⟨σ6,H6,I6,e6,e6'⟩=>?_
   subst e6 e6'
   refine thn (hif cl cx C s2 H2 fp _ s6 _ _ _ I6 (step y _ y5)) fun b s7 ⟨H7,I7,q7⟩=>?_
   have again:∀{s8:Shared}{H8:Hp}{its':List Value}{k':Nat}{ys':List V},zF ys' its'→Inv (zbm X x (x::fr) scope cl cx C s2 H2 fp) [(D,{ cls:=.type "list",data:=.seq its'.toArray k' })] (some y::cap ix σ) H8 s8→(∀b∈fp,∀o,s5.heap.get? b=some o→s8.heap.get? b=some o)→(∀b∈fp,H8 b=none)→N ys' H8 →
    ∃m,m<n∧∃i ys its k v0 H',zF ys its∧Inv (zbm X x (x::fr) scope cl cx C s2 H2 fp) [(D,{ cls:=.type "list",data:=.seq its.toArray k })] (v0::cap ix σ) H' s8∧tn i s8.heap∧(∀b∈fp,H' b=none)∧W i m ys H' :=
    fun {s8 H8 its' k' ys'} rv8 I8 kp fr8 nn=>let ⟨m',hm,w8⟩:=hN ys' H8 nn;⟨m',hm,i+1,ys',its',k',some y,H8,rv8,I8,T.keep _ _ _ st5 kp,fr8,w8⟩
   cases b with
   | false =>
     rw[if_neg Bool.false_ne_true] at q7 ⊢
     refine again rv I7.unpinned (fun b hb o e=>(I7.pin (b,o) (by simp[zbm];exact .inr (yB hb e))).1) (fun b hb=>?_) q7
     obtain⟨o,e,d⟩:=T.obj _ _ st5 b hb
     exact(I7.pin (b,o) (by simp[zbm];exact .inr (yB hb e))).2.1
   | true =>
     rw[if_pos rfl] at q7 ⊢
     refine thn (he cl cx C s2 H2 fp _ s7 _ _ _ I7 q7) fun v s8 ⟨z,H8,I8,r8,q8⟩=>?_
     have pD:=I8.pin (D,{ cls:=.type "list",data:=.seq its.toArray k }) (by simp[zbm])
     have hvl:ys.length=its.length:=rv.length
     refine append_at (hsz:=by show its.toArray.size≤sizeLine;rw[size_toArray];omega) pD.1 fun h₉ hs₉ hD₉=>?_
     have eo:({ cls:=.type "list",data:=.seq (its.toArray.push v) (k+1) }:Obj)={ cls:=.type "list",data:=.seq (its++[v]).toArray (k+1) }:=by rw[push_toArray]
     rw[eo] at hD₉
     have pn8:∀b∈fp,∀o,s5.heap.get? b=some o→s8.heap.get? b=some o∧H8 b=none:=fun b hb o e=>by
      have q:=I8.pin (b,o) (by simp[zbm];exact .inr (yB hb e))
      exact⟨q.1,q.2.1⟩
     have J8:=I8.unpinned.pins_of (pins':=[]) (fun p hp=>by cases hp)
     have f2D:zah (zbm X x (x::fr) scope cl cx C s2 H2 fp) [] H8 D:=⟨pD.2.1,pD.2.2.1,pD.2.2.2.1,.inr hDle,fun y c e z=>by
      rcases zau e with⟨_,q⟩|⟨_,q⟩
      ·exact hDcx (z.symm.trans q)
      ·obtain⟨v,o,ho,_⟩:=I2.cell y c (h1 y c q)
       exact oldD c o ho z,fun p hp=>by cases hp⟩
     have I9:Inv (zbm X x (x::fr) scope cl cx C s2 H2 fp) [] (some y::cap ix σ) H8 { s8 with heap:=h₉ }:=J8.turned (t':=s8.toks) (it:=D) (fun b o hb e=>(hs₉.2 b hb).trans e) f2D.1 f2D.2.1 f2D.2.2.2.1 f2D.2.2.2.2.1 f2D.2.2.2.2.2
     refine again (its':=its++[v]) (k':=k+1) (ys':=ys++[z]) (rv.append (.cons r8 .nil)) (I9.pins_of fun p hp=>?_) (fun b hb o e=>(hs₉.2 b (fpD b hb)).trans (pn8 b hb o e).1) (fun b hb=>?_) q8
     ·have e:p=(D,{ cls:=.type "list",data:=.seq (its++[v]).toArray (k+1) }):=by simpa using hp
      subst e
      exact⟨hD₉,f2D.1,f2D.2.1,f2D.2.2.1,fun v z=>by cases z⟩
     ·obtain⟨o,e,d⟩:=T.obj _ _ st5 b hb
      exact(pn8 b hb o e).2
 exact codeAny_compStart_list (loop _ rfl) (T.self X.A 0 _ _ _ st1 (loop _ rfl))
theorem pe_compC(S:CompScopeC X.env.scope X.N x fr ix scope)(hc:X.calm=true)(hi:PI X (.Name x px) iter wi)(hif:∀cl cx C s2 H2 fp,PIf (zbm X x (x::fr) scope cl cx C s2 H2 fp) ifs tc)(he:∀cl cx C s2 H2 fp,PE (zbm X x (x::fr) scope cl cx C s2 H2 fp) elt te)
 (hs:∀x,foldedSetIterable iter X.env x=pure x:=by intro _;rfl):PE X (.ListComp elt [⟨.Name x px,iter,ifs,0⟩] scope pos) (tComp ix wi tc te):=by
 intro pins s σ H Q I h
 obtain⟨cl,ecl,h1,h2⟩:=zbS (env:=X.env) (scope:=scope) fun y hy hf=>I.ok.has y.1 (S.free y hy hf)
 rw[eval_ListComp]
 refine wpAny_comprehension_free (use:=none) rfl hs ecl S.kind S.lcl (thn (hi pins s σ H _ I h) fun xv s1 q1=>thn q1 fun itv s2 q2=>?_)
 obtain⟨it,fp,tn,J,H2,rfl,I2,T,st2,f2,wc⟩:=q2
 refine comp_runC S hc hif he h1 h2 I2 T st2 f2 wc fun D C ys H' s' m I' hD hn hDC hC hHC fin=>?_
 refine⟨m,hn,fun h' sb=>⟨.ref D,upd H' D (.lst ys),?_,rfl,fin D hD⟩⟩
 have hcf:zah X pins (upd H' D (.lst ys)) C:=by
  have z:=I2.fpOk (H':=upd H' D (.lst ys)) hC (by rw[zl (Ne.symm hDC)];exact hHC)
  exact z
 exact I'.turned (t':=s'.toks) (it:=C) (fun b o hb e=>(sb.2 b hb).trans e) hcf.1 hcf.2.1 hcf.2.2.2.1 hcf.2.2.2.2.1 hcf.2.2.2.2.2
end
section
open PySem.SeqAt
open PySem.AutoSeq1 (wpAny_loadPart')
open PySem.MeetsSeq PySem.MeetsSeq2 PySem.MeetsSeq3
theorem lt_loop(l b:Addr)(items items2:Array Value)(n n2:Nat)(dd dd2:Option Addr)(sl sl2:Array (Option Value))(ns ms:List Int)(hi:IntsAre items.toList ns)(hj:IntsAre items2.toList ms)(k:Nat):
 ∀i:Nat,ns.length-i=k→i≤ns.length→i≤ms.length→Meets (Builtin.«list.__eq__.loop» ⟨[.ref l,.ref b,rawInt i,rawInt 0],[]⟩)
  (fun A R s=>s.heap.get? l=some { cls:=.type "list",dict:=dd,data:=.seq items n,slots:=sl }∧s.heap.get? b=some { cls:=.type "list",dict:=dd2,data:=.seq items2 n2,slots:=sl2 } ∧
    R (.ok (.ret (.bool (HT.lexLt (ns.drop i) (ms.drop i))))) s):=by
 have z1:items.size=ns.length:=by rw[←hi.length];simp
 have z2:items2.size=ms.length:=by rw[←hj.length];simp
 have stop:∀i,(i=ns.length∨i=ms.length)→i≤ns.length→i≤ms.length→HT.lexLt (ns.drop i) (ms.drop i)=decide (items.size<items2.size):=fun i h h1 h2=>by
  rw[z1,z2]
  rcases Nat.lt_or_ge i ns.length with c1 | c1
  ·have e:i=ms.length:=h.elim (fun z=>by omega) id
   rw[drop_of_length_le (le_of_eq e.symm),drop_eq_getElem_cons c1,HT.lexLt_cons_nil]
   exact(decide_eq_false (by omega)).symm
  ·rw[drop_of_length_le c1]
   rcases Nat.lt_or_ge i ms.length with c2 | c2
   ·rw[drop_eq_getElem_cons c2,HT.lexLt_nil_cons]
    exact(decide_eq_true (by omega)).symm
   ·rw[drop_of_length_le c2,HT.lexLt_nil_nil]
    exact(decide_eq_false (by omega)).symm
 induction k with
 | zero =>
   intro i hk h1 h2 prog w A R s h
   obtain⟨hp,g,d,tk,os⟩:=s;obtain⟨hl,hb,h⟩:=h
   rw[stop i (.inl (by omega)) h1 h2] at h
   wp_walk using wpAny_loadPart' hl,wpAny_loadPart' hb
   have hi1:items[((i:Nat):Int).toNat]? = none:=by simp;omega
   rw[hi1]
   wp_walk using wpAny_loadPart' hl,wpAny_loadPart' hb
   exact h
 | succ k ih =>
   intro i hk h1 h2 prog w A R s h
   obtain⟨hp,g,d,tk,os⟩:=s;obtain⟨hl,hb,h⟩:=h
   have hlt:i<items.size:=by omega
   have hi1:items[((i:Nat):Int).toNat]? = some items[i]:=by simp[hlt]
   wp_walk using wpAny_loadPart' hl,wpAny_loadPart' hb
   rw[hi1]
   by_cases hm:i<ms.length
   ·have hlt2:i<items2.size:=by omega
    have hi2:items2[((i:Nat):Int).toNat]? = some items2[i]:=by simp[hlt2]
    have hc:((i:Int)+1)=((i+1:Nat):Int):=by push_cast;rfl
    rw[hi2]
    obtain⟨t,et⟩:=IntsAre.int_at hi i items[i] (by simp[hlt])
    obtain⟨u,eu⟩:=IntsAre.int_at hj i items2[i] (by simp[hlt2])
    have hn':i<ns.length:=by omega
    have en:ns.getD i 0=ns[i]:=by rw[getD_eq_getElem?_getD,getElem?_eq_getElem hn'];rfl
    have em:ms.getD i 0=ms[i]:=by rw[getD_eq_getElem?_getD,getElem?_eq_getElem hm];rfl
    rw[en] at et
    rw[em] at eu
    rw[drop_eq_getElem_cons hn',drop_eq_getElem_cons hm,HT.lexLt_cons] at h
    have heq:EqAt A.in1 ⟨hp,g,d,tk,os⟩ items[i] items2[i] (ns[i]==ms[i]):=by rw[et,eu];exact SeqAt.EqAt.int_int _ _ _ _
    refine wpAny_bind (heq prog w _ _ ?_)
    cases hb':(ns[i]==ms[i])with
    | true =>
      rw[if_pos (by simpa using hb')] at h
      wp_walk
      rw[hc]
      exact⟨plainId_quiet plain_eq_loop _,codeAny_builtin entry_eq_loop (by
       rw[Around.under_plainId plain_eq_loop _]
       exact ih (i+1) (by omega) (by omega) (by omega) prog w A R _ ⟨hl,hb,h⟩)⟩
    | false =>
      rw[if_neg (by simpa using hb')] at h
      wp_walk using wpAny_loadPart' hl,wpAny_loadPart' hb
      rw[hi1,hi2]
      have hri:=HT.rcLt_int A.in1 ⟨hp,g,d,tk,os⟩ ns[i] t ms[i] u prog w
      rw[et,eu]
      wp_walk using hri
      exact h
   ·have hi2:items2[((i:Nat):Int).toNat]? = none:=by simp;omega
    rw[hi2]
    rw[stop i (.inr (by omega)) h1 h2] at h
    wp_walk using wpAny_loadPart' hl,wpAny_loadPart' hb
    exact h
theorem zhK(l b:Addr)(items items2:Array Value)(n n2:Nat)(dd dd2:Option Addr)(sl sl2:Array (Option Value))(ns ms:List Int)(hi:IntsAre items.toList ns)(hj:IntsAre items2.toList ms):
 Meets (Builtin.«list.__lt__» ⟨[.ref l,.ref b],[]⟩)
  (fun _ R s=>s.heap.get? l=some { cls:=.type "list",dict:=dd,data:=.seq items n,slots:=sl }∧s.heap.get? b=some { cls:=.type "list",dict:=dd2,data:=.seq items2 n2,slots:=sl2 } ∧
    R (.ok (.ret (.bool (HT.lexLt ns ms)))) s):=by
 intro prog w A R s h
 obtain⟨hp,g,d,tk,os⟩:=s;obtain⟨hl,hb,h⟩:=h
 have f2:=AutoSeq1.sub_list_list
 wp_walk using wpAny_loadPart' hl,wpAny_loadPart' hb
 exact⟨plainId_quiet plain_eq_loop _,codeAny_builtin entry_eq_loop (by
  rw[Around.under_plainId plain_eq_loop _]
  exact lt_loop l b items items2 n n2 dd dd2 sl sl2 ns ms hi hj _ 0 rfl (zero_le _) (zero_le _) prog w A R _ ⟨hl,hb,h⟩)⟩
end
section
variable {X:Cx}
def rLtL(K:Frag):R2:=fun x y H Q=>∃a b ns ms,x=.ref a∧y=.ref b∧SqL K H a (ns.map V.int)∧SqL K H b (ms.map V.int)∧Q (.bl (HT.lexLt ns ms)) H
theorem op_lt_list(hu:X.A.units<cLine):OpR X (compareOp .Lt) (rLtL X.K):=by
 intro pins s σ H x y v u Q I rx ry h
 obtain⟨a,b,ns,ms,rfl,rfl,ha,hb,q⟩:=h
 cases rx
 cases ry
 obtain⟨its,r1,p1,z1⟩:=I.list ha
 obtain⟨its2,r2,p2,z2⟩:=I.list hb
 obtain⟨⟨cls,dd,data,sl⟩,n,e,c1,c2,c3⟩:=p1
 obtain⟨⟨cls2,dd2,data2,sl2⟩,n2,e2,d1,d2,d3⟩:=p2
 simp only at c1 c2 c3 d1 d2 d3
 subst c1 c2 c3 d1 d2 d3
 have i1:IntsAre its.toArray.toList ns:=za1 r1
 have i2:IntsAre its2.toArray.toList ms:=za1 r2
 exact richCompare_meets_room (op := .Lt) ⟨_,e,rfl⟩ ⟨_,e2,rfl⟩ PySem.F.slot_list_lt PySem.F.entry_list_lt (PySem.F.args_list_lt_2 _ _) (zhK a b its.toArray its2.toArray n n2 _ _ _ _ ns ms i1 i2)
  ⟨e,e2,show Value.bool (HT.lexLt ns ms)≠Value.notImplemented∧EP X pins σ Q (.bool (HT.lexLt ns ms)) s from⟨(fun x=>nomatch x),⟨.bl (HT.lexLt ns ms),H,I,rfl,q⟩⟩⟩ hu
theorem zid{K:Frag}(h:X.K=K)(hu:X.A.units<cLine):OpR X (compareOp .Lt) (rLtL K):=by subst h;exact op_lt_list hu
def rNeL(K:Frag):R2:=fun x y H Q=>∃a b xs ys,x=.ref a∧y=.ref b∧SqL K H a xs∧SqL K H b ys∧xs.all zaM=true∧ys.all zaM=true∧Q (.bl (!eqL xs ys)) H
theorem zaU(hu:X.A.units<cLine):OpR X (compareOp .NotEq) (rNeL X.K):=by
 intro pins s σ H x y v u Q I rx ry h
 obtain⟨a,b,xs,ys,rfl,rfl,ha,hb,fx,fy,q⟩:=h
 cases rx
 cases ry
 obtain⟨its,r1,p1,z1⟩:=I.list ha
 obtain⟨its2,r2,p2,z2⟩:=I.list hb
 have l1:=r1.length
 have l2:=r2.length
 by_cases hl:xs.length=ys.length
 ·refine SeqAt.RcNeAt.lists p1.isList p2.isList (by simp;omega) hu (eqAt_j r1 r2 fx fy) _ _ _ _ ⟨.bl (!eqL xs ys),H,I,?_,q⟩
  rw[size_toArray,←l1,zeI hl]
  rfl
 ·refine SeqAt.RcNeAt.lists_lengths p1.isList p2.isList (by simp;omega) hu _ _ _ _ ⟨.bl (!eqL xs ys),H,I,?_,q⟩
  rw[zhO hl]
  rfl
end
structure CanM (P:Program) (w:World) (K:Frag) (mg:Str→Option Value) (base:Heap) (k:Nat) (C:Addr) (m:Str) (ps:List Str) (sp:Sp):Prop where
 ex:∃f fd,FnOk P w K mg base CX0 k f fd ps sp∧Meth K C m f∧zaS K fd ps []
structure CanMX (P:Program) (w:World) (K:Frag) (mg:Str→Option Value) (base:Heap) (k:Nat) (C:Addr) (m:Str) (ps:List Str) (sp:Sp):Prop where
 ex:∃f fd,FnOk P w K mg base (CX1 P w) k f fd ps sp∧Meth K C m f∧zaS K fd ps []
def tMethX(C:Addr)(m:Str)(W:XW)(sp:Sp)(ta:TE)(t:TA):TE:=fun σ H Q=>ta σ H fun x H1=>∃a dx fs,x=.ref a∧H1 a=some (.ins C dx fs)∧fs.lookup m=none∧t σ H1 fun vs H2=>sp (.ref a::vs) H2 Q fun cls _ H'=>W σ cls H'
section
variable {X:Cx}{k:Nat}{C:Addr}{m:Str}{ps:List Str}{sp:Sp}{apos pos:Pos}{o e:Expr}{es:List Expr}{ta:TE}{t:TA}{W:XW}{pl:Sem Bool}
theorem wH(M:CanMX X.prog X.w X.K X.mg X.base k C m ps sp)(c:Cls X.K C)(fl:Fl X W)(hr:Room k X.A)(he:PE X o ta)(ha:PA X (e::es) t)
 (hst:starEach (e::es) X.env=(false,eval e X.env)::starEach es X.env:=by rfl) (hpl:(backTo pos (starEach es X.env)).any (·.1)=false:=by rfl)
 (ht:eval (.Call (.Attribute o m apos) (e::es) [] pos) X.env=(do
   let ov ←eval o X.env
   standAt apos.atName
   let (f,first) ←holding [ov] (getMethod ov m pl)
   callWith pos f first (backTo pos (starEach (e::es) X.env)) (backToKw pos (keywordEach [] X.env))):=by rfl) :
 PE X (.Call (.Attribute o m apos) (e::es) [] pos) (tMethX C m W sp ta t):=by
 obtain⟨f,fd,F,hm,hb⟩:=M.ex
 intro pins s σ H Q I h
 refine methodCall_KW (pl:=pl) (thn (he pins s σ H _ I h) fun u s1 ⟨x,H1,I1,rx,a,dx,fs,ex,ea,l,q⟩=>?_) ht
 subst ex
 obtain rfl:u=Value.ref a:=rx
 refine zdV I1 ea c hm l ?_
 refine callWith_K (first:=[.ref a]) (h₀:=X.base) I.ok.mod.kin hm.kp (thn (ha pos pins s1 σ H1 _ I1 q) fun us s2 ⟨vs,H2,I2,r,q2⟩=>⟨I2.kIn,?_⟩) hst hpl
 exact zhG (us:=.ref a::us) (vs:=.ref a::vs) F hr hb fl I2 (.cons rfl r) q2
theorem zgD(M:CanMX X.prog X.w X.K X.mg X.base k C m ps sp)(c:Cls X.K C)(fl:Fl X W)(hr:Room k X.A)(he:PE X o ta)
 (ht:eval (.Call (.Attribute o m apos) [] [] pos) X.env=(do
   let ov ←eval o X.env
   standAt apos.atName
   let (f,first) ←holding [ov] (getMethod ov m pl)
   callWith pos f first (backTo pos (starEach [] X.env)) (backToKw pos (keywordEach [] X.env))):=by rfl) :
 PE X (.Call (.Attribute o m apos) [] [] pos) (tMethX C m W sp ta tNil):=by
 obtain⟨f,fd,F,hm,hb⟩:=M.ex
 intro pins s σ H Q I h
 refine methodCall_KW (pl:=pl) (thn (he pins s σ H _ I h) fun u s1 ⟨x,H1,I1,rx,a,dx,fs,ex,ea,l,q⟩=>?_) ht
 subst ex
 obtain rfl:u=Value.ref a:=rx
 refine zdV I1 ea c hm l ?_
 exact callWith_K0 (first:=[.ref a]) I1.kIn hm.kp (zhG (us:=[.ref a]) (vs:=[.ref a]) F hr hb fl I1 (.cons rfl .nil) q)
theorem zQ(M:CanM X.prog X.w X.K X.mg X.base k C m ps sp)(c:Cls X.K C)(hr:Room k X.A)(he:PE X o ta)
 (ht:eval (.Call (.Attribute o m apos) [] [] pos) X.env=(do
   let ov ←eval o X.env
   standAt apos.atName
   let (f,first) ←holding [ov] (getMethod ov m pl)
   callWith pos f first (backTo pos (starEach [] X.env)) (backToKw pos (keywordEach [] X.env))):=by rfl) :
 PE X (.Call (.Attribute o m apos) [] [] pos) (tMeth C m sp [] E0 ta tNil):=by
 obtain⟨f,fd,F,hm,hb⟩:=M.ex
 exact pe_meth0 (pl:=pl) he c hm F hr hb .nil pass0 ht
structure CanK (P:Program) (w:World) (K:Frag) (mg:Str→Option Value) (base:Heap) (k:Nat) (x:Str) (C:Addr) (ps:List Str) (sp:Sp):Prop where
 ex:∃f fd,FnOk P w K mg base (CX1 P w) k f fd ps sp∧mg x=some (.ref C)∧Mk K C f∧zaS K fd ps []
def tMakeX(C:Addr)(W:XW)(sp:Sp)(t:TA):TE:=fun σ H Q=>t σ H fun vs H1=>∀x dx,H1 x=none→H1 dx=none→dx≠x→sp (.ref x::vs) (upd (upd H1 dx (.own x)) x (.ins C dx [])) (fun v H2=>v=.non∧Q (.ref x) H2) fun cls _ H'=>W σ cls H'
theorem run_makeX{pins:List (Addr×Obj)}{σ:St}{H:Hp}{s:Shared}{Q:VK}{us:List Value}{vs:List V}{f:Addr}{fd:FuncData}(M:Mk X.K C f)(F:FnOk X.prog X.w X.K X.mg X.base (CX1 X.prog X.w) k f fd ps sp)(hr:Room (k+1) X.A)(hb:zaS X.K fd ps [])(fl:Fl X W)(I:Inv X pins σ H s)(r:zF vs us)
 (h:∀x dx,H x=none→H dx=none→dx≠x→sp (.ref x::vs) (upd (upd H dx (.own x)) x (.ins C dx [])) (fun v H2=>v=.non∧Q (.ref x) H2) fun cls _ H'=>W σ cls H') :
 wpAny (model X.prog X.w) X.A (call (.ref C) us) (EP X pins σ Q) X.xe s:=by
 have hq:=h (s.heap.objs.size+1) s.heap.objs.size (I.hok.fresh (le_succ _)) (I.hok.fresh (le_refl _)) (ne_of_lt (lt_succ_self _))
 have I2:=Inv.made (C:=C) I
 have r2:zF (V.ref (s.heap.objs.size+1)::vs) (Value.ref (s.heap.objs.size+1)::us):=.cons rfl r
 have hl:(Value.ref (s.heap.objs.size+1)::us).length=ps.length:=by
  have e:=r2.length
  rw[F.len _ _ _ _ hq] at e
  exact e.symm
 have hb':=hb { s with heap:=(s.heap.push emptyDict).push (instObj C s.heap.objs.size) } (Value.ref (s.heap.objs.size+1)::us) I2.kIn (by rw[append_nil];exact hl)
 rw[append_nil] at hb'
 refine wpAny_call (make_map (f:=f) I.kIn M.makes M.init (beq_iff_eq.mp M.fn) (codeAny_mono (F.run _ X.stack _ _ ⟨Value.ref (s.heap.objs.size+1)::us,[]⟩ (Value.ref (s.heap.objs.size+1)::us) _ _ _ (hr.make C us [])
  (I2.env0.make C us []) hb' r2 hq) fun r s' hq'=>?_))
 cases r with
 | error e =>
   obtain⟨y,cls,H',rfl,fly,w⟩:=hq'
   exact fl pins σ _ _ y cls H' s' I2 fly w
 | ok fl =>
   cases fl with
   | ret u =>
     obtain⟨v,H',I3,rv,ev,q3⟩:=I2.after hq'
     subst ev
     exact⟨rv,⟨V.ref (s.heap.objs.size+1),H',I3,rfl,q3⟩⟩
   | next=>exact False.elim hq'
   | brk=>exact False.elim hq'
   | cont=>exact False.elim hq'
theorem pe_makeX{x:Str}{p:Pos}(M:CanK X.prog X.w X.K X.mg X.base k x C ps sp)(fl:Fl X W)(hr:Room (k+1) X.A)(hg:Gl X x)(ha:PA X (e::es) t)(hdb:(x==("__debug__":Str))=false:=by decide)
 (he:starEach (e::es) X.env=(false,eval e X.env)::starEach es X.env:=by rfl) (hpl:(backTo pos (starEach es X.env)).any (·.1)=false:=by rfl):PE X (.Call (.Name x p) (e::es) [] pos) (tMakeX C W sp t):=by
 obtain⟨f,fd,F,hm,hk,hb⟩:=M.ex
 intro pins s σ H Q I h
 refine wpAny_Call_Name_kw (zej I hg hm ?_ hdb)
 refine callWith_K (h₀:=X.base) I.ok.mod.kin hk.kp (thn (ha pos pins s σ H _ I h) fun us s1 ⟨vs,H1,I1,r,q⟩=>⟨I1.kIn,?_⟩) he hpl
 exact run_makeX hk F hr hb fl I1 r q
theorem pe_fldK{K:Frag}{f:Str}(h:X.K=K)(he:PE X e ta)(hb:attributeBase e f X.env (eval e X.env)=eval e X.env):PE X (.Attribute e f pos) (tFld K ta f):=by subst h;exact wJ he hb
end
def zL(K:Frag)(x:Str):Addr:=match nsIn K mainGlobals x with
 | some (some (.ref C))=>C
 | _=>0
theorem clsA_of{K:Frag}{x:Str}{C:Addr}(h:nsIn K mainGlobals x=some (some (.ref C))):zL K x=C:=by unfold zL;rw[h]
theorem CanM.of{P:Program}{w:World}{K:Frag}{mg:Str→Option Value}{base:Heap}{k:Nat}{C:Addr}{x m:Str}{ps:List Str}{sp:Sp}{f:Addr}{fd:FuncData}(hC:zL K x=C)(G:FnOk P w K mg base CX0 k f fd ps sp)(hm:Meth K C m f)(b:zaS K fd ps []):CanM P w K mg base k (zL K x) m ps sp:=by rw[hC];exact⟨f,fd,G,hm,b⟩
theorem CanMX.of{P:Program}{w:World}{K:Frag}{mg:Str→Option Value}{base:Heap}{k:Nat}{C:Addr}{x m:Str}{ps:List Str}{sp:Sp}{f:Addr}{fd:FuncData}(hC:zL K x=C)(G:FnOk P w K mg base (CX1 P w) k f fd ps sp)(hm:Meth K C m f)(b:zaS K fd ps []):CanMX P w K mg base k (zL K x) m ps sp:=by rw[hC];exact⟨f,fd,G,hm,b⟩
theorem CanK.of{P:Program}{w:World}{K:Frag}{mg:Str→Option Value}{base:Heap}{k:Nat}{C:Addr}{x:Str}{ps:List Str}{sp:Sp}{f:Addr}{fd:FuncData}(hC:zL K x=C)(G:FnOk P w K mg base (CX1 P w) k f fd ps sp)(hg:mg x=some (.ref C))(hm:Mk K C f)(b:zaS K fd ps []):CanK P w K mg base k x (zL K x) ps sp:=by rw[hC];exact⟨f,fd,G,hg,hm,b⟩
section
variable {X:Cx}
theorem zgj(hc:X.calm=true):zaG X (.builtin "max") (fun xs H Q=>∃(a:Addr)(ns:List Int),xs=[.ref a]∧SqL X.K H a (ns.map V.int)∧0<ns.length∧∀M:Int,M∈ns→(∀x∈ns,x≤M)→Q (.int M) H):=by
 intro pins s σ H xs us Q I r h
 obtain⟨a,ns,rfl,hS,hne,q⟩:=h
 obtain⟨u,rfl,ru⟩:=r.one
 cases ru
 obtain⟨its,r1,p1,z1⟩:=I.list hS
 have hi:=za1 r1
 obtain⟨xs,e⟩:=hi.allInts.items
 have hns:ns=xs.toList.map (·.1):=by
  rw[←hi.numsOf,←nums_intItems,←e]
 have hsz:0<xs.size:=by
  have h3:=hne;rw[hns,length_map,Array.length_toList] at h3;exact h3
 have hl:=p1.isList
 rw[e] at hl
 refine max_intList (I.ok.hd hc) hl hsz fun v h' tk hv hk=>?_
 obtain⟨t,rfl⟩:=intItems_at hv
 obtain⟨h1,h2⟩:=argBest_gt (numAt xs) (xs.size-1)
 refine⟨.int _,H,I.kept (t':=tk) hk,⟨t,rfl⟩,q _ ?_ fun a ha=>?_⟩
 ·rw[hns,numAt_eq];exact getD_mem (by rw[length_map,Array.length_toList];omega)
 ·rw[hns] at ha
  obtain⟨j,hj,rfl⟩:=mem_getD ha
  rw[length_map,Array.length_toList] at hj
  rw[←numAt_eq];exact h2 j (by omega)
def rCatS(K:Frag):R2:=fun x y H Q=>∃l b xs zs,x=.ref l∧y=.ref b∧SqL K H l xs∧SqL K H b zs∧xs.length+zs.length≤sizeLine∧∀p,H p=none→Q (.ref p) (upd H p (.lst (xs++zs)))
theorem op_catS:OpR X (binaryOp .Add) (rCatS X.K):=by
 intro pins s σ H x y v u Q I rx ry h
 obtain⟨l,b,xs,zs,rfl,rfl,hH,hB,hz,q⟩:=h
 cases rx
 cases ry
 obtain⟨its,r,p1,z1⟩:=I.list hH
 obtain⟨its2,r2,p2,z2⟩:=I.list hB
 have hl:=r.length
 have hl2:=r2.length
 obtain⟨⟨cls,dd,data,sl⟩,ho,hc,n,hd⟩:=p1.isList
 obtain⟨⟨cls2,dd2,data2,sl2⟩,ho2,hc2,n2,hd2⟩:=p2.isList
 cases hc;cases hd;cases hc2;cases hd2
 refine concat_meets ⟨_,ho,rfl⟩ ⟨_,ho2,rfl⟩ noFill_list_add seq_list_add F.slot_list_add F.entry_list_add (F.args_list_add_2 _ _) (list_addW l b its.toArray its2.toArray n n2 dd dd2 sl sl2 (by rw[size_toArray,size_toArray];omega)) ⟨ho,ho2,?_⟩
 have ea:its.toArray++its2.toArray=(its++its2).toArray:=by simp
 rw[ea]
 exact⟨.ref _,_,I.lnew (t':=s.toks) (r.append r2) (by rw[length_append];omega),rfl,q _ I.fresh⟩
theorem wd{K:Frag}(h:X.K=K)(hu:X.A.units<cLine):OpR X (compareOp .NotEq) (rNeL K):=by subst h;exact zaU hu
end
end L2
namespace L2
open PySem PySem.Spec PyProof.Rows PySem.W PySem.Calls Builtin Builtin.ObjectAttr Builtin.Getset_descriptor
section
variable {prog:Program}{w:World}{A:Around}{s:Shared}{K:Frag}{x C:Addr}{E:Value→Shared→Prop}
end
section
variable {X:Cx}
def rEqLE(K:Frag):R2:=fun x y H Q=>∃a b xs,x=.ref a∧y=.ref b∧SqL K H a xs∧SqL K H b []∧Q (.bl (decide (xs.length=0))) H
theorem zhR(hu:X.A.units<cLine):OpR X (compareOp .Eq) (rEqLE X.K):=by
 intro pins s σ H x y v u Q I rx ry h
 obtain⟨a,b,xs,rfl,rfl,ha,hb,q⟩:=h
 cases xs with
 | nil=>exact zdU hu pins s σ H _ _ v u Q I rx ry ⟨a,b,[],[],rfl,rfl,ha,hb,rfl,rfl,q⟩
 | cons z xs =>
   cases rx
   cases ry
   obtain⟨its,r1,p1,z1⟩:=I.list ha
   obtain⟨its2,r2,p2,z2⟩:=I.list hb
   have l1:=r1.length
   have l2:=r2.length
   exact SeqAt.eq_list_lengthsAt p1.isList p2.isList (by simp at l1 l2;simp;omega) hu ⟨.bl false,H,I,rfl,q⟩
end
end L2
namespace M14
open PySem PySem.W PyProof.Rows
abbrev g(p:Array Nat)(i:Nat):Nat:=p.getD i 0
theorem g_of{p q:Array Nat}{i j:Nat}(h:p[i]? = q[j]?):g p i=g q j:=by
 show p.getD i 0=q.getD j 0
 rw[Array.getD_eq_getD_getElem?,Array.getD_eq_getD_getElem?,h]
theorem zc4{p:Array Nat}{i j:Nat}(hj:j≤p.size)(k:Nat):g (kas_rev p i j) k=if i≤k∧k<j then g p (i+j-1-k)else g p k:=by
 have e:=getElem?_mirror_all (xs:=p) (i:=i) hj k
 by_cases c:i≤k∧k<j
 ·rw[if_pos c] at e ⊢;exact g_of e
 ·rw[if_neg c] at e ⊢;exact g_of e
theorem g_bub{p:Array Nat}{s d:Nat}(hs:s<p.size)(hd:d≤s)(k:Nat):g (bubble p s d) k=if k=s-d then g p s else if s-d<k∧k≤s then g p (k-1)else g p k:=by
 have e:=getElem?_bubble hs d hd k
 by_cases c:k=s-d
 ·rw[if_pos c] at e ⊢;exact g_of e
 ·rw[if_neg c] at e ⊢
  by_cases c2:s-d<k∧k≤s
  ·rw[if_pos c2] at e ⊢;exact g_of e
  ·rw[if_neg c2] at e ⊢;exact g_of e
section
variable (key:Nat→Int)(N:Nat)
def R(a b:Nat):Prop:=key a<key b∨key a=key b∧a<b
structure B (p:Array Nat) (m:Nat):Prop where
 pm:p.Perm (List.range N).toArray
 tl:∀i,m≤i→i<N→g p i=i
 lo:∀i,i<m→g p i<m
 le:m≤N
def I(p:Array Nat)(m:Nat):Prop:=B N p m∧∀i j,i<j→j<m→R key (g p i) (g p j)
def E(p:Array Nat)(m:Nat):Prop:=B N p m∧∀i j,i<j→j<m→R key (g p j) (g p i)
structure D (p:Array Nat) (m b:Nat):Prop where
 bs:B N p m
 lt:b<m
 ds:∀i j,i<j→j<b→R key (g p j) (g p i)
 sp:∀i j,i<b→b≤j→j<m→key (g p j)<key (g p i)
 bk:∀i j,b≤i→i<j→j<m→key (g p i)=key (g p j)∧g p i<g p j
def ck(i j:Nat)(C:Bool→Shared→Prop)(s:Shared):Prop:=i<N∧j<N∧C (decide (key i<key j)) s
variable {key N}
theorem B.size{p:Array Nat}{m:Nat}(b:B N p m):p.size=N:=by
 have:=b.pm.size_eq
 simpa using this
theorem B.lt{p:Array Nat}{m:Nat}(b:B N p m){i:Nat}(h:i<N):g p i<N:=by
 by_cases c:i<m
 ·have:=b.lo i c;have:=b.le;omega
 ·rw[b.tl i (by omega) h];exact h
theorem B.rev{p:Array Nat}{m i j:Nat}(b:B N p m)(hj:j≤m):B N (kas_rev p i j) m:=by
 have hs:j≤p.size:=by have:=b.size;have:=b.le;omega
 refine⟨(mirror_perm _ _ _ _).trans b.pm,fun k h1 h2=>?_,fun k h=>?_,b.le⟩
 ·rw[zc4 hs,if_neg (by omega)];exact b.tl k h1 h2
 ·rw[zc4 hs]
  split
  ·exact b.lo _ (by omega)
  ·exact b.lo _ h
theorem B.up{p:Array Nat}{m:Nat}(b:B N p m)(h:m<N):B N p (m+1):=by
 refine⟨b.pm,fun i h1 h2=>b.tl i (by omega) h2,fun i hi=>?_,h⟩
 by_cases c:i<m
 ·have:=b.lo i c;omega
 ·have e:i=m:=by omega
  rw[e,b.tl m (le_refl _) h]
  omega
theorem R.le{a b:Nat}(h:R key a b):key a≤key b:=by
 rcases h with h | h
 ·omega
 ·omega
theorem R.of{a b:Nat}(h:key a≤key b)(l:a<b):R key a b:=by
 by_cases c:key a<key b
 ·exact .inl c
 ·exact .inr ⟨by omega,l⟩
theorem I.turn{p:Array Nat}{m:Nat}(h:I key N p m):E key N (kas_rev p 0 m) m:=by
 have hs:m≤p.size:=by have:=h.1.size;have:=h.1.le;omega
 refine⟨h.1.rev (le_refl _),fun i j hij hj=>?_⟩
 rw[zc4 hs,zc4 hs,if_pos ⟨zero_le _,hj⟩,if_pos ⟨zero_le _,by omega⟩]
 exact h.2 _ _ (by omega) (by omega)
theorem E.turn{p:Array Nat}{m:Nat}(h:E key N p m):I key N (kas_rev p 0 m) m:=by
 have hs:m≤p.size:=by have:=h.1.size;have:=h.1.le;omega
 refine⟨h.1.rev (le_refl _),fun i j hij hj=>?_⟩
 rw[zc4 hs,zc4 hs,if_pos ⟨zero_le _,by omega⟩,if_pos ⟨zero_le _,hj⟩]
 exact h.2 _ _ (by omega) (by omega)
theorem D.one{p:Array Nat}{m:Nat}(h:D key N p (m+1) m):E key N p (m+1):=by
 refine⟨h.bs,fun i j hij hj=>?_⟩
 by_cases c:j<m
 ·exact h.ds i j hij c
 ·have e:j=m:=by omega
  subst e
  exact .inl (h.sp i j hij (le_refl _) (by omega))
theorem D.turn{p:Array Nat}{m b:Nat}(h:D key N p m b):E key N (kas_rev p b m) m:=by
 have hs:m≤p.size:=by have:=h.bs.size;have:=h.bs.le;omega
 have hl:=h.lt
 refine⟨h.bs.rev (le_refl _),fun i j hij hj=>?_⟩
 rw[zc4 hs,zc4 hs]
 by_cases c:j<b
 ·rw[if_neg (by omega),if_neg (by omega)]
  exact h.ds i j hij c
 ·rw[if_pos ⟨by omega,hj⟩]
  by_cases c2:i<b
  ·rw[if_neg (by omega)]
   exact .inl (h.sp i _ c2 (by omega) (by omega))
  ·rw[if_pos ⟨by omega,by omega⟩]
   have z:=h.bk (b+m-1-j) (b+m-1-i) (by omega) (by omega) (by omega)
   exact .inr z
theorem E.step{p:Array Nat}{m:Nat}(h:E key N p m)(h1:1≤m)(hm:m<N)(hk:key (g p m)<key (g p (m-1))):D key N p (m+1) m:=by
 refine⟨h.1.up hm,by omega,h.2,fun i j hi h2 h3=>?_,fun i j h2 h3 h4=>by omega⟩
 have e:j=m:=by omega
 subst e
 by_cases c:i=j-1
 ·subst c;exact hk
 ·have:=(h.2 i (j-1) (by omega) (by omega)).le
  omega
theorem D.same{p:Array Nat}{m b:Nat}(h:D key N p m b)(hm:m<N)(hk:key (g p m)=key (g p (m-1))):D key N p (m+1) b:=by
 have hl:=h.lt
 refine⟨h.bs.up hm,by omega,h.ds,fun i j hi h2 h3=>?_,fun i j h2 h3 h4=>?_⟩
 ·by_cases c:j<m
  ·exact h.sp i j hi h2 c
  ·have e:j=m:=by omega
   subst e
   rw[hk]
   exact h.sp i _ hi (by omega) (by omega)
 ·by_cases c:j<m
  ·exact h.bk i j h2 h3 c
  ·have e:j=m:=by omega
   subst e
   refine⟨?_,by rw[h.bs.tl j (le_refl _) hm];exact h.bs.lo i h3⟩
   rw[hk]
   by_cases c2:i=j-1
   ·rw[c2]
   ·exact(h.bk i (j-1) h2 (by omega) (by omega)).1
theorem I.up{p:Array Nat}{m:Nat}(h:I key N p m)(h1:1≤m)(hm:m<N)(hk:¬key (g p m)<key (g p (m-1))):I key N p (m+1):=by
 refine⟨h.1.up hm,fun i j hij hj=>?_⟩
 by_cases c:j<m
 ·exact h.2 i j hij c
 ·have e:j=m:=by omega
  subst e
  refine R.of ?_ (by rw[h.1.tl j (le_refl _) hm];exact h.1.lo i hij)
  by_cases c2:i=j-1
  ·rw[c2];omega
  ·have:=(h.2 i (j-1) (by omega) (by omega)).le
   omega
theorem asc{p:Array Nat}{Q:Nat→Shared→Prop}{s:Shared}:∀(f m:Nat),m+f=N→1≤m→I key N p m→(∀m',m≤m'→m'≤N→I key N p m'→(m'<N→key (g p m')<key (g p (m'-1)))→Q m' s)→(kas_asc p f m).kasWp (ck key N) Q s
 | 0,m,e,h1,h,q=>q m (le_refl _) (by omega) h (by omega)
 | f+1,m,e,h1,h,q=>by
   refine⟨h.1.lt (by omega),h.1.lt (by omega),?_⟩
   by_cases c:key (g p m)<key (g p (m-1))
   ·rw[decide_eq_true c];dsimp only;rw[if_pos rfl]
    exact q m (le_refl _) (by omega) h fun _=>c
   ·rw[decide_eq_false c];dsimp only;rw[if_neg Bool.false_ne_true]
    exact asc f (m+1) (by omega) (by omega) (h.up h1 (by omega) c) fun m' l1 l2=>q m' (by omega) l2
theorem desc{Q:Array Nat×Nat×Nat→Shared→Prop}{s:Shared}:∀(f:Nat)(p:Array Nat)(m q:Nat),m+f=N→q+1≤m→D key N p m (m-(q+1)) →
 (∀p' m' q',m'≤N→q'+1≤m'→D key N p' m' (m'-(q'+1))→Q (p',m',q') s)→(kas_desc f p m q).kasWp (ck key N) Q s
 | 0,p,m,q,e,hq,h,k=>k p m q (by omega) hq h
 | f+1,p,m,q,e,hq,h,k=>by
   refine⟨h.bs.lt (by omega),h.bs.lt (by omega),?_⟩
   by_cases c:key (g p m)<key (g p (m-1))
   ·rw[decide_eq_true c];dsimp only;rw[if_pos rfl]
    by_cases cq:q > 0
    ·rw[if_pos cq]
     refine desc f _ (m+1) 0 (by omega) (by omega) ?_ k
     have hs:m≤p.size:=by have:=h.bs.size;omega
     refine h.turn.step (by omega) (by omega) ?_
     rw[zc4 hs,zc4 hs,if_neg (by omega),if_pos ⟨by omega,by omega⟩]
     have z:=(h.bk (m-(q+1)) (m-1) (le_refl _) (by omega) (by omega)).1
     rw[show m-(q+1)+m-1-(m-1)=m-(q+1)by omega,z]
     exact c
    ·rw[if_neg cq]
     have e0:q=0:=by omega
     subst e0
     refine desc f _ (m+1) 0 (by omega) (by omega) ?_ k
     obtain⟨r,rfl⟩:∃r,m=r+1:=⟨m-1,by omega⟩
     exact E.step (D.one h) (by omega) (by omega) c
   ·rw[decide_eq_false c];dsimp only;rw[if_neg Bool.false_ne_true]
    refine⟨h.bs.lt (by omega),h.bs.lt (by omega),?_⟩
    by_cases d:key (g p (m-1))<key (g p m)
    ·rw[decide_eq_true d];dsimp only;rw[if_pos rfl]
     exact k p m q (by omega) hq h
    ·rw[decide_eq_false d];dsimp only;rw[if_neg Bool.false_ne_true]
     refine desc f p (m+1) (q+1) (by omega) (by omega) ?_ k
     rw[show m+1-(q+1+1)=m-(q+1)by omega]
     exact h.same (by omega) (by omega)
theorem tail3{p:Array Nat}{m:Nat}{Q:Nat×Array Nat→Shared→Prop}{s:Shared}(h1:1≤m)(h:E key N p m)(q:∀m' p',1≤m'→m'≤N→I key N p' m'→Q (m',p') s):(kas_tail3 m N p).kasWp (ck key N) Q s:=by
 unfold kas_tail3
 rw[KasT.kasWp_bind]
 have:=h.1.le
 exact asc (N-m) m (by omega) h1 h.turn fun m' l1 l2 z _=>q m' _ (by omega) l2 z
theorem ziP{p:Array Nat}{m:Nat}{Q:Nat×Array Nat→Shared→Prop}{s:Shared}(h1:1≤m)(hm:m<N)(h:E key N p m)(hk:key (g p m)<key (g p (m-1)))(q:∀m' p',1≤m'→m'≤N→I key N p' m'→Q (m',p') s):(kas_descPart m N p).kasWp (ck key N) Q s:=by
 unfold kas_descPart
 rw[KasT.kasWp_bind]
 refine desc (N-(m+1)) p (m+1) 0 (by omega) (by omega) (h.step h1 hm hk) fun p' m' q' l1 l2 d=>?_
 dsimp only
 by_cases c:q' > 0
 ·rw[if_pos c]
  exact tail3 (by omega) d.turn q
 ·rw[if_neg c]
  have e0:q'=0:=by omega
  subst e0
  obtain⟨r,rfl⟩:∃r,m'=r+1:=⟨m'-1,by omega⟩
  exact tail3 (by omega) (D.one d) q
theorem count{p:Array Nat}{Q:Nat×Array Nat→Shared→Prop}{s:Shared}(h1:1≤N)(h:I key N p 1)(q:∀m' p',1≤m'→m'≤N→I key N p' m'→Q (m',p') s):(kas_count N p).kasWp (ck key N) Q s:=by
 unfold kas_count
 rw[KasT.kasWp_bind]
 refine asc (N-1) 1 (by omega) (le_refl _) h fun m l1 l2 z hk=>?_
 by_cases c:m=N
 ·rw[if_pos (by rw[c];exact beq_self_eq_true N)]
  exact q m p l1 l2 z
 ·rw[if_neg (by intro b;exact c (eq_of_beq b))]
  have hm:m<N:=by omega
  have hk:=hk hm
  by_cases c1:m > 1
  ·rw[if_pos c1]
   refine⟨z.1.lt (by omega),z.1.lt (by omega),?_⟩
   by_cases d:key (g p 0)<key (g p (m-1))
   ·rw[decide_eq_true d];dsimp only;rw[if_pos rfl]
    exact q m p l1 l2 z
   ·rw[decide_eq_false d];dsimp only;rw[if_neg Bool.false_ne_true]
    have hs:m≤p.size:=by have:=z.1.size;omega
    refine ziP l1 hm z.turn ?_ q
    rw[zc4 hs,zc4 hs,if_neg (by omega),if_pos ⟨by omega,by omega⟩,show 0+m-1-(m-1)=0 by omega]
    omega
  ·rw[if_neg c1]
   have e:m=1:=by omega
   subst e
   exact ziP l1 hm ⟨z.1,fun i j a b=>by omega⟩ hk q
theorem place{p:Array Nat}{k:Nat}{Q:Nat→Shared→Prop}{s:Shared}(hk:k<N)(h:I key N p k):∀(f l r:Nat),r≤l+f→l≤r→r≤k→(∀i,i<l→key (g p i)≤key (g p k))→(∀i,r≤i→i<k→key (g p k)<key (g p i)) →
 (∀l',l'≤k→(∀i,i<l'→key (g p i)≤key (g p k))→(∀i,l'≤i→i<k→key (g p k)<key (g p i))→Q l' s)→(kas_place p k f l r).kasWp (ck key N) Q s
 | 0,l,r,e,h1,h2,a,b,q=>q l (by omega) a fun i x y=>b i (by omega) y
 | f+1,l,r,e,h1,h2,a,b,q=>by
   unfold kas_place
   by_cases c:l ≥ r
   ·rw[if_pos c]
    exact q l (by omega) a fun i x y=>b i (by omega) y
   ·rw[if_neg c]
    have h3:(l+r)/2<r:=by omega
    have h4:l≤(l+r)/2:=by omega
    generalize (l+r)/2=m at h3 h4
    refine⟨h.1.lt hk,h.1.lt (by omega),?_⟩
    by_cases d:key (g p k)<key (g p m)
    ·rw[decide_eq_true d];dsimp only;rw[if_pos rfl]
     refine place hk h f l m (by omega) h4 (by omega) a (fun i x y=>?_) q
     by_cases c2:i=m
     ·rw[c2];exact d
     ·have:=(h.2 m i (by omega) y).le
      omega
    ·rw[decide_eq_false d];dsimp only;rw[if_neg Bool.false_ne_true]
     refine place hk h f (m+1) r (by omega) (by omega) h2 (fun i x=>?_) b q
     by_cases c2:i=m
     ·rw[c2];omega
     ·have:=(h.2 i m (by omega) (by omega)).le
      omega
theorem I.put{p:Array Nat}{k l:Nat}(hk:k<N)(h:I key N p k)(hl:l≤k)(a:∀i,i<l→key (g p i)≤key (g p k))(b:∀i,l≤i→i<k→key (g p k)<key (g p i)):I key N (bubble p k (k-l)) (k+1):=by
 have hs:k<p.size:=by rw[h.1.size];exact hk
 have hg:=fun i=>g_bub hs (Nat.sub_le k l) i
 rw[show k-(k-l)=l by omega] at hg
 refine⟨⟨(bubble_perm _ _ _).trans h.1.pm,fun i h1 h2=>?_,fun i hi=>?_,hk⟩,fun i j hij hj=>?_⟩
 ·rw[hg,if_neg (by omega),if_neg (by omega)]
  exact h.1.tl i (by omega) h2
 ·rw[hg]
  by_cases c:i=l
  ·rw[if_pos c,h.1.tl k (le_refl _) hk];omega
  ·rw[if_neg c]
   by_cases c2:l<i∧i≤k
   ·rw[if_pos c2];have:=h.1.lo (i-1) (by omega);omega
   ·rw[if_neg c2];have:=h.1.lo i (by omega);omega
 ·rw[hg i,hg j]
  by_cases c1:j<l
  ·rw[if_neg (by omega),if_neg (by omega),if_neg (by omega),if_neg (by omega)]
   exact h.2 i j hij (by omega)
  ·by_cases c2:j=l
   ·rw[if_pos c2,if_neg (by omega),if_neg (by omega)]
    exact R.of (a i (by omega)) (by rw[h.1.tl k (le_refl _) hk];exact h.1.lo i (by omega))
   ·rw[if_neg c2,if_pos (show l<j∧j≤k by omega)]
    by_cases c3:i=l
    ·rw[if_pos c3]
     exact .inl (b (j-1) (by omega) (by omega))
    ·rw[if_neg c3]
     by_cases c4:i<l
     ·rw[if_neg (by omega)]
      exact h.2 i (j-1) (by omega) (by omega)
     ·rw[if_pos (by omega)]
      exact h.2 (i-1) (j-1) (by omega) (by omega)
theorem bin{Q:Array Nat→Shared→Prop}{s:Shared}(q:∀p',I key N p' N→Q p' s):∀(f:Nat)(p:Array Nat)(k:Nat),k+f=N→I key N p k→(kas_bin f p k).kasWp (ck key N) Q s
 | 0,p,k,e,h=>q p (by rw[Nat.add_zero] at e;rw[←e];rw[e] at h ⊢;exact h)
 | f+1,p,k,e,h=>by
   unfold kas_bin
   rw[KasT.kasWp_bind]
   refine place (by omega) h k 0 k (by omega) (zero_le _) (le_refl _) (fun i x=>by omega) (fun i x y=>by omega) fun l l1 a b=>?_
   exact bin q f _ (k+1) (by omega) (h.put (by omega) l1 a b)
theorem zbu(h1:1≤N):I key N (List.range N).toArray 1:=by
 have e:∀i,i<N→g (List.range N).toArray i=i:=fun i h=>by
  show(List.range N).toArray.getD i 0=i
  simp[Array.getD,h]
 exact⟨⟨Array.Perm.refl _,fun i _ h=>e i h,fun i h=>by rw[e i (by omega)];exact h,h1⟩,fun i j a b=>by omega⟩
theorem sort{Q:Array Nat→Shared→Prop}{s:Shared}(h1:1≤N)(q:∀p,I key N p N→Q p s):(kas_sort N).kasWp (ck key N) Q s:=by
 unfold kas_sort
 rw[KasT.kasWp_bind]
 refine count h1 (zbu h1) fun m p l1 l2 h=>?_
 dsimp only
 by_cases c:m<N
 ·rw[if_pos c,show max m 1=m by omega]
  exact bin q (N-m) p m (by omega) h
 ·rw[if_neg c]
  have e:m=N:=by omega
  subst e
  exact q p h
end
end M14
namespace L2
open PySem PySem.W PySem.Calls PyProof.Rows
theorem wp_cmp{α:Type}{c c':Nat→Nat→(Bool→Shared→Prop)→Shared→Prop}{Q:α→Shared→Prop}(m:∀i j C C' s,(∀b s',C b s'→C' b s')→c i j C s→c' i j C' s):
 ∀(t:KasT α)(s:Shared),t.kasWp c Q s→t.kasWp c' Q s
 | .ret _,_,h=>h
 | .ask i j k,s,h=>m i j _ _ s (fun b s' z=>wp_cmp m (k b) s' z) h
section
variable {X:Cx}{pins:List (Addr×Obj)}{σ:St}{H:Hp}{s:Shared}{a kS:Addr}{A:Around}{E:Value→Shared→Prop}
structure Own (X:Cx) (pins:List (Addr×Obj)) (H:Hp) (a:Addr):Prop where
 free:H a=none
 loc:a≠X.env.locals
 new:X.s₀.heap.objs.size≤a
 cell:∀x c,X.env.cells.lookup x=some c→c≠a
 pin:∀p∈X.pn++pins,p.1≠a
 fs:a∉X.fs
theorem Inv.own(I:Inv X pins σ H s){b:Addr}(h:s.heap.objs.size≤b):Own X pins H b:=by
 refine⟨I.hok.fresh h,fun z=>?_,le_trans I.sz h,fun x c e z=>?_,fun p hp z=>?_,I.nofs h⟩
 ·have:=I.lt;rw[←z] at this;exact absurd this (Nat.not_lt.mpr h)
 ·obtain⟨v,hv⟩:=I.cell x c e
  obtain⟨o,ho,_⟩:=hv
  have:=lt_size ho
  rw[z] at this
  exact absurd this (Nat.not_lt.mpr h)
 ·have:=lt_size (I.pin p hp).1
  rw[z] at this
  exact absurd this (Nat.not_lt.mpr h)
theorem Inv.swap{f:Obj→Obj}(I:Inv X pins σ H s)(o:Own X pins H a):Inv X pins σ H { s with heap:=s.heap.update a f } :=
 I.turned (it:=a) (fun b u hb hu=>(get?_update_other s.heap f (Ne.symm hb)).trans hu) o.free o.loc (.inr o.new) o.cell o.pin
theorem Inv.hold{u:Obj}(I:Inv X pins σ H s)(o:Own X pins H a)(e:s.heap.get? a=some u)(hu:∀v,u.data ≠ .cell v):Inv X ((a,u)::pins) σ H s :=
 I.pins_of fun p hp=>by
  rcases List.mem_cons.mp hp with rfl | hp
  ·exact⟨e,o.free,o.loc,o.fs,hu⟩
  ·exact I.pin p (mem_append_right _ hp)
theorem Inv.drop{p:Addr×Obj}(I:Inv X (p::pins) σ H s):Inv X pins σ H s :=
 I.pins_of fun q hq=>I.pin q (mem_append_right _ (mem_cons_of_mem _ hq))
theorem Inv.held{u:Obj}(I:Inv X ((a,u)::pins) σ H s):s.heap.get? a=some u:=(I.pin (a,u) (mem_append_right _ (mem_cons_self ..))).1
theorem Own.more{u:Obj}(o:Own X pins H a)(h:kS≠a):Own X ((kS,u)::pins) H a :=
 ⟨o.free,o.loc,o.new,o.cell,fun p hp=>by
  rcases List.mem_append.mp hp with z | z
  ·exact o.pin p (mem_append_left _ z)
  ·rcases List.mem_cons.mp z with rfl | z
   ·exact h
   ·exact o.pin p (mem_append_right _ z),o.fs⟩
theorem nocell{vs:Array Value}{n:Nat}:∀v,(seqObj "list" vs n).data ≠ .cell v:=fun v z=>by cases z
theorem zer:∀{ks:List Value}{kz:List Int},IntsAre ks kz→∀i,i<kz.length→∃t,ks.getD i Value.none=Value.int (kz.getD i 0) t
 | _,_,.cons n t r,0,_=>⟨t,rfl⟩
 | _,_,.cons n t r,i+1,h=>zer r i (by simpa using h)
theorem zh5{vs:List Value}{kz:List Int}{e1:Nat}{body:Value→PUnit→Sem (ForInStep PUnit)}(hl:kz.length=vs.length)
 (hb:∀(v:Value)(ks:List Value)(e:Nat)(s:Shared),vs[ks.length]? = some v→Inv X ((kS,seqObj "list" ks.toArray e)::(a,seqObj "list" #[] e1)::pins) σ H s→IntsAre ks (kz.take ks.length) →
   wpAny (model X.prog X.w) A (body v ⟨⟩) (fun r s'=>r=.yield ⟨⟩∧∃(k:Value)(e':Nat),Inv X ((kS,seqObj "list" (ks++[k]).toArray e')::(a,seqObj "list" #[] e1)::pins) σ H s'∧IntsAre (ks++[k]) (kz.take (ks++[k]).length)) E s) :
 ∀(r:List Value)(ks:List Value)(e:Nat)(s:Shared),vs.drop ks.length=r→ks.length≤vs.length→Inv X ((kS,seqObj "list" ks.toArray e)::(a,seqObj "list" #[] e1)::pins) σ H s→IntsAre ks (kz.take ks.length) →
  wpAny (model X.prog X.w) A (forIn r PUnit.unit body) (fun _ s'=>∃(ks:List Value)(e:Nat),Inv X ((kS,seqObj "list" ks.toArray e)::(a,seqObj "list" #[] e1)::pins) σ H s'∧IntsAre ks kz) E s
 | [],ks,e,s,hd,hz,I,hi=>by
   rw[forIn_nil]
   have:vs.length≤ks.length:=by
    have:=congrArg List.length hd
    rw[length_drop,length_nil] at this
    omega
   refine wpAny_pure ⟨ks,e,I,?_⟩
   rw[take_of_length_le (by omega)] at hi
   exact hi
 | v::r,ks,e,s,hd,hz,I,hi=>by
   rw[forIn_cons]
   have hv:vs[ks.length]? = some v:=by
    have:=congrArg List.head? hd
    rw[List.head?_drop] at this
    exact this
   have hlt:ks.length<vs.length:=(List.getElem?_eq_some_iff.mp hv).1
   refine wpAny_bind (wpAny_mono (hb v ks e s hv I hi) (fun q s' hq=>?_) fun _ _ x=>x)
   obtain⟨rfl,k,e',I',hi'⟩:=hq
   show wpAny (model X.prog X.w) A (forIn r PUnit.unit body) _ E s'
   have hlen:(ks++[k]).length=ks.length+1:=by rw[length_append,length_singleton]
   refine zh5 hl hb r (ks++[k]) e' s' ?_ (by omega) I' hi'
   rw[hlen,←List.drop_drop,hd]
   rfl
theorem key_tail{st:SortSt}{ks out:List Value}{e e1:Nat}(I:Inv X ((kS,seqObj "list" ks.toArray e)::(a,seqObj "list" #[] e1)::pins) σ H s)(o:Own X pins H a)(ok:Own X pins H kS)(hka:kS≠a)(hz:ks.length<64)(hz2:out.length<64)
 (ho:(arrOf st).map (·.2)=List.toArray out) (hf:failedOf st=none) :
 wpAny (model X.prog X.w) A (ksk_tail a false e1 (.ref kS) st) (fun r s'=>r=.done (.ret .none)∧Inv X pins σ H s'∧∃e,s'.heap.get? a=some (seqObj "list" out.toArray e)) E s:=by
 have hln:=zx
 have hk:=I.held
 have ha:=I.drop.held
 have I1:=I.drop.drop.swap (f:=Obj.mapSeq fun _=>(#[]:Array Value)) ok
 have ha1:(s.heap.update kS (Obj.mapSeq fun _=>(#[]:Array Value))).get? a=some (seqObj "list" #[] e1):=(get?_update_other s.heap _ hka).trans ha
 have I2:=I1.swap (f:=Obj.mapSeq fun _=>out.toArray) o
 obtain⟨c2,hc2⟩:∃c2,((s.heap.update kS (Obj.mapSeq fun _=>(#[]:Array Value))).update a (Obj.mapSeq fun _=>out.toArray)).get? a=some (seqObj "list" out.toArray c2):=⟨_,get?_update_seq ha1 fun _=>out.toArray⟩
 unfold ksk_tail
 try dsimp only
 rw[ho]
 refine wpAny_bind (listUpdate_at hk rfl ?_ (by rw[size_toArray];omega) (zero_le _))
 refine wpAny_bind (wpAny_letGo ?_)
 refine wpAny_bind (seqEpoch_at ha1 rfl ?_)
 simp only[Bool.false_eq_true,if_false]
 refine wpAny_bind (listUpdate_at ha1 rfl ?_ (zero_le _) (by rw[size_toArray];omega))
 rw[hf]
 simp only[bne_self_eq_false,Bool.false_eq_true,if_false]
 exact wpAny_pure ⟨rfl,I2,c2,hc2⟩
theorem keyed{f:Value}{vs:List Value}{n:Nat}{kz:List Int}(I:Inv X pins σ H s)(o:Own X pins H a)(ho:s.heap.get? a=some (seqObj "list" vs.toArray n))(h1:1≤vs.length)(h64:vs.length<64)(hl:kz.length=vs.length)
 (calls:∀(i:Nat)(v:Value)(pins':List (Addr×Obj)) (s':Shared),vs[i]? = some v→Inv X pins' σ H s'→wpAny (model X.prog X.w) A (call f [v]) (fun k s''=>Inv X pins' σ H s''∧∃t,k=Value.int (kz.getD i 0) t) (fun _ _=>False) s') :
 wpAny (model X.prog X.w) A (ksk_tree a f false) (fun r s'=>r=.done (.ret .none)∧∃(p:Array Nat)(e:Nat),M14.I (fun k=>kz.getD k 0) vs.length p vs.length∧Inv X pins σ H s'∧s'.heap.get? a=some (seqObj "list" (p.toList.map fun i=>vs.getD i Value.none).toArray e)) E s:=by
 have hln:=zx
 have ha:a<s.heap.objs.size:=lt_size ho
 have I1:=I.swap (f:=Obj.mapSeq fun _=>(#[]:Array Value)) o
 obtain⟨e1,ho1⟩:∃e1,(s.heap.update a (Obj.mapSeq fun _=>(#[]:Array Value))).get? a=some (seqObj "list" #[] e1):=⟨_,get?_update_seq ho fun _ => #[]⟩
 unfold ksk_tree
 refine wpAny_bind (listItems_at ho rfl ?_)
 refine wpAny_bind (listUpdate_at ho rfl ?_ (by rw[size_toArray];omega) (zero_le _))
 refine wpAny_bind (seqEpoch_at ho1 rfl ?_)
 refine wpAny_bind (wpAny_newTuple ?_ (by show vs.length≤_;omega))
 refine wpAny_bind (wpAny_newList ?_ (zero_le _))
 refine wpAny_holding ?_
 have I2:Inv X pins σ H { s with heap:=(s.heap.update a (Obj.mapSeq fun _=>(#[]:Array Value))).push (seqObj "tuple" vs.toArray 0) }:=I1.kept (t':=s.toks) fun b u q=>get?_push_of_some _ q
 have I3:Inv X pins σ H { s with heap:=((s.heap.update a (Obj.mapSeq fun _=>(#[]:Array Value))).push (seqObj "tuple" vs.toArray 0)).push (seqObj "list" #[] 0) }:=I2.kept (t':=s.toks) fun b u q=>get?_push_of_some _ q
 have ok:=I2.own (b:=((s.heap.update a (Obj.mapSeq fun _=>(#[]:Array Value))).push (seqObj "tuple" vs.toArray 0)).objs.size) (le_refl _)
 have hka:((s.heap.update a (Obj.mapSeq fun _=>(#[]:Array Value))).push (seqObj "tuple" vs.toArray 0)).objs.size≠a:=by
  rw[size_push',size_update]
  exact ne_of_gt (lt_succ_of_lt ha)
 have hk0:(((s.heap.update a (Obj.mapSeq fun _=>(#[]:Array Value))).push (seqObj "tuple" vs.toArray 0)).push (seqObj "list" #[] 0)).get? ((s.heap.update a (Obj.mapSeq fun _=>(#[]:Array Value))).push (seqObj "tuple" vs.toArray 0)).objs.size=some (seqObj "list" #[] 0):=get?_push_size _ rfl
 have ha0:(((s.heap.update a (Obj.mapSeq fun _=>(#[]:Array Value))).push (seqObj "tuple" vs.toArray 0)).push (seqObj "list" #[] 0)).get? a=some (seqObj "list" #[] e1):=get?_push_of_some _ (get?_push_of_some _ ho1)
 show wpAny _ _ (ksk_rest a f false vs.toArray e1 (.ref ((s.heap.update a (Obj.mapSeq fun _=>(#[]:Array Value))).push (seqObj "tuple" vs.toArray 0)).objs.size)) _ _ { s with heap:=((s.heap.update a (Obj.mapSeq fun _=>(#[]:Array Value))).push (seqObj "tuple" vs.toArray 0)).push (seqObj "list" #[] 0) }
 generalize ((s.heap.update a (Obj.mapSeq fun _=>(#[]:Array Value))).push (seqObj "tuple" vs.toArray 0)).objs.size=kS at ok hka hk0
 generalize ((s.heap.update a (Obj.mapSeq fun _=>(#[]:Array Value))).push (seqObj "tuple" vs.toArray 0)).push (seqObj "list" #[] 0)=h3 at I3 hk0 ha0
 clear I1 I2 ho1
 have ok':∀e,Own X ((a,seqObj "list" #[] e)::pins) H kS:=fun e=>ok.more (Ne.symm hka)
 have I4:=(I3.hold o ha0 nocell).hold (ok' e1) hk0 nocell
 unfold ksk_rest
 refine wpAny_bind (wpAny_rule ?_)
 rw[forIn_toArray]
 refine wpAny_bind (wpAny_mono (zh5 (kz:=kz) (vs:=vs) hl (fun v ks e s' hv I5 hi=>?_) vs [] 0 _ rfl (zero_le _) I4 .nil) (fun _ s' hd=>?_) fun _ _ x=>x)
 ·refine wpAny_bind (wpAny_attempt (wpAny_mono (calls ks.length v _ s' hv I5) (fun k s'' hk=>?_) fun _ _ hF=>hF.elim))
  obtain⟨I6,t,rfl⟩:=hk
  dsimp only
  have hlt:ks.length<vs.length:=(List.getElem?_eq_some_iff.mp hv).1
  have hk6:=I6.held
  obtain⟨c2,hc2⟩:∃c2,(s''.heap.update kS (Obj.mapSeq (·.push (Value.int (kz.getD ks.length 0) t)))).get? kS=some (seqObj "list" (ks++[Value.int (kz.getD ks.length 0) t]).toArray c2) :=
   ⟨_,by rw[show(ks++[Value.int (kz.getD ks.length 0) t]).toArray=ks.toArray.push (Value.int (kz.getD ks.length 0) t)by simp];exact get?_update_seq hk6 (·.push _)⟩
  refine wpAny_bind (listUpdate_at hk6 rfl ?_ (by rw[size_toArray];omega) (by rw[Array.size_push,size_toArray];omega))
  exact wpAny_pure ⟨rfl,_,c2,(I6.drop.swap (ok' e1)).hold (ok' e1) hc2 nocell,by rw[length_append,length_singleton,List.take_add_one];exact hi.append (by rw[getElem?_eq_getElem (by omega),getD_eq_getElem?_getD,getElem?_eq_getElem (by omega)];exact .cons _ t .nil)⟩
 ·obtain⟨ks,e,I7,hi⟩:=hd
  have hk7:=I7.held
  have I8:=I7.drop
  have ha8:=I8.held
  have hkl:ks.length=vs.length:=by rw[hi.length,hl]
  refine wpAny_bind (listItems_at hk7 rfl ?_)
  have fin:∀(st:SortSt)(p:Array Nat),M14.I (fun k=>kz.getD k 0) vs.length p vs.length→arrOf st=p.map (kas_item (ks.toArray.zip vs.toArray))→failedOf st=none →
   wpAny (model X.prog X.w) A (ksk_tail a false e1 (.ref kS) st) (fun r s'=>r=.done (.ret .none)∧∃(p:Array Nat)(e:Nat),M14.I (fun k=>kz.getD k 0) vs.length p vs.length∧Inv X pins σ H s'∧s'.heap.get? a=some (seqObj "list" (p.toList.map fun i=>vs.getD i Value.none).toArray e)) E s':=fun st p hp har hf =>
   wpAny_mono (key_tail (out:=p.toList.map fun i=>vs.getD i Value.none) I7 o ok hka (by omega) (by rw[length_map,Array.length_toList,hp.1.size];exact h64) (kat_snds hkl har) hf) (fun r s2 z=>⟨z.1,p,_,hp,z.2.1,z.2.2.choose_spec⟩) fun _ _ x=>x
  unfold ksk_end
  simp only[Bool.false_eq_true,if_false]
  by_cases h2:vs.length<2
  ·have hs2:vs.toArray.size<2:=by rw[size_toArray];exact h2
   rw[if_pos hs2,if_pos hs2]
   refine wpAny_bind (wpAny_pure ?_)
   refine wpAny_bind (wpAny_pure ?_)
   have hN:vs.length=1:=by omega
   have z:∀m,m=1→M14.I (fun k=>kz.getD k 0) vs.length (List.range vs.length).toArray m:=fun m e=>by rw[e];exact M14.zbu h1
   refine fin _ _ (z _ hN) ?_ rfl
   have e:=kas_range (ks.toArray.zip vs.toArray)
   rw[show(ks.toArray.zip vs.toArray).size=vs.length by simp[hkl]] at e
   exact e.symm
  ·have hs2:¬vs.toArray.size<2:=by rw[size_toArray];exact h2
   rw[if_neg hs2,if_neg hs2,ksk_kind (kz:=kz) (by simpa using hi) (by rw[size_toArray];omega)]
   refine wpAny_bind (wpAny_pure ?_)
   have ask:(kas_sort vs.length).kasWp (kas_ask X.prog X.w A oneType' ks) (fun p s2=>M14.I (fun k=>kz.getD k 0) vs.length p vs.length∧s2=s') s':=by
    refine wp_cmp (c:=M14.ck (fun k=>kz.getD k 0) vs.length) (fun i j C C' s0 m h=>?_) _ _ (M14.sort h1 fun p hp=>⟨hp,rfl⟩)
    obtain⟨hi1,hj1,hc⟩:=h
    obtain⟨t,et⟩:=zer hi i (by omega)
    obtain⟨u,eu⟩:=zer hi j (by omega)
    unfold kas_ask
    rw[et,eu]
    exact kat_lt_int (m _ _ hc)
   refine wpAny_bind (wpAny_mono (kat_run (Q:=fun st' s2=>∃p:Array Nat,M14.I (fun k=>kz.getD k 0) vs.length p vs.length∧arrOf st'=p.map (kas_item (ks.toArray.zip vs.toArray))∧failedOf st'=none∧s2=s') hkl (by omega) h64 (fun p' st' s2 a1 a2 a3 a4=>⟨p',a4.1,a2,a3,a4.2⟩) ask) ?_ fun _ _ x=>x)
   rintro ⟨⟨⟩,st'⟩ s2 ⟨p,hp,har,hf,rfl⟩
   exact fin _ _ hp har hf
end
end L2
namespace L2
open PySem PySem.W
abbrev zgu(h:Heap)(z TI TO T:Addr)(b:Bool):Prop :=
 h.get? z=some { cls:=.type "zip",dict:=none,data:=.fields #[rawInt T,.bool b,.bool false,.ref TI,.ref TO],slots := #[] }
section
variable {P:Program}{w:World}{A:Around}{E:Value→Shared→Prop}{s:Shared}{z TI TO T i1 i2 l1 l2:Addr}{b:Bool}
theorem zh1{Q:Bool→Shared→Prop}(hz:zgu s.heap z TI TO T b)(hT:∃o,s.heap.get? T=some o)(q:∀h',zgu h' z TI TO T true→SameBut z s.heap h'→Q false { s with heap:=h' }):
 wpAny (model P w) A (Builtin.SmallTypes.ownedTupleIsFree (.ref z)) Q E s:=by
 obtain⟨o,ho⟩:=hT
 unfold Builtin.SmallTypes.ownedTupleIsFree
 refine wpAny_bind (wpAny_field hz rfl (x:=rawInt T) rfl ?_)
 show wpAny _ _ (loadIfAlive ((T:Int).toNat) >>= _) _ _ _
 rw[Int.toNat_natCast]
 refine wpAny_bind (kdx_alive ho ?_)
 simp only[Option.isNone_some,if_false,Bool.false_eq_true]
 refine wpAny_bind (wpAny_field hz rfl (x:=.bool b) rfl ?_)
 cases b with
 | true =>
   rw[if_neg (show ¬((Value.bool true != Value.bool true)=true)by decide)]
   exact wpAny_pure (q _ hz (Heap.SameBut.refl _ _))
 | false =>
   rw[if_pos (show(Value.bool false != Value.bool true)=true by decide)]
   exact wpAny_bind (wpAny_setField_rec hz (by simp) fun h₃ e₃ s₃=>wpAny_pure (q h₃ e₃ s₃))
theorem zip_busy{k1 k2:Nat}{xs ys:Array Value}{x y:Value}{Q:Value→Shared→Prop}(D:ZipApart z TI TO i1 i2 l1 l2)(hz:zgu s.heap z TI TO T b)(hT:∃o,s.heap.get? T=some o)(hTI:IsPair s.heap TI (.ref i1) (.ref i2))
 (h1:s.heap.IsListIter i1 l1 k1) (h2:s.heap.IsListIter i2 l2 k2) (hl1:s.heap.IsList l1 xs) (hl2:s.heap.IsList l2 ys) (hx:xs[k1]? = some x) (hy:ys[k2]? = some y)
 (q:∀h',zgu h' z TI TO T true→h'.IsListIter i1 l1 (k1+1)→h'.IsListIter i2 l2 (k2+1)→IsPair h' s.heap.objs.size x y→h'.objs.size=s.heap.objs.size+1 →
   (∀c o,c≠z→c≠i1→c≠i2→s.heap.get? c=some o→h'.get? c=some o)→Q (.ref s.heap.objs.size) { s with heap:=h' }) :
 wpAny (model P w) A (Builtin.«zip.__next__» ⟨[.ref z],[]⟩) (fun r s'=>∃v,r=.done (.ret v)∧Q v s') E s:=by
 show wpAny (model P w) A (field (.ref z) 2 >>= _) _ _ _
 refine wpAny_bind (wpAny_field hz (x:=.bool false) rfl rfl ?_)
 show wpAny (model P w) A (field (.ref z) 3 >>= _) _ _ _
 refine wpAny_bind (wpAny_field hz (x:=.ref TI) rfl rfl ?_)
 refine wpAny_bind (wpAny_seqItems hTI rfl ?_)
 show wpAny (model P w) A (Builtin.SmallTypes.ownedTupleIsFree (.ref z) >>= _) _ _ _
 refine wpAny_bind (zh1 hz hT fun h₁ z₁ s₁=>?_)
 simp only[if_false,Bool.false_eq_true]
 rw[show(#[Value.ref i1,Value.ref i2]:Array Value)=[Value.ref i1,Value.ref i2].toArray from rfl,forIn_toArray]
 simp only[forIn_cons,forIn_nil]
 refine wpAny_bind (wpAny_bind (wpAny_bind (wpAny_holding ?_)))
 show wpAny (model P w) A (Builtin.SmallTypes.nextOf (.ref i1) >>= _) _ _ _
 refine wpAny_bind (wpAny_nextOf_list_item (h1.extBut s₁.extBut D.i1z) (hl1.extBut s₁.extBut D.l1z) hx fun h₂ a₂ s₂=>wpAny_pure (wpAny_pure ?_))
 refine wpAny_bind (wpAny_bind (wpAny_holding ?_))
 show wpAny (model P w) A (Builtin.SmallTypes.nextOf (.ref i2) >>= _) _ _ _
 refine wpAny_bind (wpAny_nextOf_list_item ((h2.extBut s₁.extBut D.i2z).extBut s₂.extBut D.i12.symm) ((hl2.extBut s₁.extBut D.l2z).extBut s₂.extBut D.l2i1) hy fun h₃ a₃ s₃=>wpAny_pure (wpAny_pure (wpAny_pure ?_)))
 refine wpAny_bind (wpAny_newTuple (wpAny_pure ⟨_,rfl,?_⟩) (by show 2≤sizeLine;decide))
 have hsz:h₃.objs.size=s.heap.objs.size:=by rw[s₃.1,s₂.1,s₁.1]
 show Q (.ref h₃.objs.size) _
 rw[hsz]
 have up:∀c o,h₃.get? c=some o→(h₃.push { cls:=.type "tuple",data:=.seq #[x,y] }).get? c=some o:=fun c o e=>get?_push_of_some _ e
 refine q _ (up _ _ (s₃.extBut _ _ D.i2z.symm (s₂.extBut _ _ D.i1z.symm z₁))) ?_ ?_ ?_ ?_ fun c o c1 c2 c3 e=>up _ _ (s₃.extBut _ _ c3 (s₂.extBut _ _ c2 (s₁.extBut _ _ c1 e)))
 ·exact(a₂.extBut s₃.extBut D.i12).at fun o e=>up _ o e
 ·exact a₃.at fun o e=>up _ o e
 ·rw[←hsz];exact get?_push_size _ rfl
 ·exact(size_push ..).trans (by rw[hsz])
theorem zip_over{k1 k2:Nat}{xs ys:Array Value}{Q:Fin→Shared→Prop}(hh:A.handled=none)(D:ZipApart z TI TO i1 i2 l1 l2)(hz:zgu s.heap z TI TO T b)(hT:∃o,s.heap.get? T=some o)(hTI:IsPair s.heap TI (.ref i1) (.ref i2))
 (h1:s.heap.IsListIter i1 l1 k1) (hl1:s.heap.IsList l1 xs) (hx:xs[k1]? = none)
 (q:∀h' e,(∀c o,c≠z→c≠i1→c≠i2→s.heap.get? c=some o→h'.get? c=some o)→(∃o,h'.get? e=some o∧o.cls=.type "StopIteration")→E (.ref e) { s with heap:=h' }) :
 wpAny (model P w) A (Builtin.«zip.__next__» ⟨[.ref z],[]⟩) Q E s:=by
 show wpAny (model P w) A (field (.ref z) 2 >>= _) _ _ _
 refine wpAny_bind (wpAny_field hz (x:=.bool false) rfl rfl ?_)
 show wpAny (model P w) A (field (.ref z) 3 >>= _) _ _ _
 refine wpAny_bind (wpAny_field hz (x:=.ref TI) rfl rfl ?_)
 refine wpAny_bind (wpAny_seqItems hTI rfl ?_)
 show wpAny (model P w) A (Builtin.SmallTypes.ownedTupleIsFree (.ref z) >>= _) _ _ _
 refine wpAny_bind (zh1 hz hT fun h₁ z₁ s₁=>?_)
 simp only[if_false,Bool.false_eq_true]
 rw[show(#[Value.ref i1,Value.ref i2]:Array Value)=[Value.ref i1,Value.ref i2].toArray from rfl,forIn_toArray]
 simp only[forIn_cons,forIn_nil]
 refine wpAny_bind (wpAny_bind (wpAny_bind (wpAny_holding ?_)))
 show wpAny (model P w) A (Builtin.SmallTypes.nextOf (.ref i1) >>= _) _ _ _
 refine wpAny_bind (wpAny_nextOf_list_end hh (h1.extBut s₁.extBut D.i1z) (hl1.extBut s₁.extBut D.l1z) hx fun h₂ e s₂ he=>?_)
 exact q h₂ e (fun c o c1 c2 _ x=>s₂ _ _ c2 (s₁.extBut _ _ c1 x)) he
theorem next_busy{k1 k2:Nat}{xs ys:Array Value}{x y:Value}{Q:Option Value→Shared→Prop}(D:ZipApart z TI TO i1 i2 l1 l2)(hz:zgu s.heap z TI TO T b)(hT:∃o,s.heap.get? T=some o)(hTI:IsPair s.heap TI (.ref i1) (.ref i2))
 (h1:s.heap.IsListIter i1 l1 k1) (h2:s.heap.IsListIter i2 l2 k2) (hl1:s.heap.IsList l1 xs) (hl2:s.heap.IsList l2 ys) (hx:xs[k1]? = some x) (hy:ys[k2]? = some y)
 (q:∀h',zgu h' z TI TO T true→h'.IsListIter i1 l1 (k1+1)→h'.IsListIter i2 l2 (k2+1)→IsPair h' s.heap.objs.size x y→h'.objs.size=s.heap.objs.size+1 →
   (∀c o,c≠z→c≠i1→c≠i2→s.heap.get? c=some o→h'.get? c=some o)→Q (some (.ref s.heap.objs.size)) { s with heap:=h' }) :
 wpAny (model P w) A (pyNext (.ref z)) Q E s:=by
 have t:s.TypeIs (.ref z) "zip":=⟨_,hz,rfl⟩
 unfold pyNext
 exact wpAny_bind (wpAny_attempt (wpAny_callSpecial?_slot (name:=Str.ofString "__next__") t F.slot_zip_next (wpAny_call_entry F.slot_zip_next t F.entry_zip_next
  (zip_busy D hz hT hTI h1 h2 hl1 hl2 hx hy fun h' a1 a2 a3 a4 a5 a6=>wpAny_pure (q h' a1 a2 a3 a4 a5 a6)) (F.args_zip_next_1 _))))
theorem next_over{k1:Nat}{xs:Array Value}{Q:Option Value→Shared→Prop}(hh:A.handled=none)(D:ZipApart z TI TO i1 i2 l1 l2)(hz:zgu s.heap z TI TO T b)(hT:∃o,s.heap.get? T=some o)(hTI:IsPair s.heap TI (.ref i1) (.ref i2))
 (h1:s.heap.IsListIter i1 l1 k1) (hl1:s.heap.IsList l1 xs) (hx:xs[k1]? = none)
 (q:∀h',(∀c o,c≠z→c≠i1→c≠i2→s.heap.get? c=some o→h'.get? c=some o)→Q none { s with heap:=h' }):wpAny (model P w) A (pyNext (.ref z)) Q E s:=by
 have t:s.TypeIs (.ref z) "zip":=⟨_,hz,rfl⟩
 unfold pyNext
 refine wpAny_bind (wpAny_attempt (wpAny_callSpecial?_slot (name:=Str.ofString "__next__") t F.slot_zip_next (wpAny_call_entry F.slot_zip_next t F.entry_zip_next
  (zip_over (k2:=0) (ys := #[]) hh D hz hT hTI h1 hl1 hx fun h' e k he=>?_) (F.args_zip_next_1 _))))
 obtain⟨o,ho,hc⟩:=he
 exact wpAny_bind (wpAny_isInstance (T:= "StopIteration") (b:=true) ⟨o,ho,hc⟩ isSubtype_stop (wpAny_pure (q _ k)))
def ZSt(z TI TO i1 i2 l1 l2:Addr)(xs ys:Array Value)(i:Nat)(s:Shared):Prop :=
 IsPair s.heap TI (.ref i1) (.ref i2)∧s.heap.IsListIter i1 l1 i∧s.heap.IsListIter i2 l2 i∧s.heap.IsList l1 xs∧s.heap.IsList l2 ys ∧
  ((i=0∧IsZip s.heap z TI TO .none∧∃a b,IsPair s.heap TO a b)∨(0<i∧∃(T:Addr)(b:Bool),zgu s.heap z TI TO T b∧∃o,s.heap.get? T=some o))
end
end L2
namespace L2
open PySem PySem.W PyProof.Rows
section
variable {X:Cx}{pins:List (Addr×Obj)}{σ:St}{H:Hp}{s:Shared}{h':Heap}{t':Nat}{ch:List Addr}
theorem Inv.moved(I:Inv X pins σ H s)(o:∀c∈ch,Own X pins H c)(k:∀b u,b∉ch→s.heap.get? b=some u→h'.get? b=some u):Inv X pins σ H { s with heap:=h',toks:=t' }:=by
 have nit:∀b u,H b=some u→b∉ch:=fun b u e z=>by rw[(o b z).free] at e;cases e
 have nL:X.env.locals∉ch:=fun z=>(o _ z).loc rfl
 refine I.step (g':=s.gens) (d':=s.drawn) (ch:=ch) (fun b hb=>⟨.inr (o b hb).new,(o b hb).loc,(o b hb).cell,(o b hb).pin⟩) (fun b u _ _ hc e _=>k b u hc e) (fun b u _ _ hc e _=>⟨u.slots,k b u hc e⟩)
  (fun _ _ _ _ n=>n) (fun b u hc e=>⟨u,k b u hc e⟩) (fun _ _ e=>e) (fun _ _ _ e=>e) (fun b ps e=>⟨#[],by rw[e];simp⟩) (fun m hm=>?_) (fun b u e=>?_) I.bare
 ·obtain⟨ob,es,ep,ho,r⟩:=hm
  exact⟨ob,es,ep,k _ ob nL ho,r⟩
 ·refine(I.hok b u e).stay (fun c v hc q=>k c v ?_ q) (fun _ q=>q) fun _ _ q=>q
  rcases hc with z | z
  ·rw[z];exact nit b u e
  ·exact nit c _ z
theorem Inv.movedT{T:Addr}{v:HO}(I:Inv X pins σ H s)(o:∀c∈ch,Own X pins H c)(k:∀b u,b∉ch→s.heap.get? b=some u→h'.get? b=some u)(hT:s.heap.objs.size≤T)(new:wf X.prog X.w (upd H T v) h' T v):
 Inv X pins σ (upd H T v) { s with heap:=h',toks:=t' }:=by
 have hf:H T=none:=I.hok.fresh hT
 have nit:∀b u,H b=some u→b∉ch:=fun b u e z=>by rw[(o b z).free] at e;cases e
 have nL:X.env.locals∉ch:=fun z=>(o _ z).loc rfl
 have up:∀b u,H b=some u→upd H T v b=some u:=fun b u e=>by rw[zl (zr e hf)];exact e
 refine I.step (g':=s.gens) (d':=s.drawn) (ch:=ch) (fun b hb=>⟨.inr (o b hb).new,(o b hb).loc,(o b hb).cell,(o b hb).pin⟩) (fun b u _ _ hc e _=>k b u hc e) (fun b u _ _ hc e _=>⟨u.slots,k b u hc e⟩)
  (fun b u _ e n=>?_) (fun b u hc e=>⟨u,k b u hc e⟩) (fun b _ e=>up b _ e) (fun b _ _ e=>up b _ e) (fun b ps e=>⟨#[],by rw[up b _ e];simp⟩) (fun m hm=>?_) (fun b u e=>?_) I.bare
 ·rw[zl (fun z=>by rw[z] at e;exact absurd (lt_size e) (Nat.not_lt.mpr hT))];exact n
 ·obtain⟨ob,es,ep,ho,r⟩:=hm
  exact⟨ob,es,ep,k _ ob nL ho,r⟩
 ·by_cases hb:b=T
  ·subst hb
   rw[ze] at e
   cases e
   exact new
  ·rw[zl hb] at e
   refine(I.hok b u e).stay (fun c w hc q=>k c w ?_ q) (fun c q=>up c _ q) fun c _ q=>up c _ q
   rcases hc with z | z
   ·rw[z];exact nit b u e
   ·exact nit c _ z
theorem Own.upd{c T:Addr}{v:HO}(o:Own X pins H c)(h:c≠T):Own X pins (upd H T v) c:=⟨by rw[zl h];exact o.free,o.loc,o.new,o.cell,o.pin,o.fs⟩
variable {A:Around}{E:Value→Shared→Prop}{z TI TO i1 i2 l1 l2 S:Addr}{xs ys:List Value}{xv yv:List V}
theorem zip_item{i:Nat}{x y:Value}{vx vy:V}{Q:Option Value→Shared→Prop}(I:Inv X pins σ H s)(o:∀c ∈ [z,TO,i1,i2],Own X pins H c)(D:ZipApart z TI TO i1 i2 l1 l2)(st:ZSt z TI TO i1 i2 l1 l2 xs.toArray ys.toArray i s)
 (hx:xs[i]? = some x) (hy:ys[i]? = some y) (rx:zS vx x) (ry:zS vy y)
 (q:∀s',Inv X pins σ (L2.upd H s.heap.objs.size (.tup [vx,vy])) s'→ZSt z TI TO i1 i2 l1 l2 xs.toArray ys.toArray (i+1) s'→(∀b u,b ∉ [z,TO,i1,i2]→s.heap.get? b=some u→s'.heap.get? b=some u)→s'.heap.objs.size=s.heap.objs.size+1→Q (some (.ref s.heap.objs.size)) s') :
 wpAny (model X.prog X.w) A (pyNext (.ref z)) Q E s:=by
 obtain⟨hTI,h1,h2,hl1,hl2,hz⟩:=st
 have hx':xs.toArray[i]? = some x:=by simpa using hx
 have hy':ys.toArray[i]? = some y:=by simpa using hy
 have nTI:TI ∉ [z,TO,i1,i2]:=by simp[D.TIz,D.TITO,D.TIi1,D.TIi2]
 have n1:l1 ∉ [z,TO,i1,i2]:=by simp[D.l1z,D.l1TO,D.l1i1,D.l1i2]
 have n2:l2 ∉ [z,TO,i1,i2]:=by simp[D.l2z,D.l2TO,D.l2i1,D.l2i2]
 have fin:∀(h':Heap)(b:Bool)(T:Addr),zgu h' z TI TO T b→(∃u,h'.get? T=some u)→h'.IsListIter i1 l1 (i+1)→h'.IsListIter i2 l2 (i+1)→IsPair h' s.heap.objs.size x y→h'.objs.size=s.heap.objs.size+1 →
  (∀c u,c ∉ [z,TO,i1,i2]→s.heap.get? c=some u→h'.get? c=some u)→Q (some (.ref s.heap.objs.size)) { s with heap:=h' }:=fun h' b T b1 b2 b3 b4 b5 b6 k=>by
  refine q _ (I.movedT (t':=s.toks) o k (le_refl _) ⟨by show 2≤sizeLine;decide,[x,y],.cons rx (.cons ry .nil),_,b5,rfl,_,rfl⟩) ⟨k _ _ nTI hTI,b3,b4,hl1.at fun u e=>k _ u n1 e,hl2.at fun u e=>k _ u n2 e,.inr ⟨Nat.succ_pos _,T,b,b1,b2⟩⟩ k b6
 rcases hz with⟨rfl,hz,a,b,hTO⟩|⟨hi,T,b,hz,hT⟩
 ·refine wpAny_pyNext_zip_item D hz hTI hTO h1 h2 hl1 hl2 hx' hy' fun h' a1 a2 a3 a4 a5 a6 k=>?_
  exact fin h' false _ a1 ⟨_,a5⟩ a3 a4 a5 a6 fun c u hc e=>k c u (fun w=>hc (by simp[w])) (fun w=>hc (by simp[w])) (fun w=>hc (by simp[w])) (fun w=>hc (by simp[w])) e
 ·refine next_busy D hz hT hTI h1 h2 hl1 hl2 hx' hy' fun h' a1 a2 a3 a4 a5 k=>?_
  have k':∀c u,c ∉ [z,TO,i1,i2]→s.heap.get? c=some u→h'.get? c=some u:=fun c u hc e=>k c u (fun w=>hc (by simp[w])) (fun w=>hc (by simp[w])) (fun w=>hc (by simp[w])) e
  obtain⟨u,hu⟩:=hT
  by_cases c1:T=z
  ·exact fin h' true T a1 ⟨_,by rw[c1];exact a1⟩ a2 a3 a4 a5 k'
  ·by_cases c2:T=i1
   ·obtain⟨w,hw,_⟩:=id a2
    exact fin h' true T a1 ⟨w,by rw[c2];exact hw⟩ a2 a3 a4 a5 k'
   ·by_cases c3:T=i2
    ·obtain⟨w,hw,_⟩:=id a3
     exact fin h' true T a1 ⟨w,by rw[c3];exact hw⟩ a2 a3 a4 a5 k'
    ·exact fin h' true T a1 ⟨u,k T u c1 c2 c3 hu⟩ a2 a3 a4 a5 k'
abbrev Prs(H:Hp)(ts:List Addr)(ps:List (V×V)):Prop:=Paired (fun t (p:V×V)=>H t=some (.tup [p.1,p.2])) ts ps
theorem Prs.upd{T:Addr}{v:HO}{ts:List Addr}{ps:List (V×V)}(h:Prs H ts ps)(hT:H T=none):Prs (L2.upd H T v) ts ps:=by
 induction h with
 | nil=>exact .nil
 | cons e _ ih=>exact .cons (by rw[zl (zr e hT)];exact e) ih
theorem Prs.snoc{t:Addr}{p:V×V}{ts:List Addr}{ps:List (V×V)}(h:Prs H ts ps)(e:H t=some (.tup [p.1,p.2])):Prs H (ts++[t]) (ps++[p]):=by
 induction h with
 | nil=>exact .cons e .nil
 | cons a _ ih=>exact .cons a ih
theorem vals_at:∀{xv:List V}{xs:List Value},zF xv xs→∀(i:Nat)(h:i<xv.length),∃x,xs[i]? = some x∧zS xv[i] x:=by
 intro xv xs r
 induction r with
 | nil=>intro i h;exact absurd h (Nat.not_lt_zero _)
 | cons e _ ih =>
   intro i h
   cases i with
   | zero=>exact⟨_,rfl,e⟩
   | succ i=>exact ih i (by simpa using h)
theorem ZSt.keep{i:Nat}{h':Heap}(st:ZSt z TI TO i1 i2 l1 l2 xs.toArray ys.toArray i s)(h0:0<i)(k:∀b u,b≠S→s.heap.get? b=some u→h'.get? b=some u)(he:∃u,h'.get? S=some u)(hS:S ∉ [z,TO,i1,i2])(hSl:S≠TI∧S≠l1∧S≠l2):
 ZSt z TI TO i1 i2 l1 l2 xs.toArray ys.toArray i { s with heap:=h' }:=by
 obtain⟨a1,a2,a3,a4,a5,a6⟩:=st
 have n:∀c ∈ [z,TO,i1,i2],c≠S:=fun c hc e=>hS (e ▸ hc)
 refine⟨k _ _ (Ne.symm hSl.1) a1,a2.at fun u e=>k _ u (n _ (by simp)) e,a3.at fun u e=>k _ u (n _ (by simp)) e,a4.at fun u e=>k _ u (Ne.symm hSl.2.1) e,a5.at fun u e=>k _ u (Ne.symm hSl.2.2) e,?_⟩
 rcases a6 with⟨z0,_⟩|⟨_,T,b,hz,u,hu⟩
 ·omega
 ·refine .inr ⟨h0,T,b,k _ _ (n _ (by simp)) hz,?_⟩
  by_cases c:T=S
  ·rw[c];exact he
  ·exact⟨u,k T u c hu⟩
theorem zip_loop{res:Value}{R:Result→Shared→Prop}(hh:A.in1.handled=none)(D:ZipApart z TI TO i1 i2 l1 l2)(hS:S ∉ [z,TO,i1,i2])(hSl:S≠TI∧S≠l1∧S≠l2)(rx:zF xv xs)(ry:zF yv ys)(hl:xv.length=yv.length)(hn:xv.length<64):
 ∀(k i:Nat)(s:Shared)(H:Hp)(ts:List Addr)(c:Nat),xv.length-i=k→i≤xv.length→0<xv.length→Inv X pins σ H s→(∀c ∈ [z,TO,i1,i2],Own X pins H c∧c<s.heap.objs.size)→Own X pins H S→S<s.heap.objs.size →
  ZSt z TI TO i1 i2 l1 l2 xs.toArray ys.toArray i s→s.heap.get? S=some { cls:=.type "list",dict:=none,data:=.seq (ts.map Value.ref).toArray c,slots := #[] }→ts.length=i→Prs H ts ((xv.zip yv).take i) →
  (∀s' H' ts,Inv X pins σ H' s'→zi H H'→Prs H' ts (xv.zip yv)→Own X pins H' S→(∃c,s'.heap.get? S=some { cls:=.type "list",dict:=none,data:=.seq (ts.map Value.ref).toArray c,slots := #[] })→R (.ok (.ret res)) s') →
  codeAny (model X.prog X.w) A (.builtin "list.extend.loop" ⟨[.ref S,.ref z,res],[]⟩) R s:=by
 have lx:=rx.length
 have ly:=ry.length
 intro k
 induction k with
 | zero =>
   intro i s H ts c hk hi h0 I o oS lS st eS et pr q
   have e:i=xv.length:=by omega
   subst e
   refine codeAny_builtin F.entry_extend_loop ?_
   rw[Around.under_plainId F.plain_extend_loop _]
   show wpAny (model X.prog X.w) A.in1 (pyNext (.ref z) >>= _) _ _ s
   obtain⟨hTI,h1,h2,hl1,hl2,hz⟩:=st
   rcases hz with⟨z0,_⟩|⟨_,T,b,hz,hT⟩
   ·omega
   refine wpAny_bind (next_over hh D hz hT hTI h1 hl1 (by simp;omega) fun h' k'=>?_)
   have kk:∀b u,b ∉ [z,TO,i1,i2]→s.heap.get? b=some u→h'.get? b=some u:=fun b u hb e=>k' b u (fun w=>hb (by simp[w])) (fun w=>hb (by simp[w])) (fun w=>hb (by simp[w])) e
   rw[take_of_length_le (by rw[length_zip];omega)] at pr
   exact wpAny_pure (q _ H ts (I.moved (t':=s.toks) (fun c hc=>(o c hc).1) kk) (zi.refl _) pr oS ⟨c,kk S _ hS eS⟩)
 | succ k ih =>
   intro i s H ts c hk hi h0 I o oS lS st eS et pr q
   have hlt:i<xv.length:=by omega
   refine codeAny_builtin F.entry_extend_loop ?_
   rw[Around.under_plainId F.plain_extend_loop _]
   show wpAny (model X.prog X.w) A.in1 (pyNext (.ref z) >>= _) _ _ s
   obtain⟨x,hx,vx⟩:=vals_at rx i hlt
   obtain⟨y,hy,vy⟩:=vals_at ry i (by omega)
   refine wpAny_bind (zip_item I (fun c hc=>(o c hc).1) D st hx hy vx vy fun s' I' st' k' z'=>?_)
   have eS':=k' S _ hS eS
   have hf:H s.heap.objs.size=none:=I.hok.fresh (le_refl _)
   have oS':Own X pins (L2.upd H s.heap.objs.size (.tup [xv[i],yv[i]])) S:=oS.upd (ne_of_lt lS)
   obtain⟨c2,hc2⟩:∃c2,(s'.heap.update S (Obj.mapSeq (·.push (Value.ref s.heap.objs.size)))).get? S=some { cls:=.type "list",dict:=none,data:=.seq ((ts++[s.heap.objs.size]).map Value.ref).toArray c2,slots := #[] } :=
    ⟨_,by rw[show((ts++[s.heap.objs.size]).map Value.ref).toArray=(ts.map Value.ref).toArray.push (Value.ref s.heap.objs.size)by simp];exact get?_update_seq eS' (·.push _)⟩
   have ko:∀b u,b≠S→s'.heap.get? b=some u→(s'.heap.update S (Obj.mapSeq (·.push (Value.ref s.heap.objs.size)))).get? b=some u:=fun b u hb e=>(get?_update_other _ _ (Ne.symm hb)).trans e
   have hln:=zx
   show wpAny (model X.prog X.w) A.in1 (updateSeq S (·.push (Value.ref s.heap.objs.size)) >>= _) _ _ _
   refine wpAny_bind ?_
   refine wpAny_updateSeq eS' rfl (wpAny_pure ⟨plainId_quiet F.plain_extend_loop _,ih (i+1) _ _ (ts++[s.heap.objs.size]) c2 (by omega) (by omega) h0 (I'.swap oS') (fun c hc=>?_) oS' ?_ (st'.keep (Nat.succ_pos _) ko ⟨_,hc2⟩ hS hSl) hc2 (by rw[length_append,et];rfl) ?_ ?_⟩) ?_ ?_
   ·refine⟨((o c hc).1).upd (ne_of_lt (o c hc).2),?_⟩
    show c<(s'.heap.update S _).objs.size
    rw[size_update,z']
    exact lt_succ_of_lt (o c hc).2
   ·show S<(s'.heap.update S _).objs.size
    rw[size_update,z']
    exact lt_succ_of_lt lS
   ·have e:(xv.zip yv).take (i+1)=(xv.zip yv).take i++[(xv[i],yv[i])]:=by
     rw[List.take_add_one,getElem?_eq_getElem (by rw[length_zip];omega)]
     simp
    rw[e]
    exact(pr.upd hf).snoc ze
   ·intro s2 H2 ts2 J1 J2 J3 J4 J5
    exact q s2 H2 ts2 J1 ((zi.new hf).trans J2) J3 J4 J5
   ·rw[size_toArray,length_map,et];omega
   ·rw[Array.size_push,size_toArray,length_map,et];omega
end
end L2
namespace L2
open PySem PySem.W PyProof.Rows PySem.Calls
theorem zip_len:typeLookup (.type "zip") "__len__"=pure none:=by rw[typeLookup_type,builtinLookup_eq_fast];kernel_rfl
theorem zip_hint:typeLookup (.type "zip") "__length_hint__"=pure none:=by rw[typeLookup_type,builtinLookup_eq_fast];kernel_rfl
section
variable {X:Cx}{pins:List (Addr×Obj)}{σ:St}{H:Hp}{s:Shared}{A:Around}{E:Value→Shared→Prop}{z TI TO i1 i2 l1 l2:Addr}{xs ys:List Value}{xv yv:List V}
theorem ziE{Q:List Value→Shared→Prop}(hh:A.in1.handled=none)(D:ZipApart z TI TO i1 i2 l1 l2)(rx:zF xv xs)(ry:zF yv ys)(hl:xv.length=yv.length)(hn:xv.length<64)(h0:0<xv.length)
 (I:Inv X pins σ H s) (o:∀c ∈ [z,TO,i1,i2],Own X pins H c∧c<s.heap.objs.size) (st:ZSt z TI TO i1 i2 l1 l2 xs.toArray ys.toArray 0 s)
 (q:∀s' H' ts,Inv X pins σ H' s'→zi H H'→Prs H' ts (xv.zip yv)→Q (ts.map Value.ref) s'):wpAny (model X.prog X.w) A (collect (.ref z)) Q E s:=by
 have hz:IsZip s.heap z TI TO .none:=by
  rcases st.2.2.2.2.2 with⟨_,hz,_⟩|⟨w,_⟩
  ·exact hz
  ·omega
 have lt:∀{c u},s.heap.get? c=some u→c<s.heap.objs.size:=fun e=>lt_size e
 have lz:=(o z (by simp)).2
 have hSz:s.heap.objs.size≠z:=ne_of_gt lz
 have oS:=I.own (b:=s.heap.objs.size) (le_refl _)
 unfold collect
 refine wpAny_bind (wpAny_runValue (codeAny_builtin F.entry_proto_collect ?_))
 rw[Around.under_plainId F.plain_proto_collect _]
 show wpAny (model X.prog X.w) A.in1 (newList [] >>= fun l=>again (.builtin "list.__iadd__" ⟨[l,.ref z],[]⟩)) _ _ s
 refine wpAny_bind (wpAny_newList ?_ (zero_le _))
 have I1:Inv X pins σ H { s with heap:=s.heap.push { cls:=.type "list",data:=.seq ([]:List Value).toArray } }:=I.kept (t':=s.toks) fun b u e=>get?_push_of_some _ e
 have hS1:(s.heap.push { cls:=.type "list",data:=.seq ([]:List Value).toArray }).get? s.heap.objs.size=some { cls:=.type "list",data:=.seq ([]:List Value).toArray }:=get?_push_size _ rfl
 have k1:∀b u,s.heap.get? b=some u→(s.heap.push { cls:=.type "list",data:=.seq ([]:List Value).toArray }).get? b=some u:=fun b u e=>get?_push_of_some _ e
 have z1:(s.heap.push { cls:=.type "list",data:=.seq ([]:List Value).toArray }).objs.size=s.heap.objs.size+1:=size_push ..
 show wpAny (model X.prog X.w) A.in1 (again (.builtin "list.__iadd__" ⟨[.ref s.heap.objs.size,.ref z],[]⟩)) _ _ { s with heap:=s.heap.push { cls:=.type "list",data:=.seq ([]:List Value).toArray } }
 generalize s.heap.push { cls:=.type "list",data:=.seq ([]:List Value).toArray }=h1 at I1 hS1 k1 z1
 refine wpAny_pure ⟨plainId_quiet F.plain_list_iadd _,codeAny_builtin F.entry_list_iadd ?_⟩
 rw[Around.under_plainId F.plain_list_iadd _]
 show wpAny (model X.prog X.w) A.in1 (Builtin.List.listExtendWith (.ref s.heap.objs.size) (.ref z) (.ref s.heap.objs.size)) _ _ _
 unfold Builtin.List.listExtendWith
 have tz:Shared.TypeIs { s with heap:=h1 } (.ref z) "zip":=⟨_,k1 _ _ hz,rfl⟩
 refine wpAny_bind (wpAny_typeOf tz ?_)
 have e1:Builtin.List.listSameRef (.ref s.heap.objs.size) (.ref z)=false:=by simp[Builtin.List.listSameRef,hSz]
 have e2:(Value.type "zip" == Value.type "list")=false:=by decide
 have e3:(Value.type "zip" == Value.type "tuple")=false:=by decide
 simp only[e1,e2,e3,Bool.or_false,if_false,Bool.false_eq_true]
 refine wpAny_bind (wpAny_pyIter_zip (k1 _ _ hz) ?_)
 refine wpAny_bind (wpAny_holding ?_)
 unfold Builtin.List.listLengthHint
 refine wpAny_bind (wpAny_specialOf tz zip_len ?_)
 show wpAny (model X.prog X.w) A.in1 (specialOf (Value.ref z) (Str.ofString "__length_hint__") >>= _) _ _ _
 refine wpAny_bind (wpAny_specialOf tz zip_hint (wpAny_pure ?_))
 show wpAny (model X.prog X.w) A.in1 (rule "list.extend.makes-room" >>= fun _=>Builtin.List.listTouch (.ref s.heap.objs.size) >>= fun _=>again (.builtin "list.extend.loop" ⟨[.ref s.heap.objs.size,.ref z,.ref s.heap.objs.size],[]⟩)) _ _ _
 refine wpAny_bind (wpAny_rule (wpAny_bind ?_))
 show wpAny (model X.prog X.w) A.in1 (updateSeq s.heap.objs.size (·.push .none) >>= fun _=>updateSeq s.heap.objs.size (·.pop)) _ _ _
 refine wpAny_bind (wpAny_updateSeq hS1 rfl ?_)
 have hS2:=Heap.get?_update_self (Obj.mapSeq (·.push Value.none)) hS1 rfl
 refine wpAny_updateSeq hS2 rfl ?_
 have hS3:=Heap.get?_update_self (Obj.mapSeq (·.pop)) hS2 rfl
 have I3:=(I1.swap (f:=Obj.mapSeq (·.push Value.none)) oS).swap (f:=Obj.mapSeq (·.pop)) oS
 have k3:∀b u,b≠s.heap.objs.size→s.heap.get? b=some u→((h1.update s.heap.objs.size (Obj.mapSeq (·.push Value.none))).update s.heap.objs.size (Obj.mapSeq (·.pop))).get? b=some u :=
  fun b u hb e=>(get?_update_other _ _ (Ne.symm hb)).trans ((get?_update_other _ _ (Ne.symm hb)).trans (k1 b u e))
 have z3:((h1.update s.heap.objs.size (Obj.mapSeq (·.push Value.none))).update s.heap.objs.size (Obj.mapSeq (·.pop))).objs.size=s.heap.objs.size+1:=by rw[size_update,size_update,z1]
 have kk:∀b u,s.heap.get? b=some u→((h1.update s.heap.objs.size (Obj.mapSeq (·.push Value.none))).update s.heap.objs.size (Obj.mapSeq (·.pop))).get? b=some u:=fun b u e=>k3 b u (ne_of_lt (lt e)) e
 obtain⟨a1,a2,a3,a4,a5,a6⟩:=st
 refine wpAny_pure ⟨plainId_quiet F.plain_extend_loop _,zip_loop (S:=s.heap.objs.size) (xs:=xs) (ys:=ys) (xv:=xv) (yv:=yv) hh D (fun m=>lt_irrefl _ (o _ m).2) ⟨ne_of_gt (lt a1),?_,?_⟩ rx ry hl hn _ 0 _ H [] _ rfl (zero_le _) h0 I3 (fun c hc=>⟨(o c hc).1,?_⟩) oS ?_ ⟨kk _ _ a1,a2.at fun u e=>kk _ u e,a3.at fun u e=>kk _ u e,a4.at fun u e=>kk _ u e,a5.at fun u e=>kk _ u e,?_⟩ hS3 rfl .nil fun s' H' ts J1 J2 J3 J4 J5=>?_⟩
 ·obtain⟨u,hu,_⟩:=a4;exact ne_of_gt (lt hu)
 ·obtain⟨u,hu,_⟩:=a5;exact ne_of_gt (lt hu)
 ·show c<Array.size _
  rw[z3];exact lt_succ_of_lt (o c hc).2
 ·show s.heap.objs.size<Array.size _
  rw[z3];exact lt_succ_self _
 ·rcases a6 with⟨_,b1,a,b,b2⟩|⟨w,_⟩
  ·exact .inl ⟨rfl,kk _ _ b1,a,b,kk _ _ b2⟩
  ·omega
 ·obtain⟨c,J5⟩:=J5
  show wpAny (model X.prog X.w) A (load s.heap.objs.size >>= _) _ _ s'
  refine wpAny_bind (wpAny_load J5 (wpAny_pure ?_))
  exact q s' H' ts J1 J2 J3
end
section
variable {X:Cx}{pins:List (Addr×Obj)}{σ:St}{H:Hp}{s:Shared}{A:Around}{E:Value→Shared→Prop}{z TI TO i1 i2 l1 l2 q:Addr}{xs ys:List Value}{xv yv:List V}{kz:List Int}
theorem Inv.trackO{T:Addr}{v:HO}(I:Inv X pins σ H s)(o:Own X pins H T)(new:wf X.prog X.w (upd H T v) s.heap T v):Inv X pins σ (upd H T v) s:=by
 have hf:=o.free
 have up:∀b u,H b=some u→upd H T v b=some u:=fun b u e=>by rw[zl (zr e hf)];exact e
 refine I.step (h':=s.heap) (g':=s.gens) (d':=s.drawn) (t':=s.toks) (ch:=[T]) (fun b hb=>?_) (fun b u _ _ hc e _=>e) (fun b u _ _ hc e _=>⟨u.slots,e⟩)
  (fun b u hc e n=>by rw[zl (fun w=>hc (by simp[w]))];exact n) (fun b u hc e=>⟨u,e⟩) (fun b _ e=>up b _ e) (fun b _ _ e=>up b _ e) (fun b ps e=>⟨#[],by rw[up b _ e];simp⟩) (fun m hm=>hm) (fun b u e=>?_) I.bare
 ·rw[List.mem_singleton.mp hb]
  exact⟨.inr o.new,o.loc,o.cell,o.pin⟩
 ·by_cases hb:b=T
  ·subst hb
   rw[ze] at e
   cases e
   exact new
  ·rw[zl hb] at e
   exact(I.hok b u e).stay (fun c w hc k=>k) (fun c k=>up c _ k) fun c _ k=>up c _ k
theorem Prs.length{ts:List Addr}{ps:List (V×V)}(h:Prs H ts ps):ts.length=ps.length:=by
 induction h with
 | nil=>rfl
 | cons _ _ ih=>rw[length_cons,length_cons,ih]
theorem sorted_zip{Q:Value→Shared→Prop}(hh:A.in1.in1.handled=none)(D:ZipApart z TI TO i1 i2 l1 l2)(rx:zF xv xs)(ry:zF yv ys)(hl:xv.length=yv.length)(hn:xv.length<64)(h0:0<xv.length)(hk:kz.length=xv.length)
 (I:Inv X pins σ H s) (o:∀c ∈ [z,TO,i1,i2],Own X pins H c∧c<s.heap.objs.size) (st:ZSt z TI TO i1 i2 l1 l2 xs.toArray ys.toArray 0 s)
 (calls:∀(H':Hp)(ts:List Addr),zi H H'→Prs H' ts (xv.zip yv)→∀(i:Nat)(v:Value)(pins':List (Addr×Obj)) (s':Shared),(ts.map Value.ref)[i]? = some v→Inv X pins' σ H' s' →
   wpAny (model X.prog X.w) A.in1.in1 (call (.ref q) [v]) (fun k s''=>Inv X pins' σ H' s''∧∃t,k=Value.int (kz.getD i 0) t) (fun _ _=>False) s')
 (fin:∀(s':Shared)(H':Hp)(ts:List Addr)(l:Addr)(p:Array Nat),zi H H'→Prs H' ts (xv.zip yv)→H' l=none→M14.I (fun k=>kz.getD k 0) xv.length p xv.length→Inv X pins σ (upd H' l (.lst (p.toList.map fun i=>V.ref (ts.getD i 0)))) s'→Q (.ref l) s') :
 wpAny (model X.prog X.w) A (call (.builtin "sorted") [.ref z] [(Str.ofString "key",.ref q)]) Q E s:=by
 have hln:=zx
 refine call_function_entry_kw kind_sorted plain_sorted entry_sorted (ksk_s1 _ _) ?_
 unfold Builtin.«sorted»
 refine wpAny_bind (m:=checkCount "sorted" 1 1 _) (wpAny_pure ?_)
 refine wpAny_bind (ziE hh D rx ry hl hn h0 I o st fun s1 H1 ts I1 sm pr=>?_)
 have lt:ts.length=xv.length:=by rw[pr.length,length_zip];omega
 refine wpAny_bind (wpAny_newList ?_ (by rw[length_map];omega))
 have I2:Inv X pins σ H1 { s1 with heap:=s1.heap.push (seqObj "list" (ts.map Value.ref).toArray 0) }:=I1.kept (t':=s1.toks) fun b u e=>get?_push_of_some _ e
 have hD:(s1.heap.push (seqObj "list" (ts.map Value.ref).toArray 0)).get? s1.heap.objs.size=some (seqObj "list" (ts.map Value.ref).toArray 0):=get?_push_size _ rfl
 have oD:=I1.own (b:=s1.heap.objs.size) (le_refl _)
 refine wpAny_bind (wpAny_holding (wpAny_call_entry_kw slot_list_sort ⟨_,hD,rfl⟩ entry_list_sort ?body (ksk_l1 _ _)))
 case body =>
  show wpAny (model X.prog X.w) A.in1.in1 (Builtin.«list.sort» ⟨[.ref s1.heap.objs.size],[(Str.ofString "key",.ref q)]⟩) _ _ _
  rw[ksk_t1]
  refine wpAny_mono (keyed (f:=.ref q) (kz:=kz) (vs:=ts.map Value.ref) I2 oD hD (by rw[length_map];omega) (by rw[length_map];omega) (by rw[length_map];omega) (calls H1 ts sm pr)) (fun r s2 w=>?_) fun _ _ w=>w
  obtain⟨rfl,p,e,hp,I3,h3⟩:=w
  rw[length_map,lt] at hp
  refine⟨_,rfl,wpAny_pure ⟨_,rfl,?_⟩⟩
  refine fin s2 H1 ts _ p sm pr oD.free hp (I3.trackO oD ⟨?_,p.toList.map fun i=>(ts.map Value.ref).getD i Value.none,e,?_,h3⟩)
  ·rw[length_map,Array.length_toList,hp.1.size];omega
  ·have hm:∀i∈p.toList,i<ts.length:=fun i hi=>by
    have:=(hp.1.pm.toList.mem_iff (a:=i)).mp hi
    rw[lt]
    simpa using this
   revert hm
   generalize p.toList=l
   intro hm
   induction l with
   | nil=>exact .nil
   | cons a l ih =>
     have ha:=hm a (mem_cons_self ..)
     refine .cons ?_ (ih fun i hi=>hm i (mem_cons_of_mem _ hi))
     have e:(ts.map Value.ref).getD a Value.none=Value.ref (ts.getD a 0):=by simp[ha]
     show zS (V.ref (ts.getD a 0)) ((ts.map Value.ref).getD a Value.none)
     rw[e]
     rfl
end
section
variable {X:Cx}{pins:List (Addr×Obj)}{σ:St}{H:Hp}{s:Shared}{A:Around}{E:Value→Shared→Prop}{l1 l2:Addr}{xv yv:List V}
theorem made_zip{Q:Value→Shared→Prop}(I:Inv X pins σ H s)(h1:SqL X.K H l1 xv)(h2:SqL X.K H l2 yv)
 (q:∀(s':Shared)(z TI TO i1 i2:Addr)(xs ys:List Value),zF xv xs→zF yv ys→Inv X pins σ H s'→ZipApart z TI TO i1 i2 l1 l2→(∀c ∈ [z,TO,i1,i2],Own X pins H c∧c<s'.heap.objs.size)→ZSt z TI TO i1 i2 l1 l2 xs.toArray ys.toArray 0 s'→Q (.ref z) s') :
 wpAny (model X.prog X.w) A (call (.type "zip") [.ref l1,.ref l2]) Q E s:=by
 obtain⟨xs,r1,p1,_⟩:=I.list h1
 obtain⟨ys,r2,p2,_⟩:=I.list h2
 have b1:=p1.isList
 have b2:=p2.isList
 have t1:l1<s.heap.objs.size:=by obtain⟨u,hu,_⟩:=b1;exact lt_size hu
 have t2:l2<s.heap.objs.size:=by obtain⟨u,hu,_⟩:=b2;exact lt_size hu
 refine call_zip_2 b1 b2 fun h' hz hTI hTO hi1 hi2 hsz hk=>?_
 have n:∀(l:Addr)(d:Nat),l<s.heap.objs.size→l≠s.heap.objs.size+d:=fun l d h=>ne_of_lt (lt_of_lt_of_le h (le_add_right _ _))
 have m:∀d e:Nat,d≠e→s.heap.objs.size+d≠s.heap.objs.size+e:=fun d e h w=>h (Nat.add_left_cancel w)
 refine q _ (s.heap.objs.size+4) (s.heap.objs.size+2) (s.heap.objs.size+3) (s.heap.objs.size+0) (s.heap.objs.size+1) xs ys r1 r2 (I.kept (t':=s.toks) hk)
  ⟨m 2 4 (by decide),m 3 4 (by decide),m 0 4 (by decide),m 1 4 (by decide),m 2 3 (by decide),m 2 0 (by decide),m 2 1 (by decide),m 3 0 (by decide),m 3 1 (by decide),m 0 1 (by decide),n _ 4 t1,n _ 3 t1,n _ 0 t1,n _ 1 t1,n _ 4 t2,n _ 3 t2,n _ 0 t2,n _ 1 t2⟩ (fun c hc=>?_)
  ⟨hTI,hi1,hi2,b1.at fun u e=>hk _ u e,b2.at fun u e=>hk _ u e,.inl ⟨rfl,hz,_,_,hTO⟩⟩
 have hb:∃d,d<5∧c=s.heap.objs.size+d:=by
  simp only[mem_cons,not_mem_nil,or_false] at hc
  rcases hc with w | w | w | w
  ·exact⟨4,by decide,w⟩
  ·exact⟨3,by decide,w⟩
  ·exact⟨0,by decide,w⟩
  ·exact⟨1,by decide,w⟩
 obtain⟨d,hd,rfl⟩:=hb
 refine⟨I.own (le_add_right _ _),?_⟩
 show s.heap.objs.size+d<Array.size _
 rw[hsz]
 exact Nat.add_lt_add_left hd _
end
end L2
namespace L2
open PySem PySem.W PySem.Spec PyProof.Rows PySem.Calls
def zdY(mg:Str→Option Value)(h:Heap):Prop:=∃bm ob,mg "__builtins__"=some (.ref bm)∧bm≠builtinsNs∧h.get? bm=some ob∧ob.cls=.type "module"∧ob.dict=some builtinsNs∧ob.data=.plain
abbrev fnO(f:Addr)(o:Obj):HO:=.ext fun h=>h.get? f=some o
abbrev zfc(c:Addr)(q:Str):HO:=.ext fun h=>h.CodeRec (.ref c) q
def yy(H H':Hp):Prop:=(∀b u,H b=some u→(∀ps,u ≠ .tbl ps)→H' b=some u)∧∀b ps,H b=some (.tbl ps)→∃qs,H' b=some (.tbl qs)
theorem zi.toN{H H':Hp}(s:zi H H'):yy H H':=⟨fun b u e _=>s b u e,fun b ps e=>⟨ps,s b _ e⟩⟩
theorem yy.trans{H H1 H2:Hp}(a:yy H H1)(b:yy H1 H2):yy H H2:=⟨fun c u e n=>b.1 c u (a.1 c u e n) n,fun c ps e=>let ⟨qs,e1⟩:=a.2 c ps e;b.2 c qs e1⟩
theorem yy.free{H H':Hp}{l:Addr}(s:yy H H')(h:H' l=none):H l=none:=by
 cases e:H l with
 | none=>rfl
 | some u =>
   by_cases hu:∃ps,u=.tbl ps
   ·obtain⟨ps,rfl⟩:=hu
    obtain⟨qs,e1⟩:=s.2 l ps e
    rw[h] at e1;cases e1
   ·have e1:=s.1 l u e fun ps z=>hu ⟨ps,z⟩
    rw[h] at e1;cases e1
def noT(H:Hp):Hp:=fun b=>match H b with
 | some (.tbl _)=>none
 | x=>x
theorem noT_of{H:Hp}{b:Addr}{u:HO}(e:H b=some u)(n:∀ps,u ≠ .tbl ps):noT H b=some u:=by
 unfold noT
 rw[e]
 cases u <;> first | rfl | exact absurd rfl (n _)
theorem of_noT{H:Hp}{b:Addr}{u:HO}(e:noT H b=some u):H b=some u∧∀ps,u ≠ .tbl ps:=by
 unfold noT at e
 split at e
 ·cases e
 ·rename_i z
  refine⟨e,fun ps w=>?_⟩
  subst w
  exact z ps e
theorem yy.same{H H':Hp}(s:yy H H'):zi (noT H) H':=fun b u e=>let ⟨h,n⟩:=of_noT e;s.1 b u h n
theorem SqL.noT{K:Frag}{H:Hp}{a:Addr}{xs:List V}(h:SqL K H a xs):SqL K (L2.noT H) a xs:=by
 rcases h with(h | ⟨o,h⟩) | h
 ·exact .inl (.inl (noT_of h fun _ z=>by cases z))
 ·exact .inl (.inr ⟨o,noT_of h fun _ z=>by cases z⟩)
 ·exact .inr h
section
variable {X:Cx}{pins:List (Addr×Obj)}{σ:St}{H:Hp}{s:Shared}{E:Value→Shared→Prop}
theorem Inv.lam{P c':Addr}{ps more:Array Value}{h':Heap}{fo:Obj}{q:Str}{tk:Nat}(I:Inv X pins σ H s)(hfo:fo.isFreed=false)(hP:H P=some (.tbl ps))(hx:Heap.ExtBut P s.heap h')(hc:s.heap.objs.size≤c')(hlt:c'<h'.objs.size)
 (hcd:h'.CodeRec (.ref c') q) (ht:h'.get? P=some (tabObj (ps++more))) :
 Inv X pins σ (upd (upd (upd H P (.tbl (ps++more))) c' (zfc c' q)) h'.objs.size (fnO h'.objs.size fo)) { s with heap:=h'.push fo,toks:=tk }:=by
 have hPs:P<s.heap.objs.size:=I.hok.lt hP
 have nPc:P≠c':=ne_of_lt (lt_of_lt_of_le hPs hc)
 have ncf:c'≠h'.objs.size:=ne_of_lt hlt
 have nPf:P≠h'.objs.size:=ne_of_lt (lt_trans (lt_of_lt_of_le hPs hc) hlt)
 have old:∀b,b<s.heap.objs.size→b≠P→upd (upd (upd H P (.tbl (ps++more))) c' (zfc c' q)) h'.objs.size (fnO h'.objs.size fo) b=H b:=fun b hb n=>by
  rw[zl (ne_of_lt (lt_trans (lt_of_lt_of_le hb hc) hlt)),zl (ne_of_lt (lt_of_lt_of_le hb hc)),zl n]
 have atP:upd (upd (upd H P (.tbl (ps++more))) c' (zfc c' q)) h'.objs.size (fnO h'.objs.size fo) P=some (.tbl (ps++more)):=by rw[zl nPf,zl nPc,ze]
 have k:∀b u,b≠P→s.heap.get? b=some u→(h'.push fo).get? b=some u:=fun b u n e=>get?_push_of_some _ (hx b u n e)
 have nP:∀b u,H b=some u→(∀w,u ≠ .tbl w)→b≠P:=fun b u e n z=>by rw[z,hP] at e;cases e;exact n _ rfl
 have keepH:∀b u,H b=some u→(∀w,u ≠ .tbl w)→upd (upd (upd H P (.tbl (ps++more))) c' (zfc c' q)) h'.objs.size (fnO h'.objs.size fo) b=some u:=fun b u e n=>by
  rw[old b (I.hok.lt e) (nP b u e n)];exact e
 refine I.step (g':=s.gens) (d':=s.drawn) (ch:=[]) (fun _ z=>nomatch z) (fun b o _ _ _ e n=>k b o (fun z=>by rw[z,hP] at n;cases n) e) (fun b o _ _ _ e n=>⟨o.slots,k b o (fun z=>by rw[z,hP] at n;cases n) e⟩)
  (fun b o _ e n=>by rw[old b (lt_size e) (fun z=>by rw[z,hP] at n;cases n)];exact n) (fun b o _ e=>?_) (fun b xs e=>keepH b _ e fun _ z=>by cases z) (fun b o u e=>keepH b _ e fun _ z=>by cases z) (fun b w e=>?_) (fun m hm=>?_) (fun b u e=>?_) I.bare
 ·by_cases hb:b=P
  ·subst hb;exact⟨_,get?_push_of_some _ ht⟩
  ·exact⟨o,k b o hb e⟩
 ·by_cases hb:b=P
  ·subst hb
   rw[hP] at e
   cases e
   exact⟨more,atP⟩
  ·exact⟨#[],by rw[old b (I.hok.lt e) hb,e];simp⟩
 ·have nL:X.env.locals≠P:=fun z=>by have:=I.free;rw[z,hP] at this;cases this
  obtain⟨o,es,ep,ho,r⟩:=hm
  exact⟨o,es,ep,k _ o nL ho,r⟩
 ·by_cases hf:b=h'.objs.size
  ·subst hf
   rw[ze] at e
   cases e
   exact⟨get?_push_size _ hfo,⟨fo,get?_push_size _ hfo⟩,fun h1 h2 a b=>b _ a⟩
  ·by_cases hc':b=c'
   ·subst hc'
    rw[zl ncf,ze] at e
    cases e
    obtain⟨c,oc,vs,t,e1,e2,e3,e4⟩:=hcd
    cases e1
    exact⟨⟨b,oc,vs,t,rfl,get?_push_of_some _ e2,e3,e4⟩,⟨oc,get?_push_of_some _ e2⟩,fun h1 h2 ⟨c,oc,vs,t,e1,e2,e3⟩ q=>by cases e1;exact⟨b,oc,vs,t,rfl,q _ e2,e3⟩⟩
   ·by_cases hb:b=P
    ·subst hb
     rw[atP] at e
     cases e
     exact get?_push_of_some _ ht
    ·rw[zl hf,zl hc',zl hb] at e
     refine(I.hok b u e).stay (fun c v hc q=>k c v ?_ q) (fun c w=>keepH c _ w fun _ z=>by cases z) fun c xs w=>keepH c _ w fun _ z=>by cases z
     rcases hc with rfl | hc
     ·exact hb
     ·exact nP c _ hc fun _ z=>by cases z
end
theorem lam_ok{P:Program}{w:World}{K:Frag}{mg:Str→Option Value}{base:Heap}{k:Nat}{f c':Addr}{name qual:Str}{params:Arguments}{body:Expr}{scope:Scope}{pm ctv:Value}{N ps:List Str}{sp:Sp}(S:FnScope N ps scope)
 (len:∀vs H Q E,sp vs H Q E→vs.length=ps.length)
 (has:∀vs H Q E,sp vs H Q E→H f=some (fnO f (kla_obj name qual params body scope [] pm c' ctv))∧H c'=some (zfc c' qual))
 (hbody:∀(A:Around)(outer:List Env)(s:Shared)(H:Hp)(vs:List V)(Q:VK)(E:XK),Room k (A.deeper (envOfC qual scope s.heap.objs.size f (.ref c')))→sp vs H Q E →
   ∃t,PE (zbP CX0 P w K mg base N qual scope f (.ref c') A outer s H E) body t∧t (zbu N vs) H Q) :
 FnOk P w K mg base CX0 (k+1) f (kla_fn name qual params body scope [] pm (.ref c') ctv) ps sp:=by
 refine⟨len,fun A outer s H args us vs Q E hr e0 hb r hsp=>?_⟩
 have hl:=len _ _ _ _ hsp
 obtain⟨a1,a2⟩:=has _ _ _ _ hsp
 obtain⟨o1,_⟩:=e0.hok f _ a1
 obtain⟨o2,_⟩:=e0.hok c' _ a2
 have lim:s.heap.NoLimit:=e0.mod.nolimit.keeps fun b o e=>(e0.bs b o e).1
 have hkind:∀y∈ps.zip us,scope.names.lookup y.1=some .local∨(scope.names.lookup y.1=some .cell∧((cellsFrom (s.heap.objs.size+1) scope.names []).lookup y.1).isSome=true):=fun⟨n,v⟩ hy=>by
  rcases S.par n (of_mem_zip hy).1 with q | q
  ·exact .inl q
  ·exact .inr ⟨q,cellsFrom_some _ _ _ (.inl q)⟩
 refine kla_callFunE hr.depth o1 rfl S.co S.gen rfl o2 (hb _ _ _ _ ?_)
 refine wpAny_newFunctionEnv_cells S.kind hkind fun env he s1 x=>?_
 subst he
 refine⟨lim.keeps x.toInCall.keep,kla_codeExpr ?_⟩
 obtain⟨t,ht,hq⟩:=hbody A outer s H vs Q E (hr.deeper _) hsp
 have I:Inv (zbP CX0 P w K mg base N qual scope f (.ref c') A outer s H E) [] (zbu N vs) H s1:=zgG S hr.hd e0 hl r x
 refine wpAny_mono (ht [] s1 (zbu N vs) H _ I hq) (fun u s' hs=>?_) fun e s' hs=>hs
 obtain⟨v,H',J,rv,q⟩:=hs
 exact⟨v,H',J.os,J.bare,J.base,J.hok,rv,q⟩
def sp_fst(f c':Addr)(o:Obj)(q:Str):Sp:=fun vs H Q _=>H f=some (fnO f o)∧H c'=some (zfc c' q)∧∃(t:Addr)(x y:V),vs=[.ref t]∧H t=some (.tup [x,y])∧Q x H
theorem Prs.get{H:Hp}:∀{ts:List Addr}{ps:List (V×V)},Prs H ts ps→∀(i:Nat)(t:Addr),ts[i]? = some t→∃p,ps[i]? = some p∧H t=some (.tup [p.1,p.2])
 | _,_,.nil,i,t,e=>by simp at e
 | _,_,.cons h r,0,t,e=>by
   simp at e
   subst e
   exact⟨_,rfl,h⟩
 | _,_,.cons h r,i+1,t,e=>by
   obtain⟨p,e1,e2⟩:=Prs.get r i t (by simpa using e)
   exact⟨p,by simpa using e1,e2⟩
section
variable {X:Cx}{ex ey:Expr}{t:TA}{c P:Addr}{y:Str}{p1 p2 p3 p4 p5 pos pos2 lpos kp:Pos}{j:Nat}{params:Arguments}{scope:Scope}
end
def zaR(K:Frag)(x:Str):Addr:=match tabIn K x with
 | some (_,P)=>P
 | none=>0
structure Lam (K:Frag) (x:Str) (f:Addr):Prop where
 ex:∃c,codeHdIn K c (zaR K x)=true∧∃(oc:Value)(od:Option Addr)(fd:FuncData)(osl:Array (Option Value)),K.lookup f=some ⟨oc,od,.func fd,osl⟩∧fd.code=.ref c
def LamK(K:Frag)(x:Str):Prop:=(∃c,tabIn K x=some (c,zaR K x))∧K.lookup (zaR K x)=none
theorem lam_mk{K:Frag}{x:Str}{f c P:Addr}{oc o1:Value}{od d1:Option Addr}{fd:FuncData}{osl s1:Array (Option Value)}{vs:Array Value}(a:nsIn K mainGlobals x=some (some (.ref f)))(l:K.lookup f=some ⟨oc,od,.func fd,osl⟩)(e:fd.code=.ref c)
 (lk:K.lookup c=some ⟨o1,d1,.fields vs,s1⟩) (lv:vs[11]? = some (.ref P)) (lh:codeHdIn K c P=true) (ln:K.lookup P=none):Lam K x f∧LamK K x:=by
 have ht:tabIn K x=some (c,P):=by
  unfold tabIn
  rw[a]
  dsimp only
  rw[l]
  dsimp only
  rw[e]
  dsimp only
  rw[lk]
  dsimp only
  rw[lv]
 have hp:zaR K x=P:=by unfold zaR;rw[ht]
 exact⟨⟨c,by rw[hp];exact lh,oc,od,fd,osl,l,e⟩,⟨c,by rw[hp];exact ht⟩,by rw[hp];exact ln⟩
section
variable {P:Program}{w:World}{K:Frag}{mg:Str→Option Value}{base:Heap}
theorem Fun.okC{x qual y:Str}{st:Stmt}{f:Addr}{fd:FuncData}{N ps:List Str}{k:Nat}{sp:Sp}(F:Fun K x qual st f fd)(L:Lam K y f)(S:FnScope N ps (zc st))(len:∀vs H Q E,sp vs H Q E→vs.length=ps.length)
 (hbody:∀(c:Addr)(A:Around)(outer:List Env)(s:Shared)(H:Hp)(vs:List V)(Q:VK)(E:XK),codeHdIn K c (zaR K y)=true→Room k (A.deeper (envOfC qual (zc st) s.heap.objs.size f (.ref c)))→sp vs H Q E →
   ∃t,PSs (zbP CX0 P w K mg base N qual (zc st) f (.ref c) A outer s H E).nox (zo st) t∧t { nx:=fun _ H'=>Q .non H',rt:=Q } (zbu N vs) H):FnOk P w K mg base CX0 (k+1) f fd ps sp:=by
 obtain⟨oc,od,kV,doc,pm,an,cdv,ct,osl,rfl,lk,hcd⟩:=F.ex
 obtain⟨c,hc,oc',od',fd',osl',lk',e⟩:=L.ex
 rw[lk] at lk'
 cases lk'
 have e:cdv=.ref c:=e
 subst e
 refine fn_of lk hcd S len fun A outer s H vs Q E hr hsp=>?_
 obtain⟨t,h,q⟩:=hbody c A outer s H vs Q E hc hr hsp
 exact⟨t,h.nox,q⟩
end
theorem law_callT{P:Program}{w:World}{K:Frag}{mg mb:Str→Option Value}{CX:CXT}{k:Nat}{fa a c T:Addr}{fd:FuncData}{x:Str}{sp:Sp}{s₁:Shared}{vs:List Value}{ns:List Int}
 (KX:K.In s₁.heap) (hns:s₁.heap.Ns mainGlobals mg) (hb:s₁.heap.Ns builtinsNs mb) (hbb:∀x:Str,x≠"__name__"→mb x=bootBuiltins x) (hlim:s₁.heap.NoLimit) (hbm:zdY mg s₁.heap) (hg:s₁.gens = #[])
 (hC:CodeHd s₁.heap c T) (hT:s₁.heap.get? T=some (tabObj #[])) (hTK:K.lookup T=none)
 (ha:s₁.heap.get? a=some { cls:=.type "list",data:=.seq vs.toArray }) (hi:IntsAre vs ns) (hl:ns.length≤sizeLine) (hr:Room k callerA)
 (F:∀base:Heap,K.In base→base.Ns mainGlobals mg→zdY mg base→FnOk P w K mg base CX k fa fd [x] sp) (hbind:∀(s:Shared)(u:Value),BindsTo s fd ⟨[u],[]⟩ [(x,u)])
 (hsp:∀H:Hp,H T=some (.tbl #[])→SqL K H a (ns.map V.int)→sp [.ref a] H (fun v _=>v=.bl true) fun _ _ _=>False)
 (hCX:∀H e s',CX [] H s₁ (fun _ _ _=>False) e s'→False) :
 codeAny (model P w) callerA (.call (.ref fa) ⟨[.ref a],[]⟩) (fun r s'=>r=.ok (.ret (.bool true))∧OldK s₁.heap s'.heap∧s'.os=s₁.os∧AllBare s'.gens) s₁:=by
 have rv:=zgM hi
 have lenV:=hi.length
 have naT:a≠T:=fun z=>by rw[z,hT] at ha;cases ha
 have core:∀H:Hp,(∀b,b≠T→H b=none∨∃o xs,H b=some (.frz o (.lst xs)))→H T=some (.tbl #[])→SqL K H a (ns.map V.int)→HOk P w H s₁.heap→(∀b,H b≠none→b=a∨b=T)→(H a≠none→K.lookup a=none) →
  codeAny (model P w) callerA (.call (.ref fa) ⟨[.ref a],[]⟩) (fun r s'=>r=.ok (.ret (.bool true))∧OldK s₁.heap s'.heap∧s'.os=s₁.os∧AllBare s'.gens) s₁:=by
  intro H hO hHT hS hok hA hK
  have base_of:∀{b:Addr}{o:Obj},s₁.heap.get? b=some o→H b=none→(zgp s₁.heap H).get? b=some o:=fun e n=>hidT_get e n
  have noA:∀{b:Addr}{o:Obj},s₁.heap.get? b=some o→o.cls ≠ .type "list"→o.cls ≠ .none→H b=none:=fun {b o} e d d2=>by
   cases q:H b with
   | none=>rfl
   | some u =>
     rcases hA b (by rw[q];simp)with e' | e'
     ·subst e'
      rw[ha] at e;cases e
      exact absurd rfl d
     ·subst e'
      rw[hT] at e;cases e
      exact absurd rfl d2
  have noD:∀{b:Addr}{o:Obj}{es:Array DictEntry}{ep:Nat},s₁.heap.get? b=some o→o.data=.dict es ep→H b=none:=fun {b o es ep} e d=>by
   cases q:H b with
   | none=>rfl
   | some u =>
     rcases hA b (by rw[q];simp)with e' | e'
     ·subst e'
      rw[ha] at e;cases e
      have d':Data.seq vs.toArray _=Data.dict es ep:=d
      cases d'
     ·subst e'
      rw[hT] at e;cases e
      have d':Data.fields #[]=Data.dict es ep:=d
      cases d'
  have nsK:∀{b:Addr}{m:Str→Option Value},s₁.heap.Ns b m→(zgp s₁.heap H).Ns b m:=fun {b m} ⟨o,es,ep,e,d,r⟩=>⟨o,es,ep,base_of e (noD e d),d,r⟩
  have hKb:K.In (zgp s₁.heap H):=fun b o e=>base_of (KX b o e) (by
   cases q:H b with
   | none=>rfl
   | some u =>
     rcases hA b (by rw[q];simp)with e' | e'
     ·subst e'
      rw[hK (by rw[q];simp)] at e;cases e
     ·subst e'
      rw[hTK] at e;cases e)
  have hM:Mod K mg (zgp s₁.heap H):=⟨hKb,nsK hns,⟨mb,nsK hb,hbb⟩,let ⟨mc,h1,h2⟩:=hlim;⟨mc,nsK h1,h2⟩⟩
  have hBM:zdY mg (zgp s₁.heap H):=let ⟨bm,ob,b1,b2,b3,b4,r⟩:=hbm;⟨bm,ob,b1,b2,base_of b3 (noA b3 (by rw[b4];decide) (by rw[b4];intro z;cases z)),b4,r⟩
  have e0:Env0 P w K mg (zgp s₁.heap H) callerA [] s₁ H:=⟨rfl,hM,fun b o e=>of_hidT e,le_of_eq (hidT_size _ _),trivial,fun b hb=>absurd (show b∈([]:List Addr)from hb) (by simp),hok,.of_eq hg⟩
  refine codeAny_mono ((F _ hKb (nsK hns) hBM).run callerA [] s₁ H ⟨[.ref a],[]⟩ [.ref a] [.ref a] _ _ hr e0 (hbind s₁ (.ref a)) (.cons rfl .nil) (hsp H hHT hS)) fun r s' h=>?_
  cases r with
  | error e=>exact(hCX H e s' h).elim
  | ok fl =>
    cases fl with
    | next=>exact False.elim h
    | brk=>exact False.elim h
    | cont=>exact False.elim h
    | ret u =>
      obtain⟨v,H',os,bare,un,hok',r',q⟩:=h
      have q':v=.bl true:=q
      subst q'
      obtain rfl:u=Value.bool true:=r'
      obtain⟨more,eT⟩:=un.tbls T #[] hHT
      have eT2:s'.heap.get? T=some (tabObj (#[]++more)):=hok' T _ eT
      have kept:∀b o,b≠T→s₁.heap.get? b=some o→s'.heap.get? b=some o:=fun b o n e=>by
       cases q:H b with
       | none=>exact un.keep b o e q (by intro z;exact absurd (show b∈([]:List Addr)from z) (by simp)) (by simp)
       | some u =>
         rcases hO b n with z | ⟨ob,xs,z⟩
         ·rw[q] at z;cases z
         ·have z2:=un.frzs b ob _ z
          obtain⟨e1,_⟩:=hok b _ z
          obtain⟨e2,_⟩:=hok' b _ z2
          rw[e] at e1;cases e1
          exact e2
      refine⟨rfl,⟨fun b o e=>?_,fun b o e=>?_⟩,os,bare⟩
      ·by_cases n:b=T
       ·subst n
        rw[hT] at e
        cases e
        exact .inr (.inl ⟨(hC.tab hT).isCodeTable,rfl,#[],more,rfl,eT2⟩)
       ·exact .inl (kept b o n e)
      ·by_cases n:b=T
       ·subst n;exact⟨_,eT2⟩
       ·exact⟨o,kept b o n e⟩
 cases hk:K.lookup a with
 | some o =>
   have e:=KX a o hk
   rw[ha] at e
   cases e
   refine core (fun b=>if b=T then some (.tbl #[])else none) (fun b n=>.inl (if_neg n)) (if_pos rfl) (.inr ⟨_,vs.toArray,_,hk,rfl,rfl,rfl,by rw[size_toArray,lenV];exact hl,by simpa using rv⟩) (fun b u z=>?_) (fun b z=>?_) fun z=>absurd (if_neg naT) z
   ·by_cases hb:b=T
    ·have z':=(if_pos hb).symm.trans z
     cases z'
     subst hb
     exact hT
    ·have z':=(if_neg hb).symm.trans z
     cases z'
   ·by_cases hb:b=T
    ·exact .inr hb
    ·exact absurd (if_neg hb) z
 | none =>
   refine core (fun b=>if b=a then some (.frz { cls:=.type "list",data:=.seq vs.toArray } (.lst (ns.map V.int)))else if b=T then some (.tbl #[])else none) (fun b n=>?_) ?_ (.inl (.inr ⟨{ cls:=.type "list",data:=.seq vs.toArray },if_pos rfl⟩)) (fun b u z=>?_) (fun b z=>?_) fun _=>hk
   ·by_cases hb:b=a
    ·exact .inr ⟨_,_,if_pos hb⟩
    ·exact .inl ((if_neg hb).trans (if_neg n))
   ·exact(if_neg (Ne.symm naT)).trans (if_pos rfl)
   ·by_cases hb:b=a
    ·have z':=(if_pos hb).symm.trans z
     cases z'
     subst hb
     exact⟨ha,by rw[length_map];exact hl,vs,_,rv,ha⟩
    ·have z':=(if_neg hb).symm.trans z
     by_cases hc:b=T
     ·have z2:=(if_pos hc).symm.trans z'
      cases z2
      subst hc
      exact hT
     ·have z2:=(if_neg hc).symm.trans z'
      cases z2
   ·by_cases hb:b=a
    ·exact .inl hb
    ·by_cases hc:b=T
     ·exact .inr hc
     ·exact absurd ((if_neg hb).trans (if_neg hc)) z
theorem walk_ofT{l:PySem.W.OpenLaw}{n k:Nat}{q:Program}{loose:List Str}{XP:(Str→Option Value)→Heap→Prop}{YP:World→Heap→Prop}{d:DefRec}{K:Params→Frag}{CX:World→CXT}{sp:World→Sp}{x y:Str}
 (hn:l.most=some n) (hn2:n≤sizeLine) (hdf:d.params.defaults=[]) (hr:Room k callerA) (hrec:∃dd,(recsOf q).find? (fun e=>e.name==y)=some dd)
 (hY:∀(w:World)(h:Heap),YP w h→(K w.params).In h)
 (F:∀(w:World)(mg:Str→Option Value)(fa:Addr)(h:Heap),(K w.params).In h→h.Ns mainGlobals mg→mg d.name=some (.ref fa) →
   LamK (K w.params) y∧∃fd:FuncData,(∀(s:Shared)(u:Value),BindsTo s fd ⟨[u],[]⟩ [(x,u)]) ∧
    ∀base:Heap,(K w.params).In base→base.Ns mainGlobals mg→zdY mg base→FnOk l.prog w (K w.params) mg base (CX w) k fa fd [x] (sp w))
 (hsp:∀(w:World)(H:Hp)(a:Addr)(ns:List Int),ns.length≤n→H (zaR (K w.params) y)=some (.tbl #[])→SqL (K w.params) H a (ns.map V.int)→sp w [.ref a] H (fun v _=>v=.bl true) fun _ _ _=>False)
 (hCX:∀(w:World)(H:Hp)(s:Shared)(e:Value)(s':Shared),CX w [] H s (fun _ _ _=>False) e s'→False) :
 PySem.W.WalkO q loose XP YP l.row.toRowW d [] (fun f vs=>PySem.call f vs):=by
 refine Att.attach_call hn hdf fun w s₀ s₁ mg mb fa o pm cd doc a vs ns G Y ho hd hcd hmg hobj hints hlen hg=>?_
 have KX:=hY w _ Y
 obtain⟨⟨⟨c,ht⟩,hTK⟩,fd,hb,hF⟩:=F w mg fa _ KX G.T.g hmg
 obtain⟨dd,hrec⟩:=hrec
 obtain⟨hC,hT⟩:=tab_of G.T KX hrec ht
 exact law_callT KX G.T.g G.T.b G.T.builtins G.T.nolimit G.T.bmain hg hC hT hTK hobj hints (le_trans hlen hn2) hr hF hb (fun H hO hS=>hsp w H a ns hlen hO hS) fun H e s'=>hCX w H s₁ e s'
structure CompScope2 (sc:Scope) (N:List Str) (x x2:Str) (fr:List Str) (ix:List Nat) (scope:Scope):Prop where
 kind:scope.kind=.function
 nocell:∀y∈scope.names,y.2 ≠ .cell
 lcl:∀y∈scope.names,y.2=.local→scope.names.lookup y.1=some .local
 lx:scope.names.lookup x=some .local
 lx2:scope.names.lookup x2=some .local
 free:∀y∈scope.names,y.2=.free→sc.names.lookup y.1=some .cell∨sc.names.lookup y.1=some .free
 at':fr.map some=ix.map fun i=>N[i]?
 frk:∀y∈fr,scope.names.lookup y=some .free∧(sc.names.lookup y=some .cell∨sc.names.lookup y=some .free)
 nd:(x::x2::fr).Nodup
section
variable {X:Cx}{pins:List (Addr×Obj)}{σ:St}{H:Hp}{s:Shared}{x x2:Str}{fr:List Str}{ix:List Nat}{scope:Scope}{cl:List (Str×Addr)}{fp:List Addr}{C D:Addr}
theorem blk_ok2(S:CompScope2 X.env.scope X.N x x2 fr ix scope)(I:Inv X pins σ H s)(hf:∀b∈fp,zah X pins H b)(hfo:∀b∈fp,b<s.heap.objs.size)(hC:s.heap.objs.size≤C)
 (h1:∀y c,cl.lookup y=some c→X.env.cells.lookup y=some c) (h2:∀y,(y,NameKind.free)∈scope.names→∃c,cl.lookup y=some c):(blk X (x::x2::fr) scope cl C s H fp).Ok where
 mod:=I.ok.mod
 kind:=S.kind
 glob:=I.ok.glob
 blt:=I.ok.blt
 above:=hC
 inj:=fun y z c a b=>I.ok.inj y z c (h1 y c a) (h1 z c b)
 has:=fun y hy=>h2 y (zd1 (env:=X.env) (scope:=scope) S.nocell hy)
 cab:=fun y c h _=>Bool.noConfusion (show false=true from h)
 hd:=I.ok.hd
 frames:=I.ok.frames
 stk:=.inl rfl
 exf:=fun b hb=>⟨fun z=>absurd (hfo b hb) (by rw[z];exact Nat.not_lt.mpr hC),fun y c e=>(hf b hb).2.2.2.2.1 y c (h1 y c e)⟩
 bs:=I.bs
 bsz:=le_trans I.ok.bsz I.sz
 noex:=fun b o e hb=>by
  rcases (hf b hb).2.2.2.1 with z | z
  ·exact I.ok.noex b o e z
  ·exact absurd (lt_of_lt_of_le (lt_size e) (le_trans I.ok.bsz z)) (lt_irrefl _)
 exfs:=fun b hb z=>by
  rcases List.mem_cons.mp (I.stkSub b z)with e | e
  ·exact(hf b hb).2.1 e
  ·exact(hf b hb).2.2.1 e
 funs:=I.stack
 frf:=I.stkFree
theorem CompScope2.len(S:CompScope2 X.env.scope X.N x x2 fr ix scope):fr.length=ix.length:=by have:=congrArg List.length S.at';simpa using this
theorem blk_inv2{s':Shared}{pn:List (Addr×Obj)}{m:Str→Option Value}(S:CompScope2 X.env.scope X.N x x2 fr ix scope)(I:Inv X pins σ H s)(hf:∀b∈fp,zah X pins H b)(hfo:∀b∈fp,b<s.heap.objs.size)(hC:s.heap.objs.size≤C)
 (h1:∀y c,cl.lookup y=some c→X.env.cells.lookup y=some c) (h2:∀y,(y,NameKind.free)∈scope.names→∃c,cl.lookup y=some c)
 (ho:s'.os=s.os) (hg:s'.gens=s.gens) (k:∀b o,s.heap.get? b=some o→s'.heap.get? b=some o) (hn:s'.heap.Ns C m)
 (hp:∀p∈pn,s'.heap.get? p.1=some p.2∧s.heap.objs.size≤p.1∧p.1≠C∧∀v,p.2.data ≠ .cell v) :
 Inv (blk X (x::x2::fr) scope cl C s H fp) pn (none::none::cap ix σ) H s':=by
 obtain⟨mX,hnX,hlX⟩:=I.loc
 refine⟨blk_ok2 S I hf hfo hC h1 h2,ho,by rw[hg];exact I.bare,Un.kept k,⟨m,hn,fun i y v e1 e2 e3=>?_⟩,fun y c e=>?_,I.hok.fresh hC,fun y c e=>I.freeC y c (h1 y c e),fun p hp'=>?_,I.hok.kept k,by
  show(none::none::cap ix σ).length=(x::x2::fr).length
  simp[zg0,S.len]⟩
 ·rcases i with _ | _ | j
  ·cases e2
  ·cases e2
  ·have e1':fr[j]? = some y:=e1
   have e2':(cap ix σ)[j]? = some (some v):=e2
   obtain⟨f1,f2⟩:=S.frk y (mem_of_getElem? e1')
   unfold cap at e2'
   rw[getElem?_map] at e2'
   cases ei:ix[j]? with
   | none=>rw[ei] at e2';cases e2'
   | some i =>
     rw[ei] at e2'
     have e3':(σ[i]?).join=some v:=Option.some.inj e2'
     have e4:σ[i]? = some (some v):=by
      cases q:σ[i]? with
      | none=>rw[q] at e3';cases e3'
      | some w=>rw[q] at e3';have:w=some v:=e3';rw[this]
     have e5:X.N[i]? = some y:=by
      have:=congrArg (fun l=>l[j]?) S.at'
      simp only[getElem?_map,e1',ei] at this
      simpa using this.symm
     have vis:Vis X.env.scope y:=by
      rcases f2 with z | z
      ·exact .inr (.inl z)
      ·exact .inr (.inr z)
     obtain⟨u,r,l⟩:=hlX i y v e5 e4 vis
     refine⟨u,r,.inr ⟨zbC f1,?_⟩⟩
     rcases l with⟨z,_⟩|⟨_,c,ec,hc⟩
     ·rcases f2 with q | q
      ·have q':=(show X.env.scope.names.lookup y=some .local from z).symm.trans q;cases q'
      ·have q':=(show X.env.scope.names.lookup y=some .local from z).symm.trans q;cases q'
     ·obtain⟨c',hc'⟩:=h2 y (PySem.mem_of_lookup f1)
      have:c'=c:=by have:=h1 y c' hc';rw[ec] at this;exact(Option.some.inj this).symm
      subst this
      refine⟨c',hc',?_⟩
      obtain⟨o,ho',hd⟩:=hc
      exact⟨o,k _ _ ho',hd⟩
 ·obtain⟨v,o,ho',hd⟩:=I.cell y c (h1 y c e)
  exact⟨v,o,k _ _ ho',hd⟩
 ·have hp'':p∈pn:=by simpa [blk] using hp'
  obtain⟨q1,q2,q3,q4⟩:=hp p hp''
  refine⟨q1,I.hok.fresh q2,q3,fun z=>?_,q4⟩
  obtain⟨_,o,ho',_⟩:=I.stack.mem z
  exact absurd (lt_of_lt_of_le (lt_size ho') q2) (lt_irrefl _)
end
def zeP(K:Frag)(J:It)(c:St)(tc:TT)(te:TE)(H1:Hp)(fin:List V→Hp→Prop):Prop :=
 ∃W:Nat→Nat→List V→Hp→Prop,(∃m,W 0 m [] H1)∧∀i m ys H,W i m ys H →
  (J.stop i H∧ys.length≤sizeLine∧fin ys H) ∨
  (J.go i H∧ys.length<sizeLine∧∃N:List V→Hp→Prop,(∀ys' H',N ys' H'→∃m',m'<m∧W (i+1) m' ys' H')∧∀x H',J.yld i H x H'→∃t a b,x=.ref t∧SqT K H' t [a,b]∧tc (some a::some b::c) H' fun d H2=>if d=true then te (some a::some b::c) H2 fun y H3=>N (ys++[y]) H3 else N ys H2)
def tComp2(K:Frag)(ix:List Nat)(wi:TI)(tc:TT)(te:TE):TE:=fun σ H Q=>wi σ H fun J H1=>zeP K J (cap ix σ) tc te H1 fun ys H2=>∀l,H2 l=none→Q (.ref l) (upd H2 l (.lst ys))
section
variable {X:Cx}{x x2:Str}{fr:List Str}{ix:List Nat}{scope:Scope}{elt iter:Expr}{ifs:List Expr}{px px2 tp pos:Pos}{tk:Nat}{wi:TI}{tc:TT}{te:TE}
theorem zgv{use:Option (Value→Sem Unit)}{Q:Value→Shared→Prop}{pins:List (Addr×Obj)}{s2:Shared}{σ:St}{H2:Hp}{it:Addr}{fp:List Addr}{tn:Nat→Heap→Prop}{J:It}{cl:List (Str×Addr)}(S:CompScope2 X.env.scope X.N x x2 fr ix scope)(hc:X.calm=true)
 (hif:∀cl C s2 H2 fp,PIf (blk X (x::x2::fr) scope cl C s2 H2 fp) ifs tc) (he:∀cl C s2 H2 fp,PE (blk X (x::x2::fr) scope cl C s2 H2 fp) elt te)
 (h1:∀y c,cl.lookup y=some c→X.env.cells.lookup y=some c) (h2:∀y,(y,NameKind.free)∈scope.names→∃c,cl.lookup y=some c)
 (I2:Inv X pins σ H2 s2) (T:Turn X.prog X.w X.K (.Tuple [.Name x px,.Name x2 px2] tk tp) J fp it tn) (st2:tn 0 s2.heap) (f2:∀b∈fp,zah X pins H2 b) {fin:List V→Hp→Prop} (wc:zeP X.K J (cap ix σ) tc te H2 fin)
 (hQ:∀(D C:Addr)(ys:List V)(H':Hp)(s':Shared)(m:Str→Option Value),Inv X pins σ (upd H' D (.lst ys)) s'→H' D=none→s'.heap.Ns C m→D≠C→s2.heap.objs.size≤C→H' C=none→fin ys H' →
   compPost (model X.prog X.w) X.A X.xe use Q (.ref D) C (.ok .next) s') :
 wpAny (model X.prog X.w) X.A (newList []) (fun acc s₃=>wpAny (model X.prog X.w) X.A (newFunctionEnv scope X.env.globals cl [] X.env.qual none .none (some X.env)) (fun cenv s₄ =>
  codeAny (model X.prog X.w) X.A (.compStart (.ListComp elt [⟨.Tuple [.Name x px,.Name x2 px2] tk tp,iter,ifs,0⟩] scope pos) 0 (.ref it) acc { cenv with scope:=relabel scope X.env }) (compPost (model X.prog X.w) X.A X.xe use Q acc cenv.locals) s₄) X.xe s₃) X.xe s2:=by
 have hfo:∀b∈fp,b<s2.heap.objs.size:=fun b hb=>by
  obtain⟨o,e,_⟩:=T.obj 0 _ st2 b hb
  exact lt_size e
 refine wpAny_newObj_type (wpAny_newFunctionEnv S.nocell (by intro y hy;simp at hy) (fun h₁ hns₁ hsb₁=>?_) S.kind)
 dsimp only at hns₁ hsb₁ ⊢
 generalize hHp:s2.heap.push { cls:=.type "list",dict:=none,data:=.seq ([]:List Value).toArray }=Hp2 at hns₁ hsb₁ ⊢
 have hCs:Hp2.objs.size=s2.heap.objs.size+1:=by rw[←hHp,size_push]
 have hDC:s2.heap.objs.size≠Hp2.objs.size:=by rw[hCs];exact ne_of_lt (lt_succ_self _)
 have hCle:s2.heap.objs.size≤Hp2.objs.size:=by rw[hCs];exact le_succ _
 have zdG:∀b,b<s2.heap.objs.size→b≠Hp2.objs.size:=fun b hb=>by rw[hCs];exact ne_of_lt (lt_succ_of_lt hb)
 have old:∀b o,s2.heap.get? b=some o→h₁.get? b=some o:=fun b o e=>hsb₁.extBut b o (zdG b (lt_size e)) (get?_push_of_some _ (hHp ▸ get?_push_of_some _ e))
 have hacc:h₁.get? s2.heap.objs.size=some { cls:=.type "list",data:=.seq ([]:List Value).toArray 0 }:=hsb₁.extBut _ _ hDC (get?_push_of_some _ (hHp ▸ get?_push_size _ rfl))
 have st1:tn 0 h₁:=T.keep 0 _ _ st2 fun b _ o e=>old b o e
 have fpD:∀b∈fp,b≠s2.heap.objs.size:=fun b hb=>ne_of_lt (hfo b hb)
 generalize hD:s2.heap.objs.size=D at hacc hDC fpD ⊢
 have hDle:s2.heap.objs.size≤D:=le_of_eq hD
 generalize hC:Hp2.objs.size=C at hns₁ hsb₁ hDC hCle ⊢
 have oldD:∀b o,s2.heap.get? b=some o→b≠D:=fun b o e z=>absurd (lt_size e) (by rw[z,←hD];exact lt_irrefl _)
 obtain⟨W,⟨m0,w0⟩,turn⟩:=wc
 have loop:∀s₃:Shared,s₃={ s2 with heap:=h₁,toks:=s2.toks+([]:List (Str×Value)).length } →
  codeAny (model X.prog X.w) X.A (.compLoop (.ListComp elt [⟨.Tuple [.Name x px,.Name x2 px2] tk tp,iter,ifs,0⟩] scope pos) 0 (.ref it) (.ref D) (compEnvC scope cl C X.env))
   (compPost (model X.prog X.w) X.A X.xe use Q (.ref D) C) s₃:=by
  rintro s₃ rfl
  have I0:Inv (blk X (x::x2::fr) scope cl C s2 H2 fp) [(D,{ cls:=.type "list",data:=.seq ([]:List Value).toArray 0 })] (none::none::cap ix σ) H2 { s2 with heap:=h₁,toks:=s2.toks+([]:List (Str×Value)).length } :=
   blk_inv2 S I2 f2 hfo hCle h1 h2 rfl rfl old hns₁ (fun p hp=>by
    have e:p=(D,{ cls:=.type "list",data:=.seq ([]:List Value).toArray 0 }):=by simpa using hp
    subst e
    exact⟨hacc,hDle,hDC,fun v z=>by cases z⟩)
  have stat:∀{its:Obj}{H':Hp},(∀b∈fp,H' b=none)→∀b∈fp,zah (blk X (x::x2::fr) scope cl C s2 H2 fp) [(D,its)] H' b:=fun {its H'} hn b hb=>by
   refine⟨hn b hb,fun z=>?_,fun z=>(I0.ok.exfs b hb z),.inl hb,fun y c e=>(I0.ok.exf b hb).2 y c e,fun p hp z=>?_⟩
   ·exact(I0.ok.exf b hb).1 z
   ·have e:p=(D,its):=by simpa [blk] using hp
    subst e
    exact fpD b hb (Eq.symm z)
  refine zcA (env:=compEnvC scope cl C X.env)
   (fun n s'=>∃i ys its k v0 v1 H',zF ys its∧Inv (blk X (x::x2::fr) scope cl C s2 H2 fp) [(D,{ cls:=.type "list",data:=.seq its.toArray k })] (v0::v1::cap ix σ) H' s'∧tn i s'.heap∧(∀b∈fp,H' b=none)∧W i n ys H') ?_ m0
   ⟨0,[],[],0,none,none,H2,.nil,I0,st1,fun b hb=>(f2 b hb).1,w0⟩
  rintro n s3 ⟨i,ys,its,k,v0,v1,H3,rv,I3,st3,fr3,w3⟩
  rcases turn i n ys H3 w3 with⟨stop,hz,hfin⟩|⟨go,hz,N,hN,step⟩
  ·refine thn (T.done (blk X (x::x2::fr) scope cl C s2 H2 fp) rfl rfl rfl hc i _ s3 _ H3 _ I3 (stat fr3) st3 stop) fun r s4 ⟨hr,I4⟩=>?_
   subst hr
   have pD:=I4.pin (D,{ cls:=.type "list",data:=.seq its.toArray k }) (by simp[blk])
   obtain⟨mC,hnC,_⟩:=I4.loc
   have hH3D:H3 D=none:=pD.2.1
   have hok':HOk X.prog X.w (upd H3 D (.lst ys)) s4.heap:=fun b u e=>by
    by_cases hb:b=D
    ·subst hb
     rw[ze] at e;cases e
     exact⟨hz,its,k,rv,pD.1⟩
    ·rw[zl hb] at e
     exact(I4.hok b u e).stay (fun c v _ q=>q) (fun c q=>by rw[zl (zr q hH3D)];exact q) fun c xs q=>by rw[zl (zr q hH3D)];exact q
   have b4:Un (frs X.stack) fp H2 H3 s2.heap s4.heap:=I4.base
   have un:Un (frs X.stack) fp H2 (upd H3 D (.lst ys)) s2.heap s4.heap :=
    ⟨b4.keep,b4.slot,fun b o q n hx=>by
     rw[zl (oldD b o q)];exact b4.free b o q n hx,b4.there,fun b xs q=>by rw[zl (zr (b4.tups b xs q) hH3D)];exact b4.tups b xs q,
     fun b o u q=>by rw[zl (zr (b4.frzs b o u q) hH3D)];exact b4.frzs b o u q,fun b ps q=>by
      obtain⟨more,e⟩:=b4.tbls b ps q
      exact⟨more,by rw[zl (zr e hH3D)];exact e⟩⟩
   have I5:Inv X pins σ (upd H3 D (.lst ys)) s4:=I2.call' (ch:=fp) I4.os un hok' I4.bare fun b hb=>by
    obtain⟨g0,g1,g2,g3,g4,g5⟩:=f2 b hb
    exact⟨g3,g1,g4,g5⟩
   exact hQ D C ys H3 s4 mC I5 hH3D hnC hDC hCle I4.free hfin
  ·refine thn (T.item (blk X (x::x2::fr) scope cl C s2 H2 fp) rfl rfl rfl hc i _ s3 _ H3 _ I3 (stat fr3) st3 go) fun r s4 ⟨u,hr,h4⟩=>?_
   subst hr
   refine thn h4 fun _ s5 ⟨y,H5,I5,r5,y5,st5,fr5⟩=>?_
   have I5':=I5.pinned (stat fr5) (T.obj _ _ st5)
   have pg:PG (blk X (x::x2::fr) scope cl C s2 H2 fp) (.Tuple [.Name x px,.Name x2 px2] tk tp) (gTup X.K 2 (gCons (ze5 0) (gCons (ze5 1) gNil))) :=
    pg_tup hc (zea (zV S.nd rfl (.inl (lookup_relabel_local S.lx)) (.inr (lookup_relabel_local S.lx))) (zea (zV S.nd rfl (.inl (lookup_relabel_local S.lx2)) (.inr (lookup_relabel_local S.lx2))) pgs_nil))
   obtain⟨t5,y1,y2,ey,ht5,q5⟩:=step y _ y5
   refine thn (pg _ s5 _ H5 y u (fun σ6 H6=>σ6=some y1::some y2::cap ix σ∧H6=H5) I5' r5 ⟨t5,_,ey,ht5,rfl,_,_,rfl,_,_,rfl,rfl,rfl,rfl⟩) fun _ s6 ⟨σ6,H6,I6,e6,e6'⟩=>?_
   subst e6 e6'
   refine thn (hif cl C s2 H2 fp _ s6 _ _ _ I6 q5) fun b s7 ⟨H7,I7,q7⟩=>?_
   have again:∀{s8:Shared}{H8:Hp}{its':List Value}{k':Nat}{ys':List V},zF ys' its'→Inv (blk X (x::x2::fr) scope cl C s2 H2 fp) [(D,{ cls:=.type "list",data:=.seq its'.toArray k' })] (some y1::some y2::cap ix σ) H8 s8→(∀b∈fp,∀o,s5.heap.get? b=some o→s8.heap.get? b=some o)→(∀b∈fp,H8 b=none)→N ys' H8 →
    ∃m,m<n∧∃i ys its k v0 v1 H',zF ys its∧Inv (blk X (x::x2::fr) scope cl C s2 H2 fp) [(D,{ cls:=.type "list",data:=.seq its.toArray k })] (v0::v1::cap ix σ) H' s8∧tn i s8.heap∧(∀b∈fp,H' b=none)∧W i m ys H' :=
    fun {s8 H8 its' k' ys'} rv8 I8 kp fr8 nn=>let ⟨m',hm,w8⟩:=hN ys' H8 nn;⟨m',hm,i+1,ys',its',k',some y1,some y2,H8,rv8,I8,T.keep _ _ _ st5 kp,fr8,w8⟩
   cases b with
   | false =>
     rw[if_neg Bool.false_ne_true] at q7 ⊢
     refine again rv I7.unpinned (fun b hb o e=>(I7.pin (b,o) (by simp[blk];exact .inr (yB hb e))).1) (fun b hb=>?_) q7
     obtain⟨o,e,d⟩:=T.obj _ _ st5 b hb
     exact(I7.pin (b,o) (by simp[blk];exact .inr (yB hb e))).2.1
   | true =>
     rw[if_pos rfl] at q7 ⊢
     refine thn (he cl C s2 H2 fp _ s7 _ _ _ I7 q7) fun v s8 ⟨z,H8,I8,r8,q8⟩=>?_
     have pD:=I8.pin (D,{ cls:=.type "list",data:=.seq its.toArray k }) (by simp[blk])
     have hvl:ys.length=its.length:=rv.length
     refine append_at (hsz:=by show its.toArray.size≤sizeLine;rw[size_toArray];omega) pD.1 fun h₉ hs₉ hD₉=>?_
     have eo:({ cls:=.type "list",data:=.seq (its.toArray.push v) (k+1) }:Obj)={ cls:=.type "list",data:=.seq (its++[v]).toArray (k+1) }:=by rw[push_toArray]
     rw[eo] at hD₉
     have pn8:∀b∈fp,∀o,s5.heap.get? b=some o→s8.heap.get? b=some o∧H8 b=none:=fun b hb o e=>by
      have q:=I8.pin (b,o) (by simp[blk];exact .inr (yB hb e))
      exact⟨q.1,q.2.1⟩
     have J8:=I8.unpinned.pins_of (pins':=[]) (fun p hp=>by cases hp)
     have f2D:zah (blk X (x::x2::fr) scope cl C s2 H2 fp) [] H8 D:=⟨pD.2.1,pD.2.2.1,pD.2.2.2.1,.inr hDle,fun y c e z=>by
      obtain⟨v,o,ho,_⟩:=I2.cell y c (h1 y c e)
      exact oldD c o ho z,fun p hp=>by cases hp⟩
     have I9:Inv (blk X (x::x2::fr) scope cl C s2 H2 fp) [] (some y1::some y2::cap ix σ) H8 { s8 with heap:=h₉ }:=J8.turned (t':=s8.toks) (it:=D) (fun b o hb e=>(hs₉.2 b hb).trans e) f2D.1 f2D.2.1 f2D.2.2.2.1 f2D.2.2.2.2.1 f2D.2.2.2.2.2
     refine again (its':=its++[v]) (k':=k+1) (ys':=ys++[z]) (rv.append (.cons r8 .nil)) (I9.pins_of fun p hp=>?_) (fun b hb o e=>(hs₉.2 b (fpD b hb)).trans (pn8 b hb o e).1) (fun b hb=>?_) q8
     ·have e:p=(D,{ cls:=.type "list",data:=.seq (its++[v]).toArray (k+1) }):=by simpa using hp
      subst e
      exact⟨hD₉,f2D.1,f2D.2.1,f2D.2.2.1,fun v z=>by cases z⟩
     ·obtain⟨o,e,d⟩:=T.obj _ _ st5 b hb
      exact(pn8 b hb o e).2
 exact codeAny_compStart_list (loop _ rfl) (T.self X.A 0 _ _ _ st1 (loop _ rfl))
theorem ziX(S:CompScope2 X.env.scope X.N x x2 fr ix scope)(hc:X.calm=true)(hi:PI X (.Tuple [.Name x px,.Name x2 px2] tk tp) iter wi)(hif:∀cl C s2 H2 fp,PIf (blk X (x::x2::fr) scope cl C s2 H2 fp) ifs tc)(he:∀cl C s2 H2 fp,PE (blk X (x::x2::fr) scope cl C s2 H2 fp) elt te)
 (hs:∀x,foldedSetIterable iter X.env x=pure x:=by intro _;rfl):PE X (.ListComp elt [⟨.Tuple [.Name x px,.Name x2 px2] tk tp,iter,ifs,0⟩] scope pos) (tComp2 X.K ix wi tc te):=by
 intro pins s σ H Q I h
 obtain⟨cl,ecl,h1,h2⟩:=zbS (env:=X.env) (scope:=scope) fun y hy hf=>I.ok.has y.1 (S.free y hy hf)
 rw[eval_ListComp]
 refine wpAny_comprehension_free (use:=none) rfl hs ecl S.kind S.lcl (thn (hi pins s σ H _ I h) fun xv s1 q1=>thn q1 fun itv s2 q2=>?_)
 obtain⟨it,fp,tn,J,H2,rfl,I2,T,st2,f2,wc⟩:=q2
 refine zgv S hc hif he h1 h2 I2 T st2 f2 wc fun D C ys H' s' m I' hD hn hDC hC hHC fin=>?_
 refine⟨m,hn,fun h' sb=>⟨.ref D,upd H' D (.lst ys),?_,rfl,fin D hD⟩⟩
 have hcf:zah X pins (upd H' D (.lst ys)) C:=by
  have z:=I2.fpOk (H':=upd H' D (.lst ys)) hC (by rw[zl (Ne.symm hDC)];exact hHC)
  exact z
 exact I'.turned (t':=s'.toks) (it:=C) (fun b o hb e=>(sb.2 b hb).trans e) hcf.1 hcf.2.1 hcf.2.2.2.1 hcf.2.2.2.2.1 hcf.2.2.2.2.2
theorem zdw{i:Nat}{y:Str}{py spos:Pos}(S:CompScope2 X.env.scope X.N x x2 fr ix scope)(hc:X.calm=true)(hN:X.N.Nodup)(hiy:X.N[i]? = some y)(hy:Loc X.env.scope y)(hi:PI X (.Tuple [.Name x px,.Name x2 px2] tk tp) iter wi)(hif:∀cl C s2 H2 fp,PIf (blk X (x::x2::fr) scope cl C s2 H2 fp) ifs tc)(he:∀cl C s2 H2 fp,PE (blk X (x::x2::fr) scope cl C s2 H2 fp) elt te)
 (hsw:swapsWith (.ListComp elt [⟨.Tuple [.Name x px,.Name x2 px2] tk tp,iter,ifs,0⟩] scope pos) (some (.Name y py)) spos.line X.env=pure true:=by rfl)
 (hf:X.fn y=true∨X.env.scope.names.lookup y=some .local:=by first | exact .inl rfl | exact .inr rfl | assumption)
 (hs:∀x,foldedSetIterable iter X.env x=pure x:=by intro _;rfl) :
 PS X (.Assign [.Name y py] (.ListComp elt [⟨.Tuple [.Name x px,.Name x2 px2] tk tp,iter,ifs,0⟩] scope pos) spos) (tAsg (tComp2 X.K ix wi tc te) (ze5 i)):=by
 intro pins s σ H Dn I h
 obtain⟨cl,ecl,h1,h2⟩:=zbS (env:=X.env) (scope:=scope) fun y hy hf=>I.ok.has y.1 (S.free y hy hf)
 rw[exec_Assign_Name_used _ _ _ _ hsw]
 refine wpAny_bind (wpAny_standAt (wpAny_bind ?_))
 show wpAny _ X.A (do let _ ←comprehension (.ListComp elt [⟨.Tuple [.Name x px,.Name x2 px2] tk tp,iter,ifs,0⟩] scope pos) scope X.env _ (newList []) false (eval iter X.env) (some (assign (.Name y py) X.env))) _ _ s
 refine wpAny_bind (thn (Q:=fun _ s'=>SP X pins Dn .next s') ?_ fun _ s' q=>wpAny_pure (wpAny_pure q))
 refine wpAny_comprehension_free (use:=some (assign (.Name y py) X.env)) rfl hs ecl S.kind S.lcl (thn (hi pins s σ H _ I h) fun xv s1 q1=>thn q1 fun itv s2 q2=>?_)
 obtain⟨it,fp,tn,J,H2,rfl,I2,T,st2,f2,wc⟩:=q2
 refine zgv S hc hif he h1 h2 I2 T st2 f2 wc fun D C ys H' s' m I' hD hn hDC hC hHC fin=>?_
 have hcf:zah X pins (upd H' D (.lst ys)) C:=I2.fpOk (H':=upd H' D (.lst ys)) hC (by rw[zl (Ne.symm hDC)];exact hHC)
 show wpAny _ X.A (assign (.Name y py) X.env (.ref D)) _ _ s'
 refine wpAny_assign_Name (zeM (v:=V.ref D) I' hN hiy hy rfl (fun s'' I'' hsb=>?_) hf)
 obtain⟨a,sb,ha⟩:=hsb
 have hCa:C≠a:=fun z=>by
  rcases ha with q | q
  ·exact hcf.2.1 (z.trans q)
  ·exact hcf.2.2.2.2.1 y a q z.symm
 refine⟨m,hn.sameBut sb hCa,fun h' sb'=>⟨_,_,I''.turned (t':=s''.toks) (it:=C) (fun b o hb e=>(sb'.2 b hb).trans e) hcf.1 hcf.2.1 hcf.2.2.2.1 hcf.2.2.2.2.1 hcf.2.2.2.2.2,fin D hD⟩⟩
end
section
variable {X:Cx}{pins:List (Addr×Obj)}{σ:St}{H:Hp}{s:Shared}{h':Heap}{t':Nat}{ch:List Addr}
theorem Inv.movedF(I:Inv X pins σ H s)(o:∀c∈ch,zah X pins H c)(k:∀b u,b∉ch→s.heap.get? b=some u→h'.get? b=some u):Inv X pins σ H { s with heap:=h',toks:=t' }:=by
 have nit:∀b u,H b=some u→b∉ch:=fun b u e z=>by rw[(o b z).1] at e;cases e
 have nL:X.env.locals∉ch:=fun z=>(o _ z).2.1 rfl
 refine I.step (g':=s.gens) (d':=s.drawn) (ch:=ch) (fun b hb=>⟨(o b hb).2.2.2.1,(o b hb).2.1,(o b hb).2.2.2.2.1,(o b hb).2.2.2.2.2⟩) (fun b u _ _ hc e _=>k b u hc e) (fun b u _ _ hc e _=>⟨u.slots,k b u hc e⟩)
  (fun _ _ _ _ n=>n) (fun b u hc e=>⟨u,k b u hc e⟩) (fun _ _ e=>e) (fun _ _ _ e=>e) (fun b ps e=>⟨#[],by rw[e];simp⟩) (fun m hm=>?_) (fun b u e=>?_) I.bare
 ·obtain⟨ob,es,ep,ho,r⟩:=hm
  exact⟨ob,es,ep,k _ ob nL ho,r⟩
 ·refine(I.hok b u e).stay (fun c v hc q=>k c v ?_ q) (fun _ q=>q) fun _ _ q=>q
  rcases hc with z | z
  ·rw[z];exact nit b u e
  ·exact nit c _ z
theorem Inv.movedFT{T:Addr}{v:HO}(I:Inv X pins σ H s)(o:∀c∈ch,zah X pins H c)(k:∀b u,b∉ch→s.heap.get? b=some u→h'.get? b=some u)(hT:s.heap.objs.size≤T)(new:wf X.prog X.w (upd H T v) h' T v):
 Inv X pins σ (upd H T v) { s with heap:=h',toks:=t' }:=by
 have hf:H T=none:=I.hok.fresh hT
 have nit:∀b u,H b=some u→b∉ch:=fun b u e z=>by rw[(o b z).1] at e;cases e
 have nL:X.env.locals∉ch:=fun z=>(o _ z).2.1 rfl
 have up:∀b u,H b=some u→upd H T v b=some u:=fun b u e=>by rw[zl (zr e hf)];exact e
 refine I.step (g':=s.gens) (d':=s.drawn) (ch:=ch) (fun b hb=>⟨(o b hb).2.2.2.1,(o b hb).2.1,(o b hb).2.2.2.2.1,(o b hb).2.2.2.2.2⟩) (fun b u _ _ hc e _=>k b u hc e) (fun b u _ _ hc e _=>⟨u.slots,k b u hc e⟩)
  (fun b u _ e n=>?_) (fun b u hc e=>⟨u,k b u hc e⟩) (fun b _ e=>up b _ e) (fun b _ _ e=>up b _ e) (fun b ps e=>⟨#[],by rw[up b _ e];simp⟩) (fun m hm=>?_) (fun b u e=>?_) I.bare
 ·rw[zl (fun z=>by rw[z] at e;exact absurd (lt_size e) (Nat.not_lt.mpr hT))];exact n
 ·obtain⟨ob,es,ep,ho,r⟩:=hm
  exact⟨ob,es,ep,k _ ob nL ho,r⟩
 ·by_cases hb:b=T
  ·subst hb
   rw[ze] at e
   cases e
   exact new
  ·rw[zl hb] at e
   refine(I.hok b u e).stay (fun c w hc q=>k c w ?_ q) (fun c q=>up c _ q) fun c _ q=>up c _ q
   rcases hc with z | z
   ·rw[z];exact nit b u e
   ·exact nit c _ z
end
def Itz(K:Frag)(l1 l2:Addr):It :=
 ⟨fun i H=>∃xs ys x y,SqL K H l1 xs∧SqL K H l2 ys∧xs[i]? = some x∧ys[i]? = some y,
  fun i H v H'=>∃t x y,v=.ref t∧H t=none∧H'=upd H t (.tup [x,y])∧(∀xs,SqL K H l1 xs→xs[i]? = some x)∧∀ys,SqL K H l2 ys→ys[i]? = some y,
  fun i H=>∃xs ys,SqL K H l1 xs∧SqL K H l2 ys∧(xs.length≤i∨ys.length≤i)⟩
theorem turn_zip{P:Program}{w:World}{K:Frag}{elts:List Expr}{k:Nat}{pos:Pos}{z TI TO i1 i2 l1 l2:Addr}(D:ZipApart z TI TO i1 i2 l1 l2):
 Turn P w K (.Tuple elts k pos) (Itz K l1 l2) [z,TI,TO,i1,i2] z (fun i h=>IsZip h z TI TO .none∧IsPair h TI (.ref i1) (.ref i2)∧(∃a b,IsPair h TO a b)∧h.IsListIter i1 l1 i∧h.IsListIter i2 l2 i) where
 mem:=by simp
 obj:=fun i h st b hb=>by
  obtain⟨a1,a2,⟨_,_,a3⟩,⟨o4,e4,c4,d4⟩,⟨o5,e5,c5,d5⟩⟩:=st
  simp only[mem_cons,not_mem_nil,or_false] at hb
  rcases hb with rfl | rfl | rfl | rfl | rfl
  ·exact⟨_,a1,fun v z=>by cases z⟩
  ·exact⟨_,a2,fun v z=>by cases z⟩
  ·exact⟨_,a3,fun v z=>by cases z⟩
  ·exact⟨_,e4,fun v z=>by rw[d4] at z;cases z⟩
  ·exact⟨_,e5,fun v z=>by rw[d5] at z;cases z⟩
 keep:=fun i h h' st k=>by
  obtain⟨a1,a2,⟨a,b,a3⟩,a4,a5⟩:=st
  exact⟨k _ (by simp) _ a1,k _ (by simp) _ a2,⟨a,b,k _ (by simp) _ a3⟩,a4.at fun o e=>k _ (by simp) o e,a5.at fun o e=>k _ (by simp) o e⟩
 item:=by
  intro X hP hw hK hc i pins s σ H E I hf st hg
  subst hP hw hK
  obtain⟨xs,ys,x,y,q1,q2,hx,hy⟩:=hg
  obtain⟨hz,hTI,⟨a,b,hTO⟩,h1,h2⟩:=st
  obtain⟨us,r1,p1,z1⟩:=I.list q1
  obtain⟨vs,r2,p2,z2⟩:=I.list q2
  obtain⟨u,hu,ru⟩:=r1.get hx
  obtain⟨v,hv,rv⟩:=r2.get hy
  have nTI:TI ∉ [z,TO,i1,i2]:=by simp[D.TIz,D.TITO,D.TIi1,D.TIi2]
  have ff:∀c ∈ [z,TO,i1,i2],zah X pins H c:=fun c hc=>hf c (by simp only[mem_cons,not_mem_nil,or_false] at hc ⊢;rcases hc with e | e | e | e <;> simp[e])
  refine wpAny_pyNext_zip_item D hz hTI hTO h1 h2 p1.isList p2.isList (by simpa using hu) (by simpa using hv) fun h' a1 a2 a3 a4 a5 a6 hk=>?_
  have kk:∀c o,c ∉ [z,TO,i1,i2]→s.heap.get? c=some o→h'.get? c=some o:=fun c o hc e=>hk c o (fun w=>hc (by simp[w])) (fun w=>hc (by simp[w])) (fun w=>hc (by simp[w])) (fun w=>hc (by simp[w])) e
  have I1:Inv X pins σ (upd H s.heap.objs.size (.tup [x,y])) { s with heap:=h' }:=I.movedFT (t':=s.toks) ff kk (le_refl _) ⟨by show 2≤sizeLine;decide,[u,v],.cons ru (.cons rv .nil),_,a5,rfl,_,rfl⟩
  refine⟨_,rfl,wpAny_letOwnedTupleGo_zip a1 fun h2' hz' hs'=>?_⟩
  have lt:∀c ∈ [z,TI,TO,i1,i2],c≠s.heap.objs.size:=fun c hc=>by
   have:∃o,s.heap.get? c=some o:=by
    simp only[mem_cons,not_mem_nil,or_false] at hc
    rcases hc with rfl | rfl | rfl | rfl | rfl
    ·exact⟨_,hz⟩
    ·exact⟨_,hTI⟩
    ·exact⟨_,hTO⟩
    ·obtain⟨o,e,_⟩:=h1;exact⟨o,e⟩
    ·obtain⟨o,e,_⟩:=h2;exact⟨o,e⟩
   obtain⟨o,e⟩:=this
   exact ne_of_lt (lt_size e)
  have fz:zah X pins (upd H s.heap.objs.size (.tup [x,y])) z:=by
   obtain⟨f0,f1⟩:=hf z (by simp)
   exact⟨by rw[zl (lt z (by simp))];exact f0,f1⟩
  have I2:Inv X pins σ (upd H s.heap.objs.size (.tup [x,y])) { s with heap:=h2' }:=Inv.movedF (s:={ s with heap:=h' }) (t':=s.toks) (ch:=[z]) I1 (fun c hc=>by rw[List.mem_singleton.mp hc];exact fz) fun c o hc e=>hs'.extBut c o (fun w=>hc (by simp[w])) e
  refine⟨.ref s.heap.objs.size,_,I2,rfl,⟨_,x,y,rfl,I.hok.fresh (le_refl _),rfl,fun xs' q=>?_,fun ys' q=>?_⟩,⟨hz',hs'.extBut _ _ D.TIz (kk _ _ nTI hTI),⟨_,_,hs'.extBut _ _ D.TOz a2⟩,a3.extBut hs'.extBut D.i1z,a4.extBut hs'.extBut D.i2z⟩,fun c hc=>?_⟩
  ·rw[I.list_inj q q1];exact hx
  ·rw[I.list_inj q q2];exact hy
  ·rw[zl (lt c hc)];exact(hf c hc).1
 done:=by
  intro X hP hw hK hc i pins s σ H E I hf st hg
  subst hP hw hK
  obtain⟨xs,ys,q1,q2,hend⟩:=hg
  obtain⟨hz,hTI,⟨a,b,hTO⟩,h1,h2⟩:=st
  obtain⟨us,r1,p1,z1⟩:=I.list q1
  obtain⟨vs,r2,p2,z2⟩:=I.list q2
  have l1':=r1.length
  have l2':=r2.length
  have ff:∀c ∈ [z,TO,i1,i2],zah X pins H c:=fun c hc=>hf c (by simp only[mem_cons,not_mem_nil,or_false] at hc ⊢;rcases hc with e | e | e | e <;> simp[e])
  refine wpAny_pyNext_zip_end (I.ok.hd hc) D hz hTI hTO h1 h2 p1.isList p2.isList ?_ fun h' hk=>⟨rfl,I.movedF (t':=s.toks) ff fun c o hc e=>hk c o (fun w=>hc (by simp[w])) (fun w=>hc (by simp[w])) (fun w=>hc (by simp[w])) (fun w=>hc (by simp[w])) e⟩
  rcases hend with h | h
  ·exact .inl (by simp;omega)
  ·exact .inr (by simp;omega)
 self:=fun _ _ _ _ _ st h=>wpAny_pyIter_zip st.1 h
def iZip(K:Frag)(ta:TA):TI:=fun σ H R=>ta σ H fun vs H1=>∃l1 l2 xs ys,vs=[.ref l1,.ref l2]∧SqL K H1 l1 xs∧SqL K H1 l2 ys∧R (Itz K l1 l2) H1
section
variable {X:Cx}{ex ey:Expr}{t:TA}{p pos tp:Pos}{elts:List Expr}{tk:Nat}
theorem pi_zip(hg:Gl X "zip")(hm:X.mg "zip"=none)(ha:PA X [ex,ey] t)(he:starEach [ex,ey] X.env=(false,eval ex X.env)::starEach [ey] X.env:=by rfl)(hpl:(backTo pos (starEach [ey] X.env)).any (·.1)=false:=by rfl):
 PI X (.Tuple elts tk tp) (.Call (.Name "zip" p) [ex,ey] [] pos) (iZip X.K t):=by
 intro pins s σ H R I h
 refine wpAny_Call_Name_kw (zch I hg hm boot_zip ?_ (by decide) (by decide))
 refine callWith_type1 (thn (ha pos pins s σ H _ I h) fun us s1 hh=>?_) he hpl
 obtain⟨vs,H1,I1,r1,l1,l2,xs,ys,rfl,q1,q2,q⟩:=hh
 cases r1 with
 | cons e1 r=>cases r with
   | cons e2 r =>
     cases r
     cases e1
     cases e2
     obtain⟨us,r1,p1,_⟩:=I1.list q1
     obtain⟨ws,r2,p2,_⟩:=I1.list q2
     have b1:=p1.isList
     have b2:=p2.isList
     have t1:l1<s1.heap.objs.size:=by obtain⟨u,hu,_⟩:=b1;exact lt_size hu
     have t2:l2<s1.heap.objs.size:=by obtain⟨u,hu,_⟩:=b2;exact lt_size hu
     refine call_zip_2 b1 b2 fun h' hz hTI hTO hi1 hi2 hsz hk=>?_
     have n:∀(l:Addr)(d:Nat),l<s1.heap.objs.size→l≠s1.heap.objs.size+d:=fun l d h=>ne_of_lt (lt_of_lt_of_le h (le_add_right _ _))
     have m:∀d e:Nat,d≠e→s1.heap.objs.size+d≠s1.heap.objs.size+e:=fun d e h w=>h (Nat.add_left_cancel w)
     refine wpAny_pyIter_zip hz ?_
     refine⟨s1.heap.objs.size+4,[s1.heap.objs.size+4,s1.heap.objs.size+2,s1.heap.objs.size+3,s1.heap.objs.size+0,s1.heap.objs.size+1],_,Itz X.K l1 l2,H1,rfl,I1.kept (t':=s1.toks) hk,
      turn_zip (i1:=s1.heap.objs.size+0) (i2:=s1.heap.objs.size+1) (TI:=s1.heap.objs.size+2) (TO:=s1.heap.objs.size+3) (l1:=l1) (l2:=l2) ⟨m 2 4 (by decide),m 3 4 (by decide),m 0 4 (by decide),m 1 4 (by decide),m 2 3 (by decide),m 2 0 (by decide),m 2 1 (by decide),m 3 0 (by decide),m 3 1 (by decide),m 0 1 (by decide),n _ 4 t1,n _ 3 t1,n _ 0 t1,n _ 1 t1,n _ 4 t2,n _ 3 t2,n _ 0 t2,n _ 1 t2⟩,
      ⟨hz,hTI,⟨_,_,hTO⟩,hi1,hi2⟩,fun b hb=>?_,q⟩
     have hb':∃d,b=s1.heap.objs.size+d:=by
      simp only[mem_cons,not_mem_nil,or_false] at hb
      rcases hb with w | w | w | w | w
      ·exact⟨4,w⟩
      ·exact⟨2,w⟩
      ·exact⟨3,w⟩
      ·exact⟨0,w⟩
      ·exact⟨1,w⟩
     obtain⟨d,rfl⟩:=hb'
     exact I1.fpOk (le_add_right _ _) (I1.hok.fresh (le_add_right _ _))
end
theorem for_zip{K:Frag}{l1 l2:Addr}{xs ys:List V}{g:TG}{tb:TS}{D:Ends}{σ:St}{H:Hp}(Pv:Nat→St→Hp→Prop)(h0:Pv 0 σ H)(hl:∀i σ H,i≤min xs.length ys.length→Pv i σ H→SqL K H l1 xs∧SqL K H l2 ys)
 (hs:∀i x y t σ H,xs[i]? = some x→ys[i]? = some y→H t=none→Pv i σ H→g (.ref t) σ (upd H t (.tup [x,y])) fun σ2 H2=>tb { D with nx:=Pv (i+1),ct:=Pv (i+1),bk:=D.nx } σ2 H2) (hd:∀σ H,Pv (min xs.length ys.length) σ H→D.nx σ H) :
 ∃W:Nat→Nat→St→Hp→Prop,(∃m,W 0 m σ H)∧∀i m σ H,W i m σ H →
  ((Itz K l1 l2).stop i H∧D.nx σ H)∨((Itz K l1 l2).go i H∧∃N:St→Hp→Prop,(∀σ' H',N σ' H'→∃m',m'<m∧W (i+1) m' σ' H')∧∀x H',(Itz K l1 l2).yld i H x H'→g x σ H' fun σ2 H2=>tb { D with nx:=N,ct:=N,bk:=D.nx } σ2 H2):=by
 refine⟨fun i m σ H=>m=min xs.length ys.length-i∧i≤min xs.length ys.length∧Pv i σ H,⟨min xs.length ys.length,by simp,zero_le _,h0⟩,?_⟩
 rintro i m σ H ⟨rfl,hi,p⟩
 obtain⟨q1,q2⟩:=hl i σ H hi p
 by_cases hlt:i<min xs.length ys.length
 ·have h1:i<xs.length:=by omega
  have h2:i<ys.length:=by omega
  refine .inr ⟨⟨xs,ys,xs[i],ys[i],q1,q2,by simp[h1],by simp[h2]⟩,Pv (i+1),fun σ' H' p'=>⟨min xs.length ys.length-(i+1),by omega,rfl,hlt,p'⟩,fun v H' y=>?_⟩
  obtain⟨t,x,y,rfl,hn,rfl,e1,e2⟩:=y
  exact hs i x y t σ _ (e1 xs q1) (e2 ys q2) hn p
 ·have e:i=min xs.length ys.length:=by omega
  subst e
  exact .inl ⟨⟨xs,ys,q1,q2,by omega⟩,hd σ H p⟩
end L2
namespace L2
open PySem PySem.W PySem.Spec PyProof.Rows
theorem comp2_list{K:Frag}{a:Addr}{xs:List V}{c:St}{tc:TT}{te:TE}{H:Hp}{fin:List V→Hp→Prop}(Pv:Nat→List V→Hp→Prop)(h0:Pv 0 [] H)(hl:∀i ys H,i≤xs.length→Pv i ys H→SqL K H a xs∧ys.length≤i)(hz:xs.length≤sizeLine)
 (hs:∀i x ys H,xs[i]? = some x→Pv i ys H→∃t u v,x=.ref t∧SqT K H t [u,v]∧tc (some u::some v::c) H fun b H2=>if b=true then te (some u::some v::c) H2 fun y H3=>Pv (i+1) (ys++[y]) H3 else Pv (i+1) ys H2) (hd:∀ys H,Pv xs.length ys H→fin ys H):zeP K (Itl K a) c tc te H fin:=by
 refine⟨fun i m ys H=>m=xs.length-i∧i≤xs.length∧Pv i ys H,⟨xs.length,by simp,zero_le _,h0⟩,?_⟩
 rintro i m ys H ⟨rfl,hi,p⟩
 obtain⟨q,hy⟩:=hl i ys H hi p
 by_cases hlt:i<xs.length
 ·refine .inr ⟨⟨xs,xs[i],q,by simp[hlt]⟩,by omega,fun ys' H'=>Pv (i+1) ys' H',fun ys' H' p'=>⟨xs.length-(i+1),by omega,rfl,hlt,p'⟩,fun x H' y=>?_⟩
  obtain⟨e,y⟩:=y
  subst e
  exact hs i x ys _ (y xs q) p
 ·have e:i=xs.length:=by omega
  subst e
  exact .inl ⟨⟨xs,q,le_refl _⟩,by omega,hd ys H p⟩
theorem ze1{K:Frag}{a:Addr}{xs:List V}{c:St}{te:TE}{H:Hp}{fin:List V→Hp→Prop}(Pv:Nat→List V→Hp→Prop)(h0:Pv 0 [] H)(hl:∀i ys H,i≤xs.length→Pv i ys H→SqL K H a xs∧ys.length≤i)(hz:xs.length≤sizeLine)
 (hs:∀i x ys H,xs[i]? = some x→Pv i ys H→∃t u v,x=.ref t∧SqT K H t [u,v]∧te (some u::some v::c) H fun y H3=>Pv (i+1) (ys++[y]) H3) (hd:∀ys H,Pv xs.length ys H→fin ys H):zeP K (Itl K a) c zhB te H fin :=
 comp2_list Pv h0 hl hz (fun i x ys H e p=>let ⟨t,u,v,e1,e2,h⟩:=hs i x ys H e p;⟨t,u,v,e1,e2,iteT (B:=Pv (i+1) ys H) h⟩) hd
end L2
namespace L2
open PySem PySem.W PySem.Spec PyProof.Rows PySem.Calls
def zaP(P:Addr)(q:Str)(H:Hp):Prop:=∃ps,H P=some (.tbl ps)∧TriplesOk ps.toList∧∀pos cv,codeAmong pos ps.toList=some cv→∃c',cv=.ref c'∧H c'=some (zfc c' q)
theorem zaP.new{P:Addr}{q:Str}{H:Hp}(h:H P=some (.tbl #[])):zaP P q H:=⟨#[],h,trivial,fun pos cv e=>by simp[codeAmong] at e⟩
theorem zaP.same{P:Addr}{q:Str}{H H':Hp}(h:zaP P q H)(s:zi H H'):zaP P q H':=by
 obtain⟨ps,h1,h2,h3⟩:=h
 exact⟨ps,s _ _ h1,h2,fun pos cv e=>let ⟨c',e1,e2⟩:=h3 pos cv e;⟨c',e1,s _ _ e2⟩⟩
def zcZ:Str:=Str.ofString "by_place" ++ ".<locals>." ++ "<lambda>"
theorem among_snoc{pos:Pos}{a b:Int}{c x:Value}:∀(l:List Value),TriplesOk l→codeAmong pos (l++[rawInt a,rawInt b,c])=some x→codeAmong pos l=some x∨x=c:=by
 intro l h e
 fun_induction TriplesOk l with
 | case1 =>
   simp only[List.nil_append,codeAmong,rawInt] at e
   split at e
   ·cases e;exact .inr rfl
   ·cases e
 | case2 a' t b' u y zdM ih =>
   simp only[cons_append,codeAmong] at e ⊢
   split at e
   ·rename_i hc;rw[if_pos hc];exact .inl e
   ·rename_i hc;rw[if_neg hc];exact ih h e
 | case3=>exact h.elim
section
variable {X:Cx}{pins:List (Addr×Obj)}{σ:St}{H:Hp}{s:Shared}{E:Value→Shared→Prop}
theorem lam_eval2{params:Arguments}{body:Expr}{scope:Scope}{pos:Pos}{c P:Addr}{Q:Value→Shared→Prop}(I:Inv X pins σ H s)(hL:zaP P (X.env.qual ++ "<lambda>") H)(hcode:X.env.code=.ref c)(C:CodeHd X.base c P)(B:zdY X.mg X.base)
 (hdef:defaultsOf params X.env=([],[])) (hcl:closureFor scope X.env=pure [])
 (q:∀(f c':Addr)(pm ctv:Value)(H3:Hp)(s':Shared),(∀b u,b≠P→s.heap.get? b=some u→s'.heap.get? b=some u)→s.heap.objs.size≤s'.heap.objs.size →
   (∀a,a<s.heap.objs.size→a≠P→H3 a=H a)→H3 f=some (fnO f (kla_obj "<lambda>" (X.env.qual ++ "<lambda>") params body scope [] pm c' ctv))→H3 c'=some (zfc c' (X.env.qual ++ "<lambda>"))→yy H H3→zaP P (X.env.qual ++ "<lambda>") H3→Inv X pins σ H3 s'→Q (.ref f) s') :
 wpAny (model X.prog X.w) X.A (eval (.Lambda params body scope pos) X.env) Q E s:=by
 obtain⟨ps,hP,ht,hh⟩:=hL
 have hb:∀b o,X.base.get? b=some o→b≠P:=fun b o e z=>by have:=(I.bs b o e).2;rw[z,hP] at this;cases this
 have hPg:s.heap.get? P=some (tabObj ps):=I.hok P _ hP
 have hPs:P<s.heap.objs.size:=I.hok.lt hP
 obtain⟨bm,ob,b1,b2,b3,b4,b5,b6⟩:=B
 have hG:mainGlobals≠P:=by obtain⟨o,_,_,e,_⟩:=I.mod.glob;exact hb _ o e
 have hbG:bm≠mainGlobals:=fun z=>by
  obtain⟨o,es,ep,e,hd,_⟩:=I.mod.glob
  rw[z,e] at b3;cases b3;rw[hd] at b6;cases b6
 cases hA:codeAmong pos ps.toList with
 | none =>
   refine kla_eval hdef (kla_makeFunction (ps:=ps) (mg:=X.mg) hcl I.ok.glob (I.mod.glob.keeps I.bk) hcode (C.keeps I.bk) hPg ht hA hG ⟨bm,ob,b1,b2,hbG,hb _ _ b3,I.bk _ _ b3,b4,b5,b6⟩ fun c' ctv h' tk hx hge hlt hrec htb=>?_)
   have J:=I.lam (tk:=tk) (fo:=kla_obj "<lambda>" (X.env.qual ++ "<lambda>") params body scope [] ((X.mg "__name__").getD .none) c' ctv) rfl hP hx hge hlt hrec htb
   have nPc:P≠c':=ne_of_lt (lt_of_lt_of_le hPs hge)
   have ncf:c'≠h'.objs.size:=ne_of_lt hlt
   have nPf:P≠h'.objs.size:=ne_of_lt (lt_trans (lt_of_lt_of_le hPs hge) hlt)
   have old:∀a,a<s.heap.objs.size→a≠P→(upd (upd (upd H P (.tbl (ps ++ #[rawInt ↑pos.line,rawInt ↑pos.col,Value.ref c']))) c' (zfc c' (X.env.qual ++ "<lambda>"))) h'.objs.size (fnO h'.objs.size (kla_obj "<lambda>" (X.env.qual ++ "<lambda>") params body scope [] ((X.mg "__name__").getD .none) c' ctv))) a=H a:=fun a h1 h2=>by
    rw[zl (ne_of_lt (lt_trans (lt_of_lt_of_le h1 hge) hlt)),zl (ne_of_lt (lt_of_lt_of_le h1 hge)),zl h2]
   have atP:(upd (upd (upd H P (.tbl (ps ++ #[rawInt ↑pos.line,rawInt ↑pos.col,Value.ref c']))) c' (zfc c' (X.env.qual ++ "<lambda>"))) h'.objs.size (fnO h'.objs.size (kla_obj "<lambda>" (X.env.qual ++ "<lambda>") params body scope [] ((X.mg "__name__").getD .none) c' ctv))) P=some (.tbl (ps ++ #[rawInt ↑pos.line,rawInt ↑pos.col,Value.ref c'])):=by rw[zl nPf,zl nPc,ze]
   have hcc:(upd (upd (upd H P (.tbl (ps ++ #[rawInt ↑pos.line,rawInt ↑pos.col,Value.ref c']))) c' (zfc c' (X.env.qual ++ "<lambda>"))) h'.objs.size (fnO h'.objs.size (kla_obj "<lambda>" (X.env.qual ++ "<lambda>") params body scope [] ((X.mg "__name__").getD .none) c' ctv))) c'=some (zfc c' (X.env.qual ++ "<lambda>")):=by rw[zl ncf,ze]
   refine q h'.objs.size c' ((X.mg "__name__").getD .none) ctv _ _ (fun b u n e=>get?_push_of_some _ (hx b u n e)) ?_ old ze hcc ⟨fun b u e n=>?_,fun b qs e=>?_⟩ ⟨_,atP,?_,fun pos' cv e=>?_⟩ J
   ·show s.heap.objs.size≤(h'.push _).objs.size
    rw[size_push]
    exact le_of_lt (Nat.lt_of_le_of_lt hge (lt_succ_of_lt hlt))
   ·rw[old b (I.hok.lt e) (fun w=>by rw[w,hP] at e;cases e;exact n _ rfl)];exact e
   ·by_cases hb:b=P
    ·subst hb
     exact⟨_,atP⟩
    ·exact⟨qs,by rw[old b (I.hok.lt e) hb];exact e⟩
   ·rw[Array.toList_append]
    exact TriplesOk_snoc _ _ _ _ ht
   ·rw[Array.toList_append] at e
    rcases among_snoc _ ht e with e | rfl
    ·obtain⟨c2,e1,e2⟩:=hh pos' cv e
     exact⟨c2,e1,by rw[old c2 (I.hok.lt e2) (fun w=>by rw[w,hP] at e2;cases e2)];exact e2⟩
    ·exact⟨c',rfl,hcc⟩
 | some cv =>
   obtain⟨c',rfl,hcc⟩:=hh pos cv hA
   refine kla_eval hdef (kla_makeFunctionHit (ps:=ps) (mg:=X.mg) hcl I.ok.glob (I.mod.glob.keeps I.bk) hcode (C.keeps I.bk) hPg ht hA ⟨bm,ob,b1,b2,hbG,hb _ _ b3,I.bk _ _ b3,b4,b5,b6⟩ fun ctv h' tk hk hsz=>?_)
   have hn:H h'.objs.size=none:=I.hok.fresh hsz
   have J:Inv X pins σ (upd H h'.objs.size (fnO h'.objs.size (kla_obj "<lambda>" (X.env.qual ++ "<lambda>") params body scope [] ((X.mg "__name__").getD .none) c' ctv))) { s with heap:=h'.push (kla_obj "<lambda>" (X.env.qual ++ "<lambda>") params body scope [] ((X.mg "__name__").getD .none) c' ctv),toks:=tk } :=
    I.laid (t':=tk) (fun b u e=>get?_push_of_some _ (hk b u e)) hsz ⟨get?_push_size _ rfl,⟨_,get?_push_size _ rfl⟩,fun h1 h2 a b=>b _ a⟩
   refine q h'.objs.size c' ((X.mg "__name__").getD .none) ctv _ _ (fun b u n e=>get?_push_of_some _ (hk b u e)) ?_ (fun a h1 h2=>zl (ne_of_lt (lt_of_lt_of_le h1 hsz))) ze ((zi.new hn) _ _ hcc) (zi.new hn).toN (zaP.same ⟨ps,hP,ht,hh⟩ (zi.new hn)) J
   show s.heap.objs.size≤(h'.push _).objs.size
   rw[size_push]
   exact Nat.le_succ_of_le hsz
end
def tSZ2(K:Frag)(P:Addr)(qq:Str)(t:TA):TE:=fun σ H Q=>t σ H fun vs H1=>∃(l1 l2:Addr)(xs:List Int)(yv:List V),vs=[.ref l1,.ref l2]∧SqL K H1 l1 (xs.map V.int)∧SqL K H1 l2 yv∧xs.length=yv.length∧0<xs.length∧xs.length<64∧zaP P qq H1 ∧
 ∀(H2:Hp)(ts:List Addr)(l:Addr)(p:Array Nat),yy H1 H2→zaP P qq H2→Prs H2 ts ((xs.map V.int).zip yv)→H2 l=none→M14.I (fun k=>xs.getD k 0) xs.length p xs.length→Q (.ref l) (upd H2 l (.lst (p.toList.map fun i=>V.ref (ts.getD i 0))))
section
variable {X:Cx}{ex ey:Expr}{t:TA}{c P:Addr}{y:Str}{p1 p2 p3 p4 p5 pos pos2 lpos kp:Pos}{j:Nat}{params:Arguments}{scope:Scope}
theorem pe_sortz2{qq:Str}(hqq:X.env.qual ++ "<lambda>"=qq)(hr:Room 3 X.A)(hg1:Gl X "sorted")(hm1:X.mg "sorted"=none)(hg2:Gl X "zip")(hm2:X.mg "zip"=none)(hcode:X.env.code=.ref c)(C:codeHdIn X.K c P=true)(B:zdY X.mg X.base)(S:FnScope [y] [y] scope)
 (hy:scope.names.lookup y=some .local) (hdb:(y==("__debug__":Str))=false) (hdc:(y==("__classdict__":Str))=false)
 (hdef:defaultsOf params X.env=([],[])) (hcl:closureFor scope X.env=pure [])
 (hbind:∀(q:Str)(pm cv ctv u:Value)(b:Expr),bindArgs (kla_fn "<lambda>" q params b scope [] pm cv ctv) ⟨[u],[]⟩=pure [(y,u)])
 (ha:PA X [ex,ey] t) (he:starEach [ex,ey] X.env=(false,eval ex X.env)::starEach [ey] X.env:=by rfl) (hpl:(backTo pos2 (starEach [ey] X.env)).any (·.1)=false:=by rfl) :
 PE X (.Call (.Name "sorted" p1) [.Call (.Name "zip" p2) [ex,ey] [] pos2] [⟨some "key",.Lambda params (.Subscript (.Name y p3) (.Constant (.int 0) j p4) p5) scope lpos,kp⟩] pos) (tSZ2 X.K P qq t):=by
 intro pins s σ H Q I h
 refine wpAny_Call_Name_kw (zch I hg1 hm1 boot_sorted ?_ (by decide) (by decide))
 refine callWith_kw ?_
 refine Calls.spliced_cons ?_
 refine wpAny_Call_Name_kw (zch I hg2 hm2 boot_zip ?_ (by decide) (by decide))
 refine callWith_type1 (thn (ha pos2 pins s σ H _ I h) fun us s1 hh=>?_) he hpl
 obtain⟨vs,H1,I1,r1,l1,l2,xs,yv,rfl,q1,q2,hl,h0,h64,hP,q⟩:=hh
 obtain⟨u1,u2,rfl⟩:∃u1 u2,us=[u1,u2]:=by
  cases r1 with
  | cons _ r=>cases r with
    | cons _ r=>cases r with
      | nil=>exact⟨_,_,rfl⟩
 cases r1 with
 | cons e1 r=>cases r with
   | cons e2 r =>
     cases (show u1=Value.ref l1 from e1)
     cases (show u2=Value.ref l2 from e2)
     refine made_zip I1 q1 q2 fun s2 z TI TO i1 i2 xv' yv' rx ry I2 D o st=>?_
     refine Calls.spliced_nil ?_
     refine kws_cons ?_
     subst hqq
     refine lam_eval2 (c:=c) (P:=P) I2 hP hcode (codeHd_of_K I2.mod.kin C) B hdef hcl fun f c' pm ctv H3 s3 k hsz old hf hcc sn ls3 I3=>?_
     refine kws_nil ?_
     obtain⟨ps,hP,_⟩:=hP
     have hPg:s2.heap.get? P=some (tabObj ps):=I2.hok P _ hP
     have nO:∀a ∈ [z,TO,i1,i2],a≠P:=fun a ha w=>by have:=(o a ha).1.free;rw[w,hP] at this;cases this
     have nX:∀(a:Addr)(u:Obj),s2.heap.get? a=some u→u.cls ≠ .none→a≠P:=fun a u e n w=>by rw[w,hPg] at e;cases e;exact n rfl
     obtain⟨a1,a2,a3,a4,a5,a6⟩:=st
     obtain⟨b1,ba,bb,b2⟩:IsZip s2.heap z TI TO .none∧∃a b,IsPair s2.heap TO a b:=by
      rcases a6 with⟨_,w⟩|⟨w,_⟩
      ·exact w
      ·exact absurd w (lt_irrefl _)
     have st3:ZSt z TI TO i1 i2 l1 l2 xv'.toArray yv'.toArray 0 s3:=by
      refine⟨k _ _ (nX _ _ a1 (by intro w;cases w)) a1,a2.at fun u e=>k _ u (nO _ (by simp)) e,a3.at fun u e=>k _ u (nO _ (by simp)) e,a4.at fun u e=>k _ u ?_ e,a5.at fun u e=>k _ u ?_ e,.inl ⟨rfl,k _ _ (nO _ (by simp)) b1,ba,bb,k _ _ (nO _ (by simp)) b2⟩⟩
      ·obtain⟨u',e',hc,_⟩:=a4
       exact nX _ _ e' (by rw[hc];intro w;cases w)
      ·obtain⟨u',e',hc,_⟩:=a5
       exact nX _ _ e' (by rw[hc];intro w;cases w)
     have o3:∀a ∈ [z,TO,i1,i2],Own X pins H3 a∧a<s3.heap.objs.size:=fun a ha=>by
      obtain⟨oa,la⟩:=o a ha
      exact⟨⟨by rw[old a la (nO a ha)];exact oa.free,oa.loc,oa.new,oa.cell,oa.pin,oa.fs⟩,lt_of_lt_of_le la hsz⟩
     have lx:(xs.map V.int).length=xs.length:=length_map _
     have F:FnOk X.prog X.w X.K X.mg X.base CX0 1 f (kla_fn "<lambda>" (X.env.qual ++ "<lambda>") params (.Subscript (.Name y p3) (.Constant (.int 0) j p4) p5) scope [] pm (.ref c') ctv) [y] (sp_fst f c' (kla_obj "<lambda>" (X.env.qual ++ "<lambda>") params (.Subscript (.Name y p3) (.Constant (.int 0) j p4) p5) scope [] pm c' ctv) (X.env.qual ++ "<lambda>")):=by
      refine lam_ok S (fun vs H Q E h=>?_) (fun vs H Q E h=>⟨h.1,h.2.1⟩) fun A outer s H vs Q E hr h=>?_
      ·obtain⟨_,_,t,x,y',rfl,_⟩:=h
       rfl
      ·obtain⟨_,_,t,x,y',rfl,ht,hq⟩:=h
       exact⟨_,zA yt (pe_var (i:=0) rfl (.inl hy) hdb hdc) zj (fun _ _=>rfl),⟨_,rfl,t,[x,y'],0,x,rfl,rfl,.inl (.inl ht),rfl,hq⟩⟩
     show wpAny (model X.prog X.w) X.A (call (.builtin "sorted") [.ref z] [(Str.ofString "key",.ref f)]) _ _ s3
     refine sorted_zip (kz:=xs) (xv:=xs.map V.int) (yv:=yv) (q:=f) hr.hd D rx ry (by rw[lx];exact hl) (by rw[lx];exact h64) (by rw[lx];exact h0) lx.symm I3 o3 st3 (fun H4 ts s4 pr i v pins' s5 hv I5=>?_) fun s4 H4 ts l p sm pr hn hi I4=>?_
     ·rw[getElem?_map] at hv
      cases et:ts[i]? with
      | none=>rw[et] at hv;cases hv
      | some a =>
        rw[et] at hv
        cases hv
        obtain⟨⟨pa,pb⟩,ep,ha⟩:=pr.get i a et
        have epa:pa=.int (xs.getD i 0):=by
         rw[List.getElem?_zip_eq_some] at ep
         obtain⟨ep,_⟩:=ep
         rw[getElem?_map] at ep
         rw[getD_eq_getElem?_getD]
         cases ex:xs[i]? with
         | none=>rw[ex] at ep;cases ep
         | some x=>rw[ex] at ep;cases ep;rfl
        subst epa
        refine wpAny_call (codeAny_mono (F.run X.A.in1.in1 X.stack s5 H4 ⟨[.ref a],[]⟩ [.ref a] [.ref a] (fun x H'=>x=.int (xs.getD i 0)∧H'=H4) E0 hr.in1.in1 I5.env0.in1.in1 (.of_eq (hbind _ _ _ _ _ _)) (.cons rfl .nil) ⟨s4 _ _ hf,s4 _ _ hcc,a,_,_,rfl,ha,rfl,rfl⟩) fun r s6 hq=>?_)
        cases r with
        | error e=>exact hq
        | ok fl =>
          cases fl with
          | next=>exact False.elim hq
          | brk=>exact False.elim hq
          | cont=>exact False.elim hq
          | ret u =>
            obtain⟨v,H',I6,rv,rfl,rfl⟩:=I5.after hq
            obtain⟨tk,rfl⟩:=rv
            exact⟨I6,tk,rfl⟩
     ·rw[lx] at hi
      exact⟨.ref l,_,I4,rfl,q H4 ts l p (sn.trans sm.toN) (ls3.same sm) pr hn hi⟩
end
theorem comp2_zip{K:Frag}{l1 l2:Addr}{xs ys:List V}{c:St}{tc:TT}{te:TE}{H:Hp}{fin:List V→Hp→Prop}(Pv:Nat→List V→Hp→Prop)(h0:Pv 0 [] H)(hl:∀i zs H,i≤min xs.length ys.length→Pv i zs H→SqL K H l1 xs∧SqL K H l2 ys∧zs.length≤i)(hz:min xs.length ys.length≤sizeLine)
 (hs:∀i x y t zs H,xs[i]? = some x→ys[i]? = some y→H t=none→Pv i zs H→tc (some x::some y::c) (upd H t (.tup [x,y])) fun b H2=>if b=true then te (some x::some y::c) H2 fun z H3=>Pv (i+1) (zs++[z]) H3 else Pv (i+1) zs H2) (hd:∀zs H,Pv (min xs.length ys.length) zs H→fin zs H):zeP K (Itz K l1 l2) c tc te H fin:=by
 refine⟨fun i m zs H=>m=min xs.length ys.length-i∧i≤min xs.length ys.length∧Pv i zs H,⟨min xs.length ys.length,by simp,zero_le _,h0⟩,?_⟩
 rintro i m zs H ⟨rfl,hi,p⟩
 obtain⟨q1,q2,hy⟩:=hl i zs H hi p
 by_cases hlt:i<min xs.length ys.length
 ·have h1:i<xs.length:=by omega
  have h2:i<ys.length:=by omega
  refine .inr ⟨⟨xs,ys,xs[i],ys[i],q1,q2,by simp[h1],by simp[h2]⟩,by omega,Pv (i+1),fun zs' H' p'=>⟨min xs.length ys.length-(i+1),by omega,rfl,hlt,p'⟩,fun v H' y=>?_⟩
  obtain⟨t,x,y,rfl,hn,rfl,e1,e2⟩:=y
  exact⟨t,x,y,rfl,.inl (.inl ze),hs i x y t zs _ (e1 xs q1) (e2 ys q2) hn p⟩
 ·have e:i=min xs.length ys.length:=by omega
  subst e
  exact .inl ⟨⟨xs,ys,q1,q2,by omega⟩,by omega,hd zs H p⟩
section
variable {X:Cx}
end
section
variable {X:Cx}{tg:Expr}
end
theorem ziz(ts:List Str)(c:Str):ixV (ts.map V.str) (.str c)=ts.idxOf c:=by
 unfold ixV
 induction ts with
 | nil=>rfl
 | cons a ts ih =>
   rw[map_cons,findIdx_cons,List.idxOf_cons,ih]
   rfl
theorem getD_idxS{ts:List Str}{c:Str}(h:c∈ts):ts.getD (ts.idxOf c) ""=c:=by
 rw[getD_eq_getElem?_getD,getElem?_eq_getElem (idxOf_lt_length_of_mem h)]
 exact List.getElem_idxOf _
end L2
namespace L2
open PySem PySem.Spec PyProof.Rows PySem.Builtin PySem.Builtin.Str
theorem strs_of:∀{ts:List Str}{us:List Value},zF (ts.map V.str) us→∃l:List (Str×Tok),us=strValues l∧l.map (·.1)=ts
 | [],_,h=>by cases h;exact⟨[],rfl,rfl⟩
 | x::ts,_,h=>by
   cases h with
   | cons r h =>
     obtain⟨t,rfl⟩:=r
     obtain⟨l,rfl,e⟩:=strs_of h
     exact⟨(x,t)::l,rfl,by rw[map_cons,e]⟩
theorem join_fits{z:Str}{ts:List Str}(hz:z.length≤10)(hl:ts.length≤200)(h:∀t∈ts,t.length≤2000):tooLong (ts.toArray.foldl (·+ ·.length+z.length) 0)=false:=by
 have go:∀(l:List Str)(n:Nat),(∀t∈l,t.length≤2000)→l.foldl (·+ ·.length+z.length) n≤n+2010*l.length:=by
  intro l
  induction l with
  | nil=>intro n _;simp
  | cons t l ih =>
    intro n h
    have:=ih (n+t.length+z.length) fun u hu=>h u (mem_cons_of_mem _ hu)
    have h1:=h t (mem_cons_self ..)
    rw[foldl_cons,length_cons]
    omega
 have:=go ts 0 h
 have hln:=zx
 unfold tooLong
 rw[List.foldl_toArray]
 simp only[gt_iff_lt,decide_eq_false_iff_not]
 omega
section
variable {X:Cx}
theorem zcy:zaG X (.type "str") (fun xs H Q=>(∃i:Int,xs=[.int i]∧i.natAbs.log2<1920∧Q (.str (toString i)) H)∨∃y,xs=[.str y]∧Q (.str y) H):=by
 intro pins s σ H xs us Q I r h
 rcases h with⟨i,rfl,hd,q⟩|⟨y,rfl,q⟩
 ·obtain⟨u,rfl,⟨t,rfl⟩⟩:=r.one
  exact P.str_of_int hd ⟨.str _,H,I.tok _,⟨_,rfl⟩,q⟩
 ·obtain⟨u,rfl,⟨t,rfl⟩⟩:=r.one
  exact P.str_of_str ⟨.str _,H,I,⟨_,rfl⟩,q⟩
def rJoin(K:Frag):V→List V→Hp→VK→Prop:=fun x xs H Q=>∃(z:Str)(a:Addr)(ts:List Str),x=.str z∧xs=[.ref a]∧SqL K H a (ts.map V.str)∧z.length≤10∧ts.length≤200∧(∀t∈ts,t.length≤2000)∧Q (.str (Txt.join z ts)) H
theorem ms_join:MtR X "str.join" (rJoin X.K):=by
 intro pins s σ H x xs v us Q I rx rv h
 obtain⟨z,a,ts,rfl,rfl,hq,h1,h2,h3,q⟩:=h
 obtain⟨t,rfl⟩:=rx
 obtain⟨u,rfl,ru⟩:=rv.one
 cases ru
 obtain⟨its,rr,p,_⟩:=I.list hq
 obtain⟨l,rfl,rfl⟩:=strs_of rr
 have hf:=join_fits h1 h2 h3
 exact call_meets F.slot_str_join (typeIs_str _ _ _) F.entry_str_join (F.args_str_join_2 _ _) (meets_str_join_list z t a l hf) ⟨p.isList,post_join l ⟨joinFit_length hf,fun t' k=>⟨.str _,H,I.tok _,⟨_,rfl⟩,q⟩⟩⟩
end
def tN(n:Int):Str:=Str.ofString (toString n)
theorem zds{i:Int}(h:i.natAbs≤100000):i.natAbs.log2<1920:=by
 by_cases h0:i.natAbs=0
 ·rw[h0];decide
 ·have:i.natAbs.log2<17:=(Nat.log2_lt h0).mpr (by omega)
  omega
section
variable {κ:Type} [DecidableEq κ]
def zaW(kvs:List (κ×V))(k:κ):Option V:=(kvs.find? fun kv=>decide (kv.1=k)).map (·.2)
def zco(kvs:List (κ×V))(k:κ)(v:V):List (κ×V) :=
 if(kvs.any fun kv=>decide (kv.1=k))=true then kvs.map (fun kv=>if kv.1=k then(kv.1,v)else kv)else kvs++[(k,v)]
theorem wK{p:κ×V}{r:List (κ×V)}{k:κ}(e:p.1=k):zaW (p::r) k=some p.2:=by simp[zaW,find?_cons,e]
theorem wN{p:κ×V}{r:List (κ×V)}{k:κ}(e:¬p.1=k):zaW (p::r) k=zaW r k:=by simp[zaW,find?_cons,e]
theorem zdb(k:κ):∀kvs:List (κ×V),(kvs.any fun kv=>decide (kv.1=k))=(zaW kvs k).isSome
 | []=>rfl
 | p::r=>by
   rw[any_cons]
   by_cases e:p.1=k
   ·simp only[wK e,decide_eq_true e,Bool.true_or,Option.isSome_some]
   ·rw[wN e,decide_eq_false e,Bool.false_or];exact zdb k r
theorem zio(k j:κ)(y:V):∀kvs:List (κ×V),zaW (kvs.map fun kv=>if kv.1=k then(kv.1,y)else kv) j=(zaW kvs j).map fun x=>if j=k then y else x
 | []=>rfl
 | p::r=>by
   have ih:=zio k j y r
   rw[map_cons]
   by_cases h:p.1=k
   ·rw[if_pos h]
    by_cases e:p.1=j
    ·rw[wK (p:=(p.1,y)) e,wK e,Option.map_some,if_pos (e.symm.trans h)]
    ·rw[wN (p:=(p.1,y)) e,wN e,ih]
   ·rw[if_neg h]
    by_cases e:p.1=j
    ·rw[wK (p:=p) e,wK e,Option.map_some,if_neg (fun z=>h (e.trans z))]
    ·rw[wN (p:=p) e,wN e,ih]
theorem zgy(k j:κ)(y:V):∀kvs:List (κ×V),zaW kvs k=none→zaW (kvs++[(k,y)]) j=if j=k then some y else zaW kvs j
 | [],_=>by
   by_cases e:k=j
   ·rw[if_pos e.symm];exact wK (p:=(k,y)) e
   ·rw[if_neg (fun z=>e z.symm)];exact wN (p:=(k,y)) e
 | p::r,hn=>by
   rw[cons_append]
   have hk:¬p.1=k:=fun z=>by rw[wK z] at hn;cases hn
   rw[wN hk] at hn
   have ih:=zgy k j y r hn
   by_cases e:p.1=j
   ·rw[wK e,wK e,if_neg (fun z=>hk (e.trans z))]
   ·rw[wN e,wN e,ih]
theorem zen(kvs:List (κ×V))(k j:κ)(y:V):zaW (zco kvs k y) j=if j=k then some y else zaW kvs j:=by
 unfold zco
 by_cases a:(kvs.any fun kv=>decide (kv.1=k))=true
 ·rw[if_pos a,zio]
  rw[zdb] at a
  by_cases e:j=k
  ·obtain⟨x,hx⟩:=Option.isSome_iff_exists.mp a
   rw[if_pos e,e,hx,Option.map_some,if_pos rfl]
  ·rw[if_neg e]
   cases zaW kvs j with
   | none=>rfl
   | some x=>rw[Option.map_some,if_neg e]
 ·rw[if_neg a]
  refine zgy k j y kvs ?_
  rw[zdb] at a
  cases q:zaW kvs k with
  | none=>rfl
  | some x=>rw[q] at a;exact(a rfl).elim
theorem zdh(kvs:List (κ×V))(k:κ)(v:V):(zco kvs k v).length≤kvs.length+1:=by
 unfold zco
 split
 ·rw[length_map];omega
 ·rw[length_append,length_cons,length_nil];omega
theorem zdF.isSome_eq{o:Option V}{u:Option Value}(r:zdF o u):o.isSome=u.isSome:=by
 cases o with
 | none=>cases u with
   | none=>rfl
   | some _=>exact(show False from r).elim
 | some _=>cases u with
   | none=>exact(show False from r).elim
   | some _=>rfl
theorem KV.val{kvs:List (κ×V)}{vs:List (κ×Value)}(r:KV kvs vs)(k:κ):zdF (zaW kvs k) (valueAt vs k):=by
 unfold KV at r
 induction r with
 | nil=>exact True.intro
 | @cons p q ps qs h t ih =>
   obtain⟨h1,h2⟩:=h
   by_cases e:p.1=k
   ·have e':q.1=k:=h1.symm.trans e
    have b:valueAt (q::qs) k=some q.2:=by simp[valueAt,find?_cons,e']
    rw[wK e,b];exact h2
   ·have e':¬q.1=k:=fun z=>e (h1.trans z)
    have b:valueAt (q::qs) k=valueAt qs k:=by simp[valueAt,find?_cons,e']
    rw[wN e,b];exact ih
theorem KV.any{kvs:List (κ×V)}{vs:List (κ×Value)}(r:KV kvs vs)(k:κ):(kvs.any fun kv=>decide (kv.1=k))=vs.any fun kv=>decide (kv.1=k):=by
 unfold KV at r
 induction r with
 | nil=>rfl
 | cons h t ih=>rw[any_cons,any_cons,ih,h.1]
theorem KV.repl{kvs:List (κ×V)}{vs:List (κ×Value)}(r:KV kvs vs)(k:κ){y:V}{u:Value}(ry:zS y u):
 KV (kvs.map fun kv=>if kv.1=k then(kv.1,y)else kv) (vs.map fun kv=>if kv.1=k then(kv.1,u)else kv):=by
 unfold KV at r ⊢
 induction r with
 | nil=>exact .nil
 | @cons p q ps qs h t ih =>
   rw[map_cons,map_cons]
   refine .cons ?_ ih
   obtain⟨h1,h2⟩:=h
   by_cases e:p.1=k
   ·rw[if_pos e,if_pos (h1.symm.trans e)];exact⟨h1,ry⟩
   ·rw[if_neg e,if_neg (fun z=>e (h1.trans z))];exact⟨h1,h2⟩
theorem KV.put{kvs:List (κ×V)}{vs:List (κ×Value)}(r:KV kvs vs)(k:κ){y:V}{u:Value}(ry:zS y u):KV (zco kvs k y) (stored vs k u):=by
 unfold zco stored
 rw[r.any k]
 by_cases e:(vs.any fun kv=>decide (kv.1=k))=true
 ·rw[if_pos e,if_pos e];exact r.repl k ry
 ·rw[if_neg e,if_neg e];exact Paired.snoc r ⟨rfl,ry⟩
theorem KV.length{kvs:List (κ×V)}{vs:List (κ×Value)}(r:KV kvs vs):kvs.length=vs.length:=Paired.length r
end
theorem zik{P:Program}{w:World}{k:Key}{u:Value}(r:zS (kV k) u):(zae P w).is k u=true:=by
 cases k with
 | inl i=>obtain⟨t,e⟩:=(show ∃t,u=Value.int i t from r);subst e;exact zhX P w i t
 | inr x=>obtain⟨t,e⟩:=(show ∃t,u=Value.str x t from r);subst e;exact zit P w x t
theorem zgA{P:Program}{w:World}:∀{ks:List Key}{us:List Value},zF (ks.map kV) us→ItemsAre (zae P w) ks us
 | [],_,r=>by rw[map_nil] at r;cases r;exact .nil
 | k::ks,_,r=>by
   rw[map_cons] at r
   cases r with
   | cons h t=>exact .cons (zik h) (zgA t)
abbrev KT(H:Hp):List (List Key×V)→List (List Key×Addr×Value)→Prop:=Paired fun p q=>p.1=q.1∧H q.2.1=some (.tup (p.1.map kV))∧zS p.2 q.2.2
theorem KT.val{H:Hp}{kvs:List (List Key×V)}{xs:List (List Key×Addr×Value)}(r:KT H kvs xs)(k:List Key):zdF (zaW kvs k) ((atKey xs k).map (·.2)):=by
 induction r with
 | nil=>exact True.intro
 | @cons p q ps qs h t ih =>
   obtain⟨h1,_,h2⟩:=h
   by_cases e:p.1=k
   ·have e':q.1=k:=h1.symm.trans e
    have b:atKey (q::qs) k=some q.2:=by simp[atKey,find?_cons,e']
    rw[wK e,b];exact h2
   ·have e':¬q.1=k:=fun z=>e (h1.trans z)
    have b:atKey (q::qs) k=atKey qs k:=by simp[atKey,find?_cons,e']
    rw[wN e,b];exact ih
theorem KT.repl{H:Hp}{kvs:List (List Key×V)}{xs:List (List Key×Addr×Value)}(r:KT H kvs xs)(k:List Key){y:V}{u:Value}(ry:zS y u):
 KT H (kvs.map fun kv=>if kv.1=k then(kv.1,y)else kv) (xs.map (putAt k u)):=by
 induction r with
 | nil=>exact .nil
 | @cons p q ps qs h t ih =>
   rw[map_cons,map_cons]
   refine .cons ?_ ih
   obtain⟨h1,h2,h3⟩:=h
   unfold putAt
   by_cases e:p.1=k
   ·rw[if_pos e,if_pos (h1.symm.trans e)];exact⟨h1,h2,ry⟩
   ·rw[if_neg e,if_neg (fun z=>e (h1.trans z))];exact⟨h1,h2,h3⟩
theorem KT.put{H:Hp}{kvs:List (List Key×V)}{xs:List (List Key×Addr×Value)}(r:KT H kvs xs)(k:List Key){b:Addr}{y:V}{u:Value}(hb:H b=some (.tup (k.map kV)))(ry:zS y u):
 KT H (zco kvs k y) (storedH xs k b u):=by
 have e:(kvs.any fun kv=>decide (kv.1=k))=(atKey xs k).isSome:=by
  rw[zdb,(r.val k).isSome_eq,Option.isSome_map]
 unfold zco storedH
 rw[e]
 by_cases q:(atKey xs k).isSome=true
 ·rw[if_pos q,if_pos q];exact r.repl k ry
 ·rw[if_neg q,if_neg q];exact Paired.snoc r ⟨rfl,hb,ry⟩
theorem KT.keeps{H H':Hp}{kvs:List (List Key×V)}{xs:List (List Key×Addr×Value)}(r:KT H kvs xs)(ht:∀b ys,H b=some (.tup ys)→H' b=some (.tup ys)):KT H' kvs xs :=
 Paired.mapP r fun _ _ z=>⟨z.1,ht _ _ z.2.1,z.2.2⟩
section
variable {P:Program}{w:World}{H:Hp}{h:Heap}{a:Addr}
theorem rd_of{u:HO}(ok:HOk P w H h)(e:Rd H a u):wf P w H h a u:=e.ok ok
theorem zir{kvs:List (Key×V)}(ok:HOk P w H h)(e:Rd H a (.dK kvs)):kvs.length≤sizeLine∧(a==sysModules)=false∧∃vs,KV kvs vs∧h.DictOf (zae P w) a vs :=
 show wf P w H h a (.dK kvs)from rd_of ok e
theorem dk_of{kvs:List (Key×V)}(ok:HOk P w H h)(e:H a=some (.dK kvs)):kvs.length≤sizeLine∧(a==sysModules)=false∧∃vs,KV kvs vs∧h.DictOf (zae P w) a vs:=zir ok (.inl e)
theorem zfy{ks:List Key}(ok:HOk P w H h)(e:H a=some (.tup (ks.map kV))):(tupleKind (zae P w)).is h ks a:=by
 obtain⟨_,its,r,o,h1,h2,n,h3⟩:=(show wf P w H h a (.tup (ks.map kV))from ok a _ e)
 exact⟨o,its.toArray,n,h1,h2,h3,by simpa using zgA r⟩
theorem ziZ{kvs:List (List Key×V)}(ok:HOk P w H h)(e:Rd H a (.dT kvs)):kvs.length≤sizeLine∧(a==sysModules)=false ∧
 ∃xs,KT H kvs xs∧h.DictOfH (tupleKind (zae P w)) a xs:=by
 obtain⟨z,y,xs,r,o,es,ep,h1,h2,h3,h4,h5⟩:=(show wf P w H h a (.dT kvs)from rd_of ok e)
 refine⟨z,y,xs,r,o,es,ep,h1,h2,h3,h4,fun x hx=>?_,h5⟩
 have all:∀{l:List (List Key×V)} {m:List (List Key×Addr×Value)},KT H l m→∀x∈m,(tupleKind (zae P w)).is h x.1 x.2.1:=by
  intro l m q
  induction q with
  | nil=>intro x hx;exact nomatch hx
  | @cons p q ps qs hq t ih =>
    intro x hx
    rcases List.mem_cons.mp hx with e | hx
    ·subst e
     exact zfy ok (by rw[←hq.1];exact hq.2.1)
    ·exact ih x hx
 exact all r x hx
theorem dt_of{kvs:List (List Key×V)}(ok:HOk P w H h)(e:H a=some (.dT kvs)):kvs.length≤sizeLine∧(a==sysModules)=false ∧
 ∃xs,KT H kvs xs∧h.DictOfH (tupleKind (zae P w)) a xs:=ziZ ok (.inl e)
end
def zev(H:Hp)(a:Addr)(y:V)(r:Option V):Prop :=
 (∃kvs k,Rd H a (.dK kvs)∧y=kV k∧r=zaW kvs k)∨∃kvs k b,Rd H a (.dT kvs)∧y=.ref b∧H b=some (.tup (k.map kV))∧r=zaW kvs k
def DPut(H:Hp)(a:Addr)(y v:V)(H':Hp):Prop :=
 (∃kvs k,H a=some (.dK kvs)∧y=kV k∧kvs.length<sizeLine∧H'=upd H a (.dK (zco kvs k v))) ∨
 ∃kvs k b,H a=some (.dT kvs)∧y=.ref b∧H b=some (.tup (k.map kV))∧kvs.length<sizeLine∧H'=upd H a (.dT (zco kvs k v))
theorem zev.k{H:Hp}{a:Addr}{kvs:List (Key×V)}{k:Key}(e:H a=some (.dK kvs)):zev H a (kV k) (zaW kvs k):=.inl ⟨kvs,k,.inl e,rfl,rfl⟩
theorem DPut.k{H:Hp}{a:Addr}{kvs:List (Key×V)}{k:Key}{v:V}(e:H a=some (.dK kvs))(hl:kvs.length<sizeLine):DPut H a (kV k) v (upd H a (.dK (zco kvs k v))):=.inl ⟨kvs,k,e,rfl,hl,rfl⟩
section
variable {X:Cx}{pins:List (Addr×Obj)}{σ:St}{H:Hp}{s:Shared}{a:Addr}{y v:V}{u r:Value}{o:Option V}{A:Around}{E:Value→Shared→Prop}
theorem Inv.big(I:Inv X pins σ H s):sysModules<s.heap.objs.size:=by
 have h:mainGlobals<s.heap.objs.size:=(I.mod.glob.keeps I.bk).lt
 exact lt_trans (by decide) h
theorem d_getItem{Q:Value→Shared→Prop}(hu:A.units+1<cLine)(I:Inv X pins σ H s)(g:zev H a y (some v))(ry:zS y u)(h:∀w' s',Inv X pins σ H s'→zS v w'→Q w' s'):
 wpAny (model X.prog X.w) A (getItem (.ref a) u) Q E s:=by
 rcases g with⟨kvs,k,e,ey,l⟩|⟨kvs,k,b,e,ey,eb,l⟩
 ·subst ey
  obtain⟨z,hd,vs,rel,dd⟩:=zir I.hok e
  obtain⟨w',hw,rw'⟩:=zdF.some_of (v:=v) (o:=valueAt vs k) (by rw[l];exact rel.val k)
  exact wpAny_getItem_of (zik ry) dd.mapOf hw (h w' _ (I.tok _) rw')
 ·subst ey
  cases (show u=Value.ref b from ry)
  obtain⟨z,hd,xs,rel,dd⟩:=ziZ I.hok e
  obtain⟨w',hw,rw'⟩:=zdF.some_of (v:=v) (o:=(atKey xs k).map (·.2)) (by rw[l];exact rel.val k)
  obtain⟨p,hp,hp2⟩:=Option.map_eq_some_iff.mp hw
  refine wpAny_getItem_heap (tupleKind_room_in1 hu) (zfy I.hok eb) dd hp ?_
  rw[hp2]
  exact h w' _ (I.tok _) rw'
theorem d_in{Q:Value→Shared→Prop}(hu:A.units+1<cLine)(I:Inv X pins σ H s)(g:zev H a y o)(ry:zS y u)(h:∀s',Inv X pins σ H s'→Q (.bool o.isSome) s'):
 wpAny (model X.prog X.w) A (compareOp .In u (.ref a)) Q E s:=by
 rcases g with⟨kvs,k,e,ey,l⟩|⟨kvs,k,b,e,ey,eb,l⟩
 ·subst ey
  obtain⟨z,hd,vs,rel,dd⟩:=zir I.hok e
  refine wpAny_in_of (zik ry) hd dd.mapOf ?_
  rw[←(rel.val k).isSome_eq,←l]
  exact h _ (I.tok _)
 ·subst ey
  cases (show u=Value.ref b from ry)
  obtain⟨z,hd,xs,rel,dd⟩:=ziZ I.hok e
  refine wpAny_in_heap (tupleKind_room_in1 hu) (zfy I.hok eb) hd dd ?_
  have q:=(rel.val k).isSome_eq
  rw[Option.isSome_map] at q
  rw[←q,←l]
  exact h _ (I.tok _)
theorem d_notIn{Q:Value→Shared→Prop}(hu:A.units+1<cLine)(I:Inv X pins σ H s)(g:zev H a y o)(ry:zS y u)(h:∀s',Inv X pins σ H s'→Q (.bool (!o.isSome)) s'):
 wpAny (model X.prog X.w) A (compareOp .NotIn u (.ref a)) Q E s:=by
 rcases g with⟨kvs,k,e,ey,l⟩|⟨kvs,k,b,e,ey,eb,l⟩
 ·subst ey
  obtain⟨z,hd,vs,rel,dd⟩:=zir I.hok e
  refine wpAny_notIn_of (zik ry) hd dd.mapOf ?_
  rw[←(rel.val k).isSome_eq,←l]
  exact h _ (I.tok _)
 ·subst ey
  cases (show u=Value.ref b from ry)
  obtain⟨z,hd,xs,rel,dd⟩:=ziZ I.hok e
  refine wpAny_notIn_heap (tupleKind_room_in1 hu) (zfy I.hok eb) hd dd ?_
  have q:=(rel.val k).isSome_eq
  rw[Option.isSome_map] at q
  rw[←q,←l]
  exact h _ (I.tok _)
theorem d_write{h':Heap}{t':Nat}{ob:HO}(I:Inv X pins σ H s)(mu:Mut (H a))(hs:SameBut a s.heap h')(he:∃q,h'.get? a=some q)(new:wf X.prog X.w (upd H a ob) h' a ob):
 Inv X pins σ (upd H a ob) { s with heap:=h',toks:=t' } :=
 I.write (x:=a) (e:=a) mu (.inl rfl) (fun b q hb z=>(hs.2 b hb).trans z) he new
theorem dk_new{P:Program}{w:World}{H':Hp}{h':Heap}{kvs:List (Key×V)}{vs:List (Key×Value)}(z:kvs.length≤sizeLine)(hd:(a==sysModules)=false)(rel:KV kvs vs)(dd:h'.DictOf (zae P w) a vs):
 wf P w H' h' a (.dK kvs):=⟨z,hd,vs,rel,dd⟩
theorem d_setItem{H':Hp}{Q:Unit→Shared→Prop}(hu:A.units+1<cLine)(I:Inv X pins σ H s)(g:DPut H a y v H')(ry:zS y u)(rv:zS v r)(h:∀s',Inv X pins σ H' s'→Q () s'):
 wpAny (model X.prog X.w) A (setItem (.ref a) u r) Q E s:=by
 rcases g with⟨kvs,k,e,ey,l,eH⟩|⟨kvs,k,b,e,ey,eb,l,eH⟩
 ·subst ey eH
  obtain⟨z,hd,vs,rel,dd⟩:=dk_of I.hok e
  have hz:vs.length≤sizeLine:=by rw[←rel.length];exact z
  have hl:(zco kvs k v).length≤sizeLine:=by have:=zdh kvs k v;omega
  refine wpAny_setItem_pairs (hsz:=hz) (zik ry) dd fun h' dd' hs=>h _ ?_
  have he:∃q,h'.get? a=some q:=let ⟨q,_,_,hq,_⟩:=dd';⟨q,hq⟩
  exact d_write I (by rw[e];exact True.intro) hs he (dk_new hl hd (rel.put k rv) dd')
 ·subst ey eH
  cases (show u=Value.ref b from ry)
  obtain⟨z,hd,xs,rel,dd⟩:=dt_of I.hok e
  have hz:xs.length≤sizeLine:=by rw[←Paired.length rel];exact z
  have hl:(zco kvs k v).length≤sizeLine:=by have:=zdh kvs k v;omega
  refine wpAny_setItem_heap (hsz:=hz) (tupleKind_room_in1 hu) (zfy I.hok eb) dd fun h' dd' hs=>h _ ?_
  obtain⟨q,es,ep,hq,h2,h3,h4,_,h5⟩:=dd'
  refine d_write I (by rw[e];exact True.intro) hs ⟨q,hq⟩ ⟨hl,hd,_,(rel.put k eb rv).keeps fun c ys ec=>?_,q,es,ep,hq,h2,h3,h4,h5⟩
  rw[zl (wR ec e (fun z=>nomatch z))]
  exact ec
end
section
variable {X:Cx}{pins:List (Addr×Obj)}{σ:St}{H:Hp}{s:Shared}{a:Addr}{kvs:List (Key×V)}{k:Key}{u:Value}{A:Around}{E:Value→Shared→Prop}
end
def NoSl(i:Expr):Prop:=∀ov iv,subscripted i false ov iv=operate [ov,iv] (getItem ov iv)
theorem subD_of{prog:Program}{w:World}{A:Around}{E:Value→Shared→Prop}{s:Shared}{env:Env}{value slice:Expr}{pos:Pos}{T id:String}{Q:Value→Shared→Prop}
 (hl:typeLookup (.type T) "__getitem__"=pure (some (.builtin id))) (hs:NoSl slice)
 (h:wpAny (model prog w) A (eval value env) (fun o s₁=>wpAny (model prog w) A (eval slice env) (fun i s₂=>s₂.TypeIs o T∧wpAny (model prog w) A (getItem o i) Q E s₂) E s₁) E s) :
 wpAny (model prog w) A (eval (.Subscript value slice pos) env) Q E s:=by
 refine Subscript_ (wpAny_mono h (fun o s₁ h₁=>wpAny_mono h₁ (fun i s₂ h₂=>?_) fun _ _ x=>x) fun _ _ x=>x)
 obtain⟨hT,h₂⟩:=h₂
 unfold subscriptTail
 refine wpAny_bind ?_
 rw[getitemInPython_of_ne hT.not_modules]
 refine wpAny_bind (wpAny_specialOf hT hl ?_)
 have fin:wpAny (model prog w) A (subscripted slice false o i) (fun r s₃=>wpAny (model prog w) A (letTemporaryGo value o r >>= fun _=>pure r) Q E s₃) E s₂:=by
  rw[hs o i]
  exact wpAny_operating (wpAny_mono h₂ (fun r s₃ h₃=>wpAny_bind (wpAny_letTemporaryGo (wpAny_pure h₃))) fun _ _ x=>x)
 first
  | exact wpAny_pure (wpAny_bind fin)
  | exact wpAny_bind (wpAny_pure (wpAny_bind fin))
  | exact wpAny_bind fin
theorem zii{X:Cx}{pins:List (Addr×Obj)}{σ:St}{H:Hp}{s:Shared}{a:Addr}{y:V}{o:Option V}(I:Inv X pins σ H s)(g:zev H a y o):s.TypeIs (.ref a) "dict":=by
 rcases g with⟨kvs,k,e,_,_⟩|⟨kvs,k,b,e,_,_,_⟩
 ·obtain⟨_,_,vs,_,dd⟩:=zir I.hok e
  exact dd.typeIs
 ·obtain⟨_,_,xs,_,dd⟩:=ziZ I.hok e
  exact dd.typeIs
def tDGet(td ty:TE):TE:=fun σ H Q=>td σ H fun x H1=>ty σ H1 fun y H2=>∃a v,x=.ref a∧zev H2 a y (some v)∧Q v H2
def tDIn(ty td:TE):TE:=fun σ H Q=>ty σ H fun y H1=>td σ H1 fun x H2=>∃a o,x=.ref a∧zev H2 a y o∧Q (.bl o.isSome) H2
def tDNotIn(ty td:TE):TE:=fun σ H Q=>ty σ H fun y H1=>td σ H1 fun x H2=>∃a o,x=.ref a∧zev H2 a y o∧Q (.bl (!o.isSome)) H2
def sDPut(td ty tv:TE):TS:=fun D σ H=>tv σ H fun v H1=>td σ H1 fun x H2=>ty σ H2 fun y H3=>∃a H4,x=.ref a∧DPut H3 a y v H4∧D.nx σ H4
section
variable {X:Cx}{o i e value:Expr}{pos pos' tpos:Pos}{td ty tv:TE}
theorem pe_dget(hu:X.A.units+1<cLine)(ho:PE X o td)(hi:PE X i ty)(hs:NoSl i):PE X (.Subscript o i pos) (tDGet td ty):=by
 intro pins s σ H Q I h
 refine subD_of PySem.F.slot_dict_getitem.lookup hs (thn (ho pins s σ H _ I h) fun u s1 ⟨x,H1,I1,rx,q1⟩=>thn (hi pins s1 σ H1 _ I1 q1) fun iv s2 ⟨y,H2,I2,ry,a,v,ex,g,q2⟩=>?_)
 subst ex
 obtain rfl:u=Value.ref a:=rx
 exact⟨zii I2 g,d_getItem hu I2 g ry fun w' s3 I3 rw'=>⟨v,H2,I3,rw',q2⟩⟩
theorem pc_din(hu:X.A.units+1<cLine)(hi:PE X i ty)(ho:PE X o td):PC X .In i o (tDIn ty td):=by
 intro pins s σ H Q I h
 refine thn (hi pins s σ H _ I h) fun iv s1 ⟨y,H1,I1,ry,q1⟩=>thn (ho pins s1 σ H1 _ I1 q1) fun u s2 ⟨x,H2,I2,rx,a,ov,ex,g,q2⟩=>?_
 subst ex
 obtain rfl:u=Value.ref a:=rx
 exact d_in hu I2 g ry fun s3 I3=>⟨.bl ov.isSome,H2,I3,rfl,q2⟩
theorem pc_dnotin(hu:X.A.units+1<cLine)(hi:PE X i ty)(ho:PE X o td):PC X .NotIn i o (tDNotIn ty td):=by
 intro pins s σ H Q I h
 refine thn (hi pins s σ H _ I h) fun iv s1 ⟨y,H1,I1,ry,q1⟩=>thn (ho pins s1 σ H1 _ I1 q1) fun u s2 ⟨x,H2,I2,rx,a,ov,ex,g,q2⟩=>?_
 subst ex
 obtain rfl:u=Value.ref a:=rx
 exact d_notIn hu I2 g ry fun s3 I3=>⟨.bl (!ov.isSome),H2,I3,rfl,q2⟩
theorem ps_dput(hu:X.A.units+1<cLine)(ho:PE X o td)(hi:PE X i ty)(hv:PE X value tv)(hs:swapsWith value (some (.Subscript o i pos')) pos.line X.env=pure false):
 PS X (.Assign [.Subscript o i pos'] value pos) (sDPut td ty tv):=by
 intro pins s σ H D I h
 refine wpAny_Assign_Subscript (thn (hv pins s σ H _ I h) fun r s1 ⟨v,H1,I1,rv,q1⟩=>thn (ho pins s1 σ H1 _ I1 q1) fun u s2 ⟨x,H2,I2,rx,q2⟩=>thn (hi pins s2 σ H2 _ I2 q2) fun iv s3 ⟨y,H3,I3,ry,a,H4,ex,g,q3⟩=>?_) hs
 subst ex
 obtain rfl:u=Value.ref a:=rx
 exact d_setItem hu I3 g ry rv fun s4 I4=>⟨σ,H4,I4,q3⟩
end
theorem dk_empty{P:Program}{w:World}{H:Hp}(h:Heap)(hb:sysModules<h.objs.size):wf P w H (h.push { cls:=.type "dict",data:=.dict #[] }) h.objs.size (.dK []) :=
 ⟨zero_le _,beq_eq_false_iff_ne.mpr (Ne.symm (ne_of_lt hb)),[],.nil,Heap.DictOf.new h⟩
def tDNewK:TE:=fun _ H Q=>∀p,H p=none→Q (.ref p) (upd H p (.dK []))
section
variable {X:Cx}{pos:Pos}
theorem pe_dnewK:PE X (.Dict [] [] pos) tDNewK:=fun pins s σ H Q I h =>
 wpAny_Dict_empty ⟨.ref s.heap.objs.size,_,I.laid (a:=s.heap.objs.size) (o:=.dK []) (t':=s.toks) (fun _ _ q=>get?_push_of_some _ q) (le_refl _) (dk_empty s.heap I.big),rfl,h _ (I.hok.fresh (le_refl _))⟩
end
structure M1 (X:Cx) (o:Expr) (m:Str) (apos:Pos) (e:Expr) (cpos:Pos):Prop where
 base:attributeBase o m X.env (eval o X.env)=eval o X.env
 few:((backTo cpos (starEach [e] X.env)).all (fun x => !x.1) && (backToKw cpos (keywordEach [] X.env)).all (fun x=>x.1.isSome)
  && decide (([e]:List Expr).length+([]:List Keyword).length+(if([]:List Keyword).isEmpty then 0 else 1)<30))=true
 line:(apos.endLine==cpos.line)=true
 trees:backTo cpos (starEach [e] X.env)=[(false,eval e X.env)]
structure M2 (X:Cx) (o:Expr) (m:Str) (apos:Pos) (e f:Expr) (cpos:Pos):Prop where
 base:attributeBase o m X.env (eval o X.env)=eval o X.env
 few:((backTo cpos (starEach [e,f] X.env)).all (fun x => !x.1) && (backToKw cpos (keywordEach [] X.env)).all (fun x=>x.1.isSome)
  && decide (([e,f]:List Expr).length+([]:List Keyword).length+(if([]:List Keyword).isEmpty then 0 else 1)<30))=true
 line:(apos.endLine==cpos.line)=true
 trees:backTo cpos (starEach [e,f] X.env)=[(false,eval e X.env),(false,eval f X.env)]
section
variable {X:Cx}{pins:List (Addr×Obj)}{σ:St}{H:Hp}{s:Shared}{a:Addr}{y d:V}{u r:Value}{o:Option V}{A:Around}{E:Value→Shared→Prop}
end
section
variable {X:Cx}{o e f:Expr}{apos cpos:Pos}{td ty tx:TE}
end
section
variable {X:Cx}{pins:List (Addr×Obj)}{σ:St}{H:Hp}{s:Shared}{a:Addr}{kvs:List (Key×V)}{A:Around}{E:Value→Shared→Prop}
end
section
variable {X:Cx}{pins:List (Addr×Obj)}{σ:St}{H:Hp}{s:Shared}{a:Addr}{y:V}{u:Value}{A:Around}{E:Value→Shared→Prop}
end
section
variable {X:Cx}
end
section
variable {κ:Type} [DecidableEq κ]
end
end L2
namespace M1
def gap(c:Int):Int:=[1,7,500,998].getD (c%4).toNat 1
def couples(c:Int)(m:Nat):List Int:=(List.range m).map fun(k:Nat)=>(c/4+(k:Int)*gap c)%999+1
theorem zeU(c:Int)(m:Nat):(couples c m).length=m:=by unfold couples;simp
theorem zhg(c:Int)(m:Nat):couples c (m+1)=couples c m++[(c/4+(m:Int)*gap c)%999+1]:=by unfold couples;rw[range_succ,map_append];rfl
theorem zgt{c:Int}{m:Nat}{x:Int}(h:x∈couples c m):1≤x∧x≤999:=by
 obtain⟨k,_,rfl⟩:=List.mem_map.mp h
 have h1:=Int.emod_nonneg (c/4+(k:Int)*gap c) (show(999:Int)≠0 by decide)
 have h2:=Int.emod_lt_of_pos (c/4+(k:Int)*gap c) (show(0:Int)<999 by decide)
 omega
theorem gap_cases(c:Int):gap c=1∨gap c=7∨gap c=500∨gap c=998:=by
 have h:c%4=0∨c%4=1∨c%4=2∨c%4=3:=by omega
 unfold gap
 rcases h with h | h | h | h <;> rw[h]
 ·exact .inl rfl
 ·exact .inr (.inl rfl)
 ·exact .inr (.inr (.inl rfl))
 ·exact .inr (.inr (.inr rfl))
theorem zgc{c:Int}{m:Nat}(hm:m≤999):(couples c m).Nodup:=by
 unfold couples
 refine List.pairwise_map.mpr (List.Pairwise.imp_of_mem (fun {i j} hi hj hlt e=>?_) (pairwise_lt_range (n:=m)))
 have hi:=List.mem_range.mp hi
 have hj:=List.mem_range.mp hj
 rcases gap_cases c with g | g | g | g <;> rw[g] at e <;> omega
def zcx(ns:List Int):Bool:=(decide (1≤(ns.length:Int)) && decide ((ns.length:Int)≤24)) && (decide ns.Nodup && (ns.map fun n=>decide (1≤n) && decide (n≤999)).all id)
theorem zeJ(ns:List Int):zcx ns=true↔(1≤ns.length∧ns.length≤24)∧ns.Nodup∧∀n∈ns,1≤n∧n≤999:=by
 unfold zcx
 simp only[Bool.and_eq_true,decide_eq_true_eq,all_map,all_eq_true,Function.comp,id]
 constructor
 ·rintro ⟨⟨h1,h2⟩,h3,h4⟩
  exact⟨⟨by omega,by omega⟩,h3,h4⟩
 ·rintro ⟨⟨h1,h2⟩,h3,h4⟩
  exact⟨⟨by omega,by omega⟩,h3,h4⟩
end M1
namespace M2
open PySem L2
def zeZ(z:Str):Bool:=(decide (1≤(z.length:Int)) && decide ((z.length:Int)≤8)) && (z.cps.toList.map zdo).all id
def zdK(ts:List Str):Bool:=(decide (1≤(ts.length:Int)) && decide ((ts.length:Int)≤15)) && (decide ts.Nodup && (ts.map zeZ).all id)
theorem zeB(z:Str):zeZ z=true↔(1≤z.length∧z.length≤8)∧∀c∈z.cps.toList,zdo c=true:=by
 unfold zeZ
 simp only[Bool.and_eq_true,decide_eq_true_eq,all_map,all_eq_true,Function.comp,id]
 constructor
 ·rintro ⟨⟨h1,h2⟩,h3⟩
  exact⟨⟨by omega,by omega⟩,h3⟩
 ·rintro ⟨⟨h1,h2⟩,h3⟩
  exact⟨⟨by omega,by omega⟩,h3⟩
theorem zeH(ts:List Str):zdK ts=true↔(1≤ts.length∧ts.length≤15)∧ts.Nodup∧∀z∈ts,(1≤z.length∧z.length≤8)∧∀c∈z.cps.toList,zdo c=true:=by
 unfold zdK
 simp only[Bool.and_eq_true,decide_eq_true_eq,all_map,all_eq_true,Function.comp,id,zeB]
 constructor
 ·rintro ⟨⟨h1,h2⟩,h3,h4⟩
  exact⟨⟨by omega,by omega⟩,h3,h4⟩
 ·rintro ⟨⟨h1,h2⟩,h3,h4⟩
  exact⟨⟨by omega,by omega⟩,h3,h4⟩
theorem le_a(c:Nat):(!decide ((⟨#[c]⟩:Str).cps.toList<("a":Str).cps.toList))=decide (97≤c):=by
 have e:("a":Str).cps.toList=[97]:=by decide +kernel
 rw[e]
 show(!decide ([c] < [97]))=_
 by_cases h:97≤c
 ·rw[decide_eq_true h,decide_eq_false];rfl
  simp[cons_lt_cons_iff];omega
 ·rw[decide_eq_false h,decide_eq_true];rfl
  simp[cons_lt_cons_iff];omega
theorem le_z(c:Nat):(!decide (("z":Str).cps.toList<(⟨#[c]⟩:Str).cps.toList))=decide (c≤122):=by
 have e:("z":Str).cps.toList=[122]:=by decide +kernel
 rw[e]
 show(!decide ([122] < [c]))=_
 by_cases h:c≤122
 ·rw[decide_eq_true h,decide_eq_false];rfl
  simp[cons_lt_cons_iff];omega
 ·rw[decide_eq_false h,decide_eq_true];rfl
  simp[cons_lt_cons_iff];omega
end M2
namespace M10
open PySem L2 M2
def zgV(e0 e1:Str)(c:Int)(k:Nat):Str:=e0++⟨#[97+((c+11*(k:Int))%26).toNat]⟩++e1
def zcI(e0 e1:Str)(c:Int)(m:Nat):List Str:=(List.range m).map fun(k:Nat)=>zgV e0 e1 c k
theorem ziw(e0 e1:Str)(c:Int)(m:Nat):zcI e0 e1 c (m+1)=zcI e0 e1 c m++[zgV e0 e1 c m]:=by unfold zcI;rw[range_succ,map_append];rfl
theorem zf3(e0 e1:Str)(c:Int)(m:Nat):(zcI e0 e1 c m).length=m:=by unfold zcI;simp
theorem zfn(e0 e1:Str)(c:Int)(k:Nat):(zgV e0 e1 c k).cps.toList=e0.cps.toList++[97+((c+11*(k:Int))%26).toNat]++e1.cps.toList:=by
 show(e0.cps ++ #[97+((c+11*(k:Int))%26).toNat]++e1.cps).toList=_
 rw[Array.toList_append,Array.toList_append]
theorem zht(e0 e1:Str)(c:Int){m:Nat}(hm:m≤26):(zcI e0 e1 c m).Nodup:=by
 unfold zcI
 refine List.pairwise_map.mpr (List.Pairwise.imp_of_mem (fun {i j} hi hj hlt e=>?_) (pairwise_lt_range (n:=m)))
 have hi:=List.mem_range.mp hi
 have hj:=List.mem_range.mp hj
 have h:=congrArg (fun s:Str=>s.cps.toList) e
 simp only[zfn,append_assoc] at h
 have h2:=List.append_cancel_left h
 have h3:97+((c+11*(i:Int))%26).toNat=97+((c+11*(j:Int))%26).toNat:=by
  have:=List.cons.inj (show(97+((c+11*(i:Int))%26).toNat)::e1.cps.toList=(97+((c+11*(j:Int))%26).toNat)::e1.cps.toList from h2)
  exact this.1
 omega
theorem nameK_good{e0 e1:Str}(c:Int)(k:Nat)(hl:e0.length+e1.length≤7)(h0:∀x∈e0.cps.toList,zdo x=true)(h1:∀x∈e1.cps.toList,zdo x=true):zeZ (zgV e0 e1 c k)=true:=by
 rw[zeB]
 have hlen:(zgV e0 e1 c k).length=e0.length+1+e1.length:=by unfold zgV;rw[wl,wl];rfl
 refine⟨by omega,fun x hx=>?_⟩
 rw[zfn] at hx
 rcases List.mem_append.mp hx with hx | hx
 ·rcases List.mem_append.mp hx with hx | hx
  ·exact h0 x hx
  ·have e:x=97+((c+11*(k:Int))%26).toNat:=List.mem_singleton.mp hx
   have:=Int.emod_nonneg (c+11*(k:Int)) (show(26:Int)≠0 by decide)
   have:=Int.emod_lt_of_pos (c+11*(k:Int)) (show(0:Int)<26 by decide)
   unfold zdo
   rw[e,decide_eq_true (by omega),decide_eq_true (by omega)]
   rfl
 ·exact h1 x hx
theorem ends_ok(z p:Fin 8)(h:p.val≤z.val):(PySem.Txt.slice "vwxyzab" none (some (p.val:Int))).length+(PySem.Txt.slice "vwxyzab" (some (p.val:Int)) (some (z.val:Int))).length≤7 ∧
 (∀x∈(PySem.Txt.slice "vwxyzab" none (some (p.val:Int))).cps.toList,zdo x=true)∧∀x∈(PySem.Txt.slice "vwxyzab" (some (p.val:Int)) (some (z.val:Int))).cps.toList,zdo x=true:=by
 revert z p
 decide +kernel
end M10
namespace M3
open PySem L2
def got(ms:List Int)(n:Int):List Int:=ms.filter fun m=>decide (m≤n)
def cnt(ms:List Int)(n:Int):Nat:=(got ms n).length
def sm(ms:List Int)(n:Int):Int:=(got ms n).sum
def isF(ms:List Int)(f:Int):Prop:=ms.length<2*cnt ms f∧2*cnt ms (f-1)≤ms.length
theorem zbN{ms:List Int}{a b:Int}(h:a≤b):cnt ms a≤cnt ms b:=by
 unfold cnt got
 induction ms with
 | nil=>exact le_refl _
 | cons x ms ih =>
   rw[filter_cons,filter_cons]
   by_cases h1:x≤a
   ·rw[if_pos (decide_eq_true h1),if_pos (decide_eq_true (by omega)),length_cons,length_cons];omega
   ·rw[if_neg (by simpa using h1)]
    split
    ·rw[length_cons];omega
    ·exact ih
theorem zbZ{ms:List Int}{f g:Int}(h1:isF ms f)(h2:isF ms g):f=g:=by
 unfold isF at h1 h2
 rcases Int.lt_trichotomy f g with h | h | h
 ·have:=zbN (ms:=ms) (show f≤g-1 by omega);omega
 ·exact h
 ·have:=zbN (ms:=ms) (show g≤f-1 by omega);omega
theorem zg4{ms:List Int}{n:Int}(h:∀x∈ms,n<x):cnt ms n=0:=by
 unfold cnt got
 rw[List.filter_eq_nil_iff.mpr]
 ·rfl
 ·intro x hx;have:=h x hx;simp;omega
theorem zf7{ms:List Int}{n:Int}(h:∀x∈ms,x≤n):cnt ms n=ms.length:=by
 unfold cnt got
 rw[List.filter_eq_self.mpr]
 intro x hx;have:=h x hx;simp;omega
theorem zcQ(ms:List Int)(n:Int):cnt ms n≤ms.length:=length_filter_le _ _
theorem zcz{ms:List Int}{f:Int}(h:isF ms f)(lo hi:Int)(hl:∀x∈ms,lo≤x∧x≤hi):lo≤f∧f≤hi:=by
 unfold isF at h
 constructor
 ·by_cases c:lo≤f
  ·exact c
  ·have:=zg4 (ms:=ms) (n:=f) fun x hx=>by have:=(hl x hx).1;omega
   omega
 ·by_cases c:f≤hi
  ·exact c
  ·have:=zf7 (ms:=ms) (n:=f-1) fun x hx=>by have:=(hl x hx).2;omega
   have:=zcQ ms f
   omega
theorem zeh{ms:List Int}{i:Nat}(n:Int)(hi:i<ms.length):got (ms.take (i+1)) n=if ms.getD i 0≤n then got (ms.take i) n++[ms.getD i 0] else got (ms.take i) n:=by
 unfold got
 rw[wB hi,filter_append,filter_cons]
 by_cases h:ms.getD i 0≤n
 ·rw[if_pos (decide_eq_true h),if_pos h];rfl
 ·rw[if_neg (by simpa using h),if_neg h];simp
end M3
namespace L2
open PySem
inductive All2 {α β:Type} (R:α→β→Prop):List α→List β→Prop
 | nil:All2 R [] []
 | cons {a:α} {b:β} {as:List α} {bs:List β}:R a b→All2 R as bs→All2 R (a::as) (b::bs)
namespace All2
variable {α β:Type}{R S:α→β→Prop}{as as':List α}{bs bs':List β}
theorem length(h:All2 R as bs):as.length=bs.length:=by
 induction h with
 | nil=>rfl
 | cons _ _ ih=>rw[length_cons,length_cons,ih]
theorem imp(f:∀a b,R a b→S a b)(h:All2 R as bs):All2 S as bs:=by
 induction h with
 | nil=>exact .nil
 | cons r _ ih=>exact .cons (f _ _ r) ih
theorem append(h:All2 R as bs)(h':All2 R as' bs'):All2 R (as++as') (bs++bs'):=by
 induction h with
 | nil=>exact h'
 | cons r _ ih=>exact .cons r ih
theorem snoc{a:α}{b:β}(h:All2 R as bs)(r:R a b):All2 R (as++[a]) (bs++[b]):=h.append (.cons r .nil)
theorem get(h:All2 R as bs):∀{i:Nat}{b:β},bs[i]? = some b→∃a,as[i]? = some a∧R a b:=by
 induction h with
 | nil=>intro i b e;simp at e
 | cons r _ ih =>
   intro i b e
   cases i with
   | zero=>simp only[List.getElem?_cons_zero] at e ⊢;cases e;exact⟨_,rfl,r⟩
   | succ i=>simp only[List.getElem?_cons_succ] at e ⊢;exact ih e
theorem getL(h:All2 R as bs):∀{i:Nat}{a:α},as[i]? = some a→∃b,bs[i]? = some b∧R a b:=by
 induction h with
 | nil=>intro i b e;simp at e
 | cons r _ ih =>
   intro i b e
   cases i with
   | zero=>simp only[List.getElem?_cons_zero] at e ⊢;cases e;exact⟨_,rfl,r⟩
   | succ i=>simp only[List.getElem?_cons_succ] at e ⊢;exact ih e
end All2
def zaQ{α:Type}(K:Frag)(R:Hp→Addr→α→Prop)(H:Hp)(a:Addr)(xs:List α):Prop:=∃ls:List Addr,SqL K H a (ls.map V.ref)∧All2 (R H) ls xs
def Stays{α:Type}(R:Hp→Addr→α→Prop):Prop:=∀H H' l x,zi H H'→R H l x→R H' l x
theorem zaQ.same{α:Type}{K:Frag}{R:Hp→Addr→α→Prop}(st:Stays R){H H':Hp}{a:Addr}{xs:List α}(s:zi H H')(h:zaQ K R H a xs):zaQ K R H' a xs:=by
 obtain⟨ls,q,r⟩:=h
 exact⟨ls,s.seq q,r.imp fun a b=>st _ _ _ _ s⟩
def IL(K:Frag)(H:Hp)(l:Addr)(c:List Int):Prop:=SqL K H l (c.map V.int)
def TPl(K:Frag)(H:Hp)(l:Addr)(p:Int×Int):Prop:=SqT K H l [.int p.1,.int p.2]
theorem IL.stays(K:Frag):Stays (IL K):=fun _ _ _ _ s h=>zi.seq s h
theorem TPl.stays(K:Frag):Stays (TPl K):=fun _ _ _ _ s h=>s.seqT h
theorem wt{ls:List Addr}{i:Nat}{l:Addr}(h:ls[i]? = some l):(ls.map V.ref)[i]? = some (.ref l):=by rw[getElem?_map,h];rfl
theorem zal{ls:List Addr}{i:Nat}{x:V}(h:(ls.map V.ref)[i]? = some x):∃l,ls[i]? = some l∧x=.ref l:=by
 rw[getElem?_map] at h
 cases e:ls[i]? with
 | none=>rw[e] at h;cases h
 | some l=>rw[e] at h;cases h;exact⟨l,rfl,rfl⟩
theorem zd7{K:Frag}{a:Addr}{ms:List Int}{n:Int}{c:St}{tc:TT}{te:TE}{H:Hp}{fin:List V→Hp→Prop}(hS:SqL K H a (ms.map V.int))(hz:ms.length≤1000000)
 (hc:∀x (R:Bool→Hp→Prop),R (decide (x≤n)) H→tc (some (.int x)::c) H R) (he:∀x (R:V→Hp→Prop),R (.int x) H→te (some (.int x)::c) H R) (hd:fin ((M3.got ms n).map V.int) H):zcb (Itl K a) c tc te H fin:=by
 refine yG (xs:=ms.map V.int) (fun i ys H2=>H2=H∧ys=(M3.got (ms.take i) n).map V.int) ⟨rfl,rfl⟩ ?_ (by rw[length_map];have:=zx;omega) ?_ ?_
 ·rintro i ys H2 hi ⟨rfl,rfl⟩
  refine⟨hS,?_⟩
  rw[length_map]
  have:=M3.zcQ (ms.take i) n
  unfold M3.cnt at this
  rw[length_take] at this
  omega
 ·rintro i x ys H2 hx ⟨rfl,rfl⟩
  obtain⟨hi,rfl⟩:=zam hx
  refine hc _ _ (wv (fun h=>?_) (fun h=>?_))
  ·refine he _ _ ⟨rfl,?_⟩
   rw[M3.zeh n hi,if_pos h,map_append]
   rfl
  ·refine⟨rfl,?_⟩
   rw[M3.zeh n hi,if_neg h]
 ·rintro ys H2 ⟨rfl,rfl⟩
  rw[length_map,take_length]
  exact hd
theorem SqT.put{K:Frag}{H:Hp}{a p:Addr}{xs ys:List V}{o:HO}(h:SqT K H a xs)(hp:H p=some (.lst ys)):SqT K (upd H p o) a xs:=by
 rcases h with(h | ⟨u,h⟩) | h
 ·exact .inl (.inl (by rw[zl (fun e=>by rw[e,hp] at h;cases h)];exact h))
 ·exact .inl (.inr ⟨u,by rw[zl (fun e=>by rw[e,hp] at h;cases h)];exact h⟩)
 ·exact .inr h
theorem TPl.put{K:Frag}{H:Hp}{p:Addr}{ys:List V}{o:HO}{ls:List Addr}{ps:List (Int×Int)}(h:All2 (TPl K H) ls ps)(hp:H p=some (.lst ys)):All2 (TPl K (upd H p o)) ls ps:=h.imp fun _ _ r=>SqT.put r hp
theorem zd4{H:Hp}{l:Addr}(ls:List Addr)(x:Addr):upd H l (.lst (ls.map V.ref++[V.ref x])) l=some (.lst ((ls++[x]).map V.ref)):=ze.trans (congrArg (fun l=>some (HO.lst l)) (by rw[map_append];rfl))
theorem pe_both{X:Cx}{e:Expr}{t u:TE}(h1:PE X e t)(h2:PE X e u):PE X e (fun σ H Q=>t σ H Q∨u σ H Q):=by
 intro pins s σ H Q I h
 rcases h with h | h
 ·exact h1 pins s σ H Q I h
 ·exact h2 pins s σ H Q I h
structure Sh where
 couples:List Int
 struck:List Int
 panel:List Str
 card:Str→Option (List Int)
 taken:Nat
 shut:Bool
def wo(c:Int)(l:List Int):List Int:=l.filter fun o => !decide (o=c)
namespace Sh
structure Ok (S:Sh):Prop where
 c1:1≤S.couples.length
 c24:S.couples.length+S.struck.length≤24
 nd:S.couples.Nodup
 rng:∀c∈S.couples,1≤c∧c≤999
 p1:1≤S.panel.length
 p15:S.panel.length≤15
 pnd:S.panel.Nodup
 cd:∀j c,S.card j=some c→j∈S.panel∧c.Perm S.couples
 t200:S.taken≤200
def handed(S:Sh):List Str:=S.panel.filter fun j=>(S.card j).isSome
def cardsIn(S:Sh):List (List Int):=S.handed.map fun j=>(S.card j).getD []
def new(us:List Int)(ts:List Str):Sh:=⟨us,[],ts,fun _=>none,0,false⟩
def hand(S:Sh)(j:Str)(c:List Int):Sh:={ S with card:=fun k=>if k=j then some c else S.card k,taken:=S.taken+1 }
def refuse(S:Sh)(j:Str)(c:List Int):Option Str :=
 if S.shut=true then some "SheetSealed" else if j∈S.panel then(if c.Perm S.couples then(if 200≤S.taken then some "TooManyCards" else none)else some "BadCard")else some "UnknownJudge"
def strike(S:Sh)(c:Int):Sh:={ S with couples:=wo c S.couples,struck:=S.struck++[c],card:=fun j=>(S.card j).map (wo c) }
def refuseS(S:Sh)(c:Int):Option Str :=
 if S.shut=true then some "SheetSealed" else if c∈S.couples then(if S.couples.length=1 then some "LastCouple" else none)else some "UnknownCouple"
theorem Ok.new{us:List Int}{ts:List Str}(h1:M1.zcx us=true)(h2:M2.zdK ts=true):(new us ts).Ok:=by
 have g1:=h1
 unfold M1.zcx at g1
 simp only[Bool.and_eq_true,decide_eq_true_eq,all_map,all_eq_true,Function.comp,id] at g1
 obtain⟨⟨a1,a2⟩,a3,a4⟩:=g1
 obtain⟨⟨b1,b2⟩,b3,_⟩:=(M2.zeH ts).mp h2
 exact⟨by show 1≤us.length;omega,by show us.length+0≤24;omega,a3,a4,b1,b2,b3,(fun _ _ h=>nomatch h),zero_le _⟩
theorem Ok.hand{S:Sh}(h:S.Ok){j:Str}{c:List Int}(hr:S.refuse j c=none):(S.hand j c).Ok∧j∈S.panel∧c.Perm S.couples∧S.taken<200∧S.shut=false:=by
 unfold refuse at hr
 split at hr
 ·cases hr
 rename_i h1
 split at hr
 rename_i h2
 split at hr
 rename_i h3
 split at hr
 ·cases hr
 rename_i h4
 ·refine⟨⟨h.c1,h.c24,h.nd,h.rng,h.p1,h.p15,h.pnd,fun k d e=>?_,by show S.taken+1≤200;omega⟩,h2,h3,by omega,by simpa using h1⟩
  have e:(if k=j then some c else S.card k)=some d:=e
  by_cases ek:k=j
  ·rw[if_pos ek] at e
   cases e
   subst ek
   exact⟨h2,h3⟩
  ·rw[if_neg ek] at e
   exact h.cd k d e
 ·cases hr
 ·cases hr
theorem wo_len{c:Int}{l:List Int}(nd:l.Nodup)(hc:c∈l):(wo c l).length+1=l.length:=by
 unfold wo
 have e:(l.filter fun o => !decide (o=c))=l.erase c:=by
  rw[nd.erase_eq_filter]
  refine filter_congr fun x _=>?_
  by_cases h:x=c
  ·subst h;simp
  ·simp[h]
 rw[e,List.length_erase_of_mem hc]
 have:=length_pos_of_mem hc
 omega
theorem Ok.strike{S:Sh}(h:S.Ok){c:Int}(hr:S.refuseS c=none):(S.strike c).Ok∧c∈S.couples∧2≤S.couples.length∧S.shut=false:=by
 unfold refuseS at hr
 split at hr
 ·cases hr
 rename_i h1
 split at hr
 rename_i h2
 split at hr
 ·cases hr
 rename_i h3
 ·have hl:=wo_len h.nd h2
  have h0:=h.c1
  have h24:=h.c24
  refine⟨⟨?_,?_,h.nd.filter _,fun d hd=>h.rng d (List.mem_filter.mp hd).1,h.p1,h.p15,h.pnd,fun k d e=>?_,h.t200⟩,h2,by omega,by simpa using h1⟩
  ·show 1≤(wo c S.couples).length
   omega
  ·show(wo c S.couples).length+(S.struck++[c]).length≤24
   rw[length_append,length_singleton]
   omega
  ·have e:(S.card k).map (wo c)=some d:=e
   cases q:S.card k with
   | none=>rw[q] at e;cases e
   | some b =>
     rw[q] at e
     cases e
     exact⟨(h.cd k b q).1,(h.cd k b q).2.filter _⟩
 ·cases hr
end Sh
def shF(a1 a2 a3 d:Addr)(S:Sh):List (Str×V):=[("standing",.ref a1),("struck_so_far",.ref a2),("panel",.ref a3),("card_by_judge",.ref d),("taken_so_far",.int S.taken),("sealed",.bl S.shut)]
structure Shape (K:Frag) (H:Hp) (p:Addr) (F:Addr→Prop) (S:Sh) (dx a1 a2 a3 d:Addr) (kvs:List (Key×V)):Prop where
 ip:H p=some (.ins (zL K "Sheet") dx (shF a1 a2 a3 d S))
 i1:H a1=some (.lst (S.couples.map V.int))
 i2:H a2=some (.lst (S.struck.map V.int))
 i3:H a3=some (.lst (S.panel.map V.str))
 i4:H d=some (.dK kvs)
 kl:kvs.length≤S.taken
 cn:∀j,S.card j=none→zaW kvs (Sum.inr j)=none
 cs:∀j c,S.card j=some c→∃l,zaW kvs (Sum.inr j)=some (.ref l)∧H l=some (.lst (c.map V.int))∧F l∧l≠a2
 fp:F p
 f1:F a1
 f2:F a2
 f3:F a3
 f4:F d
 n12:a1≠a2
 n32:a3≠a2
 fh:∀b,F b→H b≠none
structure SheetIn (K:Frag) (H:Hp) (p:Addr) (F:Addr→Prop) (S:Sh) (dx a1 a2 a3 d:Addr) (kvs:List (Key×V)):Prop extends Shape K H p F S dx a1 a2 a3 d kvs where
 ok:S.Ok
def ShapeAt(K:Frag)(H:Hp)(p:Addr)(F:Addr→Prop)(S:Sh):Prop:=∃dx a1 a2 a3 d kvs,Shape K H p F S dx a1 a2 a3 d kvs
def zB(K:Frag)(H:Hp)(p:Addr)(F:Addr→Prop)(S:Sh):Prop:=∃dx a1 a2 a3 d kvs,SheetIn K H p F S dx a1 a2 a3 d kvs
theorem SheetIn.off{K:Frag}{H H':Hp}{p:Addr}{F:Addr→Prop}{S:Sh}{dx a1 a2 a3 d:Addr}{kvs:List (Key×V)}(h:SheetIn K H p F S dx a1 a2 a3 d kvs)(e:∀b,F b→H' b=H b):SheetIn K H' p F S dx a1 a2 a3 d kvs :=
 ⟨⟨(e _ h.fp).trans h.ip,(e _ h.f1).trans h.i1,(e _ h.f2).trans h.i2,(e _ h.f3).trans h.i3,(e _ h.f4).trans h.i4,h.kl,h.cn,
  fun j c hc=>let ⟨l,x1,x2,x3,x4⟩:=h.cs j c hc;⟨l,x1,(e _ x3).trans x2,x3,x4⟩,h.fp,h.f1,h.f2,h.f3,h.f4,h.n12,h.n32,fun b hb=>by rw[e b hb];exact h.fh b hb⟩,h.ok⟩
theorem zB.off{K:Frag}{H H':Hp}{p:Addr}{F:Addr→Prop}{S:Sh}(h:zB K H p F S)(e:∀b,F b→H' b=H b):zB K H' p F S:=by
 obtain⟨dx,a1,a2,a3,d,kvs,h⟩:=h
 exact⟨dx,a1,a2,a3,d,kvs,h.off e⟩
theorem zB.fh{K:Frag}{H:Hp}{p:Addr}{F:Addr→Prop}{S:Sh}(h:zB K H p F S):∀b,F b→H b≠none:=by
 obtain⟨dx,a1,a2,a3,d,kvs,h⟩:=h
 exact h.fh
theorem zB.ok{K:Frag}{H:Hp}{p:Addr}{F:Addr→Prop}{S:Sh}(h:zB K H p F S):S.Ok:=by
 obtain⟨dx,a1,a2,a3,d,kvs,h⟩:=h
 exact h.ok
theorem zB.shape{K:Frag}{H:Hp}{p:Addr}{F:Addr→Prop}{S:Sh}(h:zB K H p F S):ShapeAt K H p F S:=by
 obtain⟨dx,a1,a2,a3,d,kvs,h⟩:=h
 exact⟨dx,a1,a2,a3,d,kvs,h.toShape⟩
theorem zB.same{K:Frag}{H H':Hp}{p:Addr}{F:Addr→Prop}{S:Sh}(h:zB K H p F S)(s:zi H H'):zB K H' p F S:=h.off fun b hb=>by
 have:=h.fh b hb
 cases e:H b with
 | none=>exact absurd e this
 | some o=>exact s b o e
def zc5(F:Addr→Prop)(H:Hp)(F':Addr→Prop)(H':Hp):Prop:=∀b o,H b=some o→¬F b→H' b=some o∧¬F' b
def LQ(K:Frag)(F:Addr→Prop)(H:Hp)(a:Addr)(xs:List V):Prop :=
 (Rd H a (.lst xs)∧¬F a)∨∃(o:Obj)(its:Array Value)(n:Nat),K.lookup a=some o∧o.cls=.type "list"∧o.dict=none∧o.data=.seq its n∧its.size≤sizeLine∧zF xs its.toList
theorem LQ.sq{K:Frag}{F:Addr→Prop}{H:Hp}{a:Addr}{xs:List V}(h:LQ K F H a xs):SqL K H a xs:=h.imp (fun z=>z.1) id
theorem LQ.deed{K:Frag}{F F':Addr→Prop}{H H':Hp}{a:Addr}{xs:List V}(h:LQ K F H a xs)(d:zc5 F H F' H'):LQ K F' H' a xs:=by
 rcases h with⟨r | ⟨o,r⟩,n⟩ | h
 ·exact .inl ⟨.inl (d a _ r n).1,(d a _ r n).2⟩
 ·exact .inl ⟨.inr ⟨o,(d a _ r n).1⟩,(d a _ r n).2⟩
 ·exact .inr h
theorem LQ.same{K:Frag}{F:Addr→Prop}{H H':Hp}{a:Addr}{xs:List V}(h:LQ K F H a xs)(s:zi H H'):LQ K F H' a xs:=by
 rcases h with⟨r | ⟨o,r⟩,n⟩ | h
 ·exact .inl ⟨.inl (s a _ r),n⟩
 ·exact .inl ⟨.inr ⟨o,s a _ r⟩,n⟩
 ·exact .inr h
theorem LQ.of{K:Frag}{F:Addr→Prop}{H:Hp}{a:Addr}{xs:List V}(h:H a=some (.lst xs))(n:¬F a):LQ K F H a xs:=.inl ⟨.inl h,n⟩
theorem SqL.none{K:Frag}{H:Hp}{a:Addr}{xs:List V}(h:SqL K H a xs):LQ K (fun _=>False) H a xs:=h.imp (fun z=>⟨z,fun w=>w⟩) id
theorem zc5.same{F:Addr→Prop}{H H':Hp}(s:zi H H'):zc5 F H F H':=fun b o e n=>⟨s b o e,n⟩
theorem zc5.trans{F F1 F2:Addr→Prop}{H H1 H2:Hp}(a:zc5 F H F1 H1)(b:zc5 F1 H1 F2 H2):zc5 F H F2 H2:=fun c o e n=>b c o (a c o e n).1 (a c o e n).2
theorem zB.apart{K:Frag}{H:Hp}{p:Addr}{F:Addr→Prop}{S:Sh}(h:zB K H p F S){l:Addr}(n:H l=none):¬F l:=fun z=>h.fh l z n
theorem zef{H:Hp}{x l:Addr}{o u i:HO}(hx:H x=some i)(hl:H l=none):upd (upd H l o) x u x=some u∧upd (upd H l o) x u l=some o∧l≠x∧∀b v,H b=some v→b≠x→upd (upd H l o) x u b=some v:=by
 have n:l≠x:=fun e=>by rw[e,hx] at hl;cases hl
 exact⟨ze,by rw[zl n];exact ze,n,fun b v e nb=>by rw[zl nb,zl (zr e hl)];exact e⟩
theorem zi2(f:Str)(v x:V)(r:List (Str×V)):zaH f v ((f,x)::r)=(f,v)::r:=by rw[zaH,if_pos rfl]
theorem yx{f g:Str}(v x:V)(r:List (Str×V))(h:g≠f):zaH f v ((g,x)::r)=(g,x)::zaH f v r:=by rw[zaH,if_neg h]
theorem pf1(v:V):zaH "standing" v []=([("standing",v)]:List (Str×V)):=rfl
theorem pf2(u v:V):zaH "struck_so_far" v [("standing",u)]=([("standing",u),("struck_so_far",v)]:List (Str×V)):=by rw[yx _ _ _ (by decide)];rfl
theorem pf3(u w v:V):zaH "panel" v [("standing",u),("struck_so_far",w)]=([("standing",u),("struck_so_far",w),("panel",v)]:List (Str×V)):=by rw[yx _ _ _ (by decide),yx _ _ _ (by decide)];rfl
theorem pf4(u w y v:V):zaH "card_by_judge" v [("standing",u),("struck_so_far",w),("panel",y)]=([("standing",u),("struck_so_far",w),("panel",y),("card_by_judge",v)]:List (Str×V)):=by rw[yx _ _ _ (by decide),yx _ _ _ (by decide),yx _ _ _ (by decide)];rfl
theorem pf5(u w y z v:V):zaH "taken_so_far" v [("standing",u),("struck_so_far",w),("panel",y),("card_by_judge",z)]=([("standing",u),("struck_so_far",w),("panel",y),("card_by_judge",z),("taken_so_far",v)]:List (Str×V)):=by rw[yx _ _ _ (by decide),yx _ _ _ (by decide),yx _ _ _ (by decide),yx _ _ _ (by decide)];rfl
theorem pf6(u w y z t v:V):zaH "sealed" v [("standing",u),("struck_so_far",w),("panel",y),("card_by_judge",z),("taken_so_far",t)]=([("standing",u),("struck_so_far",w),("panel",y),("card_by_judge",z),("taken_so_far",t),("sealed",v)]:List (Str×V)):=by rw[yx _ _ _ (by decide),yx _ _ _ (by decide),yx _ _ _ (by decide),yx _ _ _ (by decide),yx _ _ _ (by decide)];rfl
theorem zhS(a1 a2 a3 d b:Addr)(S S':Sh)(h:S'.taken=S.taken)(h2:S'.shut=S.shut):zaH "standing" (.ref b) (shF a1 a2 a3 d S)=shF b a2 a3 d S':=by unfold shF;rw[zi2,h,h2]
theorem pf_taken(a1 a2 a3 d:Addr)(S S':Sh)(h2:S'.shut=S.shut):zaH "taken_so_far" (.int S'.taken) (shF a1 a2 a3 d S)=shF a1 a2 a3 d S':=by
 unfold shF
 rw[yx _ _ _ (by decide),yx _ _ _ (by decide),yx _ _ _ (by decide),yx _ _ _ (by decide),zi2,h2]
theorem putK_len{kvs:List (Key×V)}{k:Key}{v u:V}(h:zaW kvs k=some u):(zco kvs k v).length=kvs.length:=by
 unfold zco
 have:(kvs.any fun kv=>decide (kv.1=k))=true:=by rw[zdb,h];rfl
 rw[if_pos this,length_map]
theorem zB.ins{K:Frag}{H:Hp}{p:Addr}{F:Addr→Prop}{S:Sh}(h:zB K H p F S):∃dx a1 a2 a3 d,H p=some (.ins (zL K "Sheet") dx (shF a1 a2 a3 d S)):=by
 obtain⟨dx,a1,a2,a3,d,kvs,h⟩:=h
 exact⟨dx,a1,a2,a3,d,h.ip⟩
def Sh.rows(S:Sh):List (List Int):=S.panel.map fun j=>(S.card j).getD []
theorem map_getD{α:Type}(l:List α)(d:α):(List.range l.length).map (fun k=>l.getD k d)=l:=by
 refine ext_getElem (by simp) fun i h1 h2=>?_
 simp[h2]
theorem Sh.rows_len(S:Sh):S.rows.length=S.panel.length:=by unfold rows;simp
theorem Sh.rows_at(S:Sh){k:Nat}(h:k<S.panel.length):S.rows.getD k []=(S.card (S.panel.getD k "")).getD []:=by
 unfold rows
 rw[getD_eq_getElem?_getD,getD_eq_getElem?_getD,getElem?_map,getElem?_eq_getElem h]
 rfl
theorem Sh.Ok.full{S:Sh}(h:S.Ok){j:Str}{c:List Int}(e:S.card j=some c):c≠[]:=fun z=>by
 have:=(h.cd j c e).2.length_eq
 have h1:=h.c1
 rw[z] at this
 simp at this
 omega
theorem All2.at{α β:Type}{R:α→β→Prop}{as:List α}{bs:List β}(h:All2 R as bs){i:Nat}(hi:i<bs.length)(d:β):∃a,as[i]? = some a∧R a (bs.getD i d):=by
 have e:bs[i]? = some (bs.getD i d):=by rw[getD_eq_getElem?_getD,getElem?_eq_getElem hi];rfl
 exact h.get e
theorem All2.set{α β:Type}{R:α→β→Prop}{as:List α}{bs:List β}(h:All2 R as bs){a:α}{b:β}(r:R a b):∀k,All2 R (as.set k a) (bs.set k b):=by
 induction h with
 | nil=>intro k;exact .nil
 | cons r' h' ih =>
   intro k
   cases k with
   | zero=>exact .cons r h'
   | succ k=>exact .cons r' (ih k)
def Rows(F:Addr→Prop)(H:Hp)(lc:Addr)(ls:List Addr)(cs:List (List Int)):Prop:=H lc=some (.lst (ls.map V.ref))∧¬F lc∧All2 (fun l c=>H l=some (.lst (c.map V.int))∧¬F l) ls cs
theorem Rows.len{F:Addr→Prop}{H:Hp}{lc:Addr}{ls:List Addr}{cs:List (List Int)}(h:Rows F H lc ls cs):ls.length=cs.length:=h.2.2.length
theorem Rows.refs{F:Addr→Prop}{H:Hp}{lc:Addr}{ls:List Addr}{cs:List (List Int)}(K:Frag)(h:Rows F H lc ls cs):zaQ K (IL K) H lc cs:=⟨ls,SqL.of h.1,h.2.2.imp fun _ _ z=>SqL.of z.1⟩
theorem Rows.deed{F F':Addr→Prop}{H H':Hp}{lc:Addr}{ls:List Addr}{cs:List (List Int)}(h:Rows F H lc ls cs)(d:zc5 F H F' H'):Rows F' H' lc ls cs :=
 ⟨(d _ _ h.1 h.2.1).1,(d _ _ h.1 h.2.1).2,h.2.2.imp fun _ _ z=>d _ _ z.1 z.2⟩
theorem Rows.same{F:Addr→Prop}{H H':Hp}{lc:Addr}{ls:List Addr}{cs:List (List Int)}(h:Rows F H lc ls cs)(s:zi H H'):Rows F H' lc ls cs:=h.deed (zc5.same s)
theorem zhx{ls:List Addr}{c:List Int}(h:ls≠[]):(HO.lst (c.map V.int)) ≠ .lst (ls.map V.ref):=fun z=>by
 injection z with z
 cases ls with
 | nil=>exact h rfl
 | cons l ls=>cases c with
   | nil=>cases z
   | cons x c=>simp at z
theorem Rows.set{F:Addr→Prop}{H:Hp}{lc:Addr}{ls:List Addr}{cs:List (List Int)}(h:Rows F H lc ls cs)(hne:ls≠[]){m:Addr}{c:List Int}(hm:H m=some (.lst (c.map V.int)))(nm:¬F m)(k:Nat):
 Rows F (upd H lc (.lst ((ls.map V.ref).set k (.ref m)))) lc (ls.set k m) (cs.set k c):=by
 refine⟨by rw[ze,map_set],h.2.1,All2.set (h.2.2.imp fun l c z=>⟨?_,z.2⟩) ⟨?_,nm⟩ k⟩
 ·rw[zl (wR z.1 h.1 (zhx hne))];exact z.1
 ·rw[zl (wR hm h.1 (zhx hne))];exact hm
theorem Sh.rows_hand{S:Sh}(h:S.panel.Nodup){k:Nat}(hk:k<S.panel.length)(c:List Int):(S.hand (S.panel.getD k "") c).rows=S.rows.set k c:=by
 unfold Sh.rows
 refine ext_getElem (by simp;rfl) fun i h1 h2=>?_
 have hi:i<S.panel.length:=by simpa using h2
 rw[List.getElem_set]
 have e1:((S.hand (S.panel.getD k "") c).panel.map fun j=>((S.hand (S.panel.getD k "") c).card j).getD [])[i]=(if S.panel[i]=S.panel.getD k "" then some c else S.card S.panel[i]).getD []:=by
  rw[getElem_map]
  rfl
 rw[e1]
 have ek:S.panel.getD k ""=S.panel[k]:=by rw[getD_eq_getElem?_getD,getElem?_eq_getElem hk];rfl
 by_cases hki:k=i
 ·subst hki
  rw[if_pos ek.symm,if_pos rfl]
  rfl
 ·rw[if_neg hki,if_neg (fun z=>hki (List.getElem_inj h |>.mp (z.trans ek)).symm),getElem_map]
theorem Sh.rows_strike(S:Sh)(c:Int):(S.strike c).rows=S.rows.map (wo c):=by
 unfold Sh.rows
 rw[map_map]
 refine map_congr_left fun j _=>?_
 show((S.card j).map (wo c)).getD []=wo c ((S.card j).getD [])
 cases S.card j with
 | none=>rfl
 | some d=>rfl
theorem Sh.rows_le{S:Sh}(h:S.Ok){d:List Int}(hd:d∈S.rows):d.length≤24:=by
 unfold Sh.rows at hd
 obtain⟨j,_,rfl⟩:=List.mem_map.mp hd
 cases e:S.card j with
 | none=>exact zero_le _
 | some c =>
   have:=(h.cd j c e).2.length_eq
   have:=h.c24
   show c.length≤24
   omega
end L2
namespace M5
open PySem L2 M3
def key(ms:List Int):Nat→List Int
 | 0=>[]
 | k+1=>(fun a:List Int=>if a=[] then [] else a++[-((got ms ((k:Int)+1)).length:Int),(got ms ((k:Int)+1)).sum])
    (if key ms k=[]∧ms.length<2*(got ms ((k:Int)+1)).length then [(k:Int)+1] else key ms k)
def zm(cs:List (List Int))(c:Int):List Int:=cs.map fun card=>(card.idxOf c:Int)+1
def zep(cs:List (List Int))(us:List Int):List (List Int):=us.map fun c=>key (zm cs c) us.length
def zdG(rs:List (List Int))(m:List Int):Nat:=(rs.filter fun r=>HT.lexLt r m).length
def spots(cs:List (List Int))(us:List Int):List Int:=(zep cs us).map fun m=>1+(zdG (zep cs us) m:Int)
def rows(ps us:List Int):List (Int×Int):=(List.range us.length).flatMap fun(i:Nat)=>(ps.zip us).filter fun p=>decide (p.1=(i:Int)+1)
theorem key_len(ms:List Int):∀k,(key ms k).length≤1+2*k
 | 0=>zero_le _
 | k+1=>by
   have ih:=key_len ms k
   unfold key
   dsimp only
   have go:∀a:List Int,a.length≤1+2*k→(if a=[] then [] else a++[-((got ms ((k:Int)+1)).length:Int),(got ms ((k:Int)+1)).sum]).length≤1+2*(k+1):=fun a h=>by
    split
    ·simp
    ·rw[length_append,length_cons,length_cons,length_nil];omega
   refine go _ ?_
   split
   ·rw[length_cons,length_nil];omega
   ·exact ih
theorem zW(cs:List (List Int))(c:Int):(zm cs c).length=cs.length:=by unfold zm;simp
theorem rows_len(ps us:List Int)(h:ps.length=us.length):(rows ps us).length≤us.length*us.length:=by
 unfold rows
 have go:∀n:Nat,((List.range n).flatMap fun(i:Nat)=>(ps.zip us).filter fun p=>decide (p.1=(i:Int)+1)).length≤n*us.length:=fun n=>by
  induction n with
  | zero=>simp
  | succ n ih =>
    rw[range_succ,flatMap_append,length_append,Nat.succ_mul]
    have h1:=length_filter_le (fun p=>decide (p.1=(n:Int)+1)) (ps.zip us)
    rw[length_zip,h,Nat.min_self] at h1
    have e:flatMap (fun(i:Nat)=>(ps.zip us).filter fun p=>decide (p.1=(i:Int)+1)) [n]=(ps.zip us).filter fun p=>decide (p.1=(n:Int)+1):=by simp
    rw[e]
    omega
 exact go us.length
end M5
namespace M6
open PySem L2 M3 M5
abbrev Sg:=Option (Int×Int)
def sg(a:List Int)(k:Int):Sg:=if a.length<2*cnt a k then some ((cnt a k:Int),sm a k)else none
def olt:Sg→Sg→Bool
 | some _,none=>true
 | none,_=>false
 | some p,some q=>decide (q.1<p.1) || (decide (p.1=q.1) && decide (p.2<q.2))
def zH:List Sg→List Sg→Bool
 | x::xs,y::ys=>if x=y then zH xs ys else olt x y
 | _,_=>false
def wG(a:List Int)(n:Nat):List Sg:=(List.range n).map fun(i:Nat)=>sg a ((i:Int)+1)
def zR(a b:List Int)(n:Nat):Bool:=zH (wG a n) (wG b n)
theorem zdd(k:Nat)(x:Sg)(xs ys:List Sg):zH (replicate k x++xs) (replicate k x++ys)=zH xs ys:=by
 induction k with
 | zero=>rfl
 | succ k ih=>rw[List.replicate_succ,cons_append,cons_append,zH,if_pos rfl];exact ih
def tl(a:List Int)(f m:Nat):List Int:=(List.range m).flatMap fun(i:Nat)=>[-(cnt a ((f:Int)+i):Int),sm a ((f:Int)+i)]
theorem tl_succ(a:List Int)(f m:Nat):tl a f (m+1)=tl a f m++[-(cnt a ((f:Int)+m):Int),sm a ((f:Int)+m)]:=by
 unfold tl;rw[range_succ,flatMap_append];simp
theorem ziA{a:List Int}:∀{k:Nat},(∀j:Nat,j≤k→1≤j→2*cnt a j≤a.length)→key a k=[]
 | 0,_=>rfl
 | k+1,h=>by
   have ih:=ziA (a:=a) (k:=k) fun j hj h1=>h j (by omega) h1
   have hk:=h (k+1) (le_refl _) (by omega)
   have e:((k+1:Nat):Int)=(k:Int)+1:=by omega
   rw[e] at hk
   unfold cnt at hk
   unfold key
   rw[ih,if_neg (fun z=>absurd z.2 (by omega))]
   rfl
theorem zfS{a:List Int}{f:Nat}(h1:1≤f)(hf:isF a f):∀m:Nat,key a (f+m)=(f:Int)::tl a f (m+1)
 | 0=>by
   obtain⟨g,rfl⟩:∃g,f=g+1:=⟨f-1,by omega⟩
   have e:((g+1:Nat):Int)=(g:Int)+1:=by omega
   have hlow:key a g=[]:=ziA fun j hj hj1=>by
    have:=zbN (ms:=a) (show(j:Int)≤((g+1:Nat):Int)-1 by omega)
    have:=hf.2
    omega
   have hov:=hf.1
   rw[e] at hov
   unfold cnt at hov
   show key a (g+1)=_
   unfold key
   rw[hlow,if_pos ⟨rfl,hov⟩,tl_succ]
   have e0:((g+1:Nat):Int)+((0:Nat):Int)=(g:Int)+1:=by omega
   rw[e0,e]
   rfl
 | m+1=>by
   have ih:=zfS h1 hf m
   show key a ((f+m)+1)=_
   unfold key
   rw[ih,if_neg (fun z=>by cases z.1),tl_succ a f (m+1)]
   have e:((f+m:Nat):Int)+1=(f:Int)+((m+1:Nat):Int):=by omega
   rw[e]
   rfl
theorem zb5{a:List Int}{k:Int}(h:2*cnt a k≤a.length):sg a k=none:=by unfold sg;rw[if_neg (by omega)]
theorem wn{a:List Int}{k:Int}(h:a.length<2*cnt a k):sg a k=some ((cnt a k:Int),sm a k):=by unfold sg;rw[if_pos h]
theorem zgN{a:List Int}{f m:Nat}(h1:1≤f)(hf:isF a f):wG a (f+m)=replicate (f-1) none++(List.range (m+1)).map fun(i:Nat)=>some ((cnt a ((f:Int)+i):Int),sm a ((f:Int)+i)):=by
 refine ext_getElem ?_ fun i hi1 hi2=>?_
 ·unfold wG;simp;omega
 ·have hi:i<f+m:=by unfold wG at hi1;simpa using hi1
  have e1:(wG a (f+m))[i]=sg a ((i:Int)+1):=by
   have:(wG a (f+m))[i]? = some (sg a ((i:Int)+1)):=by
    show((List.range (f+m)).map fun(i:Nat)=>sg a ((i:Int)+1))[i]? = _
    rw[getElem?_map,getElem?_range hi]
    rfl
   rw[getElem?_eq_getElem hi1] at this
   exact Option.some.inj this
  rw[e1]
  by_cases c:i<f-1
  ·rw[List.getElem_append_left (by simpa using c),List.getElem_replicate]
   refine zb5 ?_
   have:=zbN (ms:=a) (show(i:Int)+1≤(f:Int)-1 by omega)
   have:=hf.2
   omega
  ·rw[List.getElem_append_right (by simpa using c)]
   simp only[List.length_replicate,getElem_map,getElem_range]
   have e2:(f:Int)+((i-(f-1):Nat):Int)=(i:Int)+1:=by omega
   rw[e2]
   refine wn ?_
   have:=zbN (ms:=a) (show(f:Int)≤(i:Int)+1 by omega)
   have:=hf.1
   omega
theorem zgJ(c s c' s':Nat→Int):∀(m j:Nat),HT.lexLt ((range' j m).flatMap fun(i:Nat)=>[-c i,s i]) ((range' j m).flatMap fun(i:Nat)=>[-c' i,s' i])=zH ((range' j m).map fun(i:Nat)=>some (c i,s i)) ((range' j m).map fun(i:Nat)=>some (c' i,s' i))
 | 0,j=>rfl
 | m+1,j=>by
   rw[List.range'_succ,List.flatMap_cons,List.flatMap_cons,map_cons,map_cons]
   show HT.lexLt (-c j::s j::_) (-c' j::s' j::_)=_
   rw[HT.lexLt_cons,HT.lexLt_cons,zH,←zgJ c s c' s' m (j+1)]
   by_cases h1:c j=c' j
   ·rw[if_pos (by rw[h1])]
    by_cases h2:s j=s' j
    ·rw[if_pos h2,if_pos (by rw[h1,h2])];rfl
    ·rw[if_neg h2,if_neg (fun z=>h2 (by injection z with z;exact(Prod.mk.inj z).2))]
     show _=(decide (c' j<c j) || (decide (c j=c' j) && decide (s j<s' j)))
     rw[decide_eq_false (show ¬c' j<c j by omega),decide_eq_true h1]
     rfl
   ·rw[if_neg (fun z=>h1 (by omega)),if_neg (fun z=>h1 (by injection z with z;exact(Prod.mk.inj z).1))]
    show _=(decide (c' j<c j) || (decide (c j=c' j) && decide (s j<s' j)))
    rw[decide_eq_false h1,Bool.false_and,Bool.or_false]
    by_cases h3:c' j<c j
    ·rw[decide_eq_true h3,decide_eq_true (by omega)]
    ·rw[decide_eq_false h3,decide_eq_false (by omega)]
theorem rep_add{α:Type}(m n:Nat)(x:α):replicate (m+n) x=replicate m x++replicate n x:=by simp
theorem key_ahead{a b:List Int}{f g n:Nat}(hf1:1≤f)(hg1:1≤g)(hf:isF a f)(hg:isF b g)(hfn:f≤n)(hgn:g≤n):HT.lexLt (key a n) (key b n)=zR a b n:=by
 obtain⟨m,rfl⟩:∃m,n=f+m:=⟨n-f,by omega⟩
 obtain⟨k,hk⟩:∃k,f+m=g+k:=⟨f+m-g,by omega⟩
 unfold zR
 rw[zfS hf1 hf m,zgN hf1 hf]
 rw[hk,zfS hg1 hg k,zgN hg1 hg,HT.lexLt_cons]
 rcases Nat.lt_trichotomy f g with h | h | h
 ·rw[if_neg (by omega),decide_eq_true (show(f:Int)<g by omega)]
  obtain⟨d,hd⟩:∃d,g-1=(f-1)+(d+1):=⟨g-1-(f-1)-1,by omega⟩
  rw[hd,rep_add,append_assoc,zdd,range_succ_eq_map,map_cons,List.replicate_succ,cons_append,zH,if_neg (by intro z;cases z)]
  rfl
 ·subst h
  have:k=m:=by omega
  subst this
  rw[if_pos rfl,zdd]
  have:=zgJ (fun i=>(cnt a ((f:Int)+i):Int)) (fun i=>sm a ((f:Int)+i)) (fun i=>(cnt b ((f:Int)+i):Int)) (fun i=>sm b ((f:Int)+i)) (k+1) 0
  rw[←List.range_eq_range'] at this
  exact this
 ·rw[if_neg (by omega),decide_eq_false (show ¬(f:Int)<g by omega)]
  obtain⟨d,hd⟩:∃d,f-1=(g-1)+(d+1):=⟨f-1-(g-1)-1,by omega⟩
  rw[hd,rep_add,append_assoc,zdd,range_succ_eq_map (n:=k),map_cons,List.replicate_succ,cons_append,zH,if_neg (by intro z;cases z)]
  rfl
theorem exF{a:List Int}(hlo:∀x∈a,1≤x):∀n:Nat,a.length<2*cnt a n→∃f:Nat,1≤f∧f≤n∧isF a f
 | 0,h=>by
   have:=zg4 (ms:=a) (n:=((0:Nat):Int)) fun x hx=>by have:=hlo x hx;omega
   omega
 | n+1,h=>by
   by_cases c:a.length<2*cnt a n
   ·obtain⟨f,h1,h2,h3⟩:=exF hlo n c
    exact⟨f,h1,by omega,h3⟩
   ·refine⟨n+1,by omega,le_refl _,h,?_⟩
    have e:((n+1:Nat):Int)-1=(n:Int):=by omega
    rw[e]
    omega
theorem zim{a:List Int}{n:Nat}(hne:a≠[])(h:∀x∈a,1≤x∧x≤n):∃f:Nat,1≤f∧f≤n∧isF a f :=
 exF (fun x hx=>(h x hx).1) n (by
  rw[zf7 fun x hx=>(h x hx).2]
  have:=List.length_pos_iff.mpr hne
  omega)
theorem sg_high{a:List Int}{n k:Int}(h:∀x∈a,x≤n)(hk:n≤k):sg a k=sg a n:=by
 have e:got a k=got a n:=by
  unfold got
  exact filter_congr fun x hx=>by
   have:=h x hx
   rw[decide_eq_true (by omega),decide_eq_true this]
 unfold sg cnt sm
 rw[e]
theorem zgR(a:List Int)(n:Nat):wG a (n+1)=wG a n++[sg a ((n:Int)+1)]:=by unfold wG;rw[range_succ,map_append];rfl
theorem zcr(a:List Int)(n:Nat):(wG a n).length=n:=by unfold wG;simp
theorem zel:∀{xs ys:List Sg}{x y:Sg},xs.length=ys.length→(x=y∨xs≠ys)→zH (xs++[x]) (ys++[y])=zH xs ys
 | [],[],x,y,_,h=>by
   rcases h with h | h
   ·subst h;show(if x=x then false else olt x x)=false;rw[if_pos rfl]
   ·exact absurd rfl h
 | p::xs,q::ys,x,y,hl,h=>by
   rw[cons_append,cons_append,zH,zH]
   by_cases e:p=q
   ·subst e
    rw[if_pos rfl,if_pos rfl]
    exact zel (by simpa using hl) (h.imp id fun z w=>z (by rw[w]))
   ·rw[if_neg e,if_neg e]
theorem zdW{a b:List Int}{n:Nat}(h1:1≤n)(ha:∀x∈a,x≤n)(hb:∀x∈b,x≤n):∀k,zR a b (n+k)=zR a b n
 | 0=>rfl
 | k+1=>by
   rw[←zdW h1 ha hb k]
   show zH (wG a ((n+k)+1)) (wG b ((n+k)+1))=_
   rw[zgR,zgR]
   refine zel (by rw[zcr,zcr]) ?_
   by_cases e:wG a (n+k)=wG b (n+k)
   ·left
    have:(wG a (n+k))[n-1]? = (wG b (n+k))[n-1]? := by rw[e]
    unfold wG at this
    rw[getElem?_map,getElem?_map,getElem?_range (by omega)] at this
    have this:sg a (((n-1:Nat):Int)+1)=sg b (((n-1:Nat):Int)+1):=Option.some.inj this
    have en:((n-1:Nat):Int)+1=(n:Int):=by omega
    rw[en] at this
    rw[sg_high ha (by omega),sg_high hb (by omega)]
    exact this
   ·exact .inr e
theorem ahead_any{a b:List Int}{n m:Nat}(h1:1≤n)(hm:1≤m)(ha:∀x∈a,x≤n∧x≤m)(hb:∀x∈b,x≤n∧x≤m):zR a b n=zR a b m:=by
 rcases Nat.le_total n m with h | h
 ·obtain⟨k,rfl⟩:=Nat.exists_eq_add_of_le h
  exact(zdW h1 (fun x hx=>(ha x hx).1) (fun x hx=>(hb x hx).1) k).symm
 ·obtain⟨k,rfl⟩:=Nat.exists_eq_add_of_le h
  exact zdW hm (fun x hx=>(ha x hx).2) (fun x hx=>(hb x hx).2) k
def word:Sg→Sg→Str
 | some p,some q=>if p.1=q.1 then "sum" else "count"
 | _,_=> "half"
def wa(a b:List Int)(n:Nat):Option (Nat×Str)→Prop
 | none=>∀k:Nat,1≤k→k≤n→sg a k=sg b k
 | some r=>1≤r.1∧r.1≤n∧(∀j:Nat,1≤j→j<r.1→sg a j=sg b j)∧sg a r.1≠sg b r.1∧r.2=word (sg a r.1) (sg b r.1)
theorem zbc{a b:List Int}{n:Nat}{r r':Option (Nat×Str)}(h:wa a b n r)(h':wa a b n r'):r=r':=by
 cases r with
 | none =>
   cases r' with
   | none=>rfl
   | some q=>exact absurd (h q.1 h'.1 h'.2.1) h'.2.2.2.1
 | some p =>
   cases r' with
   | none=>exact absurd (h' p.1 h.1 h.2.1) h.2.2.2.1
   | some q =>
     obtain⟨k,w⟩:=p
     obtain⟨j,v⟩:=q
     obtain⟨a1,a2,a3,a4,a5⟩:=h
     obtain⟨b1,b2,b3,b4,b5⟩:=h'
     dsimp only at a1 a2 a3 a4 a5 b1 b2 b3 b4 b5
     have e:k=j:=by
      rcases Nat.lt_trichotomy k j with c | c | c
      ·exact absurd (b3 k a1 c) a4
      ·exact c
      ·exact absurd (a3 j b1 c) b4
     subst e
     rw[a5,b5]
theorem zf6:∀{xs ys:List Sg}(k:Nat)(h1:k<xs.length)(h2:k<ys.length),(∀j,j<k→xs[j]? = ys[j]?)→xs[k]≠ys[k]→zH xs ys=olt xs[k] ys[k]
 | x::xs,y::ys,0,_,_,_,hne=>by rw[zH,if_neg (show ¬x=y from hne)];rfl
 | x::xs,y::ys,k+1,h1,h2,he,hne=>by
   have e:x=y:=by have:=he 0 (by omega);simpa using this
   rw[zH,if_pos e]
   exact zf6 k (by simpa using h1) (by simpa using h2) (fun j hj=>by have:=he (j+1) (by omega);simpa using this) (by simpa using hne)
theorem zcK:∀(xs:List Sg),zH xs xs=false
 | []=>rfl
 | x::xs=>by rw[zH,if_pos rfl];exact zcK xs
theorem zfi(a:List Int){n k:Nat}(h:k<n):(wG a n)[k]? = some (sg a ((k:Int)+1)):=by
 unfold wG
 rw[getElem?_map,getElem?_range h]
 rfl
theorem ahead_none{a b:List Int}{n:Nat}(h:wa a b n none):zR a b n=false:=by
 have e:wG a n=wG b n:=by
  unfold wG
  refine map_congr_left fun i hi=>?_
  have hi:=List.mem_range.mp hi
  have:=h (i+1) (by omega) (by omega)
  have ei:((i+1:Nat):Int)=(i:Int)+1:=by omega
  rw[ei] at this
  exact this
 unfold zR
 rw[e]
 exact zcK _
theorem zdS{a b:List Int}{n:Nat}{r:Nat×Str}(h:wa a b n (some r)):zR a b n=olt (sg a r.1) (sg b r.1):=by
 obtain⟨k,w⟩:=r
 obtain⟨a1,a2,a3,a4,a5⟩:=h
 dsimp only at a1 a2 a3 a4 a5 ⊢
 obtain⟨j,rfl⟩:∃j,k=j+1:=⟨k-1,by omega⟩
 have ej:((j+1:Nat):Int)=(j:Int)+1:=by omega
 have l1:j<(wG a n).length:=by rw[zcr];omega
 have l2:j<(wG b n).length:=by rw[zcr];omega
 have g1:(wG a n)[j]=sg a ((j+1:Nat):Int):=by
  have:=zfi a (n:=n) (k:=j) (by omega)
  rw[getElem?_eq_getElem l1] at this
  rw[ej];exact Option.some.inj this
 have g2:(wG b n)[j]=sg b ((j+1:Nat):Int):=by
  have:=zfi b (n:=n) (k:=j) (by omega)
  rw[getElem?_eq_getElem l2] at this
  rw[ej];exact Option.some.inj this
 unfold zR
 rw[zf6 j l1 l2 (fun i hi=>?_) (by rw[g1,g2];exact a4),g1,g2]
 rw[zfi a (by omega),zfi b (by omega)]
 have:=a3 (i+1) (by omega) (by omega)
 have ei:((i+1:Nat):Int)=(i:Int)+1:=by omega
 rw[ei] at this
 rw[this]
end M6
namespace L2
open PySem
end L2
namespace M6
open PySem L2 M3 M5
def zC(cs:List (List Int))(us:List Int):List Int:=us.map fun c=>1+((us.filter fun d=>zR (zm cs d) (zm cs c) us.length).length:Int)
theorem yz{cs:List (List Int)}{us:List Int}{c:Int}(hp:∀d∈cs,d.Perm us)(hc:c∈us):∀x∈zm cs c,1≤x∧x≤us.length:=fun x hx=>by
 unfold zm at hx
 obtain⟨d,hd,rfl⟩:=List.mem_map.mp hx
 have h:=hp d hd
 have:d.idxOf c<d.length:=idxOf_lt_length_of_mem (h.mem_iff.mpr hc)
 have:=h.length_eq
 omega
theorem ziM{cs:List (List Int)}{c:Int}(h:1≤cs.length):zm cs c≠[]:=fun e=>by
 have:=zW cs c
 rw[e] at this
 simp at this
 omega
theorem key_cs{cs:List (List Int)}{us:List Int}{c d:Int}(hp:∀d∈cs,d.Perm us)(h1:1≤cs.length)(hc:c∈us)(hd:d∈us):HT.lexLt (key (zm cs c) us.length) (key (zm cs d) us.length)=zR (zm cs c) (zm cs d) us.length:=by
 obtain⟨f,f1,f2,f3⟩:=zim (ziM h1) (yz hp hc)
 obtain⟨g,g1,g2,g3⟩:=zim (ziM h1) (yz hp hd)
 exact key_ahead f1 g1 f3 g3 f2 g2
theorem zbw{cs:List (List Int)}{us:List Int}(hp:∀d∈cs,d.Perm us)(h1:1≤cs.length):spots cs us=zC cs us:=by
 unfold spots zC zep
 rw[map_map]
 refine map_congr_left fun c hc=>?_
 show 1+(M5.zdG (us.map fun c=>key (zm cs c) us.length) (key (zm cs c) us.length):Int)=_
 unfold M5.zdG
 rw[filter_map,length_map]
 congr 3
 exact filter_congr fun d hd=>key_cs hp h1 hd hc
theorem yr(cs:List (List Int))(us:List Int):(zC cs us).length=us.length:=by unfold zC;simp
def zbq(ms:List Int)(n:Nat):List (Int×Int):=(List.range n).map fun(i:Nat)=>((cnt ms ((i:Int)+1):Int),sm ms ((i:Int)+1))
theorem zeR(ms:List Int)(n:Nat):zbq ms (n+1)=zbq ms n++[((cnt ms ((n:Int)+1):Int),sm ms ((n:Int)+1))]:=by unfold zbq;rw[range_succ,map_append];rfl
theorem zcY(ms:List Int)(n:Nat):(zbq ms n).length=n:=by unfold zbq;simp
theorem word_symm(p q:Sg):word p q=word q p:=by
 cases p with
 | none=>cases q <;> rfl
 | some p=>cases q with
   | none=>rfl
   | some q =>
     show(if p.1=q.1 then("sum":Str)else("count":Str))=if q.1=p.1 then("sum":Str)else("count":Str)
     by_cases h:p.1=q.1
     ·rw[if_pos h,if_pos h.symm]
     ·rw[if_neg h,if_neg fun z=>h z.symm]
theorem ziL{a b:List Int}{n:Nat}{r:Option (Nat×Str)}(h:wa a b n r):wa b a n r:=by
 cases r with
 | none=>exact fun k h1 h2=>(h k h1 h2).symm
 | some r=>exact⟨h.1,h.2.1,fun j h1 h2=>(h.2.2.1 j h1 h2).symm,fun z=>h.2.2.2.1 z.symm,by rw[word_symm];exact h.2.2.2.2⟩
end M6
namespace L2
open PySem
def Told(K:Frag)(H:Hp)(x:V):Option (Nat×Str)→Prop
 | none=>x=.non
 | some r=>∃l,x=.ref l∧SqT K H l [.int (r.1:Nat),.str r.2]
end L2
namespace M3
open PySem L2
theorem zie{a b:List Int}(h:a.Perm b)(n:Int):cnt a n=cnt b n:=(h.filter _).length_eq
theorem zfV(a b:List Int)(n:Int):cnt (a++b) n=cnt a n+cnt b n:=by
 unfold cnt got
 rw[filter_append,length_append]
theorem isF_perm{a b:List Int}(h:a.Perm b){f:Int}(hf:isF a f):isF b f:=by
 unfold isF at *
 rw[←zie h,←zie h,←h.length_eq]
 exact hf
theorem sorted_isF{ns:List Int}(hs:ns.Pairwise (·≤ ·))(hne:ns≠[]):isF ns (ns.getD (ns.length/2) 0):=by
 have hn:=List.length_pos_iff.mpr hne
 have hk:ns.length/2<ns.length:=by omega
 generalize hK:ns.length/2=k at hk ⊢
 have e:ns=ns.take k++ns.drop k:=(take_append_drop k ns).symm
 have ed:ns.drop k=ns.getD k 0::ns.drop (k+1):=by rw[zdA hk];exact drop_eq_getElem_cons hk
 generalize ns.getD k 0=f at ed ⊢
 have lt:(ns.take k).length=k:=by rw[length_take];omega
 rw[e] at hs
 obtain⟨h1,h2,h3⟩:=List.pairwise_append.mp hs
 rw[ed] at h2 h3
 have h4:=List.pairwise_cons.mp h2
 unfold isF
 constructor
 ·have a1:cnt (ns.take k) f=k:=by rw[zf7 fun x hx=>h3 x hx f (mem_cons_self ..),lt]
  have a2:1≤cnt (ns.drop k) f:=by
   rw[ed]
   unfold cnt got
   rw[filter_cons,if_pos (decide_eq_true (Int.le_refl f)),length_cons]
   omega
  have a3:cnt ns f=cnt (ns.take k) f+cnt (ns.drop k) f:=by rw[←zfV,←e]
  omega
 ·have a1:=zcQ (ns.take k) (f-1)
  have a2:cnt (ns.drop k) (f-1)=0:=by
   refine zg4 fun x hx=>?_
   rw[ed] at hx
   rcases List.mem_cons.mp hx with z | z
   ·omega
   ·have:=h4.1 x z;omega
  have a3:cnt ns (f-1)=cnt (ns.take k) (f-1)+cnt (ns.drop k) (f-1):=by rw[←zfV,←e]
  omega
end M3
namespace M6
open PySem L2 M3 M5
def zh7(a b:List Int)(f:Int):Option Int→Prop
 | none=>∀k,f≤k→cnt a k=cnt b k∧sm a k=sm b k
 | some n=>f≤n∧n≤24∧(∀j,f≤j→j<n→cnt a j=cnt b j∧sm a j=sm b j)∧¬(cnt a n=cnt b n∧sm a n=sm b n)
theorem zcf{a:List Int}{f j:Int}(hf:isF a f)(hj:j<f):sg a j=none:=by
 refine zb5 ?_
 have:=zbN (ms:=a) (show j≤f-1 by omega)
 have:=hf.2
 omega
theorem zcv{a:List Int}{f j:Int}(hf:isF a f)(hj:f≤j):sg a j=some ((cnt a j:Int),sm a j):=by
 refine wn ?_
 have:=zbN (ms:=a) hj
 have:=hf.1
 omega
theorem zhQ{a b:List Int}{f g:Int}(hf:isF a f)(hg:isF b g)(h:f<g)(h1:1≤f)(h2:f≤24):wa a b 24 (some (f.toNat,"half")):=by
 have e:((f.toNat:Nat):Int)=f:=by omega
 refine⟨by dsimp only;omega,by dsimp only;omega,fun j j1 j2=>?_,?_,?_⟩
 ·dsimp only at j2
  rw[zcf hf (by omega),zcf hg (by omega)]
 ·dsimp only
  rw[e,zcv hf (Int.le_refl _),zcf hg h]
  exact fun z=>nomatch z
 ·dsimp only
  rw[e,zcv hf (Int.le_refl _),zcf hg h]
  rfl
theorem part_gt{a b:List Int}{f g:Int}(hf:isF a f)(hg:isF b g)(h:g<f)(h1:1≤g)(h2:g≤24):wa a b 24 (some (g.toNat,"half")):=ziL (zhQ hg hf h h1 h2)
theorem zgF{a b:List Int}{f:Int}(hf:isF a f)(hg:isF b f)(h:zh7 a b f none):wa a b 24 none:=fun k k1 k2=>by
 by_cases c:(k:Int)<f
 ·rw[zcf hf c,zcf hg c]
 ·obtain⟨e1,e2⟩:=h k (by omega)
  rw[zcv hf (by omega),zcv hg (by omega),e1,e2]
theorem zgT{a b:List Int}{f n:Int}(hf:isF a f)(hg:isF b f)(h1:1≤f)(h:zh7 a b f (some n)):wa a b 24 (some (n.toNat,if(cnt a n:Int)=cnt b n then "sum" else "count")):=by
 obtain⟨a1,a2,a3,a4⟩:=h
 have e:((n.toNat:Nat):Int)=n:=by omega
 refine⟨by dsimp only;omega,by dsimp only;omega,fun j j1 j2=>?_,?_,?_⟩
 ·dsimp only at j2
  by_cases c:(j:Int)<f
  ·rw[zcf hf c,zcf hg c]
  ·obtain⟨e1,e2⟩:=a3 j (by omega) (by omega)
   rw[zcv hf (by omega),zcv hg (by omega),e1,e2]
 ·dsimp only
  rw[e,zcv hf a1,zcv hg a1]
  intro z
  injection z with z
  injection z with z1 z2
  exact a4 ⟨by omega,z2⟩
 ·dsimp only
  rw[e,zcv hf a1,zcv hg a1]
  rfl
theorem ahead_lt{a b:List Int}{f g:Int}(hf:isF a f)(hg:isF b g)(h:f<g)(h1:1≤f)(h2:f≤24):zR a b 24=true:=by
 rw[zdS (zhQ hf hg h h1 h2)]
 dsimp only
 have e:((f.toNat:Nat):Int)=f:=by omega
 rw[e,zcv hf (Int.le_refl _),zcf hg h]
 rfl
theorem ahead_gt{a b:List Int}{f g:Int}(hf:isF a f)(hg:isF b g)(h:g<f)(h1:1≤g)(h2:g≤24):zR a b 24=false:=by
 rw[zdS (part_gt hf hg h h1 h2)]
 dsimp only
 have e:((g.toNat:Nat):Int)=g:=by omega
 rw[e,zcf hf h]
 rfl
theorem ahead_at{a b:List Int}{f n:Int}(hf:isF a f)(hg:isF b f)(h1:1≤f)(h:zh7 a b f (some n)):zR a b 24=if(cnt a n:Int)=cnt b n then decide (sm a n<sm b n)else decide ((cnt b n:Int)<cnt a n):=by
 rw[zdS (zgT hf hg h1 h)]
 dsimp only
 have e:((n.toNat:Nat):Int)=n:=by have:=h.1;omega
 rw[e,zcv hf h.1,zcv hg h.1]
 show(decide ((cnt b n:Int)<cnt a n) || (decide ((cnt a n:Int)=cnt b n) && decide (sm a n<sm b n)))=_
 by_cases c:(cnt a n:Int)=cnt b n
 ·rw[if_pos c,decide_eq_true c,decide_eq_false (show ¬(cnt b n:Int)<cnt a n by omega)]
  rfl
 ·rw[if_neg c,decide_eq_false c,Bool.false_and,Bool.or_false]
theorem unl_beyond{a b:List Int}{f M:Int}(ha:∀x∈a,x≤M)(hb:∀x∈b,x≤M)(hM:f≤M)(h:∀j,f≤j→j≤M→cnt a j=cnt b j∧sm a j=sm b j):zh7 a b f none:=fun k hk=>by
 by_cases c:k≤M
 ·exact h k hk c
 ·have ea:got a k=got a M:=by
   unfold got
   exact filter_congr fun x hx=>by have:=ha x hx;rw[decide_eq_true (by omega),decide_eq_true this]
  have eb:got b k=got b M:=by
   unfold got
   exact filter_congr fun x hx=>by have:=hb x hx;rw[decide_eq_true (by omega),decide_eq_true this]
  have:=h M hM (Int.le_refl _)
  unfold cnt sm at *
  rw[ea,eb]
  exact this
theorem places_24{cs:List (List Int)}{us:List Int}(hp:∀d∈cs,d.Perm us)(h1:1≤us.length)(h24:us.length≤24):zC cs us=us.map fun c=>1+(((us.map (zm cs)).filter fun r=>zR r (zm cs c) 24).length:Int):=by
 unfold zC
 refine map_congr_left fun c hc=>?_
 rw[filter_map,length_map]
 congr 3
 refine filter_congr fun d hd=>?_
 refine ahead_any h1 (by omega) (fun x hx=>?_) (fun x hx=>?_)
 ·have:=yz hp hd x hx;omega
 ·have:=yz hp hc x hx;omega
end M6
namespace L2
open PySem
theorem Sh.cardsIn_perm{S:Sh}(ok:S.Ok):∀d∈S.cardsIn,d.Perm S.couples:=fun d hd=>by
 obtain⟨j,hj,rfl⟩:=List.mem_map.mp hd
 have h2:=(List.mem_filter.mp hj).2
 cases e:S.card j with
 | none=>rw[e] at h2;cases h2
 | some c=>exact(ok.cd j c e).2
theorem Sh.cardsIn_len(S:Sh):S.cardsIn.length=S.handed.length:=by unfold Sh.cardsIn;simp
def Sh.cardsWo(S:Sh)(j:Str):List (List Int):=(S.handed.filter fun i => !decide (i=j)).map fun i=>(S.card i).getD []
theorem Sh.cardsWo_perm{S:Sh}(ok:S.Ok)(j:Str):∀d∈S.cardsWo j,d.Perm S.couples:=fun d hd=>by
 obtain⟨i,hi,rfl⟩:=List.mem_map.mp hd
 exact Sh.cardsIn_perm ok _ (List.mem_map_of_mem (List.mem_filter.mp hi).1)
theorem Sh.row_some{S:Sh}(ok:S.Ok)(j:Str):(!decide ((S.card j).getD []=[]))=(S.card j).isSome:=by
 cases e:S.card j with
 | none=>rfl
 | some c=>rw[show(some c).getD ([]:List Int)=c from rfl,decide_eq_false (ok.full e)];rfl
theorem Sh.cardsIn_rows{S:Sh}(ok:S.Ok):S.cardsIn=S.rows.filter fun d => !decide (d=[]):=by
 unfold Sh.cardsIn Sh.handed Sh.rows
 rw[filter_map]
 congr 1
 exact filter_congr fun j _=>(Sh.row_some ok j).symm
theorem zfZ:∀{l:List Str},l.Nodup→∀{k:Nat}(hk:k<l.length),(l.filter fun i => !decide (i=l[k]))=l.take k++l.drop (k+1)
 | a::l,nd,0,_=>by
   have h:=List.nodup_cons.mp nd
   show((a::l).filter fun i => !decide (i=a))=l
   rw[filter_cons,if_neg (by rw[decide_eq_true rfl];decide),List.filter_eq_self]
   intro x hx
   have:¬x=a:=fun z=>h.1 (z ▸ hx)
   rw[decide_eq_false this]
   rfl
 | a::l,nd,k+1,hk=>by
   have h:=List.nodup_cons.mp nd
   have hk':k<l.length:=by simpa using hk
   show((a::l).filter fun i => !decide (i=l[k]))=a::(l.take k++l.drop (k+1))
   have:¬a=l[k]:=fun z=>h.1 (z ▸ getElem_mem hk')
   rw[filter_cons,if_pos (by rw[decide_eq_false this];rfl),zfZ h.2 hk']
theorem Sh.cardsWo_rows{S:Sh}(ok:S.Ok){k:Nat}(hk:k<S.panel.length):S.cardsWo (S.panel.getD k "")=(S.rows.take k++S.rows.drop (k+1)).filter fun d => !decide (d=[]):=by
 have e:S.panel.getD k ""=S.panel[k]:=by rw[getD_eq_getElem?_getD,getElem?_eq_getElem hk];rfl
 unfold Sh.cardsWo Sh.handed Sh.rows
 rw[e,filter_filter,←map_take,←map_drop,←map_append,←zfZ ok.pnd hk,filter_map,filter_filter]
 congr 1
 refine filter_congr fun j _=>?_
 show((!decide (j=S.panel[k])) && (S.card j).isSome)=((!decide ((S.card j).getD []=[])) && (!decide (j=S.panel[k])))
 rw[Sh.row_some ok j,Bool.and_comm]
theorem Sh.handed_len{S:Sh}(ok:S.Ok):S.handed.length=(S.rows.filter fun d => !decide (d=[])).length:=by rw[←Sh.cardsIn_rows ok,Sh.cardsIn_len]
theorem Sh.cardsWo_len{S:Sh}{j:Str}(nd:S.panel.Nodup)(hj:j∈S.handed):(S.cardsWo j).length+1=S.handed.length:=by
 unfold Sh.cardsWo
 rw[length_map]
 have hn:S.handed.Nodup:=nd.filter _
 have e:(S.handed.filter fun i => !decide (i=j))=S.handed.erase j:=by
  rw[hn.erase_eq_filter]
  refine filter_congr fun x _=>?_
  by_cases h:x=j
  ·simp[h]
  ·simp[h]
 rw[e,List.length_erase_of_mem hj]
 have:=length_pos_of_mem hj
 omega
theorem zbF{K:Frag}{a:Addr}{ls:List Addr}{cs:List (List Int)}{c:St}{tc:TT}{te:TE}{H:Hp}{fin:List V→Hp→Prop}(hA:SqL K H a (ls.map V.ref))(hR:All2 (IL K H) ls cs)(hz:cs.length≤1000)
 (htc:∀(m:Addr)(d:List Int)(H':Hp)(Q:Bool→Hp→Prop),SqL K H' m (d.map V.int)→(∀H2,zi H' H2→Q (!decide (d=[])) H2)→tc (some (.ref m)::c) H' Q)
 (hte:∀(m:Addr)(H':Hp)(Q:VK),Q (.ref m) H'→te (some (.ref m)::c) H' Q)
 (hd:∀(ks:List Addr)(H':Hp),zi H H'→All2 (IL K H') ks (cs.filter fun d => !decide (d=[]))→fin (ks.map V.ref) H'):zcb (Itl K a) c tc te H fin:=by
 have hln:=zx
 have hl:=hR.length
 refine yG (xs:=ls.map V.ref) (fun i ys H2=>∃ks:List Addr,ys=ks.map V.ref∧zi H H2∧All2 (IL K H2) ks ((cs.take i).filter fun d => !decide (d=[]))) ⟨[],rfl,zi.refl _,.nil⟩ ?_ (by rw[length_map];omega) ?_ ?_
 ·rintro i ys H2 hi ⟨ks,rfl,s2,r2⟩
  refine⟨s2.seq hA,?_⟩
  have h3:=r2.length
  have h4:=length_filter_le (fun d:List Int => !decide (d=[])) (cs.take i)
  rw[length_take] at h4
  rw[length_map]
  omega
 ·rintro i x ys H2 hx ⟨ks,rfl,s2,r2⟩
  obtain⟨m,em,rfl⟩:=zal hx
  obtain⟨d,ed,rd⟩:=hR.getL em
  refine htc m d H2 _ (s2.seq rd) fun H3 s3=>?_
  have e:(cs.take (i+1)).filter (fun d => !decide (d=[]))=(cs.take i).filter (fun d => !decide (d=[]))++if(!decide (d=[]))=true then [d] else []:=by
   rw[take_succ,ed,filter_append]
   congr 1
   show filter _ [d]=_
   rw[filter_cons]
   rfl
  refine zhC (fun hb=>?_) (fun hb=>?_)
  ·refine hte m H3 _ ⟨ks++[m],by rw[map_append];rfl,s2.trans s3,?_⟩
   rw[e,if_pos hb]
   exact(r2.imp fun _ _=>IL.stays K _ _ _ _ s3).snoc ((s2.trans s3).seq rd)
  ·refine⟨ks,rfl,s2.trans s3,?_⟩
   rw[e,if_neg (by rw[hb];exact Bool.false_ne_true),append_nil]
   exact r2.imp fun _ _=>IL.stays K _ _ _ _ s3
 ·rintro ys H2 ⟨ks,rfl,s2,r2⟩
  rw[length_map,hl,take_length] at r2
  exact hd ks H2 s2 r2
theorem All2.takeN{α β:Type}{R:α→β→Prop}{as:List α}{bs:List β}(h:All2 R as bs):∀k,All2 R (as.take k) (bs.take k):=by
 induction h with
 | nil=>intro k;rw[take_nil,take_nil];exact .nil
 | cons r _ ih =>
   intro k
   cases k with
   | zero=>exact .nil
   | succ k=>exact .cons r (ih k)
theorem All2.dropN{α β:Type}{R:α→β→Prop}{as:List α}{bs:List β}(h:All2 R as bs):∀k,All2 R (as.drop k) (bs.drop k):=by
 induction h with
 | nil=>intro k;rw[drop_nil,drop_nil];exact .nil
 | cons r h' ih =>
   intro k
   cases k with
   | zero=>exact .cons r h'
   | succ k=>exact ih k
theorem All2.app{α β:Type}{R:α→β→Prop}{as as':List α}{bs bs':List β}(h:All2 R as bs)(h2:All2 R as' bs'):All2 R (as++as') (bs++bs'):=by
 induction h with
 | nil=>exact h2
 | cons r _ ih=>exact .cons r ih
end L2
namespace M6
open PySem L2 M3 M5
theorem olt_irr:∀p:Sg,olt p p=false
 | none=>rfl
 | some p=>by show(decide (p.1<p.1) || (decide (p.1=p.1) && decide (p.2<p.2)))=false;simp
theorem olt_trn:∀{p q r:Sg},olt p q=true→olt q r=true→olt p r=true
 | none,_,_,h,_=>by cases h
 | some p,none,_,_,h=>by cases h
 | some p,some q,none,_,_=>rfl
 | some p,some q,some r,h1,h2=>by
   simp only[olt,Bool.or_eq_true,Bool.and_eq_true,decide_eq_true_eq] at h1 h2 ⊢
   omega
theorem zeY:∀{xs ys zs:List Sg},zH xs ys=true→zH ys zs=true→zH xs zs=true
 | x::xs,y::ys,z::zs,h1,h2=>by
   rw[zH] at h1 h2 ⊢
   by_cases e1:x=y
   ·rw[if_pos e1] at h1
    by_cases e2:y=z
    ·rw[if_pos e2] at h2
     rw[if_pos (e1.trans e2)]
     exact zeY h1 h2
    ·rw[if_neg e2] at h2
     rw[e1,if_neg e2]
     exact h2
   ·rw[if_neg e1] at h1
    by_cases e2:y=z
    ·rw[if_pos e2] at h2
     rw[←e2,if_neg e1]
     exact h1
    ·rw[if_neg e2] at h2
     have h:=olt_trn h1 h2
     rw[if_neg (fun e=>by rw[e,olt_irr] at h;cases h)]
     exact h
 | [],_,_,h,_=>by simp[zH] at h
 | _::_,[],_,h,_=>by simp[zH] at h
 | _::_,_::_,[],_,h=>by simp[zH] at h
theorem zgw(a:List Int)(n:Nat):zR a a n=false:=zcK _
theorem ziD{a b c:List Int}{n:Nat}(h1:zR a b n=true)(h2:zR b c n=true):zR a c n=true:=zeY h1 h2
def zi3(cs:List (List Int))(us:List Int)(c:Int):Nat:=(us.filter fun d=>zR (zm cs d) (zm cs c) us.length).length
theorem places_at{cs:List (List Int)}{us:List Int}{i:Nat}(h:i<us.length):(zC cs us).getD i 0=1+(zi3 cs us (us.getD i 0):Int):=by
 unfold zC zi3
 rw[getD_eq_getElem?_getD,getElem?_map,getD_eq_getElem?_getD,getElem?_eq_getElem h]
 rfl
theorem zf1{cs:List (List Int)}{us:List Int}(n:Nat):∀{vs:List Int},vs≠[]→∃c∈vs,∀d∈vs,zR (zm cs d) (zm cs c) n=false
 | [c],_=>⟨c,List.mem_singleton.mpr rfl,fun d hd=>by rw[List.mem_singleton.mp hd];exact zgw _ _⟩
 | c::v::vs,_=>by
   obtain⟨m,hm,hd⟩:=zf1 (cs:=cs) (us:=us) n (vs:=v::vs) (by simp)
   cases h:zR (zm cs c) (zm cs m) n with
   | false =>
     refine⟨m,mem_cons_of_mem _ hm,fun d h'=>?_⟩
     rcases List.mem_cons.mp h' with e | e
     ·rw[e];exact h
     ·exact hd d e
   | true =>
     refine⟨c,mem_cons_self ..,fun d h'=>?_⟩
     rcases List.mem_cons.mp h' with e | e
     ·rw[e];exact zgw _ _
     ·cases h2:zR (zm cs d) (zm cs c) n with
      | false=>rfl
      | true=>have:=hd d e;rw[ziD h2 h] at this;cases this
theorem one_in{cs:List (List Int)}{us:List Int}(h:us≠[]):(1:Int)∈zC cs us:=by
 obtain⟨c,hc,hd⟩:=zf1 (cs:=cs) (us:=us) us.length h
 unfold zC
 refine List.mem_map.mpr ⟨c,hc,?_⟩
 rw[List.filter_eq_nil_iff.mpr fun d h'=>by rw[hd d h'];exact Bool.false_ne_true]
 rfl
end M6
namespace L2
open PySem
end L2
namespace M6
open PySem L2 M3 M5
variable {cs:List (List Int)}{us:List Int}{c:Int}
end M6
namespace L2
open PySem
theorem Sh.handed_strike(S:Sh)(c:Int):(S.strike c).handed=S.handed:=by
 unfold Sh.handed
 show S.panel.filter (fun j=>((S.card j).map (wo c)).isSome)=_
 refine filter_congr fun j _=>?_
 cases S.card j <;> rfl
end L2
namespace M6
open PySem L2 M3 M5
theorem map_front{cs:List (List Int)}{us:List Int}:zC cs us=us.map fun c=>1+(zi3 cs us c:Int):=rfl
end M6
namespace L2
open PySem
end L2
namespace M6
open PySem L2 M3 M5
def zei(a b:List Int)(n:Nat):Option (Nat×Str):=((List.range n).find? fun(i:Nat)=>decide (sg a ((i:Int)+1)≠sg b ((i:Int)+1))).map fun(i:Nat)=>(i+1,word (sg a ((i:Int)+1)) (sg b ((i:Int)+1)))
theorem zfL{p:Nat→Bool}:∀{n j i:Nat},(range' j n).find? p=some i→p i=true∧j≤i∧i<j+n∧∀k,j≤k→k<i→p k=false
 | 0,j,i,h=>by cases h
 | n+1,j,i,h=>by
   rw[List.range'_succ,find?_cons] at h
   cases hp:p j with
   | true =>
     rw[hp] at h
     have e:j=i:=Option.some.inj h
     subst e
     exact⟨hp,le_refl _,by omega,fun k h1 h2=>by omega⟩
   | false =>
     rw[hp] at h
     obtain⟨h1,h2,h3,h4⟩:=zfL h
     refine⟨h1,by omega,by omega,fun k k1 k2=>?_⟩
     by_cases e:k=j
     ·subst e;exact hp
     ·exact h4 k (by omega) k2
theorem zb7(a b:List Int)(n:Nat):wa a b n (zei a b n):=by
 unfold zei
 rw[List.range_eq_range']
 cases h:(range' 0 n).find? fun(i:Nat)=>decide (sg a ((i:Int)+1)≠sg b ((i:Int)+1))with
 | none =>
   rw[List.find?_eq_none] at h
   show wa a b n none
   intro k h1 h2
   have:=h (k-1) (by rw[List.mem_range'_1];omega)
   have e:((k-1:Nat):Int)+1=(k:Int):=by omega
   rw[e] at this
   by_cases c:sg a k=sg b k
   ·exact c
   ·exact absurd (decide_eq_true c) this
 | some i =>
   obtain⟨h1,h2,h3,h4⟩:=zfL h
   have e:((i+1:Nat):Int)=(i:Int)+1:=by omega
   show wa a b n (some (i+1,word (sg a ((i:Int)+1)) (sg b ((i:Int)+1))))
   refine⟨by show 1≤i+1;omega,by show i+1≤n;omega,fun j j1 j2=>?_,?_,?_⟩
   ·have j2:j<i+1:=j2
    have:=h4 (j-1) (by omega) (by omega)
    have ej:((j-1:Nat):Int)+1=(j:Int):=by omega
    rw[ej] at this
    by_cases c:sg a j=sg b j
    ·exact c
    ·rw[decide_eq_true c] at this;cases this
   ·show sg a ((i+1:Nat):Int)≠sg b ((i+1:Nat):Int)
    rw[e]
    exact of_decide_eq_true h1
   ·show _=word (sg a ((i+1:Nat):Int)) (sg b ((i+1:Nat):Int))
    rw[e]
abbrev R4:=Int×Int×Int×Str
def nb(cs:List (List Int))(us:List Int)(p q:Int×Int):Option R4:=if p.1=q.1 then none else(zei (zm cs p.2) (zm cs q.2) us.length).map fun r=>(p.2,q.2,(r.1:Int),r.2)
def zbg(cs:List (List Int))(us:List Int):List R4:=((rows (zC cs us) us).zip (rows (zC cs us) us).tail).filterMap fun pq=>nb cs us pq.1 pq.2
def yO(cs:List (List Int))(us:List Int)(c:Int):Int:=1+((us.filter fun d=>zR (zm cs d) (zm cs c) us.length).length:Int)
theorem zeb{cs:List (List Int)}{us:List Int}{p:Int×Int}(h:p∈rows (zC cs us) us):p.2∈us∧p.1=yO cs us p.2:=by
 unfold rows at h
 obtain⟨i,_,hi⟩:=List.mem_flatMap.mp h
 have hz:=(List.mem_filter.mp hi).1
 have e:(zC cs us).zip us=us.map fun c=>(yO cs us c,c):=by
  show(us.map fun c=>yO cs us c).zip us=_
  rw[List.zip_map_left]
  have:us.zip us=us.map fun c=>(c,c):=by
   induction us with
   | nil=>rfl
   | cons a us ih=>rw[List.zip_cons_cons,map_cons];congr 1;rw[List.zip_eq_zipWith,List.zipWith_self]
  rw[this,map_map]
  rfl
 rw[e] at hz
 obtain⟨c,hc,rfl⟩:=List.mem_map.mp hz
 exact⟨hc,rfl⟩
theorem zfJ{cs:List (List Int)}{us:List Int}{c d:Int}(h:yO cs us c≠yO cs us d):zei (zm cs c) (zm cs d) us.length≠none:=fun e=>by
 have hp:=zb7 (zm cs c) (zm cs d) us.length
 rw[e] at hp
 apply h
 have es:wG (zm cs c) us.length=wG (zm cs d) us.length:=by
  unfold wG
  refine map_congr_left fun i hi=>?_
  have hi:=List.mem_range.mp hi
  have:=hp (i+1) (by omega) (by omega)
  have ei:((i+1:Nat):Int)=(i:Int)+1:=by omega
  rw[ei] at this
  exact this
 unfold yO zR
 rw[es]
end M6
namespace L2
open PySem
def F4(K:Frag)(H:Hp)(l:Addr)(p:M6.R4):Prop:=SqT K H l [.int p.1,.int p.2.1,.int p.2.2.1,.str p.2.2.2]
theorem F4.stays(K:Frag):Stays (F4 K):=fun _ _ _ _ s h=>s.seqT h
theorem F4.put{K:Frag}{H:Hp}{p:Addr}{ys:List V}{o:HO}{ls:List Addr}{ps:List M6.R4}(h:All2 (F4 K H) ls ps)(hp:H p=some (.lst ys)):All2 (F4 K (upd H p o)) ls ps:=h.imp fun _ _ r=>SqT.put r hp
end L2
namespace M9
open PySem L2 M3 M5
end M9
namespace M6
open PySem L2 M3 M5 M9
variable {cs:List (List Int)}{us:List Int}{c d f:Int}
end M6
namespace L2
open PySem
def upC(d:List Int)(i:Nat):List Int:=d.take (i-1)++[d.getD i 0,d.getD (i-1) 0]++d.drop (i+1)
theorem upC_eq{d:List Int}{i:Nat}(h0:0<i)(hi:i<d.length):∃p q,p.length=i-1∧d=p++[d.getD (i-1) 0,d.getD i 0]++q∧upC d i=p++[d.getD i 0,d.getD (i-1) 0]++q:=by
 refine⟨d.take (i-1),d.drop (i+1),by rw[length_take];omega,?_,rfl⟩
 have h1:i-1<d.length:=by omega
 have e1:d.getD (i-1) 0=d[i-1]:=by rw[getD_eq_getElem?_getD,getElem?_eq_getElem h1];rfl
 have e2:d.getD i 0=d[i]:=by rw[getD_eq_getElem?_getD,getElem?_eq_getElem hi];rfl
 rw[e1,e2,append_assoc]
 conv=>lhs;rw[←take_append_drop (i-1) d]
 congr 1
 rw[drop_eq_getElem_cons h1]
 show d[i-1]::d.drop (i-1+1)=d[i-1]::(d[i]::d.drop (i+1))
 congr 1
 have:i-1+1=i:=by omega
 rw[this]
 exact drop_eq_getElem_cons hi
theorem zis{d:List Int}{i:Nat}(h0:0<i)(hi:i<d.length):(upC d i).Perm d:=by
 obtain⟨p,q,_,e1,e2⟩:=upC_eq h0 hi
 rw[e2]
 conv=>rhs;rw[e1]
 refine List.Perm.append_right _ (List.Perm.append_left _ ?_)
 exact List.Perm.swap _ _ _
theorem upC_at{d:List Int}{i:Nat}(h0:0<i)(hi:i<d.length):(upC d i)[i]? = some (d.getD (i-1) 0):=by
 obtain⟨p,q,hp,_,e2⟩:=upC_eq h0 hi
 rw[e2,append_assoc,List.getElem?_append_right (by omega),hp,show i-(i-1)=1 by omega]
 rfl
def Sh.cardsUp(S:Sh)(j:Str)(d:List Int):List (List Int):=S.handed.map fun i=>if i=j then d else(S.card i).getD []
theorem Sh.cardsUp_perm{S:Sh}(ok:S.Ok){j:Str}{d:List Int}(h:d.Perm S.couples):∀e∈S.cardsUp j d,e.Perm S.couples:=fun e he=>by
 obtain⟨i,hi,rfl⟩:=List.mem_map.mp he
 by_cases c:i=j
 ·rw[if_pos c];exact h
 ·rw[if_neg c];exact Sh.cardsIn_perm ok _ (List.mem_map_of_mem hi)
theorem Sh.cardsUp_len(S:Sh)(j:Str)(d:List Int):(S.cardsUp j d).length=S.handed.length:=by unfold Sh.cardsUp;simp
def Sh.setc(S:Sh)(j:Str)(d:List Int):Sh:={ S with card:=fun k=>if k=j then some d else S.card k }
theorem Sh.Ok.setc{S:Sh}(h:S.Ok){j:Str}{d:List Int}(hj:j∈S.panel)(hd:d.Perm S.couples):(S.setc j d).Ok:=by
 refine⟨h.c1,h.c24,h.nd,h.rng,h.p1,h.p15,h.pnd,fun k e z=>?_,h.t200⟩
 have z:(if k=j then some d else S.card k)=some e:=z
 by_cases ek:k=j
 ·rw[if_pos ek] at z
  cases z
  subst ek
  exact⟨hj,hd⟩
 ·rw[if_neg ek] at z
  exact h.cd k e z
theorem set_cut{α:Type}{l:List α}{k:Nat}(hk:k<l.length)(x:α):l.take k++[x]++l.drop (k+1)=l.set k x:=by
 rw[List.set_eq_take_append_cons_drop,if_pos hk,append_assoc]
 rfl
theorem Sh.cardsUp_rows{S:Sh}(ok:S.Ok){w:Nat}(hw:w<S.panel.length){d:List Int}(hd:d.Perm S.couples)(hs:(S.card (S.panel.getD w "")).isSome=true):S.cardsUp (S.panel.getD w "") d=(S.rows.take w++[d]++S.rows.drop (w+1)).filter fun d => !decide (d=[]):=by
 have hj:S.panel.getD w "" ∈ S.panel:=zak hw
 rw[set_cut (by rw[S.rows_len];exact hw),←Sh.rows_hand ok.pnd hw d]
 rw[show(S.hand (S.panel.getD w "") d).rows=(S.setc (S.panel.getD w "") d).rows from rfl,←Sh.cardsIn_rows (ok.setc hj hd)]
 unfold Sh.cardsUp Sh.cardsIn
 have e:(S.setc (S.panel.getD w "") d).handed=S.handed:=by
  unfold Sh.handed
  refine filter_congr fun i _=>?_
  show(if i=S.panel.getD w "" then some d else S.card i).isSome=_
  by_cases c:i=S.panel.getD w ""
  ·rw[if_pos c,c,hs];rfl
  ·rw[if_neg c]
 rw[e]
 refine map_congr_left fun i _=>?_
 show _=(if i=S.panel.getD w "" then some d else S.card i).getD []
 by_cases c:i=S.panel.getD w ""
 ·rw[if_pos c,if_pos c];rfl
 ·rw[if_neg c,if_neg c]
end L2
namespace M6
open PySem L2 M3 M5
def Rise1(c:Int)(d d':List Int):Prop:=d'.Perm d∧d'.idxOf c≤d.idxOf c∧∀e∈d,e≠c→d.idxOf e≤d'.idxOf e
theorem Rise1.nil{c:Int}{d d':List Int}(h:Rise1 c d d'):d=[]↔d'=[]:=by
 constructor
 ·intro e;rw[e] at h;exact List.Perm.eq_nil h.1
 ·intro e;rw[e] at h;exact List.Perm.eq_nil h.1.symm
variable {cs cs':List (List Int)}{us:List Int}{c:Int}
theorem getD_idx{d:List Int}{e:Int}(h:e∈d):d.getD (d.idxOf e) 0=e:=by
 rw[zdA (idxOf_lt_length_of_mem h)];exact List.getElem_idxOf _
end M6
namespace L2
open PySem M6 M5
def Sh.more(S:Sh)(n:Nat):Sh:={ S with taken:=S.taken+n }
section
variable {S:Sh}{j:Str}{d:List Int}{k:Nat}
end
end L2
namespace M6
open PySem L2 M3 M5
section
variable {A B C:List Int}{c:Int}
end
end M6
namespace L2
open PySem
def zce(ps us:List Int)(n:Nat):List Int:=((List.range n).filter fun k=>decide (ps.getD k 0=1)).map fun k=>us.getD k 0
theorem zbD(ps us:List Int)(n:Nat):zce ps us (n+1)=zce ps us n++if ps.getD n 0=1 then [us.getD n 0] else []:=by
 unfold zce
 rw[range_succ,filter_append,map_append]
 congr 1
 by_cases h:ps.getD n 0=1
 ·rw[if_pos h,filter_cons,if_pos (by rw[decide_eq_true h])];rfl
 ·rw[if_neg h,filter_cons,if_neg (by rw[decide_eq_false h];decide)];rfl
theorem zdn(ps us:List Int)(n:Nat):(zce ps us n).length≤n:=by
 unfold zce
 rw[length_map]
 exact le_trans (length_filter_le _ _) (by rw[List.length_range];exact le_refl _)
def zan(cs:List (List Int))(us:List Int):List Int:=zce (M6.zC cs us) us us.length
def Sh.decide(S:Sh):List Str:=S.handed.filter fun j => !Decidable.decide (zan (S.cardsWo j) S.couples=zan S.cardsIn S.couples)
theorem Sh.cardsWo_le(S:Sh)(j:Str):(S.cardsWo j).length≤S.handed.length:=by
 unfold Sh.cardsWo
 rw[length_map]
 exact length_filter_le _ _
theorem Sh.cardsWo_ge{S:Sh}(nd:S.panel.Nodup)(j:Str):S.handed.length≤(S.cardsWo j).length+1:=by
 by_cases hj:j∈S.handed
 ·exact le_of_eq (Sh.cardsWo_len nd hj).symm
 ·unfold Sh.cardsWo
  rw[length_map,List.filter_eq_self.mpr]
  ·exact le_succ _
  ·intro x hx
   have:¬x=j:=fun z=>hj (z ▸ hx)
   rw[decide_eq_false this]
   rfl
end L2
namespace M6
open PySem L2 M3 M5
variable {cs:List (List Int)}{us:List Int}{c:Int}
end M6
namespace L2
open PySem
theorem zi4{K:Frag}{a:Addr}{ts:List Str}{p:Str→Bool}{c:St}{tc:TT}{te:TE}{H:Hp}{fin:List V→Hp→Prop}(hA:SqL K H a (ts.map V.str))(hz:ts.length≤1000)
 (htc:∀(t:Str)(H':Hp)(Q:Bool→Hp→Prop),t∈ts→zi H H'→(∀H2,zi H' H2→Q (p t) H2)→tc (some (.str t)::c) H' Q)
 (hte:∀(t:Str)(H':Hp)(Q:VK),Q (.str t) H'→te (some (.str t)::c) H' Q)
 (hd:∀(H':Hp),zi H H'→fin ((ts.filter p).map V.str) H'):zcb (Itl K a) c tc te H fin:=by
 have hln:=zx
 refine yG (xs:=ts.map V.str) (fun i ys H3=>zi H H3∧ys=((ts.take i).filter p).map V.str) ⟨zi.refl _,rfl⟩ ?_ (by rw[length_map];omega) ?_ ?_
 ·rintro i ys H3 hi ⟨s3,rfl⟩
  refine⟨s3.seq hA,?_⟩
  rw[length_map]
  exact le_trans (length_filter_le _ _) (by rw[length_take];omega)
 ·rintro i x ys H3 hx ⟨s3,rfl⟩
  obtain⟨hi,rfl⟩:=zaL hx
  refine htc _ H3 _ (zak hi) s3 fun H4 s4=>?_
  have e:(ts.take (i+1)).filter p=(ts.take i).filter p++(if p (ts.getD i "")=true then [ts.getD i ""] else []):=by
   rw[yg hi,filter_append,filter_cons];rfl
  refine zhC (fun hb=>?_) (fun hb=>?_)
  ·refine hte _ H4 _ ⟨s3.trans s4,?_⟩
   rw[e,if_pos hb,map_append]
   rfl
  ·refine⟨s3.trans s4,?_⟩
   rw[e,if_neg (by rw[hb];decide),append_nil]
 ·rintro ys H3 ⟨s3,rfl⟩
  rw[length_map,take_length]
  exact hd H3 s3
end L2
namespace M6
open PySem L2 M3 M5
theorem zip_fn(f:Int→Int):∀us:List Int,(us.map f).zip us=us.map fun c=>(f c,c)
 | []=>rfl
 | c::us=>by rw[map_cons,List.zip_cons_cons,zip_fn f us];rfl
def blk(f:Int→Int)(us:List Int)(i:Nat):List (Int×Int):=(us.filter fun c=>decide (f c=(i:Int)+1)).map fun c=>(f c,c)
theorem rows_blk(f:Int→Int)(us:List Int):rows (us.map f) us=(List.range us.length).flatMap (blk f us):=by
 unfold rows blk
 congr 1
 funext i
 rw[zip_fn,filter_map]
 rfl
variable {cs:List (List Int)}{us:List Int}{c:Int}
def plc(cs:List (List Int))(us:List Int)(c:Int):Int:=1+(zi3 cs us c:Int)
theorem zi1(cs:List (List Int))(us:List Int):rows (zC cs us) us=(List.range us.length).flatMap (blk (plc cs us) us):=rows_blk _ _
end M6
namespace L2
open PySem
def ziI(cs:List (List Int))(us:List Int)(k:Nat):Bool := !decide (cs.getD k []=[]) && !decide (zan ((cs.take k++cs.drop (k+1)).filter fun d => !decide (d=[])) us=zan (cs.filter fun d => !decide (d=[])) us)
def zhJ(ts:List Str)(cs:List (List Int))(us:List Int)(n:Nat):List Str:=((List.range n).filter (ziI cs us)).map fun k=>ts.getD k ""
theorem zeA(ts:List Str)(cs:List (List Int))(us:List Int)(n:Nat):zhJ ts cs us (n+1)=zhJ ts cs us n++if ziI cs us n=true then [ts.getD n ""] else []:=by
 unfold zhJ
 rw[range_succ,filter_append,map_append]
 congr 1
 by_cases h:ziI cs us n=true
 ·rw[if_pos h,filter_cons,if_pos h];rfl
 ·rw[if_neg h,filter_cons,if_neg h];rfl
theorem zic(ts:List Str)(cs:List (List Int))(us:List Int)(n:Nat):(zhJ ts cs us n).length≤n:=by
 unfold zhJ
 rw[length_map]
 exact le_trans (length_filter_le _ _) (by rw[List.length_range];exact le_refl _)
theorem Sh.decide_rows{S:Sh}(ok:S.Ok):S.decide=zhJ S.panel S.rows S.couples S.panel.length:=by
 unfold Sh.decide Sh.handed zhJ
 rw[filter_filter]
 conv=>lhs;rw[←map_getD S.panel ""]
 rw[filter_map]
 congr 1
 refine filter_congr fun k hk=>?_
 have hk:=List.mem_range.mp hk
 show((!Decidable.decide (zan (S.cardsWo (S.panel.getD k "")) S.couples=zan S.cardsIn S.couples)) && (S.card (S.panel.getD k "")).isSome)=ziI S.rows S.couples k
 unfold ziI
 rw[Sh.cardsWo_rows ok hk,Sh.cardsIn_rows ok,S.rows_at hk,Sh.row_some ok,Bool.and_comm]
theorem zB.sameN{K:Frag}{H H':Hp}{p:Addr}{F:Addr→Prop}{S:Sh}(h:zB K H p F S)(s:yy H H'):∃F':Addr→Prop,(∀b,F' b→F b)∧zB K H' p F' S:=by
 obtain⟨dx,a1,a2,a3,d,kvs,h⟩:=h
 refine⟨fun b=>F b∧∀ps,H b≠some (.tbl ps),fun b z=>z.1,dx,a1,a2,a3,d,kvs,⟨⟨s.1 _ _ h.ip (fun _ z=>by cases z),s.1 _ _ h.i1 (fun _ z=>by cases z),s.1 _ _ h.i2 (fun _ z=>by cases z),s.1 _ _ h.i3 (fun _ z=>by cases z),s.1 _ _ h.i4 (fun _ z=>by cases z),h.kl,h.cn,fun j c hc=>?_,⟨h.fp,fun ps z=>by rw[h.ip] at z;cases z⟩,⟨h.f1,fun ps z=>by rw[h.i1] at z;cases z⟩,⟨h.f2,fun ps z=>by rw[h.i2] at z;cases z⟩,⟨h.f3,fun ps z=>by rw[h.i3] at z;cases z⟩,⟨h.f4,fun ps z=>by rw[h.i4] at z;cases z⟩,h.n12,h.n32,fun b hb=>?_⟩,h.ok⟩⟩
 ·obtain⟨l,x1,x2,x3,x4⟩:=h.cs j c hc
  exact⟨l,x1,s.1 _ _ x2 (fun _ z=>by cases z),⟨x3,fun ps z=>by rw[x2] at z;cases z⟩,x4⟩
 ·cases e:H b with
  | none=>exact absurd e (h.fh b hb.1)
  | some u =>
    rw[s.1 b u e fun ps z=>hb.2 ps (by rw[e,z])]
    simp
theorem yy.lst{H H':Hp}(s:yy H H'){a:Addr}{xs:List V}(e:H a=some (.lst xs)):H' a=some (.lst xs):=s.1 _ _ e fun _ z=>by cases z
theorem yy.seq{K:Frag}{H H':Hp}(s:yy H H'){a:Addr}{xs:List V}(h:SqL K H a xs):SqL K H' a xs:=s.same.seq h.noT
theorem All2.sameN{K:Frag}{H H':Hp}{ls:List Addr}{cs:List (List Int)}(h:All2 (IL K H) ls cs)(s:yy H H'):All2 (IL K H') ls cs:=h.imp fun _ _ (z:SqL K H _ _)=>(show SqL K H' _ _ from s.seq z)
theorem yy.seqT{K:Frag}{H H':Hp}(s:yy H H'){a:Addr}{xs:List V}(h:SqT K H a xs):SqT K H' a xs:=by
 rcases h with(r | ⟨o,r⟩) | h
 ·exact .inl (.inl (s.1 _ _ r fun _ z=>by cases z))
 ·exact .inl (.inr ⟨o,s.1 _ _ r fun _ z=>by cases z⟩)
 ·exact .inr h
theorem TPl.sameN{K:Frag}{H H':Hp}(s:yy H H'){ls:List Addr}{rs:List (Int×Int)}(h:All2 (TPl K H) ls rs):All2 (TPl K H') ls rs:=h.imp fun _ _ z=>s.seqT z
end L2
namespace M6
open PySem L2 M3 M5 M9
section
variable {φ:Sg→Sg}{cs cs':List (List Int)}{us:List Int}
end
theorem zhF(cs:List (List Int))(us:List Int):(zbg cs us).length≤us.length*us.length:=by
 have h1:=rows_len (zC cs us) us (yr cs us)
 have h2:=List.length_filterMap_le (fun pq=>nb cs us pq.1 pq.2) ((rows (zC cs us) us).zip (rows (zC cs us) us).tail)
 rw[length_zip] at h2
 unfold zbg
 omega
end M6
namespace M6
open PySem L2 M3 M5
section
variable {cs:List (List Int)}{us d:List Int}
end
end M6
namespace L2
open PySem
end L2
namespace M6
open PySem L2 M3 M5
def bar:Str:=Str.ofString "|"
def sl:Str:=Str.ofString "/"
def blank:Str:=Str.ofString " "
def zia(p:Int×Int):Str:=tN p.1++sl++tN p.2
def zc8(ms:List Int)(n:Nat):List Str:=(zbq ms n).map zia
def rowW(p c:Int)(ms:List Int)(n:Nat):List Str:=[tN p,tN c]++[bar]++ms.map tN++[bar]++zc8 ms n
def zhL(p c:Int)(ms:List Int)(n:Nat):Str:=Txt.join blank (rowW p c ms n)
theorem tN_len{n:Int}(h:n.natAbs≤990):(tN n).length≤992:=by
 have:=len_str_of_int n
 unfold tN
 omega
theorem zgW:∀{ms:List Int},(∀x∈ms,1≤x∧x≤24)→0≤ms.sum∧ms.sum≤24*ms.length
 | [],_=>by simp
 | x::ms,h=>by
   have h1:=h x (mem_cons_self ..)
   have h2:=zgW (ms:=ms) fun y hy=>h y (mem_cons_of_mem _ hy)
   simp only[List.sum_cons,length_cons]
   omega
theorem zfP{ms:List Int}(h:∀x∈ms,1≤x∧x≤24)(n:Int):0≤sm ms n∧sm ms n≤24*ms.length:=by
 have h1:=zgW (ms:=got ms n) fun x hx=>h x (List.mem_filter.mp hx).1
 have h2:=zcQ ms n
 unfold cnt at h2
 unfold sm
 omega
theorem zgY:sl.length=1:=by decide +kernel
theorem bar_len:bar.length=1:=by decide +kernel
theorem zgS(ms:List Int)(n:Nat):zc8 ms (n+1)=zc8 ms n++[tN (cnt ms ((n:Int)+1))++sl++tN (sm ms ((n:Int)+1))]:=by
 unfold zc8
 rw[zeR,map_append]
 rfl
theorem zeq{ms:List Int}(hl:ms.length≤15)(h:∀x∈ms,1≤x∧x≤24)(n:Int):(tN (cnt ms n)).length≤992∧(tN (sm ms n)).length≤992:=by
 have h1:=zcQ ms n
 have h2:=zfP h n
 exact⟨tN_len (by omega),tN_len (by omega)⟩
theorem ziY(ms:List Int)(n:Nat):(zc8 ms n).length=n:=by unfold zc8;rw[length_map,zcY]
theorem ladW_short{ms:List Int}(hl:ms.length≤15)(h:∀x∈ms,1≤x∧x≤24)(n:Nat):∀w∈zc8 ms n,w.length≤2000:=fun w hw=>by
 induction n with
 | zero=>unfold zc8 zbq at hw;simp at hw
 | succ n ih =>
   rw[zgS] at hw
   rcases List.mem_append.mp hw with z | z
   ·exact ih z
   ·rw[List.mem_singleton.mp z,wl,wl,zgY]
    have:=zeq hl h ((n:Int)+1)
    omega
theorem zfG{ms:List Int}(hl:ms.length≤15)(h:∀x∈ms,1≤x∧x≤24){p c:Int}(hp:p.natAbs≤990)(hc:c.natAbs≤1000)(n:Nat):∀w∈rowW p c ms n,w.length≤2000:=fun w hw=>by
 unfold rowW at hw
 simp only[mem_append,mem_cons,not_mem_nil,or_false,List.mem_map] at hw
 have l1:=len_str_of_int p
 have l2:=len_str_of_int c
 rcases hw with((((rfl | rfl) | rfl) | ⟨x,hx,rfl⟩) | rfl) | hw
 ·unfold tN;omega
 ·unfold tN;omega
 ·rw[bar_len];omega
 ·have:=h x hx
  have:=tN_len (n:=x) (by omega)
  omega
 ·rw[bar_len];omega
 ·exact ladW_short hl h n w hw
def zaK(cs:List (List Int))(us:List Int):List Str:=(rows (zC cs us) us).map fun p=>zhL p.1 p.2 (zm cs p.2) us.length
theorem emp_app(y:Str):Str.empty++y=y:=by
 refine PySem.Str.ext' ?_
 show(#[]:Array Nat)++y.cps=y.cps
 simp
end M6
namespace L2
open PySem
inductive WordOf:V→Str→Prop
 | int {i:Int}:i.natAbs≤100000→WordOf (.int i) (tN i)
 | str {y:Str}:WordOf (.str y) y
theorem zfB:∀{ns:List Int},(∀n∈ns,n.natAbs≤100000)→All2 WordOf (ns.map V.int) (ns.map tN)
 | [],_=>.nil
 | n::ns,h=>.cons (.int (h n (mem_cons_self ..))) (zfB fun m hm=>h m (mem_cons_of_mem _ hm))
theorem zdN:∀(ts:List Str),All2 WordOf (ts.map V.str) ts
 | []=>.nil
 | t::ts=>.cons .str (zdN ts)
theorem zdP{K:Frag}{a:Addr}{ls:List Addr}{rs:List (Int×Int)}{f:Int×Int→Str}{c:St}{te:TE}{H:Hp}{fin:List V→Hp→Prop}(hA:SqL K H a (ls.map V.ref))(hR:All2 (TPl K H) ls rs)(hz:rs.length≤1000)
 (hte:∀(p:Int×Int)(H':Hp)(Q:VK),p∈rs→zi H H'→(∀H2,zi H' H2→Q (.str (f p)) H2)→te (some (.int p.1)::some (.int p.2)::c) H' Q)
 (hd:∀(H':Hp),zi H H'→fin ((rs.map f).map V.str) H'):zeP K (Itl K a) c zhB te H fin:=by
 have hln:=zx
 have hl:=hR.length
 refine ze1 (xs:=ls.map V.ref) (fun i ys H3=>zi H H3∧ys=((rs.take i).map f).map V.str) ⟨zi.refl _,rfl⟩ ?_ (by rw[length_map];omega) ?_ ?_
 ·rintro i ys H3 hi ⟨s3,rfl⟩
  refine⟨s3.seq hA,?_⟩
  rw[length_map,length_map,length_take]
  omega
 ·rintro i x ys H3 hx ⟨s3,rfl⟩
  obtain⟨p,ep,rfl⟩:=zal hx
  obtain⟨m,em,rm⟩:=hR.getL ep
  refine⟨p,.int m.1,.int m.2,rfl,s3.seqT rm,hte m H3 _ (mem_of_getElem? em) s3 fun H4 s4=>⟨s3.trans s4,?_⟩⟩
  rw[take_succ,em,map_append,map_append]
  rfl
 ·rintro ys H3 ⟨s3,rfl⟩
  rw[length_map,hl,take_length]
  exact hd H3 s3
theorem comp_strN{K:Frag}{a:Addr}{us:List Int}{f:Int→Str}{c:St}{te:TE}{H:Hp}{fin:List V→Hp→Prop}(hA:SqL K H a (us.map V.int))(hz:us.length≤1000)
 (hte:∀(x:Int)(H':Hp)(Q:VK),x∈us→zi H H'→(∀(H2:Hp),zi H' H2→Q (.str (f x)) H2)→te (some (.int x)::c) H' Q)
 (hd:∀(H':Hp),zi H H'→fin ((us.map f).map V.str) H'):zcb (Itl K a) c zhB te H fin:=by
 have hln:=zx
 refine yf (xs:=us.map V.int) (fun k ys H5=>ys=((us.take k).map f).map V.str∧zi H H5) ⟨rfl,zi.refl _⟩ ?_ (by rw[length_map];omega) ?_ ?_
 ·rintro k ys H5 hk ⟨rfl,s5⟩
  refine⟨s5.seq hA,?_⟩
  rw[length_map,length_map,length_take]
  omega
 ·rintro k x ys H5 hx ⟨rfl,s5⟩
  obtain⟨hk,rfl⟩:=zam hx
  refine hte _ H5 _ (zdB hk) s5 fun H2 s2=>⟨?_,s5.trans s2⟩
  rw[wB hk,map_append,map_append]
  rfl
 ·rintro ys H5 ⟨rfl,s5⟩
  rw[length_map,take_length]
  exact hd H5 s5
end L2
namespace M15
open M14
def idx(key:Nat→Int)(n:Nat):List Nat:=(List.range n).flatMap fun(i:Nat)=>(List.range n).filter fun k=>decide (key k=(i:Int)+1)
theorem idx_sorted(key:Nat→Int)(n:Nat):(idx key n).Pairwise (R key):=by
 unfold idx
 rw[List.pairwise_flatMap]
 refine⟨fun i _=>?_,?_⟩
 ·rw[List.pairwise_filter]
  refine List.Pairwise.imp ?_ (pairwise_lt_range (n:=n))
  intro a b l ha hb
  have ha:=of_decide_eq_true ha
  have hb:=of_decide_eq_true hb
  exact .inr ⟨by omega,l⟩
 ·refine List.Pairwise.imp ?_ (pairwise_lt_range (n:=n))
  intro i j l x hx y hy
  have hx:=of_decide_eq_true (List.mem_filter.mp hx).2
  have hy:=of_decide_eq_true (List.mem_filter.mp hy).2
  exact .inl (by omega)
theorem idx_mem(key:Nat→Int)(n:Nat)(h:∀k,k<n→1≤key k∧key k≤n)(x:Nat):x∈idx key n↔x∈List.range n:=by
 unfold idx
 rw[List.mem_flatMap]
 constructor
 ·rintro ⟨i,_,z⟩
  exact(List.mem_filter.mp z).1
 ·intro z
  have hx:=List.mem_range.mp z
  have:=h x hx
  exact⟨(key x-1).toNat,List.mem_range.mpr (by omega),List.mem_filter.mpr ⟨z,decide_eq_true (by omega)⟩⟩
theorem R.asymm{key:Nat→Int}{a b:Nat}(h:R key a b)(k:R key b a):False:=by
 rcases h with h | h <;> rcases k with k | k <;> omega
theorem one{key:Nat→Int}:∀{l m:List Nat},l.Pairwise (R key)→m.Pairwise (R key)→(∀x,x∈l↔x∈m)→l=m
 | [],[],_,_,_=>rfl
 | [],b::m,_,_,h=>absurd ((h b).mpr (mem_cons_self ..)) (not_mem_nil)
 | a::l,[],_,_,h=>absurd ((h a).mp (mem_cons_self ..)) (not_mem_nil)
 | a::l,b::m,hl,hm,h=>by
   rw[List.pairwise_cons] at hl hm
   have e:a=b:=by
    rcases List.mem_cons.mp ((h a).mp (mem_cons_self ..))with e | z
    ·exact e
    ·rcases List.mem_cons.mp ((h b).mpr (mem_cons_self ..))with e | y
     ·exact e.symm
     ·exact(R.asymm (hm.1 a z) (hl.1 b y)).elim
   subst e
   refine congrArg _ (one hl.2 hm.2 fun x=>?_)
   have nl:∀{l:List Nat},(∀y,y∈l→R key a y)→a∉l:=fun q z=>R.asymm (q a z) (q a z)
   constructor
   ·intro z
    rcases List.mem_cons.mp ((h x).mp (mem_cons_of_mem _ z))with e | y
    ·subst e;exact(nl hl.1 z).elim
    ·exact y
   ·intro z
    rcases List.mem_cons.mp ((h x).mpr (mem_cons_of_mem _ z))with e | y
    ·subst e;exact(nl hm.1 z).elim
    ·exact y
theorem zin{key:Nat→Int}{n:Nat}{p:Array Nat}(h:I key n p n):p.toList.Pairwise (R key):=by
 rw[List.pairwise_iff_getElem]
 intro i j hi hj l
 have hz:=h.1.size
 have e:∀(k:Nat)(hk:k<p.toList.length),p.toList[k]=g p k:=fun k hk=>by
  have hk':k<p.size:=by simpa using hk
  show _=p.getD k 0
  simp[Array.getD,hk']
 rw[e i hi,e j hj]
 refine h.2 i j l ?_
 rw[←hz]
 simpa using hj
theorem is_idx{key:Nat→Int}{n:Nat}{p:Array Nat}(h:I key n p n)(hk:∀k,k<n→1≤key k∧key k≤n):p.toList=idx key n:=by
 refine one (zin h) (idx_sorted key n) fun x=>?_
 rw[idx_mem key n hk]
 have:=h.1.pm.toList.mem_iff (a:=x)
 simpa using this
theorem zip_get(ps us:List Int)(h:ps.length=us.length):(List.range us.length).map (fun k=>(ps.getD k 0,us.getD k 0))=ps.zip us:=by
 refine ext_getElem (by simp[h]) fun i h1 h2=>?_
 have hi:i<us.length:=by simpa using h1
 have hp:i<ps.length:=by omega
 simp[hi,hp]
theorem rows_of{ps us:List Int}{p:Array Nat}(hl:ps.length=us.length)(hk:∀k,k<us.length→1≤ps.getD k 0∧ps.getD k 0≤us.length)(h:I (fun k=>ps.getD k 0) us.length p us.length):
 p.toList.map (fun k=>(ps.getD k 0,us.getD k 0))=M5.rows ps us:=by
 rw[is_idx h hk]
 unfold idx M5.rows
 rw[List.map_flatMap]
 congr 1
 funext i
 rw[←zip_get ps us hl,filter_map]
 rfl
end M15
namespace L2
open PySem PySem.W
theorem zaQ.noT{K:Frag}{H:Hp}{a:Addr}{cs:List (List Int)}(h:zaQ K (IL K) H a cs):zaQ K (IL K) (L2.noT H) a cs:=by
 obtain⟨ls,h1,h2⟩:=h
 exact⟨ls,h1.noT,h2.imp fun _ _ r=>SqL.noT r⟩
theorem ziK{K:Frag}{H:Hp}{ts:List Addr}{ps us:List Int}(hl:ps.length=us.length)(pr:Prs H ts ((ps.map V.int).zip (us.map V.int))):∀(l:List Nat),(∀i∈l,i<us.length)→All2 (TPl K H) (l.map fun i=>ts.getD i 0) (l.map fun i=>(ps.getD i 0,us.getD i 0))
 | [],_=>.nil
 | i::l,h=>by
   have hi:=h i (mem_cons_self ..)
   have lt:ts.length=us.length:=by rw[pr.length,length_zip,length_map,length_map];omega
   refine .cons ?_ (ziK hl pr l fun j hj=>h j (mem_cons_of_mem _ hj))
   have ht:ts[i]? = some (ts.getD i 0):=by rw[getD_eq_getElem?_getD,getElem?_eq_getElem (by omega)];rfl
   obtain⟨⟨pa,pb⟩,ep,e⟩:=pr.get i _ ht
   rw[List.getElem?_zip_eq_some] at ep
   obtain⟨e1,e2⟩:=ep
   rw[getElem?_map,getElem?_eq_getElem (by omega)] at e1 e2
   cases e1
   cases e2
   have h1:ps.getD i 0=ps[i]:=by rw[getD_eq_getElem?_getD,getElem?_eq_getElem (by omega)];rfl
   have h2:us.getD i 0=us[i]:=by rw[getD_eq_getElem?_getD,getElem?_eq_getElem (by omega)];rfl
   show SqT K H (ts.getD i 0) [.int (ps.getD i 0),.int (us.getD i 0)]
   rw[h1,h2]
   exact .inl (.inl e)
end L2
namespace M6
open M5
theorem zhs(xs:List Sg):zH xs xs=false:=by
 induction xs with
 | nil=>rfl
 | cons x xs ih=>rw[zH,if_pos rfl];exact ih
theorem zfW(a:List Int)(n:Nat):zR a a n=false:=zhs _
theorem zgx{α:Type}{p:α→Bool}:∀{l:List α}{x:α},x∈l→p x=false→(l.filter p).length<l.length
 | y::l,x,h,hp=>by
   rcases List.mem_cons.mp h with e | h
   ·subst e
    rw[filter_cons_of_neg (by rw[hp];exact Bool.false_ne_true),length_cons]
    exact Nat.lt_succ_of_le (length_filter_le _ _)
   ·have:=zgx h hp
    rw[filter_cons]
    split
    ·rw[length_cons,length_cons];omega
    ·rw[length_cons];omega
theorem zi7(cs:List (List Int))(us:List Int):∀k,k<us.length→1≤(zC cs us).getD k 0∧(zC cs us).getD k 0≤us.length:=fun k hk=>by
 have e:(zC cs us).getD k 0=1+((us.filter fun d=>zR (zm cs d) (zm cs us[k]) us.length).length:Int):=by
  unfold zC
  rw[getD_eq_getElem?_getD,getElem?_map,getElem?_eq_getElem hk]
  rfl
 have:=zgx (p:=fun d=>zR (zm cs d) (zm cs us[k]) us.length) (getElem_mem hk) (zfW _ _)
 rw[e]
 omega
end M6
namespace M6
open PySem L2 M3 M5
theorem olt_trans{x y z:Sg}(h:olt x y=true)(k:olt y z=true):olt x z=true:=by
 cases x with
 | none=>cases h
 | some p =>
   cases y with
   | none=>cases k
   | some q =>
     cases z with
     | none=>rfl
     | some r =>
       simp only[olt,Bool.or_eq_true,Bool.and_eq_true,decide_eq_true_eq] at h k ⊢
       omega
theorem olt_ne{x y:Sg}(h:olt x y=true):x≠y:=fun e=>by
 subst e
 cases x with
 | none=>cases h
 | some p=>simp only[olt,Bool.or_eq_true,Bool.and_eq_true,decide_eq_true_eq] at h;omega
theorem olt_total{x y:Sg}(h:x≠y):olt x y=true∨olt y x=true:=by
 cases x with
 | none=>cases y with
   | none=>exact absurd rfl h
   | some q=>exact .inr rfl
 | some p=>cases y with
   | none=>exact .inl rfl
   | some q =>
     obtain⟨p1,p2⟩:=p
     obtain⟨q1,q2⟩:=q
     have:¬(p1=q1∧p2=q2):=fun z=>h (by rw[z.1,z.2])
     simp only[olt,Bool.or_eq_true,Bool.and_eq_true,decide_eq_true_eq]
     omega
theorem zdH:∀{xs ys zs:List Sg},zH xs ys=true→zH ys zs=true→zH xs zs=true
 | [],_,_,h,_=>by cases h
 | _::_,[],_,h,_=>by cases h
 | _::_,_::_,[],_,k=>by cases k
 | x::xs,y::ys,z::zs,h,k=>by
   rw[zH] at h k ⊢
   by_cases c:x=y
   ·rw[if_pos c] at h
    subst c
    by_cases d:x=z
    ·rw[if_pos d] at k ⊢
     exact zdH h k
    ·rw[if_neg d] at k ⊢
     exact k
   ·rw[if_neg c] at h
    by_cases d:y=z
    ·subst d
     rw[if_neg c]
     exact h
    ·rw[if_neg d] at k
     have:=olt_trans h k
     rw[if_neg (olt_ne this)]
     exact this
theorem zdL:∀{xs ys:List Sg},xs.length=ys.length→xs≠ys→zH xs ys=true∨zH ys xs=true
 | [],[],_,h=>absurd rfl h
 | [],_::_,l,_=>by cases l
 | _::_,[],l,_=>by cases l
 | x::xs,y::ys,l,h=>by
   rw[zH,zH]
   by_cases c:x=y
   ·rw[if_pos c,if_pos c.symm]
    exact zdL (by simpa using l) fun z=>h (by rw[c,z])
   ·rw[if_neg c,if_neg fun z=>c z.symm]
    exact olt_total c
theorem zfI{α:Type}{p q:α→Bool}:∀{l:List α},(∀x∈l,p x=true→q x=true)→(l.filter p).length≤(l.filter q).length
 | [],_=>le_refl _
 | x::l,h=>by
   have ih:=zfI (p:=p) (q:=q) fun y hy=>h y (mem_cons_of_mem _ hy)
   rw[filter_cons,filter_cons]
   cases hp:p x with
   | false =>
     cases hq:q x with
     | false=>exact ih
     | true=>exact Nat.le_succ_of_le ih
   | true =>
     rw[h x (mem_cons_self ..) hp]
     exact Nat.succ_le_succ ih
theorem zec{α:Type}{p q:α→Bool}:∀{l:List α}{x:α},x∈l→p x=false→q x=true→(∀x∈l,p x=true→q x=true)→(l.filter p).length<(l.filter q).length
 | y::l,x,hx,hp,hq,h=>by
   have le:=zfI (p:=p) (q:=q) fun y hy=>h y (mem_cons_of_mem _ hy)
   rw[filter_cons,filter_cons]
   rcases List.mem_cons.mp hx with e | hx
   ·subst e
    rw[hp,hq]
    exact Nat.lt_succ_of_le le
   ·have ih:=zec hx hp hq fun y hy=>h y (mem_cons_of_mem _ hy)
    cases hp':p y with
    | false =>
      cases hq':q y with
      | false=>exact ih
      | true=>exact lt_succ_of_lt ih
    | true =>
      rw[h y (mem_cons_self ..) hp']
      exact Nat.succ_lt_succ ih
theorem ziW{cs:List (List Int)}{us:List Int}{c d:Int}(hc:c∈us)(h:zR (zm cs c) (zm cs d) us.length=true):yO cs us c<yO cs us d:=by
 unfold yO
 have:=zec (p:=fun e=>zR (zm cs e) (zm cs c) us.length) (q:=fun e=>zR (zm cs e) (zm cs d) us.length) hc (zfW _ _) h fun x _ hx=>zdH hx h
 omega
theorem place_eq{cs:List (List Int)}{us:List Int}{c d:Int}(hc:c∈us)(hd:d∈us)(h:yO cs us c=yO cs us d):wG (zm cs c) us.length=wG (zm cs d) us.length:=by
 by_cases e:wG (zm cs c) us.length=wG (zm cs d) us.length
 ·exact e
 ·rcases zdL (by rw[zcr,zcr]) e with z | z
  ·have:=ziW (d:=d) hc z;omega
  ·have:=ziW (d:=c) hd z;omega
theorem zgH{a:List Int}{n:Nat}(ha:∀x∈a,x≤n){k:Nat}(h:n≤k):sg a k=sg a n:=by
 have e:got a k=got a n:=by
  unfold got
  exact filter_congr fun x hx=>by have:=ha x hx;rw[decide_eq_true (by omega),decide_eq_true this]
 unfold sg cnt sm
 rw[e]
theorem ziF{a b:List Int}{n m:Nat}{r:Option (Nat×Str)}(ha:∀x∈a,x≤n)(hb:∀x∈b,x≤n)(h1:1≤n)(hm:n≤m)(h:wa a b m r):wa a b n r:=by
 cases r with
 | none=>exact fun k k1 k2=>h k k1 (by omega)
 | some r =>
   refine⟨h.1,?_,h.2.2.1,h.2.2.2⟩
   by_cases c:r.1≤n
   ·exact c
   ·refine absurd ?_ h.2.2.2.1
    rw[zgH ha (by omega),zgH hb (by omega)]
    exact h.2.2.1 n h1 (by omega)
theorem nb_part{cs:List (List Int)}{us:List Int}{c d:Int}{r:Option (Nat×Str)}(hp:∀d∈cs,d.Perm us)(h1:1≤us.length)(h24:us.length≤24)(hc:c∈us)(hd:d∈us)(h:wa (zm cs c) (zm cs d) 24 r):
 nb cs us (yO cs us c,c) (yO cs us d,d)=r.map fun r=>(c,d,(r.1:Int),r.2):=by
 have h':=ziF (fun x hx=>(yz hp hc x hx).2) (fun x hx=>(yz hp hd x hx).2) h1 h24 h
 have e:=zbc h' (zb7 (zm cs c) (zm cs d) us.length)
 unfold nb
 dsimp only
 by_cases z:yO cs us c=yO cs us d
 ·rw[if_pos z]
  have es:=place_eq hc hd z
  have:wa (zm cs c) (zm cs d) us.length none:=fun k k1 k2=>by
   have:=congrArg (fun l=>l[k-1]?) es
   unfold wG at this
   simp only[getElem?_map] at this
   rw[getElem?_range (by omega)] at this
   have ek:((k-1:Nat):Int)+1=(k:Int):=by omega
   simpa [ek] using this
  rw[zbc h' this]
  rfl
 ·rw[if_neg z,e]
end M6
namespace L2
open PySem
end L2
namespace M6
open PySem L2 M3 M5
theorem rows_ne{cs:List (List Int)}{us:List Int}(h:us≠[]):rows (zC cs us) us≠[]:=fun z=>by
 have h1:=one_in (cs:=cs) h
 rw[map_front] at h1
 obtain⟨c,hc,e⟩:=List.mem_map.mp h1
 have:(plc cs us c,c)∈rows (zC cs us) us:=by
  rw[zi1]
  refine List.mem_flatMap.mpr ⟨0,List.mem_range.mpr (length_pos_of_mem hc),?_⟩
  unfold blk
  exact List.mem_map.mpr ⟨c,List.mem_filter.mpr ⟨hc,decide_eq_true (by unfold plc;rw[e];rfl)⟩,rfl⟩
 rw[z] at this
 cases this
end M6
namespace L2
open PySem
theorem zfq{K:Frag}{F:Addr→Prop}{a:Addr}{ts:List Str}{f:Str→List Int}{c:St}{te:TE}{H:Hp}{fin:List V→Hp→Prop}(hA:SqL K H a (ts.map V.str))(hz:ts.length≤1000)
 (hte:∀(t:Str)(H':Hp)(Q:VK),t∈ts→zi H H'→(∀(l:Addr)(H2:Hp),zi H' H2→H2 l=some (.lst ((f t).map V.int))→¬F l→Q (.ref l) H2)→te (some (.str t)::c) H' Q)
 (hd:∀(ks:List Addr)(H':Hp),zi H H'→All2 (fun l d=>H' l=some (.lst (d.map V.int))∧¬F l) ks (ts.map f)→fin (ks.map V.ref) H'):zcb (Itl K a) c zhB te H fin:=by
 have hln:=zx
 refine yf (xs:=ts.map V.str) (fun k ys H5=>∃ks:List Addr,ys=ks.map V.ref∧zi H H5∧All2 (fun l d=>H5 l=some (.lst (d.map V.int))∧¬F l) ks ((ts.take k).map f)) ⟨[],rfl,zi.refl _,.nil⟩ ?_ (by rw[length_map];omega) ?_ ?_
 ·rintro k ys H5 hk ⟨ks,rfl,s5,r5⟩
  refine⟨s5.seq hA,?_⟩
  have:=r5.length
  rw[length_map,length_take] at this
  rw[length_map]
  omega
 ·rintro k x ys H5 hx ⟨ks,rfl,s5,r5⟩
  obtain⟨hk,rfl⟩:=zaL hx
  refine hte _ H5 _ (zak hk) s5 fun l H2 s2 r2 n2=>⟨ks++[l],by rw[map_append];rfl,s5.trans s2,?_⟩
  rw[yg hk,map_append]
  exact(r5.imp fun _ _ z=>⟨s2 _ _ z.1,z.2⟩).snoc ⟨r2,n2⟩
 ·rintro ys H5 ⟨ks,rfl,s5,r5⟩
  rw[length_map,take_length] at r5
  exact hd ks H5 s5 r5
theorem zfU{K:Frag}{F:Addr→Prop}{a:Addr}{ls:List Addr}{cs:List (List Int)}{f:List Int→List Int}{c:St}{te:TE}{H:Hp}{fin:List V→Hp→Prop}(hA:SqL K H a (ls.map V.ref))(hR:All2 (fun l d=>H l=some (.lst (d.map V.int))) ls cs)(hz:cs.length≤1000)
 (hte:∀(m:Addr)(d:List Int)(H':Hp)(Q:VK),d∈cs→H' m=some (.lst (d.map V.int))→zi H H'→(∀(l:Addr)(H2:Hp),zi H' H2→H2 l=some (.lst ((f d).map V.int))→¬F l→Q (.ref l) H2)→te (some (.ref m)::c) H' Q)
 (hd:∀(ks:List Addr)(H':Hp),zi H H'→All2 (fun l d=>H' l=some (.lst (d.map V.int))∧¬F l) ks (cs.map f)→fin (ks.map V.ref) H'):zcb (Itl K a) c zhB te H fin:=by
 have hln:=zx
 have hl:=hR.length
 refine yf (xs:=ls.map V.ref) (fun k ys H5=>∃ks:List Addr,ys=ks.map V.ref∧zi H H5∧All2 (fun l d=>H5 l=some (.lst (d.map V.int))∧¬F l) ks ((cs.take k).map f)) ⟨[],rfl,zi.refl _,.nil⟩ ?_ (by rw[length_map];omega) ?_ ?_
 ·rintro k ys H5 hk ⟨ks,rfl,s5,r5⟩
  refine⟨s5.seq hA,?_⟩
  have:=r5.length
  rw[length_map,length_take] at this
  rw[length_map]
  omega
 ·rintro k x ys H5 hx ⟨ks,rfl,s5,r5⟩
  obtain⟨m,em,rfl⟩:=zal hx
  obtain⟨d,ed,rm⟩:=hR.getL em
  refine hte m d H5 _ (mem_of_getElem? ed) (s5 _ _ rm) s5 fun l H2 s2 r2 n2=>⟨ks++[l],by rw[map_append];rfl,s5.trans s2,?_⟩
  rw[take_succ,ed,map_append]
  exact(r5.imp fun _ _ z=>⟨s2 _ _ z.1,z.2⟩).snoc ⟨r2,n2⟩
 ·rintro ys H5 ⟨ks,rfl,s5,r5⟩
  rw[length_map,hl,take_length] at r5
  exact hd ks H5 s5 r5
theorem Sh.handed_idx{S:Sh}(ok:S.Ok):S.panel.filter (fun t => !Decidable.decide (S.rows.getD (S.panel.idxOf t) []=[]))=S.handed:=by
 unfold Sh.handed
 refine filter_congr fun t ht=>?_
 rw[S.rows_at (idxOf_lt_length_of_mem ht),getD_idxS ht]
 exact Sh.row_some ok t
end L2
set_option maxHeartbeats 4000000
namespace Pp
open PySem L2
def top(i:Nat):Stmt:=PySem.Challenge.pw_panelplace_k41_whole_struck_as_if_never.main.body.getD i (.Pass ⟨0,0,0,0⟩)
structure Txt (K:Frag) (mg:Str→Option Value):Prop where
 b_all:mg "all"=none
 b_bool:mg "bool"=none
 b_int:mg "int"=none
 b_isinstance:mg "isinstance"=none
 b_len:mg "len"=none
 b_list:mg "list"=none
 b_max:mg "max"=none
 b_min:mg "min"=none
 b_range:mg "range"=none
 b_set:mg "set"=none
 b_sorted:mg "sorted"=none
 b_str:mg "str"=none
 b_sum:mg "sum"=none
 b_tuple:mg "tuple"=none
 b_zip:mg "zip"=none
 c_MOST_COUPLES:∃t,mg "MOST_COUPLES"=some (.int 24 t)
 c_MOST_JUDGES:∃t,mg "MOST_JUDGES"=some (.int 15 t)
 c_MOST_NUMBER:∃t,mg "MOST_NUMBER"=some (.int 999 t)
 c_MOST_SIGNS:∃t,mg "MOST_SIGNS"=some (.int 8 t)
 c_MOST_CARDS:∃t,mg "MOST_CARDS"=some (.int 200 t)
 x_BadCouples:∃C,zb4 K "BadCouples" C∧mg "BadCouples"=some (.ref C)∧ExC K C
 x_BadJudges:∃C,zb4 K "BadJudges" C∧mg "BadJudges"=some (.ref C)∧ExC K C
 x_SheetSealed:∃C,zb4 K "SheetSealed" C∧mg "SheetSealed"=some (.ref C)∧ExC K C
 x_UnknownJudge:∃C,zb4 K "UnknownJudge" C∧mg "UnknownJudge"=some (.ref C)∧ExC K C
 x_BadCard:∃C,zb4 K "BadCard" C∧mg "BadCard"=some (.ref C)∧ExC K C
 x_TooManyCards:∃C,zb4 K "TooManyCards" C∧mg "TooManyCards"=some (.ref C)∧ExC K C
 x_UnknownCouple:∃C,zb4 K "UnknownCouple" C∧mg "UnknownCouple"=some (.ref C)∧ExC K C
 x_LastCouple:∃C,zb4 K "LastCouple" C∧mg "LastCouple"=some (.ref C)∧ExC K C
 x_NoCard:∃C,zb4 K "NoCard" C∧mg "NoCard"=some (.ref C)∧ExC K C
 x_AtTop:∃C,zb4 K "AtTop" C∧mg "AtTop"=some (.ref C)∧ExC K C
 cl_Sheet:Cls K (zL K "Sheet")
 n_Sheet_standing:zbr K (zL K "Sheet") "standing"
 n_Sheet_struck_so_far:zbr K (zL K "Sheet") "struck_so_far"
 n_Sheet_panel:zbr K (zL K "Sheet") "panel"
 n_Sheet_card_by_judge:zbr K (zL K "Sheet") "card_by_judge"
 n_Sheet_taken_so_far:zbr K (zL K "Sheet") "taken_so_far"
 n_Sheet_sealed:zbr K (zL K "Sheet") "sealed"
abbrev zM:Stmt:=zbz (top 33) 12
theorem zb3:FnScope ["self"] ["self"] (zc zM):=⟨rfl,rfl,rfl,by decide +kernel,rfl,by decide +kernel,by decide +kernel⟩
abbrev zJ:Stmt:=zbz (top 33) 13
theorem zbh:FnScope ["self","judge"] ["self","judge"] (zc zJ):=⟨rfl,rfl,rfl,by decide +kernel,rfl,by decide +kernel,by decide +kernel⟩
abbrev yI:Stmt:=zbz (top 33) 4
theorem zey:FnScope ["self"] ["self"] (zc yI):=⟨rfl,rfl,rfl,by decide +kernel,rfl,by decide +kernel,by decide +kernel⟩
abbrev yE:Stmt:=zbz (top 33) 7
theorem zfb:FnScope ["self"] ["self"] (zc yE):=⟨rfl,rfl,rfl,by decide +kernel,rfl,by decide +kernel,by decide +kernel⟩
abbrev wW:Stmt:=top 15
theorem zgs:FnScope ["card","couples"] ["card","couples"] (zc wW):=⟨rfl,rfl,rfl,by decide +kernel,rfl,by decide +kernel,by decide +kernel⟩
abbrev zbJ:Stmt:=top 16
theorem sc_mark_on:FnScope ["card","couple"] ["card","couple"] (zc zbJ):=⟨rfl,rfl,rfl,by decide +kernel,rfl,by decide +kernel,by decide +kernel⟩
abbrev yl:Stmt:=top 17
theorem zd6:FnScope ["card","couple"] ["card","couple"] (zc yl):=⟨rfl,rfl,rfl,by decide +kernel,rfl,by decide +kernel,by decide +kernel⟩
abbrev zcu:Stmt:=top 18
theorem zeC:FnScope ["card","couple","place","passed"] ["card","couple"] (zc zcu):=⟨rfl,rfl,rfl,by decide +kernel,rfl,by decide +kernel,by decide +kernel⟩
abbrev wC:Stmt:=top 26
theorem zfo:FnScope ["couple"] ["couple"] (zc wC):=⟨rfl,rfl,rfl,by decide +kernel,rfl,by decide +kernel,by decide +kernel⟩
abbrev y7:Stmt:=top 28
theorem zff:FnScope ["sign"] ["sign"] (zc y7):=⟨rfl,rfl,rfl,by decide +kernel,rfl,by decide +kernel,by decide +kernel⟩
abbrev wz:Stmt:=top 29
theorem zfX:FnScope ["things","most"] ["things","most"] (zc wz):=⟨rfl,rfl,rfl,by decide +kernel,rfl,by decide +kernel,by decide +kernel⟩
abbrev zab:Stmt:=top 30
theorem zgf:FnScope ["things"] ["things"] (zc zab):=⟨rfl,rfl,rfl,by decide +kernel,rfl,by decide +kernel,by decide +kernel⟩
abbrev wy:Stmt:=top 35
theorem zfr:FnScope ["many"] ["many"] (zc wy):=⟨rfl,rfl,rfl,by decide +kernel,rfl,by decide +kernel,by decide +kernel⟩
abbrev zaq:Stmt:=top 39
theorem zh8:FnScope ["marks","number"] ["marks","number"] (zc zaq):=⟨rfl,rfl,rfl,by decide +kernel,rfl,by decide +kernel,by decide +kernel⟩
abbrev zaE:Stmt:=top 68
theorem zhj:FnScope ["_law_found"] ["_law_found"] (zc zaE):=⟨rfl,rfl,rfl,by decide +kernel,rfl,by decide +kernel,by decide +kernel⟩
abbrev zcq:Stmt:=top 69
theorem sc_law_at:FnScope ["_law_script","_law_k"] ["_law_script","_law_k"] (zc zcq):=⟨rfl,rfl,rfl,by decide +kernel,rfl,by decide +kernel,by decide +kernel⟩
abbrev zax:Stmt:=top 71
theorem zd5:FnScope ["_law_found","_law_due","_law_k"] ["_law_found","_law_due"] (zc zax):=⟨rfl,rfl,rfl,by decide +kernel,rfl,by decide +kernel,by decide +kernel⟩
abbrev zbH:Stmt:=top 75
theorem zft:FnScope ["_law_cell","_law_place","_law_once"] ["_law_cell","_law_place"] (zc zbH):=⟨rfl,rfl,rfl,by decide +kernel,rfl,by decide +kernel,by decide +kernel⟩
abbrev zaT:Stmt:=top 76
theorem zif:FnScope ["_law_mode","_law_cell","_law_least","_law_few","_law_most"] ["_law_mode","_law_cell","_law_least","_law_few","_law_most"] (zc zaT):=⟨rfl,rfl,rfl,by decide +kernel,rfl,by decide +kernel,by decide +kernel⟩
abbrev yP:Stmt:=top 77
theorem zdr:FnScope ["_law_cell","_law_many_here","_law_gap"] ["_law_cell","_law_many_here"] (zc yP):=⟨rfl,rfl,rfl,by decide +kernel,rfl,by decide +kernel,by decide +kernel⟩
abbrev wp:Stmt:=top 78
theorem zaj:FnScope ["_law_cell","_law_many_here","_law_letters","_law_size","_law_spot","_law_ends"] ["_law_cell","_law_many_here"] (zc wp):=⟨rfl,rfl,rfl,by decide +kernel,rfl,by decide +kernel,by decide +kernel⟩
abbrev wS:Stmt:=top 80
theorem zhD:FnScope ["_law_cards","_law_couple"] ["_law_cards","_law_couple"] (zc wS):=⟨rfl,rfl,rfl,by decide +kernel,rfl,by decide +kernel,by decide +kernel⟩
abbrev zaX:Stmt:=top 81
theorem zcF:FnScope ["_law_marks_here","_law_last","_law_key_here","_law_number","_law_got"] ["_law_marks_here","_law_last"] (zc zaX):=⟨rfl,rfl,rfl,by decide +kernel,rfl,by decide +kernel,by decide +kernel⟩
abbrev za9:Stmt:=top 83
theorem zcc:FnScope ["_law_spots_here","_law_couples_here","_law_rows_here","_law_place","_law_k"] ["_law_spots_here","_law_couples_here"] (zc za9):=⟨rfl,rfl,rfl,by decide +kernel,rfl,by decide +kernel,by decide +kernel⟩
abbrev wP:Stmt:=top 84
theorem zb9:FnScope ["_law_one","_law_other","_law_last","_law_number","_law_got","_law_had"] ["_law_one","_law_other","_law_last"] (zc wP):=⟨rfl,rfl,rfl,by decide +kernel,rfl,by decide +kernel,by decide +kernel⟩
abbrev yX:Stmt:=top 88
theorem zfz:FnScope ["_law_card_here","_law_couple"] ["_law_card_here","_law_couple"] (zc yX):=⟨rfl,rfl,rfl,by decide +kernel,rfl,by decide +kernel,by decide +kernel⟩
abbrev wI:Stmt:=top 89
theorem zhp:FnScope ["_law_things"] ["_law_things"] (zc wI):=⟨rfl,rfl,rfl,by decide +kernel,rfl,by decide +kernel,by decide +kernel⟩
abbrev wk:Stmt:=top 90
theorem zbb:FnScope ["_law_marks_here","_law_last","_law_steps","_law_number","_law_got"] ["_law_marks_here","_law_last"] (zc wk):=⟨rfl,rfl,rfl,by decide +kernel,rfl,by decide +kernel,by decide +kernel⟩
abbrev wQ:Stmt:=top 94
theorem zcE:FnScope ["_law_cards","_law_who","_law_k","_law_card_here","_law_up"] ["_law_cards","_law_who","_law_k"] (zc wQ):=⟨rfl,rfl,rfl,by decide +kernel,rfl,by decide +kernel,by decide +kernel⟩
abbrev yJ:Stmt:=zbz (top 33) 1
theorem zet:FnScope ["self","judge","card"] ["self","judge","card"] (zc yJ):=⟨rfl,rfl,rfl,by decide +kernel,rfl,by decide +kernel,by decide +kernel⟩
abbrev y9:Stmt:=zbz (top 33) 2
theorem zc3:FnScope ["self","couple","judge"] ["self","couple"] (zc y9):=⟨rfl,rfl,rfl,by decide +kernel,rfl,by decide +kernel,by decide +kernel⟩
abbrev yH:Stmt:=zbz (top 33) 9
theorem zeF:FnScope ["self","judge"] ["self","judge"] (zc yH):=⟨rfl,rfl,rfl,by decide +kernel,rfl,by decide +kernel,by decide +kernel⟩
abbrev yD:Stmt:=top 24
theorem zfh:FnScope ["couples"] ["couples"] (zc yD):=⟨rfl,rfl,rfl,by decide +kernel,rfl,by decide +kernel,by decide +kernel⟩
abbrev wV:Stmt:=top 27
theorem zgZ:FnScope ["judge"] ["judge"] (zc wV):=⟨rfl,rfl,rfl,by decide +kernel,rfl,by decide +kernel,by decide +kernel⟩
abbrev zar:Stmt:=top 36
theorem ziv:FnScope ["cards","couple"] ["cards","couple"] (zc zar):=⟨rfl,rfl,rfl,by decide +kernel,rfl,by decide +kernel,by decide +kernel⟩
abbrev zbG:Stmt:=top 37
theorem zi9:FnScope ["marks","number"] ["marks","number"] (zc zbG):=⟨rfl,rfl,rfl,by decide +kernel,rfl,by decide +kernel,by decide +kernel⟩
abbrev wA:Stmt:=top 38
theorem zfM:FnScope ["marks","number"] ["marks","number"] (zc wA):=⟨rfl,rfl,rfl,by decide +kernel,rfl,by decide +kernel,by decide +kernel⟩
abbrev wb:Stmt:=top 40
theorem ze7:FnScope ["marks"] ["marks"] (zc wb):=⟨rfl,rfl,rfl,by decide +kernel,rfl,by decide +kernel,by decide +kernel⟩
abbrev yc:Stmt:=top 60
theorem zc6:FnScope ["sheet","least"] ["sheet","least"] (zc yc):=⟨rfl,rfl,rfl,by decide +kernel,rfl,by decide +kernel,by decide +kernel⟩
abbrev za4:Stmt:=top 70
theorem zeQ:FnScope ["_law_found","_law_due","_law_k"] ["_law_found","_law_due"] (zc za4):=⟨rfl,rfl,rfl,by decide +kernel,rfl,by decide +kernel,by decide +kernel⟩
abbrev zaA:Stmt:=top 73
theorem zem:FnScope ["_law_found","_law_due","_law_k"] ["_law_found","_law_due"] (zc zaA):=⟨rfl,rfl,rfl,by decide +kernel,rfl,by decide +kernel,by decide +kernel⟩
abbrev zaB:Stmt:=top 74
theorem zcC:FnScope ["_law_found","_law_due","_law_k","_law_j"] ["_law_found","_law_due"] (zc zaB):=⟨rfl,rfl,rfl,by decide +kernel,rfl,by decide +kernel,by decide +kernel⟩
abbrev za6:Stmt:=top 79
theorem yi:FnScope ["_law_cell","_law_couples_here","_law_style","_law_pool","_law_turn","_law_left","_law_made","_law_k","_law_spot"] ["_law_cell","_law_couples_here","_law_style"] (zc za6):=⟨rfl,rfl,rfl,by decide +kernel,rfl,by decide +kernel,by decide +kernel⟩
abbrev wg:Stmt:=top 82
theorem zee:FnScope ["_law_cards","_law_couples_here","_law_ranks"] ["_law_cards","_law_couples_here"] (zc wg):=⟨rfl,rfl,rfl,by decide +kernel,rfl,by decide +kernel,by decide +kernel⟩
abbrev zaD:Stmt:=top 85
theorem wm:FnScope ["_law_cards","_law_couples_here","_law_spots_here","_law_rows_here","_law_made","_law_k","_law_one","_law_other","_law_what"] ["_law_cards","_law_couples_here","_law_spots_here"] (zc zaD):=⟨rfl,rfl,rfl,by decide +kernel,rfl,by decide +kernel,by decide +kernel⟩
abbrev za5:Stmt:=top 91
theorem ze2:FnScope ["_law_place","_law_couple","_law_cards","_law_last","_law_marks_here"] ["_law_place","_law_couple","_law_cards","_law_last"] (zc za5):=⟨rfl,rfl,rfl,by decide +kernel,rfl,by decide +kernel,by decide +kernel⟩
abbrev yQ:Stmt:=zbz (top 33) 8
theorem zfK:FnScope ["self"] ["self"] (zc yQ):=⟨rfl,rfl,rfl,by decide +kernel,rfl,by decide +kernel,by decide +kernel⟩
abbrev yR:Stmt:=top 25
theorem zf5:FnScope ["judges"] ["judges"] (zc yR):=⟨rfl,rfl,rfl,by decide +kernel,rfl,by decide +kernel,by decide +kernel⟩
abbrev wT:Stmt:=top 41
theorem zg9:FnScope ["marks","last"] ["marks","last"] (zc wT):=⟨rfl,rfl,rfl,by decide +kernel,rfl,by decide +kernel,by decide +kernel⟩
abbrev zaz:Stmt:=top 44
theorem zd3:FnScope ["one","other","number"] ["one","other"] (zc zaz):=⟨rfl,rfl,rfl,by decide +kernel,rfl,by decide +kernel,by decide +kernel⟩
abbrev yu:Stmt:=top 62
theorem zeO:FnScope ["sheet","judge"] ["sheet","judge"] (zc yu):=⟨rfl,rfl,rfl,by decide +kernel,rfl,by decide +kernel,by decide +kernel⟩
abbrev zay:Stmt:=top 72
theorem zek:FnScope ["_law_found","_law_due","_law_k"] ["_law_found","_law_due"] (zc zay):=⟨rfl,rfl,rfl,by decide +kernel,rfl,by decide +kernel,by decide +kernel⟩
abbrev zav:Stmt:=top 86
theorem zbA:FnScope ["_law_script","_law_start","_law_couples_here","_law_many_here","_law_style","_law_mode","_law_made","_law_k","_law_cell"] ["_law_script","_law_start","_law_couples_here","_law_many_here","_law_style","_law_mode"] (zc zav):=⟨rfl,rfl,rfl,by decide +kernel,rfl,by decide +kernel,by decide +kernel⟩
abbrev wu:Stmt:=top 92
theorem zdI:FnScope ["_law_cards","_law_couples_here","_law_spots_here"] ["_law_cards","_law_couples_here"] (zc wu):=⟨rfl,rfl,rfl,by decide +kernel,rfl,by decide +kernel,by decide +kernel⟩
abbrev wX:Stmt:=zbz (top 33) 0
theorem zgk:FnScope ["self","couples","judges"] ["self","couples","judges"] (zc wX):=⟨rfl,rfl,rfl,by decide +kernel,rfl,by decide +kernel,by decide +kernel⟩
abbrev za8:Stmt:=top 43
theorem zeS:FnScope ["one","other","number"] ["one","other"] (zc za8):=⟨rfl,rfl,rfl,by decide +kernel,rfl,by decide +kernel,by decide +kernel⟩
abbrev wZ:Stmt:=top 50
theorem zdJ:FnScope ["one","other","number"] ["one","other"] (zc wZ):=⟨rfl,rfl,rfl,by decide +kernel,rfl,by decide +kernel,by decide +kernel⟩
abbrev wM:Stmt:=top 66
theorem zbk:FnScope ["sheet","place","couple","marks","ladder","head","steps"] ["sheet","place","couple"] (zc wM):=⟨rfl,rfl,rfl,by decide +kernel,rfl,by decide +kernel,by decide +kernel⟩
abbrev yp:Stmt:=top 93
theorem ww:FnScope ["_law_names","_law_cards","_law_couples_here","_law_now","_law_made","_law_k","_law_rest"] ["_law_names","_law_cards","_law_couples_here"] (zc yp):=⟨rfl,rfl,rfl,by decide +kernel,rfl,by decide +kernel,by decide +kernel⟩
abbrev yY:Stmt:=top 46
theorem zfO:FnScope ["rows","own"] ["rows","own"] (zc yY):=⟨rfl,rfl,rfl,by decide +kernel,rfl,by decide +kernel,by decide +kernel⟩
abbrev we:Stmt:=top 45
theorem zd0:FnScope ["cards","couples","rows"] ["cards","couples"] (zc we):=⟨rfl,rfl,rfl,by decide +kernel,rfl,by decide +kernel,by decide +kernel⟩
abbrev zaC:Stmt:=top 87
theorem zcH:FnScope ["_law_couples_here","_law_names","_law_cards","_law_sheet_here","_law_k"] ["_law_couples_here","_law_names","_law_cards"] (zc zaC):=⟨rfl,rfl,rfl,by decide +kernel,rfl,by decide +kernel,by decide +kernel⟩
abbrev zcp:Stmt:=top 53
theorem sc_places:FnScope ["sheet"] ["sheet"] (zc zcp):=⟨rfl,rfl,rfl,by decide +kernel,rfl,by decide +kernel,by decide +kernel⟩
abbrev zaY:Stmt:=top 57
theorem zix:FnScope ["sheet","judge"] ["sheet","judge"] (zc zaY):=⟨rfl,rfl,rfl,by decide +kernel,rfl,by decide +kernel,by decide +kernel⟩
abbrev za2:Stmt:=top 59
theorem zbQ:FnScope ["sheet","judge","couple","card","stepped","passed","cards"] ["sheet","judge","couple"] (zc za2):=⟨rfl,rfl,rfl,by decide +kernel,rfl,by decide +kernel,by decide +kernel⟩
abbrev wL:Stmt:=top 61
theorem zg1:FnScope ["cards","couples"] ["cards","couples"] (zc wL):=⟨rfl,rfl,rfl,by decide +kernel,rfl,by decide +kernel,by decide +kernel⟩
abbrev zcs:Stmt:=top 55
theorem sc_firsts:FnScope ["sheet"] ["sheet"] (zc zcs):=⟨rfl,rfl,rfl,by decide +kernel,rfl,by decide +kernel,by decide +kernel⟩
abbrev zaF:Stmt:=top 64
theorem zeo:FnScope ["sheet","couple","all_places"] ["sheet","couple"] (zc zaF):=⟨rfl,rfl,rfl,by decide +kernel,rfl,by decide +kernel,by decide +kernel⟩
abbrev zat:Stmt:=top 58
theorem ze4:FnScope ["sheet","now"] ["sheet"] (zc zat):=⟨rfl,rfl,rfl,by decide +kernel,rfl,by decide +kernel,by decide +kernel⟩
abbrev za7:Stmt:=top 48
theorem zh9:FnScope ["places","couples"] ["places","couples"] (zc za7):=⟨rfl,rfl,rfl,by decide +kernel,rfl,by decide +kernel,by decide +kernel⟩
abbrev zaa:Stmt:=top 47
theorem zge:FnScope ["cards","couples"] ["cards","couples"] (zc zaa):=⟨rfl,rfl,rfl,by decide +kernel,rfl,by decide +kernel,by decide +kernel⟩
abbrev yW:Stmt:=top 51
theorem y6:FnScope ["cards","couples","ranked","rows","one","other","parting"] ["cards","couples"] (zc yW):=⟨rfl,rfl,rfl,by decide +kernel,rfl,by decide +kernel,by decide +kernel⟩
abbrev zbK:Stmt:=top 54
theorem sc_ranking:FnScope ["sheet"] ["sheet"] (zc zbK):=⟨rfl,rfl,rfl,by decide +kernel,rfl,by decide +kernel,by decide +kernel⟩
abbrev zaZ:Stmt:=top 56
theorem ziS:FnScope ["sheet"] ["sheet"] (zc zaZ):=⟨rfl,rfl,rfl,by decide +kernel,rfl,by decide +kernel,by decide +kernel⟩
abbrev zcG:Stmt:=top 65
theorem sc_table:FnScope ["sheet"] ["sheet"] (zc zcG):=⟨rfl,rfl,rfl,by decide +kernel,rfl,by decide +kernel,by decide +kernel⟩
abbrev wj:Stmt:=top 95
theorem yL:FnScope ["_law_sheet_here","_law_names","_law_couples_here","_law_cards","_law_who","_law_spot","_law_into","_law_spots_here","_law_rows_here","_law_lines","_law_pick","_law_rest","_law_k","_law_found"] ["_law_sheet_here","_law_names","_law_couples_here","_law_cards","_law_who","_law_spot"] (zc wj):=⟨rfl,rfl,rfl,by decide +kernel,rfl,by decide +kernel,by decide +kernel⟩
abbrev zbL:Stmt:=top 96
theorem y8:FnScope ["_law_script","_law_mode","_law_couples_here","_law_names","_law_cards","_law_sheet_here","_law_left","_law_turns","_law_turn","_law_number","_law_into","_law_ahead","_law_behind","_law_fresh","_law_who","_law_each"] ["_law_script"] (zc zbL):=⟨rfl,rfl,rfl,by decide +kernel,rfl,by decide +kernel,by decide +kernel⟩
def yj(K:Frag):Sp:=fun vs H Q E=>∃(p:Addr)(F:Addr→Prop)(S:Sh),vs=[.ref p]∧zB K H p F S∧(S.shut=true→∀C,zb4 K "SheetSealed" C→E (.ref C) none H)∧(S.shut=false→Q .non H)
section
variable {P:Program}{w:World}{K:Frag}{mg:Str→Option Value}{base:Heap}
theorem zb2{f:Addr}{fd:FuncData}(F:Fun K "refuse_if_sealed" "Sheet.refuse_if_sealed" zM f fd)(T:Txt K mg):FnOk P w K mg base (CX1 P w) 1 f fd ["self"] (yj K):=by
 obtain⟨c_SheetSealed,n_SheetSealed,m_SheetSealed,x_SheetSealed⟩:=T.x_SheetSealed
 refine F.okX zb3 (fun vs H Q E h=>?_) (fun X W cdv A outer s H vs Q E hX hW fl md hr h=>?_)
 ·obtain⟨p,F,S,rfl,_⟩:=h
  rfl
 ·obtain⟨p,F,S,rfl,⟨dx,a1,a2,a3,d,kvs,h⟩,qE,q⟩:=h
  subst hX
  refine⟨_,(zf (zD (ya (wJ (pv 0) rfl)) (zf (zaf rfl md rfl m_SheetSealed x_SheetSealed (za yd zb))) zu)),?_⟩
  refine⟨_,rfl,p,_,dx,_,_,rfl,h.ip,T.cl_Sheet,T.n_Sheet_sealed,rfl,_,rfl,zhC (fun hs=>?_) (fun hs=>q hs)⟩
  exact⟨(by show 1≤sizeLine;decide),by rw[hW];exact qE hs _ n_SheetSealed⟩
def zU(K:Frag):Sp:=fun vs H Q E=>∃(p:Addr)(F:Addr→Prop)(S:Sh)(j:Str),vs=[.ref p,.str j]∧zB K H p F S∧(j∉S.panel→∀C,zb4 K "UnknownJudge" C→E (.ref C) none H)∧(j∈S.panel→Q .non H)
theorem zbl{f:Addr}{fd:FuncData}(F:Fun K "refuse_unknown_judge" "Sheet.refuse_unknown_judge" zJ f fd)(T:Txt K mg):FnOk P w K mg base (CX1 P w) 1 f fd ["self","judge"] (zU K):=by
 obtain⟨c_UnknownJudge,n_UnknownJudge,m_UnknownJudge,x_UnknownJudge⟩:=T.x_UnknownJudge
 refine F.okX zbh (fun vs H Q E h=>?_) (fun X W cdv A outer s H vs Q E hX hW fl md hr h=>?_)
 ·obtain⟨p,F,S,j,rfl,_⟩:=h
  rfl
 ·obtain⟨p,F,S,j,rfl,⟨dx,a1,a2,a3,d,kvs,h⟩,qE,q⟩:=h
  subst hX
  refine⟨_,(zf (zD (zp zbx (pv 1) (wJ (pv 0) rfl) (by first | exact zt _ | rfl)) (zf (zaf rfl md rfl m_UnknownJudge x_UnknownJudge (za yd zb))) zu)),?_⟩
  refine⟨_,rfl,_,rfl,p,_,dx,_,_,rfl,h.ip,T.cl_Sheet,T.n_Sheet_panel,rfl,_,_,rfl,.inl (SqL.of h.i3),rfl,zgL _,_,rfl,?_⟩
  rw[inV_strs]
  refine yk (fun hj=>?_) (fun hj=>q hj)
  exact⟨(by show 1≤sizeLine;decide),by rw[hW];exact qE hj _ n_UnknownJudge⟩
def zI(K:Frag):Sp:=fun vs H Q _=>∃(p:Addr)(F:Addr→Prop)(S:Sh),vs=[.ref p]∧zB K H p F S∧∀(l:Addr)(H':Hp),zi H H'→H l=none→H' l=some (.lst (S.couples.map V.int))→Q (.ref l) H'
theorem zex{f:Addr}{fd:FuncData}(F:Fun K "couples" "Sheet.couples" yI f fd)(T:Txt K mg):FnOk P w K mg base CX0 1 f fd ["self"] (zI K):=by
 refine F.ok zey (fun vs H Q E h=>?_) (fun cdv A outer s H vs Q E hr h=>?_)
 ·obtain⟨p,F,S,rfl,_⟩:=h
  rfl
 ·obtain⟨p,F,S,rfl,⟨dx,a1,a2,a3,d,kvs,h⟩,q⟩:=h
  refine⟨_,(zf (zn (yb yo (by rfl) T.b_list boot_list (za (wJ (pv 0) rfl) zb)))),?_⟩
  exact⟨_,rfl,p,_,dx,_,_,rfl,h.ip,T.cl_Sheet,T.n_Sheet_standing,rfl,_,_,rfl,.inl (SqL.of h.i1),fun l hl=>q l _ (zi.new hl) hl ze⟩
def yh(K:Frag):Sp:=fun vs H Q _=>∃(p:Addr)(F:Addr→Prop)(S:Sh),vs=[.ref p]∧ShapeAt K H p F S∧S.panel.length≤15∧∀(l:Addr)(H':Hp),zi H H'→H l=none→H' l=some (.lst (S.handed.map V.str))→Q (.ref l) H'
theorem zfg{f:Addr}{fd:FuncData}(F:Fun K "handed" "Sheet.handed" yE f fd)(T:Txt K mg):FnOk P w K mg base CX0 1 f fd ["self"] (yh K):=by
 refine F.ok zfb (fun vs H Q E h=>?_) (fun cdv A outer s H vs Q E hr h=>?_)
 ·obtain⟨p,F,S,rfl,_⟩:=h
  rfl
 ·obtain⟨p,F,S,rfl,⟨dx,a1,a2,a3,d,kvs,h⟩,h15,q⟩:=h
  refine⟨_,(zf (zn (zN (show CompScope (zc yE) ["self"] "judge" ["self"] [0] _ from⟨rfl,by decide +kernel,by decide +kernel,rfl,by decide +kernel,rfl,by decide +kernel,by decide +kernel⟩) rfl (zE (wJ (pv 0) rfl)) (fun _ _ _ _ _=>(yS (pt_cmp (pc_din (zgI hr) (pv 0) (pe_fldK (K:=K) rfl (pv 1) rfl))))) (fun _ _ _ _ _=>(pv 0))))),?_⟩
  have hln:=zx
  refine⟨_,rfl,p,_,dx,_,_,rfl,h.ip,T.cl_Sheet,T.n_Sheet_panel,rfl,a3,rfl,⟨_,SqL.of h.i3⟩,?_⟩
  refine yG (xs:=S.panel.map V.str) (fun i ys H2=>H2=H∧ys=((S.panel.take i).filter fun j=>(S.card j).isSome).map V.str) ⟨rfl,rfl⟩ ?_ (by rw[length_map];omega) ?_ ?_
  ·rintro i ys H2 hi ⟨rfl,rfl⟩
   refine⟨SqL.of h.i3,?_⟩
   rw[length_map]
   exact le_trans (length_filter_le _ _) (by rw[length_take];omega)
  ·rintro i x ys H2 hx ⟨rfl,rfl⟩
   obtain⟨hi,rfl⟩:=zaL hx
   refine⟨_,rfl,_,rfl,p,_,dx,_,_,rfl,h.ip,T.cl_Sheet,T.n_Sheet_card_by_judge,rfl,d,_,rfl,zev.k (k:=Sum.inr (S.panel.getD i "")) h.i4,_,rfl,?_⟩
   have hv:(zaW kvs (Sum.inr (S.panel.getD i ""))).isSome=(S.card (S.panel.getD i "")).isSome:=by
    cases e:S.card (S.panel.getD i "")with
    | none=>rw[h.cn _ e];rfl
    | some c=>obtain⟨l,e1,_⟩:=h.cs _ _ e;rw[e1];rfl
   rw[hv]
   refine zhC (fun hb=>?_) (fun hb=>?_)
   ·refine⟨_,rfl,rfl,?_⟩
    rw[yg hi,filter_append,filter_cons,if_pos hb,map_append]
    rfl
   ·refine⟨rfl,?_⟩
    rw[yg hi,filter_append,filter_cons,if_neg (by rw[hb];exact Bool.false_ne_true)]
    simp
  ·rintro ys H2 ⟨rfl,rfl⟩ l hl
   rw[length_map,take_length]
   exact q l _ (zi.new hl) hl ze
def zci(K:Frag):Sp:=fun vs H Q _=>∃(a b:Addr)(ns ms:List Int),vs=[.ref a,.ref b]∧SqL K H a (ns.map V.int)∧SqL K H b (ms.map V.int)∧ns.length<64∧ms.length<64∧∀H',zi H H'→Q (.bl (decide (ns.Perm ms))) H'
theorem zih{ns ms ns' ms':List Int}(h1:ns'.Perm ns)(h2:ns'.Pairwise (·≤ ·))(h3:ms'.Perm ms)(h4:ms'.Pairwise (·≤ ·)):decide (ns'=ms')=decide (ns.Perm ms):=by
 by_cases h:ns.Perm ms
 ·rw[decide_eq_true h]
  exact decide_eq_true (List.Perm.eq_of_pairwise (fun a b _ _ x y=>Int.le_antisymm x y) h2 h4 (h1.trans (h.trans h3.symm)))
 ·rw[decide_eq_false h]
  refine decide_eq_false fun e=>h ?_
  subst e
  exact h1.symm.trans h3
theorem zgm{f:Addr}{fd:FuncData}(F:Fun K "whole_card" "whole_card" wW f fd)(T:Txt K mg):FnOk P w K mg base CX0 1 f fd ["card","couples"] (zci K):=by
 refine F.ok zgs (fun vs H Q E h=>?_) (fun cdv A outer s H vs Q E hr h=>?_)
 ·obtain⟨a,b,ns,ms,rfl,_⟩:=h
  rfl
 ·obtain⟨a,b,ns,ms,rfl,hA,hB,hz1,hz2,q⟩:=h
  refine⟨_,(zf (zn (zcV (zdU hr.units0) (zk zdy (by rfl) T.b_sorted PyProof.Rows.boot_sorted (za (pv 0) zb)) (zk zdy (by rfl) T.b_sorted PyProof.Rows.boot_sorted (za (pv 1) zb)) (zt _)))),?_⟩
  refine⟨_,rfl,a,ns,rfl,hA,hz1,fun l1 ns' hl1 p1 w1=>?_⟩
  refine⟨_,rfl,b,ms,rfl,(zi.new hl1).seq hB,hz2,fun l2 ms' hl2 p2 w2=>?_⟩
  refine⟨l1,l2,_,_,rfl,rfl,(zi.new hl2).seq SqL.new,SqL.new,zG _,zG _,?_⟩
  rw[yM,zih p1 w1 p2 w2]
  exact q _ ((zi.new hl1).newT hl2)
def zdT(K:Frag):Sp:=fun vs H Q _=>∃(a:Addr)(ns:List Int)(c:Int),vs=[.ref a,.int c]∧SqL K H a (ns.map V.int)∧c∈ns∧Q (.int ((ns.idxOf c:Nat)+1)) H
theorem ok_mark_on{f:Addr}{fd:FuncData}(F:Fun K "mark_on" "mark_on" zbJ f fd)(T:Txt K mg):FnOk P w K mg base CX0 1 f fd ["card","couple"] (zdT K):=by
 refine F.ok sc_mark_on (fun vs H Q E h=>?_) (fun cdv A outer s H vs Q E hr h=>?_)
 ·obtain⟨a,ns,c,rfl,_⟩:=h
  rfl
 ·obtain⟨a,ns,c,rfl,hS,hc,q⟩:=h
  refine⟨_,(zf (zn (zv zZ (zaw PySem.F.plainAttrs_list PySem.F.slot_list_index PySem.F.type_list_index zdv (pv 0) (za (pv 1) zb)) zj))),?_⟩
  refine⟨_,rfl,.inl ⟨rfl,_,hS⟩,_,rfl,a,_,_,rfl,rfl,hS,rfl,zG _,?_,_,_,rfl,rfl,?_⟩
  ·rw[zaN,length_map];exact List.idxOf_lt_length_iff.mpr hc
  ·rw[zaN];exact q
def zaJ(K:Frag):Sp:=fun vs H Q _=>∃(a:Addr)(ns:List Int)(c:Int),vs=[.ref a,.int c]∧SqL K H a (ns.map V.int)∧ns.length≤1000∧∀l H',zi H H'→H l=none→H' l=some (.lst ((ns.filter fun o => !decide (o=c)).map V.int))→Q (.ref l) H'
theorem zd9{f:Addr}{fd:FuncData}(F:Fun K "without_couple" "without_couple" yl f fd)(T:Txt K mg):FnOk P w K mg base CX0 1 f fd ["card","couple"] (zaJ K):=by
 refine F.ok zd6 (fun vs H Q E h=>?_) (fun cdv A outer s H vs Q E hr h=>?_)
 ·obtain⟨a,ns,c,rfl,_⟩:=h
  rfl
 ·obtain⟨a,ns,c,rfl,hS,hz,q⟩:=h
  refine⟨_,(zf (zn (zN (show CompScope (zc yl) ["card","couple"] "other" ["couple"] [1] _ from⟨rfl,by decide +kernel,by decide +kernel,rfl,by decide +kernel,rfl,by decide +kernel,by decide +kernel⟩) rfl (zE (pv 0)) (fun _ _ _ _ _=>(yS (zp yK (pv 0) (pv 1) (zt _)))) (fun _ _ _ _ _=>(pv 0))))),?_⟩
  refine⟨_,rfl,a,rfl,⟨_,hS⟩,?_⟩
  refine yG (xs:=ns.map V.int) (fun i ys H2=>H2=H∧ys=((ns.take i).filter fun o => !decide (o=c)).map V.int) ⟨rfl,rfl⟩ ?_ (by rw[length_map];exact le_trans hz (le_trans (by decide) zx)) ?_ ?_
  ·rintro i ys H2 hi ⟨rfl,rfl⟩
   refine⟨hS,?_⟩
   rw[length_map]
   exact le_trans (length_filter_le _ _) (by rw[length_take];omega)
  ·rintro i x ys H2 hx ⟨rfl,rfl⟩
   obtain⟨hi,rfl⟩:=zam hx
   refine⟨_,rfl,_,rfl,rfl,_,rfl,yk (fun hne=>?_) (fun he=>?_)⟩
   ·refine⟨_,rfl,rfl,?_⟩
    have:¬ns.getD i 0=c:=fun e=>hne (by rw[e])
    rw[wB hi,filter_append,filter_cons_of_pos (by show(!decide (ns.getD i 0=c))=true;rw[decide_eq_false this];rfl),map_append]
    rfl
   ·refine⟨rfl,?_⟩
    have:ns.getD i 0=c:=by injection he
    rw[wB hi,filter_append,filter_cons_of_neg (by show ¬(!decide (ns.getD i 0=c))=true;rw[decide_eq_true this];decide),map_append]
    simp
  ·rintro ys H2 ⟨rfl,rfl⟩ l hl
   rw[length_map,take_length]
   exact q l _ (zi.new hl) hl ze
def zeE(K:Frag):Sp:=fun vs H Q E=>∃(a:Addr)(ns:List Int)(i:Nat),vs=[.ref a,.int (ns.getD i 0)]∧SqL K H a (ns.map V.int)∧ns.Nodup∧i<ns.length∧ns.length≤1000∧(∀n∈ns,1≤n∧n≤999) ∧
 (i=0→∀C,zb4 K "AtTop" C→E (.ref C) none H)∧(0<i→∀l H',zi H H'→H l=none→H' l=some (.lst ((ns.take (i-1)++[ns.getD i 0,ns.getD (i-1) 0]++ns.drop (i+1)).map V.int))→Q (.ref l) H')
theorem ok_one_up{f:Addr}{fd:FuncData}(F:Fun K "one_up" "one_up" zcu f fd)(T:Txt K mg):FnOk P w K mg base (CX1 P w) 1 f fd ["card","couple"] (zeE K):=by
 obtain⟨c_AtTop,n_AtTop,m_AtTop,x_AtTop⟩:=T.x_AtTop
 refine F.okX zeC (fun vs H Q E h=>?_) (fun X W cdv A outer s H vs Q E hX hW fl md hr h=>?_)
 ·obtain⟨a,ns,i,rfl,_⟩:=h
  rfl
 ·obtain⟨a,ns,i,rfl,hS,hn,hi,hz,hrg,qE,qQ⟩:=h
  subst hX
  refine⟨_,(zd (zz (i:=2) zeC.nd rfl (Or.inl rfl) (zaw PySem.F.plainAttrs_list PySem.F.slot_list_index PySem.F.type_list_index zdv (pv 0) (za (pv 1) zb)))
   (zd (zD (zp zbO (pv 2) zj (zt _)) (zf (zaf rfl md rfl m_AtTop x_AtTop (za (pe_fstr (zdE yd (zdE (pe_fmt (pv 1)) (zdE yd pj_nil)))) zb))) zu)
   (zd (zz (i:=3) zeC.nd rfl (Or.inl rfl) (zA zy (pv 0) (zv za3 (pv 2) zj) (fun _ _=>rfl)))
   (zf (zn (zv wD (zv wD (yC zac (pv 0) wE (yZ (zv za3 (pv 2) zj))) (zO (za (pv 1) (za (pv 3) zb)))) (yC zac (pv 0) (yZ (zv zZ (pv 2) zj)) wE))))))),?_⟩
  have hix:ns.idxOf (ns.getD i 0)=i:=by rw[zdA hi];exact hn.idxOf_getElem i hi
  have hl:=zx
  have hlog:(ns.getD i 0).natAbs.log2<1920:=by
   have:=hrg _ (zdB hi)
   exact(Nat.log2_lt (by omega)).mpr (lt_of_lt_of_le (show(ns.getD i 0).natAbs<2 ^ 10 by omega) (Nat.pow_le_pow_right (by decide) (by decide)))
  refine⟨_,rfl,.inl ⟨rfl,_,hS⟩,_,rfl,a,_,_,rfl,rfl,hS,rfl,zG _,by rw[zaN,hix,length_map];exact hi,?_⟩
  rw[zaN,hix]
  refine⟨_,rfl,rfl,_,rfl,wv (fun h0=>?_) (fun h0=>?_)⟩
  ·have h0:i=0:=by injection h0 with h0;omega
   have hL:=PyProof.Rows.int_text_len_1921 hlog
   have l1:(Str.empty++Str.ofString "couple ").length≤0+7:=zhn (by decide) (by decide)
   have l2:=zhn l1 hL
   have l3:=zhn l2 (show(Str.ofString " is the first one on the card").length≤29 by decide)
   exact⟨_,rfl,le_trans l1 (by decide),_,rfl,.inl ⟨_,rfl,hlog,_,rfl,le_trans l2 (by decide),_,rfl,le_trans l3 (by decide),le_trans l3 (by decide),(by show 1≤sizeLine;decide),by rw[hW];exact qE h0 _ n_AtTop⟩⟩
  ·have h0:0<i:=Nat.pos_of_ne_zero fun z=>h0 (by rw[z];rfl)
   refine⟨_,rfl,_,rfl,_,_,rfl,rfl,a,_,_,_,rfl,rfl,hS,zct (by omega) (by omega),?_⟩
   refine⟨_,rfl,_,rfl,_,_,rfl,rfl,_,rfl,a,_,rfl,hS,fun l1 hl1=>?_⟩
   rw[zez (by omega),show((i:Int)-1).toNat=i-1 by omega]
   refine⟨_,rfl,_,rfl,(by show 2≤sizeLine;decide),fun l2 hl2=>?_⟩
   have s1:=zi.new (o:=.lst ((ns.take (i-1)).map V.int)) hl1
   have s2:=s1.newT (o:=.lst ([ns.getD i 0,ns.getD (i-1) 0].map V.int)) hl2
   have n12:l1≠l2:=zr ze hl2
   refine⟨l1,l2,_,[ns.getD i 0,ns.getD (i-1) 0].map V.int,rfl,rfl,by rw[zl n12];exact ze,ze,by simp only[length_map,length_take,length_cons,length_nil];omega,fun l3 hl3=>?_⟩
   rw[←map_append]
   have s3:=s2.newT (o:=.lst ((ns.take (i-1)++[ns.getD i 0,ns.getD (i-1) 0]).map V.int)) hl3
   refine⟨_,rfl,_,rfl,_,_,rfl,rfl,_,rfl,a,_,rfl,s3.seq hS,fun l4 hl4=>?_⟩
   rw[zdD (by omega),show((i:Int)+1).toNat=i+1 by omega]
   have s4:=s3.newT (o:=.lst ((ns.drop (i+1)).map V.int)) hl4
   have n34:l3≠l4:=zr ze hl4
   refine⟨l3,l4,_,_,rfl,rfl,by rw[zl n34];exact ze,ze,by simp only[length_map,length_append,length_take,length_drop,length_cons,length_nil];omega,fun l5 hl5=>?_⟩
   rw[←map_append]
   exact qQ h0 l5 _ (s4.newT hl5) (s4.free hl5) ze
def zbU(K:Frag):Sp:=fun vs H Q _=>∃(n:Int),vs=[.int n]∧Q (.bl (decide (1≤n) && decide (n≤999))) H
theorem zf0{f:Addr}{fd:FuncData}(F:Fun K "good_number" "good_number" wC f fd)(T:Txt K mg):FnOk P w K mg base CX0 1 f fd ["couple"] (zbU K):=by
 refine F.ok zfo (fun vs H Q E h=>?_) (fun cdv A outer s H vs Q E hr h=>?_)
 ·obtain⟨n,rfl,_⟩:=h
  rfl
 ·obtain⟨n,rfl,q⟩:=h
  refine⟨_,(zf (zn (zf4 zed zed zj (pv 0) (zdj T.c_MOST_NUMBER rfl)))),?_⟩
  refine⟨_,rfl,_,_,rfl,rfl,_,rfl,wv (fun h1=>?_) (fun h1=>?_)⟩
  ·rw[decide_eq_true h1,Bool.true_and] at q
   exact⟨_,_,rfl,rfl,q⟩
  ·rw[decide_eq_false h1,Bool.false_and] at q
   exact q
def zbo(K:Frag):Sp:=fun vs H Q _=>∃(c:Nat),vs=[.str ⟨#[c]⟩]∧Q (.bl (zdo c)) H
theorem zfe{f:Addr}{fd:FuncData}(F:Fun K "small_letter" "small_letter" y7 f fd)(T:Txt K mg):FnOk P w K mg base CX0 1 f fd ["sign"] (zbo K):=by
 refine F.ok zff (fun vs H Q E h=>?_) (fun cdv A outer s H vs Q E hr h=>?_)
 ·obtain⟨c,rfl,_⟩:=h
  rfl
 ·obtain⟨c,rfl,q⟩:=h
  refine⟨_,(zf (zn (zf4 zgU zgU yd (pv 0) yd))),?_⟩
  unfold zdo at q
  refine⟨_,rfl,_,_,rfl,rfl,_,rfl,?_⟩
  rw[M2.le_a]
  refine wv (fun h1=>?_) (fun h1=>?_)
  ·rw[decide_eq_true h1,Bool.true_and] at q
   refine⟨_,_,rfl,rfl,?_⟩
   rw[M2.le_z]
   exact q
  ·rw[decide_eq_false h1,Bool.false_and] at q
   exact q
def wU(K:Frag):Sp:=fun vs H Q _=>∃(x:V)(n:Nat)(m:Int),vs=[x,.int m]∧LenV K x H n∧Q (.bl (decide (1≤(n:Int)) && decide ((n:Int)≤m))) H
theorem zfF{f:Addr}{fd:FuncData}(F:Fun K "good_length" "good_length" wz f fd)(T:Txt K mg):FnOk P w K mg base CX0 1 f fd ["things","most"] (wU K):=by
 refine F.ok zfX (fun vs H Q E h=>?_) (fun cdv A outer s H vs Q E hr h=>?_)
 ·obtain⟨x,n,m,rfl,_⟩:=h
  rfl
 ·obtain⟨x,n,m,rfl,hx,q⟩:=h
  refine⟨_,(zf (zn (zf4 zed zed zj (zk call_len (by rfl) T.b_len PySem.boot_len (za (pv 0) zb)) (pv 1)))),?_⟩
  refine⟨_,rfl,x,n,rfl,hx,_,_,rfl,rfl,_,rfl,wv (fun h1=>?_) (fun h1=>?_)⟩
  ·rw[decide_eq_true h1,Bool.true_and] at q
   exact⟨_,rfl,_,_,rfl,rfl,q⟩
  ·rw[decide_eq_false h1,Bool.false_and] at q
   exact q
def zbe(K:Frag):Sp:=fun vs H Q _=>∃a:Addr,vs=[.ref a]∧((∃ns:List Int,SqL K H a (ns.map V.int)∧ns.length<4000∧∀H',zi H H'→Q (.bl (decide ns.Nodup)) H')∨∃ts:List Str,SqL K H a (ts.map V.str)∧ts.length<4000∧Q (.bl (decide ts.Nodup)) H)
theorem zgb{f:Addr}{fd:FuncData}(F:Fun K "all_unlike" "all_unlike" zab f fd)(T:Txt K mg):FnOk P w K mg base CX0 1 f fd ["things"] (zbe K):=by
 refine F.ok zgf (fun vs H Q E h=>?_) (fun cdv A outer s H vs Q E hr h=>?_)
 ·obtain⟨a,rfl,_⟩:=h
  rfl
 ·obtain⟨a,rfl,h⟩:=h
  refine⟨_,(zf (zn (zcV zbO (pe_both (zk call_len_set (by rfl) T.b_len PySem.boot_len (za (yb (zhr rfl) (by rfl) T.b_set boot_set (za (pv 0) zb)) zb)) (pe_lensetS rfl (by rfl) T.b_len (by rfl) T.b_set (pv 0))) (zk zg (by rfl) T.b_len PySem.boot_len (za (pv 0) zb)) (zt _)))),?_⟩
  rcases h with⟨ns,hS,hz,q⟩|⟨ts,hS,hz,q⟩
  ·refine .inl ⟨_,rfl,a,ns,rfl,hS,hz,fun l hl=>?_⟩
   refine⟨l,_,_,rfl,ze,_,rfl,a,_,rfl,.inl ((zi.new hl).seq hS),rfl,?_⟩
   have e:decide (V.int ((PyProof.Rows.firstMet (fun i=>ns.getD i 0) ns.length).length:Int)=V.int ((ns.map V.int).length:Int))=decide ns.Nodup:=by
    rw[length_map]
    by_cases h:ns.Nodup
    ·rw[decide_eq_true h,(ziV ns).mpr h];exact decide_eq_true rfl
    ·rw[decide_eq_false h]
     refine decide_eq_false fun z=>h ((ziV ns).mp ?_)
     injection z with z
     exact Int.ofNat.inj z
   rw[e]
   exact q _ (zi.new hl)
  ·refine .inr ⟨_,rfl,a,ts,rfl,hS,hz,?_⟩
   refine⟨_,rfl,a,_,rfl,.inl hS,rfl,?_⟩
   have e:decide (V.int ((met (fun i=>ts.getD i "") ts.length).length:Int)=V.int ((ts.map V.str).length:Int))=decide ts.Nodup:=by
    rw[length_map]
    by_cases h:ts.Nodup
    ·rw[decide_eq_true h,(ziq ts "").mpr h];exact decide_eq_true rfl
    ·rw[decide_eq_false h]
     refine decide_eq_false fun z=>h ((ziq ts "").mp ?_)
     injection z with z
     exact Int.ofNat.inj z
   rw[e]
   exact q
def zbY(K:Frag):Sp:=fun vs H Q _=>∃(n:Int),vs=[.int n]∧Q (.int (n/2+1)) H
theorem zfH{f:Addr}{fd:FuncData}(F:Fun K "majority_of" "majority_of" wy f fd)(T:Txt K mg):FnOk P w K mg base CX0 1 f fd ["many"] (zbY K):=by
 refine F.ok zfr (fun vs H Q E h=>?_) (fun cdv A outer s H vs Q E hr h=>?_)
 ·obtain⟨n,rfl,_⟩:=h
  rfl
 ·obtain⟨n,rfl,q⟩:=h
  refine⟨_,(zf (zn (zv zZ (zv zca (pv 0) zj) zj))),?_⟩
  exact⟨_,rfl,_,_,rfl,rfl,⟨by decide,by decide⟩,_,_,rfl,rfl,q⟩
def zb8(K:Frag):Sp:=fun vs H Q _=>∃(a:Addr)(ms:List Int)(n:Int),vs=[.ref a,.int n]∧SqL K H a (ms.map V.int)∧ms.length≤1000∧∀(l:Addr)(H':Hp),zi H H'→H l=none→H' l=some (.lst ((M3.got ms n).map V.int))→Q (.ref l) H'
theorem zh4{f:Addr}{fd:FuncData}(F:Fun K "granting" "granting" zaq f fd)(T:Txt K mg):FnOk P w K mg base CX0 1 f fd ["marks","number"] (zb8 K):=by
 refine F.ok zh8 (fun vs H Q E h=>?_) (fun cdv A outer s H vs Q E hr h=>?_)
 ·obtain⟨a,ms,n,rfl,_⟩:=h
  rfl
 ·obtain⟨a,ms,n,rfl,hS,hz,q⟩:=h
  refine⟨_,(zf (zn (zN (show CompScope (zc zaq) ["marks","number"] "mark" ["number"] [1] _ from⟨rfl,by decide +kernel,by decide +kernel,rfl,by decide +kernel,rfl,by decide +kernel,by decide +kernel⟩) rfl (zE (pv 0)) (fun _ _ _ _ _=>(yS (zp zed (pv 0) (pv 1) (zt _)))) (fun _ _ _ _ _=>(pv 0))))),?_⟩
  refine⟨_,rfl,a,rfl,⟨_,hS⟩,?_⟩
  refine yG (xs:=ms.map V.int) (fun i ys H2=>H2=H∧ys=(M3.got (ms.take i) n).map V.int) ⟨rfl,rfl⟩ ?_ (by rw[length_map];have:=zx;omega) ?_ ?_
  ·rintro i ys H2 hi ⟨rfl,rfl⟩
   refine⟨hS,?_⟩
   rw[length_map]
   have:=M3.zcQ (ms.take i) n
   unfold M3.cnt at this
   rw[length_take] at this
   omega
  ·rintro i x ys H2 hx ⟨rfl,rfl⟩
   obtain⟨hi,rfl⟩:=zam hx
   refine⟨_,rfl,_,rfl,_,_,rfl,rfl,_,rfl,wv (fun h=>?_) (fun h=>?_)⟩
   ·refine⟨_,rfl,rfl,?_⟩
    rw[M3.zeh n hi,if_pos h,map_append]
    rfl
   ·refine⟨rfl,?_⟩
    rw[M3.zeh n hi,if_neg h]
  ·rintro ys H2 ⟨rfl,rfl⟩ l hl
   rw[length_map,take_length]
   exact q l _ (zi.new hl) hl ze
def zad(K:Frag):Sp:=fun vs H Q _=>∃x b1 b2,vs=[x]∧isInt x=some b1∧isBool x=some b2∧Q (.bl (b1 && !b2)) H
theorem zhz{f:Addr}{fd:FuncData}(F:Fun K "_law_whole" "_law_whole" zaE f fd)(T:Txt K mg):FnOk P w K mg base CX0 1 f fd ["_law_found"] (zad K):=by
 refine F.ok zhj (fun vs H Q E h=>?_) (fun cdv A outer s H vs Q E hr h=>?_)
 ·obtain⟨x,b1,b2,rfl,_⟩:=h
  rfl
 ·obtain⟨x,b1,b2,rfl,h1,h2,k⟩:=h
  refine⟨_,(zf (zn (zes (zk zhw (by rfl) T.b_isinstance boot_isinstance (za (pv 0) (za (zap (v:=V.ty "int") rfl T.b_int boot_int rfl) zb))) (zhq (pe_not (zk zgh (by rfl) T.b_isinstance boot_isinstance (za (pv 0) (za (zap (v:=V.ty "bool") rfl T.b_bool boot_bool rfl) zb)))))))),?_⟩
  refine⟨_,rfl,x,b1,rfl,h1,_,rfl,?_⟩
  cases b1 with
  | false=>exact wF k
  | true=>exact iteT ⟨_,rfl,x,b2,rfl,h2,_,rfl,k⟩
def zdC(K:Frag):Sp:=fun vs H Q _=>∃(a:Addr)(ns:List Int)(k:Int),vs=[.ref a,.int k]∧SqL K H a (ns.map V.int)∧0≤k∧Q (.int (ns.getD k.toNat 0)) H
theorem ok_law_at{f:Addr}{fd:FuncData}(F:Fun K "_law_at" "_law_at" zcq f fd)(T:Txt K mg):FnOk P w K mg base CX0 1 f fd ["_law_script","_law_k"] (zdC K):=by
 refine F.ok sc_law_at (fun vs H Q E h=>?_) (fun cdv A outer s H vs Q E hr h=>?_)
 ·obtain⟨a,ns,k,rfl,_⟩:=h
  rfl
 ·obtain⟨a,ns,k,rfl,hS,h0,q⟩:=h
  refine⟨_,(zd (zD (zp ze3 (pv 1) (zk zg (by rfl) T.b_len PySem.boot_len (za (pv 0) zb)) (zt _)) (zf (zn (zA zy (pv 0) (pv 1) (fun _ _=>rfl)))) zu)
   (zf (zn zj))),?_⟩
  refine⟨_,rfl,_,rfl,a,_,rfl,.inl hS,_,_,rfl,rfl,_,rfl,wv (fun hk=>?_) (fun hk=>?_)⟩
  ·rw[length_map] at hk
   exact⟨_,rfl,_,rfl,a,_,k,_,rfl,rfl,hS,zct h0 hk,q⟩
  ·rw[length_map] at hk
   show Q (.int 0) H
   rw[getD_eq_getElem?_getD,List.getElem?_eq_none (by omega)] at q
   exact q
def zcO(K:Frag):Sp:=fun vs H Q _=>∃(a b:Addr)(ts us:List Str),vs=[.ref a,.ref b]∧SqL K H a (ts.map V.str)∧SqL K H b (us.map V.str)∧us.length≤1000000∧Q (.bl (decide (ts=us))) H
theorem texts_all{ts us:List Str}(hl:ts.length=us.length)(h:∀j,j<us.length→ts.getD j ""=us.getD j ""):ts=us:=by
 refine ext_getElem hl fun j h1 h2=>?_
 have:=h j h2
 rwa [getD_eq_getElem?_getD,getD_eq_getElem?_getD,getElem?_eq_getElem h1,getElem?_eq_getElem h2] at this
theorem zhi{f:Addr}{fd:FuncData}(F:Fun K "_law_texts" "_law_texts" zax f fd)(T:Txt K mg):FnOk P w K mg base CX0 1 f fd ["_law_found","_law_due"] (zcO K):=by
 refine F.ok zd5 (fun vs H Q E h=>?_) (fun cdv A outer s H vs Q E hr h=>?_)
 ·obtain⟨a,b,ts,us,rfl,_⟩:=h
  rfl
 ·obtain⟨a,b,ts,us,rfl,hA,hB,hz,q⟩:=h
  refine⟨_,(zd (zD (PW.pt (zbv (ye (ya (zk zai (by rfl) T.b_isinstance boot_isinstance (za (pv 0) (za (zap (v:=V.ty "list") rfl T.b_list boot_list rfl) zb))))) (zas (zp yK (zk zg (by rfl) T.b_len PySem.boot_len (za (pv 0) zb)) (zk zg (by rfl) T.b_len PySem.boot_len (za (pv 1) zb)) (zt _))))) (zf (zn yq)) zu)
   (zd (yT PassesOwn.never rfl (ym rfl T.b_range (za (zk zg (by rfl) T.b_len PySem.boot_len (za (pv 1) zb)) zb)) (zV (i:=2) zd5.nd rfl (Or.inl rfl))
     (zf (zD (PW.pt (zbv (ye (ya (zk zeg (by rfl) T.b_isinstance boot_isinstance (za (zA zy (pv 0) (pv 2) (fun _ _=>rfl)) (za (zap (v:=V.ty "str") rfl T.b_str boot_str rfl) zb))))) (zas (zp yK (zA zy (pv 0) (pv 2) (fun _ _=>rfl)) (zA zy (pv 1) (pv 2) (fun _ _=>rfl)) (zt _))))) (zf (zn yq)) zu)))
   (zf (zn yq)))),?_⟩
  refine⟨_,rfl,_,_,rfl,.yes hA,_,rfl,wF ?_⟩
  refine⟨_,rfl,a,_,rfl,.inl hA,_,rfl,b,_,rfl,.inl hB,rfl,_,rfl,?_⟩
  rw[length_map,length_map]
  refine yk (fun hne=>?_) (fun he=>?_)
  ·show Q (.bl false) H
   have:ts≠us:=fun e=>hne (by rw[e])
   rw[decide_eq_false this] at q
   exact q
  ·have hl:ts.length=us.length:=by injection he with he;exact Int.ofNat.inj he
   refine⟨_,rfl,b,_,rfl,.inl hB,_,rfl,by omega,by rw[length_map];omega,?_⟩
   rw[length_map]
   refine zX (fun i σ H2=>∃v,σ=[some (.ref a),some (.ref b),v]∧H2=H∧∀j,j<i→ts.getD j ""=us.getD j "") ⟨_,rfl,rfl,fun j hj=>by omega⟩ ?_ ?_
   ·rintro i σ H2 hi ⟨v,rfl,rfl,hj⟩
    have hi':i<us.length:=by simpa using hi
    have e1:atI (ts.map V.str) (0+(i:Int))=some (.str (ts.getD i "")):=by rw[Int.zero_add];exact zP (zfj (by omega))
    have e2:atI (us.map V.str) (0+(i:Int))=some (.str (us.getD i "")):=by rw[Int.zero_add];exact zP (zfj hi')
    refine⟨_,rfl,_,rfl,a,_,_,_,rfl,rfl,hA,e1,_,_,rfl,rfl,_,rfl,wF ?_⟩
    refine⟨_,rfl,_,rfl,a,_,_,_,rfl,rfl,hA,e1,_,rfl,_,rfl,b,_,_,_,rfl,rfl,hB,e2,rfl,_,rfl,yk (fun hne=>?_) (fun he=>?_)⟩
    ·show Q (.bl false) _
     have:ts≠us:=fun e=>hne (by rw[e])
     rw[decide_eq_false this] at q
     exact q
    ·refine⟨_,rfl,rfl,fun j hj'=>?_⟩
     by_cases hji:j=i
     ·subst hji;injection he
     ·exact hj j (by omega)
   ·rintro σ H2 ⟨v,rfl,rfl,hj⟩
    show Q (.bl true) _
    have:ts=us:=texts_all hl fun j h=>hj j (by simpa using h)
    rw[decide_eq_true this] at q
    exact q
def mixZ(c p:Int):Int:=(c*48271%2147483647+p+1)*69621%2147483647
def zdO(K:Frag):Sp:=fun vs H Q _=>∃c p,vs=[.int c,.int p]∧Q (.int (mixZ c p)) H
theorem ok_law_mix{f:Addr}{fd:FuncData}(F:Fun K "_law_mix" "_law_mix" zbH f fd)(T:Txt K mg):FnOk P w K mg base CX0 1 f fd ["_law_cell","_law_place"] (zdO K):=by
 refine F.ok zft (fun vs H Q E h=>?_) (fun cdv A outer s H vs Q E hr h=>?_)
 ·obtain⟨c,p,rfl,_⟩:=h
  rfl
 ·obtain⟨c,p,rfl,q⟩:=h
  refine⟨_,(zd (zz (i:=2) zft.nd rfl (Or.inl rfl) (zv yV (zv zcT (pv 0) zj) zj))
   (zf (zn (zv yV (zv zcT (zv zZ (zv zZ (pv 2) (pv 1)) zj) zj) zj)))),?_⟩
  refine⟨_,rfl,_,_,rfl,rfl,.inr ⟨by decide,by decide⟩,_,_,rfl,rfl,(by show(0:Int)<2147483647;decide),?_⟩
  exact⟨_,rfl,_,rfl,_,_,rfl,rfl,_,_,rfl,rfl,_,_,rfl,rfl,.inr ⟨by decide,by decide⟩,_,_,rfl,rfl,(by show(0:Int)<2147483647;decide),q⟩
def zdt(K:Frag):Sp:=fun vs H Q _=>∃(md c a b d:Int),vs=[.int md,.int c,.int a,.int b,.int d]∧a≤b∧b≤d∧∀r:Int,a≤r→r≤d→Q (.int r) H
theorem ziG{f:Addr}{fd:FuncData}(F:Fun K "_law_many" "_law_many" zaT f fd)(T:Txt K mg):FnOk P w K mg base CX0 1 f fd ["_law_mode","_law_cell","_law_least","_law_few","_law_most"] (zdt K):=by
 refine F.ok zif (fun vs H Q E h=>?_) (fun cdv A outer s H vs Q E hr h=>?_)
 ·obtain⟨md,c,a,b,d,rfl,_⟩:=h
  rfl
 ·obtain⟨md,c,a,b,d,rfl,h1,h2,q⟩:=h
  refine⟨_,(zd (zD (zp zbO (pv 0) zj (zt _)) (zf (zn (pv 4))) zu)
   (zd (zD (zp zbO (pv 0) zj (zt _)) (zf (zn (zv zZ (pv 2) (zv yV (pv 1) (zv za3 (zv zZ (pv 4) zj) (pv 2)))))) zu)
   (zf (zn (zv zZ (pv 2) (zv yV (pv 1) (zv za3 (zv zZ (pv 3) zj) (pv 2)))))))),?_⟩
  have e1:=Int.emod_nonneg c (show d+1-a≠0 by omega)
  have e2:=Int.emod_lt_of_pos c (show 0<d+1-a by omega)
  have e3:=Int.emod_nonneg c (show b+1-a≠0 by omega)
  have e4:=Int.emod_lt_of_pos c (show 0<b+1-a by omega)
  refine⟨_,rfl,rfl,_,rfl,wv (fun _=>⟨_,rfl,q d (by omega) (by omega)⟩) (fun _=>?_)⟩
  refine⟨_,rfl,rfl,_,rfl,wv (fun _=>?_) (fun _=>?_)⟩
  ·exact⟨_,rfl,_,rfl,_,rfl,_,_,rfl,rfl,_,rfl,_,_,rfl,rfl,_,_,rfl,rfl,(by show 0<d+1-a;omega),_,_,rfl,rfl,q _ (by omega) (by omega)⟩
  ·exact⟨_,rfl,_,rfl,_,rfl,_,_,rfl,rfl,_,rfl,_,_,rfl,rfl,_,_,rfl,rfl,(by show 0<b+1-a;omega),_,_,rfl,rfl,q _ (by omega) (by omega)⟩
def zbX(K:Frag):Sp:=fun vs H Q _=>∃c m,vs=[.int c,.int m]∧0≤m∧m≤1000∧∀l H',zi H H'→H l=none→H' l=some (.lst ((M1.couples c m.toNat).map V.int))→Q (.ref l) H'
theorem zfQ{f:Addr}{fd:FuncData}(F:Fun K "_law_couples" "_law_couples" yP f fd)(T:Txt K mg):FnOk P w K mg base CX0 1 f fd ["_law_cell","_law_many_here"] (zbX K):=by
 refine F.ok zdr (fun vs H Q E h=>?_) (fun cdv A outer s H vs Q E hr h=>?_)
 ·obtain⟨c,m,rfl,_⟩:=h
  rfl
 ·obtain⟨c,m,rfl,h0,h1,q⟩:=h
  refine⟨_,(zd (zz (i:=2) zdr.nd rfl (Or.inr rfl) (zA zy (zO (za zj (za zj (za zj (za zj zb))))) (zv yV (pv 0) zj) (fun _ _=>rfl)))
   (zf (zn (zN (show CompScope (zc yP) ["_law_cell","_law_many_here","_law_gap"] "_law_k" ["_law_cell","_law_gap"] [0,2] _ from⟨rfl,by decide +kernel,by decide +kernel,rfl,by decide +kernel,rfl,by decide +kernel,by decide +kernel⟩) rfl (ym rfl T.b_range (za (pv 1) zb)) (fun _ _ _ _ _=>yw) (fun _ _ _ _ _=>(zv zZ (zv yV (zv zZ (zv zca (pv 1) zj) (zv zcT (pv 0) (pv 2))) zj) zj)))))),?_⟩
  refine⟨by decide,fun p hp=>?_⟩
  have g4:0≤c%4∧c%4<4:=⟨Int.emod_nonneg _ (by decide),Int.emod_lt_of_pos _ (by decide)⟩
  have eg:atI [V.int 1,V.int 7,V.int 500,V.int 998] (c%4)=some (.int (M1.gap c)):=by
   have h:c%4=0∨c%4=1∨c%4=2∨c%4=3:=by omega
   unfold M1.gap
   rcases h with h | h | h | h <;> rw[h] <;> rfl
  refine⟨_,rfl,_,_,rfl,rfl,(by show(0:Int)<4;decide),p,_,_,_,rfl,rfl,SqL.new,eg,?_⟩
  refine⟨_,rfl,m,rfl,by omega,by omega,?_⟩
  refine zdx (fun i ys H2=>H2=upd H p (.lst [V.int 1,V.int 7,V.int 500,V.int 998])∧ys=(M1.couples c i).map V.int) ⟨rfl,rfl⟩ ?_ (le_trans (by omega) zx) ?_ ?_
  ·rintro i ys H2 hi ⟨_,rfl⟩
   rw[length_map,M1.zeU]
   exact le_refl _
  ·rintro i ys H2 hi ⟨rfl,rfl⟩
   refine⟨_,rfl,_,_,rfl,rfl,⟨by decide,by decide⟩,_,rfl,_,rfl,_,_,rfl,rfl,.inl ⟨by omega,by omega⟩,_,_,rfl,rfl,_,_,rfl,rfl,(by show(0:Int)<999;decide),_,_,rfl,rfl,rfl,?_⟩
   rw[M1.zhg,map_append,Int.zero_add]
   rfl
  ·rintro ys H2 ⟨rfl,rfl⟩ l hl
   exact q l _ ((zi.new hp).newT hl) (zi.free (zi.new hp) hl) ze
def zcm(K:Frag):Sp:=fun vs H Q _=>∃(c m:Int),vs=[.int c,.int m]∧0≤m∧m≤15∧∀(l:Addr)(H':Hp)(ts:List Str),zi H H'→H l=none→H' l=some (.lst (ts.map V.str))→ts.length=m.toNat→ts.Nodup→(∀z∈ts,M2.zeZ z=true)→Q (.ref l) H'
theorem abc_at{i:Int}(h0:0≤i)(h1:i<26):atI abc.cps.toList i=some (97+i.toNat):=by
 have:∀k:Fin 26,abc.cps.toList[k.val]? = some (97+k.val):=by decide +kernel
 have:=zP (this ⟨i.toNat,by omega⟩)
 rwa [show((i.toNat:Nat):Int)=i by omega] at this
theorem zga{f:Addr}{fd:FuncData}(F:Fun K "_law_judges" "_law_judges" wp f fd)(T:Txt K mg):FnOk P w K mg base CX0 1 f fd ["_law_cell","_law_many_here"] (zcm K):=by
 refine F.ok zaj (fun vs H Q E h=>?_) (fun cdv A outer s H vs Q E hr h=>?_)
 ·obtain⟨c,m,rfl,_⟩:=h
  rfl
 ·obtain⟨c,m,rfl,m0,m1,q⟩:=h
  refine⟨_,(zd (zz (i:=2) zaj.nd rfl (Or.inr rfl) yd)
   (zd (zz (i:=3) zaj.nd rfl (Or.inl rfl) (zv yV (pv 0) zj))
   (zd (zz (i:=4) zaj.nd rfl (Or.inl rfl) (zv yV (zv zca (pv 0) zj) (zv zZ (pv 3) zj)))
   (zd (zz (i:=5) zaj.nd rfl (Or.inr rfl) (zO (za (yC sl_str yd wE (yZ (pv 4))) (za (yC sl_str yd (yZ (pv 4)) (yZ (pv 3))) zb))))
   (zf (zn (zN (show CompScope (zc wp) ["_law_cell","_law_many_here","_law_letters","_law_size","_law_spot","_law_ends"] "_law_k" ["_law_cell","_law_letters","_law_ends"] [0,2,5] _ from⟨rfl,by decide +kernel,by decide +kernel,rfl,by decide +kernel,rfl,by decide +kernel,by decide +kernel⟩) rfl (ym rfl T.b_range (za (pv 1) zb)) (fun _ _ _ _ _=>yw) (fun _ _ _ _ _=>(zv zcN (zv zcN (zA (zdu (K:=K) rfl) (pv 3) zj (fun _ _=>rfl)) (zA ix_str (pv 2) (zv yV (zv zZ (zv zca (pv 1) zj) (zv zcT zj (pv 0))) zj) (fun _ _=>rfl))) (zA (zdu (K:=K) rfl) (pv 3) zj (fun _ _=>rfl))))))))))),?_⟩
  have hln:=zx
  have z0:0≤c%8:=Int.emod_nonneg _ (by decide)
  have z1:c%8<8:=Int.emod_lt_of_pos _ (by decide)
  refine⟨_,rfl,_,_,rfl,rfl,(by show(0:Int)<8;decide),?_⟩
  dsimp only
  generalize c%8=size at z0 z1 ⊢
  have p0:0≤c/8%(size+1):=Int.emod_nonneg _ (by omega)
  have p1:c/8%(size+1)<size+1:=Int.emod_lt_of_pos _ (by omega)
  refine⟨_,rfl,_,_,rfl,rfl,⟨by decide,by decide⟩,_,rfl,_,_,rfl,rfl,_,_,rfl,rfl,(by show 0<size+1;omega),?_⟩
  dsimp only
  generalize c/8%(size+1)=spot at p0 p1 ⊢
  have he:=M10.ends_ok ⟨size.toNat,by omega⟩ ⟨spot.toNat,by omega⟩ (by show spot.toNat≤size.toNat;omega)
  dsimp only at he
  rw[show((spot.toNat:Nat):Int)=spot by omega,show((size.toNat:Nat):Int)=size by omega] at he
  refine⟨_,rfl,_,rfl,_,rfl,(by show 7≤sizeLine;decide),_,rfl,_,rfl,_,rfl,_,rfl,_,rfl,(by show 7≤sizeLine;decide),(by show 2≤sizeLine;decide),fun p3 hp3=>?_⟩
  generalize PySem.Txt.slice "vwxyzab" none (some spot)=e0 at he ⊢
  generalize PySem.Txt.slice "vwxyzab" (some spot) (some size)=e1 at he ⊢
  obtain⟨hl,h0,h1⟩:=he
  have s3:=zi.new (o:=.lst [.str e0,.str e1]) hp3
  have q3:=SqL.new (K:=K) (H:=H) (l:=p3) (xs:=[.str e0,.str e1])
  generalize hH3:upd H p3 _=H3 at s3 q3 ⊢
  refine⟨_,rfl,m,rfl,by omega,by omega,?_⟩
  refine zdx (fun i ys H4=>H4=H3∧ys=(M10.zcI e0 e1 (c/64) i).map V.str) ⟨rfl,rfl⟩ ?_ (by omega) ?_ ?_
  ·rintro i ys H4 hi ⟨rfl,rfl⟩
   rw[length_map,M10.zf3]
   omega
  ·rintro i ys H4 hi ⟨rfl,rfl⟩
   have i0:=Int.emod_nonneg (c/64+11*(0+(i:Int))) (show(26:Int)≠0 by decide)
   have i1:=Int.emod_lt_of_pos (c/64+11*(0+(i:Int))) (show(0:Int)<26 by decide)
   refine⟨_,rfl,p3,_,_,_,rfl,rfl,q3,rfl,_,rfl,_,rfl,_,_,rfl,rfl,⟨by decide,by decide⟩,_,rfl,_,_,rfl,rfl,.inl ⟨by decide,by decide⟩,_,_,rfl,rfl,_,_,rfl,rfl,(by show(0:Int)<26;decide),abc,_,_,rfl,rfl,(by decide),abc_at i0 i1,_,_,rfl,rfl,(by show e0.length+1≤sizeLine;omega),_,rfl,p3,_,_,_,rfl,rfl,q3,rfl,_,_,rfl,rfl,(by rw[wl];show e0.length+1+e1.length≤sizeLine;omega),rfl,?_⟩
   rw[M10.ziw,map_append,Int.zero_add]
   rfl
  ·rintro ys H4 ⟨rfl,rfl⟩ l hl'
   refine q l _ _ (s3.newT hl') (s3.free hl') ze (M10.zf3 _ _ _ _) (M10.zht _ _ _ (by omega)) fun z hz=>?_
   unfold M10.zcI at hz
   obtain⟨k,_,rfl⟩:=List.mem_map.mp hz
   exact M10.nameK_good _ _ hl h0 h1
def zaI(K:Frag):Sp:=fun vs H Q _=>∃(a:Addr)(cs:List (List Int)) (c:Int),vs=[.ref a,.int c]∧zaQ K (IL K) H a cs∧cs.length≤1000∧(∀d∈cs,c∈d)∧∀(l:Addr)(H':Hp),zi H H'→H l=none→H' l=some (.lst ((M5.zm cs c).map V.int))→Q (.ref l) H'
theorem zhl{f:Addr}{fd:FuncData}(F:Fun K "_law_marks" "_law_marks" wS f fd)(T:Txt K mg):FnOk P w K mg base CX0 1 f fd ["_law_cards","_law_couple"] (zaI K):=by
 refine F.ok zhD (fun vs H Q E h=>?_) (fun cdv A outer s H vs Q E hr h=>?_)
 ·obtain⟨a,cs,c,rfl,_⟩:=h
  rfl
 ·obtain⟨a,cs,c,rfl,⟨ls,hS,hR⟩,hz,hm,q⟩:=h
  refine⟨_,(zf (zn (zN (show CompScope (zc wS) ["_law_cards","_law_couple"] "_law_card_here" ["_law_couple"] [1] _ from⟨rfl,by decide +kernel,by decide +kernel,rfl,by decide +kernel,rfl,by decide +kernel,by decide +kernel⟩) rfl (zE (pv 0)) (fun _ _ _ _ _=>yw) (fun _ _ _ _ _=>(zv zZ (pe_bmK (K:=K) rfl PySem.F.plainAttrs_list PySem.F.slot_list_index PySem.F.type_list_index (zgC (K:=K) rfl) (pv 0) (za (pv 1) zb)) zj))))),?_⟩
  have hl:=hR.length
  refine⟨_,rfl,a,rfl,⟨_,hS⟩,?_⟩
  refine yf (xs:=ls.map V.ref) (fun i ys H2=>H2=H∧ys=(M5.zm (cs.take i) c).map V.int) ⟨rfl,rfl⟩ ?_ (by rw[length_map];have:=zx;omega) ?_ ?_
  ·rintro i ys H2 hi ⟨rfl,rfl⟩
   refine⟨hS,?_⟩
   rw[length_map,M5.zW,length_take]
   omega
  ·rintro i x ys H2 hx ⟨rfl,rfl⟩
   obtain⟨l,el,rfl⟩:=zal hx
   obtain⟨d,ed,rd⟩:=hR.getL el
   have hmem:=hm d (mem_of_getElem? ed)
   refine⟨_,rfl,.inl ⟨rfl,_,rd⟩,_,rfl,l,_,_,rfl,rfl,rd,rfl,zG _,?_⟩
   rw[zaN,length_map]
   refine⟨idxOf_lt_length_of_mem hmem,_,_,rfl,rfl,rfl,?_⟩
   rw[take_succ,ed]
   unfold M5.zm
   rw[map_append,map_append]
   rfl
  ·rintro ys H2 ⟨rfl,rfl⟩ l hl'
   rw[length_map,hl,take_length]
   exact q l _ (zi.new hl') hl' ze
def zdR(K:Frag):Sp:=fun vs H Q _=>∃(a:Addr)(ms:List Int)(n:Int),vs=[.ref a,.int n]∧SqL K H a (ms.map V.int)∧ms.length≤1000∧0≤n∧n≤1000∧∀(l:Addr)(H':Hp),zi H H'→H l=none→H' l=some (.lst ((M5.key ms n.toNat).map V.int))→Q (.ref l) H'
theorem eqL_nil(ns:List Int):eqL (ns.map V.int) []=decide (ns=[]):=by cases ns <;> rfl
theorem ok_law_key{f:Addr}{fd:FuncData}(F:Fun K "_law_key" "_law_key" zaX f fd)(T:Txt K mg):FnOk P w K mg base CX0 1 f fd ["_law_marks_here","_law_last"] (zdR K):=by
 refine F.ok zcF (fun vs H Q E h=>?_) (fun cdv A outer s H vs Q E hr h=>?_)
 ·obtain⟨a,ms,n,rfl,_⟩:=h
  rfl
 ·obtain⟨a,ms,n,rfl,hS,hz,n0,n1,q⟩:=h
  refine⟨_,(zd (zz (i:=2) zcF.nd rfl (Or.inl rfl) (zO zb))
   (zd (yT PassesOwn.never rfl (zba rfl T.b_range (za zj (za (zv zZ (pv 1) zj) zb))) (zV (i:=3) zcF.nd rfl (Or.inr rfl))
     (zd (yU (i:=4) (show CompScope (zc zaX) ["_law_marks_here","_law_last","_law_key_here","_law_number","_law_got"] "_law_mark" ["_law_number"] [3] _ from⟨rfl,by decide +kernel,by decide +kernel,rfl,by decide +kernel,rfl,by decide +kernel,by decide +kernel⟩) rfl zcF.nd rfl (Or.inl rfl) (zE (pv 0)) (fun _ _ _ _ _=>(yS (zp zed (pv 0) (pv 1) (zt _)))) (fun _ _ _ _ _=>(pv 0)))
   (zd (zbM (zD (PW.pt (zdX (zp (zdU hr.units0) (pv 2) (zO zb) (zt _)) (zcU (zp zfl (zv zcT zj (zk zg (by rfl) T.b_len PySem.boot_len (za (pv 4) zb))) (zk zg (by rfl) T.b_len PySem.boot_len (za (pv 0) zb)) (zt _))))) (zf (zY (zaw PySem.F.plainAttrs_list PySem.F.slot_list_append PySem.F.type_list_append yF (pv 2) (za (pv 3) zb)))) zu))
   (zf (zbM (zD (zp (zaU hr.units0) (pv 2) (zO zb) (zt _)) (zd (zY (zaw PySem.F.plainAttrs_list PySem.F.slot_list_append PySem.F.type_list_append yF (pv 2) (za (pe_un un_neg (zk zg (by rfl) T.b_len PySem.boot_len (za (pv 4) zb))) zb)))
   (zf (zY (zaw PySem.F.plainAttrs_list PySem.F.slot_list_append PySem.F.type_list_append yF (pv 2) (za (zk (zde rfl) (by rfl) T.b_sum boot_sum (za (pv 4) zb)) zb))))) zu))))))
   (zf (zn (pv 2))))),?_⟩
  have hln:=zx
  refine⟨by decide,fun p0 hp0=>?_⟩
  refine⟨_,rfl,_,_,rfl,rfl,_,_,rfl,⟨by decide,by decide,by omega,by omega⟩,?_⟩
  refine zX (fun i σ H2=>∃(v3 v4:Option V),σ=[some (.ref a),some (.int n),some (.ref p0),v3,v4]∧zi H H2∧H2 p0=some (.lst ((M5.key ms i).map V.int))) ⟨_,_,rfl,zi.new hp0,ze⟩ ?_ ?_
  ·rintro i σ H2 hi ⟨v3,v4,rfl,s2,e2⟩
   have hi:i<1000:=by omega
   have hkl:=M5.key_len ms i
   have hS2:=s2.seq hS
   refine⟨_,rfl,a,rfl,⟨_,hS2⟩,?_⟩
   refine zd7 (ms:=ms) (n:=1+(i:Int)) hS2 (by omega) (fun x R h=>⟨_,rfl,_,rfl,_,_,rfl,rfl,_,rfl,h⟩) (fun x R h=>⟨_,rfl,h⟩) ?_
   intro l3 hl3
   have en:(1:Int)+(i:Int)=(i:Int)+1:=by omega
   rw[en]
   have hgl:(M3.got ms ((i:Int)+1)).length≤ms.length:=M3.zcQ ms _
   have hkey:M5.key ms (i+1)=(fun a:List Int=>if a=[] then [] else a++[-((M3.got ms ((i:Int)+1)).length:Int),(M3.got ms ((i:Int)+1)).sum]) (if M5.key ms i=[]∧ms.length<2*(M3.got ms ((i:Int)+1)).length then [(i:Int)+1] else M5.key ms i):=rfl
   generalize M3.got ms ((i:Int)+1)=g at hgl hkey ⊢
   generalize M5.key ms i=ks at hkl hkey e2 ⊢
   generalize hH3:upd H2 l3 _=H3
   have s3:zi H H3:=by rw[←hH3];exact s2.newT hl3
   have n03:p0≠l3:=zr e2 hl3
   have e3:H3 p0=some (.lst (ks.map V.int)):=by rw[←hH3,zl n03];exact e2
   have t3:H3 l3=some (.lst (g.map V.int)):=by rw[←hH3];exact ze
   have f3:H l3=none:=s2.free hl3
   refine⟨fun σ' H'=>σ'=[some (.ref a),some (.int n),some (.ref p0),some (.int ((i:Int)+1)),some (.ref l3)]∧zi H H'∧H' l3=some (.lst (g.map V.int))∧H' p0=some (.lst ((if ks=[]∧ms.length<2*g.length then [(i:Int)+1] else ks).map V.int)),?_,?_⟩
   ·refine⟨_,rfl,by decide,fun p4 hp4=>?_⟩
    have s4:=s3.newT (o:=.lst []) hp4
    have n04:p0≠p4:=zr e3 hp4
    have n34:l3≠p4:=zr t3 hp4
    refine⟨p0,p4,_,_,rfl,rfl,SqL.of (by rw[zl n04];exact e3),SqL.new,zG _,rfl,_,rfl,?_⟩
    rw[eqL_nil]
    refine wv (fun hk=>?_) (fun hk=>wF ⟨rfl,s4,by rw[zl n34];exact t3,by rw[zl n04,if_neg (fun z=>hk z.1)];exact e3⟩)
    refine⟨_,rfl,l3,_,rfl,.inl (SqL.of (by rw[zl n34];exact t3)),_,_,rfl,rfl,.inl ⟨by decide,by decide⟩,_,rfl,a,_,rfl,.inl (s4.seq hS),_,_,rfl,rfl,_,rfl,?_⟩
    rw[length_map,length_map]
    refine wv (fun h2=>?_) (fun h2=>⟨rfl,s4,by rw[zl n34];exact t3,by rw[zl n04,if_neg (fun z=>h2 (by omega))];exact e3⟩)
    refine⟨_,rfl,.inl ⟨rfl,_,SqL.of (by rw[zl n04];exact e3)⟩,_,rfl,p0,_,_,rfl,rfl,(by rw[zl n04];exact e3),(by rw[length_map];omega),?_⟩
    refine⟨rfl,s4.put hp0,by rw[zl (Ne.symm n03),zl n34];exact t3,?_⟩
    rw[lst_app,if_pos ⟨hk,by omega⟩,hk]
    rfl
   rintro σ' H5 ⟨rfl,s5,t5,e5⟩
   have hal:(if ks=[]∧ms.length<2*g.length then [(i:Int)+1] else ks).length≤1+2*i:=by
    split
    ·rw[length_cons,length_nil];omega
    ·exact hkl
   generalize (if ks=[]∧ms.length<2*g.length then [(i:Int)+1] else ks)=as at e5 hkey hal
   refine⟨fun σ' H'=>σ'=[some (.ref a),some (.int n),some (.ref p0),some (.int ((i:Int)+1)),some (.ref l3)]∧zi H H'∧H' p0=some (.lst ((if as=[] then [] else as++[-(g.length:Int),g.sum]).map V.int)),?_,?_⟩
   ·refine⟨_,rfl,by decide,fun p4 hp4=>?_⟩
    have s4:=s5.newT (o:=.lst []) hp4
    have n04:p0≠p4:=zr e5 hp4
    have n34:l3≠p4:=zr t5 hp4
    refine⟨p0,p4,_,_,rfl,rfl,SqL.of (by rw[zl n04];exact e5),SqL.new,zG _,rfl,_,rfl,?_⟩
    rw[eqL_nil]
    refine yk (fun hk=>?_) (fun hk=>⟨rfl,s4,by rw[zl n04,if_pos hk];rw[hk] at e5;exact e5⟩)
    refine⟨_,rfl,.inl ⟨rfl,_,SqL.of (by rw[zl n04];exact e5)⟩,_,rfl,l3,_,rfl,.inl (SqL.of (by rw[zl n34];exact t5)),_,rfl,p0,_,_,rfl,rfl,(by rw[zl n04];exact e5),(by rw[length_map];omega),?_⟩
    rw[length_map]
    refine⟨_,rfl,.inl ⟨rfl,_,SqL.of ze⟩,_,rfl,l3,g,rfl,SqL.of (by rw[zl (Ne.symm n03),zl n34];exact t5),p0,_,_,rfl,rfl,ze,(by rw[length_append,length_map,length_cons,length_nil];omega),?_⟩
    refine⟨rfl,(s4.put hp0).put hp0,?_⟩
    rw[ze,if_neg hk,map_append,append_assoc]
    rfl
   rintro σ' H6 ⟨rfl,s6,e6⟩
   exact⟨_,_,rfl,s6,by rw[hkey];exact e6⟩
  ·rintro σ H2 ⟨v3,v4,rfl,s2,e2⟩
   have e:(n+1-1).toNat=n.toNat:=by omega
   rw[e] at e2
   exact⟨_,rfl,q p0 _ s2 hp0 e2⟩
def zb6(K:Frag):Sp:=fun vs H Q _=>∃(a b:Addr)(ps us:List Int),vs=[.ref a,.ref b]∧SqL K H a (ps.map V.int)∧SqL K H b (us.map V.int)∧ps.length=us.length∧us.length≤500∧∀(l:Addr)(H':Hp)(ls:List Addr),zi H H'→H l=none→H' l=some (.lst (ls.map V.ref))→All2 (TPl K H') ls (M5.rows ps us)→Q (.ref l) H'
theorem zig{ps us:List Int}{j:Nat}(h1:j<ps.length)(h2:j<us.length):(ps.zip us).take (j+1)=(ps.zip us).take j++[(ps.getD j 0,us.getD j 0)]:=by
 have e:(ps.zip us)[j]? = some (ps.getD j 0,us.getD j 0):=by
  rw[getElem?_eq_getElem (by rw[length_zip];omega),List.getElem_zip,zdA h1,zdA h2]
 rw[take_succ,e]
 rfl
theorem ziQ{f:Addr}{fd:FuncData}(F:Fun K "_law_rows" "_law_rows" za9 f fd)(T:Txt K mg):FnOk P w K mg base CX0 1 f fd ["_law_spots_here","_law_couples_here"] (zb6 K):=by
 refine F.ok zcc (fun vs H Q E h=>?_) (fun cdv A outer s H vs Q E hr h=>?_)
 ·obtain⟨a,b,ps,us,rfl,_⟩:=h
  rfl
 ·obtain⟨a,b,ps,us,rfl,hA,hB,hl,hz,q⟩:=h
  refine⟨_,(zd (zz (i:=2) zcc.nd rfl (Or.inl rfl) (zO zb))
   (zd (yT PassesOwn.never rfl (zba rfl T.b_range (za zj (za (zv zZ (zk zg (by rfl) T.b_len PySem.boot_len (za (pv 1) zb)) zj) zb))) (zV (i:=3) zcc.nd rfl (Or.inl rfl))
     (zf (yT PassesOwn.never rfl (ym rfl T.b_range (za (zk zg (by rfl) T.b_len PySem.boot_len (za (pv 1) zb)) zb)) (zV (i:=4) zcc.nd rfl (Or.inl rfl))
     (zf (zD (zp zbO (zA zy (pv 0) (pv 4) (fun _ _=>rfl)) (pv 3) (zt _)) (zf (zY (zaw PySem.F.plainAttrs_list PySem.F.slot_list_append PySem.F.type_list_append yF (pv 2) (za (zb1 (za (pv 3) (za (zA zy (pv 1) (pv 4) (fun _ _=>rfl)) zb))) zb)))) zu)))))
   (zf (zn (pv 2))))),?_⟩
  have hln:=zx
  let F:=fun(i:Nat)=>(ps.zip us).filter fun p=>decide (p.1=(i:Int)+1)
  have hF:∀i,(F i).length≤us.length:=fun i=>by
   have:=length_filter_le (fun p=>decide (p.1=(i:Int)+1)) (ps.zip us)
   rw[length_zip] at this
   show(filter _ _).length≤_
   omega
  have hR:∀i,((List.range i).flatMap F).length≤i*us.length:=fun i=>by
   induction i with
   | zero=>simp
   | succ i ih =>
     rw[range_succ,flatMap_append,length_append]
     have e:flatMap F [i]=F i:=by simp
     rw[e,Nat.succ_mul]
     have:=hF i
     omega
  refine⟨by decide,fun p0 hp0=>?_⟩
  refine⟨_,rfl,b,_,rfl,.inl ((zi.new hp0).seq hB),_,_,rfl,rfl,_,_,rfl,⟨by decide,by decide,by rw[length_map];omega,by rw[length_map];omega⟩,?_⟩
  refine zX (fun i σ H2=>∃(v3 v4:Option V)(ls:List Addr),σ=[some (.ref a),some (.ref b),some (.ref p0),v3,v4]∧zi H H2∧H2 p0=some (.lst (ls.map V.ref))∧All2 (TPl K H2) ls ((List.range i).flatMap F)) ⟨_,_,[],rfl,zi.new hp0,ze,.nil⟩ ?_ ?_
  ·rintro i σ H2 hi ⟨v3,v4,ls,rfl,s2,e2,r2⟩
   have hi:i<us.length:=by rw[length_map] at hi;omega
   have hri:=hR i
   have hmul:i*us.length≤500*500:=mul_le_mul (by omega) hz
   refine⟨_,rfl,b,_,rfl,.inl (s2.seq hB),_,rfl,by omega,by rw[length_map];omega,?_⟩
   refine zX (fun j σ H3=>∃(v4:Option V)(ls:List Addr),σ=[some (.ref a),some (.ref b),some (.ref p0),some (.int (1+(i:Int))),v4]∧zi H H3∧H3 p0=some (.lst (ls.map V.ref))∧All2 (TPl K H3) ls ((List.range i).flatMap F++(((ps.zip us).take j).filter fun p=>decide (p.1=(i:Int)+1)))) ⟨_,ls,rfl,s2,e2,by rw[take_zero,filter_nil,append_nil];exact r2⟩ ?_ ?_
   ·rintro j σ H3 hj ⟨v4,ls,rfl,s3,e3,r3⟩
    have hj:j<us.length:=by rw[length_map] at hj;omega
    have hjp:j<ps.length:=by omega
    have e1:atI (ps.map V.int) (0+(j:Int))=some (.int (ps.getD j 0)):=by rw[Int.zero_add];exact zP (zao hjp)
    have e4:atI (us.map V.int) (0+(j:Int))=some (.int (us.getD j 0)):=by rw[Int.zero_add];exact zP (zao hj)
    have hlen:=r3.length
    rw[length_append] at hlen
    have hfl:=length_filter_le (fun p=>decide (p.1=(i:Int)+1)) ((ps.zip us).take j)
    rw[length_take] at hfl
    refine⟨_,rfl,_,rfl,a,_,_,_,rfl,rfl,s3.seq hA,e1,_,rfl,rfl,_,rfl,wv (fun h=>?_) (fun h=>?_)⟩
    ·have h:ps.getD j 0=(i:Int)+1:=by injection h with h;omega
     refine⟨_,rfl,.inl ⟨rfl,_,SqL.of e3⟩,_,rfl,_,rfl,_,rfl,b,_,_,_,rfl,rfl,s3.seq hB,e4,(by show 2≤sizeLine;decide),fun p5 hp5=>?_⟩
     have n05:p0≠p5:=zr e3 hp5
     refine⟨p0,_,_,rfl,rfl,(by rw[zl n05];exact e3),(by rw[length_map];omega),?_⟩
     refine⟨_,ls++[p5],rfl,(s3.newT hp5).put hp0,zd4 ls p5,?_⟩
     rw[zig hjp hj,filter_append,filter_cons_of_pos (by simpa using h),filter_nil,←append_assoc]
     refine All2.snoc (TPl.put (r3.imp fun _ _=>TPl.stays K _ _ _ _ (zi.new hp5)) (by rw[zl n05];exact e3)) ?_
     refine SqT.put (ys:=ls.map V.ref) ?_ (by rw[zl n05];exact e3)
     show SqT K _ p5 [.int (ps.getD j 0),.int (us.getD j 0)]
     rw[h,Int.add_comm]
     exact SqT.new
    ·have h:¬ps.getD j 0=(i:Int)+1:=fun z=>h (by rw[z,Int.add_comm])
     refine⟨_,ls,rfl,s3,e3,?_⟩
     rw[zig hjp hj,filter_append,filter_cons_of_neg (by simpa using h),filter_nil,append_nil]
     exact r3
   ·rintro σ H3 ⟨v4,ls,rfl,s3,e3,r3⟩
    refine⟨_,_,ls,rfl,s3,e3,?_⟩
    rw[range_succ,flatMap_append]
    have e:flatMap F [i]=F i:=by simp
    have et:(ps.zip us).take ((us.map V.int).length:Int).toNat=ps.zip us:=take_of_length_le (by rw[length_zip,length_map];omega)
    rw[et] at r3
    rw[e]
    exact r3
  ·rintro σ H2 ⟨v3,v4,ls,rfl,s2,e2,r2⟩
   have e:(((us.map V.int).length:Int)+1-1).toNat=us.length:=by rw[length_map];omega
   rw[e] at r2
   exact⟨_,rfl,q p0 _ ls s2 hp0 e2 r2⟩
def zdf(K:Frag):Sp:=fun vs H Q _=>∃(a b:Addr)(ms us:List Int)(n:Nat),vs=[.ref a,.ref b,.int n]∧SqL K H a (ms.map V.int)∧SqL K H b (us.map V.int)∧ms.length=us.length∧ms.length≤1000∧n≤1000 ∧
 (M6.wa ms us n none→∀H',zi H H'→Q .non H')∧(∀r,M6.wa ms us n (some r)→∀(l:Addr)(H':Hp),zi H H'→SqT K H' l [.int (r.1:Nat),.str r.2]→Q (.ref l) H')
theorem ziy{f:Addr}{fd:FuncData}(F:Fun K "_law_part" "_law_part" wP f fd)(T:Txt K mg):FnOk P w K mg base CX0 1 f fd ["_law_one","_law_other","_law_last"] (zdf K):=by
 refine F.ok zb9 (fun vs H Q E h=>?_) (fun cdv A outer s H vs Q E hr h=>?_)
 ·obtain⟨a,b,ms,us,n,rfl,_⟩:=h
  rfl
 ·obtain⟨a,b,ms,us,n,rfl,hA,hB,hl,hz,hn,qn,qs⟩:=h
  refine⟨_,(zd (yT PassesOwn.never rfl (zba rfl T.b_range (za zj (za (zv zZ (pv 2) zj) zb))) (zV (i:=3) zb9.nd rfl (Or.inr rfl))
   (zd (yU (i:=4) (show CompScope (zc wP) ["_law_one","_law_other","_law_last","_law_number","_law_got","_law_had"] "_law_mark" ["_law_number"] [3] _ from⟨rfl,by decide +kernel,by decide +kernel,rfl,by decide +kernel,rfl,by decide +kernel,by decide +kernel⟩) rfl zb9.nd rfl (Or.inl rfl) (zE (pv 0)) (fun _ _ _ _ _=>(yS (zp zed (pv 0) (pv 1) (zt _)))) (fun _ _ _ _ _=>(pv 0)))
   (zd (yU (i:=5) (show CompScope (zc wP) ["_law_one","_law_other","_law_last","_law_number","_law_got","_law_had"] "_law_mark" ["_law_number"] [3] _ from⟨rfl,by decide +kernel,by decide +kernel,rfl,by decide +kernel,rfl,by decide +kernel,by decide +kernel⟩) rfl zb9.nd rfl (Or.inl rfl) (zE (pv 1)) (fun _ _ _ _ _=>(yS (zp zed (pv 0) (pv 1) (zt _)))) (fun _ _ _ _ _=>(pv 0)))
   (zd (zbM (zD (zp yK (zcV zfl (zv zcT zj (zk zg (by rfl) T.b_len PySem.boot_len (za (pv 4) zb))) (zk zg (by rfl) T.b_len PySem.boot_len (za (pv 0) zb)) (zt _)) (zcV zfl (zv zcT zj (zk zg (by rfl) T.b_len PySem.boot_len (za (pv 5) zb))) (zk zg (by rfl) T.b_len PySem.boot_len (za (pv 0) zb)) (zt _)) (zt _)) (zf (zn (zb1 (za (pv 3) (za yd zb))))) zu))
   (zd (zbM (zD (PW.pt (zdX (zp zfl (zv zcT zj (zk zg (by rfl) T.b_len PySem.boot_len (za (pv 4) zb))) (zk zg (by rfl) T.b_len PySem.boot_len (za (pv 0) zb)) (zt _)) (zcU (zp yK (zk zg (by rfl) T.b_len PySem.boot_len (za (pv 4) zb)) (zk zg (by rfl) T.b_len PySem.boot_len (za (pv 5) zb)) (zt _))))) (zf (zn (zb1 (za (pv 3) (za yd zb))))) zu))
   (zf (zD (PW.pt (zdX (zp zfl (zv zcT zj (zk zg (by rfl) T.b_len PySem.boot_len (za (pv 4) zb))) (zk zg (by rfl) T.b_len PySem.boot_len (za (pv 0) zb)) (zt _)) (zcU (zp yK (zk (zde rfl) (by rfl) T.b_sum boot_sum (za (pv 4) zb)) (zk (zde rfl) (by rfl) T.b_sum boot_sum (za (pv 5) zb)) (zt _))))) (zf (zn (zb1 (za (pv 3) (za yd zb))))) zu)))))))
   (zf (zn zeN))),?_⟩
  have hln:=zx
  refine⟨_,rfl,_,_,rfl,rfl,_,_,rfl,⟨by decide,by decide,by omega,by omega⟩,?_⟩
  refine zX (fun i σ H2=>∃(v3 v4 v5:Option V),σ=[some (.ref a),some (.ref b),some (.int n),v3,v4,v5]∧zi H H2∧∀j:Nat,1≤j→j≤i→M6.sg ms j=M6.sg us j) ⟨_,_,_,rfl,zi.refl _,fun j h1 h2=>by omega⟩ ?_ ?_
  ·rintro i σ H2 hi ⟨v3,v4,v5,rfl,s2,hj⟩
   have hi:i<n:=by omega
   refine⟨_,rfl,a,rfl,⟨_,s2.seq hA⟩,?_⟩
   refine zd7 (ms:=ms) (n:=1+(i:Int)) (s2.seq hA) (by omega) (fun x R h=>⟨_,rfl,_,rfl,_,_,rfl,rfl,_,rfl,h⟩) (fun x R h=>⟨_,rfl,h⟩) ?_
   intro l3 hl3
   have s3:=s2.newT (o:=.lst ((M3.got ms (1+(i:Int))).map V.int)) hl3
   refine⟨_,rfl,b,rfl,⟨_,s3.seq hB⟩,?_⟩
   refine zd7 (ms:=us) (n:=1+(i:Int)) (s3.seq hB) (by omega) (fun x R h=>⟨_,rfl,_,rfl,_,_,rfl,rfl,_,rfl,h⟩) (fun x R h=>⟨_,rfl,h⟩) ?_
   intro l4 hl4
   have en:(1:Int)+(i:Int)=((i+1:Nat):Int):=by omega
   have n34:l3≠l4:=zr ze hl4
   generalize hH4:upd (upd H2 l3 _) l4 _=H4
   have s4:zi H H4:=by rw[←hH4];exact s3.newT hl4
   have t3:H4 l3=some (.lst ((M3.got ms (1+(i:Int))).map V.int)):=by rw[←hH4,zl n34];exact ze
   have t4:H4 l4=some (.lst ((M3.got us (1+(i:Int))).map V.int)):=by rw[←hH4];exact ze
   rw[en] at t3 t4 ⊢
   have c3:(M3.got ms ((i+1:Nat):Int)).length=M3.cnt ms ((i+1:Nat):Int):=rfl
   have c4:(M3.got us ((i+1:Nat):Int)).length=M3.cnt us ((i+1:Nat):Int):=rfl
   have m3:(M3.got ms ((i+1:Nat):Int)).sum=M3.sm ms ((i+1:Nat):Int):=rfl
   have m4:(M3.got us ((i+1:Nat):Int)).sum=M3.sm us ((i+1:Nat):Int):=rfl
   have told:∀(w:Str),M6.sg ms ((i+1:Nat):Int)≠M6.sg us ((i+1:Nat):Int)→w=M6.word (M6.sg ms ((i+1:Nat):Int)) (M6.sg us ((i+1:Nat):Int))→∀(H5:Hp),zi H H5→∀p,H5 p=none→Q (.ref p) (upd H5 p (.tup [.int ((i+1:Nat):Int),.str w])):=fun w hne hw H5 s5 p hp =>
    qs (i+1,w) ⟨Nat.succ_le_succ (zero_le _),hi,fun j h1 h2=>hj j h1 (Nat.le_of_lt_succ h2),hne,hw⟩ p _ (s5.newT hp) SqT.new
   generalize hk:((i+1:Nat):Int)=k at *
   have q3:=SqL.of (K:=K) t3
   have q4:=SqL.of (K:=K) t4
   have g1:(M3.got ms k).length=M3.cnt ms k:=rfl
   have g2:(M3.got us k).length=M3.cnt us k:=rfl
   refine⟨fun σ' H'=>σ'=[some (.ref a),some (.ref b),some (.int n),some (.int k),some (.ref l3),some (.ref l4)]∧H'=H4∧(us.length<2*M3.cnt us k↔ms.length<2*M3.cnt ms k),?_,?_⟩
   ·refine⟨_,rfl,l3,_,rfl,.inl q3,_,_,rfl,rfl,.inl ⟨by decide,by decide⟩,_,rfl,a,_,rfl,.inl (s4.seq hA),_,_,rfl,rfl,_,rfl,l4,_,rfl,.inl q4,_,_,rfl,rfl,.inl ⟨by decide,by decide⟩,_,rfl,a,_,rfl,.inl (s4.seq hA),_,_,rfl,rfl,rfl,_,rfl,?_⟩
    rw[length_map,length_map,length_map,g1,g2]
    refine yk (fun hne=>?_) (fun he=>?_)
    ·have hne2:¬(ms.length<2*M3.cnt ms k↔us.length<2*M3.cnt us k):=fun z=>hne (by
      show V.bl (decide ((ms.length:Int)<2*(M3.cnt ms k:Int)))=V.bl (decide ((ms.length:Int)<2*(M3.cnt us k:Int)))
      rw[decide_eq_decide.mpr (show(ms.length:Int)<2*(M3.cnt ms k:Int)↔(ms.length:Int)<2*(M3.cnt us k:Int)by omega)])
     refine⟨_,rfl,(by show 2≤sizeLine;decide),told "half" (fun z=>hne2 ?_) ?_ H4 s4⟩
     ·by_cases c1:ms.length<2*M3.cnt ms k
      ·by_cases c2:us.length<2*M3.cnt us k
       ·exact⟨fun _=>c2,fun _=>c1⟩
       ·rw[M6.wn c1,M6.zb5 (by omega)] at z;cases z
      ·by_cases c2:us.length<2*M3.cnt us k
       ·rw[M6.zb5 (by omega),M6.wn c2] at z;cases z
       ·exact⟨fun z=>absurd z c1,fun z=>absurd z c2⟩
     ·by_cases c1:ms.length<2*M3.cnt ms k
      ·by_cases c2:us.length<2*M3.cnt us k
       ·exact absurd ⟨fun _=>c2,fun _=>c1⟩ hne2
       ·rw[M6.wn c1,M6.zb5 (by omega)];rfl
      ·rw[M6.zb5 (show 2*M3.cnt ms k≤ms.length by omega)];rfl
    ·refine⟨rfl,rfl,?_⟩
     injection he with he
     have:=decide_eq_decide.mp he
     omega
   rintro σ' H' ⟨rfl,rfl,hov⟩
   refine⟨fun σ' H''=>σ'=[some (.ref a),some (.ref b),some (.int n),some (.int k),some (.ref l3),some (.ref l4)]∧H''=H'∧(ms.length<2*M3.cnt ms k→M3.cnt ms k=M3.cnt us k),?_,?_⟩
   ·refine⟨_,rfl,l3,_,rfl,.inl q3,_,_,rfl,rfl,.inl ⟨by decide,by decide⟩,_,rfl,a,_,rfl,.inl (s4.seq hA),_,_,rfl,rfl,_,rfl,?_⟩
    rw[length_map,length_map,g1]
    refine wv (fun h1=>?_) (fun h1=>wF ⟨rfl,rfl,fun z=>absurd (show(ms.length:Int)<2*(M3.cnt ms k:Int)by omega) h1⟩)
    refine⟨_,rfl,l3,_,rfl,.inl q3,_,rfl,l4,_,rfl,.inl q4,rfl,_,rfl,?_⟩
    rw[length_map,length_map,g1,g2]
    refine yk (fun hne=>?_) (fun he=>⟨rfl,rfl,fun _=>by injection he with he;omega⟩)
    have c1:ms.length<2*M3.cnt ms k:=by omega
    have hne':¬M3.cnt ms k=M3.cnt us k:=fun z=>hne (by rw[z])
    refine⟨_,rfl,(by show 2≤sizeLine;decide),told "count" (fun z=>hne' ?_) ?_ _ s4⟩
    ·rw[M6.wn c1,M6.wn (hov.mpr c1)] at z
     injection z with z
     have:=(Prod.mk.inj z).1
     omega
    ·rw[M6.wn c1,M6.wn (hov.mpr c1)]
     show _=if((M3.cnt ms k:Nat):Int)=(M3.cnt us k:Nat)then _ else _
     rw[if_neg (by omega)]
   rintro σ' H'' ⟨rfl,rfl,hcn⟩
   refine⟨_,rfl,l3,_,rfl,.inl q3,_,_,rfl,rfl,.inl ⟨by decide,by decide⟩,_,rfl,a,_,rfl,.inl (s4.seq hA),_,_,rfl,rfl,_,rfl,?_⟩
   rw[length_map,length_map,g1]
   have same:M6.sg ms k=M6.sg us k→∀j:Nat,1≤j→j≤i+1→M6.sg ms j=M6.sg us j:=fun e j h1 h2=>by
    by_cases c:j≤i
    ·exact hj j h1 c
    ·have:j=i+1:=by omega
     subst this
     rw[hk]
     exact e
   refine wv (fun h1=>?_) (fun h1=>wF ⟨_,_,_,rfl,s4,same ?_⟩)
   ·have c1:ms.length<2*M3.cnt ms k:=by omega
    refine⟨_,rfl,l3,_,rfl,q3,_,rfl,l4,_,rfl,q4,rfl,_,rfl,yk (fun hne=>?_) (fun he=>⟨_,_,_,rfl,s4,same ?_⟩)⟩
    ·have hne':¬M3.sm ms k=M3.sm us k:=fun z=>hne (by show V.int (M3.sm ms k)=V.int (M3.sm us k);rw[z])
     refine⟨_,rfl,(by show 2≤sizeLine;decide),told "sum" (fun z=>hne' ?_) ?_ _ s4⟩
     ·rw[M6.wn c1,M6.wn (hov.mpr c1)] at z
      injection z with z
      exact(Prod.mk.inj z).2
     ·rw[M6.wn c1,M6.wn (hov.mpr c1)]
      show _=if((M3.cnt ms k:Nat):Int)=(M3.cnt us k:Nat)then _ else _
      rw[if_pos (by rw[hcn c1])]
    ·injection he with he
     have he:M3.sm ms k=M3.sm us k:=he
     rw[M6.wn c1,M6.wn (hov.mpr c1),hcn c1,he]
   ·rw[M6.zb5 (by omega),M6.zb5 (by omega)]
  ·rintro σ H2 ⟨v3,v4,v5,rfl,s2,hj⟩
   have e:((n:Int)+1-1).toNat=n:=by omega
   rw[e] at hj
   exact qn (fun k h1 h2=>hj k h1 h2) _ s2
def zbR(K:Frag):Sp:=fun vs H Q _=>∃(a:Addr)(ns:List Int)(c:Int),vs=[.ref a,.int c]∧SqL K H a (ns.map V.int)∧ns.length≤1000∧∀(l:Addr)(H':Hp),zi H H'→H l=none→H' l=some (.lst ((ns.filter fun o => !decide (o=c)).map V.int))→Q (.ref l) H'
theorem zfT{f:Addr}{fd:FuncData}(F:Fun K "_law_without" "_law_without" yX f fd)(T:Txt K mg):FnOk P w K mg base CX0 1 f fd ["_law_card_here","_law_couple"] (zbR K):=by
 refine F.ok zfz (fun vs H Q E h=>?_) (fun cdv A outer s H vs Q E hr h=>?_)
 ·obtain⟨a,ns,c,rfl,_⟩:=h
  rfl
 ·obtain⟨a,ns,c,rfl,hS,hz,q⟩:=h
  refine⟨_,(zf (zn (zN (show CompScope (zc yX) ["_law_card_here","_law_couple"] "_law_other" ["_law_couple"] [1] _ from⟨rfl,by decide +kernel,by decide +kernel,rfl,by decide +kernel,rfl,by decide +kernel,by decide +kernel⟩) rfl (zE (pv 0)) (fun _ _ _ _ _=>(yS (zp yK (pv 0) (pv 1) (zt _)))) (fun _ _ _ _ _=>(pv 0))))),?_⟩
  refine⟨_,rfl,a,rfl,⟨_,hS⟩,?_⟩
  refine yG (xs:=ns.map V.int) (fun i ys H2=>H2=H∧ys=((ns.take i).filter fun o => !decide (o=c)).map V.int) ⟨rfl,rfl⟩ ?_ (by rw[length_map];have:=zx;omega) ?_ ?_
  ·rintro i ys H2 hi ⟨rfl,rfl⟩
   refine⟨hS,?_⟩
   rw[length_map]
   have:=length_filter_le (fun o => !decide (o=c)) (ns.take i)
   rw[length_take] at this
   omega
  ·rintro i x ys H2 hx ⟨rfl,rfl⟩
   obtain⟨hi,rfl⟩:=zam hx
   refine⟨_,rfl,_,rfl,rfl,_,rfl,yk (fun h=>?_) (fun h=>?_)⟩
   ·have h:¬ns.getD i 0=c:=fun z=>h (by rw[z])
    refine⟨_,rfl,rfl,?_⟩
    rw[wB hi,filter_append,filter_cons_of_pos (by simpa using h),map_append]
    rfl
   ·have h:ns.getD i 0=c:=by injection h
    refine⟨rfl,?_⟩
    rw[wB hi,filter_append,filter_cons_of_neg (by simpa using h),filter_nil,append_nil]
  ·rintro ys H2 ⟨rfl,rfl⟩ l hl
   rw[length_map,take_length]
   exact q l _ (zi.new hl) hl ze
def zcP(K:Frag):Sp:=fun vs H Q _=>∃(a:Addr)(xs:List V)(ws:List Str),vs=[.ref a]∧SqL K H a xs∧All2 WordOf xs ws∧ws.length≤200∧(∀w∈ws,w.length≤2000)∧∀H',zi H H'→Q (.str (Txt.join M6.blank ws)) H'
theorem zhc{f:Addr}{fd:FuncData}(F:Fun K "_law_words" "_law_words" wI f fd)(T:Txt K mg):FnOk P w K mg base CX0 1 f fd ["_law_things"] (zcP K):=by
 refine F.ok zhp (fun vs H Q E h=>?_) (fun cdv A outer s H vs Q E hr h=>?_)
 ·obtain⟨a,xs,ws,rfl,_⟩:=h
  rfl
 ·obtain⟨a,xs,ws,rfl,hA,hW,hl,hw,q⟩:=h
  refine⟨_,(zf (zn (zaw PySem.F.plainAttrs_str PySem.F.slot_str_join PySem.F.type_str_join ms_join yd (za (zN (show CompScope (zc wI) ["_law_things"] "_law_thing" [] [] _ from⟨rfl,by decide +kernel,by decide +kernel,rfl,by decide +kernel,rfl,by decide +kernel,by decide +kernel⟩) rfl (zE (pv 0)) (fun _ _ _ _ _=>yw) (fun _ _ _ _ _=>(yb zcy (by rfl) T.b_str boot_str (za (pv 0) zb)))) zb)))),?_⟩
  have hln:=zx
  have hxl:=hW.length
  refine⟨rfl,_,rfl,a,rfl,⟨_,hA⟩,?_⟩
  refine yf (xs:=xs) (fun i ys H2=>H2=H∧ys=(ws.take i).map V.str) ⟨rfl,rfl⟩ ?_ (by omega) ?_ ?_
  ·rintro i ys H2 hi ⟨rfl,rfl⟩
   exact⟨hA,by rw[length_map,length_take];omega⟩
  ·rintro i x ys H2 hx ⟨rfl,rfl⟩
   obtain⟨w,ew,rw'⟩:=hW.getL hx
   have e:(ws.take (i+1)).map V.str=(ws.take i).map V.str++[.str w]:=by rw[take_succ,ew,map_append];rfl
   cases rw' with
   | int hb=>exact⟨_,rfl,.inl ⟨_,rfl,zds hb,rfl,e.symm⟩⟩
   | str=>exact⟨_,rfl,.inr ⟨_,rfl,rfl,e.symm⟩⟩
  rintro ys H2 ⟨rfl,rfl⟩ l hl'
  rw[hxl,take_length]
  refine⟨_,l,ws,rfl,rfl,SqL.new,by decide +kernel,hl,hw,?_⟩
  exact q _ (zi.new hl')
def zcg(K:Frag):Sp:=fun vs H Q _=>∃(a:Addr)(ms:List Int)(n:Nat),vs=[.ref a,.int n]∧SqL K H a (ms.map V.int)∧ms.length≤15∧(∀x∈ms,1≤x∧x≤24)∧n≤24∧∀(l:Addr)(H':Hp),zi H H'→H l=none→H' l=some (.lst ((M6.zc8 ms n).map V.str))→Q (.ref l) H'
theorem zgi{f:Addr}{fd:FuncData}(F:Fun K "_law_ladder" "_law_ladder" wk f fd)(T:Txt K mg):FnOk P w K mg base CX0 1 f fd ["_law_marks_here","_law_last"] (zcg K):=by
 refine F.ok zbb (fun vs H Q E h=>?_) (fun cdv A outer s H vs Q E hr h=>?_)
 ·obtain⟨a,ms,n,rfl,_⟩:=h
  rfl
 ·obtain⟨a,ms,n,rfl,hA,hz,hx,hn,q⟩:=h
  refine⟨_,(zd (zz (i:=2) zbb.nd rfl (Or.inl rfl) (zO zb))
   (zd (yT PassesOwn.never rfl (zba rfl T.b_range (za zj (za (zv zZ (pv 1) zj) zb))) (zV (i:=3) zbb.nd rfl (Or.inr rfl))
     (zd (yU (i:=4) (show CompScope (zc wk) ["_law_marks_here","_law_last","_law_steps","_law_number","_law_got"] "_law_mark" ["_law_number"] [3] _ from⟨rfl,by decide +kernel,by decide +kernel,rfl,by decide +kernel,rfl,by decide +kernel,by decide +kernel⟩) rfl zbb.nd rfl (Or.inl rfl) (zE (pv 0)) (fun _ _ _ _ _=>(yS (zp zed (pv 0) (pv 1) (zt _)))) (fun _ _ _ _ _=>(pv 0)))
   (zf (zY (zaw PySem.F.plainAttrs_list PySem.F.slot_list_append PySem.F.type_list_append yF (pv 2) (za (zv zcN (zv zcN (yb zcy (by rfl) T.b_str boot_str (za (zk zg (by rfl) T.b_len PySem.boot_len (za (pv 4) zb)) zb)) yd) (yb zcy (by rfl) T.b_str boot_str (za (zk (zde rfl) (by rfl) T.b_sum boot_sum (za (pv 4) zb)) zb))) zb))))))
   (zf (zn (pv 2))))),?_⟩
  have hln:=zx
  refine⟨(by show 0≤sizeLine;decide),fun l hl=>?_⟩
  have s1:=zi.new (o:=.lst []) hl
  have e1:upd H l (.lst []) l=some (.lst ((M6.zc8 ms 0).map V.str)):=ze
  generalize hH1:upd H l _=H1 at s1 e1 ⊢
  refine⟨_,rfl,_,_,rfl,rfl,_,_,rfl,⟨by decide,by decide,by omega,by omega⟩,?_⟩
  rw[show((n:Int)+1-1).toNat=n by omega]
  refine zX (fun i σ H2=>∃v w,σ=[some (.ref a),some (.int n),some (.ref l),v,w]∧zi H H2∧H2 l=some (.lst ((M6.zc8 ms i).map V.str))) ⟨_,_,rfl,s1,e1⟩ ?_ ?_
  ·rintro i σ H2 hi ⟨v,w,rfl,s2,e2⟩
   refine⟨_,rfl,a,rfl,⟨_,s2.seq hA⟩,?_⟩
   refine zd7 (ms:=ms) (n:=1+(i:Int)) (s2.seq hA) (by omega) (fun x R h=>⟨_,rfl,_,rfl,_,_,rfl,rfl,_,rfl,h⟩) (fun x R h=>⟨_,rfl,h⟩) ?_
   intro l3 hl3
   have s3:=s2.newT (o:=.lst ((M3.got ms (1+(i:Int))).map V.int)) hl3
   have e3:=(zi.new (o:=.lst ((M3.got ms (1+(i:Int))).map V.int)) hl3) _ _ e2
   have g3:SqL K (upd H2 l3 (.lst ((M3.got ms (1+(i:Int))).map V.int))) l3 ((M3.got ms (1+(i:Int))).map V.int):=SqL.new
   generalize hH3:upd H2 l3 _=H3 at s3 e3 g3 ⊢
   have hc:=M3.zcQ ms (1+(i:Int))
   have hs:0≤M3.sm ms (1+(i:Int))∧M3.sm ms (1+(i:Int))≤24*ms.length:=M6.zfP hx _
   have hsl:=M6.zeq hz hx (1+(i:Int))
   have hll:(M6.zc8 ms i).length=i:=by unfold M6.zc8;rw[length_map,M6.zcY]
   refine⟨_,rfl,.inl ⟨rfl,_,SqL.of e3⟩,_,rfl,l3,_,rfl,.inl g3,.inl ⟨_,rfl,?_,_,_,rfl,rfl,?_,_,rfl,l3,_,rfl,g3,.inl ⟨_,rfl,?_,_,_,rfl,rfl,?_,?_⟩⟩⟩
   ·rw[length_map];exact zds (by show((M3.cnt ms (1+(i:Int)):Nat):Int).natAbs≤100000;omega)
   ·rw[length_map]
    show(tN ((M3.cnt ms (1+(i:Int)):Nat):Int)).length+M6.sl.length≤sizeLine
    rw[M6.zgY];omega
   ·exact zds (by show(M3.sm ms (1+(i:Int))).natAbs≤100000;omega)
   ·rw[length_map]
    show(tN ((M3.cnt ms (1+(i:Int)):Nat):Int)++M6.sl).length+(tN (M3.sm ms (1+(i:Int)))).length≤sizeLine
    rw[wl,M6.zgY];omega
   ·rw[length_map]
    refine⟨l,_,_,rfl,rfl,e3,by rw[length_map,hll];omega,_,_,rfl,s3.put hl,?_⟩
    rw[ze,M6.zgS,map_append,show(i:Int)+1=1+(i:Int)by omega]
    rfl
  ·rintro σ H2 ⟨v,w,rfl,s2,e2⟩
   exact⟨_,rfl,q l H2 s2 hl e2⟩
def zcB(K:Frag):Sp:=fun vs H Q _=>∃(a:Addr)(cs:List (List Int)) (w k:Nat),vs=[.ref a,.int w,.int k]∧zaQ K (IL K) H a cs∧w<cs.length∧cs.length≤500∧0<k∧k<(cs.getD w []).length∧(cs.getD w []).length≤500∧∀(l:Addr)(H':Hp),zi H H'→H l=none→zaQ K (IL K) H' l ((cs.take w++[upC (cs.getD w []) k]++cs.drop (w+1)).filter fun d => !decide (d=[]))→Q (.ref l) H'
theorem zhe{f:Addr}{fd:FuncData}(F:Fun K "_law_moved" "_law_moved" wQ f fd)(T:Txt K mg):FnOk P w K mg base CX0 1 f fd ["_law_cards","_law_who","_law_k"] (zcB K):=by
 refine F.ok zcE (fun vs H Q E h=>?_) (fun cdv A outer s H vs Q E hr h=>?_)
 ·obtain⟨a,cs,w,k,rfl,_⟩:=h
  rfl
 ·obtain⟨a,cs,w,k,rfl,⟨ls,hA,rA⟩,hw,hz,k0,hk,hkz,q⟩:=h
  refine⟨_,(zd (zz (i:=3) zcE.nd rfl (Or.inl rfl) (zA zy (pv 0) (pv 1) (fun _ _=>rfl)))
   (zd (zz (i:=4) zcE.nd rfl (Or.inl rfl) (zv wD (zv wD (yC zac (pv 3) wE (yZ (zv za3 (pv 2) zj))) (zO (za (zA zy (pv 3) (pv 2) (fun _ _=>rfl)) (za (zA zy (pv 3) (zv za3 (pv 2) zj) (fun _ _=>rfl)) zb)))) (yC zac (pv 3) (yZ (zv zZ (pv 2) zj)) wE)))
   (zf (zn (zN (show CompScope (zc wQ) ["_law_cards","_law_who","_law_k","_law_card_here","_law_up"] "_law_other" [] [] _ from⟨rfl,by decide +kernel,by decide +kernel,rfl,by decide +kernel,rfl,by decide +kernel,by decide +kernel⟩) rfl (zE (zv wD (zv wD (yC zac (pv 0) wE (yZ (pv 1))) (zO (za (pv 4) zb))) (yC zac (pv 0) (yZ (zv zZ (pv 1) zj)) wE))) (fun _ _ _ _ _=>(yS (zp (wd (K:=K) rfl hr.units0) (pv 0) (zO zb) (zt _)))) (fun _ _ _ _ _=>(pv 0))))))),?_⟩
  have hln:=zx
  have hll:=rA.length
  obtain⟨m,em,rm⟩:=rA.at (i:=w) hw []
  have am:atI (ls.map V.ref) (w:Int)=some (.ref m):=zP (wt em)
  generalize hd:cs.getD w []=d at *
  have rm:SqL K H m (d.map V.int):=rm
  refine⟨_,rfl,_,rfl,a,_,_,_,rfl,rfl,hA,am,?_⟩
  refine⟨_,rfl,_,rfl,_,_,rfl,rfl,_,rfl,m,_,rfl,rm,fun l1 hl1=>?_⟩
  rw[zez (by omega),show((k:Int)-1).toNat=k-1 by omega]
  have s1:=zi.new (o:=.lst ((d.take (k-1)).map V.int)) hl1
  have e1:upd H l1 (.lst ((d.take (k-1)).map V.int)) l1=some (.lst ((d.take (k-1)).map V.int)):=ze
  generalize hH1:upd H l1 _=H1 at s1 e1 ⊢
  refine⟨_,rfl,_,rfl,m,_,_,_,rfl,rfl,s1.seq rm,zct (by omega) (by omega),_,rfl,_,rfl,_,_,rfl,rfl,m,_,_,_,rfl,rfl,s1.seq rm,zct (by omega) (by omega),(by show 2≤sizeLine;decide),fun l2 hl2=>?_⟩
  rw[show((k:Int)).toNat=k by omega,show((k:Int)-1).toNat=k-1 by omega]
  have s2:=zi.new (o:=.lst ([d.getD k 0,d.getD (k-1) 0].map V.int)) hl2
  refine⟨l1,l2,_,[d.getD k 0,d.getD (k-1) 0].map V.int,rfl,rfl,s2 _ _ e1,ze,by simp only[length_map,length_take,length_cons,length_nil];omega,fun l3 hl3=>?_⟩
  rw[←map_append]
  have s3:=(s1.trans s2).newT (o:=.lst ((d.take (k-1)++[d.getD k 0,d.getD (k-1) 0]).map V.int)) hl3
  have e3:=ze (H:=upd H1 l2 (.lst ([d.getD k 0,d.getD (k-1) 0].map V.int))) (a:=l3) (o:=.lst ((d.take (k-1)++[d.getD k 0,d.getD (k-1) 0]).map V.int))
  change zi H (upd (upd H1 l2 (.lst [.int (d.getD k 0),.int (d.getD (k-1) 0)])) l3 _)at s3
  change upd (upd H1 l2 (.lst [.int (d.getD k 0),.int (d.getD (k-1) 0)])) l3 _ l3=_ at e3
  generalize hH3:upd (upd H1 l2 _) l3 _=H3 at s3 e3 ⊢
  refine⟨_,rfl,_,rfl,_,_,rfl,rfl,_,rfl,m,_,rfl,s3.seq rm,fun l4 hl4=>?_⟩
  rw[zdD (by omega),show((k:Int)+1).toNat=k+1 by omega]
  have s4:=zi.new (o:=.lst ((d.drop (k+1)).map V.int)) hl4
  refine⟨l3,l4,_,_,rfl,rfl,s4 _ _ e3,ze,by simp only[length_map,length_append,length_take,length_drop,length_cons,length_nil];omega,fun l5 hl5=>?_⟩
  rw[←map_append]
  have s5:=(s3.trans s4).newT (o:=.lst ((d.take (k-1)++[d.getD k 0,d.getD (k-1) 0]++d.drop (k+1)).map V.int)) hl5
  have e5:=ze (H:=upd H3 l4 (.lst ((d.drop (k+1)).map V.int))) (a:=l5) (o:=.lst ((d.take (k-1)++[d.getD k 0,d.getD (k-1) 0]++d.drop (k+1)).map V.int))
  change _=some (HO.lst ((upC d k).map V.int))at e5
  generalize hH5:upd (upd H3 l4 _) l5 _=H5 at s5 e5 ⊢
  refine⟨_,rfl,_,rfl,_,rfl,a,_,rfl,s5.seq hA,fun l6 hl6=>?_⟩
  rw[zdZ (by omega),show((w:Int)).toNat=w by omega]
  have s6:=zi.new (o:=.lst ((ls.map V.ref).take w)) hl6
  have e6:upd H5 l6 (.lst ((ls.map V.ref).take w)) l6=some (.lst ((ls.map V.ref).take w)):=ze
  generalize hH6:upd H5 l6 _=H6 at s6 e6 ⊢
  refine⟨_,rfl,(by show 1≤sizeLine;decide),fun l7 hl7=>?_⟩
  have s7:=zi.new (o:=.lst [.ref l5]) hl7
  refine⟨l6,l7,_,[.ref l5],rfl,rfl,s7 _ _ e6,ze,by rw[length_take,length_map];simp only[length_cons,length_nil];omega,fun l8 hl8=>?_⟩
  have s8:=(s6.trans s7).newT (o:=.lst ((ls.map V.ref).take w++[.ref l5])) hl8
  have e8:=ze (H:=upd H6 l7 (.lst [.ref l5])) (a:=l8) (o:=.lst ((ls.map V.ref).take w++[.ref l5]))
  generalize hH8:upd (upd H6 l7 _) l8 _=H8 at s8 e8 ⊢
  have t8:=s5.trans s8
  refine⟨_,rfl,_,rfl,_,_,rfl,rfl,_,rfl,a,_,rfl,t8.seq hA,fun l9 hl9=>?_⟩
  rw[zd8 (by omega),show((w:Int)+1).toNat=w+1 by omega]
  have s9:=zi.new (o:=.lst ((ls.map V.ref).drop (w+1))) hl9
  refine⟨l8,l9,_,_,rfl,rfl,s9 _ _ e8,ze,by simp only[length_map,length_append,length_take,length_drop,length_cons,length_nil];omega,fun l10 hl10=>?_⟩
  have ex:(ls.map V.ref).take w++[.ref l5]++(ls.map V.ref).drop (w+1)=(ls.take w++[l5]++ls.drop (w+1)).map V.ref:=by rw[map_append,map_append,map_take,map_drop];rfl
  rw[ex]
  have s10:=(s8.trans s9).newT (o:=.lst ((ls.take w++[l5]++ls.drop (w+1)).map V.ref)) hl10
  have e10:=ze (H:=upd H8 l9 (.lst ((ls.map V.ref).drop (w+1)))) (a:=l10) (o:=.lst ((ls.take w++[l5]++ls.drop (w+1)).map V.ref))
  generalize hH10:upd (upd H8 l9 _) l10 _=H10 at s10 e10 ⊢
  have t10:=s5.trans s10
  have r10:All2 (IL K H10) (ls.take w++[l5]++ls.drop (w+1)) (cs.take w++[upC d k]++cs.drop (w+1)):=by
   have z:=rA.imp fun _ _=>IL.stays K _ _ _ _ t10
   exact((z.takeN w).app (.cons (show IL K H10 l5 (upC d k)from SqL.of (s10 _ _ e5)) .nil)).app (z.dropN (w+1))
  refine⟨l10,rfl,⟨_,SqL.of e10⟩,?_⟩
  refine zbF (SqL.of e10) r10 (by simp only[length_append,length_take,length_drop,length_cons,length_nil];omega) (fun m d H' R hm h=>?_) (fun m H' R h=>⟨_,rfl,h⟩) fun ks H13 s13 r13=>?_
  ·refine⟨_,rfl,(by show 0≤sizeLine;decide),fun l13 hl13=>?_⟩
   have s13:=zi.new (o:=.lst []) hl13
   refine⟨m,l13,_,[],rfl,rfl,s13.seq hm,SqL.new,zG _,rfl,_,rfl,?_⟩
   rw[show eqL (d.map V.int) []=decide (d=[])from yM _ []]
   exact h _ s13
  intro l14 hl14
  have t13:=t10.trans s13
  exact q l14 _ (t13.newT hl14) (t13.free hl14) ⟨ks,SqL.of ze,r13.imp fun _ _=>IL.stays K _ _ _ _ (zi.new hl14)⟩
def za0(K:Frag):Sp:=fun vs H Q E=>∃(p:Addr)(F:Addr→Prop)(S:Sh)(j:Str)(a:Addr)(ns:List Int),vs=[.ref p,.str j,.ref a]∧zB K H p F S∧SqL K H a (ns.map V.int)∧ns.length<64 ∧
 (∀c,S.refuse j ns=some c→∀C H',zb4 K c C→zi H H'→E (.ref C) none H')∧(S.refuse j ns=none→∀H' F',zB K H' p F' (S.hand j ns)→zc5 F H F' H'→Q .non H')
theorem zeK{f:Addr}{fd:FuncData}(F:Fun K "hand_in" "Sheet.hand_in" yJ f fd)(T:Txt K mg)(C_whole_card:Can P w K mg base 1 "whole_card" ["card","couples"] (zci K))(C_Sheet_refuse_if_sealed:CanMX P w K mg base 1 (zL K "Sheet") "refuse_if_sealed" ["self"] (yj K))(C_Sheet_refuse_unknown_judge:CanMX P w K mg base 1 (zL K "Sheet") "refuse_unknown_judge" ["self","judge"] (zU K)):FnOk P w K mg base (CX1 P w) 2 f fd ["self","judge","card"] (za0 K):=by
 obtain⟨c_BadCard,n_BadCard,m_BadCard,x_BadCard⟩:=T.x_BadCard
 obtain⟨c_TooManyCards,n_TooManyCards,m_TooManyCards,x_TooManyCards⟩:=T.x_TooManyCards
 refine F.okX zet (fun vs H Q E h=>?_) (fun X W cdv A outer s H vs Q E hX hW fl md hr h=>?_)
 ·obtain⟨p,F,S,j,a,ns,rfl,_⟩:=h
  rfl
 ·obtain⟨p,F,S,j,a,ns,rfl,hSh,hA,hz,qE,q⟩:=h
  obtain⟨dx,a1,a2,a3,d,kvs,h⟩:=id hSh
  subst hX
  refine⟨_,(zd (zY (zgD C_Sheet_refuse_if_sealed T.cl_Sheet fl (hM hr) (pv 0)))
   (zd (zY (wH C_Sheet_refuse_unknown_judge T.cl_Sheet fl (hM hr) (pv 0) (za (pv 1) zb)))
   (zd (zD (ye (ya (zh C_whole_card (hM hr) rfl (za (pv 2) (za (wJ (pv 0) rfl) zb))))) (zf (zaf rfl md rfl m_BadCard x_BadCard (za yd zb))) zu)
   (zd (zD (zp op_ge (wJ (pv 0) rfl) (zdj T.c_MOST_CARDS rfl) (zt _)) (zf (zaf rfl md rfl m_TooManyCards x_TooManyCards (za yd zb))) zu)
   (zd (ps_dput (zgI hr) (wJ (pv 0) rfl) (pv 1) (yb yo (by rfl) T.b_list boot_list (za (pv 2) zb)) rfl)
   (zf (zc9 (pv 0) (zv zZ (wJ (pv 0) rfl) zj) rfl))))))),?_⟩
  have hln:=zx
  have h24:=h.ok.c24
  refine⟨_,rfl,p,dx,_,rfl,h.ip,rfl,p,F,S,rfl,hSh,(fun hs C hC=>?_),fun hs=>?_⟩
  ·rw[hW]
   exact qE "SheetSealed" (by unfold Sh.refuse;rw[if_pos hs]) C _ hC (zi.refl _)
  refine⟨_,rfl,p,dx,_,rfl,h.ip,rfl,_,rfl,p,F,S,j,rfl,hSh,(fun hj C hC=>?_),fun hj=>?_⟩
  ·rw[hW]
   exact qE "UnknownJudge" (by unfold Sh.refuse;rw[if_neg (by rw[hs];exact Bool.false_ne_true),if_neg hj]) C _ hC (zi.refl _)
  refine⟨_,rfl,_,rfl,p,_,dx,_,_,rfl,h.ip,T.cl_Sheet,T.n_Sheet_standing,rfl,a,a1,ns,S.couples,rfl,hA,SqL.of h.i1,hz,by omega,fun H2 s2=>⟨_,rfl,?_⟩⟩
  refine yk (fun hp=>?_) (fun hp=>?_)
  ·refine⟨(by show 1≤sizeLine;decide),?_⟩
   rw[hW]
   exact qE "BadCard" (by unfold Sh.refuse;rw[if_neg (by rw[hs];exact Bool.false_ne_true),if_pos hj,if_neg hp]) _ _ n_BadCard s2
  have ip:=s2 _ _ h.ip
  have i1:=s2 _ _ h.i1
  have i2:=s2 _ _ h.i2
  have i3:=s2 _ _ h.i3
  have i4:=s2 _ _ h.i4
  refine⟨_,rfl,p,_,dx,_,_,rfl,ip,T.cl_Sheet,T.n_Sheet_taken_so_far,rfl,_,_,rfl,rfl,_,rfl,wv (fun ht=>?_) (fun ht=>?_)⟩
  ·refine⟨(by show 1≤sizeLine;decide),?_⟩
   rw[hW]
   exact qE "TooManyCards" (by unfold Sh.refuse;rw[if_neg (by rw[hs];exact Bool.false_ne_true),if_pos hj,if_pos hp,if_pos (by omega)]) _ _ n_TooManyCards s2
  have hn:S.refuse j ns=none:=by unfold Sh.refuse;rw[if_neg (by rw[hs];exact Bool.false_ne_true),if_pos hj,if_pos hp,if_neg (by omega)]
  have hk:=h.kl
  have ht2:=h.ok.t200
  refine⟨_,rfl,a,_,rfl,.inl (s2.seq hA),fun l hl=>?_⟩
  have kp:∀b o,H2 b=some o→upd H2 l (.lst (ns.map V.int)) b=some o:=fun b o e=>zi.new hl b o e
  refine⟨_,rfl,p,_,dx,_,_,rfl,kp _ _ ip,T.cl_Sheet,T.n_Sheet_card_by_judge,rfl,_,rfl,d,_,rfl,DPut.k (k:=Sum.inr j) (kp _ _ i4) (by omega),?_⟩
  have n1:a1≠p:=wR i1 ip (by intro z;cases z)
  have n2:a2≠p:=wR i2 ip (by intro z;cases z)
  have n3:a3≠p:=wR i3 ip (by intro z;cases z)
  have n4:d≠p:=wR i4 ip (by intro z;cases z)
  have m1:a1≠d:=wR i1 i4 (by intro z;cases z)
  have m2:a2≠d:=wR i2 i4 (by intro z;cases z)
  have m3:a3≠d:=wR i3 i4 (by intro z;cases z)
  have lp:l≠p:=fun z=>by rw[z,ip] at hl;cases hl
  have ld:l≠d:=fun z=>by rw[z,i4] at hl;cases hl
  have l2:l≠a2:=fun z=>by rw[z,i2] at hl;cases hl
  have ip':upd (upd H2 l (.lst (ns.map V.int))) d (.dK (zco kvs (Sum.inr j) (.ref l))) p=some (.ins (zL K "Sheet") dx (shF a1 a2 a3 d S)):=by rw[zl (Ne.symm n4)];exact kp _ _ ip
  refine⟨_,rfl,p,_,dx,_,_,rfl,ip',T.cl_Sheet,T.n_Sheet_taken_so_far,rfl,_,_,rfl,rfl,?_⟩
  refine⟨_,rfl,p,_,dx,_,rfl,ip',T.cl_Sheet,T.n_Sheet_taken_so_far,(by show 6<1000;decide),?_⟩
  have et:(V.int ((S.taken:Int)+1))=.int ((S.hand j ns).taken:Nat):=by show V.int _=V.int ((S.taken+1:Nat):Int);congr 1
  show _
  dsimp only
  rw[et,pf_taken a1 a2 a3 d S (S.hand j ns) rfl]
  obtain⟨ok',_⟩:=h.ok.hand hn
  have up:∀b o,H2 b=some o→b≠p→b≠d→upd (upd (upd H2 l (.lst (ns.map V.int))) d (.dK (zco kvs (Sum.inr j) (.ref l)))) p (.ins (zL K "Sheet") dx (shF a1 a2 a3 d (S.hand j ns))) b=some o:=fun b o e nb nd=>by rw[zl nb,zl nd];exact kp b o e
  have el:upd (upd (upd H2 l (.lst (ns.map V.int))) d (.dK (zco kvs (Sum.inr j) (.ref l)))) p (.ins (zL K "Sheet") dx (shF a1 a2 a3 d (S.hand j ns))) l=some (.lst (ns.map V.int)):=by rw[zl lp,zl ld];exact ze
  refine q hn _ (fun b=>F b∨b=l) ⟨dx,a1,a2,a3,d,zco kvs (Sum.inr j) (.ref l),⟨⟨ze,up _ _ i1 n1 m1,up _ _ i2 n2 m2,up _ _ i3 n3 m3,by rw[zl n4];exact ze,?_,fun k hk'=>?_,fun k c hc=>?_,.inl h.fp,.inl h.f1,.inl h.f2,.inl h.f3,.inl h.f4,h.n12,h.n32,fun b hb=>?_⟩,ok'⟩⟩ fun b o e n=>⟨up b o (s2 _ _ e) (fun z=>n (z ▸ h.fp)) (fun z=>n (z ▸ h.f4)),?_⟩
  ·have:=zdh kvs (Sum.inr j) (.ref l)
   show _≤S.taken+1
   omega
  ·have hk':(if k=j then some ns else S.card k)=none:=hk'
   rw[zen]
   by_cases ek:k=j
   ·rw[if_pos ek] at hk';cases hk'
   ·rw[if_neg ek] at hk'
    rw[if_neg (fun z=>ek (by injection z))]
    exact h.cn k hk'
  ·have hc:(if k=j then some ns else S.card k)=some c:=hc
   rw[zen]
   by_cases ek:k=j
   ·rw[if_pos ek] at hc
    cases hc
    rw[if_pos (by rw[ek])]
    exact⟨l,rfl,el,.inr rfl,l2⟩
   ·rw[if_neg ek] at hc
    rw[if_neg (fun z=>ek (by injection z))]
    obtain⟨l',x1,x2,x3,x4⟩:=h.cs k c hc
    exact⟨l',x1,up _ _ (s2 _ _ x2) (wR x2 h.ip (by intro z;cases z)) (wR x2 h.i4 (by intro z;cases z)),.inl x3,x4⟩
  ·by_cases hbp:b=p
   ·rw[hbp,ze];exact fun z=>nomatch z
   rw[zl hbp]
   by_cases hbd:b=d
   ·rw[hbd,ze];exact fun z=>nomatch z
   rw[zl hbd]
   rcases hb with hb | hb
   ·have:=h.fh b hb
    cases e:H b with
    | none=>exact absurd e this
    | some o=>rw[kp _ _ (s2 _ _ e)];exact fun z=>nomatch z
   ·rw[hb,ze];exact fun z=>nomatch z
  ·rintro (z | z)
   ·exact n z
   ·have:=s2 _ _ e
    rw[z,hl] at this
    cases this
def zbt(K:Frag):Sp:=fun vs H Q E=>∃(p:Addr)(F:Addr→Prop)(S:Sh)(c:Int),vs=[.ref p,.int c]∧zB K H p F S ∧
 (∀x,S.refuseS c=some x→∀C,zb4 K x C→E (.ref C) none H)∧(S.refuseS c=none→∀H' F',zB K H' p F' (S.strike c)→zc5 F H F' H'→Q .non H')
theorem ze6{f:Addr}{fd:FuncData}(F:Fun K "strike" "Sheet.strike" y9 f fd)(T:Txt K mg)(C_without_couple:Can P w K mg base 1 "without_couple" ["card","couple"] (zaJ K))(C_Sheet_handed:CanM P w K mg base 1 (zL K "Sheet") "handed" ["self"] (yh K))(C_Sheet_refuse_if_sealed:CanMX P w K mg base 1 (zL K "Sheet") "refuse_if_sealed" ["self"] (yj K)):FnOk P w K mg base (CX1 P w) 2 f fd ["self","couple"] (zbt K):=by
 obtain⟨c_UnknownCouple,n_UnknownCouple,m_UnknownCouple,x_UnknownCouple⟩:=T.x_UnknownCouple
 obtain⟨c_LastCouple,n_LastCouple,m_LastCouple,x_LastCouple⟩:=T.x_LastCouple
 refine F.okX zc3 (fun vs H Q E h=>?_) (fun X W cdv A outer s H vs Q E hX hW fl md hr h=>?_)
 ·obtain⟨p,F,S,c,rfl,_⟩:=h
  rfl
 ·obtain⟨p,F,S,c,rfl,hSh,qE,q⟩:=h
  obtain⟨dx,a1,a2,a3,d,kvs,h⟩:=id hSh
  subst hX
  refine⟨_,(zd (zY (zgD C_Sheet_refuse_if_sealed T.cl_Sheet fl (hM hr) (pv 0)))
   (zd (zD (zp zbx (pv 1) (wJ (pv 0) rfl) (by first | exact zt _ | rfl)) (zf (zaf rfl md rfl m_UnknownCouple x_UnknownCouple (za yd zb))) zu)
   (zd (zD (zp zbO (zk zg (by rfl) T.b_len PySem.boot_len (za (wJ (pv 0) rfl) zb)) zj (zt _)) (zf (zaf rfl md rfl m_LastCouple x_LastCouple (za yd zb))) zu)
   (zd (zc9 (pv 0) (zh C_without_couple (hM hr) rfl (za (wJ (pv 0) rfl) (za (pv 1) zb))) rfl)
   (zd (zY (zaw PySem.F.plainAttrs_list PySem.F.slot_list_append PySem.F.type_list_append yF (wJ (pv 0) rfl) (za (pv 1) zb)))
   (zf (yT PassesOwn.leaving rfl (zE (zQ C_Sheet_handed T.cl_Sheet (hM hr) (pv 0))) (zV (i:=2) zc3.nd rfl (Or.inl rfl))
     (zf (ps_dput (zgI hr) (wJ (pv 0) rfl) (pv 2) (zh C_without_couple (hM hr) rfl (za (pe_dget (zgI hr) (wJ (pv 0) rfl) (pv 2) (fun _ _=>rfl)) (za (pv 1) zb))) rfl))))))))),?_⟩
  have hln:=zx
  have h24:=h.ok.c24
  refine⟨_,rfl,p,dx,_,rfl,h.ip,rfl,p,F,S,rfl,hSh,(fun hs C hC=>?_),fun hs=>?_⟩
  ·rw[hW]
   exact qE "SheetSealed" (by unfold Sh.refuseS;rw[if_pos hs]) C hC
  have hs':¬S.shut=true:=by rw[hs];exact Bool.false_ne_true
  refine⟨_,rfl,_,rfl,p,_,dx,_,_,rfl,h.ip,T.cl_Sheet,T.n_Sheet_standing,rfl,a1,_,rfl,.inl (SqL.of h.i1),rfl,zG _,_,rfl,?_⟩
  rw[zfC]
  refine yk (fun hc=>?_) (fun hc=>?_)
  ·refine⟨(by show 1≤sizeLine;decide),?_⟩
   rw[hW]
   exact qE "UnknownCouple" (by unfold Sh.refuseS;rw[if_neg hs',if_neg hc]) _ n_UnknownCouple
  refine⟨_,rfl,p,_,dx,_,_,rfl,h.ip,T.cl_Sheet,T.n_Sheet_standing,rfl,a1,_,rfl,.inl (SqL.of h.i1),rfl,_,rfl,?_⟩
  rw[length_map]
  refine wv (fun h1=>?_) (fun h1=>?_)
  ·refine⟨(by show 1≤sizeLine;decide),?_⟩
   rw[hW]
   injection h1 with h1
   exact qE "LastCouple" (by unfold Sh.refuseS;rw[if_neg hs',if_pos hc,if_pos (by omega)]) _ n_LastCouple
  have h1:S.couples.length≠1:=fun z=>h1 (by rw[z];rfl)
  have hn:S.refuseS c=none:=by unfold Sh.refuseS;rw[if_neg hs',if_pos hc,if_neg h1]
  refine⟨_,rfl,p,_,dx,_,_,rfl,h.ip,T.cl_Sheet,T.n_Sheet_standing,rfl,_,rfl,a1,S.couples,c,rfl,SqL.of h.i1,by omega,fun b1 H2 s2 f2 e2=>?_⟩
  have ip:=s2 _ _ h.ip
  have i2:=s2 _ _ h.i2
  have i3:=s2 _ _ h.i3
  have i4:=s2 _ _ h.i4
  refine⟨_,rfl,p,_,dx,_,rfl,ip,T.cl_Sheet,T.n_Sheet_standing,(by show 6<1000;decide),?_⟩
  rw[zhS a1 a2 a3 d b1 S (S.strike c) rfl rfl]
  have n2:a2≠p:=wR i2 ip (by intro z;cases z)
  have n3:a3≠p:=wR i3 ip (by intro z;cases z)
  have n4:d≠p:=wR i4 ip (by intro z;cases z)
  have n1:b1≠p:=wR e2 ip (by intro z;cases z)
  have m2:a2≠d:=wR i2 i4 (by intro z;cases z)
  have b2:b1≠a2:=fun z=>by rw[z,h.i2] at f2;cases f2
  have ni2:upd H2 p (.ins (zL K "Sheet") dx (shF b1 a2 a3 d (S.strike c))) a2=some (.lst (S.struck.map V.int)):=by rw[zl n2];exact i2
  refine⟨_,rfl,p,_,dx,_,_,rfl,ze,T.cl_Sheet,T.n_Sheet_struck_so_far,rfl,.inl ⟨rfl,_,SqL.of ni2⟩,_,rfl,a2,_,_,rfl,rfl,ni2,(by rw[length_map];omega),?_⟩
  have up:∀b o,H2 b=some o→b≠p→b≠a2→upd (upd H2 p (.ins (zL K "Sheet") dx (shF b1 a2 a3 d (S.strike c)))) a2 (.lst (S.struck.map V.int++[V.int c])) b=some o:=fun b o e nb nd=>by rw[zl nd,zl nb];exact e
  have up1:upd (upd H2 p (.ins (zL K "Sheet") dx (shF b1 a2 a3 d (S.strike c)))) a2 (.lst (S.struck.map V.int++[V.int c])) p=some (.ins (zL K "Sheet") dx (shF b1 a2 a3 d (S.strike c))):=by rw[zl (Ne.symm n2)];exact ze
  have up2:upd (upd H2 p (.ins (zL K "Sheet") dx (shF b1 a2 a3 d (S.strike c)))) a2 (.lst (S.struck.map V.int++[V.int c])) a2=some (.lst ((S.strike c).struck.map V.int)):=lst_app _ _
  generalize hH3:upd (upd H2 p _) a2 _=H3 at up up1 up2 ⊢
  have F3:∀b,(F b∨b=b1)→H3 b≠none:=fun b hb=>by
   by_cases hbp:b=p
   ·rw[hbp,up1];exact fun z=>nomatch z
   by_cases hba:b=a2
   ·rw[hba,up2];exact fun z=>nomatch z
   rcases hb with hb | hb
   ·have:=h.fh b hb
    cases e:H b with
    | none=>exact absurd e this
    | some o=>rw[up _ _ (s2 _ _ e) hbp hba];exact fun z=>nomatch z
   ·rw[hb,up _ _ e2 n1 b2];exact fun z=>nomatch z
  have D3:zc5 F H (fun b=>F b∨b=b1) H3:=fun b o e n=>⟨up b o (s2 _ _ e) (fun z=>n (z ▸ h.fp)) (fun z=>n (z ▸ h.f2)),fun z=>z.elim n fun z=>by rw[z,f2] at e;cases e⟩
  have hcs:∀j cd,S.card j=some cd→∃l,zaW kvs (Sum.inr j)=some (.ref l)∧H3 l=some (.lst (cd.map V.int))∧(F l∨l=b1)∧l≠a2:=fun j cd e=>by
   obtain⟨l,x1,x2,x3,x4⟩:=h.cs j cd e
   exact⟨l,x1,up _ _ (s2 _ _ x2) (wR x2 h.ip (by intro z;cases z)) x4,.inl x3,x4⟩
  obtain⟨ok',_⟩:=h.ok.strike hn
  refine⟨_,rfl,p,dx,_,rfl,up1,rfl,p,(fun b=>F b∨b=b1),⟨wo c S.couples,S.struck++[c],S.panel,S.card,S.taken,S.shut⟩,rfl,⟨dx,b1,a2,a3,d,kvs,⟨up1,up _ _ e2 n1 b2,up2,up _ _ i3 n3 h.n32,up _ _ i4 n4 (Ne.symm m2),h.kl,h.cn,hcs,.inl h.fp,.inr rfl,.inl h.f2,.inl h.f3,.inl h.f4,b2,h.n32,F3⟩⟩,h.ok.p15,fun a H4 s4 f4 e4=>?_⟩
  have hhl:S.handed.length≤15:=le_trans (length_filter_le _ _) h.ok.p15
  refine⟨a,rfl,⟨_,SqL.of e4⟩,?_⟩
  refine ziH (xs:=S.handed.map V.str) (fun i σ H5=>∃(v:Option V)(kvs':List (Key×V)) (F':Addr→Prop),σ=[some (.ref p),some (.int c),v]∧H5 p=some (.ins (zL K "Sheet") dx (shF b1 a2 a3 d (S.strike c)))∧H5 b1=some (.lst ((wo c S.couples).map V.int))∧H5 a2=some (.lst ((S.strike c).struck.map V.int))∧H5 a3=some (.lst (S.panel.map V.str))∧H5 d=some (.dK kvs')∧H5 a=some (.lst (S.handed.map V.str)) ∧
   kvs'.length≤S.taken∧(∀j,S.card j=none→zaW kvs' (Sum.inr j)=none)∧(∀j cd,S.card j=some cd→∃l,zaW kvs' (Sum.inr j)=some (.ref l)∧H5 l=some (.lst ((if j∈S.handed.take i then wo c cd else cd).map V.int))∧F' l∧l≠a2)∧(∀b,F b→F' b)∧F' b1∧(∀b,F' b→H5 b≠none)∧zc5 F H F' H5)
   ⟨_,kvs,fun b=>F b∨b=b1,rfl,s4 _ _ up1,s4 _ _ (up _ _ e2 n1 b2),s4 _ _ up2,s4 _ _ (up _ _ i3 n3 h.n32),s4 _ _ (up _ _ i4 n4 (Ne.symm m2)),e4,h.kl,h.cn,(fun j cd e=>?_),(fun b hb=>.inl hb),.inr rfl,(fun b hb=>?_),fun b o e n=>⟨s4 _ _ (D3 b o e n).1,(D3 b o e n).2⟩⟩ ?_ ?_ ?_
  ·obtain⟨l,x1,x2,x3,x4⟩:=hcs j cd e
   exact⟨l,x1,by rw[if_neg (by rw[take_zero];exact not_mem_nil)];exact s4 _ _ x2,x3,x4⟩
  ·have:=F3 b hb
   cases e:H3 b with
   | none=>exact absurd e this
   | some o=>rw[s4 _ _ e];exact fun z=>nomatch z
  ·rintro i σ H5 hi ⟨v,kvs',F',rfl,w1,w2,w3,w4,w5,w6,_⟩
   exact SqL.of w6
  ·rintro i x σ H5 hx ⟨v,kvs',F',rfl,w1,w2,w3,w4,w5,w6,w7,w8,w9,w10,w11,w12,w13⟩
   obtain⟨hi,rfl⟩:=zaL hx
   have hm:=List.mem_filter.mp (show S.handed.getD i "" ∈ S.panel.filter fun j=>(S.card j).isSome from zak hi)
   generalize hj:S.handed.getD i ""=j at hm
   cases e:S.card j with
   | none=>rw[e] at hm;exact absurd hm.2 Bool.false_ne_true
   | some cd =>
     have hnd:S.handed.Nodup:=h.ok.pnd.filter _
     have hnt:j∉S.handed.take i:=fun z=>by
      have e1:S.handed.take (i+1)=S.handed.take i++[j]:=by rw[yg hi,hj]
      have e2:(S.handed.take (i+1)).Nodup:=hnd.sublist (List.take_sublist _ _)
      rw[e1] at e2
      exact(List.nodup_append.mp e2).2.2 j z j (List.mem_singleton.mpr rfl) rfl
     obtain⟨l,x1,x2,x3,x4⟩:=w9 j cd e
     rw[if_neg hnt] at x2
     have hcl:cd.length≤24:=by have:=(h.ok.cd j cd e).2.length_eq;omega
     refine⟨_,rfl,p,_,dx,_,_,rfl,w1,T.cl_Sheet,T.n_Sheet_card_by_judge,rfl,_,rfl,d,.ref l,rfl,x1 ▸ zev.k (k:=Sum.inr j) w5,_,rfl,l,cd,c,rfl,SqL.of x2,by omega,fun l' H6 s6 f6 e6=>?_⟩
     refine⟨_,rfl,p,_,dx,_,_,rfl,s6 _ _ w1,T.cl_Sheet,T.n_Sheet_card_by_judge,rfl,_,rfl,d,_,rfl,DPut.k (k:=Sum.inr j) (s6 _ _ w5) (by have:=h.ok.t200;omega),?_⟩
     have nd:∀b o,H6 b=some o→(∀k,o ≠ .dK k)→upd H6 d (.dK (zco kvs' (Sum.inr j) (.ref l'))) b=some o:=fun b o e n=>by rw[zl (wR e (s6 _ _ w5) (n _))];exact e
     have ld:l'≠d:=wR e6 (s6 _ _ w5) (by intro z;cases z)
     refine⟨_,zco kvs' (Sum.inr j) (.ref l'),fun b=>F' b∨b=l',rfl,nd _ _ (s6 _ _ w1) (fun _ z=>nomatch z),nd _ _ (s6 _ _ w2) (fun _ z=>nomatch z),nd _ _ (s6 _ _ w3) (fun _ z=>nomatch z),nd _ _ (s6 _ _ w4) (fun _ z=>nomatch z),ze,nd _ _ (s6 _ _ w6) (fun _ z=>nomatch z),by rw[putK_len x1];exact w7,fun k hk=>?_,fun k b hk=>?_,fun b hb=>.inl (w10 b hb),.inl w11,fun b hb=>?_,fun b o e' n=>?_⟩
     ·rw[zen,if_neg (fun z=>by injection z with z;rw[z,e] at hk;cases hk)]
      exact w8 k hk
     ·rw[zen,yg hi,hj]
      by_cases ek:k=j
      ·subst ek
       rw[e] at hk
       cases hk
       rw[if_pos rfl]
       refine⟨l',rfl,?_,.inr rfl,fun z=>by rw[z,w3] at f6;cases f6⟩
       rw[if_pos (mem_append_right _ (List.mem_singleton.mpr rfl))]
       exact nd _ _ e6 (fun _ z=>nomatch z)
      ·rw[if_neg (fun z=>ek (by injection z))]
       obtain⟨m,y1,y2,y3,y4⟩:=w9 k b hk
       refine⟨m,y1,?_,.inl y3,y4⟩
       have:(k∈S.handed.take i++[j])↔k∈S.handed.take i:=by
        rw[mem_append,List.mem_singleton]
        exact⟨fun z=>z.elim id fun w=>absurd w ek,.inl⟩
       simp only[this]
       exact nd _ _ (s6 _ _ y2) (fun _ z=>nomatch z)
     ·by_cases hbd:b=d
      ·rw[hbd,ze];exact fun z=>nomatch z
      rw[zl hbd]
      rcases hb with hb | hb
      ·have:=w12 b hb
       cases e7:H5 b with
       | none=>exact absurd e7 this
       | some o=>rw[s6 _ _ e7];exact fun z=>nomatch z
      ·rw[hb,e6];exact fun z=>nomatch z
     ·obtain⟨y1,y2⟩:=w13 b o e' n
      refine⟨?_,fun z=>z.elim y2 fun w=>by rw[w,f6] at y1;cases y1⟩
      have nbd:b≠d:=fun z=>n (by rw[z];exact h.f4)
      rw[zl nbd]
      exact s6 _ _ y1
  ·rintro σ H5 ⟨v,kvs',F',rfl,w1,w2,w3,w4,w5,w6,w7,w8,w9,w10,w11,w12,w13⟩
   rw[length_map,take_length] at w9
   refine q hn H5 F' ⟨dx,b1,a2,a3,d,kvs',⟨⟨w1,w2,w3,w4,w5,w7,fun j hj=>?_,fun j b hj=>?_,w10 _ h.fp,w11,w10 _ h.f2,w10 _ h.f3,w10 _ h.f4,b2,h.n32,w12⟩,ok'⟩⟩ w13
   ·have hj:(S.card j).map (wo c)=none:=hj
    exact w8 j (Option.map_eq_none_iff.mp hj)
   ·have hj:(S.card j).map (wo c)=some b:=hj
    obtain⟨cd,e,rfl⟩:=Option.map_eq_some_iff.mp hj
    obtain⟨l,x1,x2,x3,x4⟩:=w9 j cd e
    refine⟨l,x1,?_,x3,x4⟩
    have hin:j∈S.handed:=List.mem_filter.mpr ⟨(h.ok.cd j cd e).1,by rw[e];rfl⟩
    rw[if_pos hin] at x2
    exact x2
def yn(K:Frag):Sp:=fun vs H Q E=>∃(p:Addr)(F:Addr→Prop)(S:Sh)(j:Str),vs=[.ref p,.str j]∧zB K H p F S∧(j∉S.panel→∀C,zb4 K "UnknownJudge" C→E (.ref C) none H)∧(j∈S.panel→S.card j=none→∀C,zb4 K "NoCard" C→E (.ref C) none H) ∧
 (∀c,S.card j=some c→∀(l:Addr)(H':Hp),zi H H'→H l=none→H' l=some (.lst (c.map V.int))→Q (.ref l) H')
theorem zeD{f:Addr}{fd:FuncData}(F:Fun K "card_of" "Sheet.card_of" yH f fd)(T:Txt K mg)(C_Sheet_refuse_unknown_judge:CanMX P w K mg base 1 (zL K "Sheet") "refuse_unknown_judge" ["self","judge"] (zU K)):FnOk P w K mg base (CX1 P w) 2 f fd ["self","judge"] (yn K):=by
 obtain⟨c_NoCard,n_NoCard,m_NoCard,x_NoCard⟩:=T.x_NoCard
 refine F.okX zeF (fun vs H Q E h=>?_) (fun X W cdv A outer s H vs Q E hX hW fl md hr h=>?_)
 ·obtain⟨p,F,S,j,rfl,_⟩:=h
  rfl
 ·obtain⟨p,F,S,j,rfl,⟨dx,a1,a2,a3,d,kvs,h⟩,qU,qN,q⟩:=h
  subst hX
  refine⟨_,(zd (zY (wH C_Sheet_refuse_unknown_judge T.cl_Sheet fl (hM hr) (pv 0) (za (pv 1) zb)))
   (zd (zD (pt_cmp (pc_dnotin (zgI hr) (pv 1) (wJ (pv 0) rfl))) (zf (zaf rfl md rfl m_NoCard x_NoCard (za yd zb))) zu)
   (zf (zn (yb yo (by rfl) T.b_list boot_list (za (pe_dget (zgI hr) (wJ (pv 0) rfl) (pv 1) (fun _ _=>rfl)) zb)))))),?_⟩
  refine⟨_,rfl,p,dx,_,rfl,h.ip,rfl,_,rfl,p,F,S,j,rfl,⟨dx,a1,a2,a3,d,kvs,h⟩,fun hj C hC=>by rw[hW];exact qU hj C hC,fun hj=>?_⟩
  refine⟨_,rfl,_,rfl,p,_,dx,_,_,rfl,h.ip,T.cl_Sheet,T.n_Sheet_card_by_judge,rfl,d,_,rfl,zev.k (k:=Sum.inr j) h.i4,_,rfl,?_⟩
  cases e:S.card j with
  | none =>
    rw[h.cn _ e]
    exact⟨(by show 1≤sizeLine;decide),by rw[hW];exact qN hj e _ n_NoCard⟩
  | some c =>
    obtain⟨l,e1,e2,_⟩:=h.cs _ _ e
    rw[e1]
    refine⟨_,rfl,p,_,dx,_,_,rfl,h.ip,T.cl_Sheet,T.n_Sheet_card_by_judge,rfl,_,rfl,d,.ref l,rfl,e1 ▸ zev.k (k:=Sum.inr j) h.i4,l,_,rfl,.inl (SqL.of e2),fun l' hl'=>?_⟩
    exact q c e l' _ (zi.new hl') hl' ze
def zbp(K:Frag):Sp:=fun vs H Q _=>∃(a:Addr)(ns:List Int),vs=[.ref a]∧SqL K H a (ns.map V.int)∧ns.length<4000∧∀H',zi H H'→Q (.bl (M1.zcx ns)) H'
theorem zfd{f:Addr}{fd:FuncData}(F:Fun K "good_couples" "good_couples" yD f fd)(T:Txt K mg)(C_good_number:Can P w K mg base 1 "good_number" ["couple"] (zbU K))(C_good_length:Can P w K mg base 1 "good_length" ["things","most"] (wU K))(C_all_unlike:Can P w K mg base 1 "all_unlike" ["things"] (zbe K)):FnOk P w K mg base CX0 2 f fd ["couples"] (zbp K):=by
 refine F.ok zfh (fun vs H Q E h=>?_) (fun cdv A outer s H vs Q E hr h=>?_)
 ·obtain⟨a,ns,rfl,_⟩:=h
  rfl
 ·obtain⟨a,ns,rfl,hS,hz,q⟩:=h
  refine⟨_,(zf (zn (zes (zh C_good_length (hM hr) rfl (za (pv 0) (za (zdj T.c_MOST_COUPLES rfl) zb))) (zes (zh C_all_unlike (hM hr) rfl (za (pv 0) zb)) (zhq (zk (zfk rfl) (by rfl) T.b_all boot_all (za (zN (show CompScope (zc yD) ["couples"] "couple" [] [] _ from⟨rfl,by decide +kernel,by decide +kernel,rfl,by decide +kernel,rfl,by decide +kernel,by decide +kernel⟩) rfl (zE (pv 0)) (fun _ _ _ _ _=>yw) (fun _ _ _ _ _=>(zh C_good_number (hM hr) rfl (za (pv 0) zb)))) zb))))))),?_⟩
  refine⟨_,rfl,_,_,_,rfl,.inl ⟨_,hS,rfl⟩,_,rfl,?_⟩
  rw[length_map]
  unfold M1.zcx at q
  refine zhC (fun h1=>?_) (fun h1=>?_)
  ·rw[h1,Bool.true_and] at q
   refine⟨_,rfl,a,rfl,.inl ⟨ns,hS,hz,fun H1 s1=>⟨_,rfl,wv (fun h2=>?_) (fun h2=>?_)⟩⟩⟩
   ·rw[decide_eq_true h2,Bool.true_and] at q
    have hS1:=s1.seq hS
    refine⟨_,rfl,a,rfl,⟨_,hS1⟩,?_⟩
    refine yf (xs:=ns.map V.int) (fun i ys H2=>H2=H1∧ys=((ns.take i).map fun n=>decide (1≤n) && decide (n≤999)).map V.bl) ⟨rfl,rfl⟩ ?_ (by rw[length_map];have:=zx;omega) ?_ ?_
    ·rintro i ys H2 hi ⟨rfl,rfl⟩
     exact⟨hS1,by simp only[length_map,length_take];omega⟩
    ·rintro i x ys H2 hx ⟨rfl,rfl⟩
     obtain⟨hi,rfl⟩:=zam hx
     refine⟨_,rfl,_,rfl,rfl,?_⟩
     rw[wB hi,map_append,map_append]
     rfl
    ·rintro ys H2 ⟨rfl,rfl⟩ l hl
     rw[length_map,take_length]
     exact⟨l,_,rfl,SqL.new,q _ (s1.newT hl)⟩
   ·rw[decide_eq_false h2,Bool.false_and] at q
    exact q _ s1
  ·rw[h1,Bool.false_and] at q
   exact q _ (zi.refl _)
def zc2(K:Frag):Sp:=fun vs H Q _=>∃(z:Str),vs=[.str z]∧z.length≤1000∧∀H',zi H H'→Q (.bl (M2.zeZ z)) H'
theorem zhf{f:Addr}{fd:FuncData}(F:Fun K "good_name" "good_name" wV f fd)(T:Txt K mg)(C_small_letter:Can P w K mg base 1 "small_letter" ["sign"] (zbo K))(C_good_length:Can P w K mg base 1 "good_length" ["things","most"] (wU K)):FnOk P w K mg base CX0 2 f fd ["judge"] (zc2 K):=by
 refine F.ok zgZ (fun vs H Q E h=>?_) (fun cdv A outer s H vs Q E hr h=>?_)
 ·obtain⟨z,rfl,_⟩:=h
  rfl
 ·obtain⟨z,rfl,hz,q⟩:=h
  refine⟨_,(zf (zn (zes (zh C_good_length (hM hr) rfl (za (pv 0) (za (zdj T.c_MOST_SIGNS rfl) zb))) (zhq (zk (zfk rfl) (by rfl) T.b_all boot_all (za (zN (show CompScope (zc wV) ["judge"] "sign" [] [] _ from⟨rfl,by decide +kernel,by decide +kernel,rfl,by decide +kernel,rfl,by decide +kernel,by decide +kernel⟩) rfl (pi_str (pv 0)) (fun _ _ _ _ _=>yw) (fun _ _ _ _ _=>(zh C_small_letter (hM hr) rfl (za (pv 0) zb)))) zb)))))),?_⟩
  have hl:=zx
  refine⟨_,rfl,_,_,_,rfl,⟨by omega,rfl⟩,_,rfl,?_⟩
  unfold M2.zeZ at q
  refine zhC (fun h1=>?_) (fun h1=>?_)
  ·rw[h1,Bool.true_and] at q
   refine⟨_,rfl,z,rfl,?_⟩
   refine comp_str0 (fun i ys H2=>H2=H∧ys=((z.cps.toList.take i).map zdo).map V.bl) ⟨rfl,rfl⟩ ?_ (by omega) ?_ ?_
   ·rintro i ys H2 hi ⟨rfl,rfl⟩
    simp only[length_map,length_take]
    omega
   ·rintro i d ys H2 hx ⟨rfl,rfl⟩
    refine⟨_,rfl,d,rfl,rfl,?_⟩
    rw[take_succ,hx,map_append,map_append]
    rfl
   ·rintro ys H2 ⟨rfl,rfl⟩ l hl
    have e:z.cps.toList.take z.length=z.cps.toList:=take_of_length_le (by show z.cps.toList.length≤z.cps.size;rw[Array.length_toList];exact le_refl _)
    rw[e]
    exact⟨l,_,rfl,SqL.new,q _ (zi.new hl)⟩
  ·rw[h1,Bool.false_and] at q
   exact q _ (zi.refl _)
def zbi(K:Frag):Sp:=fun vs H Q _=>∃(a:Addr)(cs:List (List Int)) (c:Int),vs=[.ref a,.int c]∧zaQ K (IL K) H a cs∧cs.length≤1000∧(∀d∈cs,c∈d)∧∀(l:Addr)(H':Hp),zi H H'→H l=none→H' l=some (.lst ((M5.zm cs c).map V.int))→Q (.ref l) H'
theorem ziB{f:Addr}{fd:FuncData}(F:Fun K "marks_of" "marks_of" zar f fd)(T:Txt K mg)(C_mark_on:Can P w K mg base 1 "mark_on" ["card","couple"] (zdT K)):FnOk P w K mg base CX0 2 f fd ["cards","couple"] (zbi K):=by
 refine F.ok ziv (fun vs H Q E h=>?_) (fun cdv A outer s H vs Q E hr h=>?_)
 ·obtain⟨a,cs,c,rfl,_⟩:=h
  rfl
 ·obtain⟨a,cs,c,rfl,⟨ls,hS,hR⟩,hz,hc,q⟩:=h
  refine⟨_,(zf (zn (zN (show CompScope (zc zar) ["cards","couple"] "card" ["couple"] [1] _ from⟨rfl,by decide +kernel,by decide +kernel,rfl,by decide +kernel,rfl,by decide +kernel,by decide +kernel⟩) rfl (zE (pv 0)) (fun _ _ _ _ _=>yw) (fun _ _ _ _ _=>(zh C_mark_on (hM hr) rfl (za (pv 0) (za (pv 1) zb))))))),?_⟩
  have hlen:=hR.length
  refine⟨_,rfl,a,rfl,⟨_,hS⟩,?_⟩
  refine yf (xs:=ls.map V.ref) (fun i ys H2=>H2=H∧ys=(M5.zm (cs.take i) c).map V.int) ⟨rfl,rfl⟩ ?_ (by rw[length_map];have:=zx;omega) ?_ ?_
  ·rintro i ys H2 hi ⟨rfl,rfl⟩
   refine⟨hS,?_⟩
   rw[length_map,M5.zW,length_take]
   omega
  ·rintro i x ys H2 hx ⟨rfl,rfl⟩
   obtain⟨l,el,rfl⟩:=zal hx
   obtain⟨d,ed,rd⟩:=hR.getL el
   refine⟨_,rfl,_,rfl,l,d,c,rfl,rd,hc d (mem_of_getElem? ed),rfl,?_⟩
   rw[take_succ,ed]
   unfold M5.zm
   rw[map_append,map_append]
   rfl
  ·rintro ys H2 ⟨rfl,rfl⟩ l hl
   rw[length_map,hlen,take_length]
   exact q l _ (zi.new hl) hl ze
def zaV(K:Frag):Sp:=fun vs H Q _=>∃(a:Addr)(ms:List Int)(n:Int),vs=[.ref a,.int n]∧SqL K H a (ms.map V.int)∧ms.length≤1000∧∀(H':Hp),zi H H'→Q (.int (M3.cnt ms n)) H'
theorem ok_granted{f:Addr}{fd:FuncData}(F:Fun K "granted" "granted" zbG f fd)(T:Txt K mg)(C_granting:Can P w K mg base 1 "granting" ["marks","number"] (zb8 K)):FnOk P w K mg base CX0 2 f fd ["marks","number"] (zaV K):=by
 refine F.ok zi9 (fun vs H Q E h=>?_) (fun cdv A outer s H vs Q E hr h=>?_)
 ·obtain⟨a,ms,n,rfl,_⟩:=h
  rfl
 ·obtain⟨a,ms,n,rfl,hS,hz,q⟩:=h
  refine⟨_,(zf (zn (zk zg (by rfl) T.b_len PySem.boot_len (za (zh C_granting (hM hr) rfl (za (pv 0) (za (pv 1) zb))) zb)))),?_⟩
  refine⟨_,rfl,_,rfl,a,ms,n,rfl,hS,hz,fun l H1 s1 f1 e1=>?_⟩
  refine⟨l,_,rfl,.inl (SqL.of e1),?_⟩
  rw[length_map]
  exact q _ s1
def wO(K:Frag):Sp:=fun vs H Q _=>∃(a:Addr)(ms:List Int)(n:Int),vs=[.ref a,.int n]∧SqL K H a (ms.map V.int)∧ms.length≤1000∧∀(H':Hp),zi H H'→Q (.int (M3.sm ms n)) H'
theorem zfu{f:Addr}{fd:FuncData}(F:Fun K "granted_sum" "granted_sum" wA f fd)(T:Txt K mg)(C_granting:Can P w K mg base 1 "granting" ["marks","number"] (zb8 K)):FnOk P w K mg base CX0 2 f fd ["marks","number"] (wO K):=by
 refine F.ok zfM (fun vs H Q E h=>?_) (fun cdv A outer s H vs Q E hr h=>?_)
 ·obtain⟨a,ms,n,rfl,_⟩:=h
  rfl
 ·obtain⟨a,ms,n,rfl,hS,hz,q⟩:=h
  refine⟨_,(zf (zn (zk (zde rfl) (by rfl) T.b_sum boot_sum (za (zh C_granting (hM hr) rfl (za (pv 0) (za (pv 1) zb))) zb)))),?_⟩
  refine⟨_,rfl,_,rfl,a,ms,n,rfl,hS,hz,fun l H1 s1 f1 e1=>?_⟩
  exact⟨l,_,rfl,SqL.of e1,q _ s1⟩
def wx(K:Frag):Sp:=fun vs H Q _=>∃(a:Addr)(ms:List Int),vs=[.ref a]∧SqL K H a (ms.map V.int)∧ms≠[]∧ms.length≤60∧(∀x∈ms,1≤x∧x≤24)∧∀(H':Hp)(f:Int),zi H H'→M3.isF ms f→Q (.int f) H'
theorem zfa{f:Addr}{fd:FuncData}(F:Fun K "first_number" "first_number" wb f fd)(T:Txt K mg)(C_majority_of:Can P w K mg base 1 "majority_of" ["many"] (zbY K)):FnOk P w K mg base CX0 2 f fd ["marks"] (wx K):=by
 refine F.ok ze7 (fun vs H Q E h=>?_) (fun cdv A outer s H vs Q E hr h=>?_)
 ·obtain⟨a,ms,rfl,_⟩:=h
  rfl
 ·obtain⟨a,ms,rfl,hS,hne,hz,hx,q⟩:=h
  refine⟨_,(zf (zn (zA zy (zk zdy (by rfl) T.b_sorted PyProof.Rows.boot_sorted (za (pv 0) zb)) (zv za3 (zh C_majority_of (hM hr) rfl (za (zk zg (by rfl) T.b_len PySem.boot_len (za (pv 0) zb)) zb)) zj) (fun _ _=>rfl)))),?_⟩
  refine⟨_,rfl,a,ms,rfl,hS,by omega,fun l ns hl p w=>?_⟩
  refine⟨_,rfl,a,_,rfl,.inl ((zi.new hl).seq hS),_,rfl,_,_,rfl,rfl,?_⟩
  have hlen:=p.length_eq
  have hn:=List.length_pos_iff.mpr hne
  rw[length_map]
  refine⟨l,_,_,_,rfl,rfl,SqL.new,zct (by omega) (by omega),?_⟩
  have e:(((ms.length:Nat):Int)/2+1-1).toNat=ns.length/2:=by omega
  rw[e]
  exact q _ _ (zi.new hl) (M3.isF_perm p (M3.sorted_isF w fun z=>by rw[z] at hlen;simp at hlen;omega))
def zK(K:Frag):Sp:=fun vs H Q _=>∃(p:Addr)(F:Addr→Prop)(S:Sh)(n:Int),vs=[.ref p,.int n]∧zB K H p F S∧n≤S.handed.length∧∀H',zi H H'→Q .non H'
theorem zc7{f:Addr}{fd:FuncData}(F:Fun K "refuse_fewer_cards" "refuse_fewer_cards" yc f fd)(T:Txt K mg)(C_Sheet_handed:CanM P w K mg base 1 (zL K "Sheet") "handed" ["self"] (yh K)):FnOk P w K mg base CX0 2 f fd ["sheet","least"] (zK K):=by
 refine F.ok zc6 (fun vs H Q E h=>?_) (fun cdv A outer s H vs Q E hr h=>?_)
 ·obtain⟨p,F,S,n,rfl,_⟩:=h
  rfl
 ·obtain⟨p,F,S,n,rfl,hSh,hn,q⟩:=h
  refine⟨_,(zf (zD (zp ze3 (zk zg (by rfl) T.b_len PySem.boot_len (za (zQ C_Sheet_handed T.cl_Sheet (hM hr) (pv 0)) zb)) (pv 1) (zt _)) (zf zfp) zu)),?_⟩
  obtain⟨dx,b1,b2,b3,d,hip⟩:=hSh.ins
  refine⟨_,rfl,p,dx,_,rfl,hip,rfl,p,F,S,rfl,hSh.shape,hSh.ok.p15,fun l1 H1 s1 f1 e1=>?_⟩
  refine⟨l1,_,rfl,.inl (SqL.of e1),_,rfl,_,_,rfl,rfl,_,rfl,wv (fun h=>?_) (fun _=>q H1 s1)⟩
  rw[length_map] at h
  exact absurd h (by omega)
def zbj(K:Frag):Sp:=fun vs H Q _=>∃(a b:Addr)(ns ms:List Int),vs=[.ref a,.ref b]∧SqL K H a (ns.map V.int)∧SqL K H b (ms.map V.int)∧ms.length≤1000000∧Q (.bl (decide (ns=ms))) H
theorem same_all{ns ms:List Int}(hl:ns.length=ms.length)(h:∀j,j<ms.length→ns.getD j 0=ms.getD j 0):ns=ms:=by
 refine ext_getElem hl fun j h1 h2=>?_
 have:=h j h2
 rwa [getD_eq_getElem?_getD,getD_eq_getElem?_getD,getElem?_eq_getElem h1,getElem?_eq_getElem h2] at this
theorem zhW{f:Addr}{fd:FuncData}(F:Fun K "_law_same" "_law_same" za4 f fd)(T:Txt K mg)(C_law_whole:Can P w K mg base 1 "_law_whole" ["_law_found"] (zad K)):FnOk P w K mg base CX0 2 f fd ["_law_found","_law_due"] (zbj K):=by
 refine F.ok zeQ (fun vs H Q E h=>?_) (fun cdv A outer s H vs Q E hr h=>?_)
 ·obtain⟨a,b,ns,ms,rfl,_⟩:=h
  rfl
 ·obtain⟨a,b,ns,ms,rfl,hA,hB,hz,q⟩:=h
  refine⟨_,(zd (zD (PW.pt (zbv (ye (ya (zk zai (by rfl) T.b_isinstance boot_isinstance (za (pv 0) (za (zap (v:=V.ty "list") rfl T.b_list boot_list rfl) zb))))) (zas (zp yK (zk zg (by rfl) T.b_len PySem.boot_len (za (pv 0) zb)) (zk zg (by rfl) T.b_len PySem.boot_len (za (pv 1) zb)) (zt _))))) (zf (zn yq)) zu)
   (zd (yT PassesOwn.never rfl (ym rfl T.b_range (za (zk zg (by rfl) T.b_len PySem.boot_len (za (pv 1) zb)) zb)) (zV (i:=2) zeQ.nd rfl (Or.inl rfl))
     (zf (zD (PW.pt (zbv (ye (ya (zh C_law_whole (hM hr) rfl (za (zA zy (pv 0) (pv 2) (fun _ _=>rfl)) zb)))) (zas (zp yK (zA zy (pv 0) (pv 2) (fun _ _=>rfl)) (zA zy (pv 1) (pv 2) (fun _ _=>rfl)) (zt _))))) (zf (zn yq)) zu)))
   (zf (zn yq)))),?_⟩
  refine⟨_,rfl,_,_,rfl,.yes hA,_,rfl,wF ?_⟩
  refine⟨_,rfl,a,_,rfl,.inl hA,_,rfl,b,_,rfl,.inl hB,rfl,_,rfl,?_⟩
  rw[length_map,length_map]
  refine yk (fun hne=>?_) (fun he=>?_)
  ·show Q (.bl false) H
   have:ns≠ms:=fun e=>hne (by rw[e])
   rw[decide_eq_false this] at q
   exact q
  ·have hl:ns.length=ms.length:=by injection he with he;exact Int.ofNat.inj he
   refine⟨_,rfl,b,_,rfl,.inl hB,_,rfl,by omega,by rw[length_map];omega,?_⟩
   rw[length_map]
   refine zX (fun i σ H2=>∃v,σ=[some (.ref a),some (.ref b),v]∧H2=H∧∀j,j<i→ns.getD j 0=ms.getD j 0) ⟨_,rfl,rfl,fun j hj=>by omega⟩ ?_ ?_
   ·rintro i σ H2 hi ⟨v,rfl,rfl,hj⟩
    have hi':i<ms.length:=by simpa using hi
    have e1:atI (ns.map V.int) (0+(i:Int))=some (.int (ns.getD i 0)):=by rw[Int.zero_add];exact zP (zao (by omega))
    have e2:atI (ms.map V.int) (0+(i:Int))=some (.int (ms.getD i 0)):=by rw[Int.zero_add];exact zP (zao hi')
    refine⟨_,rfl,_,rfl,a,_,_,_,rfl,rfl,hA,e1,_,true,false,rfl,rfl,rfl,_,rfl,wF ?_⟩
    refine⟨_,rfl,_,rfl,a,_,_,_,rfl,rfl,hA,e1,_,rfl,_,rfl,b,_,_,_,rfl,rfl,hB,e2,rfl,_,rfl,yk (fun hne=>?_) (fun he=>?_)⟩
    ·show Q (.bl false) _
     have:ns≠ms:=fun e=>hne (by rw[e])
     rw[decide_eq_false this] at q
     exact q
    ·refine⟨_,rfl,rfl,fun j hj'=>?_⟩
     by_cases hji:j=i
     ·subst hji;injection he
     ·exact hj j (by omega)
   ·rintro σ H2 ⟨v,rfl,rfl,hj⟩
    show Q (.bl true) _
    have:ns=ms:=same_all hl fun j h=>hj j (by simpa using h)
    rw[decide_eq_true this] at q
    exact q
def zcD(K:Frag):Sp:=fun vs H Q _=>∃(a b:Addr)(ps:List (Int×Int)),vs=[.ref a,.ref b]∧zaQ K (TPl K) H a ps∧zaQ K (TPl K) H b ps∧ps.length≤1000∧Q (.bl true) H
theorem zhN{f:Addr}{fd:FuncData}(F:Fun K "_law_pairs" "_law_pairs" zaA f fd)(T:Txt K mg)(C_law_whole:Can P w K mg base 1 "_law_whole" ["_law_found"] (zad K)):FnOk P w K mg base CX0 2 f fd ["_law_found","_law_due"] (zcD K):=by
 refine F.ok zem (fun vs H Q E h=>?_) (fun cdv A outer s H vs Q E hr h=>?_)
 ·obtain⟨a,b,ps,rfl,_⟩:=h
  rfl
 ·obtain⟨a,b,ps,rfl,⟨ls,hA,rA⟩,⟨ks,hB,rB⟩,hz,q⟩:=h
  refine⟨_,(zd (zD (PW.pt (zbv (ye (ya (zk zai (by rfl) T.b_isinstance boot_isinstance (za (pv 0) (za (zap (v:=V.ty "list") rfl T.b_list boot_list rfl) zb))))) (zas (zp yK (zk zg (by rfl) T.b_len PySem.boot_len (za (pv 0) zb)) (zk zg (by rfl) T.b_len PySem.boot_len (za (pv 1) zb)) (zt _))))) (zf (zn yq)) zu)
   (zd (yT PassesOwn.never rfl (ym rfl T.b_range (za (zk zg (by rfl) T.b_len PySem.boot_len (za (pv 1) zb)) zb)) (zV (i:=2) zem.nd rfl (Or.inl rfl))
     (zd (zD (PW.pt (zbv (ye (ya (zk zbV (by rfl) T.b_isinstance boot_isinstance (za (zA zy (pv 0) (pv 2) (fun _ _=>rfl)) (za (zap (v:=V.ty "tuple") rfl T.b_tuple boot_tuple rfl) zb))))) (zas (zp yK (zk zg (by rfl) T.b_len PySem.boot_len (za (zA zy (pv 0) (pv 2) (fun _ _=>rfl)) zb)) zj (zt _))))) (zf (zn yq)) zu)
   (zd (zD (PW.pt (zbv (ye (ya (zh C_law_whole (hM hr) rfl (za (zA yt (zA zy (pv 0) (pv 2) (fun _ _=>rfl)) zj (fun _ _=>rfl)) zb)))) (zas (ye (ya (zh C_law_whole (hM hr) rfl (za (zA yt (zA zy (pv 0) (pv 2) (fun _ _=>rfl)) zj (fun _ _=>rfl)) zb))))))) (zf (zn yq)) zu)
   (zf (zD (PW.pt (zbv (zp yK (zA yt (zA zy (pv 0) (pv 2) (fun _ _=>rfl)) zj (fun _ _=>rfl)) (zA yt (zA zy (pv 1) (pv 2) (fun _ _=>rfl)) zj (fun _ _=>rfl)) (zt _)) (zas (zp yK (zA yt (zA zy (pv 0) (pv 2) (fun _ _=>rfl)) zj (fun _ _=>rfl)) (zA yt (zA zy (pv 1) (pv 2) (fun _ _=>rfl)) zj (fun _ _=>rfl)) (zt _))))) (zf (zn yq)) zu)))))
   (zf (zn yq)))),?_⟩
  have la:=rA.length
  have lb:=rB.length
  refine⟨_,rfl,_,_,rfl,.yes hA,_,rfl,wF ?_⟩
  refine⟨_,rfl,a,_,rfl,.inl hA,_,rfl,b,_,rfl,.inl hB,rfl,_,rfl,?_⟩
  rw[length_map,length_map]
  refine yk (fun hne=>absurd (by rw[la,lb]) hne) (fun he=>?_)
  refine⟨_,rfl,b,_,rfl,.inl hB,_,rfl,by omega,by rw[length_map];omega,?_⟩
  rw[length_map]
  refine zX (fun i σ H2=>∃v,σ=[some (.ref a),some (.ref b),v]∧H2=H) ⟨_,rfl,rfl⟩ ?_ ?_
  ·rintro i σ H2 hi ⟨v,rfl,rfl⟩
   have hi':i<ps.length:=by rw[←lb];simpa using hi
   obtain⟨l,el,rl⟩:=rA.get (getElem?_eq_getElem hi')
   obtain⟨k,ek,rk⟩:=rB.get (getElem?_eq_getElem hi')
   generalize ps[i]=p at rl rk
   have e1:atI (ls.map V.ref) (0+(i:Int))=some (.ref l):=by rw[Int.zero_add];exact zP (wt el)
   have e2:atI (ks.map V.ref) (0+(i:Int))=some (.ref k):=by rw[Int.zero_add];exact zP (wt ek)
   refine⟨_,rfl,_,rfl,a,_,_,_,rfl,rfl,hA,e1,_,_,rfl,.yes rl,_,rfl,wF ?_⟩
   refine⟨_,rfl,_,rfl,a,_,_,_,rfl,rfl,hA,e1,l,_,rfl,.inr rl,rfl,_,rfl,yk (fun h=>absurd rfl h) (fun _=>?_)⟩
   refine⟨_,rfl,_,rfl,a,_,_,_,rfl,rfl,hA,e1,l,_,_,_,rfl,rfl,rl,rfl,_,true,false,rfl,rfl,rfl,_,rfl,wF ?_⟩
   refine⟨_,rfl,_,rfl,a,_,_,_,rfl,rfl,hA,e1,l,_,_,_,rfl,rfl,rl,rfl,_,true,false,rfl,rfl,rfl,_,rfl,wF ?_⟩
   refine⟨_,rfl,_,rfl,a,_,_,_,rfl,rfl,hA,e1,l,_,_,_,rfl,rfl,rl,rfl,_,rfl,_,rfl,b,_,_,_,rfl,rfl,hB,e2,k,_,_,_,rfl,rfl,rk,rfl,rfl,_,rfl,yk (fun h=>absurd rfl h) (fun _=>?_)⟩
   refine⟨_,rfl,_,rfl,a,_,_,_,rfl,rfl,hA,e1,l,_,_,_,rfl,rfl,rl,rfl,_,rfl,_,rfl,b,_,_,_,rfl,rfl,hB,e2,k,_,_,_,rfl,rfl,rk,rfl,rfl,_,rfl,yk (fun h=>absurd rfl h) (fun _=>?_)⟩
   exact⟨_,rfl,rfl⟩
  ·rintro σ H2 ⟨v,rfl,rfl⟩
   exact q
def zcW(K:Frag):Sp:=fun vs H Q _=>∃(a b:Addr)(ps:List M6.R4),vs=[.ref a,.ref b]∧zaQ K (F4 K) H a ps∧zaQ K (F4 K) H b ps∧ps.length≤1000∧Q (.bl true) H
theorem zg8{f:Addr}{fd:FuncData}(F:Fun K "_law_fours" "_law_fours" zaB f fd)(T:Txt K mg)(C_law_whole:Can P w K mg base 1 "_law_whole" ["_law_found"] (zad K)):FnOk P w K mg base CX0 2 f fd ["_law_found","_law_due"] (zcW K):=by
 refine F.ok zcC (fun vs H Q E h=>?_) (fun cdv A outer s H vs Q E hr h=>?_)
 ·obtain⟨a,b,ps,rfl,_⟩:=h
  rfl
 ·obtain⟨a,b,ps,rfl,⟨ls,hA,rA⟩,⟨ks,hB,rB⟩,hz,q⟩:=h
  refine⟨_,(zd (zD (PW.pt (zbv (ye (ya (zk zai (by rfl) T.b_isinstance boot_isinstance (za (pv 0) (za (zap (v:=V.ty "list") rfl T.b_list boot_list rfl) zb))))) (zas (zp yK (zk zg (by rfl) T.b_len PySem.boot_len (za (pv 0) zb)) (zk zg (by rfl) T.b_len PySem.boot_len (za (pv 1) zb)) (zt _))))) (zf (zn yq)) zu)
   (zd (yT PassesOwn.never rfl (ym rfl T.b_range (za (zk zg (by rfl) T.b_len PySem.boot_len (za (pv 1) zb)) zb)) (zV (i:=2) zcC.nd rfl (Or.inl rfl))
     (zd (zD (PW.pt (zbv (ye (ya (zk zbV (by rfl) T.b_isinstance boot_isinstance (za (zA zy (pv 0) (pv 2) (fun _ _=>rfl)) (za (zap (v:=V.ty "tuple") rfl T.b_tuple boot_tuple rfl) zb))))) (zbv (zp yK (zk zg (by rfl) T.b_len PySem.boot_len (za (zA zy (pv 0) (pv 2) (fun _ _=>rfl)) zb)) zj (zt _)) (zas (ye (ya (zk zeg (by rfl) T.b_isinstance boot_isinstance (za (zA yt (zA zy (pv 0) (pv 2) (fun _ _=>rfl)) zj (fun _ _=>rfl)) (za (zap (v:=V.ty "str") rfl T.b_str boot_str rfl) zb))))))))) (zf (zn yq)) zu)
   (zd (yT PassesOwn.never rfl (ym rfl T.b_range (za zj zb)) (zV (i:=3) zcC.nd rfl (Or.inl rfl))
     (zf (zD (PW.pt (zbv (ye (ya (zh C_law_whole (hM hr) rfl (za (zA yt (zA zy (pv 0) (pv 2) (fun _ _=>rfl)) (pv 3) (fun _ _=>rfl)) zb)))) (zas (zp yK (zA yt (zA zy (pv 0) (pv 2) (fun _ _=>rfl)) (pv 3) (fun _ _=>rfl)) (zA yt (zA zy (pv 1) (pv 2) (fun _ _=>rfl)) (pv 3) (fun _ _=>rfl)) (zt _))))) (zf (zn yq)) zu)))
   (zf (zD (zp yK (zA yt (zA zy (pv 0) (pv 2) (fun _ _=>rfl)) zj (fun _ _=>rfl)) (zA yt (zA zy (pv 1) (pv 2) (fun _ _=>rfl)) zj (fun _ _=>rfl)) (zt _)) (zf (zn yq)) zu)))))
   (zf (zn yq)))),?_⟩
  have la:=rA.length
  have lb:=rB.length
  refine⟨_,rfl,_,_,rfl,.yes hA,_,rfl,wF ?_⟩
  refine⟨_,rfl,a,_,rfl,.inl hA,_,rfl,b,_,rfl,.inl hB,rfl,_,rfl,?_⟩
  rw[length_map,length_map]
  refine yk (fun hne=>absurd (by rw[la,lb]) hne) (fun he=>?_)
  refine⟨_,rfl,b,_,rfl,.inl hB,_,rfl,by omega,by rw[length_map];omega,?_⟩
  rw[length_map]
  refine zX (fun i σ H2=>∃v w,σ=[some (.ref a),some (.ref b),v,w]∧H2=H) ⟨_,_,rfl,rfl⟩ ?_ ?_
  ·rintro i σ H2 hi ⟨v,w,rfl,rfl⟩
   have hi':i<ps.length:=by rw[←lb];simpa using hi
   obtain⟨l,el,rl⟩:=rA.get (getElem?_eq_getElem hi')
   obtain⟨k,ek,rk⟩:=rB.get (getElem?_eq_getElem hi')
   generalize ps[i]=p at rl rk
   have e1:atI (ls.map V.ref) (0+(i:Int))=some (.ref l):=by rw[Int.zero_add];exact zP (wt el)
   have e2:atI (ks.map V.ref) (0+(i:Int))=some (.ref k):=by rw[Int.zero_add];exact zP (wt ek)
   refine⟨_,rfl,_,rfl,a,_,_,_,rfl,rfl,hA,e1,_,_,rfl,.yes rl,_,rfl,wF ?_⟩
   refine⟨_,rfl,_,rfl,a,_,_,_,rfl,rfl,hA,e1,l,_,rfl,.inr rl,rfl,_,rfl,yk (fun h=>absurd rfl h) (fun _=>?_)⟩
   refine⟨_,rfl,_,rfl,a,_,_,_,rfl,rfl,hA,e1,l,_,_,_,rfl,rfl,rl,rfl,_,_,rfl,rfl,_,rfl,wF ?_⟩
   refine⟨_,rfl,by decide,by decide,zX (fun j σ H3=>∃w,σ=[some (.ref a),some (.ref b),some (.int (0+(i:Int))),w]∧H3=H2) ⟨_,rfl,rfl⟩ ?_ ?_⟩
   ·rintro j σ H3 hj ⟨w,rfl,rfl⟩
    have hj:j<3:=hj
    obtain⟨z,ez⟩:∃z:Int,atI [V.int p.1,.int p.2.1,.int p.2.2.1,.str p.2.2.2] (0+(j:Int))=some (.int z):=by
     match j,hj with
     | 0,_=>exact⟨_,rfl⟩
     | 1,_=>exact⟨_,rfl⟩
     | 2,_=>exact⟨_,rfl⟩
    refine⟨_,rfl,_,rfl,a,_,_,_,rfl,rfl,hA,e1,_,rfl,l,_,_,_,rfl,rfl,rl,ez,_,true,false,rfl,rfl,rfl,_,rfl,wF ?_⟩
    refine⟨_,rfl,_,rfl,a,_,_,_,rfl,rfl,hA,e1,_,rfl,l,_,_,_,rfl,rfl,rl,ez,_,rfl,_,rfl,b,_,_,_,rfl,rfl,hB,e2,_,rfl,k,_,_,_,rfl,rfl,rk,ez,rfl,_,rfl,yk (fun h=>absurd rfl h) (fun _=>⟨_,rfl,rfl⟩)⟩
   ·rintro σ H3 ⟨w,rfl,rfl⟩
    refine⟨_,rfl,_,rfl,a,_,_,_,rfl,rfl,hA,e1,l,_,_,_,rfl,rfl,rl,rfl,_,rfl,_,rfl,b,_,_,_,rfl,rfl,hB,e2,k,_,_,_,rfl,rfl,rk,rfl,rfl,_,rfl,yk (fun h=>absurd rfl h) (fun _=>⟨_,_,rfl,rfl⟩)⟩
  ·rintro σ H2 ⟨v,w,rfl,rfl⟩
   exact q
def zdc(K:Frag):Sp:=fun vs H Q _=>∃(c:Int)(a:Addr)(ns:List Int)(y:Int),vs=[.int c,.ref a,.int y]∧SqL K H a (ns.map V.int)∧ns≠[]∧ns.length≤1000∧∀(l:Addr)(H':Hp)(ms:List Int),zi H H'→H l=none→H' l=some (.lst (ms.map V.int))→ms.Perm ns→Q (.ref l) H'
theorem ziT{f:Addr}{fd:FuncData}(F:Fun K "_law_card" "_law_card" za6 f fd)(T:Txt K mg)(C_law_mix:Can P w K mg base 1 "_law_mix" ["_law_cell","_law_place"] (zdO K)):FnOk P w K mg base CX0 2 f fd ["_law_cell","_law_couples_here","_law_style"] (zdc K):=by
 refine F.ok yi (fun vs H Q E h=>?_) (fun cdv A outer s H vs Q E hr h=>?_)
 ·obtain⟨c,a,ns,y,rfl,_⟩:=h
  rfl
 ·obtain⟨c,a,ns,y,rfl,hS,hne,hz,q⟩:=h
  refine⟨_,(zd (zz (i:=3) yi.nd rfl (Or.inl rfl) (yb yo (by rfl) T.b_list boot_list (za (pv 1) zb)))
   (zd (zD (zp zbO (pv 2) zj (zt _)) (zd (zz (i:=4) yi.nd rfl (Or.inl rfl) (zv yV (pv 0) (zk zg (by rfl) T.b_len PySem.boot_len (za (pv 1) zb))))
   (zd (zz (i:=3) yi.nd rfl (Or.inl rfl) (zv wD (yC zac (pv 3) (yZ (pv 4)) wE) (yC zac (pv 3) wE (yZ (pv 4)))))
   (zd (zD (zp zbO (zv yV (zv zca (pv 0) (zk zg (by rfl) T.b_len PySem.boot_len (za (pv 1) zb))) zj) zj (zt _)) (zf (zz (i:=3) yi.nd rfl (Or.inl rfl) (pe_rev (pv 3) (pe_un un_neg zj)))) zu)
   (zf (zn (pv 3)))))) zu)
   (zd (zz (i:=5) yi.nd rfl (Or.inl rfl) (pv 0))
   (zd (zD (zp zbO (pv 2) zj (zt _)) (zf (zz (i:=5) yi.nd rfl (Or.inl rfl) (zh C_law_mix (hM hr) rfl (za (pv 0) (za (zk zg (by rfl) T.b_len PySem.boot_len (za (pv 1) zb)) zb))))) zu)
   (zd (zz (i:=6) yi.nd rfl (Or.inl rfl) (zO zb))
   (zd (yT PassesOwn.never rfl (ym rfl T.b_range (za (zk zg (by rfl) T.b_len PySem.boot_len (za (pv 1) zb)) zb)) (zV (i:=7) yi.nd rfl (Or.inl rfl))
     (zd (zz (i:=8) yi.nd rfl (Or.inl rfl) (zv yV (pv 5) (zk zg (by rfl) T.b_len PySem.boot_len (za (pv 3) zb))))
   (zd (zz (i:=5) yi.nd rfl (Or.inl rfl) (zv zca (pv 5) (zk zg (by rfl) T.b_len PySem.boot_len (za (pv 3) zb))))
   (zd (zY (zaw PySem.F.plainAttrs_list PySem.F.slot_list_append PySem.F.type_list_append yF (pv 6) (za (zaw PySem.F.plainAttrs_list PySem.F.slot_list_pop PySem.F.type_list_pop mt_popAt (pv 3) (za (pv 8) zb)) zb)))
   (zf (zD (zp zbO (pv 2) zj (zt _)) (zf (zz (i:=5) yi.nd rfl (Or.inl rfl) (zh C_law_mix (hM hr) rfl (za (zv zZ (pv 5) (pv 8)) (za (pv 7) zb))))) zu))))))
   (zf (zn (pv 6))))))))),?_⟩
  have hpos:0<ns.length:=List.length_pos_iff.mpr hne
  -- pool=list(couples)
  refine⟨_,rfl,a,_,rfl,.inl hS,fun p0 hp0=>?_⟩
  have s0:zi H (upd H p0 (.lst (ns.map V.int))):=zi.new hp0
  refine⟨_,rfl,rfl,_,rfl,wv (fun _=>?_) (fun _=>?_)⟩
  ·-- a turn,maybe turned round
   have ht:0≤c%(ns.map V.int).length:=Int.emod_nonneg _ (by rw[length_map];omega)
   refine⟨_,rfl,_,rfl,a,_,rfl,.inl (s0.seq hS),_,_,rfl,rfl,(by show(0:Int)<(ns.map V.int).length;rw[length_map];omega),?_⟩
   refine⟨_,rfl,_,rfl,_,rfl,p0,_,rfl,SqL.new,fun p1 hp1=>?_⟩
   rw[zdD ht]
   refine⟨_,rfl,_,rfl,_,rfl,p0,_,rfl,(zi.new hp1).seq SqL.new,fun p2 hp2=>?_⟩
   rw[zez ht]
   have n21:p1≠p2:=zr ze hp2
   refine⟨p1,p2,_,_,rfl,rfl,by rw[zl n21];exact ze,ze,?_,fun p3 hp3=>?_⟩
   ·simp only[length_map,length_take,length_drop];have:=zx;omega
   rw[←map_append]
   have f1:H p1=none:=s0.free hp1
   have s1:=s0.newT (o:=.lst ((ns.drop (c%(ns.map V.int).length).toNat).map V.int)) hp1
   have s2:=s1.newT (o:=.lst ((ns.take (c%(ns.map V.int).length).toNat).map V.int)) hp2
   have s3:=s2.newT (o:=.lst ((ns.drop (c%(ns.map V.int).length).toNat++ns.take (c%(ns.map V.int).length).toNat).map V.int)) hp3
   have pm:(ns.drop (c%(ns.map V.int).length).toNat++ns.take (c%(ns.map V.int).length).toNat).Perm ns:=by
    have:=List.perm_append_comm (l₁:=ns.drop (c%(ns.map V.int).length).toNat) (l₂:=ns.take (c%(ns.map V.int).length).toNat)
    rwa [take_append_drop] at this
   refine⟨_,rfl,_,rfl,a,_,rfl,.inl (s3.seq hS),_,_,rfl,rfl,⟨by rw[length_map];omega,by rw[length_map];omega⟩,_,_,rfl,rfl,(by show(0:Int)<2;decide),rfl,_,rfl,wv (fun _=>?_) (fun _=>?_)⟩
   ·refine⟨_,rfl,_,rfl,rfl,p3,_,rfl,SqL.new,fun p4 hp4=>?_⟩
    rw[←List.map_reverse]
    exact⟨_,rfl,q p4 _ _ (s3.newT hp4) (s3.free hp4) ze ((List.reverse_perm _).trans pm)⟩
   ·exact⟨_,rfl,q p3 _ _ s3 (s2.free hp3) ze pm⟩
  ·-- dealt out of the pool
   refine⟨_,rfl,?_⟩
   refine⟨_,rfl,rfl,_,rfl,wv (fun _=>?_) (fun _=>?_)⟩
   all_goals
    first
     | refine⟨by decide,fun m0 hm0=>?_⟩
     | refine⟨_,rfl,_,rfl,a,_,rfl,.inl (s0.seq hS),_,_,rfl,?_⟩
       refine⟨by decide,fun m0 hm0=>?_⟩
    have s1:=s0.newT (o:=.lst []) hm0
    have fm:H m0=none:=s0.free hm0
    have npm:p0≠m0:=zr ze hm0
    refine⟨_,rfl,a,_,rfl,.inl (s1.seq hS),_,rfl,by omega,by rw[length_map];omega,?_⟩
    rw[length_map]
    refine zX (fun i σ H2=>∃(pool made:List Int)(left:Int)(v4 v7 v8:Option V),σ=[some (.int c),some (.ref a),some (.int y),some (.ref p0),v4,some (.int left),some (.ref m0),v7,v8]∧zi H H2∧H2 p0=some (.lst (pool.map V.int))∧H2 m0=some (.lst (made.map V.int))∧pool.length+i=ns.length∧(made++pool).Perm ns)
     ⟨ns,[],_,_,_,_,rfl,s1,by rw[zl npm];exact ze,ze,rfl,List.Perm.refl _⟩ ?_ ?_
    ·rintro i σ H2 hi ⟨pool,made,left,v4,v7,v8,rfl,s2,e1,e2,hlen,pm⟩
     have hi':i<ns.length:=by simpa using hi
     have hpl:0<pool.length:=by omega
     have hr0:0≤left%((pool.map V.int).length:Int):=Int.emod_nonneg _ (by rw[length_map];omega)
     have hr1:left%((pool.map V.int).length:Int)<pool.length:=by
      have:=Int.emod_lt_of_pos left (b:=((pool.map V.int).length:Int)) (by rw[length_map];omega)
      rwa [length_map] at this ⊢
     have hsl:(left%((pool.map V.int).length:Int)).toNat<pool.length:=by omega
     have hix:seqIndex? (left%((pool.map V.int).length:Int)) (pool.map V.int).length=some (left%((pool.map V.int).length:Int)).toNat:=seqIx_ok hr0 (by rw[length_map] at hr1 ⊢;exact hr1)
     refine⟨_,rfl,_,rfl,p0,_,rfl,.inl (SqL.of e1),_,_,rfl,rfl,(by show(0:Int)<(pool.map V.int).length;rw[length_map];omega),?_⟩
     refine⟨_,rfl,_,rfl,p0,_,rfl,.inl (SqL.of e1),_,_,rfl,rfl,⟨by rw[length_map];omega,by rw[length_map];omega⟩,?_⟩
     refine⟨_,rfl,.inl ⟨rfl,_,SqL.of e2⟩,_,rfl,.inl ⟨rfl,_,SqL.of e1⟩,_,rfl,p0,_,_,_,_,rfl,rfl,e1,by omega,by omega,hix,zao hsl,?_⟩
     generalize (left%((pool.map V.int).length:Int)).toNat=j at hsl
     rw[zgO]
     have s3:zi H (upd H2 p0 (.lst ((pool.eraseIdx j).map V.int))):=s2.put hp0
     refine⟨m0,_,_,rfl,rfl,by rw[zl (Ne.symm npm)];exact e2,by rw[length_map];have:=pm.length_eq;rw[length_append] at this;have:=zx;omega,?_⟩
     have s4:zi H (upd (upd H2 p0 (.lst ((pool.eraseIdx j).map V.int))) m0 (.lst ((made++[pool.getD j 0]).map V.int))):=s3.put fm
     have pm2:(made++[pool.getD j 0]++pool.eraseIdx j).Perm ns:=by
      refine List.Perm.trans ?_ pm
      rw[append_assoc]
      refine List.Perm.append_left _ ?_
      have e:pool.getD j 0=pool[j]:=by rw[getD_eq_getElem?_getD,getElem?_eq_getElem hsl];rfl
      rw[e]
      exact zfD pool j hsl
     have hl2:(pool.eraseIdx j).length+(i+1)=ns.length:=by rw[List.length_eraseIdx_of_lt hsl];omega
     have e1':upd (upd H2 p0 (.lst ((pool.eraseIdx j).map V.int))) m0 (.lst ((made++[pool.getD j 0]).map V.int)) p0=some (.lst ((pool.eraseIdx j).map V.int)):=by rw[zl npm];exact ze
     have eap:made.map V.int++[V.int (pool.getD j 0)]=(made++[pool.getD j 0]).map V.int:=by rw[map_append];rfl
     rw[eap]
     refine⟨_,rfl,rfl,_,rfl,wv (fun _=>?_) (fun _=>?_)⟩
     ·refine⟨_,rfl,_,rfl,_,_,rfl,rfl,_,rfl,_,_,rfl,?_⟩
      exact⟨_,_,_,_,_,_,rfl,s4,e1',ze,hl2,pm2⟩
     ·exact⟨_,_,_,_,_,_,rfl,s4,e1',ze,hl2,pm2⟩
    ·rintro σ H2 ⟨pool,made,left,v4,v7,v8,rfl,s2,e1,e2,hlen,pm⟩
     have hl0:(ns.length:Int).toNat=ns.length:=Int.toNat_natCast _
     have hp:pool=[]:=List.eq_nil_of_length_eq_zero (by omega)
     subst hp
     rw[append_nil] at pm
     exact⟨_,rfl,q m0 _ _ s2 fm e2 pm⟩
def zbE(K:Frag):Sp:=fun vs H Q _=>∃(a b:Addr)(cs:List (List Int)) (us:List Int),vs=[.ref a,.ref b]∧zaQ K (IL K) H a cs∧SqL K H b (us.map V.int)∧cs.length≤500∧us.length≤500∧(∀u∈us,∀d∈cs,u∈d)∧∀(l:Addr)(H':Hp),zi H H'→H l=none→H' l=some (.lst ((M5.spots cs us).map V.int))→Q (.ref l) H'
theorem zhI{f:Addr}{fd:FuncData}(F:Fun K "_law_spots" "_law_spots" wg f fd)(T:Txt K mg)(C_law_marks:Can P w K mg base 1 "_law_marks" ["_law_cards","_law_couple"] (zaI K))(C_law_key:Can P w K mg base 1 "_law_key" ["_law_marks_here","_law_last"] (zdR K)):FnOk P w K mg base CX0 2 f fd ["_law_cards","_law_couples_here"] (zbE K):=by
 refine F.ok zee (fun vs H Q E h=>?_) (fun cdv A outer s H vs Q E hr h=>?_)
 ·obtain⟨a,b,cs,us,rfl,_⟩:=h
  rfl
 ·obtain⟨a,b,cs,us,rfl,hA,hB,hz,hu,hm,q⟩:=h
  refine⟨_,(zd (zz (i:=2) zee.nd rfl (Or.inr rfl) (zN (show CompScope (zc wg) ["_law_cards","_law_couples_here","_law_ranks"] "_law_couple" ["_law_cards","_law_couples_here"] [0,1] _ from⟨rfl,by decide +kernel,by decide +kernel,rfl,by decide +kernel,rfl,by decide +kernel,by decide +kernel⟩) rfl (zE (pv 1)) (fun _ _ _ _ _=>yw) (fun _ _ _ _ _=>(zh C_law_key (hM hr) rfl (za (zh C_law_marks (hM hr) rfl (za (pv 1) (za (pv 0) zb))) (za (zk (zck (K:=K) rfl) (by rfl) T.b_len PySem.boot_len (za (pv 2) zb)) zb))))))
   (zf (zn (pe_compC (show CompScopeC (zc wg) ["_law_cards","_law_couples_here","_law_ranks"] "_law_mine" ["_law_ranks"] [2] _ from⟨rfl,fun _ _=>rfl,fun _=>rfl,by decide +kernel,by decide +kernel,rfl,by decide +kernel,rfl,by decide +kernel,by decide +kernel⟩) rfl (zE (pv 2)) (fun _ _ _ _ _ _=>yw) (fun _ _ _ _ _ _=>(zv zZ zj (zk (zck (K:=K) rfl) (by rfl) T.b_len PySem.boot_len (za (zN (CompScope.under (show CompScope _ ["_law_mine","_law_ranks"] "_law_rank" ["_law_mine"] [0] _ from⟨rfl,by decide +kernel,by decide +kernel,rfl,by decide +kernel,rfl,by decide +kernel,by decide +kernel⟩)) rfl (pi_listK (K:=K) rfl (pv 1)) (fun _ _ _ _ _=>(yS (zp (zid (K:=K) rfl hr.units0) (pv 0) (pv 1) (zt _)))) (fun _ _ _ _ _=>(pv 0))) zb)))))))),?_⟩
  have hln:=zx
  refine⟨_,rfl,b,rfl,⟨_,hB⟩,?_⟩
  refine yf (xs:=us.map V.int) (fun i ys H2=>zi H H2∧∃ls:List Addr,ys=ls.map V.ref∧All2 (IL K H2) ls ((us.take i).map fun c=>M5.key (M5.zm cs c) us.length)) ⟨zi.refl _,[],rfl,.nil⟩ ?_ (by rw[length_map];omega) ?_ ?_
  ·rintro i ys H2 hi ⟨s2,ls,rfl,r⟩
   refine⟨s2.seq hB,?_⟩
   have:=r.length
   rw[length_map,length_take] at this
   rw[length_map]
   omega
  ·rintro i x ys H2 hx ⟨s2,ls,rfl,r⟩
   obtain⟨hi,rfl⟩:=zam hx
   refine⟨_,rfl,_,rfl,a,cs,_,rfl,hA.same (IL.stays K) s2,by omega,hm _ (zdB hi),fun l3 H3 s3 f3 e3=>?_⟩
   have s03:=s2.trans s3
   refine⟨_,rfl,b,_,rfl,.inl (s03.seq hB),l3,_,_,rfl,SqL.of e3,by rw[M5.zW];omega,by omega,by rw[length_map];omega,fun l4 H4 s4 f4 e4=>?_⟩
   have el:(((us.map V.int).length:Nat):Int).toNat=us.length:=by rw[length_map];omega
   rw[el] at e4
   refine⟨s03.trans s4,ls++[l4],by rw[map_append];rfl,?_⟩
   rw[wB hi,map_append]
   exact(r.imp fun x y=>IL.stays K _ _ _ _ (s3.trans s4)).snoc (show IL K H4 l4 _ from SqL.of e4)
  rintro ys H2 ⟨s2,ls,rfl,r⟩ l5 hl5
  rw[length_map,take_length] at r
  generalize hH5:upd H2 l5 _=H5
  have s5:zi H2 H5:=by rw[←hH5];exact zi.new hl5
  have t5:H5 l5=some (.lst (ls.map V.ref)):=by rw[←hH5];exact ze
  have r5:All2 (IL K H5) ls (M5.zep cs us):=r.imp fun x y=>IL.stays K _ _ _ _ s5
  have lr:(M5.zep cs us).length=us.length:=by unfold M5.zep;rw[length_map]
  have ll:=r5.length
  have hsp:M5.spots cs us=(M5.zep cs us).map fun m=>1+(M5.zdG (M5.zep cs us) m:Int):=rfl
  rw[hsp] at q
  generalize M5.zep cs us=rs at r5 lr ll q
  refine⟨_,rfl,l5,rfl,⟨_,SqL.of t5⟩,?_⟩
  refine yf (xs:=ls.map V.ref) (fun i ys H6=>zi H5 H6∧ys=((rs.take i).map fun m=>1+(M5.zdG rs m:Int)).map V.int) ⟨zi.refl _,rfl⟩ ?_ (by rw[length_map];omega) ?_ ?_
  ·rintro i ys H6 hi ⟨s6,rfl⟩
   refine⟨s6.seq (SqL.of t5),?_⟩
   rw[length_map,length_map,length_take]
   omega
  ·rintro i x ys H6 hx ⟨s6,rfl⟩
   obtain⟨l,el,rfl⟩:=zal hx
   obtain⟨m,em,rm⟩:=r5.getL el
   have q6:SqL K H6 l5 (ls.map V.ref):=s6.seq (SqL.of t5)
   have m6:=IL.stays K _ _ _ _ s6 rm
   refine⟨_,rfl,l5,rfl,⟨_,q6⟩,?_⟩
   refine yG (xs:=ls.map V.ref) (fun j zs H7=>H7=H6∧zs.length=((rs.take j).filter fun r=>HT.lexLt r m).length) ⟨rfl,rfl⟩ ?_ (by rw[length_map];omega) ?_ ?_
   ·rintro j zs H7 hj ⟨rfl,e⟩
    refine⟨q6,?_⟩
    have:=length_filter_le (fun r=>HT.lexLt r m) (rs.take j)
    rw[length_take] at this
    omega
   ·rintro j y zs H7 hy ⟨rfl,e⟩
    obtain⟨k,ek,rfl⟩:=zal hy
    obtain⟨r',er,rr⟩:=r5.getL ek
    have r6:=IL.stays K _ _ _ _ s6 rr
    refine⟨_,rfl,_,rfl,k,l,_,_,rfl,rfl,r6,m6,_,rfl,zhC (fun h=>?_) (fun h=>?_)⟩
    ·refine⟨_,rfl,rfl,?_⟩
     rw[take_succ,er,filter_append,length_append,length_append,e]
     show _+1=_+(filter (fun r=>HT.lexLt r m) [r']).length
     rw[filter_cons_of_pos (by simpa using h)]
     rfl
    ·refine⟨rfl,?_⟩
     rw[take_succ,er,filter_append,length_append,e]
     show _=_+(filter (fun r=>HT.lexLt r m) [r']).length
     rw[filter_cons_of_neg (by simpa using h)]
     rfl
   rintro zs H7 ⟨rfl,e⟩ l8 hl8
   rw[length_map,ll,take_length] at e
   refine⟨l8,_,rfl,.inl SqL.new,_,_,rfl,rfl,s6.newT hl8,?_⟩
   rw[e,take_succ,em,map_append,map_append]
   rfl
  ·rintro ys H6 ⟨s6,rfl⟩ l9 hl9
   rw[length_map,ll,take_length]
   exact q l9 _ ((s2.trans (s5.trans s6)).newT hl9) ((s2.trans (s5.trans s6)).free hl9) ze
def zcL(K:Frag):Sp:=fun vs H Q _=>∃(a b c:Addr)(cs:List (List Int)) (us:List Int),vs=[.ref a,.ref b,.ref c]∧zaQ K (IL K) H a cs∧SqL K H b (us.map V.int)∧SqL K H c ((M6.zC cs us).map V.int)∧cs.length≤500∧us.length≤500∧(∀u∈us,∀d∈cs,u∈d)∧∀(l:Addr)(H':Hp)(ls:List Addr),zi H H'→H l=none→H' l=some (.lst (ls.map V.ref))→All2 (F4 K H') ls (M6.zbg cs us)→Q (.ref l) H'
theorem zhu{f:Addr}{fd:FuncData}(F:Fun K "_law_parts" "_law_parts" zaD f fd)(T:Txt K mg)(C_law_marks:Can P w K mg base 1 "_law_marks" ["_law_cards","_law_couple"] (zaI K))(C_law_rows:Can P w K mg base 1 "_law_rows" ["_law_spots_here","_law_couples_here"] (zb6 K))(C_law_part:Can P w K mg base 1 "_law_part" ["_law_one","_law_other","_law_last"] (zdf K)):FnOk P w K mg base CX0 2 f fd ["_law_cards","_law_couples_here","_law_spots_here"] (zcL K):=by
 refine F.ok wm (fun vs H Q E h=>?_) (fun cdv A outer s H vs Q E hr h=>?_)
 ·obtain⟨a,b,c,cs,us,rfl,_⟩:=h
  rfl
 ·obtain⟨a,b,c,cs,us,rfl,hA,hB,hC,hz,hu,hm,q⟩:=h
  refine⟨_,(zd (zz (i:=3) wm.nd rfl (Or.inl rfl) (zh C_law_rows (hM hr) rfl (za (pv 2) (za (pv 1) zb))))
   (zd (zz (i:=4) wm.nd rfl (Or.inl rfl) (zO zb))
   (zd (yT PassesOwn.never rfl (zba rfl T.b_range (za zj (za (zk zg (by rfl) T.b_len PySem.boot_len (za (pv 3) zb)) zb))) (zV (i:=5) wm.nd rfl (Or.inl rfl))
     (zf (zD (zp yK (zA yt (zA zy (pv 3) (pv 5) (fun _ _=>rfl)) zj (fun _ _=>rfl)) (zA yt (zA zy (pv 3) (zv za3 (pv 5) zj) (fun _ _=>rfl)) zj (fun _ _=>rfl)) (zt _)) (zd (zz (i:=6) wm.nd rfl (Or.inl rfl) (zA yt (zA zy (pv 3) (zv za3 (pv 5) zj) (fun _ _=>rfl)) zj (fun _ _=>rfl)))
   (zd (zz (i:=7) wm.nd rfl (Or.inl rfl) (zA yt (zA zy (pv 3) (pv 5) (fun _ _=>rfl)) zj (fun _ _=>rfl)))
   (zd (zz (i:=8) wm.nd rfl (Or.inl rfl) (zh C_law_part (hM hr) rfl (za (zh C_law_marks (hM hr) rfl (za (pv 0) (za (pv 6) zb))) (za (zh C_law_marks (hM hr) rfl (za (pv 0) (za (pv 7) zb))) (za (zk zg (by rfl) T.b_len PySem.boot_len (za (pv 1) zb)) zb)))))
   (zf (zY (zaw PySem.F.plainAttrs_list PySem.F.slot_list_append PySem.F.type_list_append yF (pv 4) (za (zb1 (za (pv 6) (za (pv 7) (za (zA yt (pv 8) zj (fun _ _=>rfl)) (za (zA yt (pv 8) zj (fun _ _=>rfl)) zb))))) zb))))))) zu)))
   (zf (zn (pv 4)))))),?_⟩
  have hln:=zx
  refine⟨_,rfl,_,rfl,c,b,_,us,rfl,hC,hB,M6.yr cs us,hu,fun l1 H1 ls s1 f1 e1 r1=>?_⟩
  have hrl:=M5.rows_len (M6.zC cs us) us (M6.yr cs us)
  have hmul:us.length*us.length≤500*500:=mul_le_mul hu hu
  have hmem:=fun p (hp:p∈M5.rows (M6.zC cs us) us)=>M6.zeb hp
  unfold M6.zbg at q
  generalize M5.rows (M6.zC cs us) us=rs at r1 hrl hmem q
  have hl1:=r1.length
  refine⟨by decide,fun p2 hp2=>?_⟩
  have s2:=zi.new (o:=.lst []) hp2
  refine⟨_,rfl,l1,_,rfl,.inl (SqL.of (s2 _ _ e1)),_,_,rfl,⟨by decide,by decide,by rw[length_map];omega,by rw[length_map];omega⟩,?_⟩
  refine zX (fun i σ H2=>∃(v5 v6 v7 v8:Option V)(ms:List Addr),σ=[some (.ref a),some (.ref b),some (.ref c),some (.ref l1),some (.ref p2),v5,v6,v7,v8]∧zi H1 H2∧H2 p2=some (.lst (ms.map V.ref))∧All2 (F4 K H2) ms (((rs.zip rs.tail).take i).filterMap fun pq=>M6.nb cs us pq.1 pq.2)) ⟨_,_,_,_,[],rfl,s2,ze,.nil⟩ ?_ ?_
  ·rintro i σ H2 hi ⟨v5,v6,v7,v8,ms,rfl,s12,e2,r2⟩
   rw[length_map] at hi
   have hi1:i+1<rs.length:=by omega
   have hi0:i<rs.length:=by omega
   have ez:(rs.zip rs.tail)[i]? = some (rs[i],rs[i+1]):=by
    rw[getElem?_eq_getElem (by rw[length_zip,length_tail];omega),List.getElem_zip,List.getElem_tail]
   obtain⟨la,ela,ra⟩:=r1.get (getElem?_eq_getElem hi0)
   obtain⟨lb,elb,rb⟩:=r1.get (getElem?_eq_getElem hi1)
   obtain⟨ma1,ma2⟩:=hmem _ (getElem_mem hi0)
   obtain⟨mb1,mb2⟩:=hmem _ (getElem_mem hi1)
   rw[take_succ,ez,List.filterMap_append]
   generalize rs[i]=pa at ra ma1 ma2 ⊢
   generalize rs[i+1]=pb at rb mb1 mb2 ⊢
   have q1:SqL K H2 l1 (ls.map V.ref):=SqL.of (s12 _ _ e1)
   have ta:=s12.seqT ra
   have tb:=s12.seqT rb
   have ea:atI (ls.map V.ref) (1+(i:Int)-1)=some (.ref la):=by
    have:(1:Int)+(i:Int)-1=(i:Int):=by omega
    rw[this];exact zP (wt ela)
   have eb:atI (ls.map V.ref) (1+(i:Int))=some (.ref lb):=by
    have:(1:Int)+(i:Int)=((i+1:Nat):Int):=by omega
    rw[this];exact zP (wt elb)
   refine⟨_,rfl,_,rfl,l1,_,_,_,rfl,rfl,q1,eb,lb,_,_,_,rfl,rfl,tb,rfl,_,rfl,_,rfl,_,_,rfl,rfl,l1,_,_,_,rfl,rfl,q1,ea,la,_,_,_,rfl,rfl,ta,rfl,rfl,_,rfl,yk (fun hne=>?_) (fun he=>?_)⟩
   ·have hne:¬pa.1=pb.1:=fun z=>hne (by rw[z])
    refine⟨_,rfl,_,rfl,_,_,rfl,rfl,l1,_,_,_,rfl,rfl,q1,ea,la,_,_,_,rfl,rfl,ta,rfl,?_⟩
    refine⟨_,rfl,_,rfl,l1,_,_,_,rfl,rfl,q1,eb,lb,_,_,_,rfl,rfl,tb,rfl,?_⟩
    have s02:=s1.trans s12
    refine⟨_,rfl,_,rfl,a,cs,_,rfl,hA.same (IL.stays K) s02,by omega,hm _ ma1,fun l3 H3 s3 f3 e3=>?_⟩
    have s03:=s02.trans s3
    refine⟨_,rfl,_,rfl,a,cs,_,rfl,hA.same (IL.stays K) s03,by omega,hm _ mb1,fun l4 H4 s4 f4 e4=>?_⟩
    have s04:=s03.trans s4
    refine⟨_,rfl,b,_,rfl,.inl (s04.seq hB),l3,l4,_,_,us.length,?_,SqL.of (s4 _ _ e3),SqL.of e4,by rw[M5.zW,M5.zW],by rw[M5.zW];omega,by omega,?_,?_⟩
    ·rw[length_map];rfl
    ·intro hn
     have hp:=M6.zb7 (M5.zm cs pa.2) (M5.zm cs pb.2) us.length
     exact absurd (M6.zbc hp hn) (M6.zfJ (by rw[←ma2,←mb2];exact hne))
    ·intro r hr l5 H5 s5 hT
     have hp:=M6.zbc (M6.zb7 (M5.zm cs pa.2) (M5.zm cs pb.2) us.length) hr
     have s25:=s3.trans (s4.trans s5)
     have e25:=s25 _ _ e2
     refine⟨_,rfl,.inl ⟨rfl,_,SqL.of e25⟩,_,rfl,_,rfl,_,rfl,l5,_,_,_,rfl,rfl,hT,rfl,_,rfl,l5,_,_,_,rfl,rfl,hT,rfl,(by show 4≤sizeLine;decide),fun p6 hp6=>?_⟩
     have s6:=zi.new (o:=.tup [.int pa.2,.int pb.2,.int (r.1:Nat),.str r.2]) hp6
     have hl2:=r2.length
     have hfl:=List.length_filterMap_le (fun pq:(Int×Int)×(Int×Int)=>M6.nb cs us pq.1 pq.2) ((rs.zip rs.tail).take i)
     rw[length_take] at hfl
     refine⟨p2,_,_,rfl,rfl,s6 _ _ e25,by rw[length_map];omega,?_⟩
     refine⟨_,_,_,_,ms++[p6],rfl,(s12.trans (s25.trans s6)).put hp2,zd4 ms p6,?_⟩
     have en:M6.nb cs us pa pb=some (pa.2,pb.2,(r.1:Int),r.2):=by unfold M6.nb;rw[if_neg hne,hp];rfl
     have ef:filterMap (fun pq:(Int×Int)×(Int×Int)=>M6.nb cs us pq.1 pq.2) (some (pa,pb)).toList=[(pa.2,pb.2,(r.1:Int),r.2)]:=by
      show filterMap _ [(pa,pb)]=_
      rw[List.filterMap_cons_some (f:=fun pq:(Int×Int)×(Int×Int)=>M6.nb cs us pq.1 pq.2) (a:=(pa,pb)) en,filterMap_nil]
     rw[ef]
     refine All2.snoc (F4.put (r2.imp fun _ _=>F4.stays K _ _ _ _ (s25.trans s6)) (s6 _ _ e25)) ?_
     exact SqT.put (ys:=ms.map V.ref) SqT.new (s6 _ _ e25)
   ·have he:pb.1=pa.1:=by injection he
    have en:M6.nb cs us pa pb=none:=by unfold M6.nb;rw[if_pos he.symm]
    have ef:filterMap (fun pq:(Int×Int)×(Int×Int)=>M6.nb cs us pq.1 pq.2) (some (pa,pb)).toList=[]:=by
     show filterMap _ [(pa,pb)]=_
     rw[List.filterMap_cons_none (f:=fun pq:(Int×Int)×(Int×Int)=>M6.nb cs us pq.1 pq.2) (a:=(pa,pb)) en,filterMap_nil]
    rw[ef,append_nil]
    exact⟨_,_,_,_,ms,rfl,s12,e2,r2⟩
  ·rintro σ H2 ⟨v5,v6,v7,v8,ms,rfl,s12,e2,r2⟩
   have et:(rs.zip rs.tail).take ((((ls.map V.ref).length:Nat):Int)-1).toNat=rs.zip rs.tail:=take_of_length_le (by rw[length_zip,length_tail,length_map];omega)
   rw[et] at r2
   exact⟨_,rfl,q p2 _ ms (s1.trans s12) (s1.free hp2) e2 r2⟩
def zdm(K:Frag):Sp:=fun vs H Q _=>∃(p c:Int)(a:Addr)(cs:List (List Int)) (n:Nat),vs=[.int p,.int c,.ref a,.int n]∧zaQ K (IL K) H a cs∧cs.length≤15∧(∀d∈cs,c∈d)∧(∀x∈M5.zm cs c,1≤x∧x≤24)∧n≤24∧p.natAbs≤990∧c.natAbs≤1000∧∀H',zi H H'→Q (.str (M6.zhL p c (M5.zm cs c) n)) H'
theorem zhT{f:Addr}{fd:FuncData}(F:Fun K "_law_line" "_law_line" za5 f fd)(T:Txt K mg)(C_law_marks:Can P w K mg base 1 "_law_marks" ["_law_cards","_law_couple"] (zaI K))(C_law_words:Can P w K mg base 1 "_law_words" ["_law_things"] (zcP K))(C_law_ladder:Can P w K mg base 1 "_law_ladder" ["_law_marks_here","_law_last"] (zcg K)):FnOk P w K mg base CX0 2 f fd ["_law_place","_law_couple","_law_cards","_law_last"] (zdm K):=by
 refine F.ok ze2 (fun vs H Q E h=>?_) (fun cdv A outer s H vs Q E hr h=>?_)
 ·obtain⟨p,c,a,cs,n,rfl,_⟩:=h
  rfl
 ·obtain⟨p,c,a,cs,n,rfl,hA,hz,hc,hx,hn,hp,hcc,q⟩:=h
  refine⟨_,(zd (zz (i:=4) ze2.nd rfl (Or.inl rfl) (zh C_law_marks (hM hr) rfl (za (pv 2) (za (pv 1) zb))))
   (zf (zn (zh C_law_words (hM hr) rfl (za (zv wD (zv wD (zv wD (zO (za (pv 0) (za (pv 1) (za yd zb)))) (pv 4)) (zO (za yd zb))) (zh C_law_ladder (hM hr) rfl (za (pv 4) (za (pv 3) zb)))) zb))))),?_⟩
  have hln:=zx
  refine⟨_,rfl,_,rfl,a,cs,c,rfl,hA,by omega,hc,fun l1 H1 s1 f1 e1=>?_⟩
  have hml:=M5.zW cs c
  generalize M5.zm cs c=ms at e1 hml hx q
  refine⟨_,rfl,_,rfl,(by show 3≤sizeLine;decide),fun l2 hl2=>?_⟩
  have s2:=s1.newT (o:=.lst [.int p,.int c,.str M6.bar]) hl2
  have e2:upd H1 l2 (.lst [.int p,.int c,.str M6.bar]) l2=some (.lst [.int p,.int c,.str M6.bar]):=ze
  have e12:=(zi.new (o:=.lst [.int p,.int c,.str M6.bar]) hl2) _ _ e1
  change zi H (upd H1 l2 (.lst [.int p,.int c,.str (Str.ofString "|")]))at s2
  change upd H1 l2 (.lst [.int p,.int c,.str (Str.ofString "|")]) l2=_ at e2
  change upd H1 l2 (.lst [.int p,.int c,.str (Str.ofString "|")]) l1=_ at e12
  generalize hH2:upd H1 l2 _=H2 at s2 e2 e12 ⊢
  refine⟨_,rfl,l2,l1,_,_,rfl,rfl,e2,e12,by rw[length_map];simp only[length_cons,length_nil];omega,fun l3 hl3=>?_⟩
  have s3:=s2.newT (o:=.lst ([.int p,.int c,.str M6.bar]++ms.map V.int)) hl3
  have e3:upd H2 l3 (.lst ([.int p,.int c,.str M6.bar]++ms.map V.int)) l3=some (.lst ([.int p,.int c,.str M6.bar]++ms.map V.int)):=ze
  have e13:=(zi.new (o:=.lst ([.int p,.int c,.str M6.bar]++ms.map V.int)) hl3) _ _ e12
  generalize hH3:upd H2 l3 _=H3 at s3 e3 e13 ⊢
  refine⟨(by show 1≤sizeLine;decide),fun l4 hl4=>?_⟩
  have s4:=zi.new (o:=.lst [.str M6.bar]) hl4
  change zi H3 (upd H3 l4 (.lst [.str (Str.ofString "|")]))at s4
  refine⟨l3,l4,_,[.str M6.bar],rfl,rfl,s4 _ _ e3,ze,by rw[length_append,length_map];simp only[length_cons,length_nil];omega,fun l5 hl5=>?_⟩
  have s5:=s4.newT (o:=.lst ([.int p,.int c,.str M6.bar]++ms.map V.int++[.str M6.bar])) hl5
  have e5:upd (upd H3 l4 (.lst [.str (Str.ofString "|")])) l5 (.lst ([.int p,.int c,.str M6.bar]++ms.map V.int++[.str M6.bar])) l5=some (.lst ([.int p,.int c,.str M6.bar]++ms.map V.int++[.str M6.bar])):=ze
  generalize hH5:upd (upd H3 l4 _) l5 _=H5 at s5 e5 ⊢
  have t5:=s3.trans s5
  refine⟨_,rfl,_,rfl,l1,ms,n,rfl,SqL.of (s5 _ _ e13),by omega,hx,hn,fun l6 H6 s6 f6 e6=>?_⟩
  have hlw:=M6.ziY ms n
  refine⟨l5,l6,_,_,rfl,rfl,s6 _ _ e5,e6,by simp only[length_append,length_map,length_cons,length_nil];omega,fun l7 hl7=>?_⟩
  have s7:=(t5.trans s6).newT (o:=.lst ([.int p,.int c,.str M6.bar]++ms.map V.int++[.str M6.bar]++(M6.zc8 ms n).map V.str)) hl7
  refine⟨l7,_,M6.rowW p c ms n,rfl,SqL.new,?_,?_,?_,fun H' s'=>q H' (s7.trans s')⟩
  ·have hw1:All2 WordOf [.int p,.int c,.str M6.bar] ([tN p,tN c]++[M6.bar]):=.cons (.int (by omega)) (.cons (.int (by omega)) (.cons .str .nil))
   exact((hw1.append (zfB fun x h=>by have:=hx x h;omega)).append (zdN [M6.bar])).append (zdN _)
  ·unfold M6.rowW
   simp only[length_append,length_map,length_cons,length_nil]
   omega
  ·intro w hw
   exact M6.zfG (by omega) hx hp hcc n w hw
def yA(K:Frag):Sp:=fun vs H Q _=>∃(p:Addr)(F:Addr→Prop)(S:Sh),vs=[.ref p]∧zB K H p F S∧∀(l:Addr)(H':Hp)(ks:List Addr),zi H H'→H l=none→H' l=some (.lst (ks.map V.ref))→All2 (fun k c=>H k=none∧H' k=some (.lst (c.map V.int))) ks S.cardsIn→Q (.ref l) H'
theorem zfx{f:Addr}{fd:FuncData}(F:Fun K "cards" "Sheet.cards" yQ f fd)(T:Txt K mg)(C_Sheet_handed:CanM P w K mg base 1 (zL K "Sheet") "handed" ["self"] (yh K))(C_Sheet_card_of:CanMX P w K mg base 2 (zL K "Sheet") "card_of" ["self","judge"] (yn K)):FnOk P w K mg base CX0 3 f fd ["self"] (yA K):=by
 refine F.ok zfK (fun vs H Q E h=>?_) (fun cdv A outer s H vs Q E hr h=>?_)
 ·obtain⟨p,F,S,rfl,_⟩:=h
  rfl
 ·obtain⟨p,F,S,rfl,hSh,q⟩:=h
  refine⟨_,(zf (zn (zN (show CompScope (zc yQ) ["self"] "judge" ["self"] [0] _ from⟨rfl,by decide +kernel,by decide +kernel,rfl,by decide +kernel,rfl,by decide +kernel,by decide +kernel⟩) rfl (zE (zQ C_Sheet_handed T.cl_Sheet (hM hr) (pv 0))) (fun _ _ _ _ _=>yw) (fun _ _ _ _ _=>(wH C_Sheet_card_of T.cl_Sheet zdi (hM hr) (pv 1) (za (pv 0) zb)))))),?_⟩
  have hln:=zx
  have h15:=hSh.ok.p15
  have hip:∃dx fs,H p=some (.ins (zL K "Sheet") dx fs)∧fs.lookup ("handed":Str)=none∧fs.lookup ("card_of":Str)=none:=by
   obtain⟨dx,a1,a2,a3,d,kvs,h⟩:=hSh
   exact⟨dx,_,h.ip,rfl,rfl⟩
  obtain⟨dx,fs,hip,fs1,fs2⟩:=hip
  refine⟨_,rfl,p,dx,_,rfl,hip,fs1,p,F,S,rfl,hSh.shape,h15,fun a H1 s1 f1 e1=>?_⟩
  have hl2:S.handed.length≤15:=le_trans (length_filter_le _ _) h15
  refine⟨a,rfl,⟨_,SqL.of e1⟩,?_⟩
  refine yf (xs:=S.handed.map V.str) (fun i ys H2=>∃ks:List Addr,ys=ks.map V.ref∧zi H1 H2∧All2 (fun k c=>H k=none∧H2 k=some (.lst (c.map V.int))) ks ((S.handed.take i).map fun j=>(S.card j).getD [])) ⟨[],rfl,zi.refl _,.nil⟩ ?_ (by rw[length_map];omega) ?_ ?_
  ·rintro i ys H2 hi ⟨ks,rfl,s2,r2⟩
   refine⟨s2.seq (SqL.of e1),?_⟩
   have:=r2.length
   rw[length_map,length_take] at this
   rw[length_map]
   omega
  ·rintro i x ys H2 hx ⟨ks,rfl,s2,r2⟩
   obtain⟨hi,rfl⟩:=zaL hx
   have hm:=List.mem_filter.mp (show S.handed.getD i "" ∈ S.panel.filter fun j=>(S.card j).isSome from zak hi)
   have s12:=s1.trans s2
   cases e:S.card (S.handed.getD i "")with
   | none=>rw[e] at hm;exact absurd hm.2 Bool.false_ne_true
   | some c =>
     refine⟨_,rfl,p,dx,_,rfl,s12 _ _ hip,fs2,_,rfl,p,F,S,_,rfl,hSh.same s12,fun hj=>absurd hm.1 hj,(fun _ z=>by rw[e] at z;cases z),fun c' e' l H3 s3 f3 e3=>?_⟩
     rw[e] at e'
     cases e'
     refine⟨ks++[l],by rw[map_append];rfl,s2.trans s3,?_⟩
     rw[yg hi,map_append]
     refine(r2.imp fun _ _ z=>⟨z.1,s3 _ _ z.2⟩).snoc ⟨s12.free f3,?_⟩
     dsimp only
     rw[e]
     exact e3
  ·rintro ys H2 ⟨ks,rfl,s2,r2⟩ l hl
   rw[length_map,take_length] at r2
   exact q l _ ks ((s1.trans s2).newT hl) ((s1.trans s2).free hl) ze (r2.imp fun _ _ z=>⟨z.1,zi.new hl _ _ z.2⟩)
def zbT(K:Frag):Sp:=fun vs H Q _=>∃(a:Addr)(ts:List Str),vs=[.ref a]∧SqL K H a (ts.map V.str)∧ts.length<4000∧(∀z∈ts,z.length≤1000)∧∀H',zi H H'→Q (.bl (M2.zdK ts)) H'
theorem zfv{f:Addr}{fd:FuncData}(F:Fun K "good_judges" "good_judges" yR f fd)(T:Txt K mg)(C_good_name:Can P w K mg base 2 "good_name" ["judge"] (zc2 K))(C_good_length:Can P w K mg base 1 "good_length" ["things","most"] (wU K))(C_all_unlike:Can P w K mg base 1 "all_unlike" ["things"] (zbe K)):FnOk P w K mg base CX0 3 f fd ["judges"] (zbT K):=by
 refine F.ok zf5 (fun vs H Q E h=>?_) (fun cdv A outer s H vs Q E hr h=>?_)
 ·obtain⟨a,ts,rfl,_⟩:=h
  rfl
 ·obtain⟨a,ts,rfl,hS,hz,ht,q⟩:=h
  refine⟨_,(zf (zn (zes (zh C_good_length (hM hr) rfl (za (pv 0) (za (zdj T.c_MOST_JUDGES rfl) zb))) (zes (zh C_all_unlike (hM hr) rfl (za (pv 0) zb)) (zhq (zk (zfk rfl) (by rfl) T.b_all boot_all (za (zN (show CompScope (zc yR) ["judges"] "judge" [] [] _ from⟨rfl,by decide +kernel,by decide +kernel,rfl,by decide +kernel,rfl,by decide +kernel,by decide +kernel⟩) rfl (zE (pv 0)) (fun _ _ _ _ _=>yw) (fun _ _ _ _ _=>(zh C_good_name (hM hr) rfl (za (pv 0) zb)))) zb))))))),?_⟩
  refine⟨_,rfl,_,_,_,rfl,.inl ⟨_,hS,rfl⟩,_,rfl,?_⟩
  rw[length_map]
  unfold M2.zdK at q
  refine zhC (fun h1=>?_) (fun h1=>?_)
  ·rw[h1,Bool.true_and] at q
   refine⟨_,rfl,a,rfl,.inr ⟨ts,hS,hz,_,rfl,wv (fun h2=>?_) (fun h2=>?_)⟩⟩
   ·rw[decide_eq_true h2,Bool.true_and] at q
    refine⟨_,rfl,a,rfl,⟨_,hS⟩,?_⟩
    refine yf (xs:=ts.map V.str) (fun i ys H2=>zi H H2∧ys=((ts.take i).map M2.zeZ).map V.bl) ⟨zi.refl _,rfl⟩ ?_ (by rw[length_map];have:=zx;omega) ?_ ?_
    ·rintro i ys H2 hi ⟨s2,rfl⟩
     exact⟨s2.seq hS,by simp only[length_map,length_take];omega⟩
    ·rintro i x ys H2 hx ⟨s2,rfl⟩
     obtain⟨hi,rfl⟩:=zaL hx
     refine⟨_,rfl,_,rfl,ht _ (zak hi),fun H3 s3=>⟨s2.trans s3,?_⟩⟩
     rw[yg hi,map_append,map_append]
     rfl
    ·rintro ys H2 ⟨s2,rfl⟩ l hl
     rw[length_map,take_length]
     exact⟨l,_,rfl,SqL.new,q _ (s2.newT hl)⟩
   ·rw[decide_eq_false h2,Bool.false_and] at q
    exact q _ (zi.refl _)
  ·rw[h1,Bool.false_and] at q
   exact q _ (zi.refl _)
def zcM(K:Frag):Sp:=fun vs H Q _=>∃(a:Addr)(ms:List Int)(n:Int),vs=[.ref a,.int n]∧SqL K H a (ms.map V.int)∧ms.length≤1000∧0≤n∧n≤1000∧∀(l:Addr)(H':Hp)(ls:List Addr),zi H H'→H l=none→H' l=some (.lst (ls.map V.ref))→All2 (TPl K H') ls (M6.zbq ms n.toNat)→Q (.ref l) H'
theorem zha{f:Addr}{fd:FuncData}(F:Fun K "ladder_of" "ladder_of" wT f fd)(T:Txt K mg)(C_granted:Can P w K mg base 2 "granted" ["marks","number"] (zaV K))(C_granted_sum:Can P w K mg base 2 "granted_sum" ["marks","number"] (wO K)):FnOk P w K mg base CX0 3 f fd ["marks","last"] (zcM K):=by
 refine F.ok zg9 (fun vs H Q E h=>?_) (fun cdv A outer s H vs Q E hr h=>?_)
 ·obtain⟨a,ms,n,rfl,_⟩:=h
  rfl
 ·obtain⟨a,ms,n,rfl,hS,hz,h0,h1,q⟩:=h
  refine⟨_,(zf (zn (zN (show CompScope (zc wT) ["marks","last"] "number" ["marks"] [0] _ from⟨rfl,by decide +kernel,by decide +kernel,rfl,by decide +kernel,rfl,by decide +kernel,by decide +kernel⟩) rfl (zba rfl T.b_range (za zj (za (zv zZ (pv 1) zj) zb))) (fun _ _ _ _ _=>yw) (fun _ _ _ _ _=>(zb1 (za (zh C_granted (hM hr) rfl (za (pv 1) (za (pv 0) zb))) (za (zh C_granted_sum (hM hr) rfl (za (pv 1) (za (pv 0) zb))) zb))))))),?_⟩
  refine⟨_,rfl,_,_,rfl,rfl,_,_,rfl,⟨by omega,by omega,by omega,by omega⟩,?_⟩
  have en:(n+1-1).toNat=n.toNat:=by omega
  rw[en]
  refine zdx (fun i ys H2=>∃ks:List Addr,ys=ks.map V.ref∧zi H H2∧All2 (TPl K H2) ks (M6.zbq ms i)) ⟨[],rfl,zi.refl _,.nil⟩ ?_ (by have:=zx;omega) ?_ ?_
  ·rintro i ys H2 hi ⟨ks,rfl,s2,r2⟩
   have:=r2.length
   rw[M6.zcY] at this
   rw[length_map]
   omega
  ·rintro i ys H2 hi ⟨ks,rfl,s2,r2⟩
   refine⟨_,rfl,_,rfl,a,ms,_,rfl,s2.seq hS,hz,fun H3 s3=>?_⟩
   refine⟨_,rfl,_,rfl,a,ms,_,rfl,(s2.trans s3).seq hS,hz,fun H4 s4=>?_⟩
   refine⟨by show 2≤sizeLine;decide,fun t ht=>?_⟩
   have s5:=(s2.trans s3).trans s4
   refine⟨ks++[t],by rw[map_append];rfl,s5.newT ht,?_⟩
   rw[M6.zeR,Int.add_comm (i:Int) 1]
   exact(r2.imp fun _ _=>TPl.stays K _ _ _ _ ((s3.trans s4).newT ht)).snoc (show TPl K _ t _ from SqT.new)
  ·rintro ys H2 ⟨ks,rfl,s2,r2⟩ l hl
   refine q l _ ks (s2.newT hl) ?_ ze (r2.imp fun _ _=>TPl.stays K _ _ _ _ (zi.new hl))
   cases e:H l with
   | none=>rfl
   | some u=>have:=s2 l u e;rw[hl] at this;cases this
def unlV:Option Int→V
 | none=>.non
 | some n=>.int n
def zby(K:Frag):Sp:=fun vs H Q _=>∃(a b:Addr)(ms us:List Int)(f:Int),vs=[.ref a,.ref b]∧SqL K H a (ms.map V.int)∧SqL K H b (us.map V.int)∧1≤ms.length∧ms.length≤60∧us.length≤60∧(∀x∈ms,1≤x∧x≤24)∧(∀x∈us,1≤x∧x≤24)∧M3.isF ms f∧M3.isF us f∧∀(r:Option Int)(H':Hp),zi H H'→M6.zh7 ms us f r→Q (unlV r) H'
theorem zhA{f:Addr}{fd:FuncData}(F:Fun K "unlike_at" "unlike_at" zaz f fd)(T:Txt K mg)(C_granted:Can P w K mg base 2 "granted" ["marks","number"] (zaV K))(C_granted_sum:Can P w K mg base 2 "granted_sum" ["marks","number"] (wO K))(C_first_number:Can P w K mg base 2 "first_number" ["marks"] (wx K)):FnOk P w K mg base CX0 3 f fd ["one","other"] (zby K):=by
 refine F.ok zd3 (fun vs H Q E h=>?_) (fun cdv A outer s H vs Q E hr h=>?_)
 ·obtain⟨a,b,ms,us,f,rfl,_⟩:=h
  rfl
 ·obtain⟨a,b,ms,us,f,rfl,hA,hB,h1,hz,hz2,hm,hu,fF,fG,q⟩:=h
  refine⟨_,(zd (yT PassesOwn.never rfl (zba rfl T.b_range (za (zh C_first_number (hM hr) rfl (za (pv 0) zb)) (za (zv zZ (zk (zgj rfl) (by rfl) T.b_max boot_max (za (zv op_catS (pv 0) (pv 1)) zb)) zj) zb))) (zV (i:=2) zd3.nd rfl (Or.inl rfl))
   (zd (zbM (zD (zp yK (zh C_granted (hM hr) rfl (za (pv 0) (za (pv 2) zb))) (zh C_granted (hM hr) rfl (za (pv 1) (za (pv 2) zb))) (zt _)) (zf (zn (pv 2))) zu))
   (zf (zbM (zD (zp yK (zh C_granted_sum (hM hr) rfl (za (pv 0) (za (pv 2) zb))) (zh C_granted_sum (hM hr) rfl (za (pv 1) (za (pv 2) zb))) (zt _)) (zf (zn (pv 2))) zu)))))
   (zf (zn zeN))),?_⟩
  have hln:=zx
  have hne:ms≠[]:=by intro z;rw[z] at h1;simp at h1
  refine⟨_,rfl,a,ms,rfl,hA,hne,hz,hm,fun H1 f' s1 hf'=>?_⟩
  have ef:=M3.zbZ hf' fF
  subst ef
  refine⟨_,rfl,_,rfl,a,b,_,_,rfl,rfl,s1.seq hA,s1.seq hB,(by rw[length_map,length_map];omega),fun l hl=>?_⟩
  rw[←map_append]
  refine⟨l,ms++us,rfl,SqL.new,(by rw[length_append];omega),fun M hM hMx=>?_⟩
  have hMr:1≤M∧M≤24:=by
   rcases List.mem_append.mp hM with z | z
   ·exact hm M z
   ·exact hu M z
  have hma:∀x∈ms,x≤M:=fun x hx=>hMx x (mem_append_left _ hx)
  have hub:∀x∈us,x≤M:=fun x hx=>hMx x (mem_append_right _ hx)
  have hfr:=M3.zcz hf' 1 M fun x hx=>⟨(hm x hx).1,hma x hx⟩
  refine⟨_,_,rfl,rfl,_,_,rfl,⟨by omega,by omega,by omega,by omega⟩,?_⟩
  generalize hH2:upd H1 l _=H2
  have s2:zi H H2:=by rw[←hH2];exact s1.newT hl
  refine zX (fun i σ H3=>∃v,σ=[some (.ref a),some (.ref b),v]∧zi H H3∧∀j,f'≤j→j<f'+i→M3.cnt ms j=M3.cnt us j∧M3.sm ms j=M3.sm us j) ⟨_,rfl,s2,fun j j1 j2=>by omega⟩ ?_ ?_
  ·rintro i σ H3 hi ⟨v,rfl,s3,hj⟩
   refine⟨fun σ' H'=>σ'=[some (.ref a),some (.ref b),some (.int (f'+i))]∧zi H H'∧M3.cnt ms (f'+i)=M3.cnt us (f'+i),?_,?_⟩
   ·refine⟨_,rfl,_,rfl,a,ms,_,rfl,s3.seq hA,by omega,fun H4 s4=>?_⟩
    refine⟨_,rfl,_,rfl,b,us,_,rfl,(s3.trans s4).seq hB,by omega,fun H5 s5=>?_⟩
    refine⟨rfl,_,rfl,yk (fun hne=>?_) (fun he=>?_)⟩
    ·refine⟨_,rfl,q (some (f'+i)) _ ((s3.trans s4).trans s5) ⟨by omega,by omega,hj,fun z=>hne (by rw[z.1])⟩⟩
    ·refine⟨rfl,(s3.trans s4).trans s5,?_⟩
     injection he with he
     omega
   ·rintro σ' H' ⟨rfl,s4,hcnt⟩
    refine⟨fun σ' H'=>σ'=[some (.ref a),some (.ref b),some (.int (f'+i))]∧zi H H'∧M3.sm ms (f'+i)=M3.sm us (f'+i),?_,?_⟩
    ·refine⟨_,rfl,_,rfl,a,ms,_,rfl,s4.seq hA,by omega,fun H5 s5=>?_⟩
     refine⟨_,rfl,_,rfl,b,us,_,rfl,(s4.trans s5).seq hB,by omega,fun H6 s6=>?_⟩
     refine⟨rfl,_,rfl,yk (fun hne=>?_) (fun he=>?_)⟩
     ·refine⟨_,rfl,q (some (f'+i)) _ ((s4.trans s5).trans s6) ⟨by omega,by omega,hj,fun z=>hne (by rw[z.2])⟩⟩
     ·refine⟨rfl,(s4.trans s5).trans s6,?_⟩
      injection he with he
    ·rintro σ' H'' ⟨rfl,s5,hsm⟩
     refine⟨_,rfl,s5,fun j j1 j2=>?_⟩
     by_cases c:j<f'+i
     ·exact hj j j1 c
     ·have:j=f'+i:=by omega
      subst this
      exact⟨hcnt,hsm⟩
  ·rintro σ H3 ⟨v,rfl,s3,hj⟩
   exact q none _ s3 (M6.unl_beyond hma hub hfr.2 fun j j1 j2=>hj j j1 (by omega))
def wY(K:Frag):Sp:=fun vs H Q _=>∃(p:Addr)(F:Addr→Prop)(S:Sh)(j:Str),vs=[.ref p,.str j]∧zB K H p F S∧∀(l:Addr)(H':Hp)(ks:List Addr),zi H H'→H l=none→H' l=some (.lst (ks.map V.ref))→All2 (IL K H') ks (S.cardsWo j)→Q (.ref l) H'
theorem zeG{f:Addr}{fd:FuncData}(F:Fun K "cards_without" "cards_without" yu f fd)(T:Txt K mg)(C_Sheet_handed:CanM P w K mg base 1 (zL K "Sheet") "handed" ["self"] (yh K))(C_Sheet_card_of:CanMX P w K mg base 2 (zL K "Sheet") "card_of" ["self","judge"] (yn K)):FnOk P w K mg base CX0 3 f fd ["sheet","judge"] (wY K):=by
 refine F.ok zeO (fun vs H Q E h=>?_) (fun cdv A outer s H vs Q E hr h=>?_)
 ·obtain⟨p,F,S,j,rfl,_⟩:=h
  rfl
 ·obtain⟨p,F,S,j,rfl,hSh,q⟩:=h
  refine⟨_,(zf (zn (zN (show CompScope (zc yu) ["sheet","judge"] "other" ["sheet","judge"] [0,1] _ from⟨rfl,by decide +kernel,by decide +kernel,rfl,by decide +kernel,rfl,by decide +kernel,by decide +kernel⟩) rfl (zE (zQ C_Sheet_handed T.cl_Sheet (hM hr) (pv 0))) (fun _ _ _ _ _=>(yS (zp yK (pv 0) (pv 2) (zt _)))) (fun _ _ _ _ _=>(wH C_Sheet_card_of T.cl_Sheet zdi (hM hr) (pv 1) (za (pv 0) zb)))))),?_⟩
  have hln:=zx
  have h15:=hSh.ok.p15
  obtain⟨dx,b1,b2,b3,d,hip⟩:=hSh.ins
  refine⟨_,rfl,p,dx,_,rfl,hip,rfl,p,F,S,rfl,hSh.shape,h15,fun a H1 s1 f1 e1=>?_⟩
  have hl2:S.handed.length≤15:=le_trans (length_filter_le _ _) h15
  refine⟨a,rfl,⟨_,SqL.of e1⟩,?_⟩
  refine yG (xs:=S.handed.map V.str) (fun i ys H2=>∃ks:List Addr,ys=ks.map V.ref∧zi H1 H2∧All2 (IL K H2) ks (((S.handed.take i).filter fun i => !decide (i=j)).map fun i=>(S.card i).getD [])) ⟨[],rfl,zi.refl _,.nil⟩ ?_ (by rw[length_map];omega) ?_ ?_
  ·rintro i ys H2 hi ⟨ks,rfl,s2,r2⟩
   refine⟨s2.seq (SqL.of e1),?_⟩
   have h3:=r2.length
   have h4:=length_filter_le (fun i => !decide (i=j)) (S.handed.take i)
   rw[length_map] at h3
   rw[length_take] at h4
   rw[length_map]
   omega
  ·rintro i x ys H2 hx ⟨ks,rfl,s2,r2⟩
   obtain⟨hi,rfl⟩:=zaL hx
   have hm:=List.mem_filter.mp (show S.handed.getD i "" ∈ S.panel.filter fun j=>(S.card j).isSome from zak hi)
   have s12:=s1.trans s2
   refine⟨_,rfl,_,rfl,rfl,_,rfl,yk (fun hne=>?_) (fun he=>?_)⟩
   ·have hne:¬S.handed.getD i ""=j:=fun z=>hne (by rw[z])
    cases e:S.card (S.handed.getD i "")with
    | none=>rw[e] at hm;exact absurd hm.2 Bool.false_ne_true
    | some c =>
      refine⟨_,rfl,p,dx,_,rfl,s12 _ _ hip,rfl,_,rfl,p,F,S,_,rfl,hSh.same s12,fun hj=>absurd hm.1 hj,(fun _ z=>by rw[e] at z;cases z),fun c' e' l H3 s3 f3 e3=>?_⟩
      rw[e] at e'
      cases e'
      refine⟨ks++[l],by rw[map_append];rfl,s2.trans s3,?_⟩
      rw[yg hi,filter_append,filter_cons,if_pos (by rw[decide_eq_false hne];rfl),map_append]
      refine(r2.imp fun _ _=>IL.stays K _ _ _ _ s3).snoc ?_
      show IL K H3 l ((S.card (S.handed.getD i "")).getD [])
      rw[e]
      exact SqL.of e3
   ·have he:S.handed.getD i ""=j:=by injection he
    refine⟨ks,rfl,s2,?_⟩
    rw[yg hi,filter_append,filter_cons,if_neg (by rw[decide_eq_true he];decide),filter_nil,append_nil]
    exact r2
  ·rintro ys H2 ⟨ks,rfl,s2,r2⟩ l hl
   rw[length_map,take_length] at r2
   have s12:=s1.trans s2
   exact q l _ ks (s12.newT hl) (s12.free hl) ze (r2.imp fun _ _=>IL.stays K _ _ _ _ (zi.new hl))
def zcR(K:Frag):Sp:=fun vs H Q _=>∃(a b:Addr)(cs:List (List Int)),vs=[.ref a,.ref b]∧zaQ K (IL K) H a cs∧zaQ K (IL K) H b cs∧cs.length≤1000∧(∀d∈cs,d.length≤1000)∧Q (.bl true) H
theorem zhk{f:Addr}{fd:FuncData}(F:Fun K "_law_lists" "_law_lists" zay f fd)(T:Txt K mg)(C_law_same:Can P w K mg base 2 "_law_same" ["_law_found","_law_due"] (zbj K)):FnOk P w K mg base CX0 3 f fd ["_law_found","_law_due"] (zcR K):=by
 refine F.ok zek (fun vs H Q E h=>?_) (fun cdv A outer s H vs Q E hr h=>?_)
 ·obtain⟨a,b,cs,rfl,_⟩:=h
  rfl
 ·obtain⟨a,b,cs,rfl,⟨ls,hA,rA⟩,⟨ks,hB,rB⟩,hz,hd,q⟩:=h
  refine⟨_,(zd (zD (PW.pt (zbv (ye (ya (zk zai (by rfl) T.b_isinstance boot_isinstance (za (pv 0) (za (zap (v:=V.ty "list") rfl T.b_list boot_list rfl) zb))))) (zas (zp yK (zk zg (by rfl) T.b_len PySem.boot_len (za (pv 0) zb)) (zk zg (by rfl) T.b_len PySem.boot_len (za (pv 1) zb)) (zt _))))) (zf (zn yq)) zu)
   (zd (yT PassesOwn.never rfl (ym rfl T.b_range (za (zk zg (by rfl) T.b_len PySem.boot_len (za (pv 1) zb)) zb)) (zV (i:=2) zek.nd rfl (Or.inl rfl))
     (zf (zD (ye (ya (zh C_law_same (hM hr) rfl (za (zA zy (pv 0) (pv 2) (fun _ _=>rfl)) (za (zA zy (pv 1) (pv 2) (fun _ _=>rfl)) zb))))) (zf (zn yq)) zu)))
   (zf (zn yq)))),?_⟩
  have la:=rA.length
  have lb:=rB.length
  refine⟨_,rfl,_,_,rfl,.yes hA,_,rfl,wF ?_⟩
  refine⟨_,rfl,a,_,rfl,.inl hA,_,rfl,b,_,rfl,.inl hB,rfl,_,rfl,?_⟩
  rw[length_map,length_map]
  refine yk (fun hne=>absurd (by rw[la,lb]) hne) (fun he=>?_)
  refine⟨_,rfl,b,_,rfl,.inl hB,_,rfl,by omega,by rw[length_map];omega,?_⟩
  rw[length_map]
  refine zX (fun i σ H2=>∃v,σ=[some (.ref a),some (.ref b),v]∧H2=H) ⟨_,rfl,rfl⟩ ?_ ?_
  ·rintro i σ H2 hi ⟨v,rfl,rfl⟩
   have hi':i<cs.length:=by rw[←lb];simpa using hi
   obtain⟨l,el,rl⟩:=rA.get (getElem?_eq_getElem hi')
   obtain⟨k,ek,rk⟩:=rB.get (getElem?_eq_getElem hi')
   have e1:atI (ls.map V.ref) (0+(i:Int))=some (.ref l):=by rw[Int.zero_add];exact zP (wt el)
   have e2:atI (ks.map V.ref) (0+(i:Int))=some (.ref k):=by rw[Int.zero_add];exact zP (wt ek)
   refine⟨_,rfl,_,rfl,a,_,_,_,rfl,rfl,hA,e1,_,rfl,_,rfl,b,_,_,_,rfl,rfl,hB,e2,l,k,_,_,rfl,rl,rk,by have:=hd _ (getElem_mem hi');omega,?_⟩
   rw[decide_eq_true rfl]
   exact⟨_,rfl,wF ⟨_,rfl,rfl⟩⟩
  ·rintro σ H2 ⟨v,rfl,rfl⟩
   exact q
def zc0(K:Frag):Sp:=fun vs H Q _=>∃(a b:Addr)(ns us:List Int)(st m y md:Int),vs=[.ref a,.int st,.ref b,.int m,.int y,.int md]∧SqL K H a (ns.map V.int)∧SqL K H b (us.map V.int)∧0≤st∧0≤m∧m≤1000∧us≠[]∧us.length≤1000∧∀(l:Addr)(H':Hp)(ls:List Addr)(cs:List (List Int)),zi H H'→H l=none→H' l=some (.lst (ls.map V.ref))→All2 (fun l c=>H' l=some (.lst (c.map V.int))) ls cs→cs.length=m.toNat→(∀d∈cs,d=[]∨d.Perm us)→Q (.ref l) H'
theorem zhP{f:Addr}{fd:FuncData}(F:Fun K "_law_panel" "_law_panel" zav f fd)(T:Txt K mg)(C_law_at:Can P w K mg base 1 "_law_at" ["_law_script","_law_k"] (zdC K))(C_law_card:Can P w K mg base 2 "_law_card" ["_law_cell","_law_couples_here","_law_style"] (zdc K)):FnOk P w K mg base CX0 3 f fd ["_law_script","_law_start","_law_couples_here","_law_many_here","_law_style","_law_mode"] (zc0 K):=by
 refine F.ok zbA (fun vs H Q E h=>?_) (fun cdv A outer s H vs Q E hr h=>?_)
 ·obtain⟨a,b,ns,us,st,m,y,md,rfl,_⟩:=h
  rfl
 ·obtain⟨a,b,ns,us,st,m,y,md,rfl,hA,hB,h0,m0,m1,hne,hz,q⟩:=h
  refine⟨_,(zd (zz (i:=6) zbA.nd rfl (Or.inl rfl) (zO zb))
   (zd (yT PassesOwn.never rfl (ym rfl T.b_range (za (pv 3) zb)) (zV (i:=7) zbA.nd rfl (Or.inl rfl))
     (zd (zz (i:=8) zbA.nd rfl (Or.inl rfl) (zh C_law_at (hM hr) rfl (za (pv 0) (za (zv zZ (pv 1) (pv 7)) zb))))
   (zf (zD (PW.pt (zdX (zp zbO (zv yV (pv 8) zj) zj (zt _)) (zcU (zp yK (pv 5) zj (zt _))))) (zf (zY (zaw PySem.F.plainAttrs_list PySem.F.slot_list_append PySem.F.type_list_append yF (pv 6) (za (zO zb) zb)))) (zf (zY (zaw PySem.F.plainAttrs_list PySem.F.slot_list_append PySem.F.type_list_append yF (pv 6) (za (zh C_law_card (hM hr) rfl (za (zv zca (pv 8) zj) (za (pv 2) (za (pv 4) zb)))) zb))))))))
   (zf (zn (pv 6))))),?_⟩
  have hln:=zx
  refine⟨by decide,fun p0 hp0=>?_⟩
  refine⟨_,rfl,m,rfl,by omega,by omega,zX (fun i σ H2=>∃(v7 v8:Option V)(ls:List Addr)(cs:List (List Int)),σ=[some (.ref a),some (.int st),some (.ref b),some (.int m),some (.int y),some (.int md),some (.ref p0),v7,v8]∧zi H H2∧H2 p0=some (.lst (ls.map V.ref))∧All2 (fun l d=>H2 l=some (.lst (d.map V.int))∧l≠p0) ls cs∧cs.length=i∧∀d∈cs,d=[]∨d.Perm us) ⟨_,_,[],[],rfl,zi.new hp0,ze,.nil,rfl,by simp⟩ ?_ ?_⟩
  ·rintro i σ H2 hi ⟨v7,v8,ls,cs,rfl,s2,e2,r2,hl,hd⟩
   have hi:i<1000:=by omega
   refine⟨_,rfl,_,rfl,_,rfl,_,_,rfl,rfl,a,ns,_,rfl,s2.seq hA,by omega,?_⟩
   dsimp only
   generalize ns.getD (st+(0+(i:Int))).toNat 0=cell
   have go:∀(H3:Hp)(l3:Addr)(d:List Int),zi H2 H3→H2 l3=none→H3 l3=some (.lst (d.map V.int))→(d=[]∨d.Perm us)→(zi H (upd H3 p0 (.lst (ls.map V.ref++[.ref l3])))∧upd H3 p0 (.lst (ls.map V.ref++[.ref l3])) p0=some (.lst ((ls++[l3]).map V.ref))∧All2 (fun l d=>upd H3 p0 (.lst (ls.map V.ref++[.ref l3])) l=some (.lst (d.map V.int))∧l≠p0) (ls++[l3]) (cs++[d])∧(cs++[d]).length=i+1∧∀e∈cs++[d],e=[]∨e.Perm us):=fun H3 l3 d s3 f3 e3 h3=>by
    have n3:l3≠p0:=fun z=>by rw[z,e2] at f3;cases f3
    refine⟨(s2.trans s3).put hp0,zd4 ls l3,?_,by rw[length_append,hl];rfl,fun e he=>?_⟩
    ·refine All2.snoc (r2.imp fun l d h=>⟨by rw[zl h.2];exact s3 _ _ h.1,h.2⟩) ⟨by rw[zl n3];exact e3,n3⟩
    ·rcases List.mem_append.mp he with h | h
     ·exact hd e h
     ·rw[List.mem_singleton.mp h];exact h3
   have hll:=r2.length
   refine⟨_,rfl,_,_,rfl,rfl,(by show(0:Int)<6;decide),rfl,_,rfl,wv (fun _=>?_) (fun _=>wF ?_)⟩
   ·refine⟨_,rfl,rfl,_,rfl,yk (fun _=>?_) (fun _=>?_)⟩
    ·refine⟨_,rfl,.inl ⟨rfl,_,SqL.of e2⟩,by decide,fun p3 hp3=>?_⟩
     have s3:=zi.new (o:=.lst []) hp3
     refine⟨p0,_,_,rfl,rfl,s3 _ _ e2,by rw[length_map];omega,?_⟩
     obtain⟨g1,g2,g3,g4,g5⟩:=go _ p3 [] s3 hp3 ze (.inl rfl)
     exact⟨_,_,_,_,rfl,g1,g2,g3,g4,g5⟩
    ·refine⟨_,rfl,.inl ⟨rfl,_,SqL.of e2⟩,_,rfl,_,_,rfl,rfl,⟨by decide,by decide⟩,_,rfl,_,rfl,_,b,us,_,rfl,s2.seq hB,hne,hz,fun l3 H3 d s3 f3 e3 pd=>?_⟩
     refine⟨p0,_,_,rfl,rfl,s3 _ _ e2,by rw[length_map];omega,?_⟩
     obtain⟨g1,g2,g3,g4,g5⟩:=go H3 l3 d s3 f3 e3 (.inr pd)
     exact⟨_,_,_,_,rfl,g1,g2,g3,g4,g5⟩
   ·refine⟨_,rfl,.inl ⟨rfl,_,SqL.of e2⟩,_,rfl,_,_,rfl,rfl,⟨by decide,by decide⟩,_,rfl,_,rfl,_,b,us,_,rfl,s2.seq hB,hne,hz,fun l3 H3 d s3 f3 e3 pd=>?_⟩
    refine⟨p0,_,_,rfl,rfl,s3 _ _ e2,by rw[length_map];omega,?_⟩
    obtain⟨g1,g2,g3,g4,g5⟩:=go H3 l3 d s3 f3 e3 (.inr pd)
    exact⟨_,_,_,_,rfl,g1,g2,g3,g4,g5⟩
  ·rintro σ H2 ⟨v7,v8,ls,cs,rfl,s2,e2,r2,hl,hd⟩
   exact⟨_,rfl,q p0 _ ls cs s2 hp0 e2 (r2.imp fun _ _ h=>h.1) hl hd⟩
def zbf(K:Frag):Sp:=fun vs H Q _=>∃(a b:Addr)(cs:List (List Int)) (us:List Int),vs=[.ref a,.ref b]∧zaQ K (IL K) H a cs∧SqL K H b (us.map V.int)∧(∀d∈cs,d.Perm us)∧1≤cs.length∧cs.length≤500∧us.length≤500∧∀(l:Addr)(H':Hp),zi H H'→H l=none→H' l=some (.lst ((zan cs us).map V.int))→Q (.ref l) H'
theorem zgo{f:Addr}{fd:FuncData}(F:Fun K "_law_firsts" "_law_firsts" wu f fd)(T:Txt K mg)(C_law_spots:Can P w K mg base 2 "_law_spots" ["_law_cards","_law_couples_here"] (zbE K)):FnOk P w K mg base CX0 3 f fd ["_law_cards","_law_couples_here"] (zbf K):=by
 refine F.ok zdI (fun vs H Q E h=>?_) (fun cdv A outer s H vs Q E hr h=>?_)
 ·obtain⟨a,b,cs,us,rfl,_⟩:=h
  rfl
 ·obtain⟨a,b,cs,us,rfl,hA,hB,hp,c1,c15,u24,q⟩:=h
  refine⟨_,(zd (zz (i:=2) zdI.nd rfl (Or.inr rfl) (zh C_law_spots (hM hr) rfl (za (pv 0) (za (pv 1) zb))))
   (zf (zn (zN (show CompScope (zc wu) ["_law_cards","_law_couples_here","_law_spots_here"] "_law_k" ["_law_couples_here","_law_spots_here"] [1,2] _ from⟨rfl,by decide +kernel,by decide +kernel,rfl,by decide +kernel,rfl,by decide +kernel,by decide +kernel⟩) rfl (ym rfl T.b_range (za (zk zg (by rfl) T.b_len PySem.boot_len (za (pv 1) zb)) zb)) (fun _ _ _ _ _=>(yS (zp zbO (zA (zdu (K:=K) rfl) (pv 2) (pv 0) (fun _ _=>rfl)) zj (zt _)))) (fun _ _ _ _ _=>(zA (zdu (K:=K) rfl) (pv 1) (pv 0) (fun _ _=>rfl))))))),?_⟩
  have hln:=zx
  refine⟨_,rfl,_,rfl,a,b,cs,us,rfl,hA,hB,c15,u24,fun u hu d hd=>(hp d hd).mem_iff.mpr hu,fun l1 H1 s1 f1 e1=>?_⟩
  rw[M6.zbw hp c1] at e1
  have hpl:=M6.yr cs us
  refine⟨_,rfl,b,_,rfl,.inl (s1.seq hB),_,rfl,by omega,by rw[length_map];omega,?_⟩
  rw[length_map,show((us.length:Nat):Int).toNat=us.length by omega]
  refine zfR (fun i zs H2=>zi H1 H2∧zs=(zce (M6.zC cs us) us i).map V.int) ⟨zi.refl _,rfl⟩ ?_ (by omega) ?_ ?_
  ·rintro i zs H2 hi ⟨s2,rfl⟩
   rw[length_map]
   exact zdn _ _ _
  ·rintro i zs H2 hi ⟨s2,rfl⟩
   refine⟨_,rfl,_,rfl,l1,_,_,_,rfl,rfl,SqL.of (s2 _ _ e1),(by rw[Int.zero_add];exact zP (zao (by omega))),rfl,_,rfl,wv (fun he=>?_) (fun hne=>?_)⟩
   ·have he:(M6.zC cs us).getD i 0=1:=by injection he
    refine⟨_,rfl,_,rfl,b,_,_,_,rfl,rfl,(s1.trans s2).seq hB,(by rw[Int.zero_add];exact zP (zao hi)),s2,?_⟩
    rw[zbD,if_pos he,map_append]
    rfl
   ·have hne:¬(M6.zC cs us).getD i 0=1:=fun z=>hne (by rw[z])
    refine⟨s2,?_⟩
    rw[zbD,if_neg hne,append_nil]
  ·rintro zs H2 ⟨s2,rfl⟩ l hl
   have t2:=s1.trans s2
   exact q l _ (t2.newT hl) (t2.free hl) ze
def zcj(K:Frag):Sp:=fun vs H Q E=>∃(x dx a b:Addr)(us:List Int)(ts:List Str),vs=[.ref x,.ref a,.ref b]∧H x=some (.ins (zL K "Sheet") dx [])∧SqL K H a (us.map V.int)∧us.length<4000∧SqL K H b (ts.map V.str)∧ts.length<4000∧(∀z∈ts,z.length≤1000) ∧
 (M1.zcx us=false→∀C H',zb4 K "BadCouples" C→zi H H'→E (.ref C) none H')∧(M1.zcx us=true→M2.zdK ts=false→∀C H',zb4 K "BadJudges" C→zi H H'→E (.ref C) none H') ∧
 (M1.zcx us=true→M2.zdK ts=true→∀H' F,zB K H' x F (Sh.new us ts)→(∀b o,H b=some o→b≠x→H' b=some o∧¬F b)→Q .non H')
theorem zgr{f:Addr}{fd:FuncData}(F:Fun K "__init__" "Sheet.__init__" wX f fd)(T:Txt K mg)(C_good_couples:Can P w K mg base 2 "good_couples" ["couples"] (zbp K))(C_good_judges:Can P w K mg base 3 "good_judges" ["judges"] (zbT K)):FnOk P w K mg base (CX1 P w) 4 f fd ["self","couples","judges"] (zcj K):=by
 obtain⟨c_BadCouples,n_BadCouples,m_BadCouples,x_BadCouples⟩:=T.x_BadCouples
 obtain⟨c_BadJudges,n_BadJudges,m_BadJudges,x_BadJudges⟩:=T.x_BadJudges
 refine F.okX zgk (fun vs H Q E h=>?_) (fun X W cdv A outer s H vs Q E hX hW fl md hr h=>?_)
 ·obtain⟨x,dx,a,b,us,ts,rfl,_⟩:=h
  rfl
 ·obtain⟨x,dx,a,b,us,ts,rfl,hx,hA,hzA,hB,hzB,hzz,qC,qJ,q⟩:=h
  subst hX
  refine⟨_,(zd (zD (ye (ya (zh C_good_couples (hM hr) rfl (za (pv 1) zb)))) (zf (zaf rfl md rfl m_BadCouples x_BadCouples (za yd zb))) zu)
   (zd (zD (ye (ya (zh C_good_judges (hM hr) rfl (za (pv 2) zb)))) (zf (zaf rfl md rfl m_BadJudges x_BadJudges (za yd zb))) zu)
   (zd (zc9 (pv 0) (yb yo (by rfl) T.b_list boot_list (za (pv 1) zb)) rfl)
   (zd (zc9 (pv 0) (zO zb) rfl)
   (zd (zc9 (pv 0) (yb yo (by rfl) T.b_list boot_list (za (pv 2) zb)) rfl)
   (zd (zc9 (pv 0) pe_dnewK rfl)
   (zd (zc9 (pv 0) zj rfl)
   (zf (zc9 (pv 0) yq rfl))))))))),?_⟩
  refine⟨_,rfl,a,us,rfl,hA,hzA,fun H1 s1=>⟨_,rfl,?_⟩⟩
  cases hg:M1.zcx us with
  | false=>exact⟨(by show 1≤sizeLine;decide),by rw[hW];exact qC hg _ _ n_BadCouples s1⟩
  | true =>
    refine⟨_,rfl,b,ts,rfl,s1.seq hB,hzB,hzz,fun H2 s2=>⟨_,rfl,?_⟩⟩
    have s12:=s1.trans s2
    cases hj:M2.zdK ts with
    | false=>exact⟨(by show 1≤sizeLine;decide),by rw[hW];exact qJ hg hj _ _ n_BadJudges s12⟩
    | true =>
      have x2:=s12 _ _ hx
      have k2:∀c o,H c=some o→c≠x→H2 c=some o:=fun c o e _=>s12 c o e
      refine⟨_,rfl,a,_,rfl,.inl (s12.seq hA),fun l1 hl1=>?_⟩
      have f1:=s12.free hl1
      obtain⟨x3,e1,n1,k3⟩:=zef (o:=.lst (us.map V.int)) (u:=.ins (zL K "Sheet") dx [("standing",.ref l1)]) x2 hl1
      refine⟨_,rfl,x,_,dx,_,rfl,(by rw[zl (zr x2 hl1)];exact x2),T.cl_Sheet,T.n_Sheet_standing,(by decide),?_⟩
      rw[pf1]
      generalize hH3:upd (upd H2 l1 _) x _=H3 at x3 e1 k3 ⊢
      refine⟨(by show 0≤sizeLine;decide),fun l2 hl2=>?_⟩
      obtain⟨x4,e2,n2,k4⟩:=zef (o:=.lst []) (u:=.ins (zL K "Sheet") dx [("standing",.ref l1),("struck_so_far",.ref l2)]) x3 hl2
      refine⟨_,rfl,x,_,dx,_,rfl,(by rw[zl (zr x3 hl2)];exact x3),T.cl_Sheet,T.n_Sheet_struck_so_far,(by show 1<1000;decide),?_⟩
      rw[pf2]
      generalize hH4:upd (upd H3 l2 _) x _=H4 at x4 e2 k4 ⊢
      have k24:∀c o,H c=some o→c≠x→H4 c=some o:=fun c o e n=>k4 c o (k3 c o (k2 c o e n) n) n
      have hB4:SqL K H4 b (ts.map V.str):=by
       rcases hB with(e | ⟨o,e⟩) | e
       ·exact .inl (.inl (k24 _ _ e (wR e hx (by intro z;cases z))))
       ·exact .inl (.inr ⟨o,k24 _ _ e (wR e hx (by intro z;cases z))⟩)
       ·exact .inr e
      refine⟨_,rfl,b,_,rfl,.inl hB4,fun l3 hl3=>?_⟩
      obtain⟨x5,e3,n3,k5⟩:=zef (o:=.lst (ts.map V.str)) (u:=.ins (zL K "Sheet") dx [("standing",.ref l1),("struck_so_far",.ref l2),("panel",.ref l3)]) x4 hl3
      refine⟨_,rfl,x,_,dx,_,rfl,(by rw[zl (zr x4 hl3)];exact x4),T.cl_Sheet,T.n_Sheet_panel,(by show 2<1000;decide),?_⟩
      rw[pf3]
      generalize hH5:upd (upd H4 l3 _) x _=H5 at x5 e3 k5 ⊢
      intro d hd
      obtain⟨x6,e4,n4,k6⟩:=zef (o:=.dK []) (u:=.ins (zL K "Sheet") dx [("standing",.ref l1),("struck_so_far",.ref l2),("panel",.ref l3),("card_by_judge",.ref d)]) x5 hd
      refine⟨_,rfl,x,_,dx,_,rfl,(by rw[zl (zr x5 hd)];exact x5),T.cl_Sheet,T.n_Sheet_card_by_judge,(by show 3<1000;decide),?_⟩
      rw[pf4]
      generalize hH6:upd (upd H5 d _) x _=H6 at x6 e4 k6 ⊢
      refine⟨_,rfl,x,_,dx,_,rfl,x6,T.cl_Sheet,T.n_Sheet_taken_so_far,(by show 4<1000;decide),?_⟩
      rw[pf5]
      refine⟨_,rfl,x,_,dx,_,rfl,ze,T.cl_Sheet,T.n_Sheet_sealed,(by show 5<1000;decide),?_⟩
      rw[pf6,upd_upd]
      have keep:∀c o,H6 c=some o→c≠x→upd H6 x (.ins (zL K "Sheet") dx (shF l1 l2 l3 d (Sh.new us ts))) c=some o:=fun c o e n=>by rw[zl n];exact e
      have g1:H6 l1=some (.lst (us.map V.int)):=k6 _ _ (k5 _ _ (k4 _ _ e1 n1) n1) n1
      have g2:H6 l2=some (.lst []):=k6 _ _ (k5 _ _ e2 n2) n2
      have g3:H6 l3=some (.lst (ts.map V.str)):=k6 _ _ e3 n3
      refine q hg hj (upd H6 x (.ins (zL K "Sheet") dx (shF l1 l2 l3 d (Sh.new us ts)))) (fun c=>c=x∨c=l1∨c=l2∨c=l3∨c=d) ⟨dx,l1,l2,l3,d,[],?_⟩ fun c o e n=>⟨?_,?_⟩
      ·refine⟨⟨ze,keep _ _ g1 n1,keep _ _ g2 n2,keep _ _ g3 n3,keep _ _ e4 n4,zero_le _,fun _ _=>rfl,(fun _ _ z=>nomatch z),.inl rfl,.inr (.inl rfl),.inr (.inr (.inl rfl)),.inr (.inr (.inr (.inl rfl))),.inr (.inr (.inr (.inr rfl))),?_,?_,?_⟩,Sh.Ok.new hg hj⟩
       ·exact zr e1 hl2
       ·exact fun z=>zr (k4 _ _ (show H3 l1=_ from e1) n1) hl3 (by rw[z] at hl3;rw[e2] at hl3;cases hl3)
       ·rintro c (rfl | rfl | rfl | rfl | rfl)
        ·rw[ze];exact fun z=>nomatch z
        ·rw[keep _ _ g1 n1];exact fun z=>nomatch z
        ·rw[keep _ _ g2 n2];exact fun z=>nomatch z
        ·rw[keep _ _ g3 n3];exact fun z=>nomatch z
        ·rw[keep _ _ e4 n4];exact fun z=>nomatch z
      ·exact keep _ _ (k6 _ _ (k5 _ _ (k24 _ _ e n) n) n) n
      ·have e2':=k2 _ _ e n
       have e3':=k3 _ _ e2' n
       have e4':=k4 _ _ e3' n
       have e5':=k5 _ _ e4' n
       rintro (z | z | z | z | z)
       ·exact n z
       ·rw[z,hl1] at e2';cases e2'
       ·rw[z,hl2] at e3';cases e3'
       ·rw[z,hl3] at e4';cases e4'
       ·rw[z,hd] at e5';cases e5'
def zdk(K:Frag):Sp:=fun vs H Q _=>∃(a b:Addr)(ms us:List Int),vs=[.ref a,.ref b]∧SqL K H a (ms.map V.int)∧SqL K H b (us.map V.int)∧ms.length=us.length∧1≤ms.length∧ms.length≤60∧(∀x∈ms,1≤x∧x≤24)∧(∀x∈us,1≤x∧x≤24)∧∀H',zi H H'→Q (.bl (M6.zR ms us 24)) H'
theorem zil{f:Addr}{fd:FuncData}(F:Fun K "is_ahead" "is_ahead" za8 f fd)(T:Txt K mg)(C_granted:Can P w K mg base 2 "granted" ["marks","number"] (zaV K))(C_granted_sum:Can P w K mg base 2 "granted_sum" ["marks","number"] (wO K))(C_first_number:Can P w K mg base 2 "first_number" ["marks"] (wx K))(C_unlike_at:Can P w K mg base 3 "unlike_at" ["one","other"] (zby K)):FnOk P w K mg base CX0 4 f fd ["one","other"] (zdk K):=by
 refine F.ok zeS (fun vs H Q E h=>?_) (fun cdv A outer s H vs Q E hr h=>?_)
 ·obtain⟨a,b,ms,us,rfl,_⟩:=h
  rfl
 ·obtain⟨a,b,ms,us,rfl,hA,hB,hl,h1,hz,hm,hu,q⟩:=h
  refine⟨_,(zd (zD (zp yK (zh C_first_number (hM hr) rfl (za (pv 0) zb)) (zh C_first_number (hM hr) rfl (za (pv 1) zb)) (zt _)) (zf (zn (zcV ze3 (zh C_first_number (hM hr) rfl (za (pv 0) zb)) (zh C_first_number (hM hr) rfl (za (pv 1) zb)) (zt _)))) zu)
   (zd (zz (i:=2) zeS.nd rfl (Or.inl rfl) (zh C_unlike_at (hM hr) rfl (za (pv 0) (za (pv 1) zb))))
   (zd (zD (zp op_isN (pv 2) zeN (zt _)) (zf (zn yq)) zu)
   (zd (zD (zp yK (zh C_granted (hM hr) rfl (za (pv 0) (za (pv 2) zb))) (zh C_granted (hM hr) rfl (za (pv 1) (za (pv 2) zb))) (zt _)) (zf (zn (zcV zfl (zh C_granted (hM hr) rfl (za (pv 0) (za (pv 2) zb))) (zh C_granted (hM hr) rfl (za (pv 1) (za (pv 2) zb))) (zt _)))) zu)
   (zf (zn (zcV ze3 (zh C_granted_sum (hM hr) rfl (za (pv 0) (za (pv 2) zb))) (zh C_granted_sum (hM hr) rfl (za (pv 1) (za (pv 2) zb))) (zt _)))))))),?_⟩
  have hne:ms≠[]:=by intro z;rw[z] at h1;simp at h1
  have hne2:us≠[]:=by intro z;rw[z] at hl;have:ms.length=0:=hl;omega
  refine⟨_,rfl,a,ms,rfl,hA,hne,hz,hm,fun H1 f s1 hf=>?_⟩
  refine⟨_,rfl,b,us,rfl,s1.seq hB,hne2,by omega,hu,fun H2 g s2 hg=>?_⟩
  have fr:=M3.zcz hf 1 24 hm
  have gr:=M3.zcz hg 1 24 hu
  have t2:=s1.trans s2
  refine⟨rfl,_,rfl,yk (fun hfg=>?_) (fun hfg=>?_)⟩
  ·refine⟨_,rfl,a,ms,rfl,t2.seq hA,hne,hz,hm,fun H3 f' s3 hf'=>?_⟩
   have t3:=t2.trans s3
   refine⟨_,rfl,b,us,rfl,t3.seq hB,hne2,by omega,hu,fun H4 g' s4 hg'=>?_⟩
   have ef:=M3.zbZ hf' hf
   have eg:=M3.zbZ hg' hg
   subst ef eg
   refine⟨_,_,rfl,rfl,?_⟩
   have hfg:f'≠g':=fun z=>hfg (by rw[z])
   have e:decide (f'<g')=M6.zR ms us 24:=by
    by_cases c:f'<g'
    ·rw[decide_eq_true c,M6.ahead_lt hf' hg' c fr.1 fr.2]
    ·rw[decide_eq_false c,M6.ahead_gt hf' hg' (by omega) gr.1 gr.2]
   show Q (.bl (decide (f'<g'))) H4
   rw[e]
   exact q _ (t3.trans s4)
  ·injection hfg with hfg
   subst hfg
   refine⟨_,rfl,_,rfl,a,b,ms,us,f,rfl,t2.seq hA,t2.seq hB,h1,hz,by omega,hm,hu,hf,hg,fun r H3 s3 hr'=>?_⟩
   have t3:=t2.trans s3
   cases r with
   | none =>
     refine⟨_,rfl,rfl,_,rfl,wv (fun _=>?_) (fun z=>absurd rfl z)⟩
     rw[M6.ahead_none (M6.zgF hf hg hr')] at q
     exact q _ t3
   | some n =>
     refine⟨_,rfl,rfl,_,rfl,wv (fun z=>nomatch z) (fun _=>?_)⟩
     rw[M6.ahead_at hf hg fr.1 hr'] at q
     refine⟨_,rfl,_,rfl,a,ms,_,rfl,t3.seq hA,by omega,fun H4 s4=>?_⟩
     refine⟨_,rfl,_,rfl,b,us,_,rfl,(t3.trans s4).seq hB,by omega,fun H5 s5=>?_⟩
     have t5:=(t3.trans s4).trans s5
     refine⟨rfl,_,rfl,yk (fun hc=>?_) (fun hc=>?_)⟩
     ·rw[if_neg fun z=>hc (by rw[z])] at q
      refine⟨_,rfl,_,rfl,a,ms,_,rfl,t5.seq hA,by omega,fun H6 s6=>?_⟩
      refine⟨_,rfl,_,rfl,b,us,_,rfl,(t5.trans s6).seq hB,by omega,fun H7 s7=>?_⟩
      exact⟨_,_,rfl,rfl,q _ ((t5.trans s6).trans s7)⟩
     ·injection hc with hc
      rw[if_pos hc] at q
      refine⟨_,rfl,_,rfl,a,ms,_,rfl,t5.seq hA,by omega,fun H6 s6=>?_⟩
      refine⟨_,rfl,_,rfl,b,us,_,rfl,(t5.trans s6).seq hB,by omega,fun H7 s7=>?_⟩
      exact⟨_,_,rfl,rfl,q _ ((t5.trans s6).trans s7)⟩
def zcn(K:Frag):Sp:=fun vs H Q _=>∃(a b:Addr)(ms us:List Int),vs=[.ref a,.ref b]∧SqL K H a (ms.map V.int)∧SqL K H b (us.map V.int)∧ms.length=us.length∧1≤ms.length∧ms.length≤60∧(∀x∈ms,1≤x∧x≤24)∧(∀x∈us,1≤x∧x≤24)∧∀r,M6.wa ms us 24 r→∀(x:V)(H':Hp),zi H H'→Told K H' x r→Q x H'
theorem zgd{f:Addr}{fd:FuncData}(F:Fun K "parting_of" "parting_of" wZ f fd)(T:Txt K mg)(C_granted:Can P w K mg base 2 "granted" ["marks","number"] (zaV K))(C_first_number:Can P w K mg base 2 "first_number" ["marks"] (wx K))(C_unlike_at:Can P w K mg base 3 "unlike_at" ["one","other"] (zby K)):FnOk P w K mg base CX0 4 f fd ["one","other"] (zcn K):=by
 refine F.ok zdJ (fun vs H Q E h=>?_) (fun cdv A outer s H vs Q E hr h=>?_)
 ·obtain⟨a,b,ms,us,rfl,_⟩:=h
  rfl
 ·obtain⟨a,b,ms,us,rfl,hA,hB,hl,h1,hz,hm,hu,q⟩:=h
  refine⟨_,(zd (zD (zp yK (zh C_first_number (hM hr) rfl (za (pv 0) zb)) (zh C_first_number (hM hr) rfl (za (pv 1) zb)) (zt _)) (zf (zn (zb1 (za (zk (call_min2 rfl) (by rfl) T.b_min boot_min (za (zh C_first_number (hM hr) rfl (za (pv 0) zb)) (za (zh C_first_number (hM hr) rfl (za (pv 1) zb)) zb))) (za yd zb))))) zu)
   (zd (zz (i:=2) zdJ.nd rfl (Or.inl rfl) (zh C_unlike_at (hM hr) rfl (za (pv 0) (za (pv 1) zb))))
   (zd (zD (zp op_isN (pv 2) zeN (zt _)) (zf (zn zeN)) zu)
   (zd (zD (zp yK (zh C_granted (hM hr) rfl (za (pv 0) (za (pv 2) zb))) (zh C_granted (hM hr) rfl (za (pv 1) (za (pv 2) zb))) (zt _)) (zf (zn (zb1 (za (pv 2) (za yd zb))))) zu)
   (zf (zn (zb1 (za (pv 2) (za yd zb))))))))),?_⟩
  have hne:ms≠[]:=by intro z;rw[z] at h1;simp at h1
  have hne2:us≠[]:=by intro z;rw[z] at hl;have:ms.length=0:=hl;omega
  refine⟨_,rfl,a,ms,rfl,hA,hne,hz,hm,fun H1 f s1 hf=>?_⟩
  refine⟨_,rfl,b,us,rfl,s1.seq hB,hne2,by omega,hu,fun H2 g s2 hg=>?_⟩
  have fr:=M3.zcz hf 1 24 hm
  have gr:=M3.zcz hg 1 24 hu
  have t2:=s1.trans s2
  refine⟨rfl,_,rfl,yk (fun hfg=>?_) (fun hfg=>?_)⟩
  ·refine⟨_,rfl,a,ms,rfl,t2.seq hA,hne,hz,hm,fun H3 f' s3 hf'=>?_⟩
   have t3:=t2.trans s3
   refine⟨_,rfl,b,us,rfl,t3.seq hB,hne2,by omega,hu,fun H4 g' s4 hg'=>?_⟩
   have ef:=M3.zbZ hf' hf
   have eg:=M3.zbZ hg' hg
   subst ef eg
   refine⟨_,_,rfl,(by show 2≤sizeLine;decide),fun t ht=>?_⟩
   have hfg:f'≠g':=fun z=>hfg (by rw[z])
   by_cases c:g'<f'
   ·rw[if_pos c]
    refine q (some (g'.toNat,"half")) (M6.part_gt hf' hg' c gr.1 gr.2) _ _ ((t3.trans s4).newT ht) ⟨t,rfl,?_⟩
    have e:((g'.toNat:Nat):Int)=g':=by omega
    dsimp only
    rw[e]
    exact SqT.new
   ·rw[if_neg c]
    refine q (some (f'.toNat,"half")) (M6.zhQ hf' hg' (by omega) fr.1 fr.2) _ _ ((t3.trans s4).newT ht) ⟨t,rfl,?_⟩
    have e:((f'.toNat:Nat):Int)=f':=by omega
    dsimp only
    rw[e]
    exact SqT.new
  ·injection hfg with hfg
   subst hfg
   refine⟨_,rfl,_,rfl,a,b,ms,us,f,rfl,t2.seq hA,t2.seq hB,h1,hz,by omega,hm,hu,hf,hg,fun r H3 s3 hr'=>?_⟩
   have t3:=t2.trans s3
   cases r with
   | none =>
     refine⟨_,rfl,rfl,_,rfl,wv (fun _=>?_) (fun z=>absurd rfl z)⟩
     exact q none (M6.zgF hf hg hr') _ _ t3 rfl
   | some n =>
     refine⟨_,rfl,rfl,_,rfl,wv (fun z=>nomatch z) (fun _=>?_)⟩
     have hp:=M6.zgT hf hg fr.1 hr'
     have e:((n.toNat:Nat):Int)=n:=by have:=hr'.1;omega
     refine⟨_,rfl,_,rfl,a,ms,_,rfl,t3.seq hA,by omega,fun H4 s4=>?_⟩
     refine⟨_,rfl,_,rfl,b,us,_,rfl,(t3.trans s4).seq hB,by omega,fun H5 s5=>?_⟩
     have t5:=(t3.trans s4).trans s5
     refine⟨rfl,_,rfl,yk (fun hc=>?_) (fun hc=>?_)⟩
     ·rw[if_neg fun z=>hc (by rw[z])] at hp
      refine⟨_,rfl,(by show 2≤sizeLine;decide),fun t ht=>?_⟩
      refine q _ hp _ _ (t5.newT ht) ⟨t,rfl,?_⟩
      dsimp only
      rw[e]
      exact SqT.new
     ·injection hc with hc
      rw[if_pos hc] at hp
      refine⟨_,rfl,(by show 2≤sizeLine;decide),fun t ht=>?_⟩
      refine q _ hp _ _ (t5.newT ht) ⟨t,rfl,?_⟩
      dsimp only
      rw[e]
      exact SqT.new
def zcd(K:Frag):Sp:=fun vs H Q _=>∃(x:Addr)(F:Addr→Prop)(S:Sh)(p c:Int),vs=[.ref x,.int p,.int c]∧zB K H x F S∧c∈S.couples∧p.natAbs≤990∧∀H',zi H H'→Q (.str (M6.zhL p c (M5.zm S.cardsIn c) S.couples.length)) H'
theorem ziJ{f:Addr}{fd:FuncData}(F:Fun K "row_text" "row_text" wM f fd)(T:Txt K mg)(C_marks_of:Can P w K mg base 2 "marks_of" ["cards","couple"] (zbi K))(C_ladder_of:Can P w K mg base 3 "ladder_of" ["marks","last"] (zcM K))(C_Sheet_couples:CanM P w K mg base 1 (zL K "Sheet") "couples" ["self"] (zI K))(C_Sheet_cards:CanM P w K mg base 3 (zL K "Sheet") "cards" ["self"] (yA K)):FnOk P w K mg base CX0 4 f fd ["sheet","place","couple"] (zcd K):=by
 refine F.ok zbk (fun vs H Q E h=>?_) (fun cdv A outer s H vs Q E hr h=>?_)
 ·obtain⟨x,F,S,p,c,rfl,_⟩:=h
  rfl
 ·obtain⟨x,F,S,p,c,rfl,hSh,hc,hp,q⟩:=h
  refine⟨_,(zd (zz (i:=3) zbk.nd rfl (Or.inl rfl) (zh C_marks_of (hM hr) rfl (za (zQ C_Sheet_cards T.cl_Sheet (hM hr) (pv 0)) (za (pv 2) zb))))
   (zd (zz (i:=4) zbk.nd rfl (Or.inl rfl) (zh C_ladder_of (hM hr) rfl (za (pv 3) (za (zk zg (by rfl) T.b_len PySem.boot_len (za (zQ C_Sheet_couples T.cl_Sheet (hM hr) (pv 0)) zb)) zb))))
   (zd (zz (i:=5) zbk.nd rfl (Or.inl rfl) (zO (za (yb zcy (by rfl) T.b_str boot_str (za (pv 1) zb)) (za (yb zcy (by rfl) T.b_str boot_str (za (pv 2) zb)) zb))))
   (zd (zdw (i:=6) (show CompScope2 (zc wM) ["sheet","place","couple","marks","ladder","head","steps"] "many" "total" [] [] _ from⟨rfl,by decide +kernel,by decide +kernel,rfl,rfl,by decide +kernel,rfl,by decide +kernel,by decide +kernel⟩) rfl zbk.nd rfl (Or.inl rfl) (zE (pv 4)) (fun _ _ _ _ _=>yw) (fun _ _ _ _ _=>(pe_fstr (zdE (pe_fmt (pv 0)) (zdE yd (zdE (pe_fmt (pv 1)) pj_nil))))))
   (zf (zn (zaw PySem.F.plainAttrs_str PySem.F.slot_str_join PySem.F.type_str_join ms_join yd (za (zv wD (zv wD (zv wD (zv wD (pv 5) (zO (za yd zb))) (zN (show CompScope (zc wM) ["sheet","place","couple","marks","ladder","head","steps"] "mark" [] [] _ from⟨rfl,by decide +kernel,by decide +kernel,rfl,by decide +kernel,rfl,by decide +kernel,by decide +kernel⟩) rfl (zE (pv 3)) (fun _ _ _ _ _=>yw) (fun _ _ _ _ _=>(yb zcy (by rfl) T.b_str boot_str (za (pv 0) zb))))) (zO (za yd zb))) (pv 6)) zb)))))))),?_⟩
  have hln:=zx
  have ok:=hSh.ok
  have h15:S.handed.length≤15:=le_trans (length_filter_le _ _) ok.p15
  have hil:=Sh.cardsIn_len S
  have hip:=Sh.cardsIn_perm ok
  have c24:=ok.c24
  have hcr:=ok.rng c hc
  obtain⟨dx,b1,b2,b3,d,hi⟩:=hSh.ins
  refine⟨_,rfl,x,dx,_,rfl,hi,rfl,x,F,S,rfl,hSh,fun l1 H1 ks s1 f1 e1 r1=>?_⟩
  refine⟨_,rfl,l1,S.cardsIn,c,rfl,⟨ks,SqL.of e1,r1.imp fun _ _ z=>SqL.of z.2⟩,by omega,fun d hd=>(hip d hd).mem_iff.mpr hc,fun l2 H2 s2 f2 e2=>?_⟩
  have hx:∀y∈M5.zm S.cardsIn c,1≤y∧y≤24:=fun y hy=>by have:=M6.yz hip hc y hy;omega
  have hml:=M5.zW S.cardsIn c
  generalize M5.zm S.cardsIn c=ms at e2 hml hx q
  have t2:=s1.trans s2
  refine⟨_,rfl,_,rfl,x,dx,_,rfl,t2 _ _ hi,rfl,x,F,S,rfl,hSh.same t2,fun l3 H3 s3 f3 e3=>?_⟩
  refine⟨l3,_,rfl,.inl (SqL.of e3),?_⟩
  rw[length_map]
  refine⟨l2,ms,_,rfl,SqL.of (s3 _ _ e2),by omega,by omega,by omega,fun l4 H4 ls s4 f4 e4 r4=>?_⟩
  rw[show((S.couples.length:Nat):Int).toNat=S.couples.length by omega] at r4
  have t4:=(t2.trans s3).trans s4
  refine⟨_,rfl,.inl ⟨_,rfl,zds (by omega),_,rfl,.inl ⟨_,rfl,zds (by omega),(by show 2≤sizeLine;decide),fun l5 hl5=>?_⟩⟩⟩
  have s5:=zi.new (o:=.lst ([tN p,tN c].map V.str)) hl5
  have e5:upd H4 l5 (.lst ([tN p,tN c].map V.str)) l5=some (.lst ([tN p,tN c].map V.str)):=ze
  change zi H4 (upd H4 l5 (.lst [.str (Str.ofString (toString p)),.str (Str.ofString (toString c))]))at s5
  change upd H4 l5 (.lst [.str (Str.ofString (toString p)),.str (Str.ofString (toString c))]) l5=_ at e5
  generalize hH5:upd H4 l5 _=H5 at s5 e5 ⊢
  have e45:=s5 _ _ e4
  have r45:=r4.imp fun _ _=>TPl.stays K _ _ _ _ s5
  refine⟨_,rfl,l4,rfl,⟨_,SqL.of e45⟩,?_⟩
  refine zdP (f:=M6.zia) (SqL.of e45) r45 (by rw[M6.zcY];omega) (fun pr H' R hpr s' h=>?_) fun H6 s6=>?_
  ·obtain⟨k,hk,rfl⟩:=List.mem_map.mp hpr
   have hcn:=M3.zcQ ms ((k:Int)+1)
   have hsm:=M6.zfP hx ((k:Int)+1)
   have hsl:=M6.zeq (by omega) hx ((k:Int)+1)
   dsimp only at h ⊢
   refine⟨_,rfl,.inl ⟨_,rfl,zds (by omega),_,rfl,?_,_,rfl,?_,_,rfl,.inl ⟨_,rfl,zds (by omega),_,rfl,?_,?_,?_⟩⟩⟩
   all_goals unfold tN at hsl
   all_goals have l0:Str.empty.length=0:=rfl
   all_goals have l1:(Str.ofString "/").length=1:=M6.zgY
   ·rw[wl];omega
   ·rw[wl,wl];omega
   ·rw[wl,wl,wl];omega
   ·rw[wl,wl,wl];omega
   ·rw[M6.emp_app]
    exact h H' (zi.refl _)
  intro l6 hl6
  have s7:=(s5.trans s6).newT (o:=.lst ((M6.zc8 ms S.couples.length).map V.str)) hl6
  have e7:upd H6 l6 (.lst ((M6.zc8 ms S.couples.length).map V.str)) l6=some (.lst ((M6.zc8 ms S.couples.length).map V.str)):=ze
  have e57:=(s6.newT (o:=.lst ((M6.zc8 ms S.couples.length).map V.str)) hl6) _ _ e5
  change zi H4 (upd H6 l6 (.lst (((M6.zbq ms S.couples.length).map M6.zia).map V.str)))at s7
  change upd H6 l6 (.lst (((M6.zbq ms S.couples.length).map M6.zia).map V.str)) l6=_ at e7
  change upd H6 l6 (.lst (((M6.zbq ms S.couples.length).map M6.zia).map V.str)) l5=_ at e57
  generalize hH7:upd H6 l6 _=H7 at s7 e7 e57 ⊢
  have m7:H7 l2=some (.lst (ms.map V.int)):=s7 _ _ (s4 _ _ (s3 _ _ e2))
  refine⟨rfl,_,rfl,(by show 1≤sizeLine;decide),fun l7 hl7=>?_⟩
  have s8:=zi.new (o:=.lst [.str M6.bar]) hl7
  change zi H7 (upd H7 l7 (.lst [.str (Str.ofString "|")]))at s8
  refine⟨l5,l7,_,[.str M6.bar],rfl,rfl,s8 _ _ e57,ze,(by show 3≤sizeLine;decide),fun l8 hl8=>?_⟩
  have s9:=s8.newT (o:=.lst (([tN p,tN c]++[M6.bar]).map V.str)) hl8
  have e9:upd (upd H7 l7 (.lst [.str (Str.ofString "|")])) l8 (.lst (([tN p,tN c]++[M6.bar]).map V.str)) l8=some (.lst (([tN p,tN c]++[M6.bar]).map V.str)):=ze
  change zi H7 (upd (upd H7 l7 (.lst [.str (Str.ofString "|")])) l8 (.lst ([tN p,tN c].map V.str++[.str M6.bar])))at s9
  change upd (upd H7 l7 (.lst [.str (Str.ofString "|")])) l8 (.lst ([tN p,tN c].map V.str++[.str M6.bar])) l8=_ at e9
  generalize hH9:upd (upd H7 l7 _) l8 _=H9 at s9 e9 ⊢
  have m9:=s9 _ _ m7
  refine⟨_,rfl,l2,rfl,⟨_,SqL.of m9⟩,?_⟩
  refine comp_strN (f:=tN) (SqL.of m9) (by omega) (fun y H' R hy s' h=>⟨_,rfl,.inl ⟨_,rfl,zds (by have:=hx y hy;omega),h H' (zi.refl _)⟩⟩) fun H10 s10=>?_
  intro l9 hl9
  have s11:=s10.newT (o:=.lst ((ms.map tN).map V.str)) hl9
  refine⟨l8,l9,_,_,rfl,rfl,s11 _ _ e9,ze,by rw[length_map,length_map,length_map];simp only[length_append,length_cons,length_nil];omega,fun l10 hl10=>?_⟩
  rw[←map_append]
  have s12:=s11.newT (o:=.lst (([tN p,tN c]++[M6.bar]++ms.map tN).map V.str)) hl10
  have e12:upd (upd H10 l9 (.lst ((ms.map tN).map V.str))) l10 (.lst (([tN p,tN c]++[M6.bar]++ms.map tN).map V.str)) l10=some (.lst (([tN p,tN c]++[M6.bar]++ms.map tN).map V.str)):=ze
  generalize hH12:upd (upd H10 l9 _) l10 _=H12 at s12 e12 ⊢
  refine⟨(by show 1≤sizeLine;decide),fun l11 hl11=>?_⟩
  have s13:=zi.new (o:=.lst [.str M6.bar]) hl11
  change zi H12 (upd H12 l11 (.lst [.str (Str.ofString "|")]))at s13
  refine⟨l10,l11,_,[.str M6.bar],rfl,rfl,s13 _ _ e12,ze,by rw[length_map];simp only[length_append,length_map,length_cons,length_nil];omega,fun l12 hl12=>?_⟩
  rw[show([tN p,tN c]++[M6.bar]++ms.map tN).map V.str++[V.str M6.bar]=([tN p,tN c]++[M6.bar]++ms.map tN++[M6.bar]).map V.str by rw[map_append (l₂:=[M6.bar])];rfl]
  have s14:=s13.newT (o:=.lst (([tN p,tN c]++[M6.bar]++ms.map tN++[M6.bar]).map V.str)) hl12
  have e14:upd (upd H12 l11 (.lst [.str (Str.ofString "|")])) l12 (.lst (([tN p,tN c]++[M6.bar]++ms.map tN++[M6.bar]).map V.str)) l12=some (.lst (([tN p,tN c]++[M6.bar]++ms.map tN++[M6.bar]).map V.str)):=ze
  generalize hH14:upd (upd H12 l11 _) l12 _=H14 at s14 e14 ⊢
  have hlw:=M6.ziY ms S.couples.length
  refine⟨_,rfl,l12,l6,_,_,rfl,rfl,e14,s14 _ _ (s12 _ _ (s9 _ _ e7)),by simp only[length_append,length_map,length_cons,length_nil];omega,fun l13 hl13=>?_⟩
  rw[←map_append]
  refine⟨_,l13,M6.rowW p c ms S.couples.length,rfl,rfl,SqL.new,by decide +kernel,?_,M6.zfG (by omega) hx hp (by omega) _,?_⟩
  ·unfold M6.rowW
   simp only[length_append,length_map,length_cons,length_nil]
   omega
  ·exact q _ ((((((t4.trans s7).trans s9).trans s12).trans s14)).newT hl13)
def zbn(K:Frag):Sp:=fun vs H Q _=>∃(a b c:Addr)(ts:List Str)(cs:List (List Int)) (us:List Int),vs=[.ref a,.ref b,.ref c]∧SqL K H a (ts.map V.str)∧zaQ K (IL K) H b cs∧SqL K H c (us.map V.int)∧cs.length=ts.length∧ts.length≤500∧us.length≤500∧(∀d∈cs,d=[]∨d.Perm us)∧2≤(cs.filter fun d => !decide (d=[])).length∧∀(l:Addr)(H':Hp),zi H H'→H l=none→H' l=some (.lst ((zhJ ts cs us ts.length).map V.str))→Q (.ref l) H'
theorem ziO{cs:List (List Int)}{k:Nat}(hk:k<cs.length):(cs.filter fun d => !decide (d=[])).length≤((cs.take k++cs.drop (k+1)).filter fun d => !decide (d=[])).length+1:=by
 conv=>lhs;rw[←take_append_drop k cs,drop_eq_getElem_cons hk,filter_append,length_append,filter_cons]
 rw[filter_append,length_append]
 split
 ·rw[length_cons];omega
 ·omega
theorem ze8{f:Addr}{fd:FuncData}(F:Fun K "_law_deciding" "_law_deciding" yp f fd)(T:Txt K mg)(C_law_firsts:Can P w K mg base 3 "_law_firsts" ["_law_cards","_law_couples_here"] (zbf K)):FnOk P w K mg base CX0 4 f fd ["_law_names","_law_cards","_law_couples_here"] (zbn K):=by
 refine F.ok ww (fun vs H Q E h=>?_) (fun cdv A outer s H vs Q E hr h=>?_)
 ·obtain⟨a,b,c,ts,cs,us,rfl,_⟩:=h
  rfl
 ·obtain⟨a,b,c,ts,cs,us,rfl,hA,⟨ls,hB,rB⟩,hC,hcl,hz,huz,hcd,h2,q⟩:=h
  refine⟨_,(zd (zz (i:=3) ww.nd rfl (Or.inl rfl) (zh C_law_firsts (hM hr) rfl (za (zN (show CompScope (zc yp) ["_law_names","_law_cards","_law_couples_here","_law_now","_law_made","_law_k","_law_rest"] "_law_card_here" [] [] _ from⟨rfl,by decide +kernel,by decide +kernel,rfl,by decide +kernel,rfl,by decide +kernel,by decide +kernel⟩) rfl (zE (pv 1)) (fun _ _ _ _ _=>(yS (zp (wd (K:=K) rfl hr.units0) (pv 0) (zO zb) (zt _)))) (fun _ _ _ _ _=>(pv 0))) (za (pv 2) zb))))
   (zd (zz (i:=4) ww.nd rfl (Or.inl rfl) (zO zb))
   (zd (yT PassesOwn.never rfl (ym rfl T.b_range (za (zk zg (by rfl) T.b_len PySem.boot_len (za (pv 0) zb)) zb)) (zV (i:=5) ww.nd rfl (Or.inl rfl))
     (zd (yU (i:=6) (show CompScope (zc yp) ["_law_names","_law_cards","_law_couples_here","_law_now","_law_made","_law_k","_law_rest"] "_law_card_here" [] [] _ from⟨rfl,by decide +kernel,by decide +kernel,rfl,by decide +kernel,rfl,by decide +kernel,by decide +kernel⟩) rfl ww.nd rfl (Or.inl rfl) (zE (zv wD (yC zac (pv 1) wE (yZ (pv 5))) (yC zac (pv 1) (yZ (zv zZ (pv 5) zj)) wE))) (fun _ _ _ _ _=>(yS (zp (wd (K:=K) rfl hr.units0) (pv 0) (zO zb) (zt _)))) (fun _ _ _ _ _=>(pv 0)))
   (zf (zD (PW.pt (zdX (zp (zaU hr.units0) (zA zy (pv 1) (pv 5) (fun _ _=>rfl)) (zO zb) (zt _)) (zcU (zp (zaU hr.units0) (zh C_law_firsts (hM hr) rfl (za (pv 6) (za (pv 2) zb))) (pv 3) (zt _))))) (zf (zY (zaw PySem.F.plainAttrs_list PySem.F.slot_list_append PySem.F.type_list_append yF (pv 4) (za (zA zy (pv 0) (pv 5) (fun _ _=>rfl)) zb)))) zu))))
   (zf (zn (pv 4)))))),?_⟩
  have hln:=zx
  have hll:=rB.length
  have hpc:∀ds:List (List Int),(∀d∈ds,d∈cs)→∀d∈ds.filter (fun d => !decide (d=[])),d.Perm us:=fun ds hs d hd=>by
   have h:=List.mem_filter.mp hd
   refine(hcd d (hs d h.1)).resolve_left fun z=>?_
   have h2:=h.2
   rw[decide_eq_true z] at h2
   exact absurd h2 (by decide)
  refine⟨_,rfl,b,rfl,⟨_,hB⟩,?_⟩
  refine zbF hB rB (by omega) (fun m d H' R hm h=>?_) (fun m H' R h=>⟨_,rfl,h⟩) fun ks H1 s1 r1=>?_
  ·refine⟨_,rfl,(by show 0≤sizeLine;decide),fun l13 hl13=>?_⟩
   have s13:=zi.new (o:=.lst []) hl13
   refine⟨m,l13,_,[],rfl,rfl,s13.seq hm,SqL.new,zG _,rfl,_,rfl,?_⟩
   rw[show eqL (d.map V.int) []=decide (d=[])from yM _ []]
   exact h _ s13
  intro l1 hl1
  have s2:=zi.new (o:=.lst (ks.map V.ref)) hl1
  have t2:=s1.trans s2
  refine⟨_,rfl,l1,c,_,us,rfl,⟨ks,SqL.new,r1.imp fun _ _=>IL.stays K _ _ _ _ s2⟩,t2.seq hC,hpc cs fun _ h=>h,by omega,le_trans (length_filter_le _ _) (by omega),huz,fun l3 H3 s3 f3 e3=>?_⟩
  have t3:=t2.trans s3
  refine⟨(by show 0≤sizeLine;decide),fun p0 hp0=>?_⟩
  have t3':=t3.newT (o:=.lst []) hp0
  refine⟨_,rfl,a,_,rfl,.inl (t3'.seq hA),_,rfl,by omega,by rw[length_map];omega,?_⟩
  rw[length_map,show((ts.length:Nat):Int).toNat=ts.length by omega]
  refine zX (fun i σ H4=>∃(v5 v6:Option V),σ=[some (.ref a),some (.ref b),some (.ref c),some (.ref l3),some (.ref p0),v5,v6]∧zi H3 H4∧H4 p0=some (.lst ((zhJ ts cs us i).map V.str))) ⟨_,_,rfl,zi.new hp0,ze⟩ ?_ ?_
  ·rintro i σ H4 hi ⟨v5,v6,rfl,s4,e4⟩
   have t4:=t3.trans s4
   rw[show(0:Int)+(i:Int)=(i:Int)by omega]
   refine⟨_,rfl,_,rfl,_,rfl,b,_,rfl,t4.seq hB,fun l10 hl10=>?_⟩
   rw[zdZ (by omega),show((i:Int)).toNat=i by omega]
   have s10:=zi.new (o:=.lst ((ls.map V.ref).take i)) hl10
   refine⟨_,rfl,_,rfl,_,_,rfl,rfl,_,rfl,b,_,rfl,(t4.trans s10).seq hB,fun l11 hl11=>?_⟩
   rw[zd8 (by omega),show((i:Int)+1).toNat=i+1 by omega]
   have s11:=zi.new (o:=.lst ((ls.map V.ref).drop (i+1))) hl11
   have e10:=s11 _ _ (ze (H:=H4) (a:=l10) (o:=.lst ((ls.map V.ref).take i)))
   refine⟨l10,l11,_,_,rfl,rfl,e10,ze,by rw[length_take,length_drop,length_map];omega,fun l12 hl12=>?_⟩
   rw[←map_take,←map_drop,←map_append] at *
   have s12:=(s10.trans s11).newT (o:=.lst ((ls.take i++ls.drop (i+1)).map V.ref)) hl12
   have e12:upd (upd (upd H4 l10 (.lst ((ls.take i).map V.ref))) l11 (.lst ((ls.drop (i+1)).map V.ref))) l12 (.lst ((ls.take i++ls.drop (i+1)).map V.ref)) l12=some (.lst ((ls.take i++ls.drop (i+1)).map V.ref)):=ze
   generalize hH12:upd (upd (upd H4 l10 _) l11 _) l12 _=H12 at s12 e12 ⊢
   have t12:=t4.trans s12
   have r12:All2 (IL K H12) (ls.take i++ls.drop (i+1)) (cs.take i++cs.drop (i+1)):=by
    have z:=rB.imp fun _ _=>IL.stays K _ _ _ _ t12
    exact(z.takeN i).app (z.dropN (i+1))
   refine⟨l12,rfl,⟨_,SqL.of e12⟩,?_⟩
   refine zbF (SqL.of e12) r12 (by rw[length_append,length_take,length_drop];omega) (fun m d H' R hm h=>?_) (fun m H' R h=>⟨_,rfl,h⟩) fun ks H13 s13 r13=>?_
   ·refine⟨_,rfl,(by show 0≤sizeLine;decide),fun l13 hl13=>?_⟩
    have s13:=zi.new (o:=.lst []) hl13
    refine⟨m,l13,_,[],rfl,rfl,s13.seq hm,SqL.new,zG _,rfl,_,rfl,?_⟩
    rw[show eqL (d.map V.int) []=decide (d=[])from yM _ []]
    exact h _ s13
   intro l14 hl14
   have s14:=zi.new (o:=.lst (ks.map V.ref)) hl14
   have e14:upd H13 l14 (.lst (ks.map V.ref)) l14=some (.lst (ks.map V.ref)):=ze
   have r14:=r13.imp fun _ _=>IL.stays K _ _ _ _ s14
   generalize hH14:upd H13 l14 _=H14 at s14 e14 r14 ⊢
   have t14:=(s12.trans s13).trans s14
   obtain⟨m,em,rm⟩:=rB.at (i:=i) (by omega) []
   have rm:SqL K H m ((cs.getD i []).map V.int):=rm
   have u14:=t4.trans t14
   refine⟨_,rfl,_,rfl,b,_,_,_,rfl,rfl,u14.seq hB,zP (wt em),(by show 0≤sizeLine;decide),fun l15 hl15=>?_⟩
   have s15:=zi.new (o:=.lst []) hl15
   refine⟨m,l15,_,[],rfl,rfl,(u14.trans s15).seq rm,SqL.new,zG _,rfl,_,rfl,?_⟩
   rw[show eqL ((cs.getD i []).map V.int) []=decide (cs.getD i []=[])from yM _ []]
   generalize hH15:upd H14 l15 _=H15 at s15 ⊢
   have t15:=t14.trans s15
   refine yk (fun hne=>?_) (fun he=>?_)
   ·have hf:=ziO (cs:=cs) (k:=i) (by omega)
    have hsub:∀d∈cs.take i++cs.drop (i+1),d∈cs:=fun d hd=>by
     rcases List.mem_append.mp hd with h | h
     ·exact List.mem_of_mem_take h
     ·exact List.mem_of_mem_drop h
    have hle:=length_filter_le (fun d:List Int => !decide (d=[])) (cs.take i++cs.drop (i+1))
    rw[length_append,length_take,length_drop] at hle
    refine⟨_,rfl,_,rfl,l14,c,_,us,rfl,⟨ks,SqL.of (s15 _ _ e14),r14.imp fun _ _=>IL.stays K _ _ _ _ s15⟩,(t4.trans t15).seq hC,hpc _ hsub,by omega,by omega,huz,fun l16 H16 s16 f16 e16=>?_⟩
    have t16:=t15.trans s16
    refine⟨_,rfl,l16,l3,_,_,rfl,rfl,SqL.of e16,SqL.of ((s4.trans t16) _ _ e3),zG _,zG _,_,rfl,?_⟩
    rw[yM]
    refine yk (fun hb=>?_) (fun hb=>?_)
    ·have ats:atI (ts.map V.str) (i:Int)=some (.str (ts.getD i "")):=by
      have:=zfA (ts:=ts) (i:=(i:Int)) (by omega) (by omega)
      rw[show((i:Int)).toNat=i by omega] at this
      exact this
     refine⟨_,rfl,.inl ⟨rfl,_,SqL.of (t16 _ _ e4)⟩,_,rfl,_,rfl,a,_,_,_,rfl,rfl,(t4.trans t16).seq hA,ats,p0,_,_,rfl,rfl,t16 _ _ e4,?_,_,_,rfl,(s4.trans t16).put hp0,?_⟩
     ·have:=zic ts cs us i
      rw[length_map]
      omega
     ·rw[ze,zeA,if_pos (by unfold ziI;rw[decide_eq_false hne,decide_eq_false hb];rfl),map_append]
      rfl
    ·refine⟨_,_,rfl,s4.trans t16,?_⟩
     rw[zeA,if_neg (by unfold ziI;rw[decide_eq_true hb];simp),append_nil]
     exact t16 _ _ e4
   ·refine⟨_,_,rfl,s4.trans t15,?_⟩
    rw[zeA,if_neg (by unfold ziI;rw[decide_eq_true he];simp),append_nil]
    exact t15 _ _ e4
  ·rintro σ H4 ⟨v5,v6,rfl,s4,e4⟩
   exact⟨_,rfl,q p0 H4 (t3.trans s4) (t3.free hp0) e4⟩
def zb0(K:Frag):Sp:=fun vs H Q _=>∃(a b:Addr)(rs:List (List Int)) (ms:List Int),vs=[.ref a,.ref b]∧zaQ K (IL K) H a rs∧SqL K H b (ms.map V.int)∧(∀r∈rs,r.length=ms.length∧∀x∈r,1≤x∧x≤24)∧(∀x∈ms,1≤x∧x≤24)∧1≤ms.length∧ms.length≤60∧rs.length≤1000∧∀H',zi H H'→Q (.int (1+((rs.filter fun r=>M6.zR r ms 24).length:Int))) H'
theorem zfs{f:Addr}{fd:FuncData}(F:Fun K "place_among" "place_among" yY f fd)(T:Txt K mg)(C_is_ahead:Can P w K mg base 4 "is_ahead" ["one","other"] (zdk K)):FnOk P w K mg base CX0 5 f fd ["rows","own"] (zb0 K):=by
 refine F.ok zfO (fun vs H Q E h=>?_) (fun cdv A outer s H vs Q E hr h=>?_)
 ·obtain⟨a,b,rs,ms,rfl,_⟩:=h
  rfl
 ·obtain⟨a,b,rs,ms,rfl,⟨ls,hS,hR⟩,hB,hrs,hm,h1,hz,hzr,q⟩:=h
  refine⟨_,(zf (zn (zv zZ zj (zk zg (by rfl) T.b_len PySem.boot_len (za (zN (show CompScope (zc yY) ["rows","own"] "marks" ["own"] [1] _ from⟨rfl,by decide +kernel,by decide +kernel,rfl,by decide +kernel,rfl,by decide +kernel,by decide +kernel⟩) rfl (zE (pv 0)) (fun _ _ _ _ _=>(yS (ya (zh C_is_ahead (hM hr) rfl (za (pv 0) (za (pv 1) zb)))))) (fun _ _ _ _ _=>(pv 0))) zb))))),?_⟩
  have hlen:=hR.length
  refine⟨_,rfl,a,rfl,⟨_,hS⟩,?_⟩
  refine yG (xs:=ls.map V.ref) (fun i ys H2=>zi H H2∧ys.length=((rs.take i).filter fun r=>M6.zR r ms 24).length) ⟨zi.refl _,rfl⟩ ?_ (by rw[length_map];have:=zx;omega) ?_ ?_
  ·rintro i ys H2 hi ⟨s2,e2⟩
   refine⟨s2.seq hS,?_⟩
   rw[e2]
   have:=length_filter_le (fun r=>M6.zR r ms 24) (rs.take i)
   rw[length_take] at this
   omega
  ·rintro i x ys H2 hx ⟨s2,e2⟩
   obtain⟨l,el,rfl⟩:=zal hx
   obtain⟨d,ed,rd⟩:=hR.getL el
   have hd:=hrs d (mem_of_getElem? ed)
   refine⟨_,rfl,_,rfl,l,b,d,ms,rfl,s2.seq rd,s2.seq hB,hd.1,by omega,by omega,hd.2,hm,fun H3 s3=>⟨_,rfl,zhC (fun hb=>?_) (fun hb=>?_)⟩⟩
   ·refine⟨_,rfl,s2.trans s3,?_⟩
    rw[take_succ,ed,filter_append,length_append,length_append,e2]
    show _=_+(filter (fun r=>M6.zR r ms 24) [d]).length
    rw[filter_cons,if_pos hb]
    rfl
   ·refine⟨s2.trans s3,?_⟩
    rw[take_succ,ed,filter_append,length_append,e2]
    show _=_+(filter (fun r=>M6.zR r ms 24) [d]).length
    rw[filter_cons,if_neg (by rw[hb];exact Bool.false_ne_true)]
    rfl
  ·rintro ys H2 ⟨s2,e2⟩ l hl
   rw[length_map,hlen,take_length] at e2
   refine⟨l,_,rfl,.inl SqL.new,_,_,rfl,rfl,?_⟩
   rw[e2]
   exact q _ (s2.newT hl)
def wq(K:Frag):Sp:=fun vs H Q _=>∃(a b:Addr)(cs:List (List Int)) (us:List Int),vs=[.ref a,.ref b]∧zaQ K (IL K) H a cs∧SqL K H b (us.map V.int)∧us.Nodup∧(∀d∈cs,d.Perm us)∧1≤cs.length∧cs.length≤15∧1≤us.length∧us.length≤24∧∀(l:Addr)(H':Hp),zi H H'→H l=none→H' l=some (.lst ((M6.zC cs us).map V.int))→Q (.ref l) H'
theorem zhb{f:Addr}{fd:FuncData}(F:Fun K "places_of" "places_of" we f fd)(T:Txt K mg)(C_marks_of:Can P w K mg base 2 "marks_of" ["cards","couple"] (zbi K))(C_place_among:Can P w K mg base 5 "place_among" ["rows","own"] (zb0 K)):FnOk P w K mg base CX0 6 f fd ["cards","couples"] (wq K):=by
 refine F.ok zd0 (fun vs H Q E h=>?_) (fun cdv A outer s H vs Q E hr h=>?_)
 ·obtain⟨a,b,cs,us,rfl,_⟩:=h
  rfl
 ·obtain⟨a,b,cs,us,rfl,hC,hU,hnd,hp,c1,c2,u1,u2,q⟩:=h
  refine⟨_,(zd (zz (i:=2) zd0.nd rfl (Or.inr rfl) (zN (show CompScope (zc we) ["cards","couples","rows"] "couple" ["cards"] [0] _ from⟨rfl,by decide +kernel,by decide +kernel,rfl,by decide +kernel,rfl,by decide +kernel,by decide +kernel⟩) rfl (zE (pv 1)) (fun _ _ _ _ _=>yw) (fun _ _ _ _ _=>(zh C_marks_of (hM hr) rfl (za (pv 1) (za (pv 0) zb))))))
   (zf (zn (zN (show CompScope (zc we) ["cards","couples","rows"] "own" ["rows"] [2] _ from⟨rfl,by decide +kernel,by decide +kernel,rfl,by decide +kernel,rfl,by decide +kernel,by decide +kernel⟩) rfl (zE (pv 2)) (fun _ _ _ _ _=>yw) (fun _ _ _ _ _=>(zh C_place_among (hM hr) rfl (za (pv 1) (za (pv 0) zb)))))))),?_⟩
  have hln:=zx
  refine⟨_,rfl,b,rfl,⟨_,hU⟩,?_⟩
  refine yf (xs:=us.map V.int) (fun i ys H2=>∃ks:List Addr,ys=ks.map V.ref∧zi H H2∧All2 (IL K H2) ks ((us.take i).map (M5.zm cs))) ⟨[],rfl,zi.refl _,.nil⟩ ?_ (by rw[length_map];omega) ?_ ?_
  ·rintro i ys H2 hi ⟨ks,rfl,s2,r2⟩
   refine⟨s2.seq hU,?_⟩
   have:=r2.length
   rw[length_map,length_take] at this
   rw[length_map]
   omega
  ·rintro i x ys H2 hx ⟨ks,rfl,s2,r2⟩
   obtain⟨hi,rfl⟩:=zam hx
   refine⟨_,rfl,_,rfl,a,cs,_,rfl,hC.same (IL.stays K) s2,by omega,fun d hd=>(hp d hd).mem_iff.mpr (zdB hi),fun l H3 s3 f3 e3=>?_⟩
   refine⟨ks++[l],by rw[map_append];rfl,s2.trans s3,?_⟩
   rw[wB hi,map_append]
   exact(r2.imp fun _ _=>IL.stays K _ _ _ _ s3).snoc (show IL K _ l _ from SqL.of e3)
  ·rintro ys H2 ⟨ks,rfl,s2,r2⟩ l hl
   rw[length_map,take_length] at r2
   generalize hH3:upd H2 l _=H3
   have s23:zi H2 H3:=by rw[←hH3];exact zi.new hl
   have e3:H3 l=some (.lst (ks.map V.ref)):=by rw[←hH3];exact ze
   have r3:=r2.imp fun _ _=>IL.stays K _ _ _ _ s23
   have s3:=s2.trans s23
   have hk:=r3.length
   rw[length_map] at hk
   refine⟨_,rfl,l,rfl,⟨_,SqL.of e3⟩,?_⟩
   refine yf (xs:=ks.map V.ref) (fun i ys H4=>zi H3 H4∧ys=((us.take i).map fun c=>1+(((us.map (M5.zm cs)).filter fun r=>M6.zR r (M5.zm cs c) 24).length:Int)).map V.int) ⟨zi.refl _,rfl⟩ ?_ (by rw[length_map];omega) ?_ ?_
   ·rintro i ys H4 hi ⟨s4,rfl⟩
    refine⟨s4.seq (SqL.of e3),?_⟩
    rw[length_map,length_map,length_take]
    omega
   ·rintro i x ys H4 hx ⟨s4,rfl⟩
    obtain⟨p,ep,rfl⟩:=zal hx
    obtain⟨m,em,rm⟩:=r3.getL ep
    rw[getElem?_map] at em
    cases eu:us[i]? with
    | none=>rw[eu] at em;cases em
    | some c =>
      rw[eu] at em
      cases em
      have hc:=mem_of_getElem? eu
      have rng:∀d∈us,(M5.zm cs d).length=cs.length∧∀x∈M5.zm cs d,1≤x∧x≤24:=fun d hd=>⟨M5.zW cs d,fun x hx=>by have:=M6.yz hp hd x hx;omega⟩
      refine⟨_,rfl,_,rfl,l,p,us.map (M5.zm cs),M5.zm cs c,rfl,⟨ks,s4.seq (SqL.of e3),r3.imp fun _ _=>IL.stays K _ _ _ _ s4⟩,s4.seq rm,fun r hr=>?_,(rng c hc).2,by rw[(rng c hc).1];exact c1,by rw[(rng c hc).1];omega,by rw[length_map];omega,fun H5 s5=>⟨s4.trans s5,?_⟩⟩
      ·obtain⟨d,hd,rfl⟩:=List.mem_map.mp hr
       exact⟨by rw[(rng d hd).1,(rng c hc).1],(rng d hd).2⟩
      ·rw[take_succ,eu,map_append,map_append]
       rfl
   ·rintro ys H4 ⟨s4,rfl⟩ p hp'
    rw[length_map,hk,take_length]
    have st:=s3.trans s4
    refine q p _ (st.newT hp') ?_ ?_
    ·cases e:H p with
     | none=>rfl
     | some u=>have:=st p u e;rw[hp'] at this;cases this
    ·rw[M6.places_24 hp u1 u2]
     exact ze
def zcX(K:Frag):Sp:=fun vs H Q _=>∃(a b c:Addr)(us:List Int)(ts:List Str)(cs:List (List Int)),vs=[.ref a,.ref b,.ref c]∧SqL K H a (us.map V.int)∧SqL K H b (ts.map V.str)∧zaQ K (IL K) H c cs∧M1.zcx us=true∧M2.zdK ts=true∧cs.length=ts.length∧(∀d∈cs,d=[]∨d.Perm us) ∧
 ∀(x:Addr)(H':Hp)(F:Addr→Prop)(S:Sh),zB K H' x F S→zc5 (fun _=>False) H F H'→S.couples=us→S.struck=[]→S.panel=ts→S.rows=cs→S.taken=(cs.filter fun d => !decide (d=[])).length→S.shut=false→Q (.ref x) H'
theorem zhH{f:Addr}{fd:FuncData}(F:Fun K "_law_sheet" "_law_sheet" zaC f fd)(T:Txt K mg)(C_Sheet_init:CanK P w K mg base 4 "Sheet" (zL K "Sheet") ["self","couples","judges"] (zcj K))(C_Sheet_hand_in:CanMX P w K mg base 2 (zL K "Sheet") "hand_in" ["self","judge","card"] (za0 K)):FnOk P w K mg base CX0 6 f fd ["_law_couples_here","_law_names","_law_cards"] (zcX K):=by
 refine F.ok zcH (fun vs H Q E h=>?_) (fun cdv A outer s H vs Q E hr h=>?_)
 ·obtain⟨a,b,c,us,ts,cs,rfl,_⟩:=h
  rfl
 ·obtain⟨a,b,c,us,ts,cs,rfl,hA,hB,⟨ls,hC,hR⟩,hgc,hgj,hlen,hds,q⟩:=h
  refine⟨_,(zd (zz (i:=3) zcH.nd rfl (Or.inl rfl) (pe_makeX C_Sheet_init zdi (hM hr) rfl (za (yb yo (by rfl) T.b_list boot_list (za (pv 0) zb)) (za (yb yo (by rfl) T.b_list boot_list (za (pv 1) zb)) zb))))
   (zd (yT PassesOwn.never rfl (ym rfl T.b_range (za (zk zg (by rfl) T.b_len PySem.boot_len (za (pv 1) zb)) zb)) (zV (i:=4) zcH.nd rfl (Or.inl rfl))
     (zf (zD (zp (zaU hr.units0) (zA zy (pv 2) (pv 4) (fun _ _=>rfl)) (zO zb) (zt _)) (zf (zY (wH C_Sheet_hand_in T.cl_Sheet zdi (hM hr) (pv 3) (za (zA zy (pv 1) (pv 4) (fun _ _=>rfl)) (za (yb yo (by rfl) T.b_list boot_list (za (zA zy (pv 2) (pv 4) (fun _ _=>rfl)) zb)) zb))))) zu)))
   (zf (zn (pv 3))))),?_⟩
  have hln:=zx
  obtain⟨⟨u1,u24⟩,hun,hur⟩:=(M1.zeJ us).mp hgc
  obtain⟨⟨p1,p15⟩,htn,htg⟩:=(M2.zeH ts).mp hgj
  refine⟨_,rfl,a,_,rfl,.inl hA,fun l3 hl3=>?_⟩
  have s3:=zi.new (o:=.lst (us.map V.int)) hl3
  refine⟨_,rfl,b,_,rfl,.inl (s3.seq hB),fun l4 hl4=>?_⟩
  have s4:=zi.new (o:=.lst (ts.map V.str)) hl4
  intro x dx hx hdx hxd
  have s5:=(zi.new (o:=.own x) hdx).newT (o:=.ins (zL K "Sheet") dx []) (l:=x) (by rw[zl (Ne.symm hxd)];exact hx)
  refine⟨x,dx,l3,l4,us,ts,rfl,ze,SqL.of (s5 _ _ (s4 _ _ ze)),by omega,SqL.of (s5 _ _ ze),by omega,fun z hz=>?_,fun z=>?_,fun _ z=>?_,fun _ _ H5 F hSh hkeep=>⟨rfl,?_⟩⟩
  ·have:=(htg z hz).1;omega
  ·rw[hgc] at z;cases z
  ·rw[hgj] at z;cases z
  have s25:=(s3.trans s4).trans s5
  have hx2:H x=none:=(s3.trans s4).free hx
  have kp:zc5 (fun _=>False) H F H5:=fun b o e _=>hkeep b o (s25 _ _ e) (zr e hx2)
  have hB5:=(SqL.none hB).deed kp
  refine⟨_,rfl,b,_,rfl,.inl hB5.sq,_,rfl,by omega,by rw[length_map];omega,?_⟩
  rw[length_map,show((ts.length:Nat):Int).toNat=ts.length by omega]
  refine zX (fun i σ H6=>∃(v:Option V)(F:Addr→Prop)(S:Sh),σ=[some (.ref a),some (.ref b),some (.ref c),some (.ref x),v]∧zB K H6 x F S∧zc5 (fun _=>False) H F H6∧S.couples=us∧S.struck=[]∧S.panel=ts∧S.shut=false∧S.taken=((cs.take i).filter fun d => !decide (d=[])).length∧S.rows=cs.take i++(List.range (ts.length-i)).map fun _=>([]:List Int)) ⟨_,F,Sh.new us ts,rfl,hSh,kp,rfl,rfl,rfl,rfl,rfl,?_⟩ ?_ ?_
  ·show ts.map (fun _=>([]:List Int))=_
   rw[take_zero,List.nil_append,Nat.sub_zero]
   refine ext_getElem (by simp) fun i h1 h2=>?_
   simp
  ·rintro i σ H6 hi ⟨v,F,S,rfl,g1,g2,g3,g4,g5,g6,g7,g8⟩
   obtain⟨m,em,rm⟩:=hR.at (i:=i) (by omega) []
   have hic:i<cs.length:=by omega
   have hC6:=(SqL.none hC).deed g2
   have hB6:=(SqL.none hB).deed g2
   have rm6:=(SqL.none rm).deed g2
   have ei:((0:Int)+(i:Int)).toNat=i:=by omega
   refine⟨_,rfl,_,rfl,c,_,_,_,rfl,rfl,hC6.sq,zhE (by omega) (by rw[ei];exact wt em),(by show 0≤sizeLine;decide),fun l7 hl7=>?_⟩
   have s7:=zi.new (o:=.lst []) hl7
   refine⟨m,l7,_,[],rfl,rfl,s7.seq rm6.sq,SqL.new,zG _,rfl,_,rfl,?_⟩
   rw[show eqL ((cs.getD i []).map V.int) []=decide (cs.getD i []=[])from yM _ []]
   have htk:cs.take (i+1)=cs.take i++[cs.getD i []]:=by
    rw[take_succ,getElem?_eq_getElem hic,getD_eq_getElem?_getD,getElem?_eq_getElem hic];rfl
   have hrest:(List.range (ts.length-i)).map (fun _=>([]:List Int))=[]::(List.range (ts.length-(i+1))).map fun _=>([]:List Int):=by
    rw[show ts.length-i=(ts.length-(i+1))+1 by omega,range_succ_eq_map,map_cons,map_map];rfl
   refine yk (fun hb=>?_) (fun hb=>?_)
   ·have hpm:(cs.getD i []).Perm us:=(hds _ (by rw[getD_eq_getElem?_getD,getElem?_eq_getElem hic];exact getElem_mem hic)).resolve_left hb
    have hpl:=hpm.length_eq
    obtain⟨dx',b1,b2,b3,d',hip⟩:=(g1.same s7).ins
    refine⟨_,rfl,x,dx',_,rfl,hip,rfl,_,rfl,_,rfl,b,_,_,_,rfl,rfl,s7.seq hB6.sq,zfA (by omega) (by omega),_,rfl,_,rfl,c,_,_,_,rfl,rfl,s7.seq hC6.sq,zhE (by omega) (by rw[ei];exact wt em),m,_,rfl,.inl (s7.seq rm6.sq),fun l8 hl8=>?_⟩
    have s8:=zi.new (o:=.lst ((cs.getD i []).map V.int)) hl8
    have hjn:ts.getD i "" ∈ S.panel:=by rw[g5];exact zak (by omega)
    have htk2:S.taken<200:=by
     rw[g7]
     have:=length_filter_le (fun d => !decide (d=[])) (cs.take i)
     rw[length_take] at this
     omega
    have hnr:S.refuse (ts.getD i "") (cs.getD i [])=none:=by
     unfold Sh.refuse
     rw[if_neg (by rw[g6];exact Bool.false_ne_true),if_pos hjn,if_pos (by rw[g3];exact hpm),if_neg (by omega)]
    rw[ei]
    refine⟨x,F,S,_,l8,cs.getD i [],rfl,(g1.same s7).same s8,SqL.new,by omega,(fun e he=>by rw[hnr] at he;cases he),fun _ H9 F' h9 d9=>?_⟩
    refine⟨_,F',S.hand (ts.getD i "") (cs.getD i []),rfl,h9,(g2.trans (zc5.same (s7.trans s8))).trans d9,g3,g4,g5,g6,?_,?_⟩
    ·show S.taken+1=_
     rw[htk,filter_append,length_append,g7,filter_cons,if_pos (by rw[decide_eq_false hb];rfl)]
     rfl
    ·have:=Sh.rows_hand (S:=S) g1.ok.pnd (k:=i) (by rw[g5];omega) (cs.getD i [])
     rw[g5] at this
     rw[this,g8,hrest,htk,List.set_append,if_neg (by rw[length_take];omega)]
     rw[show i-(cs.take i).length=0 by rw[length_take];omega,List.set_cons_zero,append_assoc]
     rfl
   ·refine⟨_,F,S,rfl,g1.same s7,g2.trans (zc5.same s7),g3,g4,g5,g6,?_,?_⟩
    ·rw[htk,filter_append,length_append,g7,filter_cons,if_neg (by rw[decide_eq_true hb];decide)]
     rfl
    ·rw[g8,hrest,htk,hb,append_assoc]
     rfl
  ·rintro σ H6 ⟨v,F,S,rfl,g1,g2,g3,g4,g5,g6,g7,g8⟩
   refine⟨_,rfl,q x H6 F S g1 g2 g3 g4 g5 ?_ ?_ g6⟩
   ·rw[g8,Nat.sub_self,←hlen,take_length];exact append_nil _
   ·rw[g7,←hlen,take_length]
def zcw(K:Frag):Sp:=fun vs H Q _=>∃(p:Addr)(F:Addr→Prop)(S:Sh),vs=[.ref p]∧zB K H p F S∧1≤S.handed.length∧∀(l:Addr)(H':Hp),zi H H'→H l=none→H' l=some (.lst ((M6.zC S.cardsIn S.couples).map V.int))→Q (.ref l) H'
theorem ok_places{f:Addr}{fd:FuncData}(F:Fun K "places" "places" zcp f fd)(T:Txt K mg)(C_places_of:Can P w K mg base 6 "places_of" ["cards","couples"] (wq K))(C_refuse_fewer_cards:Can P w K mg base 2 "refuse_fewer_cards" ["sheet","least"] (zK K))(C_Sheet_couples:CanM P w K mg base 1 (zL K "Sheet") "couples" ["self"] (zI K))(C_Sheet_cards:CanM P w K mg base 3 (zL K "Sheet") "cards" ["self"] (yA K)):FnOk P w K mg base CX0 7 f fd ["sheet"] (zcw K):=by
 refine F.ok sc_places (fun vs H Q E h=>?_) (fun cdv A outer s H vs Q E hr h=>?_)
 ·obtain⟨p,F,S,rfl,_⟩:=h
  rfl
 ·obtain⟨p,F,S,rfl,hSh,h1,q⟩:=h
  refine⟨_,(zd (zY (zh C_refuse_fewer_cards (hM hr) rfl (za (pv 0) (za zj zb))))
   (zf (zn (zh C_places_of (hM hr) rfl (za (zQ C_Sheet_cards T.cl_Sheet (hM hr) (pv 0)) (za (zQ C_Sheet_couples T.cl_Sheet (hM hr) (pv 0)) zb)))))),?_⟩
  have ok:=hSh.ok
  have h15:S.handed.length≤15:=le_trans (length_filter_le _ _) ok.p15
  have c24:=ok.c24
  obtain⟨dx,b1,b2,b3,d,hip⟩:=hSh.ins
  refine⟨_,rfl,p,F,S,1,rfl,hSh,by omega,fun H1 s1=>?_⟩
  refine⟨_,rfl,p,dx,_,rfl,s1 _ _ hip,rfl,p,F,S,rfl,hSh.same s1,fun l2 H2 ls s2 f2 e2 r2=>?_⟩
  have t2:=s1.trans s2
  refine⟨_,rfl,p,dx,_,rfl,t2 _ _ hip,rfl,p,F,S,rfl,hSh.same t2,fun l3 H3 s3 f3 e3=>?_⟩
  have t3:=t2.trans s3
  refine⟨l2,l3,S.cardsIn,S.couples,rfl,⟨ls,SqL.of (s3 _ _ e2),r2.imp fun _ _ z=>SqL.of (s3 _ _ z.2)⟩,SqL.of e3,ok.nd,Sh.cardsIn_perm ok,by rw[Sh.cardsIn_len];exact h1,by rw[Sh.cardsIn_len];exact h15,ok.c1,by omega,fun l4 H4 s4 f4 e4=>?_⟩
  exact q l4 H4 (t3.trans s4) (t3.free f4) e4
def zdp(K:Frag):Sp:=fun vs H Q _=>∃(p:Addr)(F:Addr→Prop)(S:Sh)(j:Str),vs=[.ref p,.str j]∧zB K H p F S∧j∈S.handed∧2≤S.handed.length∧∀(l:Addr)(H':Hp),zi H H'→H l=none→H' l=some (.lst ((M6.zC (S.cardsWo j) S.couples).map V.int))→Q (.ref l) H'
theorem zij{f:Addr}{fd:FuncData}(F:Fun K "left_out" "left_out" zaY f fd)(T:Txt K mg)(C_places_of:Can P w K mg base 6 "places_of" ["cards","couples"] (wq K))(C_refuse_fewer_cards:Can P w K mg base 2 "refuse_fewer_cards" ["sheet","least"] (zK K))(C_cards_without:Can P w K mg base 3 "cards_without" ["sheet","judge"] (wY K))(C_Sheet_couples:CanM P w K mg base 1 (zL K "Sheet") "couples" ["self"] (zI K))(C_Sheet_card_of:CanMX P w K mg base 2 (zL K "Sheet") "card_of" ["self","judge"] (yn K)):FnOk P w K mg base CX0 7 f fd ["sheet","judge"] (zdp K):=by
 refine F.ok zix (fun vs H Q E h=>?_) (fun cdv A outer s H vs Q E hr h=>?_)
 ·obtain⟨p,F,S,j,rfl,_⟩:=h
  rfl
 ·obtain⟨p,F,S,j,rfl,hSh,hj,h2,q⟩:=h
  refine⟨_,(zd (zY (wH C_Sheet_card_of T.cl_Sheet zdi (hM hr) (pv 0) (za (pv 1) zb)))
   (zd (zY (zh C_refuse_fewer_cards (hM hr) rfl (za (pv 0) (za zj zb))))
   (zf (zn (zh C_places_of (hM hr) rfl (za (zh C_cards_without (hM hr) rfl (za (pv 0) (za (pv 1) zb))) (za (zQ C_Sheet_couples T.cl_Sheet (hM hr) (pv 0)) zb))))))),?_⟩
  have hln:=zx
  have ok:=hSh.ok
  have h15:=ok.p15
  have c24:=ok.c24
  obtain⟨dx,b1,b2,b3,d,hip⟩:=hSh.ins
  have hm:=List.mem_filter.mp hj
  cases e:S.card j with
  | none=>rw[e] at hm;exact absurd hm.2 Bool.false_ne_true
  | some c =>
    refine⟨_,rfl,p,dx,_,rfl,hip,rfl,_,rfl,p,F,S,j,rfl,hSh,fun hn=>absurd hm.1 hn,(fun _ z=>by rw[e] at z;cases z),fun c' e' l1 H1 s1 f1 e1=>?_⟩
    refine⟨_,rfl,p,F,S,2,rfl,hSh.same s1,by omega,fun H2 s2=>?_⟩
    have t2:=s1.trans s2
    refine⟨_,rfl,_,rfl,p,F,S,j,rfl,hSh.same t2,fun l3 H3 ks s3 f3 e3 r3=>?_⟩
    have t3:=t2.trans s3
    refine⟨_,rfl,p,dx,_,rfl,t3 _ _ hip,rfl,p,F,S,rfl,hSh.same t3,fun l4 H4 s4 f4 e4=>?_⟩
    have t4:=t3.trans s4
    have hwl:=Sh.cardsWo_len ok.pnd hj
    have hl2:S.handed.length≤15:=le_trans (length_filter_le _ _) h15
    refine⟨l3,l4,S.cardsWo j,S.couples,rfl,⟨ks,SqL.of (s4 _ _ e3),r3.imp fun _ _=>IL.stays K _ _ _ _ s4⟩,SqL.of e4,ok.nd,Sh.cardsWo_perm ok j,by omega,by omega,ok.c1,by omega,fun l5 H5 s5 f5 e5=>?_⟩
    exact q l5 H5 (t4.trans s5) (t4.free f5) e5
def zdQ(K:Frag):Sp:=fun vs H Q _=>∃(p:Addr)(F:Addr→Prop)(S:Sh)(j:Str)(d:List Int)(i:Nat),vs=[.ref p,.str j,.int (d.getD i 0)]∧zB K H p F S∧S.card j=some d∧0<i∧i<d.length∧∀(t l:Addr)(H':Hp),zi H H'→H t=none→H l=none→H' t=some (.tup [.int (d.getD (i-1) 0),.ref l])→H' l=some (.lst ((M6.zC (S.cardsUp j (upC d i)) S.couples).map V.int))→Q (.ref t) H'
theorem ok_step_up{f:Addr}{fd:FuncData}(F:Fun K "step_up" "step_up" za2 f fd)(T:Txt K mg)(C_one_up:CanX P w K mg base 1 "one_up" ["card","couple"] (zeE K))(C_places_of:Can P w K mg base 6 "places_of" ["cards","couples"] (wq K))(C_Sheet_couples:CanM P w K mg base 1 (zL K "Sheet") "couples" ["self"] (zI K))(C_Sheet_handed:CanM P w K mg base 1 (zL K "Sheet") "handed" ["self"] (yh K))(C_Sheet_card_of:CanMX P w K mg base 2 (zL K "Sheet") "card_of" ["self","judge"] (yn K)):FnOk P w K mg base CX0 7 f fd ["sheet","judge","couple"] (zdQ K):=by
 refine F.ok zbQ (fun vs H Q E h=>?_) (fun cdv A outer s H vs Q E hr h=>?_)
 ·obtain⟨p,F,S,j,d,i,rfl,_⟩:=h
  rfl
 ·obtain⟨p,F,S,j,d,i,rfl,hSh,hd,h0,hi,q⟩:=h
  refine⟨_,(zd (zz (i:=3) zbQ.nd rfl (Or.inl rfl) (wH C_Sheet_card_of T.cl_Sheet zdi (hM hr) (pv 0) (za (pv 1) zb)))
   (zd (zD (zp zbx (pv 2) (zQ C_Sheet_couples T.cl_Sheet (hM hr) (pv 0)) (by first | exact zt _ | rfl)) (zf zfp) zu)
   (zd (zz (i:=4) zbQ.nd rfl (Or.inr rfl) (pe_ownX C_one_up zdi (hM hr) rfl (za (pv 3) (za (pv 2) zb))))
   (zd (zz (i:=5) zbQ.nd rfl (Or.inl rfl) (zA zy (pv 4) (zaw PySem.F.plainAttrs_list PySem.F.slot_list_index PySem.F.type_list_index zdv (pv 3) (za (pv 2) zb)) (fun _ _=>rfl)))
   (zd (yU (i:=6) (show CompScope (zc za2) ["sheet","judge","couple","card","stepped","passed","cards"] "other" ["sheet","judge","stepped"] [0,1,4] _ from⟨rfl,by decide +kernel,by decide +kernel,rfl,by decide +kernel,rfl,by decide +kernel,by decide +kernel⟩) rfl zbQ.nd rfl (Or.inl rfl) (zE (zQ C_Sheet_handed T.cl_Sheet (hM hr) (pv 0))) (fun _ _ _ _ _=>yw) (fun _ _ _ _ _=>(pe_ifExp (zp zbO (pv 0) (pv 2) (zt _)) (pv 3) (wH C_Sheet_card_of T.cl_Sheet zdi (hM hr) (pv 1) (za (pv 0) zb)))))
   (zf (zn (zb1 (za (pv 5) (za (zh C_places_of (hM hr) rfl (za (pv 6) (za (zQ C_Sheet_couples T.cl_Sheet (hM hr) (pv 0)) zb))) zb)))))))))),?_⟩
  have hln:=zx
  have ok:=hSh.ok
  have h15:=ok.p15
  have c24:=ok.c24
  obtain⟨hjp,hdp⟩:=ok.cd j d hd
  have hdl:=hdp.length_eq
  have hdn:d.Nodup:=hdp.nodup_iff.mpr ok.nd
  obtain⟨dx,b1,b2,b3,dd,hip⟩:=hSh.ins
  refine⟨_,rfl,p,dx,_,rfl,hip,rfl,_,rfl,p,F,S,j,rfl,hSh,fun hn=>absurd hjp hn,(fun _ z=>by rw[hd] at z;cases z),fun d' e' l1 H1 s1 f1 e1=>?_⟩
  rw[hd] at e'
  cases e'
  refine⟨_,rfl,_,rfl,p,dx,_,rfl,s1 _ _ hip,rfl,p,F,S,rfl,hSh.same s1,fun l2 H2 s2 f2 e2=>?_⟩
  have hcm:d.getD i 0∈S.couples:=hdp.mem_iff.mp (zdB hi)
  refine⟨l2,_,rfl,.inl (SqL.of e2),rfl,zG _,_,rfl,iteNo ?_ ?_⟩
  ·show(!inV (.int (d.getD i 0)) (S.couples.map V.int))=false
   rw[zfC,decide_eq_true hcm]
   rfl
  have t2:=s1.trans s2
  refine⟨_,rfl,_,rfl,l1,d,i,rfl,SqL.of (s2 _ _ e1),hdn,hi,by omega,fun n hn=>ok.rng n (hdp.mem_iff.mp hn),fun z=>absurd z (by omega),fun _ l3 H3 s3 f3 e3=>?_⟩
  have t3:=t2.trans s3
  have e1':=s3 _ _ (s2 _ _ e1)
  have hix:d.idxOf (d.getD i 0)=i:=by
   have:d.getD i 0=d[i]:=by rw[getD_eq_getElem?_getD,getElem?_eq_getElem hi];rfl
   rw[this]
   exact hdn.idxOf_getElem i hi
  refine⟨_,rfl,_,rfl,.inl ⟨rfl,_,SqL.of e1'⟩,_,rfl,l1,_,_,rfl,rfl,SqL.of e1',rfl,zG _,?_,l3,_,_,.int (d.getD (i-1) 0),rfl,rfl,SqL.of e3,?_,?_⟩
  ·rw[zaN,length_map,hix];exact hi
  ·rw[zaN,hix]
   refine zP ?_
   rw[getElem?_map,show d.take (i-1)++[d.getD i 0,d.getD (i-1) 0]++d.drop (i+1)=upC d i from rfl,upC_at h0 hi]
   rfl
  refine⟨_,rfl,p,dx,_,rfl,t3 _ _ hip,rfl,p,F,S,rfl,(hSh.same t3).shape,h15,fun l4 H4 s4 f4 e4=>?_⟩
  have hl2:S.handed.length≤15:=le_trans (length_filter_le _ _) h15
  have e3':H4 l3=some (.lst ((upC d i).map V.int)):=s4 _ _ e3
  have t4:=t3.trans s4
  refine⟨l4,rfl,⟨_,SqL.of e4⟩,?_⟩
  refine yf (xs:=S.handed.map V.str) (fun k ys H5=>∃ks:List Addr,ys=ks.map V.ref∧zi H4 H5∧All2 (IL K H5) ks ((S.handed.take k).map fun i'=>if i'=j then upC d i else(S.card i').getD [])) ⟨[],rfl,zi.refl _,.nil⟩ ?_ (by rw[length_map];omega) ?_ ?_
  ·rintro k ys H5 hk ⟨ks,rfl,s5,r5⟩
   refine⟨s5.seq (SqL.of e4),?_⟩
   have:=r5.length
   rw[length_map,length_take] at this
   rw[length_map]
   omega
  ·rintro k x ys H5 hx ⟨ks,rfl,s5,r5⟩
   obtain⟨hk,rfl⟩:=zaL hx
   have hm:=List.mem_filter.mp (show S.handed.getD k "" ∈ S.panel.filter fun j=>(S.card j).isSome from zak hk)
   have t5:=t4.trans s5
   refine⟨_,rfl,_,rfl,rfl,_,rfl,wv (fun he=>?_) (fun hne=>?_)⟩
   ·have he:S.handed.getD k ""=j:=by injection he
    refine⟨_,rfl,ks++[l3],by rw[map_append];rfl,s5,?_⟩
    rw[yg hk,map_append]
    refine r5.snoc ?_
    show IL K H5 l3 (if S.handed.getD k ""=j then upC d i else _)
    rw[if_pos he]
    exact SqL.of (s5 _ _ e3')
   ·have hne:¬S.handed.getD k ""=j:=fun z=>hne (by rw[z])
    cases e:S.card (S.handed.getD k "")with
    | none=>rw[e] at hm;exact absurd hm.2 Bool.false_ne_true
    | some c =>
      refine⟨_,rfl,p,dx,_,rfl,t5 _ _ hip,rfl,_,rfl,p,F,S,_,rfl,hSh.same t5,fun hj=>absurd hm.1 hj,(fun _ z=>by rw[e] at z;cases z),fun c' e' l6 H6 s6 f6 e6=>?_⟩
      rw[e] at e'
      cases e'
      refine⟨ks++[l6],by rw[map_append];rfl,s5.trans s6,?_⟩
      rw[yg hk,map_append]
      refine(r5.imp fun _ _=>IL.stays K _ _ _ _ s6).snoc ?_
      show IL K H6 l6 (if S.handed.getD k ""=j then upC d i else(S.card (S.handed.getD k "")).getD [])
      rw[if_neg hne,e]
      exact SqL.of e6
  ·rintro ys H5 ⟨ks,rfl,s5,r5⟩ l7 hl7
   rw[length_map,take_length] at r5
   have s7:=s5.newT (o:=.lst (ks.map V.ref)) hl7
   have e7:upd H5 l7 (.lst (ks.map V.ref)) l7=some (.lst (ks.map V.ref)):=ze
   have r7:=r5.imp fun _ _=>IL.stays K _ _ _ _ (zi.new (o:=.lst (ks.map V.ref)) hl7)
   generalize hH7:upd H5 l7 _=H7 at s7 e7 r7 ⊢
   have t7:=t4.trans s7
   refine⟨_,rfl,_,rfl,_,rfl,p,dx,_,rfl,t7 _ _ hip,rfl,p,F,S,rfl,hSh.same t7,fun l8 H8 s8 f8 e8=>?_⟩
   have t8:=t7.trans s8
   have hjh:1≤S.handed.length:=length_pos_of_mem (List.mem_filter.mpr ⟨hjp,by rw[hd];rfl⟩)
   refine⟨l7,l8,S.cardsUp j (upC d i),S.couples,rfl,⟨ks,SqL.of (s8 _ _ e7),r7.imp fun _ _=>IL.stays K _ _ _ _ s8⟩,SqL.of e8,ok.nd,Sh.cardsUp_perm ok ((zis h0 hi).trans hdp),by rw[Sh.cardsUp_len];exact hjh,by rw[Sh.cardsUp_len];exact hl2,ok.c1,by omega,fun l9 H9 s9 f9 e9=>⟨(by show 2≤sizeLine;decide),fun t hT=>?_⟩⟩
   have t9:=t8.trans s9
   exact q t l9 _ (t9.newT hT) (t9.free hT) (t8.free f9) ze ((zi.new hT) _ _ e9)
def zbB(K:Frag):Sp:=fun vs H Q _=>∃(a b:Addr)(cs:List (List Int)) (us:List Int),vs=[.ref a,.ref b]∧zaQ K (IL K) H a cs∧SqL K H b (us.map V.int)∧us.Nodup∧(∀d∈cs,d.Perm us)∧1≤cs.length∧cs.length≤15∧1≤us.length∧us.length≤24∧∀(l:Addr)(H':Hp),zi H H'→H l=none→H' l=some (.lst ((zan cs us).map V.int))→Q (.ref l) H'
theorem zg7{f:Addr}{fd:FuncData}(F:Fun K "firsts_of" "firsts_of" wL f fd)(T:Txt K mg)(C_places_of:Can P w K mg base 6 "places_of" ["cards","couples"] (wq K)):FnOk P w K mg base CX0 7 f fd ["cards","couples"] (zbB K):=by
 refine F.ok zg1 (fun vs H Q E h=>?_) (fun cdv A outer s H vs Q E hr h=>?_)
 ·obtain⟨a,b,cs,us,rfl,_⟩:=h
  rfl
 ·obtain⟨a,b,cs,us,rfl,hA,hB,nd,hp,c1,c15,u1,u24,q⟩:=h
  refine⟨_,(zf (zn (ziX (show CompScope2 (zc wL) ["cards","couples"] "place" "couple" [] [] _ from⟨rfl,by decide +kernel,by decide +kernel,rfl,rfl,by decide +kernel,rfl,by decide +kernel,by decide +kernel⟩) rfl (pi_zip rfl T.b_zip (za (zh C_places_of (hM hr) rfl (za (pv 0) (za (pv 1) zb))) (za (pv 1) zb))) (fun _ _ _ _ _=>(yS (zp zbO (pv 0) zj (zt _)))) (fun _ _ _ _ _=>(pv 1))))),?_⟩
  have hln:=zx
  refine⟨_,rfl,_,rfl,a,b,cs,us,rfl,hA,hB,nd,hp,c1,c15,u1,u24,fun l1 H1 s1 f1 e1=>?_⟩
  have hpl:=M6.yr cs us
  refine⟨_,rfl,l1,b,_,_,rfl,SqL.of e1,s1.seq hB,?_⟩
  refine comp2_zip (xs:=(M6.zC cs us).map V.int) (ys:=us.map V.int) (fun i zs H2=>zi H1 H2∧zs=(zce (M6.zC cs us) us i).map V.int) ⟨zi.refl _,rfl⟩ ?_ (by rw[length_map,length_map];omega) ?_ ?_
  ·rintro i zs H2 hi ⟨s2,rfl⟩
   refine⟨SqL.of (s2 _ _ e1),(s1.trans s2).seq hB,?_⟩
   rw[length_map]
   exact zdn _ _ _
  ·rintro i x y t zs H2 hx hy ht ⟨s2,rfl⟩
   obtain⟨hi,rfl⟩:=zam hx
   obtain⟨hi2,rfl⟩:=zam hy
   refine⟨_,rfl,rfl,_,rfl,wv (fun he=>?_) (fun hne=>?_)⟩
   ·have he:(M6.zC cs us).getD i 0=1:=by injection he
    refine⟨_,rfl,s2.newT ht,?_⟩
    rw[zbD,if_pos he,map_append]
    rfl
   ·have hne:¬(M6.zC cs us).getD i 0=1:=fun z=>hne (by rw[z])
    refine⟨s2.newT ht,?_⟩
    rw[zbD,if_neg hne,append_nil]
  ·rintro zs H2 ⟨s2,rfl⟩ l hl
   rw[length_map,length_map,hpl,Nat.min_self] at *
   have t2:=s1.trans s2
   exact q l _ (t2.newT hl) (t2.free hl) ze
def zdz(K:Frag):Sp:=fun vs H Q _=>∃(p:Addr)(F:Addr→Prop)(S:Sh),vs=[.ref p]∧zB K H p F S∧1≤S.handed.length∧∀(l:Addr)(H':Hp),zi H H'→H l=none→H' l=some (.lst ((zan S.cardsIn S.couples).map V.int))→Q (.ref l) H'
theorem ok_firsts{f:Addr}{fd:FuncData}(F:Fun K "firsts" "firsts" zcs f fd)(T:Txt K mg)(C_refuse_fewer_cards:Can P w K mg base 2 "refuse_fewer_cards" ["sheet","least"] (zK K))(C_firsts_of:Can P w K mg base 7 "firsts_of" ["cards","couples"] (zbB K))(C_Sheet_couples:CanM P w K mg base 1 (zL K "Sheet") "couples" ["self"] (zI K))(C_Sheet_cards:CanM P w K mg base 3 (zL K "Sheet") "cards" ["self"] (yA K)):FnOk P w K mg base CX0 8 f fd ["sheet"] (zdz K):=by
 refine F.ok sc_firsts (fun vs H Q E h=>?_) (fun cdv A outer s H vs Q E hr h=>?_)
 ·obtain⟨p,F,S,rfl,_⟩:=h
  rfl
 ·obtain⟨p,F,S,rfl,hSh,h1,q⟩:=h
  refine⟨_,(zd (zY (zh C_refuse_fewer_cards (hM hr) rfl (za (pv 0) (za zj zb))))
   (zf (zn (zh C_firsts_of (hM hr) rfl (za (zQ C_Sheet_cards T.cl_Sheet (hM hr) (pv 0)) (za (zQ C_Sheet_couples T.cl_Sheet (hM hr) (pv 0)) zb)))))),?_⟩
  have ok:=hSh.ok
  have h15:S.handed.length≤15:=le_trans (length_filter_le _ _) ok.p15
  have c24:=ok.c24
  obtain⟨dx,b1,b2,b3,d,hip⟩:=hSh.ins
  refine⟨_,rfl,p,F,S,1,rfl,hSh,by omega,fun H1 s1=>?_⟩
  refine⟨_,rfl,p,dx,_,rfl,s1 _ _ hip,rfl,p,F,S,rfl,hSh.same s1,fun l2 H2 ls s2 f2 e2 r2=>?_⟩
  have t2:=s1.trans s2
  refine⟨_,rfl,p,dx,_,rfl,t2 _ _ hip,rfl,p,F,S,rfl,hSh.same t2,fun l3 H3 s3 f3 e3=>?_⟩
  have t3:=t2.trans s3
  refine⟨l2,l3,S.cardsIn,S.couples,rfl,⟨ls,SqL.of (s3 _ _ e2),r2.imp fun _ _ z=>SqL.of (s3 _ _ z.2)⟩,SqL.of e3,ok.nd,Sh.cardsIn_perm ok,by rw[Sh.cardsIn_len];exact h1,by rw[Sh.cardsIn_len];exact h15,ok.c1,by omega,fun l4 H4 s4 f4 e4=>?_⟩
  exact q l4 H4 (t3.trans s4) (t3.free f4) e4
def zcS(K:Frag):Sp:=fun vs H Q _=>∃(x:Addr)(F:Addr→Prop)(S:Sh)(c:Int),vs=[.ref x,.int c]∧zB K H x F S∧1≤S.handed.length∧c∈S.couples∧∀H',zi H H'→Q (.str (M6.zhL (M6.plc S.cardsIn S.couples c) c (M5.zm S.cardsIn c) S.couples.length)) H'
theorem zho{f:Addr}{fd:FuncData}(F:Fun K "table_row" "table_row" zaF f fd)(T:Txt K mg)(C_places:Can P w K mg base 7 "places" ["sheet"] (zcw K))(C_row_text:Can P w K mg base 4 "row_text" ["sheet","place","couple"] (zcd K))(C_Sheet_couples:CanM P w K mg base 1 (zL K "Sheet") "couples" ["self"] (zI K)):FnOk P w K mg base CX0 8 f fd ["sheet","couple"] (zcS K):=by
 refine F.ok zeo (fun vs H Q E h=>?_) (fun cdv A outer s H vs Q E hr h=>?_)
 ·obtain⟨x,F,S,c,rfl,_⟩:=h
  rfl
 ·obtain⟨x,F,S,c,rfl,hSh,h1,hc,q⟩:=h
  refine⟨_,(zd (zz (i:=2) zeo.nd rfl (Or.inl rfl) (zh C_places (hM hr) rfl (za (pv 0) zb)))
   (zd (zD (zp zbx (pv 1) (zQ C_Sheet_couples T.cl_Sheet (hM hr) (pv 0)) (by first | exact zt _ | rfl)) (zf zfp) zu)
   (zf (zn (zh C_row_text (hM hr) rfl (za (pv 0) (za (zA zy (pv 2) (zaw PySem.F.plainAttrs_list PySem.F.slot_list_index PySem.F.type_list_index zdv (zQ C_Sheet_couples T.cl_Sheet (hM hr) (pv 0)) (za (pv 1) zb)) (fun _ _=>rfl)) (za (pv 1) zb)))))))),?_⟩
  have hln:=zx
  have ok:=hSh.ok
  have c24:=ok.c24
  obtain⟨dx,b1,b2,b3,d,hi⟩:=hSh.ins
  refine⟨_,rfl,x,F,S,rfl,hSh,h1,fun l1 H1 s1 f1 e1=>?_⟩
  refine⟨_,rfl,_,rfl,x,dx,_,rfl,s1 _ _ hi,rfl,x,F,S,rfl,hSh.same s1,fun l2 H2 s2 f2 e2=>?_⟩
  refine⟨l2,_,rfl,.inl (SqL.of e2),rfl,zG _,_,rfl,iteNo ?_ ?_⟩
  ·show(!inV (.int c) (S.couples.map V.int))=false
   rw[zfC,decide_eq_true hc]
   rfl
  have t2:=s1.trans s2
  have hix:=idxOf_lt_length_of_mem hc
  refine⟨_,rfl,_,rfl,_,rfl,x,dx,_,rfl,t2 _ _ hi,rfl,x,F,S,rfl,hSh.same t2,fun l3 H3 s3 f3 e3=>?_⟩
  refine⟨.inl ⟨rfl,_,SqL.of e3⟩,_,rfl,l3,_,_,rfl,rfl,SqL.of e3,rfl,zG _,(by rw[zaN,length_map];exact hix),?_⟩
  rw[zaN]
  have hat:atI ((M6.zC S.cardsIn S.couples).map V.int) (S.couples.idxOf c:Int)=some (.int (M6.plc S.cardsIn S.couples c)):=by
   have:=zP (zao (ns:=M6.zC S.cardsIn S.couples) (i:=S.couples.idxOf c) (by rw[M6.yr];exact hix))
   rw[M6.places_at hix,M6.getD_idx hc] at this
   exact this
  have hb:(M6.plc S.cardsIn S.couples c).natAbs≤990:=by
   unfold M6.plc M6.zi3
   have:=length_filter_le (fun d=>M6.zR (M5.zm S.cardsIn d) (M5.zm S.cardsIn c) S.couples.length) S.couples
   omega
  have t3:=t2.trans s3
  refine⟨l1,_,_,_,rfl,rfl,SqL.of (s3 _ _ (s2 _ _ e1)),hat,_,rfl,x,F,S,_,c,rfl,hSh.same t3,hc,hb,fun H4 s4=>q H4 (t3.trans s4)⟩
def zdg(K:Frag):Sp:=fun vs H Q _=>∃(p:Addr)(F:Addr→Prop)(S:Sh),vs=[.ref p]∧zB K H p F S∧2≤S.handed.length∧∀(l:Addr)(H':Hp),zi H H'→H l=none→H' l=some (.lst (S.decide.map V.str))→Q (.ref l) H'
theorem zhV{f:Addr}{fd:FuncData}(F:Fun K "deciders" "deciders" zat f fd)(T:Txt K mg)(C_firsts:Can P w K mg base 8 "firsts" ["sheet"] (zdz K))(C_refuse_fewer_cards:Can P w K mg base 2 "refuse_fewer_cards" ["sheet","least"] (zK K))(C_firsts_of:Can P w K mg base 7 "firsts_of" ["cards","couples"] (zbB K))(C_cards_without:Can P w K mg base 3 "cards_without" ["sheet","judge"] (wY K))(C_Sheet_couples:CanM P w K mg base 1 (zL K "Sheet") "couples" ["self"] (zI K))(C_Sheet_handed:CanM P w K mg base 1 (zL K "Sheet") "handed" ["self"] (yh K)):FnOk P w K mg base CX0 9 f fd ["sheet"] (zdg K):=by
 refine F.ok ze4 (fun vs H Q E h=>?_) (fun cdv A outer s H vs Q E hr h=>?_)
 ·obtain⟨p,F,S,rfl,_⟩:=h
  rfl
 ·obtain⟨p,F,S,rfl,hSh,h2,q⟩:=h
  refine⟨_,(zd (zY (zh C_refuse_fewer_cards (hM hr) rfl (za (pv 0) (za zj zb))))
   (zd (zz (i:=1) ze4.nd rfl (Or.inr rfl) (zh C_firsts (hM hr) rfl (za (pv 0) zb)))
   (zf (zn (zN (show CompScope (zc zat) ["sheet","now"] "judge" ["sheet","now"] [0,1] _ from⟨rfl,by decide +kernel,by decide +kernel,rfl,by decide +kernel,rfl,by decide +kernel,by decide +kernel⟩) rfl (zE (zQ C_Sheet_handed T.cl_Sheet (hM hr) (pv 0))) (fun _ _ _ _ _=>(yS (zp (wd (K:=K) rfl hr.units0) (zh C_firsts_of (hM hr) rfl (za (zh C_cards_without (hM hr) rfl (za (pv 1) (za (pv 0) zb))) (za (zQ C_Sheet_couples T.cl_Sheet (hM hr) (pv 1)) zb))) (pv 2) (zt _)))) (fun _ _ _ _ _=>(pv 0))))))),?_⟩
  have hln:=zx
  have ok:=hSh.ok
  have h15:S.handed.length≤15:=le_trans (length_filter_le _ _) ok.p15
  have c24:=ok.c24
  obtain⟨dx,b1,b2,b3,d,hip⟩:=hSh.ins
  refine⟨_,rfl,p,F,S,2,rfl,hSh,by omega,fun H1 s1=>?_⟩
  refine⟨_,rfl,p,F,S,rfl,hSh.same s1,by omega,fun l2 H2 s2 f2 e2=>?_⟩
  have t2:=s1.trans s2
  refine⟨_,rfl,p,dx,_,rfl,t2 _ _ hip,rfl,p,F,S,rfl,(hSh.same t2).shape,ok.p15,fun l3 H3 s3 f3 e3=>?_⟩
  have t3:=t2.trans s3
  refine⟨l3,rfl,⟨_,SqL.of e3⟩,?_⟩
  refine yG (xs:=S.handed.map V.str) (fun i ys H4=>zi H3 H4∧ys=((S.handed.take i).filter fun j => !Decidable.decide (zan (S.cardsWo j) S.couples=zan S.cardsIn S.couples)).map V.str) ⟨zi.refl _,rfl⟩ ?_ (by rw[length_map];omega) ?_ ?_
  ·rintro i ys H4 hi ⟨s4,rfl⟩
   refine⟨s4.seq (SqL.of e3),?_⟩
   rw[length_map]
   exact le_trans (length_filter_le _ _) (by rw[length_take];omega)
  ·rintro i x ys H4 hx ⟨s4,rfl⟩
   obtain⟨hi,rfl⟩:=zaL hx
   have t4:=t3.trans s4
   refine⟨_,rfl,_,rfl,p,F,S,_,rfl,hSh.same t4,fun l5 H5 ks s5 f5 e5 r5=>?_⟩
   have t5:=t4.trans s5
   refine⟨_,rfl,p,dx,_,rfl,t5 _ _ hip,rfl,p,F,S,rfl,hSh.same t5,fun l6 H6 s6 f6 e6=>?_⟩
   have g1:=Sh.cardsWo_ge ok.pnd (S.handed.getD i "")
   have g2:=Sh.cardsWo_le S (S.handed.getD i "")
   refine⟨l5,l6,_,S.couples,rfl,⟨ks,SqL.of (s6 _ _ e5),r5.imp fun _ _=>IL.stays K _ _ _ _ s6⟩,SqL.of e6,ok.nd,Sh.cardsWo_perm ok _,by omega,by omega,ok.c1,by omega,fun l7 H7 s7 f7 e7=>?_⟩
   have u7:=((s4.trans s5).trans s6).trans s7
   refine⟨_,rfl,l7,l2,_,_,rfl,rfl,SqL.of e7,SqL.of ((s3.trans u7) _ _ e2),zG _,zG _,_,rfl,?_⟩
   rw[yM]
   refine yk (fun hne=>?_) (fun he=>?_)
   ·refine⟨_,rfl,u7,?_⟩
    rw[yg hi,filter_append,filter_cons,if_pos (by rw[decide_eq_false hne];rfl),map_append]
    rfl
   ·refine⟨u7,?_⟩
    rw[yg hi,filter_append,filter_cons,if_neg (by rw[decide_eq_true he];decide),filter_nil,append_nil]
  ·rintro ys H4 ⟨s4,rfl⟩ l hl
   rw[length_map,take_length] at *
   have t4:=t3.trans s4
   exact q l _ (t4.newT hl) (t4.free hl) ze
def zda(K:Frag):Sp:=fun vs H Q _=>∃(a b:Addr)(ps us:List Int),vs=[.ref a,.ref b]∧SqL K H a (ps.map V.int)∧SqL K H b (us.map V.int)∧ps.length=us.length∧(∀k,k<us.length→1≤ps.getD k 0∧ps.getD k 0≤us.length)∧1≤us.length∧us.length≤24∧zaP (zaR K "by_place") zcZ H∧∀(l:Addr)(H':Hp)(ls:List Addr),yy H H'→zaP (zaR K "by_place") zcZ H'→H l=none→H' l=some (.lst (ls.map V.ref))→All2 (TPl K H') ls (M5.rows ps us)→Q (.ref l) H'
theorem zh3{f:Addr}{fd:FuncData}(F:Fun K "by_place" "by_place" za7 f fd)(T:Txt K mg)(L:Lam K "by_place" f)(B:zdY mg base)(C_places:Can P w K mg base 7 "places" ["sheet"] (zcw K)):FnOk P w K mg base CX0 11 f fd ["places","couples"] (zda K):=by
 refine F.okC L zh9 (fun vs H Q E h=>?_) (fun c A outer s H vs Q E hC hr h=>?_)
 ·obtain⟨a,b,ps,us,rfl,_⟩:=h
  rfl
 ·obtain⟨a,b,ps,us,rfl,hA,hB,hl,hk,u1,u2,hT,q⟩:=h
  refine⟨_,(zf (zn (pe_sortz2 rfl (hM hr) (by rfl) T.b_sorted (by rfl) T.b_zip rfl hC B ⟨rfl,rfl,rfl,by decide,rfl,by decide +kernel,by decide +kernel⟩ rfl (by decide) (by decide) rfl rfl (fun _ _ _ _ _ _=>rfl) (za (pv 0) (za (pv 1) zb))))),?_⟩
  refine⟨_,rfl,_,rfl,a,b,ps,us.map V.int,rfl,hA,hB,by rw[length_map];exact hl,by omega,by omega,hT,fun H2 ts l p sn ls pr hn hi=>?_⟩
  rw[hl] at hi
  have hm:∀i∈p.toList,i<us.length:=fun i h=>by
   rw[M15.is_idx hi hk] at h
   exact List.mem_range.mp ((M15.idx_mem _ _ hk i).mp h)
  have rr:=ziK (K:=K) hl pr p.toList hm
  rw[M15.rows_of hl hk hi] at rr
  refine q l _ (p.toList.map fun i=>ts.getD i 0) (sn.trans (zi.new hn).toN) (ls.same (zi.new hn)) (sn.free hn) ?_ (rr.imp fun _ _=>TPl.stays K _ _ _ _ (zi.new hn))
  rw[map_map]
  exact ze
def zbd(K:Frag):Sp:=fun vs H Q _=>∃(a b:Addr)(cs:List (List Int)) (us:List Int),vs=[.ref a,.ref b]∧zaQ K (IL K) H a cs∧SqL K H b (us.map V.int)∧us.Nodup∧(∀d∈cs,d.Perm us)∧1≤cs.length∧cs.length≤15∧1≤us.length∧us.length≤24∧zaP (zaR K "by_place") zcZ H∧∀(l:Addr)(H':Hp)(ls:List Addr),yy H H'→zaP (zaR K "by_place") zcZ H'→H l=none→H' l=some (.lst (ls.map V.ref))→All2 (TPl K H') ls (M5.rows (M6.zC cs us) us)→Q (.ref l) H'
theorem zgl{f:Addr}{fd:FuncData}(F:Fun K "ranking_of" "ranking_of" zaa f fd)(T:Txt K mg)(C_places_of:Can P w K mg base 6 "places_of" ["cards","couples"] (wq K))(C_by_place:Can P w K mg base 11 "by_place" ["places","couples"] (zda K)):FnOk P w K mg base CX0 12 f fd ["cards","couples"] (zbd K):=by
 refine F.ok zge (fun vs H Q E h=>?_) (fun cdv A outer s H vs Q E hr h=>?_)
 ·obtain⟨a,b,cs,us,rfl,_⟩:=h
  rfl
 ·obtain⟨a,b,cs,us,rfl,hC,hU,hnd,hp,c1,c2,u1,u2,hT,q⟩:=h
  refine⟨_,(zf (zn (zh C_by_place (hM hr) rfl (za (zh C_places_of (hM hr) rfl (za (pv 0) (za (pv 1) zb))) (za (pv 1) zb))))),?_⟩
  refine⟨_,rfl,_,rfl,a,b,cs,us,rfl,hC,hU,hnd,hp,c1,c2,u1,u2,fun l1 H1 s1 f1 e1=>?_⟩
  refine⟨_,rfl,l1,b,M6.zC cs us,us,rfl,SqL.of e1,s1.seq hU,M6.yr cs us,M6.zi7 cs us,u1,u2,hT.same s1,fun l H' ls s2 z2 f2 e2 r2=>?_⟩
  exact q l H' ls (s1.toN.trans s2) z2 (s1.toN.free f2) e2 r2
def zbW(K:Frag):Sp:=fun vs H Q _=>∃(a b:Addr)(cs:List (List Int)) (us:List Int),vs=[.ref a,.ref b]∧zaQ K (IL K) H a cs∧SqL K H b (us.map V.int)∧us.Nodup∧(∀d∈cs,d.Perm us)∧1≤cs.length∧cs.length≤15∧1≤us.length∧us.length≤24∧zaP (zaR K "by_place") zcZ H∧∀(l:Addr)(H':Hp)(ls:List Addr),yy H H'→zaP (zaR K "by_place") zcZ H'→H l=none→H' l=some (.lst (ls.map V.ref))→All2 (F4 K H') ls (M6.zbg cs us)→Q (.ref l) H'
theorem zfE{f:Addr}{fd:FuncData}(F:Fun K "partings_of" "partings_of" yW f fd)(T:Txt K mg)(C_marks_of:Can P w K mg base 2 "marks_of" ["cards","couple"] (zbi K))(C_ranking_of:Can P w K mg base 12 "ranking_of" ["cards","couples"] (zbd K))(C_parting_of:Can P w K mg base 4 "parting_of" ["one","other"] (zcn K)):FnOk P w K mg base CX0 13 f fd ["cards","couples"] (zbW K):=by
 refine F.ok y6 (fun vs H Q E h=>?_) (fun cdv A outer s H vs Q E hr h=>?_)
 ·obtain⟨a,b,cs,us,rfl,_⟩:=h
  rfl
 ·obtain⟨a,b,cs,us,rfl,hC,hU,hnd,hp,c1,c2,u1,u2,hT,q⟩:=h
  refine⟨_,(zd (zdw (i:=2) (show CompScope2 (zc yW) ["cards","couples","ranked","rows","one","other","parting"] "place" "couple" [] [] _ from⟨rfl,by decide +kernel,by decide +kernel,rfl,rfl,by decide +kernel,rfl,by decide +kernel,by decide +kernel⟩) rfl y6.nd rfl (Or.inl rfl) (zE (zh C_ranking_of (hM hr) rfl (za (pv 0) (za (pv 1) zb)))) (fun _ _ _ _ _=>yw) (fun _ _ _ _ _=>(pv 1)))
   (zd (zz (i:=3) y6.nd rfl (Or.inl rfl) (zO zb))
   (zd (yT PassesOwn.never rfl (pi_zip rfl T.b_zip (za (pv 2) (za (yC zac (pv 2) (yZ zj) wE) zb))) (pg_tup rfl (zea (zV (i:=4) y6.nd rfl (Or.inl rfl)) (zea (zV (i:=5) y6.nd rfl (Or.inl rfl)) pgs_nil)))
     (zd (zz (i:=6) y6.nd rfl (Or.inl rfl) (zh C_parting_of (hM hr) rfl (za (zh C_marks_of (hM hr) rfl (za (pv 0) (za (pv 4) zb))) (za (zh C_marks_of (hM hr) rfl (za (pv 0) (za (pv 5) zb))) zb))))
   (zf (zD (zp op_notN (pv 6) zeN (zt _)) (zf (zY (zaw PySem.F.plainAttrs_list PySem.F.slot_list_append PySem.F.type_list_append yF (pv 3) (za (zb1 (za (pv 4) (za (pv 5) (za (zA yt (pv 6) zj (fun _ _=>rfl)) (za (zA yt (pv 6) zj (fun _ _=>rfl)) zb))))) zb)))) zu))))
   (zf (zn (pv 3)))))),?_⟩
  have hln:=zx
  refine⟨_,rfl,_,rfl,a,b,cs,us,rfl,hC,hU,hnd,hp,c1,c2,u1,u2,hT,fun l1 H1 ls s1 z1 f1 e1 r1=>?_⟩
  refine⟨l1,rfl,⟨_,SqL.of e1⟩,?_⟩
  have t1:=s1.same
  have hC1:=hC.noT
  have hmem:=fun p (hp:p∈M5.rows (M6.zC cs us) us)=>M6.zeb hp
  have hrl:=M5.rows_len (M6.zC cs us) us (M6.yr cs us)
  have hmul:us.length*us.length≤24*24:=mul_le_mul u2 u2
  unfold M6.zbg at q
  generalize M5.rows (M6.zC cs us) us=rs at r1 hrl hmem q
  have hl1:=r1.length
  refine ze1 (xs:=ls.map V.ref) (fun i ys H2=>zi H1 H2∧ys=((rs.take i).map fun p=>p.2).map V.int) ⟨zi.refl _,rfl⟩ ?_ (by rw[length_map];omega) ?_ ?_
  ·rintro i ys H2 hi ⟨s2,rfl⟩
   refine⟨s2.seq (SqL.of e1),?_⟩
   rw[length_map,length_map,length_take]
   omega
  ·rintro i x ys H2 hx ⟨s2,rfl⟩
   obtain⟨p,ep,rfl⟩:=zal hx
   obtain⟨m,em,rm⟩:=r1.getL ep
   refine⟨p,_,_,rfl,s2.seqT rm,_,rfl,s2,?_⟩
   rw[take_succ,em,map_append,map_append]
   rfl
  ·rintro ys H2 ⟨s2,rfl⟩ l2 hl2
   rw[length_map,hl1,take_length]
   generalize hH3:upd H2 l2 _=H3
   have s23:zi H2 H3:=by rw[←hH3];exact zi.new hl2
   have e3:H3 l2=some (.lst ((rs.map fun p=>p.2).map V.int)):=by rw[←hH3];exact ze
   have s13:=s2.trans s23
   refine⟨by decide,fun p4 hp4=>?_⟩
   have e4:(upd H3 p4 (.lst [])) l2=some (.lst ((rs.map fun p=>p.2).map V.int)):=(zi.new hp4) _ _ e3
   refine⟨_,rfl,_,rfl,_,rfl,l2,_,rfl,SqL.of e4,fun l5 hl5=>?_⟩
   rw[zdD (by decide)]
   have s4:=zi.new (o:=.lst []) hp4
   have s5:=zi.new (o:=.lst (((rs.map fun p=>p.2).drop (1:Int).toNat).map V.int)) hl5
   have n45:p4≠l5:=zr ze hl5
   have e6:upd (upd H3 p4 (.lst [])) l5 (.lst (((rs.map fun p=>p.2).drop (1:Int).toNat).map V.int)) p4=some (.lst (([]:List Addr).map V.ref)):=by rw[zl n45];exact ze
   have e5:upd (upd H3 p4 (.lst [])) l5 (.lst (((rs.map fun p=>p.2).drop (1:Int).toNat).map V.int)) l5=some (.lst (((rs.map fun p=>p.2).drop 1).map V.int)):=ze
   have s36:=s4.trans s5
   generalize hH6:upd (upd H3 p4 (.lst [])) l5 _=H6 at e6 e5 s36 ⊢
   have hf5:H3 l5=none:=s4.free hl5
   refine⟨l2,l5,_,_,rfl,SqL.of (s36 _ _ e3),SqL.of e5,?_⟩
   refine for_zip (xs:=(rs.map fun p=>p.2).map V.int) (ys:=((rs.map fun p=>p.2).drop 1).map V.int) (fun i σ H7=>∃(v4 v5 v6:Option V)(ms:List Addr),σ=[some (.ref a),some (.ref b),some (.ref l2),some (.ref p4),v4,v5,v6]∧zi H3 H7∧H7 l5=some (.lst (((rs.map fun p=>p.2).drop 1).map V.int))∧H7 p4=some (.lst (ms.map V.ref))∧All2 (F4 K H7) ms (((rs.zip rs.tail).take i).filterMap fun pq=>M6.nb cs us pq.1 pq.2)) ⟨_,_,_,[],rfl,s36,e5,e6,.nil⟩ ?_ ?_ ?_
   ·rintro i σ H7 hi ⟨v4,v5,v6,ms,rfl,s7,f5,f4,r7⟩
    exact⟨SqL.of (s7 _ _ e3),SqL.of f5⟩
   ·rintro i x y t σ H7 hx hy hn ⟨v4,v5,v6,ms,rfl,s7,f5,f4,r7⟩
    rw[getElem?_map,getElem?_map] at hx
    rw[getElem?_map,List.getElem?_drop,getElem?_map,Nat.add_comm] at hy
    cases ea:rs[i]? with
    | none=>rw[ea] at hx;cases hx
    | some pa =>
      cases eb:rs[i+1]? with
      | none=>rw[eb] at hy;cases hy
      | some pb =>
        rw[ea] at hx
        rw[eb] at hy
        cases hx
        cases hy
        have ez:(rs.zip rs.tail)[i]? = some (pa,pb):=by rw[List.getElem?_zip_eq_some];exact⟨ea,by rw[List.getElem?_tail];exact eb⟩
        obtain⟨ma1,ma2⟩:=hmem _ (mem_of_getElem? ea)
        obtain⟨mb1,mb2⟩:=hmem _ (mem_of_getElem? eb)
        have s8:=zi.new (o:=.tup [.int pa.2,.int pb.2]) hn
        refine⟨t,_,rfl,SqT.new,rfl,_,_,rfl,_,_,rfl,rfl,?_⟩
        have t8:=((t1.trans (s2.trans s23)).trans s7).trans s8
        have f48:=s8 _ _ f4
        have f58:=s8 _ _ f5
        have r8:=r7.imp fun _ _=>F4.stays K _ _ _ _ s8
        have s38:=s7.trans s8
        generalize hH8:upd H7 t _=H8 at s8 t8 f48 f58 r8 s38 ⊢
        refine⟨_,rfl,_,rfl,a,cs,_,rfl,hC1.same (IL.stays K) t8,by omega,fun d hd=>(hp d hd).mem_iff.mpr ma1,fun l9 H9 s9 f9 e9=>?_⟩
        refine⟨_,rfl,_,rfl,a,cs,_,rfl,hC1.same (IL.stays K) (t8.trans s9),by omega,fun d hd=>(hp d hd).mem_iff.mpr mb1,fun l10 H10 s10 f10 e10=>?_⟩
        have rng:∀d∈us,∀x∈M5.zm cs d,1≤x∧x≤24:=fun d hd x hx=>by have:=M6.yz hp hd x hx;omega
        refine⟨l9,l10,_,_,rfl,SqL.of (s10 _ _ e9),SqL.of e10,by rw[M5.zW,M5.zW],by rw[M5.zW];omega,by rw[M5.zW];omega,rng _ ma1,rng _ mb1,fun r hr v H11 s11 told=>?_⟩
        have hnb:=M6.nb_part hp u1 u2 ma1 mb1 hr
        rw[←ma2,←mb2] at hnb
        have s811:=s9.trans (s10.trans s11)
        have f4':=s811 _ _ f48
        have f5':=s811 _ _ f58
        have r11:=r8.imp fun _ _=>F4.stays K _ _ _ _ s811
        have s311:=s38.trans s811
        cases r with
        | none =>
          have told:v=.non:=told
          subst told
          have ef:filterMap (fun pq:(Int×Int)×(Int×Int)=>M6.nb cs us pq.1 pq.2) (some (pa,pb)).toList=[]:=by
           show filterMap _ [(pa,pb)]=_
           rw[List.filterMap_cons_none (f:=fun pq:(Int×Int)×(Int×Int)=>M6.nb cs us pq.1 pq.2) (a:=(pa,pb)) hnb,filterMap_nil]
          refine⟨_,rfl,rfl,_,rfl,iteNS rfl ?_⟩
          refine⟨_,_,_,ms,rfl,s311,f5',f4',?_⟩
          rw[take_succ,ez,List.filterMap_append,ef,append_nil]
          exact r11
        | some r =>
          obtain⟨l12,rfl,hT12⟩:=told
          have ef:filterMap (fun pq:(Int×Int)×(Int×Int)=>M6.nb cs us pq.1 pq.2) (some (pa,pb)).toList=[(pa.2,pb.2,(r.1:Int),r.2)]:=by
           show filterMap _ [(pa,pb)]=_
           rw[List.filterMap_cons_some (f:=fun pq:(Int×Int)×(Int×Int)=>M6.nb cs us pq.1 pq.2) (a:=(pa,pb)) hnb,filterMap_nil]
          refine⟨_,rfl,rfl,_,rfl,yk (fun _=>?_) (fun z=>by cases z)⟩
          refine⟨_,rfl,.inl ⟨rfl,_,SqL.of f4'⟩,_,rfl,_,rfl,_,rfl,l12,_,_,_,rfl,rfl,hT12,rfl,_,rfl,l12,_,_,_,rfl,rfl,hT12,rfl,(by show 4≤sizeLine;decide),fun p13 hp13=>?_⟩
          have s13:=zi.new (o:=.tup [.int pa.2,.int pb.2,.int (r.1:Nat),.str r.2]) hp13
          have hl2:=r7.length
          have hfl:=List.length_filterMap_le (fun pq:(Int×Int)×(Int×Int)=>M6.nb cs us pq.1 pq.2) ((rs.zip rs.tail).take i)
          rw[length_take,length_zip] at hfl
          refine⟨p4,_,_,rfl,rfl,s13 _ _ f4',by rw[length_map];omega,?_⟩
          refine⟨_,_,_,ms++[p13],rfl,(s311.trans s13).put hp4,by rw[zl (Ne.symm n45)];exact s13 _ _ f5',zd4 ms p13,?_⟩
          rw[take_succ,ez,List.filterMap_append,ef]
          refine All2.snoc (F4.put (r11.imp fun _ _=>F4.stays K _ _ _ _ s13) (s13 _ _ f4')) ?_
          exact SqT.put (ys:=ms.map V.ref) SqT.new (s13 _ _ f4')
   ·rintro σ H7 ⟨v4,v5,v6,ms,rfl,s7,f5,f4,r7⟩
    rw[length_map,length_map,length_map,length_drop,length_map,take_of_length_le (by rw[length_zip,length_tail];omega)] at r7
    refine⟨_,rfl,q p4 H7 ms ?_ (z1.same (s13.trans s7)) ?_ f4 r7⟩
    ·exact s1.trans (zi.toN (s13.trans s7))
    ·exact s1.free (s13.free hp4)
def zcJ(K:Frag):Sp:=fun vs H Q _=>∃(p:Addr)(F:Addr→Prop)(S:Sh),vs=[.ref p]∧zB K H p F S∧1≤S.handed.length∧zaP (zaR K "by_place") zcZ H∧∀(l:Addr)(H':Hp)(ls:List Addr),yy H H'→zaP (zaR K "by_place") zcZ H'→H l=none→H' l=some (.lst (ls.map V.ref))→All2 (TPl K H') ls (M5.rows (M6.zC S.cardsIn S.couples) S.couples)→Q (.ref l) H'
theorem ok_ranking{f:Addr}{fd:FuncData}(F:Fun K "ranking" "ranking" zbK f fd)(T:Txt K mg)(C_ranking_of:Can P w K mg base 12 "ranking_of" ["cards","couples"] (zbd K))(C_refuse_fewer_cards:Can P w K mg base 2 "refuse_fewer_cards" ["sheet","least"] (zK K))(C_Sheet_couples:CanM P w K mg base 1 (zL K "Sheet") "couples" ["self"] (zI K))(C_Sheet_cards:CanM P w K mg base 3 (zL K "Sheet") "cards" ["self"] (yA K)):FnOk P w K mg base CX0 13 f fd ["sheet"] (zcJ K):=by
 refine F.ok sc_ranking (fun vs H Q E h=>?_) (fun cdv A outer s H vs Q E hr h=>?_)
 ·obtain⟨p,F,S,rfl,_⟩:=h
  rfl
 ·obtain⟨p,F,S,rfl,hSh,h1,hT,q⟩:=h
  refine⟨_,(zd (zY (zh C_refuse_fewer_cards (hM hr) rfl (za (pv 0) (za zj zb))))
   (zf (zn (zh C_ranking_of (hM hr) rfl (za (zQ C_Sheet_cards T.cl_Sheet (hM hr) (pv 0)) (za (zQ C_Sheet_couples T.cl_Sheet (hM hr) (pv 0)) zb)))))),?_⟩
  have ok:=hSh.ok
  have h15:S.handed.length≤15:=le_trans (length_filter_le _ _) ok.p15
  have c24:=ok.c24
  obtain⟨dx,b1,b2,b3,d,hip⟩:=hSh.ins
  refine⟨_,rfl,p,F,S,1,rfl,hSh,by omega,fun H1 s1=>?_⟩
  refine⟨_,rfl,p,dx,_,rfl,s1 _ _ hip,rfl,p,F,S,rfl,hSh.same s1,fun l2 H2 ls s2 f2 e2 r2=>?_⟩
  have t2:=s1.trans s2
  refine⟨_,rfl,p,dx,_,rfl,t2 _ _ hip,rfl,p,F,S,rfl,hSh.same t2,fun l3 H3 s3 f3 e3=>?_⟩
  have t3:=t2.trans s3
  refine⟨l2,l3,S.cardsIn,S.couples,rfl,⟨ls,SqL.of (s3 _ _ e2),r2.imp fun _ _ z=>SqL.of (s3 _ _ z.2)⟩,SqL.of e3,ok.nd,Sh.cardsIn_perm ok,by rw[Sh.cardsIn_len];exact h1,by rw[Sh.cardsIn_len];exact h15,ok.c1,by omega,hT.same t3,fun l4 H4 ls4 s4 z4 f4 e4 r4=>?_⟩
  exact q l4 H4 ls4 (t3.toN.trans s4) z4 (t3.free f4) e4 r4
def zdl(K:Frag):Sp:=fun vs H Q _=>∃(p:Addr)(F:Addr→Prop)(S:Sh),vs=[.ref p]∧zB K H p F S∧1≤S.handed.length∧zaP (zaR K "by_place") zcZ H∧∀(l:Addr)(H':Hp)(ls:List Addr),yy H H'→zaP (zaR K "by_place") zcZ H'→H l=none→H' l=some (.lst (ls.map V.ref))→All2 (F4 K H') ls (M6.zbg S.cardsIn S.couples)→Q (.ref l) H'
theorem zhY{f:Addr}{fd:FuncData}(F:Fun K "partings" "partings" zaZ f fd)(T:Txt K mg)(C_partings_of:Can P w K mg base 13 "partings_of" ["cards","couples"] (zbW K))(C_refuse_fewer_cards:Can P w K mg base 2 "refuse_fewer_cards" ["sheet","least"] (zK K))(C_Sheet_couples:CanM P w K mg base 1 (zL K "Sheet") "couples" ["self"] (zI K))(C_Sheet_cards:CanM P w K mg base 3 (zL K "Sheet") "cards" ["self"] (yA K)):FnOk P w K mg base CX0 14 f fd ["sheet"] (zdl K):=by
 refine F.ok ziS (fun vs H Q E h=>?_) (fun cdv A outer s H vs Q E hr h=>?_)
 ·obtain⟨p,F,S,rfl,_⟩:=h
  rfl
 ·obtain⟨p,F,S,rfl,hSh,h1,hT,q⟩:=h
  refine⟨_,(zd (zY (zh C_refuse_fewer_cards (hM hr) rfl (za (pv 0) (za zj zb))))
   (zf (zn (zh C_partings_of (hM hr) rfl (za (zQ C_Sheet_cards T.cl_Sheet (hM hr) (pv 0)) (za (zQ C_Sheet_couples T.cl_Sheet (hM hr) (pv 0)) zb)))))),?_⟩
  have ok:=hSh.ok
  have h15:S.handed.length≤15:=le_trans (length_filter_le _ _) ok.p15
  have c24:=ok.c24
  obtain⟨dx,b1,b2,b3,d,hip⟩:=hSh.ins
  refine⟨_,rfl,p,F,S,1,rfl,hSh,by omega,fun H1 s1=>?_⟩
  refine⟨_,rfl,p,dx,_,rfl,s1 _ _ hip,rfl,p,F,S,rfl,hSh.same s1,fun l2 H2 ls s2 f2 e2 r2=>?_⟩
  have t2:=s1.trans s2
  refine⟨_,rfl,p,dx,_,rfl,t2 _ _ hip,rfl,p,F,S,rfl,hSh.same t2,fun l3 H3 s3 f3 e3=>?_⟩
  have t3:=t2.trans s3
  refine⟨l2,l3,S.cardsIn,S.couples,rfl,⟨ls,SqL.of (s3 _ _ e2),r2.imp fun _ _ z=>SqL.of (s3 _ _ z.2)⟩,SqL.of e3,ok.nd,Sh.cardsIn_perm ok,by rw[Sh.cardsIn_len];exact h1,by rw[Sh.cardsIn_len];exact h15,ok.c1,by omega,hT.same t3,fun l4 H4 ls4 s4 z4 f4 e4 r4=>?_⟩
  exact q l4 H4 ls4 (t3.toN.trans s4) z4 (t3.free f4) e4 r4
def zf8(K:Frag):Sp:=fun vs H Q _=>∃(x:Addr)(F:Addr→Prop)(S:Sh),vs=[.ref x]∧zB K H x F S∧1≤S.handed.length∧zaP (zaR K "by_place") zcZ H∧∀(l:Addr)(H':Hp),yy H H'→zaP (zaR K "by_place") zcZ H'→H l=none→H' l=some (.lst ((M6.zaK S.cardsIn S.couples).map V.str))→Q (.ref l) H'
theorem ok_table{f:Addr}{fd:FuncData}(F:Fun K "table" "table" zcG f fd)(T:Txt K mg)(C_ranking:Can P w K mg base 13 "ranking" ["sheet"] (zcJ K))(C_row_text:Can P w K mg base 4 "row_text" ["sheet","place","couple"] (zcd K)):FnOk P w K mg base CX0 14 f fd ["sheet"] (zf8 K):=by
 refine F.ok sc_table (fun vs H Q E h=>?_) (fun cdv A outer s H vs Q E hr h=>?_)
 ·obtain⟨x,F,S,rfl,_⟩:=h
  rfl
 ·obtain⟨x,F,S,rfl,hSh,h1,hL,q⟩:=h
  refine⟨_,(zf (zn (ziX (show CompScope2 (zc zcG) ["sheet"] "place" "couple" ["sheet"] [0] _ from⟨rfl,by decide +kernel,by decide +kernel,rfl,rfl,by decide +kernel,rfl,by decide +kernel,by decide +kernel⟩) rfl (zE (zh C_ranking (hM hr) rfl (za (pv 0) zb))) (fun _ _ _ _ _=>yw) (fun _ _ _ _ _=>(zh C_row_text (hM hr) rfl (za (pv 2) (za (pv 0) (za (pv 1) zb)))))))),?_⟩
  have hln:=zx
  have ok:=hSh.ok
  have c24:=ok.c24
  refine⟨_,rfl,x,F,S,rfl,hSh,h1,hL,fun l1 H1 ls s1 z1 f1 e1 r1=>?_⟩
  obtain⟨F1,hF1,g1⟩:=hSh.sameN s1
  have hrl:=M5.rows_len (M6.zC S.cardsIn S.couples) S.couples (M6.yr _ _)
  have hmul:S.couples.length*S.couples.length≤24*24:=mul_le_mul (by omega) (by omega)
  refine⟨l1,rfl,⟨_,SqL.of e1⟩,?_⟩
  refine zdP (f:=fun p=>M6.zhL p.1 p.2 (M5.zm S.cardsIn p.2) S.couples.length) (SqL.of e1) r1 (by omega) (fun p H' R hp s' h=>?_) fun H2 s2=>?_
  ·obtain⟨m1,m2⟩:=M6.zeb hp
   have hb:p.1.natAbs≤990:=by
    rw[m2]
    unfold M6.yO
    have:=length_filter_le (fun d=>M6.zR (M5.zm S.cardsIn d) (M5.zm S.cardsIn p.2) S.couples.length) S.couples
    omega
   exact⟨_,rfl,_,rfl,_,rfl,x,F1,S,p.1,p.2,rfl,g1.same s',m1,hb,fun H2 s2=>h H2 s2⟩
  ·intro l2 hl2
   exact q l2 _ (s1.trans (s2.newT hl2).toN) (z1.same (s2.newT hl2)) (s1.free (s2.free hl2)) ze
def zdq(K:Frag):Sp:=fun vs H Q _=>∃(x n u k:Addr)(F:Addr→Prop)(S:Sh)(kl:List Addr)(who:Nat)(sp:Int),vs=[.ref x,.ref n,.ref u,.ref k,.int who,.int sp]∧zB K H x F S∧H n=some (.lst (S.panel.map V.str))∧H u=some (.lst (S.couples.map V.int))∧H k=some (.lst (kl.map V.ref))∧All2 (fun l c=>H l=some (.lst (c.map V.int))) kl S.rows∧who<S.panel.length∧1≤S.handed.length∧zaP (zaR K "by_place") zcZ H∧∀H',yy H H'→zaP (zaR K "by_place") zcZ H'→Q (.bl true) H'
theorem ziN{f:Addr}{fd:FuncData}(F:Fun K "_law_told" "_law_told" wj f fd)(T:Txt K mg)(C_places:Can P w K mg base 7 "places" ["sheet"] (zcw K))(C_ranking:Can P w K mg base 13 "ranking" ["sheet"] (zcJ K))(C_firsts:Can P w K mg base 8 "firsts" ["sheet"] (zdz K))(C_partings:Can P w K mg base 14 "partings" ["sheet"] (zdl K))(C_left_out:Can P w K mg base 7 "left_out" ["sheet","judge"] (zdp K))(C_deciders:Can P w K mg base 9 "deciders" ["sheet"] (zdg K))(C_step_up:Can P w K mg base 7 "step_up" ["sheet","judge","couple"] (zdQ K))(C_table_row:Can P w K mg base 8 "table_row" ["sheet","couple"] (zcS K))(C_table:Can P w K mg base 14 "table" ["sheet"] (zf8 K))(C_law_whole:Can P w K mg base 1 "_law_whole" ["_law_found"] (zad K))(C_law_same:Can P w K mg base 2 "_law_same" ["_law_found","_law_due"] (zbj K))(C_law_texts:Can P w K mg base 1 "_law_texts" ["_law_found","_law_due"] (zcO K))(C_law_pairs:Can P w K mg base 2 "_law_pairs" ["_law_found","_law_due"] (zcD K))(C_law_fours:Can P w K mg base 2 "_law_fours" ["_law_found","_law_due"] (zcW K))(C_law_spots:Can P w K mg base 2 "_law_spots" ["_law_cards","_law_couples_here"] (zbE K))(C_law_rows:Can P w K mg base 1 "_law_rows" ["_law_spots_here","_law_couples_here"] (zb6 K))(C_law_parts:Can P w K mg base 2 "_law_parts" ["_law_cards","_law_couples_here","_law_spots_here"] (zcL K))(C_law_line:Can P w K mg base 2 "_law_line" ["_law_place","_law_couple","_law_cards","_law_last"] (zdm K))(C_law_firsts:Can P w K mg base 3 "_law_firsts" ["_law_cards","_law_couples_here"] (zbf K))(C_law_deciding:Can P w K mg base 4 "_law_deciding" ["_law_names","_law_cards","_law_couples_here"] (zbn K))(C_law_moved:Can P w K mg base 1 "_law_moved" ["_law_cards","_law_who","_law_k"] (zcB K)):FnOk P w K mg base CX0 15 f fd ["_law_sheet_here","_law_names","_law_couples_here","_law_cards","_law_who","_law_spot"] (zdq K):=by
 refine F.ok yL (fun vs H Q E h=>?_) (fun cdv A outer s H vs Q E hr h=>?_)
 ·obtain⟨x,n,u,k,F,S,kl,who,sp,rfl,_⟩:=h
  rfl
 ·obtain⟨x,n,u,k,F,S,kl,who,sp,rfl,hSh,hN,hU,hK,rK,hw,hh1,hL,q⟩:=h
  refine⟨_,(zd (zz (i:=6) yL.nd rfl (Or.inr rfl) (zN (show CompScope (zc wj) ["_law_sheet_here","_law_names","_law_couples_here","_law_cards","_law_who","_law_spot","_law_into","_law_spots_here","_law_rows_here","_law_lines","_law_pick","_law_rest","_law_k","_law_found"] "_law_card_here" [] [] _ from⟨rfl,by decide +kernel,by decide +kernel,rfl,by decide +kernel,rfl,by decide +kernel,by decide +kernel⟩) rfl (zE (pv 3)) (fun _ _ _ _ _=>(yS (zp (wd (K:=K) rfl hr.units0) (pv 0) (zO zb) (zt _)))) (fun _ _ _ _ _=>(pv 0))))
   (zd (zz (i:=7) yL.nd rfl (Or.inl rfl) (zh C_law_spots (hM hr) rfl (za (pv 6) (za (pv 2) zb))))
   (zd (zD (PW.pt (zbv (ye (ya (zh C_law_same (hM hr) rfl (za (zh C_places (hM hr) rfl (za (pv 0) zb)) (za (pv 7) zb))))) (zas (ye (ya (zh C_law_pairs (hM hr) rfl (za (zh C_ranking (hM hr) rfl (za (pv 0) zb)) (za (zh C_law_rows (hM hr) rfl (za (pv 7) (za (pv 2) zb))) zb)))))))) (zf (zn yq)) zu)
   (zd (zD (ye (ya (zh C_law_fours (hM hr) rfl (za (zh C_partings (hM hr) rfl (za (pv 0) zb)) (za (zh C_law_parts (hM hr) rfl (za (pv 6) (za (pv 2) (za (pv 7) zb)))) zb))))) (zf (zn yq)) zu)
   (zd (zD (ye (ya (zh C_law_same (hM hr) rfl (za (zh C_firsts (hM hr) rfl (za (pv 0) zb)) (za (zh C_law_firsts (hM hr) rfl (za (pv 6) (za (pv 2) zb))) zb))))) (zf (zn yq)) zu)
   (zd (zbM (zD (zp ze3 (zk zg (by rfl) T.b_len PySem.boot_len (za (pv 2) zb)) zj (zt _)) (zd (zz (i:=8) yL.nd rfl (Or.inl rfl) (zh C_law_rows (hM hr) rfl (za (pv 7) (za (pv 2) zb))))
   (zd (zdw (i:=9) (show CompScope2 (zc wj) ["_law_sheet_here","_law_names","_law_couples_here","_law_cards","_law_who","_law_spot","_law_into","_law_spots_here","_law_rows_here","_law_lines","_law_pick","_law_rest","_law_k","_law_found"] "_law_place" "_law_couple" ["_law_couples_here","_law_into"] [2,6] _ from⟨rfl,by decide +kernel,by decide +kernel,rfl,rfl,by decide +kernel,rfl,by decide +kernel,by decide +kernel⟩) rfl yL.nd rfl (Or.inl rfl) (zE (pv 8)) (fun _ _ _ _ _=>yw) (fun _ _ _ _ _=>(zh C_law_line (hM hr) rfl (za (pv 0) (za (pv 1) (za (pv 3) (za (zk (zck (K:=K) rfl) (by rfl) T.b_len PySem.boot_len (za (pv 2) zb)) zb)))))))
   (zd (zz (i:=10) yL.nd rfl (Or.inl rfl) (zv yV (pv 5) (zk zg (by rfl) T.b_len PySem.boot_len (za (pv 8) zb))))
   (zf (zD (ye (ya (zh C_law_texts (hM hr) rfl (za (zv wD (zh C_table (hM hr) rfl (za (pv 0) zb)) (zO (za (zh C_table_row (hM hr) rfl (za (pv 0) (za (zA yt (zA zy (pv 8) (pv 10) (fun _ _=>rfl)) zj (fun _ _=>rfl)) zb))) zb))) (za (zv wD (pv 9) (zO (za (zA zy (pv 9) (pv 10) (fun _ _=>rfl)) zb))) zb))))) (zf (zn yq)) zu))))) zu))
   (zd (zbM (zD (PW.pt (zdX (zp ze3 zj (zk zg (by rfl) T.b_len PySem.boot_len (za (pv 6) zb)) (zt _)) (zcU (zp ze3 (zk zg (by rfl) T.b_len PySem.boot_len (za (pv 6) zb)) zj (zt _))))) (zf (zD (ye (ya (zh C_law_texts (hM hr) rfl (za (zh C_deciders (hM hr) rfl (za (pv 0) zb)) (za (zh C_law_deciding (hM hr) rfl (za (pv 1) (za (pv 3) (za (pv 2) zb)))) zb))))) (zf (zn yq)) zu)) zu))
   (zd (zbM (zD (PW.pt (zdX (zp zfl (zk zg (by rfl) T.b_len PySem.boot_len (za (pv 6) zb)) zj (zt _)) (zcU (zp (zaU hr.units0) (zA zy (pv 3) (pv 4) (fun _ _=>rfl)) (zO zb) (zt _))))) (zd (yU (i:=11) (show CompScope (zc wj) ["_law_sheet_here","_law_names","_law_couples_here","_law_cards","_law_who","_law_spot","_law_into","_law_spots_here","_law_rows_here","_law_lines","_law_pick","_law_rest","_law_k","_law_found"] "_law_card_here" [] [] _ from⟨rfl,by decide +kernel,by decide +kernel,rfl,by decide +kernel,rfl,by decide +kernel,by decide +kernel⟩) rfl yL.nd rfl (Or.inl rfl) (zE (zv wD (yC zac (pv 3) wE (yZ (pv 4))) (yC zac (pv 3) (yZ (zv zZ (pv 4) zj)) wE))) (fun _ _ _ _ _=>(yS (zp (wd (K:=K) rfl hr.units0) (pv 0) (zO zb) (zt _)))) (fun _ _ _ _ _=>(pv 0)))
   (zf (zD (ye (ya (zh C_law_same (hM hr) rfl (za (zh C_left_out (hM hr) rfl (za (pv 0) (za (zA zy (pv 1) (pv 4) (fun _ _=>rfl)) zb))) (za (zh C_law_spots (hM hr) rfl (za (pv 11) (za (pv 2) zb))) zb))))) (zf (zn yq)) zu))) zu))
   (zd (zD (zp ze3 (zk zg (by rfl) T.b_len PySem.boot_len (za (zA zy (pv 3) (pv 4) (fun _ _=>rfl)) zb)) zj (zt _)) (zf (zn yq)) zu)
   (zd (zz (i:=12) yL.nd rfl (Or.inl rfl) (zv zZ zj (zv yV (pv 5) (zv za3 (zk zg (by rfl) T.b_len PySem.boot_len (za (pv 2) zb)) zj))))
   (zd (zz (i:=13) yL.nd rfl (Or.inl rfl) (zh C_step_up (hM hr) rfl (za (pv 0) (za (zA zy (pv 1) (pv 4) (fun _ _=>rfl)) (za (zA zy (zA zy (pv 3) (pv 4) (fun _ _=>rfl)) (pv 12) (fun _ _=>rfl)) zb)))))
   (zd (zD (PW.pt (zbv (ye (ya (zk zbV (by rfl) T.b_isinstance boot_isinstance (za (pv 13) (za (zap (v:=V.ty "tuple") rfl T.b_tuple boot_tuple rfl) zb))))) (zas (zp yK (zk zg (by rfl) T.b_len PySem.boot_len (za (pv 13) zb)) zj (zt _))))) (zf (zn yq)) zu)
   (zd (zD (PW.pt (zbv (ye (ya (zh C_law_whole (hM hr) rfl (za (zA yt (pv 13) zj (fun _ _=>rfl)) zb)))) (zas (zp yK (zA yt (pv 13) zj (fun _ _=>rfl)) (zA zy (zA zy (pv 3) (pv 4) (fun _ _=>rfl)) (zv za3 (pv 12) zj) (fun _ _=>rfl)) (zt _))))) (zf (zn yq)) zu)
   (zf (zn (zh C_law_same (hM hr) rfl (za (zA yt (pv 13) zj (fun _ _=>rfl)) (za (zh C_law_spots (hM hr) rfl (za (zh C_law_moved (hM hr) rfl (za (pv 3) (za (pv 4) (za (pv 12) zb)))) (za (pv 2) zb))) zb)))))))))))))))))),?_⟩
  have hln:=zx
  have ok:=hSh.ok
  have c24:=ok.c24
  have c1:=ok.c1
  have hin:=Sh.cardsIn_rows ok
  have hip:=Sh.cardsIn_perm ok
  have hil:=Sh.cardsIn_len S
  have hhl:=Sh.handed_len ok
  have h15:S.handed.length≤15:=le_trans (length_filter_le _ _) ok.p15
  have hrl7:=rK.length
  have hrw:=Sh.rows_len S
  have p15:=ok.p15
  have hone:∀i,i<S.panel.length→S.rows.getD i []≠[]→S.card (S.panel.getD i "")=some (S.rows.getD i []):=fun i hi hne=>by
   have e:=S.rows_at hi
   cases hc:S.card (S.panel.getD i "")with
   | none=>rw[hc] at e;exact absurd e hne
   | some d=>rw[hc] at e;rw[e];rfl
  have hcd:∀d∈S.rows,d=[]∨d.Perm S.couples:=fun d hd=>by
   obtain⟨j,_,rfl⟩:=List.mem_map.mp hd
   cases e:S.card j with
   | none=>exact .inl rfl
   | some c=>exact .inr (ok.cd j c e).2
  refine⟨_,rfl,k,rfl,⟨_,SqL.of hK⟩,?_⟩
  refine zbF (SqL.of hK) (rK.imp fun _ _ z=>SqL.of z) (by omega) (fun m d H' Q hm h=>?_) (fun m H' Q h=>⟨_,rfl,h⟩) fun ks H8 s8 r8=>?_
  ·refine⟨_,rfl,(by show 0≤sizeLine;decide),fun l13 hl13=>?_⟩
   have s13:=zi.new (o:=.lst []) hl13
   refine⟨m,l13,_,[],rfl,rfl,s13.seq hm,SqL.new,zG _,rfl,_,rfl,?_⟩
   rw[show eqL (d.map V.int) []=decide (d=[])from yM _ []]
   exact h _ s13
  rw[←hin] at r8
  intro li hli
  have s9:=s8.newT (o:=.lst (ks.map V.ref)) hli
  have e9:upd H8 li (.lst (ks.map V.ref)) li=some (.lst (ks.map V.ref)):=ze
  have r9:=r8.imp fun _ _=>IL.stays K _ _ _ _ (zi.new (o:=.lst (ks.map V.ref)) hli)
  generalize hH9':upd H8 li _=H9' at s9 e9 r9 ⊢
  have hkl:ks.length=S.handed.length:=by rw[r8.length,hil]
  have hall:∀u∈S.couples,∀d∈S.cardsIn,u∈d:=fun u hu d hd=>(hip d hd).mem_iff.mpr hu
  generalize hvs:S.couples=vs at hU hip hall c1 c24 hcd
  have hvn:vs.Nodup:=by rw[←hvs];exact ok.nd
  have hvr:∀c∈vs,1≤c∧c≤999:=by rw[←hvs];exact ok.rng
  refine⟨_,rfl,_,rfl,li,u,S.cardsIn,vs,rfl,⟨ks,SqL.of e9,r9⟩,SqL.of (s9 _ _ hU),by omega,by omega,hall,fun lsp H9 s10 f10 e10=>?_⟩
  rw[M6.zbw hip (by omega)] at e10
  have hpl:=M6.yr S.cardsIn vs
  have t9:=s9.trans s10
  have e99:=s10 _ _ e9
  have r99:=r9.imp fun _ _=>IL.stays K _ _ _ _ s10
  have U9:=t9 _ _ hU
  have N9:=t9 _ _ hN
  have K9:=t9 _ _ hK
  have rK9:=rK.imp fun(l:Addr) (c:List Int) (z:H l=some (.lst (c.map V.int)))=>t9 _ _ z
  have L9:=hL.same t9
  have g9:=hSh.same t9
  clear s9 e9 r9 s10 f10 s8 r8 hH9'
  have hrl:=M5.rows_len (M6.zC S.cardsIn vs) vs hpl
  have hmul:vs.length*vs.length≤24*24:=mul_le_mul (by omega) (by omega)
  -- zC,ranking
  refine⟨_,rfl,x,F,S,rfl,g9,hh1,fun l1 H10 s1 f1 e1=>?_⟩
  rw[hvs] at e1
  refine⟨_,rfl,l1,lsp,_,_,rfl,SqL.of e1,SqL.of (s1 _ _ e10),by omega,?_⟩
  rw[decide_eq_true rfl]
  refine⟨_,rfl,wF ?_⟩
  refine⟨_,rfl,x,F,S,rfl,g9.same s1,hh1,L9.same s1,fun l2 H11 k2 s2 z2 f2 e2 r2=>?_⟩
  rw[hvs] at r2
  obtain⟨F11,_,g11⟩:=(g9.same s1).sameN s2
  have t11:yy H9 H11:=s1.toN.trans s2
  refine⟨_,rfl,_,rfl,lsp,u,_,vs,rfl,SqL.of (t11.lst e10),SqL.of (t11.lst U9),hpl,by omega,fun l3 H12 k3 s3 f3 e3 r3=>?_⟩
  refine⟨l2,l3,_,rfl,⟨k2,SqL.of (s3 _ _ e2),r2.imp fun _ _=>TPl.stays K _ _ _ _ s3⟩,⟨k3,SqL.of e3,r3⟩,by omega,?_⟩
  refine⟨_,rfl,wF ?_⟩
  -- zbg
  refine⟨_,rfl,x,F11,S,rfl,g11.same s3,hh1,z2.same s3,fun l4 H13 k4 s4 z4 f4 e4 r4=>?_⟩
  rw[hvs] at r4
  obtain⟨F13,_,g13⟩:=(g11.same s3).sameN s4
  have t13:=(t11.trans s3.toN).trans s4
  have rc13:All2 (IL K H13) ks S.cardsIn:=r99.sameN t13
  refine⟨_,rfl,_,rfl,_,rfl,li,u,lsp,S.cardsIn,vs,rfl,⟨ks,SqL.of (t13.lst e99),rc13⟩,SqL.of (t13.lst U9),SqL.of (t13.lst e10),by omega,by omega,hall,fun l5 H14 k5 s5 f5 e5 r5=>?_⟩
  have hpp:=M6.zhF S.cardsIn vs
  refine⟨l4,l5,_,rfl,⟨k4,SqL.of (s5 _ _ e4),r4.imp fun _ _=>F4.stays K _ _ _ _ s5⟩,⟨k5,SqL.of e5,r5⟩,by omega,?_⟩
  refine⟨_,rfl,wF ?_⟩
  have t14:=t13.trans s5.toN
  -- firsts
  refine⟨_,rfl,x,F13,S,rfl,g13.same s5,hh1,fun l6 H15 s6 f6 e6=>?_⟩
  rw[hvs] at e6
  have t15:=t14.trans s6.toN
  have rc15:All2 (IL K H15) ks S.cardsIn:=r99.sameN t15
  refine⟨_,rfl,_,rfl,li,u,S.cardsIn,vs,rfl,⟨ks,SqL.of (t15.lst e99),rc15⟩,SqL.of (t15.lst U9),hip,by omega,by omega,by omega,fun l7 H16 s7 f7 e7=>?_⟩
  have hfl:(zan S.cardsIn vs).length≤24:=le_trans (zdn _ _ _) (by omega)
  refine⟨l6,l7,_,_,rfl,SqL.of (s7 _ _ e6),SqL.of e7,by omega,?_⟩
  rw[decide_eq_true rfl]
  refine⟨_,rfl,wF ?_⟩
  have t16:=t15.trans s7.toN
  have g16:=(g13.same s5).same (s6.trans s7)
  have z16:=(z4.same s5).same (s6.trans s7)
  clear e1 e2 r2 e3 r3 e4 r4 e5 r5 e6 e7 f1 f2 f3 f4 f5 f6 f7
  -- the table
  refine⟨fun σ' H'=>∃(v8 v9 v10:Option V)(F':Addr→Prop),σ'=[some (.ref x),some (.ref n),some (.ref u),some (.ref k),some (.int who),some (.int sp),some (.ref li),some (.ref lsp),v8,v9,v10,none,none,none]∧yy H9 H'∧zaP (zaR K "by_place") zcZ H'∧zB K H' x F' S,?_,?_⟩
  ·refine⟨_,rfl,u,_,rfl,.inl (SqL.of (t16.lst U9)),_,_,rfl,rfl,_,rfl,wv (fun _=>?_) (fun _=>⟨_,_,_,F13,rfl,t16,z16,g16⟩)⟩
   refine⟨_,rfl,_,rfl,lsp,u,_,vs,rfl,SqL.of (t16.lst e10),SqL.of (t16.lst U9),hpl,by omega,fun lr H17 kr s8 f8 e8 r8=>?_⟩
   have hrm:=fun p (hp:p∈M5.rows (M6.zC S.cardsIn vs) vs)=>M6.zeb hp
   have hrne:M5.rows (M6.zC S.cardsIn vs) vs≠[]:=M6.rows_ne (by intro z;rw[z] at c1;simp at c1)
   have hTd:M6.zaK S.cardsIn vs=(M5.rows (M6.zC S.cardsIn vs) vs).map fun p=>M6.zhL p.1 p.2 (M5.zm S.cardsIn p.2) vs.length:=rfl
   generalize M5.rows (M6.zC S.cardsIn vs) vs=rs at r8 hrl hrm hrne hTd
   have hrs1:0<rs.length:=List.length_pos_iff.mpr hrne
   have hpb:∀p∈rs,p.1.natAbs≤990:=fun p hp=>by
    rw[(hrm p hp).2]
    unfold M6.yO
    have:=length_filter_le (fun d=>M6.zR (M5.zm S.cardsIn d) (M5.zm S.cardsIn p.2) vs.length) vs
    omega
   have t17:=t16.trans s8.toN
   have i17:=t17.lst e99
   have U17:=t17.lst U9
   have rc17:All2 (IL K H17) ks S.cardsIn:=r99.sameN t17
   refine⟨_,rfl,lr,rfl,⟨_,SqL.of e8⟩,?_⟩
   refine zdP (f:=fun p=>M6.zhL p.1 p.2 (M5.zm S.cardsIn p.2) vs.length) (SqL.of e8) r8 (by omega) (fun p H' R hp s' h=>?_) fun H18 s9=>?_
   ·obtain⟨m1,m2⟩:=hrm p hp
    have hcr:=hvr _ m1
    refine⟨_,rfl,_,rfl,_,rfl,_,rfl,u,_,rfl,.inl (SqL.of (s' _ _ U17)),?_⟩
    rw[length_map]
    exact⟨p.1,p.2,li,S.cardsIn,vs.length,rfl,⟨ks,SqL.of (s' _ _ i17),rc17.imp fun _ _=>IL.stays K _ _ _ _ s'⟩,by omega,hall _ m1,fun y hy=>(by have:=M6.yz hip m1 y hy;omega),by omega,hpb p hp,by omega,fun H2 s2=>h H2 s2⟩
   rw[←hTd]
   intro ln hln'
   have s10:=s9.newT (o:=.lst ((M6.zaK S.cardsIn vs).map V.str)) hln'
   have e10':upd H18 ln (.lst ((M6.zaK S.cardsIn vs).map V.str)) ln=some (.lst ((M6.zaK S.cardsIn vs).map V.str)):=ze
   generalize hH19:upd H18 ln _=H19 at s10 e10' ⊢
   have hTl:(M6.zaK S.cardsIn vs).length=rs.length:=by rw[hTd,length_map]
   have e8':=s10 _ _ e8
   have r8':=r8.imp fun _ _=>TPl.stays K _ _ _ _ s10
   have hkr:=r8.length
   refine⟨_,rfl,_,rfl,lr,_,rfl,.inl (SqL.of e8'),?_⟩
   rw[length_map,hkr]
   refine⟨_,_,rfl,rfl,(by show(0:Int)<rs.length;omega),?_⟩
   dsimp only
   have q0:=Int.emod_nonneg sp (b:=(rs.length:Int)) (by omega)
   have q1:=Int.emod_lt_of_pos sp (b:=(rs.length:Int)) (by omega)
   generalize sp%(rs.length:Int)=pk at q0 q1 ⊢
   obtain⟨pk,rfl⟩:=Int.eq_ofNat_of_zero_le q0
   have hpk:pk<rs.length:=by omega
   have t19:=s8.trans s10
   refine⟨_,rfl,x,F13,S,rfl,g16.same t19,hh1,z16.same t19,fun lt H20 s11 z20 f11 e11=>?_⟩
   rw[hvs] at e11
   obtain⟨F20,_,g20⟩:=(g16.same t19).sameN s11
   have rr20:=TPl.sameN s11 r8'
   obtain⟨t,et,rt⟩:=rr20.get (getElem?_eq_getElem hpk)
   have at1:atI (kr.map V.ref) (pk:Int)=some (.ref t):=zP (wt et)
   obtain⟨m1,m2⟩:=hrm _ (getElem_mem hpk)
   have atd:atI ((M6.zaK S.cardsIn vs).map V.str) (pk:Int)=some (.str (M6.zhL (rs[pk]).1 (rs[pk]).2 (M5.zm S.cardsIn (rs[pk]).2) vs.length)):=by
    refine zP ?_
    rw[hTd,map_map,getElem?_map,getElem?_eq_getElem hpk]
    rfl
   generalize rs[pk]=pr at rt m1 m2 atd
   have rt:SqT K H20 t [.int pr.1,.int pr.2]:=rt
   refine⟨_,rfl,_,rfl,_,rfl,lr,_,_,_,rfl,rfl,SqL.of (s11.lst e8'),at1,t,_,_,_,rfl,rfl,rt,rfl,x,F20,S,pr.2,rfl,g20,hh1,by rw[hvs];exact m1,fun H21 s12=>?_⟩
   rw[hvs]
   have e:M6.plc S.cardsIn vs pr.2=pr.1:=m2.symm
   rw[e]
   generalize M6.zhL pr.1 pr.2 (M5.zm S.cardsIn pr.2) vs.length=tx at atd ⊢
   refine⟨(by show 1≤sizeLine;decide),fun la hla=>?_⟩
   have s13:=zi.new (o:=.lst [.str tx]) hla
   refine⟨lt,la,_,[.str tx],rfl,rfl,s13 _ _ (s12 _ _ e11),ze,by rw[length_map,hTl];simp only[length_cons,length_nil];omega,fun lb hlb=>?_⟩
   have s14:=(s12.trans s13).newT (o:=.lst ((M6.zaK S.cardsIn vs).map V.str++[.str tx])) hlb
   have eb:upd (upd H21 la (.lst [.str tx])) lb (.lst ((M6.zaK S.cardsIn vs).map V.str++[.str tx])) lb=some (.lst ((M6.zaK S.cardsIn vs++[tx]).map V.str)):=by rw[ze,map_append];rfl
   generalize hH22:upd (upd H21 la _) lb _=H22 at s14 eb ⊢
   have n22:H22 ln=some (.lst ((M6.zaK S.cardsIn vs).map V.str)):=s14 _ _ (s11.lst e10')
   refine⟨_,rfl,_,rfl,_,rfl,ln,_,_,_,rfl,rfl,SqL.of n22,atd,(by show 1≤sizeLine;decide),fun lc hlc=>?_⟩
   have s15:=zi.new (o:=.lst [.str tx]) hlc
   refine⟨ln,lc,_,[.str tx],rfl,rfl,s15 _ _ n22,ze,by rw[length_map,hTl];simp only[length_cons,length_nil];omega,fun ld hld=>?_⟩
   have s16:=s15.newT (o:=.lst ((M6.zaK S.cardsIn vs).map V.str++[.str tx])) hld
   have ed:upd (upd H22 lc (.lst [.str tx])) ld (.lst ((M6.zaK S.cardsIn vs).map V.str++[.str tx])) ld=some (.lst ((M6.zaK S.cardsIn vs++[tx]).map V.str)):=by rw[ze,map_append];rfl
   generalize hH23:upd (upd H22 lc _) ld _=H23 at s16 ed ⊢
   refine⟨lb,ld,_,_,rfl,SqL.of (s16 _ _ eb),SqL.of ed,by rw[length_append,hTl];simp only[length_cons,length_nil];omega,?_⟩
   rw[decide_eq_true rfl]
   have t23:=s14.trans s16
   exact⟨_,rfl,wF ⟨_,_,_,F20,rfl,((t16.trans t19.toN).trans s11).trans t23.toN,z20.same t23,g20.same t23⟩⟩
  clear t16 g16 z16 t15 t14 t13 t11 rc13 rc15 g13 g11
  rintro σ' H17 ⟨v8,v9,v10,F17,rfl,t17,z17,g17⟩
  -- who decides
  refine⟨fun σ' H'=>∃(F':Addr→Prop),σ'=[some (.ref x),some (.ref n),some (.ref u),some (.ref k),some (.int who),some (.int sp),some (.ref li),some (.ref lsp),v8,v9,v10,none,none,none]∧yy H9 H'∧zaP (zaR K "by_place") zcZ H'∧zB K H' x F' S,?_,?_⟩
  ·refine⟨_,rfl,li,_,rfl,.inl (SqL.of (t17.lst e99)),_,_,rfl,rfl,_,rfl,wv (fun h2=>?_) (fun _=>wF ⟨F17,rfl,t17,z17,g17⟩)⟩
   rw[length_map,hkl] at h2
   refine⟨_,rfl,li,_,rfl,.inl (SqL.of (t17.lst e99)),_,_,rfl,rfl,_,rfl,wv (fun _=>?_) (fun _=>⟨F17,rfl,t17,z17,g17⟩)⟩
   refine⟨_,rfl,x,F17,S,rfl,g17,by omega,fun l8 H18 s8 f8 e8=>?_⟩
   have t18:=t17.trans s8.toN
   have rk18:All2 (IL K H18) kl S.rows:=rK9.imp fun(l:Addr) (c:List Int) (z:H9 l=some (.lst (c.map V.int)))=>(show SqL K H18 l _ from SqL.of (t18.lst z))
   refine⟨_,rfl,_,rfl,_,rfl,n,k,u,S.panel,S.rows,vs,rfl,SqL.of (t18.lst N9),⟨kl,SqL.of (t18.lst K9),rk18⟩,SqL.of (t18.lst U9),hrw,by omega,by omega,hcd,by rw[←hhl];omega,fun l9 H19 s9 f9 e9=>?_⟩
   have hdr:=Sh.decide_rows ok
   rw[hvs] at hdr
   rw[hdr] at e8
   have hdl:=zic S.panel S.rows vs S.panel.length
   refine⟨l8,l9,_,_,rfl,SqL.of (s9 _ _ e8),SqL.of e9,by omega,?_⟩
   rw[decide_eq_true rfl]
   exact⟨_,rfl,wF ⟨F17,rfl,t18.trans s9.toN,(z17.same s8).same s9,(g17.same s8).same s9⟩⟩
  clear t17 z17 g17
  rintro σ' H18 ⟨F18,rfl,t18,z18,g18⟩
  -- one left out
  obtain⟨m,em,rm⟩:=rK9.at (i:=who) (by omega) []
  have am:atI (kl.map V.ref) (who:Int)=some (.ref m):=zP (wt em)
  have ats:atI (S.panel.map V.str) (who:Int)=some (.str (S.panel.getD who "")):=by
   have:=zfA (ts:=S.panel) (i:=(who:Int)) (by omega) (by omega)
   rw[show((who:Int)).toNat=who by omega] at this
   exact this
  generalize hd:S.rows.getD who []=d at rm
  have hdone:d≠[]→S.card (S.panel.getD who "")=some d:=fun hne=>by rw[←hd] at hne ⊢;exact hone who hw hne
  refine⟨fun σ' H'=>∃(v11:Option V)(F':Addr→Prop),σ'=[some (.ref x),some (.ref n),some (.ref u),some (.ref k),some (.int who),some (.int sp),some (.ref li),some (.ref lsp),v8,v9,v10,v11,none,none]∧yy H9 H'∧zaP (zaR K "by_place") zcZ H'∧zB K H' x F' S,?_,?_⟩
  ·refine⟨_,rfl,li,_,rfl,.inl (SqL.of (t18.lst e99)),_,_,rfl,rfl,_,rfl,wv (fun h2=>?_) (fun _=>wF ⟨_,F18,rfl,t18,z18,g18⟩)⟩
   rw[length_map,hkl] at h2
   refine⟨_,rfl,_,rfl,k,_,_,_,rfl,rfl,SqL.of (t18.lst K9),am,(by show 0≤sizeLine;decide),fun l9 hl9=>?_⟩
   have s9:=zi.new (o:=.lst []) hl9
   refine⟨m,l9,_,[],rfl,rfl,SqL.of (s9 _ _ (t18.lst rm)),SqL.new,zG _,rfl,_,rfl,?_⟩
   rw[show eqL (d.map V.int) []=decide (d=[])from yM _ []]
   generalize hH19:upd H18 l9 _=H19 at s9 ⊢
   have t19:=t18.trans s9.toN
   refine yk (fun hne=>?_) (fun _=>⟨_,F18,rfl,t19,z18.same s9,g18.same s9⟩)
   have K19:=t19.lst K9
   refine⟨_,rfl,_,rfl,_,rfl,k,_,rfl,SqL.of K19,fun l10 hl10=>?_⟩
   rw[zdZ (by omega),show((who:Int)).toNat=who by omega,←map_take]
   have s10:=zi.new (o:=.lst ((kl.take who).map V.ref)) hl10
   refine⟨_,rfl,_,rfl,_,_,rfl,rfl,_,rfl,k,_,rfl,SqL.of (s10 _ _ K19),fun l11 hl11=>?_⟩
   rw[zd8 (by omega),show((who:Int)+1).toNat=who+1 by omega,←map_drop]
   have s11:=zi.new (o:=.lst ((kl.drop (who+1)).map V.ref)) hl11
   refine⟨l10,l11,_,_,rfl,rfl,s11 _ _ ze,ze,by rw[length_map,length_map,length_take,length_drop];omega,fun l12 hl12=>?_⟩
   rw[←map_append]
   have s12:=(s10.trans s11).newT (o:=.lst ((kl.take who++kl.drop (who+1)).map V.ref)) hl12
   have e12:=ze (H:=upd (upd H19 l10 (.lst ((kl.take who).map V.ref))) l11 (.lst ((kl.drop (who+1)).map V.ref))) (a:=l12) (o:=.lst ((kl.take who++kl.drop (who+1)).map V.ref))
   generalize hH12:upd (upd (upd H19 l10 _) l11 _) l12 _=H20 at s12 e12 ⊢
   have t20:=t19.trans s12.toN
   have r12:All2 (IL K H20) (kl.take who++kl.drop (who+1)) (S.rows.take who++S.rows.drop (who+1)):=by
    have z:=rK9.imp fun(l:Addr) (c:List Int) (w:H9 l=some (.lst (c.map V.int)))=>(show IL K H20 l c from SqL.of (t20.lst w))
    exact(z.takeN who).app (z.dropN (who+1))
   refine⟨l12,rfl,⟨_,SqL.of e12⟩,?_⟩
   refine zbF (SqL.of e12) r12 (by rw[length_append,length_take,length_drop];omega) (fun m d H' R hm h=>?_) (fun m H' R h=>⟨_,rfl,h⟩) fun k13 H21 s13 r13=>?_
   ·refine⟨_,rfl,(by show 0≤sizeLine;decide),fun l13 hl13=>?_⟩
    have s13:=zi.new (o:=.lst []) hl13
    refine⟨m,l13,_,[],rfl,rfl,s13.seq hm,SqL.new,zG _,rfl,_,rfl,?_⟩
    rw[show eqL (d.map V.int) []=decide (d=[])from yM _ []]
    exact h _ s13
   rw[←Sh.cardsWo_rows ok hw] at r13
   intro l14 hl14
   have s14:=s13.newT (o:=.lst (k13.map V.ref)) hl14
   have e14:upd H21 l14 (.lst (k13.map V.ref)) l14=some (.lst (k13.map V.ref)):=ze
   have r14:=r13.imp fun _ _=>IL.stays K _ _ _ _ (zi.new (o:=.lst (k13.map V.ref)) hl14)
   generalize hH22:upd H21 l14 _=H22 at s14 e14 r14 ⊢
   have t22:=t20.trans s14.toN
   have g22:=(g18.same s9).same (s12.trans s14)
   have z22:=(z18.same s9).same (s12.trans s14)
   have hjh:S.panel.getD who "" ∈ S.handed:=List.mem_filter.mpr ⟨zak hw,by rw[hdone hne];rfl⟩
   have hwp:=Sh.cardsWo_perm ok (S.panel.getD who "")
   rw[hvs] at hwp
   have hwl:=Sh.cardsWo_len ok.pnd hjh
   refine⟨_,rfl,_,rfl,_,rfl,n,_,_,_,rfl,rfl,SqL.of (t22.lst N9),ats,x,F18,S,_,rfl,g22,hjh,by omega,fun l15 H23 s15 f15 e15=>?_⟩
   rw[hvs] at e15
   have t23:=t22.trans s15.toN
   refine⟨_,rfl,_,rfl,l14,u,_,vs,rfl,⟨k13,SqL.of (s15 _ _ e14),r14.imp fun _ _=>IL.stays K _ _ _ _ s15⟩,SqL.of (t23.lst U9),by omega,by omega,fun y hy d hd=>(hwp d hd).mem_iff.mpr hy,fun l16 H24 s16 f16 e16=>?_⟩
   rw[M6.zbw hwp (by omega)] at e16
   refine⟨l15,l16,_,_,rfl,SqL.of (s16 _ _ e15),SqL.of e16,by rw[M6.yr];omega,?_⟩
   rw[decide_eq_true rfl]
   exact⟨_,rfl,wF ⟨_,F18,rfl,t23.trans s16.toN,(z22.same s15).same s16,(g22.same s15).same s16⟩⟩
  clear t18 z18 g18
  rintro σ' H19 ⟨v11,F19,rfl,t19,z19,g19⟩
  -- one step up
  refine⟨_,rfl,_,rfl,k,_,_,_,rfl,rfl,SqL.of (t19.lst K9),am,m,_,rfl,.inl (SqL.of (t19.lst rm)),_,_,rfl,rfl,_,rfl,wv (fun _=>q H19 (t9.toN.trans t19) z19) (fun h2=>?_)⟩
  rw[length_map] at h2
  have hdne:d≠[]:=by intro z;rw[z] at h2;simp at h2
  have hcw:=hdone hdne
  have hdp:d.Perm vs:=by rw[←hvs];exact(ok.cd _ _ hcw).2
  have hdl:=hdp.length_eq
  have q0:=Int.emod_nonneg sp (b:=(vs.length:Int)-1) (by omega)
  have q1:=Int.emod_lt_of_pos sp (b:=(vs.length:Int)-1) (by omega)
  refine⟨_,rfl,_,rfl,u,_,rfl,.inl (SqL.of (t19.lst U9)),?_⟩
  rw[length_map]
  refine⟨_,_,rfl,rfl,_,_,rfl,rfl,(by show(0:Int)<(vs.length:Int)-1;omega),_,_,rfl,rfl,?_⟩
  dsimp only
  generalize hkk:1+sp%((vs.length:Int)-1)=kk
  obtain⟨kk,rfl⟩:=Int.eq_ofNat_of_zero_le (show 0≤kk by omega)
  have k0:0<kk:=by omega
  have k1:kk<d.length:=by omega
  have atk:atI (d.map V.int) (kk:Int)=some (.int (d.getD kk 0)):=zP (zao k1)
  have atk1:atI (d.map V.int) ((kk:Int)-1)=some (.int (d.getD (kk-1) 0)):=by
   rw[show(kk:Int)-1=((kk-1:Nat):Int)by omega]
   exact zP (zao (by omega))
  refine⟨_,rfl,_,rfl,_,rfl,n,_,_,_,rfl,rfl,SqL.of (t19.lst N9),ats,_,rfl,_,rfl,k,_,_,_,rfl,rfl,SqL.of (t19.lst K9),am,_,rfl,m,_,_,_,rfl,rfl,SqL.of (t19.lst rm),atk,x,F19,S,_,d,kk,rfl,g19,hcw,k0,k1,fun t l H20 s20 ft fl et el=>?_⟩
  have t20:=t19.trans s20.toN
  have qt:SqT K H20 t [.int (d.getD (kk-1) 0),.ref l]:=.inl (.inl et)
  refine⟨_,rfl,_,_,rfl,.yes qt,_,rfl,wF ?_⟩
  refine⟨_,rfl,t,_,rfl,.inr qt,rfl,_,rfl,iteNS rfl ?_⟩
  refine⟨_,rfl,t,_,_,_,rfl,rfl,qt,rfl,_,true,false,rfl,rfl,rfl,_,rfl,wF ?_⟩
  refine⟨_,rfl,t,_,_,_,rfl,rfl,qt,rfl,_,rfl,_,rfl,k,_,_,_,rfl,rfl,SqL.of (t20.lst K9),am,_,rfl,_,_,rfl,rfl,m,_,_,_,rfl,rfl,SqL.of (t20.lst rm),atk1,rfl,_,rfl,iteNS rfl ?_⟩
  have rk20:All2 (IL K H20) kl S.rows:=rK9.imp fun(l:Addr) (c:List Int) (z:H9 l=some (.lst (c.map V.int)))=>(show SqL K H20 l _ from SqL.of (t20.lst z))
  refine⟨_,rfl,t,_,_,_,rfl,rfl,qt,rfl,_,rfl,_,rfl,_,rfl,k,S.rows,who,kk,rfl,⟨kl,SqL.of (t20.lst K9),rk20⟩,by omega,by omega,k0,by rw[hd];exact k1,by rw[hd];omega,fun l12 H12 s12 f12 r12=>?_⟩
  rw[hd] at r12
  have hup:(upC d kk).Perm S.couples:=by rw[hvs];exact(zis k0 k1).trans hdp
  have hcu:=Sh.cardsUp_rows ok (w:=who) hw hup (by rw[hcw];rfl)
  rw[←hcu] at r12
  have hwp:=Sh.cardsUp_perm (j:=S.panel.getD who "") ok hup
  have hwl:=Sh.cardsUp_len S (S.panel.getD who "") (upC d kk)
  rw[hvs] at hwp el
  have t12:=t20.trans s12.toN
  refine⟨_,rfl,l12,u,_,vs,rfl,r12,SqL.of (t12.lst U9),by omega,by omega,fun y hy d hd=>(hwp d hd).mem_iff.mpr hy,fun l13 H13 s13 f13 e13=>?_⟩
  rw[M6.zbw hwp (by omega)] at e13
  refine⟨l,l13,_,_,rfl,SqL.of (s13 _ _ (s12 _ _ el)),SqL.of e13,by rw[M6.yr];omega,?_⟩
  rw[decide_eq_true rfl]
  have t13:=s20.trans (s12.trans s13)
  exact q H13 ((t9.toN.trans t19).trans t13.toN) (z19.same t13)
def zhy(K:Frag):Sp:=fun vs H Q _=>∃(a:Addr)(ns:List Int),vs=[.ref a]∧SqL K H a (ns.map V.int)∧ns.length≤63∧H (zaR K "by_place")=some (.tbl #[])∧∀H',Q (.bl true) H'
theorem ok_law{f:Addr}{fd:FuncData}(F:Fun K "law" "law" zbL f fd)(T:Txt K mg)(C_law_at:Can P w K mg base 1 "_law_at" ["_law_script","_law_k"] (zdC K))(C_law_same:Can P w K mg base 2 "_law_same" ["_law_found","_law_due"] (zbj K))(C_law_lists:Can P w K mg base 3 "_law_lists" ["_law_found","_law_due"] (zcR K))(C_law_many:Can P w K mg base 1 "_law_many" ["_law_mode","_law_cell","_law_least","_law_few","_law_most"] (zdt K))(C_law_couples:Can P w K mg base 1 "_law_couples" ["_law_cell","_law_many_here"] (zbX K))(C_law_judges:Can P w K mg base 1 "_law_judges" ["_law_cell","_law_many_here"] (zcm K))(C_law_panel:Can P w K mg base 3 "_law_panel" ["_law_script","_law_start","_law_couples_here","_law_many_here","_law_style","_law_mode"] (zc0 K))(C_law_sheet:Can P w K mg base 6 "_law_sheet" ["_law_couples_here","_law_names","_law_cards"] (zcX K))(C_law_without:Can P w K mg base 1 "_law_without" ["_law_card_here","_law_couple"] (zbR K))(C_law_told:Can P w K mg base 15 "_law_told" ["_law_sheet_here","_law_names","_law_couples_here","_law_cards","_law_who","_law_spot"] (zdq K))(C_Sheet_strike:CanMX P w K mg base 2 (zL K "Sheet") "strike" ["self","couple"] (zbt K))(C_Sheet_couples:CanM P w K mg base 1 (zL K "Sheet") "couples" ["self"] (zI K))(C_Sheet_card_of:CanMX P w K mg base 2 (zL K "Sheet") "card_of" ["self","judge"] (yn K)):FnOk P w K mg base CX0 16 f fd ["_law_script"] (zhy K):=by
 refine F.ok y8 (fun vs H Q E h=>?_) (fun cdv A outer s H vs Q E hr h=>?_)
 ·obtain⟨a,ns,rfl,_⟩:=h
  rfl
 ·obtain⟨a,ns,rfl,hS,hz,hT,q⟩:=h
  refine⟨_,(zd (zz (i:=1) y8.nd rfl (Or.inl rfl) (zv yV (zh C_law_at (hM hr) rfl (za (pv 0) (za zj zb))) zj))
   (zd (zz (i:=2) y8.nd rfl (Or.inl rfl) (zh C_law_couples (hM hr) rfl (za (zh C_law_at (hM hr) rfl (za (pv 0) (za zj zb))) (za (zh C_law_many (hM hr) rfl (za (pv 1) (za (zh C_law_at (hM hr) rfl (za (pv 0) (za zj zb))) (za zj (za zj (za zj zb)))))) zb))))
   (zd (zz (i:=3) y8.nd rfl (Or.inr rfl) (zh C_law_judges (hM hr) rfl (za (zh C_law_at (hM hr) rfl (za (pv 0) (za zj zb))) (za (zh C_law_many (hM hr) rfl (za (pv 1) (za (zh C_law_at (hM hr) rfl (za (pv 0) (za zj zb))) (za zj (za zj (za zj zb)))))) zb))))
   (zd (zz (i:=4) y8.nd rfl (Or.inr rfl) (zh C_law_panel (hM hr) rfl (za (pv 0) (za zj (za (pv 2) (za (zk zg (by rfl) T.b_len PySem.boot_len (za (pv 3) zb)) (za (zv yV (zh C_law_at (hM hr) rfl (za (pv 0) (za zj zb))) zj) (za (pv 1) zb))))))))
   (zd (zbM (zD (zp (zhR hr.units0) (zN (show CompScope (zc zbL) ["_law_script","_law_mode","_law_couples_here","_law_names","_law_cards","_law_sheet_here","_law_left","_law_turns","_law_turn","_law_number","_law_into","_law_ahead","_law_behind","_law_fresh","_law_who","_law_each"] "_law_card_here" [] [] _ from⟨rfl,by decide +kernel,by decide +kernel,rfl,by decide +kernel,rfl,by decide +kernel,by decide +kernel⟩) rfl (zE (pv 4)) (fun _ _ _ _ _=>(yS (zp (wd (K:=K) rfl hr.units0) (pv 0) (zO zb) (zt _)))) (fun _ _ _ _ _=>(pv 0))) (zO zb) (zt _)) (zf (ps_asg (yb yo (by rfl) T.b_list boot_list (za (pv 2) zb)) (pg_sub (pv 4) zj set_list))) zu))
   (zd (zz (i:=5) y8.nd rfl (Or.inr rfl) (zh C_law_sheet (hM hr) rfl (za (pv 2) (za (pv 3) (za (pv 4) zb)))))
   (zd (zz (i:=6) y8.nd rfl (Or.inl rfl) (zh C_law_at (hM hr) rfl (za (pv 0) (za zj zb))))
   (zd (zz (i:=7) y8.nd rfl (Or.inl rfl) (zv zZ zj (zv yV (zh C_law_at (hM hr) rfl (za (pv 0) (za zj zb))) (zv za3 (zk zg (by rfl) T.b_len PySem.boot_len (za (pv 2) zb)) zj))))
   (zd (zbM (zD (zp zbO (zv yV (zh C_law_at (hM hr) rfl (za (pv 0) (za zj zb))) zj) zj (zt _)) (zf (zz (i:=7) y8.nd rfl (Or.inl rfl) (zv za3 (zk zg (by rfl) T.b_len PySem.boot_len (za (pv 2) zb)) zj))) zu))
   (zd (yT PassesOwn.never rfl (ym rfl T.b_range (za (pv 7) zb)) (zV (i:=8) y8.nd rfl (Or.inl rfl))
     (zd (zz (i:=9) y8.nd rfl (Or.inr rfl) (zA zy (pv 2) (zv yV (pv 6) (zk zg (by rfl) T.b_len PySem.boot_len (za (pv 2) zb))) (fun _ _=>rfl)))
   (zd (zz (i:=6) y8.nd rfl (Or.inl rfl) (zv zca (pv 6) (zk zg (by rfl) T.b_len PySem.boot_len (za (pv 2) zb))))
   (zd (yU (i:=10) (show CompScope (zc zbL) ["_law_script","_law_mode","_law_couples_here","_law_names","_law_cards","_law_sheet_here","_law_left","_law_turns","_law_turn","_law_number","_law_into","_law_ahead","_law_behind","_law_fresh","_law_who","_law_each"] "_law_name" ["_law_names","_law_cards"] [3,4] _ from⟨rfl,by decide +kernel,by decide +kernel,rfl,by decide +kernel,rfl,by decide +kernel,by decide +kernel⟩) rfl y8.nd rfl (Or.inl rfl) (zE (pv 3)) (fun _ _ _ _ _=>(yS (zp (wd (K:=K) rfl hr.units0) (zA (zdu (K:=K) rfl) (pv 2) (pe_bmK (K:=K) rfl PySem.F.plainAttrs_list PySem.F.slot_list_index PySem.F.type_list_index (zgC (K:=K) rfl) (pv 1) (za (pv 0) zb)) (fun _ _=>rfl)) (zO zb) (zt _)))) (fun _ _ _ _ _=>(pv 0)))
   (zd (yU (i:=11) (show CompScope (zc zbL) ["_law_script","_law_mode","_law_couples_here","_law_names","_law_cards","_law_sheet_here","_law_left","_law_turns","_law_turn","_law_number","_law_into","_law_ahead","_law_behind","_law_fresh","_law_who","_law_each"] "_law_name" ["_law_sheet_here"] [5] _ from⟨rfl,by decide +kernel,by decide +kernel,rfl,by decide +kernel,rfl,by decide +kernel,by decide +kernel⟩) rfl y8.nd rfl (Or.inl rfl) (zE (pv 10)) (fun _ _ _ _ _=>yw) (fun _ _ _ _ _=>(wH C_Sheet_card_of T.cl_Sheet zdi (hM hr) (pv 1) (za (pv 0) zb))))
   (zd (zY (wH C_Sheet_strike T.cl_Sheet zdi (hM hr) (pv 5) (za (pv 9) zb)))
   (zd (yU (i:=12) (show CompScope (zc zbL) ["_law_script","_law_mode","_law_couples_here","_law_names","_law_cards","_law_sheet_here","_law_left","_law_turns","_law_turn","_law_number","_law_into","_law_ahead","_law_behind","_law_fresh","_law_who","_law_each"] "_law_name" ["_law_sheet_here"] [5] _ from⟨rfl,by decide +kernel,by decide +kernel,rfl,by decide +kernel,rfl,by decide +kernel,by decide +kernel⟩) rfl y8.nd rfl (Or.inl rfl) (zE (pv 10)) (fun _ _ _ _ _=>yw) (fun _ _ _ _ _=>(wH C_Sheet_card_of T.cl_Sheet zdi (hM hr) (pv 1) (za (pv 0) zb))))
   (zd (zD (ye (ya (zh C_law_lists (hM hr) rfl (za (pv 12) (za (zN (show CompScope (zc zbL) ["_law_script","_law_mode","_law_couples_here","_law_names","_law_cards","_law_sheet_here","_law_left","_law_turns","_law_turn","_law_number","_law_into","_law_ahead","_law_behind","_law_fresh","_law_who","_law_each"] "_law_card_here" ["_law_number"] [9] _ from⟨rfl,by decide +kernel,by decide +kernel,rfl,by decide +kernel,rfl,by decide +kernel,by decide +kernel⟩) rfl (zE (pv 11)) (fun _ _ _ _ _=>yw) (fun _ _ _ _ _=>(zh C_law_without (hM hr) rfl (za (pv 0) (za (pv 1) zb))))) zb))))) (zf (zn yq)) zu)
   (zd (zz (i:=2) y8.nd rfl (Or.inl rfl) (zh C_law_without (hM hr) rfl (za (pv 2) (za (pv 9) zb))))
   (zf (zz (i:=4) y8.nd rfl (Or.inr rfl) (zN (show CompScope (zc zbL) ["_law_script","_law_mode","_law_couples_here","_law_names","_law_cards","_law_sheet_here","_law_left","_law_turns","_law_turn","_law_number","_law_into","_law_ahead","_law_behind","_law_fresh","_law_who","_law_each"] "_law_card_here" ["_law_number"] [9] _ from⟨rfl,by decide +kernel,by decide +kernel,rfl,by decide +kernel,rfl,by decide +kernel,by decide +kernel⟩) rfl (zE (pv 4)) (fun _ _ _ _ _=>yw) (fun _ _ _ _ _=>(zh C_law_without (hM hr) rfl (za (pv 0) (za (pv 1) zb))))))))))))))))
   (zd (zz (i:=13) y8.nd rfl (Or.inl rfl) (zh C_law_sheet (hM hr) rfl (za (pv 2) (za (pv 3) (za (pv 4) zb)))))
   (zd (zz (i:=14) y8.nd rfl (Or.inl rfl) (zv yV (zh C_law_at (hM hr) rfl (za (pv 0) (za zj zb))) (zk zg (by rfl) T.b_len PySem.boot_len (za (pv 3) zb))))
   (zd (yT PassesOwn.never rfl (zE (zO (za (pv 5) (za (pv 13) zb)))) (zV (i:=15) y8.nd rfl (Or.inl rfl))
     (zd (zD (ye (ya (zh C_law_same (hM hr) rfl (za (zQ C_Sheet_couples T.cl_Sheet (hM hr) (pv 15)) (za (pv 2) zb))))) (zf (zn yq)) zu)
   (zf (zD (ye (ya (zh C_law_told (hM hr) rfl (za (pv 15) (za (pv 3) (za (pv 2) (za (pv 4) (za (pv 14) (za (zh C_law_at (hM hr) rfl (za (pv 0) (za zj zb))) zb))))))))) (zf (zn yq)) zu))))
   (zf (zn yq))))))))))))))),?_⟩
  have hln:=zx
  refine⟨_,rfl,a,ns,2,rfl,hS,by decide,_,_,rfl,rfl,(by show(0:Int)<16;decide),?_⟩
  dsimp only
  generalize ns.getD (2:Int).toNat 0%16=md
  refine⟨_,rfl,a,ns,4,rfl,hS,by decide,_,rfl,_,rfl,a,ns,0,rfl,hS,by decide,_,_,_,_,_,rfl,by decide,by decide,fun many m1 m2=>?_⟩
  refine⟨_,_,rfl,by omega,by omega,fun l1 H1 s1 f1 e1=>?_⟩
  generalize hus:M1.couples _ _=us at e1
  have hul:us.length=many.toNat:=by rw[←hus,M1.zeU]
  have hun:us.Nodup:=by rw[←hus];exact M1.zgc (by omega)
  have hur:∀x∈us,1≤x∧x≤999:=fun x hx=>by rw[←hus] at hx;exact M1.zgt hx
  have hgc:M1.zcx us=true:=(M1.zeJ us).mpr ⟨by omega,hun,hur⟩
  refine⟨_,rfl,a,ns,5,rfl,s1.seq hS,by decide,_,rfl,_,rfl,a,ns,1,rfl,s1.seq hS,by decide,_,_,_,_,_,rfl,by decide,by decide,fun panel p1 p2=>?_⟩
  refine⟨_,_,rfl,by omega,by omega,fun l2 H2 ts s2 f2 e2 htl htn htg=>?_⟩
  have hgj:M2.zdK ts=true:=(M2.zeH ts).mpr ⟨by omega,htn,fun z hz=>(M2.zeB z).mp (htg z hz)⟩
  have t2:=s1.trans s2
  have hune:us≠[]:=by intro z;rw[z] at hul;simp at hul;omega
  have htne:ts≠[]:=by intro z;rw[z] at htl;simp at htl;omega
  refine⟨_,rfl,_,rfl,_,rfl,l2,_,rfl,.inl (SqL.of e2),_,rfl,a,ns,3,rfl,t2.seq hS,by decide,_,_,rfl,rfl,(by show(0:Int)<4;decide),_,rfl,a,l1,ns,us,6,_,_,md,rfl,t2.seq hS,SqL.of (s2 _ _ e1),by decide,by omega,by rw[length_map];omega,hune,by omega,fun lc H3 ls cs s3 f3 e3 r3 hcl hcd=>?_⟩
  rw[length_map] at hcl
  have hcl:cs.length=ts.length:=by omega
  have hll:=r3.length
  have u3:=s3 _ _ (s2 _ _ e1)
  refine⟨fun σ' H'=>∃(ls:List Addr)(cs:List (List Int)),σ'=[some (.ref a),some (.int md),some (.ref l1),some (.ref l2),some (.ref lc),none,none,none,none,none,none,none,none,none,none,none]∧zi H2 H'∧H' lc=some (.lst (ls.map V.ref))∧All2 (fun l c=>H' l=some (.lst (c.map V.int))) ls cs∧cs.length=ts.length∧(∀d∈cs,d=[]∨d.Perm us)∧1≤(cs.filter fun d => !decide (d=[])).length,?_,?_⟩
  ·refine⟨_,rfl,lc,rfl,⟨_,SqL.of e3⟩,?_⟩
   refine zbF (SqL.of e3) (r3.imp fun _ _ z=>SqL.of z) (by omega) (fun m d H' Q hm h=>?_) (fun m H' Q h=>⟨_,rfl,h⟩) fun ks H4 s4 r4=>?_
   ·refine⟨_,rfl,(by show 0≤sizeLine;decide),fun l6 hl6=>?_⟩
    have s6:=zi.new (o:=.lst []) hl6
    refine⟨m,l6,_,[],rfl,rfl,s6.seq hm,SqL.new,zG _,rfl,_,rfl,?_⟩
    rw[show eqL (d.map V.int) []=decide (d=[])from yM _ []]
    exact h _ s6
   intro l5 hl5
   have s5:=s4.newT (o:=.lst (ks.map V.ref)) hl5
   have e5:upd H4 l5 (.lst (ks.map V.ref)) l5=some (.lst (ks.map V.ref)):=ze
   generalize hH5:upd H4 l5 _=H5 at s5 e5 ⊢
   refine⟨(by show 0≤sizeLine;decide),fun l5' hl5'=>?_⟩
   have s5':=s5.newT (o:=.lst []) hl5'
   refine⟨l5,l5',_,rfl,rfl,SqL.of ((zi.new hl5') _ _ e5),SqL.new,_,rfl,?_⟩
   rw[length_map,r4.length]
   generalize hH5':upd H5 l5' _=H5' at s5' ⊢
   refine wv (fun hlt=>?_) (fun hge=>?_)
   ·refine⟨_,rfl,l1,_,rfl,.inl (SqL.of (s5' _ _ u3)),fun l6 hl6=>?_⟩
    have s6:=s5'.newT (o:=.lst (us.map V.int)) hl6
    have e6:upd H5' l6 (.lst (us.map V.int)) l6=some (.lst (us.map V.int)):=ze
    have c6:=s6 _ _ e3
    have r6:All2 (fun(l:Addr) (c:List Int)=>upd H5' l6 (.lst (us.map V.int)) l=some (.lst (c.map V.int))) ls cs:=r3.imp fun l c z=>s6 l _ z
    have t6:=s3.trans s6
    generalize hH6:upd H5' l6 _=H6 at e6 c6 r6 t6 ⊢
    have hlne:ls≠[]:=by intro z;rw[z] at hll;simp at hll;omega
    refine⟨_,rfl,lc,_,_,0,rfl,rfl,c6,(by unfold ixN;rw[if_pos (by decide),if_pos (by rw[length_map];omega)];rfl),?_⟩
    have hne:∀{l:Addr}{c:List Int},H6 l=some (.lst (c.map V.int))→l≠lc:=fun {l c} z=>wR z c6 (zhx hlne)
    refine⟨ls.set 0 l6,cs.set 0 us,rfl,fun b o z=>?_,?_,?_,by rw[List.length_set];exact hcl,fun d hd=>?_,?_⟩
    ·rw[zl (zr z f3)];exact t6 b o z
    ·rw[ze,map_set]
    ·refine All2.set (r6.imp fun l c z=>?_) ?_ 0
     ·rw[zl (hne z)];exact z
     ·rw[zl (hne e6)];exact e6
    ·rcases List.mem_or_eq_of_mem_set hd with hd | rfl
     ·exact hcd d hd
     ·exact .inr (List.Perm.refl _)
    ·match cs,hcl with
     | c0::r,_ =>
       show 1≤(filter (fun d => !decide (d=[])) (us::r)).length
       rw[filter_cons,if_pos (by rw[decide_eq_false hune];rfl)]
       simp
     | [],h=>simp at h;omega
   ·exact⟨ls,cs,rfl,s3.trans s5',s5' _ _ e3,r3.imp fun l c z=>s5' l _ z,hcl,hcd,by omega⟩
  rintro σ' H4 ⟨ls,cs,rfl,s4,e4,r4,hcl,hcd,hc2⟩
  clear r3 e3 u3 f3
  have hll:=r4.length
  have t4:=t2.trans s4
  refine⟨_,rfl,_,rfl,_,rfl,l1,l2,lc,us,ts,cs,rfl,SqL.of (s4 _ _ (s2 _ _ e1)),SqL.of (s4 _ _ e2),⟨ls,SqL.of e4,r4.imp fun _ _ z=>SqL.of z⟩,hgc,hgj,hcl,hcd,fun x H5 F S h5 d5 g1 g2 g3 g4 g5 g6=>?_⟩
  have c5:=d5 _ _ (s4 _ _ (s2 _ _ e1)) (fun z=>z)
  have j5:=d5 _ _ (s4 _ _ e2) (fun z=>z)
  have k5:=d5 _ _ e4 (fun z=>z)
  have r5:Rows F H5 lc ls cs:=⟨k5.1,k5.2,r4.imp fun _ _ z=>d5 _ _ z (fun z=>z)⟩
  have hA5:=(SqL.none (t4.seq hS)).deed d5
  have tb5:=d5 _ _ (t4 _ _ hT) (fun z=>z)
  have ok:=h5.ok
  have hhl:=Sh.handed_len ok
  rw[g4] at hhl
  have hh1:1≤S.handed.length:=by omega
  have hn2:2≤us.length:=by omega
  refine⟨_,rfl,a,ns,21,rfl,hA5.sq,by decide,?_⟩
  generalize ns.getD (21:Int).toNat 0=left0
  have q0:=Int.emod_nonneg (ns.getD (22:Int).toNat 0) (b:=(us.length:Int)-1) (by omega)
  have q1:=Int.emod_lt_of_pos (ns.getD (22:Int).toNat 0) (b:=(us.length:Int)-1) (by omega)
  refine⟨_,rfl,a,ns,22,rfl,hA5.sq,by decide,_,rfl,l1,_,rfl,.inl (SqL.of c5.1),?_⟩
  rw[length_map]
  refine⟨_,_,rfl,rfl,_,_,rfl,rfl,(by show(0:Int)<(us.length:Int)-1;omega),_,_,rfl,rfl,?_⟩
  dsimp only
  generalize hto:1+ns.getD (22:Int).toNat 0%((us.length:Int)-1)=turns0
  refine⟨fun σ' H'=>∃turns:Int,σ'=[some (.ref a),some (.int md),some (.ref l1),some (.ref l2),some (.ref lc),some (.ref x),some (.int left0),some (.int turns),none,none,none,none,none,none,none,none]∧H'=H5∧0≤turns∧turns≤(us.length:Int)-1,?_,?_⟩
  ·refine⟨_,rfl,a,ns,25,rfl,hA5.sq,by decide,_,_,rfl,rfl,(by show(0:Int)<3;decide),rfl,_,rfl,wv (fun _=>?_) (fun _=>⟨turns0,rfl,rfl,by omega,by omega⟩)⟩
   refine⟨_,rfl,l1,_,rfl,.inl (SqL.of c5.1),?_⟩
   rw[length_map]
   exact⟨_,_,rfl,rfl,_,rfl,rfl,by omega,by omega⟩
  rintro σ' H' ⟨turns,rfl,rfl,u0,u1⟩
  obtain⟨turns,rfl⟩:=Int.eq_ofNat_of_zero_le u0
  refine⟨_,rfl,_,rfl,by omega,by omega,?_⟩
  rw[show((turns:Nat):Int).toNat=turns by omega]
  refine zX (fun i σ H'=>∃(v8 v9 v10 v11 v12:Option V)(left:Int)(lu lk:Addr)(F':Addr→Prop)(T:Sh)(kl:List Addr),σ=[some (.ref a),some (.int md),some (.ref lu),some (.ref l2),some (.ref lk),some (.ref x),some (.int left),some (.int turns),v8,v9,v10,v11,v12,none,none,none]∧zB K H' x F' T∧(H' lu=some (.lst (T.couples.map V.int))∧¬F' lu)∧(H' l2=some (.lst (ts.map V.str))∧¬F' l2)∧Rows F' H' lk kl T.rows∧(H' (zaR K "by_place")=some (.tbl #[])∧¬F' (zaR K "by_place"))∧LQ K F' H' a (ns.map V.int)∧T.panel=ts∧T.shut=false∧1≤T.handed.length∧T.couples.length+i=us.length) ?_ ?_ ?_
  ·exact⟨none,none,none,none,none,left0,l1,lc,F,S,ls,rfl,h5,by rw[g1];exact c5,j5,by rw[g4];exact r5,tb5,hA5,g3,g6,hh1,by rw[g1];rfl⟩
  ·clear hhl hh1 ok tb5 hA5 r5 k5 j5 c5 g1 g2 g3 g4 g5 g6 d5 h5
   rintro i σ H6 hi ⟨v8,v9,v10,v11,v12,left,lu,lk,G,T,kl,rfl,h6,u6,n6,r6,tb6,a6,hpn,hsh,hh1,hcl⟩
   have ok:=h6.ok
   have c24:=ok.c24
   have hT2:2≤T.couples.length:=by omega
   have p15:=ok.p15
   have h15:T.handed.length≤15:=le_trans (length_filter_le _ _) p15
   generalize (0+(i:Int))=tn
   have e0:=Int.emod_nonneg left (b:=(T.couples.length:Int)) (by omega)
   have e1':=Int.emod_lt_of_pos left (b:=(T.couples.length:Int)) (by omega)
   refine⟨_,rfl,_,rfl,_,rfl,lu,_,rfl,.inl (SqL.of u6.1),?_⟩
   rw[length_map]
   refine⟨_,_,rfl,rfl,(by show(0:Int)<T.couples.length;omega),lu,_,_,_,rfl,rfl,SqL.of u6.1,zct e0 (by omega),?_⟩
   have hc:=zdB (ns:=T.couples) (i:=(left%(T.couples.length:Int)).toNat) (by omega)
   generalize T.couples.getD (left%(T.couples.length:Int)).toNat 0=c at hc
   refine⟨_,rfl,_,rfl,lu,_,rfl,.inl (SqL.of u6.1),?_⟩
   rw[length_map]
   refine⟨_,_,rfl,rfl,⟨by omega,by omega⟩,?_⟩
   dsimp only
   generalize left/(T.couples.length:Int)=left'
   -- whose cards are in
   have htl':ts.length≤15:=by rw[←hpn];exact p15
   have hrl:=r6.len
   have hrw:=Sh.rows_len T
   rw[hpn] at hrw
   refine⟨_,rfl,l2,rfl,⟨_,SqL.of n6.1⟩,?_⟩
   refine zi4 (ts:=ts) (p:=fun t => !decide (T.rows.getD (ts.idxOf t) []=[])) (SqL.of n6.1) (by omega) (fun t H' R ht s' h=>?_) (fun t H' R h=>⟨_,rfl,h⟩) fun H7 s7=>?_
   ·have hit:=idxOf_lt_length_of_mem ht
    obtain⟨m,em,rm⟩:=(r6.same s').2.2.at (i:=ts.idxOf t) (by omega) []
    have n':=s' _ _ n6.1
    refine⟨_,rfl,_,rfl,.inl ⟨rfl,_,SqL.of n'⟩,_,rfl,l2,_,_,rfl,rfl,SqL.of n',rfl,zgL _,(by rw[ziz,length_map];exact hit),?_⟩
    rw[ziz]
    refine⟨lk,_,_,_,rfl,rfl,SqL.of (r6.same s').1,zP (wt em),(by show 0≤sizeLine;decide),fun l13 hl13=>?_⟩
    have s13:=zi.new (o:=.lst []) hl13
    refine⟨m,l13,_,[],rfl,rfl,SqL.of (s13 _ _ rm.1),SqL.new,zG _,rfl,_,rfl,?_⟩
    rw[show eqL ((T.rows.getD (ts.idxOf t) []).map V.int) []=decide (T.rows.getD (ts.idxOf t) []=[])from yM _ []]
    exact h _ s13
   have hhd:=Sh.handed_idx ok
   rw[hpn] at hhd
   rw[hhd]
   intro li hli
   have s8:=s7.newT (o:=.lst (T.handed.map V.str)) hli
   have e8:upd H7 li (.lst (T.handed.map V.str)) li=some (.lst (T.handed.map V.str)):=ze
   have n8:¬G li:=(h6.same s7).apart hli
   generalize hH8:upd H7 li _=H8 at s8 e8 ⊢
   have hcardt:∀{j:Str},j∈T.handed→j∈T.panel∧∃d,T.card j=some d:=fun {j} hj=>by
    obtain⟨h1,h2⟩:=List.mem_filter.mp hj
    cases e:T.card j with
    | none=>rw[e] at h2;cases h2
    | some d=>exact⟨h1,d,rfl⟩
   -- the cards zR
   refine⟨_,rfl,li,rfl,⟨_,SqL.of e8⟩,?_⟩
   refine zfq (F:=G) (ts:=T.handed) (f:=fun j=>(T.card j).getD []) (SqL.of e8) (by omega) (fun j H' R hj s' h=>?_) fun ka H9 s9 ra=>?_
   ·obtain⟨hjp,d,hd⟩:=hcardt hj
    have h':=(h6.same s8).same s'
    obtain⟨dx,z1,z2,z3,dd,hipx⟩:=h'.ins
    refine⟨_,rfl,x,dx,_,rfl,hipx,rfl,_,rfl,x,G,T,j,rfl,h',fun hn=>absurd hjp hn,(fun _ z=>by rw[hd] at z;cases z),fun d' e' l H2 s2 f2 e2=>?_⟩
    rw[hd] at e'
    cases e'
    exact h l H2 s2 (by rw[hd];exact e2) (h'.apart f2)
   intro la hla
   have ra:All2 (fun l d=>H9 l=some (.lst (d.map V.int))∧¬G l) ka T.cardsIn:=ra
   have s10:=s9.newT (o:=.lst (ka.map V.ref)) hla
   have R10:Rows G (upd H9 la (.lst (ka.map V.ref))) la ka T.cardsIn:=⟨ze,((h6.same s8).same s9).apart hla,ra.imp fun _ _ z=>⟨(zi.new hla) _ _ z.1,z.2⟩⟩
   generalize hH10:upd H9 la _=H10 at s10 R10 ⊢
   have t10:=s8.trans s10
   have h10:=h6.same t10
   obtain⟨dx,z1,z2,z3,dd,hipx⟩:=h10.ins
   have hrs:T.refuseS c=none:=by
    unfold Sh.refuseS
    rw[hsh,if_neg (by decide),if_pos hc,if_neg (by omega)]
   refine⟨_,rfl,x,dx,_,rfl,hipx,rfl,_,rfl,x,G,T,c,rfl,h10,fun z hz=>(by rw[hrs] at hz;cases hz),fun _ H11 G11 h11 d11=>?_⟩
   have u11:=d11 _ _ (t10 _ _ u6.1) u6.2
   have n11:=d11 _ _ (t10 _ _ n6.1) n6.2
   have r11:=(r6.same t10).deed d11
   have tb11:=d11 _ _ (t10 _ _ tb6.1) tb6.2
   have a11:=(a6.same t10).deed d11
   have li11:=d11 _ _ (s10 _ _ e8) n8
   have la11:=R10.deed d11
   -- the cards behind
   refine⟨_,rfl,li,rfl,⟨_,SqL.of li11.1⟩,?_⟩
   refine zfq (F:=G11) (ts:=T.handed) (f:=fun j=>wo c ((T.card j).getD [])) (SqL.of li11.1) (by omega) (fun j H' R hj s' h=>?_) fun kb H12 s12 rb=>?_
   ·obtain⟨hjp,d,hd⟩:=hcardt hj
    have h':=h11.same s'
    obtain⟨dx,z1,z2,z3,dd,hipx⟩:=h'.ins
    have hd':(T.strike c).card j=some (wo c d):=by show(T.card j).map (wo c)=_;rw[hd];rfl
    refine⟨_,rfl,x,dx,_,rfl,hipx,rfl,_,rfl,x,G11,T.strike c,j,rfl,h',fun hn=>absurd hjp hn,(fun _ z=>by rw[hd'] at z;cases z),fun d' e' l H2 s2 f2 e2=>?_⟩
    rw[hd'] at e'
    cases e'
    exact h l H2 s2 (by rw[hd];exact e2) (h'.apart f2)
   intro lb hlb
   have rb:All2 (fun l d=>H12 l=some (.lst (d.map V.int))∧¬G11 l) kb (T.cardsIn.map (wo c)):=by unfold Sh.cardsIn;rw[map_map];exact rb
   have s13:=s12.newT (o:=.lst (kb.map V.ref)) hlb
   have R13:Rows G11 (upd H12 lb (.lst (kb.map V.ref))) lb kb (T.cardsIn.map (wo c)):=⟨ze,(h11.same s12).apart hlb,rb.imp fun _ _ z=>⟨(zi.new hlb) _ _ z.1,z.2⟩⟩
   generalize hH13:upd H12 lb _=H13 at s13 R13 ⊢
   have la13:=la11.same s13
   have hil:=Sh.cardsIn_len T
   have hip:=Sh.cardsIn_perm ok
   have hcl24:∀d∈T.cardsIn,d.length≤24:=fun d hd=>by have:=(hip d hd).length_eq;omega
   refine⟨_,rfl,_,rfl,la,rfl,⟨_,SqL.of la13.1⟩,?_⟩
   refine zfU (F:=G11) (f:=wo c) (SqL.of la13.1) (la13.2.2.imp fun _ _ z=>z.1) (by omega) (fun m d H' R hd hm s' h=>?_) fun kd H14 s14 rd=>?_
   ·exact⟨_,rfl,_,rfl,m,d,c,rfl,SqL.of hm,by have:=hcl24 d hd;omega,fun l H2 s2 f2 e2=>h l H2 s2 e2 (fun z=>((h11.same s13).same s').fh l z f2)⟩
   intro ld hld
   have s15:=s14.newT (o:=.lst (kd.map V.ref)) hld
   have t15:=s13.trans s15
   refine⟨lb,ld,T.cardsIn.map (wo c),rfl,⟨kb,SqL.of (s15 _ _ R13.1),R13.2.2.imp fun(l:Addr) (d:List Int) (z:H13 l=some (.lst (d.map V.int))∧¬G11 l)=>(show SqL K _ l _ from SqL.of (s15 _ _ z.1))⟩,⟨kd,SqL.new,rd.imp fun(l:Addr) (d:List Int) (z:H14 l=some (.lst (d.map V.int))∧¬G11 l)=>(show SqL K _ l _ from SqL.of ((zi.new hld) _ _ z.1))⟩,by rw[length_map];omega,fun d hd=>?_,?_⟩
   ·obtain⟨e,he,rfl⟩:=List.mem_map.mp hd
    have:=hcl24 e he
    have:=length_filter_le (fun o => !decide (o=c)) e
    unfold wo
    omega
   refine⟨_,rfl,wF ?_⟩
   generalize hH15:upd H14 ld _=H15 at s15 t15 ⊢
   have h15s:=h11.same t15
   refine⟨_,rfl,_,rfl,lu,T.couples,c,rfl,SqL.of (t15 _ _ u11.1),by omega,fun lv H16 s16 f16 e16=>?_⟩
   have nv:¬G11 lv:=h15s.apart f16
   have t16:=t15.trans s16
   have r16:=r11.same t16
   have hrr:T.rows.length≤15:=by omega
   refine⟨_,rfl,lk,rfl,⟨_,SqL.of r16.1⟩,?_⟩
   refine zfU (F:=G11) (f:=wo c) (SqL.of r16.1) (r16.2.2.imp fun _ _ z=>z.1) (by omega) (fun m d H' R hd hm s' h=>?_) fun kn H17 s17 rn=>?_
   ·exact⟨_,rfl,_,rfl,m,d,c,rfl,SqL.of hm,by have:=Sh.rows_le ok hd;omega,fun l H2 s2 f2 e2=>h l H2 s2 e2 (fun z=>((h11.same t16).same s').fh l z f2)⟩
   intro lk' hlk'
   have s18:=s17.newT (o:=.lst (kn.map V.ref)) hlk'
   have t18:=t16.trans s18
   have nk:¬G11 lk':=((h11.same t16).same s17).apart hlk'
   refine⟨_,_,_,_,_,left',lv,lk',G11,T.strike c,kn,rfl,h11.same t18,⟨(s18 _ _ e16),nv⟩,⟨t18 _ _ n11.1,n11.2⟩,⟨ze,nk,?_⟩,⟨t18 _ _ tb11.1,tb11.2⟩,a11.same t18,hpn,hsh,by rw[Sh.handed_strike];exact hh1,?_⟩
   ·rw[Sh.rows_strike];exact rn.imp fun _ _ z=>⟨(zi.new hlk') _ _ z.1,z.2⟩
   ·show(wo c T.couples).length+(i+1)=us.length
    have:=Sh.wo_len ok.nd hc
    omega
  clear hhl hh1 ok tb5 hA5 r5 k5 j5 c5 g1 g2 g3 g4 g5 g6 d5 h5
  rintro σ H6 ⟨v8,v9,v10,v11,v12,left,lu,lk,G,T,kl,rfl,h6,u6,n6,r6,tb6,a6,hpn,hsh,hh1,hcl⟩
  have ok:=h6.ok
  have c24:=ok.c24
  have hrw:=Sh.rows_len T
  rw[hpn] at hrw
  have hgc':M1.zcx T.couples=true:=(M1.zeJ _).mpr ⟨⟨ok.c1,by omega⟩,ok.nd,ok.rng⟩
  have hcd':∀d∈T.rows,d=[]∨d.Perm T.couples:=fun d hd=>by
   obtain⟨j,_,rfl⟩:=List.mem_map.mp hd
   cases e:T.card j with
   | none=>exact .inl rfl
   | some c=>exact .inr (ok.cd j c e).2
  refine⟨_,rfl,_,rfl,_,rfl,lu,l2,lk,T.couples,ts,T.rows,rfl,SqL.of u6.1,SqL.of n6.1,r6.refs K,hgc',hgj,hrw,hcd',fun y H7 F7 S7 h7 d7 g1 g2 g3 g4 g5 g6=>?_⟩
  have s7:zi H6 H7:=fun b o e=>(d7 b o e (fun z=>z)).1
  have ok7:=h7.ok
  have hh7:1≤S7.handed.length:=by
   have e1:=Sh.handed_len ok7
   have e2:=Sh.handed_len ok
   rw[g4] at e1
   omega
  have p15:=ok.p15
  rw[hpn] at p15
  have q2:=Int.emod_nonneg (ns.getD (23:Int).toNat 0) (b:=(ts.length:Int)) (by omega)
  have q3:=Int.emod_lt_of_pos (ns.getD (23:Int).toNat 0) (b:=(ts.length:Int)) (by omega)
  have a7:=s7.seq a6.sq
  refine⟨_,rfl,a,ns,23,rfl,a7,by decide,_,rfl,l2,_,rfl,.inl (SqL.of (s7 _ _ n6.1)),?_⟩
  rw[length_map]
  refine⟨_,_,rfl,rfl,(by show(0:Int)<ts.length;omega),?_⟩
  dsimp only
  generalize ns.getD (23:Int).toNat 0%(ts.length:Int)=who at q2 q3 ⊢
  obtain⟨who,rfl⟩:=Int.eq_ofNat_of_zero_le q2
  refine⟨_,rfl,_,rfl,(by show 2≤sizeLine;decide),fun l8 hl8=>?_⟩
  have s8:=zi.new (o:=.lst [.ref x,.ref y]) hl8
  have e8:upd H7 l8 (.lst [.ref x,.ref y]) l8=some (.lst [.ref x,.ref y]):=ze
  have t8:=s7.trans s8
  have h78:=h7.same s8
  generalize hH8:upd H7 l8 _=H8 at s8 e8 t8 h78 ⊢
  have h68:=h6.same t8
  have U8:=t8 _ _ u6.1
  have N8:=t8 _ _ n6.1
  have K8:=t8 _ _ r6.1
  have r8:=r6.2.2.imp fun(l:Addr) (d:List Int) (z:H6 l=some (.lst (d.map V.int))∧¬G l)=>t8 _ _ z.1
  have a8:=t8.seq a6.sq
  have L8:=zaP.new (q:=zcZ) (t8 _ _ tb6.1)
  refine⟨l8,rfl,⟨_,SqL.of e8⟩,?_⟩
  refine ziH (xs:=[.ref x,.ref y]) (fun i σ H'=>∃v15:Option V,σ=[some (.ref a),some (.int md),some (.ref lu),some (.ref l2),some (.ref lk),some (.ref x),some (.int left),some (.int turns),v8,v9,v10,v11,v12,some (.ref y),some (.int who),v15]∧yy H8 H'∧zaP (zaR K "by_place") zcZ H') ⟨_,rfl,(zi.refl _).toN,L8⟩ ?_ ?_ ?_
  ·rintro i σ H9 hi ⟨v15,rfl,s9,_⟩
   exact SqL.of (s9.lst e8)
  ·rintro i ev σ H9 hev ⟨v15,rfl,s9,L9⟩
   have hev:=mem_of_getElem? hev
   obtain⟨e,Fe,Se,rfl,he,ec,ep,er,eh⟩:∃(e:Addr)(Fe:Addr→Prop)(Se:Sh),ev=.ref e∧zB K H9 e Fe Se∧Se.couples=T.couples∧Se.panel=ts∧Se.rows=T.rows∧1≤Se.handed.length:=by
    simp only[mem_cons,not_mem_nil,or_false] at hev
    rcases hev with h | h
    ·obtain⟨F1,_,hh⟩:=h68.sameN s9
     exact⟨x,F1,T,h,hh,rfl,hpn,rfl,hh1⟩
    ·obtain⟨F1,_,hh⟩:=h78.sameN s9
     exact⟨y,F1,S7,h,hh,g1,g3,g4,hh7⟩
   obtain⟨dx,z1,z2,z3,dd,hipx⟩:=he.ins
   refine⟨_,rfl,e,dx,_,rfl,hipx,rfl,e,Fe,Se,rfl,he,fun l10 H10 s10 f10 e10=>?_⟩
   rw[ec] at e10
   have t10:=s9.trans s10.toN
   refine⟨_,rfl,l10,lu,_,_,rfl,SqL.of e10,SqL.of (t10.lst U8),by omega,?_⟩
   rw[decide_eq_true rfl]
   refine⟨_,rfl,wF ?_⟩
   refine⟨_,rfl,_,rfl,_,rfl,_,rfl,_,rfl,_,rfl,a,ns,24,rfl,t10.seq a8,by decide,e,l2,lu,lk,Fe,Se,kl,who,_,rfl,he.same s10,by rw[ep];exact t10.lst N8,by rw[ec];exact t10.lst U8,t10.lst K8,by rw[er];exact r8.imp fun(l:Addr) (d:List Int) (z:H8 l=some (.lst (d.map V.int)))=>t10.lst z,by rw[ep];omega,eh,L9.same s10,fun H11 s11 L11=>⟨_,rfl,wF ⟨_,rfl,t10.trans s11,L11⟩⟩⟩
  ·rintro σ H9 ⟨v15,rfl,_⟩
   exact q _
theorem on0{α:Type}{P:List α→Prop}(p:P []):∀us:List α,us.length=0→P us:=by
 intro us e
 cases us with
 | nil=>exact p
 | cons _ _=>cases e
theorem onS{α:Type}{n:Nat}{P:List α→Prop}(p:∀(a:α)(us:List α),us.length=n→P (a::us)):∀us:List α,us.length=n+1→P us:=by
 intro us e
 cases us with
 | nil=>cases e
 | cons a r=>exact p a r (Nat.succ.inj e)
theorem all_mk{l:PySem.W.OpenLaw}{w:World}{K:Frag}{h:Heap}{mg:Str→Option Value}{fa f0 f1 f2 f3 f4 f5 f6 f7 f8 f9 f10 f11 f12 f13 f14 f15 f16 f17 f18 f19 f20 f21 f22 f23 f24 f25 f26 f27 f28 f29 f30 f31 f32 f33 f34 f35 f36 f37 f38 f39 f40 f41 f42 f43 f44 f45 f46 f47 f48 f49 f50 f51 f52 f53 f54 f55 f56 f57 f58 f59 f60 f61 f62 f63 f64 f65 f66 f67 f68 f69 f70 f71 f72 f73 f74 f75 f76 oC_Sheet:Addr}{oc0 kV0 dc0 pm0 cd0 ct0 oc1 kV1 dc1 pm1 cd1 ct1 oc2 kV2 dc2 pm2 cd2 ct2 oc3 kV3 dc3 pm3 cd3 ct3 oc4 kV4 dc4 pm4 cd4 ct4 oc5 kV5 dc5 pm5 cd5 ct5 oc6 kV6 dc6 pm6 cd6 ct6 oc7 kV7 dc7 pm7 cd7 ct7 oc8 kV8 dc8 pm8 cd8 ct8 oc9 kV9 dc9 pm9 cd9 ct9 oc10 kV10 dc10 pm10 cd10 ct10 oc11 kV11 dc11 pm11 cd11 ct11 oc12 kV12 dc12 pm12 cd12 ct12 oc13 kV13 dc13 pm13 cd13 ct13 oc14 kV14 dc14 pm14 cd14 ct14 oc15 kV15 dc15 pm15 cd15 ct15 oc16 kV16 dc16 pm16 cd16 ct16 oc17 kV17 dc17 pm17 cd17 ct17 oc18 kV18 dc18 pm18 cd18 ct18 oc19 kV19 dc19 pm19 cd19 ct19 oc20 kV20 dc20 pm20 cd20 ct20 oc21 kV21 dc21 pm21 cd21 ct21 oc22 kV22 dc22 pm22 cd22 ct22 oc23 kV23 dc23 pm23 cd23 ct23 oc24 kV24 dc24 pm24 cd24 ct24 oc25 kV25 dc25 pm25 cd25 ct25 oc26 kV26 dc26 pm26 cd26 ct26 oc27 kV27 dc27 pm27 cd27 ct27 oc28 kV28 dc28 pm28 cd28 ct28 oc29 kV29 dc29 pm29 cd29 ct29 oc30 kV30 dc30 pm30 cd30 ct30 oc31 kV31 dc31 pm31 cd31 ct31 oc32 kV32 dc32 pm32 cd32 ct32 oc33 kV33 dc33 pm33 cd33 ct33 oc34 kV34 dc34 pm34 cd34 ct34 oc35 kV35 dc35 pm35 cd35 ct35 oc36 kV36 dc36 pm36 cd36 ct36 oc37 kV37 dc37 pm37 cd37 ct37 oc38 kV38 dc38 pm38 cd38 ct38 oc39 kV39 dc39 pm39 cd39 ct39 oc40 kV40 dc40 pm40 cd40 ct40 oc41 kV41 dc41 pm41 cd41 ct41 oc42 kV42 dc42 pm42 cd42 ct42 oc43 kV43 dc43 pm43 cd43 ct43 oc44 kV44 dc44 pm44 cd44 ct44 oc45 kV45 dc45 pm45 cd45 ct45 oc46 kV46 dc46 pm46 cd46 ct46 oc47 kV47 dc47 pm47 cd47 ct47 oc48 kV48 dc48 pm48 cd48 ct48 oc49 kV49 dc49 pm49 cd49 ct49 oc50 kV50 dc50 pm50 cd50 ct50 oc51 kV51 dc51 pm51 cd51 ct51 oc52 kV52 dc52 pm52 cd52 ct52 oc53 kV53 dc53 pm53 cd53 ct53 oc54 kV54 dc54 pm54 cd54 ct54 oc55 kV55 dc55 pm55 cd55 ct55 oc56 kV56 dc56 pm56 cd56 ct56 oc57 kV57 dc57 pm57 cd57 ct57 oc58 kV58 dc58 pm58 cd58 ct58 oc59 kV59 dc59 pm59 cd59 ct59 oc60 kV60 dc60 pm60 cd60 ct60 oc61 kV61 dc61 pm61 cd61 ct61 oc62 kV62 dc62 pm62 cd62 ct62 oc63 kV63 dc63 pm63 cd63 ct63 oc64 kV64 dc64 pm64 cd64 ct64 oc65 kV65 dc65 pm65 cd65 ct65 oc66 kV66 dc66 pm66 cd66 ct66 oc67 kV67 dc67 pm67 cd67 ct67 oc68 kV68 dc68 pm68 cd68 ct68 oc69 kV69 dc69 pm69 cd69 ct69 oc70 kV70 dc70 pm70 cd70 ct70 oc71 kV71 dc71 pm71 cd71 ct71 oc72 kV72 dc72 pm72 cd72 ct72 oc73 kV73 dc73 pm73 cd73 ct73 oc74 kV74 dc74 pm74 cd74 ct74 oc75 kV75 dc75 pm75 cd75 ct75 oc76 kV76 dc76 pm76 cd76 ct76:Value}{od0 an0 od1 an1 od2 an2 od3 an3 od4 an4 od5 an5 od6 an6 od7 an7 od8 an8 od9 an9 od10 an10 od11 an11 od12 an12 od13 an13 od14 an14 od15 an15 od16 an16 od17 an17 od18 an18 od19 an19 od20 an20 od21 an21 od22 an22 od23 an23 od24 an24 od25 an25 od26 an26 od27 an27 od28 an28 od29 an29 od30 an30 od31 an31 od32 an32 od33 an33 od34 an34 od35 an35 od36 an36 od37 an37 od38 an38 od39 an39 od40 an40 od41 an41 od42 an42 od43 an43 od44 an44 od45 an45 od46 an46 od47 an47 od48 an48 od49 an49 od50 an50 od51 an51 od52 an52 od53 an53 od54 an54 od55 an55 od56 an56 od57 an57 od58 an58 od59 an59 od60 an60 od61 an61 od62 an62 od63 an63 od64 an64 od65 an65 od66 an66 od67 an67 od68 an68 od69 an69 od70 an70 od71 an71 od72 an72 od73 an73 od74 an74 od75 an75 od76 an76:Option Addr}{sl0 sl1 sl2 sl3 sl4 sl5 sl6 sl7 sl8 sl9 sl10 sl11 sl12 sl13 sl14 sl15 sl16 sl17 sl18 sl19 sl20 sl21 sl22 sl23 sl24 sl25 sl26 sl27 sl28 sl29 sl30 sl31 sl32 sl33 sl34 sl35 sl36 sl37 sl38 sl39 sl40 sl41 sl42 sl43 sl44 sl45 sl46 sl47 sl48 sl49 sl50 sl51 sl52 sl53 sl54 sl55 sl56 sl57 sl58 sl59 sl60 sl61 sl62 sl63 sl64 sl65 sl66 sl67 sl68 sl69 sl70 sl71 sl72 sl73 sl74 sl75 sl76:Array (Option Value)}(X:K.In h)(G:h.Ns mainGlobals mg)(hfa:mg "law"=some (.ref fa))
 (oa_Sheet:nsIn K mainGlobals "Sheet"=some (some (.ref oC_Sheet)))
 (a0:findIn K (.ref oC_Sheet) "refuse_if_sealed"=some (some (.ref f0))) (i0:isFn K (.ref f0)=true) (l0:K.lookup f0=some ⟨oc0,od0,.func (fnOf "refuse_if_sealed" "Sheet.refuse_if_sealed" (zq zM) (zo zM) (zc zM) .none kV0 dc0 pm0 an0 cd0 ct0),sl0⟩) (c0:codeIn K cd0 "Sheet.refuse_if_sealed"=true) (k0:keepIn K (.ref f0)=true)
 (a1:findIn K (.ref oC_Sheet) "refuse_unknown_judge"=some (some (.ref f1))) (i1:isFn K (.ref f1)=true) (l1:K.lookup f1=some ⟨oc1,od1,.func (fnOf "refuse_unknown_judge" "Sheet.refuse_unknown_judge" (zq zJ) (zo zJ) (zc zJ) .none kV1 dc1 pm1 an1 cd1 ct1),sl1⟩) (c1:codeIn K cd1 "Sheet.refuse_unknown_judge"=true) (k1:keepIn K (.ref f1)=true)
 (a2:findIn K (.ref oC_Sheet) "couples"=some (some (.ref f2))) (i2:isFn K (.ref f2)=true) (l2:K.lookup f2=some ⟨oc2,od2,.func (fnOf "couples" "Sheet.couples" (zq yI) (zo yI) (zc yI) .none kV2 dc2 pm2 an2 cd2 ct2),sl2⟩) (c2:codeIn K cd2 "Sheet.couples"=true) (k2:keepIn K (.ref f2)=true)
 (a3:findIn K (.ref oC_Sheet) "handed"=some (some (.ref f3))) (i3:isFn K (.ref f3)=true) (l3:K.lookup f3=some ⟨oc3,od3,.func (fnOf "handed" "Sheet.handed" (zq yE) (zo yE) (zc yE) .none kV3 dc3 pm3 an3 cd3 ct3),sl3⟩) (c3:codeIn K cd3 "Sheet.handed"=true) (k3:keepIn K (.ref f3)=true)
 (a4:nsIn K mainGlobals "whole_card"=some (some (.ref f4))) (l4:K.lookup f4=some ⟨oc4,od4,.func (fnOf "whole_card" "whole_card" (zq wW) (zo wW) (zc wW) .none kV4 dc4 pm4 an4 cd4 ct4),sl4⟩) (c4:codeIn K cd4 "whole_card"=true) (k4:keepIn K (.ref f4)=true)
 (a5:nsIn K mainGlobals "mark_on"=some (some (.ref f5))) (l5:K.lookup f5=some ⟨oc5,od5,.func (fnOf "mark_on" "mark_on" (zq zbJ) (zo zbJ) (zc zbJ) .none kV5 dc5 pm5 an5 cd5 ct5),sl5⟩) (c5:codeIn K cd5 "mark_on"=true) (k5:keepIn K (.ref f5)=true)
 (a6:nsIn K mainGlobals "without_couple"=some (some (.ref f6))) (l6:K.lookup f6=some ⟨oc6,od6,.func (fnOf "without_couple" "without_couple" (zq yl) (zo yl) (zc yl) .none kV6 dc6 pm6 an6 cd6 ct6),sl6⟩) (c6:codeIn K cd6 "without_couple"=true) (k6:keepIn K (.ref f6)=true)
 (a7:nsIn K mainGlobals "one_up"=some (some (.ref f7))) (l7:K.lookup f7=some ⟨oc7,od7,.func (fnOf "one_up" "one_up" (zq zcu) (zo zcu) (zc zcu) .none kV7 dc7 pm7 an7 cd7 ct7),sl7⟩) (c7:codeIn K cd7 "one_up"=true) (k7:keepIn K (.ref f7)=true)
 (a8:nsIn K mainGlobals "good_number"=some (some (.ref f8))) (l8:K.lookup f8=some ⟨oc8,od8,.func (fnOf "good_number" "good_number" (zq wC) (zo wC) (zc wC) .none kV8 dc8 pm8 an8 cd8 ct8),sl8⟩) (c8:codeIn K cd8 "good_number"=true) (k8:keepIn K (.ref f8)=true)
 (a9:nsIn K mainGlobals "small_letter"=some (some (.ref f9))) (l9:K.lookup f9=some ⟨oc9,od9,.func (fnOf "small_letter" "small_letter" (zq y7) (zo y7) (zc y7) .none kV9 dc9 pm9 an9 cd9 ct9),sl9⟩) (c9:codeIn K cd9 "small_letter"=true) (k9:keepIn K (.ref f9)=true)
 (a10:nsIn K mainGlobals "good_length"=some (some (.ref f10))) (l10:K.lookup f10=some ⟨oc10,od10,.func (fnOf "good_length" "good_length" (zq wz) (zo wz) (zc wz) .none kV10 dc10 pm10 an10 cd10 ct10),sl10⟩) (c10:codeIn K cd10 "good_length"=true) (k10:keepIn K (.ref f10)=true)
 (a11:nsIn K mainGlobals "all_unlike"=some (some (.ref f11))) (l11:K.lookup f11=some ⟨oc11,od11,.func (fnOf "all_unlike" "all_unlike" (zq zab) (zo zab) (zc zab) .none kV11 dc11 pm11 an11 cd11 ct11),sl11⟩) (c11:codeIn K cd11 "all_unlike"=true) (k11:keepIn K (.ref f11)=true)
 (a12:nsIn K mainGlobals "majority_of"=some (some (.ref f12))) (l12:K.lookup f12=some ⟨oc12,od12,.func (fnOf "majority_of" "majority_of" (zq wy) (zo wy) (zc wy) .none kV12 dc12 pm12 an12 cd12 ct12),sl12⟩) (c12:codeIn K cd12 "majority_of"=true) (k12:keepIn K (.ref f12)=true)
 (a13:nsIn K mainGlobals "granting"=some (some (.ref f13))) (l13:K.lookup f13=some ⟨oc13,od13,.func (fnOf "granting" "granting" (zq zaq) (zo zaq) (zc zaq) .none kV13 dc13 pm13 an13 cd13 ct13),sl13⟩) (c13:codeIn K cd13 "granting"=true) (k13:keepIn K (.ref f13)=true)
 (a14:nsIn K mainGlobals "_law_whole"=some (some (.ref f14))) (l14:K.lookup f14=some ⟨oc14,od14,.func (fnOf "_law_whole" "_law_whole" (zq zaE) (zo zaE) (zc zaE) .none kV14 dc14 pm14 an14 cd14 ct14),sl14⟩) (c14:codeIn K cd14 "_law_whole"=true) (k14:keepIn K (.ref f14)=true)
 (a15:nsIn K mainGlobals "_law_at"=some (some (.ref f15))) (l15:K.lookup f15=some ⟨oc15,od15,.func (fnOf "_law_at" "_law_at" (zq zcq) (zo zcq) (zc zcq) .none kV15 dc15 pm15 an15 cd15 ct15),sl15⟩) (c15:codeIn K cd15 "_law_at"=true) (k15:keepIn K (.ref f15)=true)
 (a16:nsIn K mainGlobals "_law_texts"=some (some (.ref f16))) (l16:K.lookup f16=some ⟨oc16,od16,.func (fnOf "_law_texts" "_law_texts" (zq zax) (zo zax) (zc zax) .none kV16 dc16 pm16 an16 cd16 ct16),sl16⟩) (c16:codeIn K cd16 "_law_texts"=true) (k16:keepIn K (.ref f16)=true)
 (a17:nsIn K mainGlobals "_law_mix"=some (some (.ref f17))) (l17:K.lookup f17=some ⟨oc17,od17,.func (fnOf "_law_mix" "_law_mix" (zq zbH) (zo zbH) (zc zbH) .none kV17 dc17 pm17 an17 cd17 ct17),sl17⟩) (c17:codeIn K cd17 "_law_mix"=true) (k17:keepIn K (.ref f17)=true)
 (a18:nsIn K mainGlobals "_law_many"=some (some (.ref f18))) (l18:K.lookup f18=some ⟨oc18,od18,.func (fnOf "_law_many" "_law_many" (zq zaT) (zo zaT) (zc zaT) .none kV18 dc18 pm18 an18 cd18 ct18),sl18⟩) (c18:codeIn K cd18 "_law_many"=true) (k18:keepIn K (.ref f18)=true)
 (a19:nsIn K mainGlobals "_law_couples"=some (some (.ref f19))) (l19:K.lookup f19=some ⟨oc19,od19,.func (fnOf "_law_couples" "_law_couples" (zq yP) (zo yP) (zc yP) .none kV19 dc19 pm19 an19 cd19 ct19),sl19⟩) (c19:codeIn K cd19 "_law_couples"=true) (k19:keepIn K (.ref f19)=true)
 (a20:nsIn K mainGlobals "_law_judges"=some (some (.ref f20))) (l20:K.lookup f20=some ⟨oc20,od20,.func (fnOf "_law_judges" "_law_judges" (zq wp) (zo wp) (zc wp) .none kV20 dc20 pm20 an20 cd20 ct20),sl20⟩) (c20:codeIn K cd20 "_law_judges"=true) (k20:keepIn K (.ref f20)=true)
 (a21:nsIn K mainGlobals "_law_marks"=some (some (.ref f21))) (l21:K.lookup f21=some ⟨oc21,od21,.func (fnOf "_law_marks" "_law_marks" (zq wS) (zo wS) (zc wS) .none kV21 dc21 pm21 an21 cd21 ct21),sl21⟩) (c21:codeIn K cd21 "_law_marks"=true) (k21:keepIn K (.ref f21)=true)
 (a22:nsIn K mainGlobals "_law_key"=some (some (.ref f22))) (l22:K.lookup f22=some ⟨oc22,od22,.func (fnOf "_law_key" "_law_key" (zq zaX) (zo zaX) (zc zaX) .none kV22 dc22 pm22 an22 cd22 ct22),sl22⟩) (c22:codeIn K cd22 "_law_key"=true) (k22:keepIn K (.ref f22)=true)
 (a23:nsIn K mainGlobals "_law_rows"=some (some (.ref f23))) (l23:K.lookup f23=some ⟨oc23,od23,.func (fnOf "_law_rows" "_law_rows" (zq za9) (zo za9) (zc za9) .none kV23 dc23 pm23 an23 cd23 ct23),sl23⟩) (c23:codeIn K cd23 "_law_rows"=true) (k23:keepIn K (.ref f23)=true)
 (a24:nsIn K mainGlobals "_law_part"=some (some (.ref f24))) (l24:K.lookup f24=some ⟨oc24,od24,.func (fnOf "_law_part" "_law_part" (zq wP) (zo wP) (zc wP) .none kV24 dc24 pm24 an24 cd24 ct24),sl24⟩) (c24:codeIn K cd24 "_law_part"=true) (k24:keepIn K (.ref f24)=true)
 (a25:nsIn K mainGlobals "_law_without"=some (some (.ref f25))) (l25:K.lookup f25=some ⟨oc25,od25,.func (fnOf "_law_without" "_law_without" (zq yX) (zo yX) (zc yX) .none kV25 dc25 pm25 an25 cd25 ct25),sl25⟩) (c25:codeIn K cd25 "_law_without"=true) (k25:keepIn K (.ref f25)=true)
 (a26:nsIn K mainGlobals "_law_words"=some (some (.ref f26))) (l26:K.lookup f26=some ⟨oc26,od26,.func (fnOf "_law_words" "_law_words" (zq wI) (zo wI) (zc wI) .none kV26 dc26 pm26 an26 cd26 ct26),sl26⟩) (c26:codeIn K cd26 "_law_words"=true) (k26:keepIn K (.ref f26)=true)
 (a27:nsIn K mainGlobals "_law_ladder"=some (some (.ref f27))) (l27:K.lookup f27=some ⟨oc27,od27,.func (fnOf "_law_ladder" "_law_ladder" (zq wk) (zo wk) (zc wk) .none kV27 dc27 pm27 an27 cd27 ct27),sl27⟩) (c27:codeIn K cd27 "_law_ladder"=true) (k27:keepIn K (.ref f27)=true)
 (a28:nsIn K mainGlobals "_law_moved"=some (some (.ref f28))) (l28:K.lookup f28=some ⟨oc28,od28,.func (fnOf "_law_moved" "_law_moved" (zq wQ) (zo wQ) (zc wQ) .none kV28 dc28 pm28 an28 cd28 ct28),sl28⟩) (c28:codeIn K cd28 "_law_moved"=true) (k28:keepIn K (.ref f28)=true)
 (a29:findIn K (.ref oC_Sheet) "hand_in"=some (some (.ref f29))) (i29:isFn K (.ref f29)=true) (l29:K.lookup f29=some ⟨oc29,od29,.func (fnOf "hand_in" "Sheet.hand_in" (zq yJ) (zo yJ) (zc yJ) .none kV29 dc29 pm29 an29 cd29 ct29),sl29⟩) (c29:codeIn K cd29 "Sheet.hand_in"=true) (k29:keepIn K (.ref f29)=true)
 (a30:findIn K (.ref oC_Sheet) "strike"=some (some (.ref f30))) (i30:isFn K (.ref f30)=true) (l30:K.lookup f30=some ⟨oc30,od30,.func (fnOf "strike" "Sheet.strike" (zq y9) (zo y9) (zc y9) .none kV30 dc30 pm30 an30 cd30 ct30),sl30⟩) (c30:codeIn K cd30 "Sheet.strike"=true) (k30:keepIn K (.ref f30)=true)
 (a31:findIn K (.ref oC_Sheet) "card_of"=some (some (.ref f31))) (i31:isFn K (.ref f31)=true) (l31:K.lookup f31=some ⟨oc31,od31,.func (fnOf "card_of" "Sheet.card_of" (zq yH) (zo yH) (zc yH) .none kV31 dc31 pm31 an31 cd31 ct31),sl31⟩) (c31:codeIn K cd31 "Sheet.card_of"=true) (k31:keepIn K (.ref f31)=true)
 (a32:nsIn K mainGlobals "good_couples"=some (some (.ref f32))) (l32:K.lookup f32=some ⟨oc32,od32,.func (fnOf "good_couples" "good_couples" (zq yD) (zo yD) (zc yD) .none kV32 dc32 pm32 an32 cd32 ct32),sl32⟩) (c32:codeIn K cd32 "good_couples"=true) (k32:keepIn K (.ref f32)=true)
 (a33:nsIn K mainGlobals "good_name"=some (some (.ref f33))) (l33:K.lookup f33=some ⟨oc33,od33,.func (fnOf "good_name" "good_name" (zq wV) (zo wV) (zc wV) .none kV33 dc33 pm33 an33 cd33 ct33),sl33⟩) (c33:codeIn K cd33 "good_name"=true) (k33:keepIn K (.ref f33)=true)
 (a34:nsIn K mainGlobals "marks_of"=some (some (.ref f34))) (l34:K.lookup f34=some ⟨oc34,od34,.func (fnOf "marks_of" "marks_of" (zq zar) (zo zar) (zc zar) .none kV34 dc34 pm34 an34 cd34 ct34),sl34⟩) (c34:codeIn K cd34 "marks_of"=true) (k34:keepIn K (.ref f34)=true)
 (a35:nsIn K mainGlobals "granted"=some (some (.ref f35))) (l35:K.lookup f35=some ⟨oc35,od35,.func (fnOf "granted" "granted" (zq zbG) (zo zbG) (zc zbG) .none kV35 dc35 pm35 an35 cd35 ct35),sl35⟩) (c35:codeIn K cd35 "granted"=true) (k35:keepIn K (.ref f35)=true)
 (a36:nsIn K mainGlobals "granted_sum"=some (some (.ref f36))) (l36:K.lookup f36=some ⟨oc36,od36,.func (fnOf "granted_sum" "granted_sum" (zq wA) (zo wA) (zc wA) .none kV36 dc36 pm36 an36 cd36 ct36),sl36⟩) (c36:codeIn K cd36 "granted_sum"=true) (k36:keepIn K (.ref f36)=true)
 (a37:nsIn K mainGlobals "first_number"=some (some (.ref f37))) (l37:K.lookup f37=some ⟨oc37,od37,.func (fnOf "first_number" "first_number" (zq wb) (zo wb) (zc wb) .none kV37 dc37 pm37 an37 cd37 ct37),sl37⟩) (c37:codeIn K cd37 "first_number"=true) (k37:keepIn K (.ref f37)=true)
 (a38:nsIn K mainGlobals "refuse_fewer_cards"=some (some (.ref f38))) (l38:K.lookup f38=some ⟨oc38,od38,.func (fnOf "refuse_fewer_cards" "refuse_fewer_cards" (zq yc) (zo yc) (zc yc) .none kV38 dc38 pm38 an38 cd38 ct38),sl38⟩) (c38:codeIn K cd38 "refuse_fewer_cards"=true) (k38:keepIn K (.ref f38)=true)
 (a39:nsIn K mainGlobals "_law_same"=some (some (.ref f39))) (l39:K.lookup f39=some ⟨oc39,od39,.func (fnOf "_law_same" "_law_same" (zq za4) (zo za4) (zc za4) .none kV39 dc39 pm39 an39 cd39 ct39),sl39⟩) (c39:codeIn K cd39 "_law_same"=true) (k39:keepIn K (.ref f39)=true)
 (a40:nsIn K mainGlobals "_law_pairs"=some (some (.ref f40))) (l40:K.lookup f40=some ⟨oc40,od40,.func (fnOf "_law_pairs" "_law_pairs" (zq zaA) (zo zaA) (zc zaA) .none kV40 dc40 pm40 an40 cd40 ct40),sl40⟩) (c40:codeIn K cd40 "_law_pairs"=true) (k40:keepIn K (.ref f40)=true)
 (a41:nsIn K mainGlobals "_law_fours"=some (some (.ref f41))) (l41:K.lookup f41=some ⟨oc41,od41,.func (fnOf "_law_fours" "_law_fours" (zq zaB) (zo zaB) (zc zaB) .none kV41 dc41 pm41 an41 cd41 ct41),sl41⟩) (c41:codeIn K cd41 "_law_fours"=true) (k41:keepIn K (.ref f41)=true)
 (a42:nsIn K mainGlobals "_law_card"=some (some (.ref f42))) (l42:K.lookup f42=some ⟨oc42,od42,.func (fnOf "_law_card" "_law_card" (zq za6) (zo za6) (zc za6) .none kV42 dc42 pm42 an42 cd42 ct42),sl42⟩) (c42:codeIn K cd42 "_law_card"=true) (k42:keepIn K (.ref f42)=true)
 (a43:nsIn K mainGlobals "_law_spots"=some (some (.ref f43))) (l43:K.lookup f43=some ⟨oc43,od43,.func (fnOf "_law_spots" "_law_spots" (zq wg) (zo wg) (zc wg) .none kV43 dc43 pm43 an43 cd43 ct43),sl43⟩) (c43:codeIn K cd43 "_law_spots"=true) (k43:keepIn K (.ref f43)=true)
 (a44:nsIn K mainGlobals "_law_parts"=some (some (.ref f44))) (l44:K.lookup f44=some ⟨oc44,od44,.func (fnOf "_law_parts" "_law_parts" (zq zaD) (zo zaD) (zc zaD) .none kV44 dc44 pm44 an44 cd44 ct44),sl44⟩) (c44:codeIn K cd44 "_law_parts"=true) (k44:keepIn K (.ref f44)=true)
 (a45:nsIn K mainGlobals "_law_line"=some (some (.ref f45))) (l45:K.lookup f45=some ⟨oc45,od45,.func (fnOf "_law_line" "_law_line" (zq za5) (zo za5) (zc za5) .none kV45 dc45 pm45 an45 cd45 ct45),sl45⟩) (c45:codeIn K cd45 "_law_line"=true) (k45:keepIn K (.ref f45)=true)
 (a46:findIn K (.ref oC_Sheet) "cards"=some (some (.ref f46))) (i46:isFn K (.ref f46)=true) (l46:K.lookup f46=some ⟨oc46,od46,.func (fnOf "cards" "Sheet.cards" (zq yQ) (zo yQ) (zc yQ) .none kV46 dc46 pm46 an46 cd46 ct46),sl46⟩) (c46:codeIn K cd46 "Sheet.cards"=true) (k46:keepIn K (.ref f46)=true)
 (a47:nsIn K mainGlobals "good_judges"=some (some (.ref f47))) (l47:K.lookup f47=some ⟨oc47,od47,.func (fnOf "good_judges" "good_judges" (zq yR) (zo yR) (zc yR) .none kV47 dc47 pm47 an47 cd47 ct47),sl47⟩) (c47:codeIn K cd47 "good_judges"=true) (k47:keepIn K (.ref f47)=true)
 (a48:nsIn K mainGlobals "ladder_of"=some (some (.ref f48))) (l48:K.lookup f48=some ⟨oc48,od48,.func (fnOf "ladder_of" "ladder_of" (zq wT) (zo wT) (zc wT) .none kV48 dc48 pm48 an48 cd48 ct48),sl48⟩) (c48:codeIn K cd48 "ladder_of"=true) (k48:keepIn K (.ref f48)=true)
 (a49:nsIn K mainGlobals "unlike_at"=some (some (.ref f49))) (l49:K.lookup f49=some ⟨oc49,od49,.func (fnOf "unlike_at" "unlike_at" (zq zaz) (zo zaz) (zc zaz) .none kV49 dc49 pm49 an49 cd49 ct49),sl49⟩) (c49:codeIn K cd49 "unlike_at"=true) (k49:keepIn K (.ref f49)=true)
 (a50:nsIn K mainGlobals "cards_without"=some (some (.ref f50))) (l50:K.lookup f50=some ⟨oc50,od50,.func (fnOf "cards_without" "cards_without" (zq yu) (zo yu) (zc yu) .none kV50 dc50 pm50 an50 cd50 ct50),sl50⟩) (c50:codeIn K cd50 "cards_without"=true) (k50:keepIn K (.ref f50)=true)
 (a51:nsIn K mainGlobals "_law_lists"=some (some (.ref f51))) (l51:K.lookup f51=some ⟨oc51,od51,.func (fnOf "_law_lists" "_law_lists" (zq zay) (zo zay) (zc zay) .none kV51 dc51 pm51 an51 cd51 ct51),sl51⟩) (c51:codeIn K cd51 "_law_lists"=true) (k51:keepIn K (.ref f51)=true)
 (a52:nsIn K mainGlobals "_law_panel"=some (some (.ref f52))) (l52:K.lookup f52=some ⟨oc52,od52,.func (fnOf "_law_panel" "_law_panel" (zq zav) (zo zav) (zc zav) .none kV52 dc52 pm52 an52 cd52 ct52),sl52⟩) (c52:codeIn K cd52 "_law_panel"=true) (k52:keepIn K (.ref f52)=true)
 (a53:nsIn K mainGlobals "_law_firsts"=some (some (.ref f53))) (l53:K.lookup f53=some ⟨oc53,od53,.func (fnOf "_law_firsts" "_law_firsts" (zq wu) (zo wu) (zc wu) .none kV53 dc53 pm53 an53 cd53 ct53),sl53⟩) (c53:codeIn K cd53 "_law_firsts"=true) (k53:keepIn K (.ref f53)=true)
 (a54:findIn K (.ref oC_Sheet) "__init__"=some (some (.ref f54))) (i54:isFn K (.ref f54)=true) (l54:K.lookup f54=some ⟨oc54,od54,.func (fnOf "__init__" "Sheet.__init__" (zq wX) (zo wX) (zc wX) .none kV54 dc54 pm54 an54 cd54 ct54),sl54⟩) (c54:codeIn K cd54 "Sheet.__init__"=true) (k54:keepIn K (.ref f54)=true)
 (a55:nsIn K mainGlobals "is_ahead"=some (some (.ref f55))) (l55:K.lookup f55=some ⟨oc55,od55,.func (fnOf "is_ahead" "is_ahead" (zq za8) (zo za8) (zc za8) .none kV55 dc55 pm55 an55 cd55 ct55),sl55⟩) (c55:codeIn K cd55 "is_ahead"=true) (k55:keepIn K (.ref f55)=true)
 (a56:nsIn K mainGlobals "parting_of"=some (some (.ref f56))) (l56:K.lookup f56=some ⟨oc56,od56,.func (fnOf "parting_of" "parting_of" (zq wZ) (zo wZ) (zc wZ) .none kV56 dc56 pm56 an56 cd56 ct56),sl56⟩) (c56:codeIn K cd56 "parting_of"=true) (k56:keepIn K (.ref f56)=true)
 (a57:nsIn K mainGlobals "row_text"=some (some (.ref f57))) (l57:K.lookup f57=some ⟨oc57,od57,.func (fnOf "row_text" "row_text" (zq wM) (zo wM) (zc wM) .none kV57 dc57 pm57 an57 cd57 ct57),sl57⟩) (c57:codeIn K cd57 "row_text"=true) (k57:keepIn K (.ref f57)=true)
 (a58:nsIn K mainGlobals "_law_deciding"=some (some (.ref f58))) (l58:K.lookup f58=some ⟨oc58,od58,.func (fnOf "_law_deciding" "_law_deciding" (zq yp) (zo yp) (zc yp) .none kV58 dc58 pm58 an58 cd58 ct58),sl58⟩) (c58:codeIn K cd58 "_law_deciding"=true) (k58:keepIn K (.ref f58)=true)
 (a59:nsIn K mainGlobals "place_among"=some (some (.ref f59))) (l59:K.lookup f59=some ⟨oc59,od59,.func (fnOf "place_among" "place_among" (zq yY) (zo yY) (zc yY) .none kV59 dc59 pm59 an59 cd59 ct59),sl59⟩) (c59:codeIn K cd59 "place_among"=true) (k59:keepIn K (.ref f59)=true)
 (a60:nsIn K mainGlobals "places_of"=some (some (.ref f60))) (l60:K.lookup f60=some ⟨oc60,od60,.func (fnOf "places_of" "places_of" (zq we) (zo we) (zc we) .none kV60 dc60 pm60 an60 cd60 ct60),sl60⟩) (c60:codeIn K cd60 "places_of"=true) (k60:keepIn K (.ref f60)=true)
 (a61:nsIn K mainGlobals "_law_sheet"=some (some (.ref f61))) (l61:K.lookup f61=some ⟨oc61,od61,.func (fnOf "_law_sheet" "_law_sheet" (zq zaC) (zo zaC) (zc zaC) .none kV61 dc61 pm61 an61 cd61 ct61),sl61⟩) (c61:codeIn K cd61 "_law_sheet"=true) (k61:keepIn K (.ref f61)=true)
 (a62:nsIn K mainGlobals "places"=some (some (.ref f62))) (l62:K.lookup f62=some ⟨oc62,od62,.func (fnOf "places" "places" (zq zcp) (zo zcp) (zc zcp) .none kV62 dc62 pm62 an62 cd62 ct62),sl62⟩) (c62:codeIn K cd62 "places"=true) (k62:keepIn K (.ref f62)=true)
 (a63:nsIn K mainGlobals "left_out"=some (some (.ref f63))) (l63:K.lookup f63=some ⟨oc63,od63,.func (fnOf "left_out" "left_out" (zq zaY) (zo zaY) (zc zaY) .none kV63 dc63 pm63 an63 cd63 ct63),sl63⟩) (c63:codeIn K cd63 "left_out"=true) (k63:keepIn K (.ref f63)=true)
 (a64:nsIn K mainGlobals "step_up"=some (some (.ref f64))) (l64:K.lookup f64=some ⟨oc64,od64,.func (fnOf "step_up" "step_up" (zq za2) (zo za2) (zc za2) .none kV64 dc64 pm64 an64 cd64 ct64),sl64⟩) (c64:codeIn K cd64 "step_up"=true) (k64:keepIn K (.ref f64)=true)
 (a65:nsIn K mainGlobals "firsts_of"=some (some (.ref f65))) (l65:K.lookup f65=some ⟨oc65,od65,.func (fnOf "firsts_of" "firsts_of" (zq wL) (zo wL) (zc wL) .none kV65 dc65 pm65 an65 cd65 ct65),sl65⟩) (c65:codeIn K cd65 "firsts_of"=true) (k65:keepIn K (.ref f65)=true)
 (a66:nsIn K mainGlobals "firsts"=some (some (.ref f66))) (l66:K.lookup f66=some ⟨oc66,od66,.func (fnOf "firsts" "firsts" (zq zcs) (zo zcs) (zc zcs) .none kV66 dc66 pm66 an66 cd66 ct66),sl66⟩) (c66:codeIn K cd66 "firsts"=true) (k66:keepIn K (.ref f66)=true)
 (a67:nsIn K mainGlobals "table_row"=some (some (.ref f67))) (l67:K.lookup f67=some ⟨oc67,od67,.func (fnOf "table_row" "table_row" (zq zaF) (zo zaF) (zc zaF) .none kV67 dc67 pm67 an67 cd67 ct67),sl67⟩) (c67:codeIn K cd67 "table_row"=true) (k67:keepIn K (.ref f67)=true)
 (a68:nsIn K mainGlobals "deciders"=some (some (.ref f68))) (l68:K.lookup f68=some ⟨oc68,od68,.func (fnOf "deciders" "deciders" (zq zat) (zo zat) (zc zat) .none kV68 dc68 pm68 an68 cd68 ct68),sl68⟩) (c68:codeIn K cd68 "deciders"=true) (k68:keepIn K (.ref f68)=true)
 (a69:nsIn K mainGlobals "by_place"=some (some (.ref f69))) (l69:K.lookup f69=some ⟨oc69,od69,.func (fnOf "by_place" "by_place" (zq za7) (zo za7) (zc za7) .none kV69 dc69 pm69 an69 cd69 ct69),sl69⟩) (c69:codeIn K cd69 "by_place"=true) (k69:keepIn K (.ref f69)=true)
 {lc lP:Addr} {lo:Value} {ld:Option Addr} {ls:Array (Option Value)} {lvs:Array Value} (qe:cd69=.ref lc) (qk:K.lookup lc=some ⟨lo,ld,.fields lvs,ls⟩) (qv:lvs[11]? = some (.ref lP)) (qh:PySem.W.codeHdIn K lc lP=true) (qn:K.lookup lP=none)
 (a70:nsIn K mainGlobals "ranking_of"=some (some (.ref f70))) (l70:K.lookup f70=some ⟨oc70,od70,.func (fnOf "ranking_of" "ranking_of" (zq zaa) (zo zaa) (zc zaa) .none kV70 dc70 pm70 an70 cd70 ct70),sl70⟩) (c70:codeIn K cd70 "ranking_of"=true) (k70:keepIn K (.ref f70)=true)
 (a71:nsIn K mainGlobals "partings_of"=some (some (.ref f71))) (l71:K.lookup f71=some ⟨oc71,od71,.func (fnOf "partings_of" "partings_of" (zq yW) (zo yW) (zc yW) .none kV71 dc71 pm71 an71 cd71 ct71),sl71⟩) (c71:codeIn K cd71 "partings_of"=true) (k71:keepIn K (.ref f71)=true)
 (a72:nsIn K mainGlobals "ranking"=some (some (.ref f72))) (l72:K.lookup f72=some ⟨oc72,od72,.func (fnOf "ranking" "ranking" (zq zbK) (zo zbK) (zc zbK) .none kV72 dc72 pm72 an72 cd72 ct72),sl72⟩) (c72:codeIn K cd72 "ranking"=true) (k72:keepIn K (.ref f72)=true)
 (a73:nsIn K mainGlobals "partings"=some (some (.ref f73))) (l73:K.lookup f73=some ⟨oc73,od73,.func (fnOf "partings" "partings" (zq zaZ) (zo zaZ) (zc zaZ) .none kV73 dc73 pm73 an73 cd73 ct73),sl73⟩) (c73:codeIn K cd73 "partings"=true) (k73:keepIn K (.ref f73)=true)
 (a74:nsIn K mainGlobals "table"=some (some (.ref f74))) (l74:K.lookup f74=some ⟨oc74,od74,.func (fnOf "table" "table" (zq zcG) (zo zcG) (zc zcG) .none kV74 dc74 pm74 an74 cd74 ct74),sl74⟩) (c74:codeIn K cd74 "table"=true) (k74:keepIn K (.ref f74)=true)
 (a75:nsIn K mainGlobals "_law_told"=some (some (.ref f75))) (l75:K.lookup f75=some ⟨oc75,od75,.func (fnOf "_law_told" "_law_told" (zq wj) (zo wj) (zc wj) .none kV75 dc75 pm75 an75 cd75 ct75),sl75⟩) (c75:codeIn K cd75 "_law_told"=true) (k75:keepIn K (.ref f75)=true)
 (a76:nsIn K mainGlobals "law"=some (some (.ref f76))) (l76:K.lookup f76=some ⟨oc76,od76,.func (fnOf "law" "law" (zq zbL) (zo zbL) (zc zbL) .none kV76 dc76 pm76 an76 cd76 ct76),sl76⟩) (c76:codeIn K cd76 "law"=true) (k76:keepIn K (.ref f76)=true)
 (z0:nsIn K mainGlobals "all"=some none)
 (z1:nsIn K mainGlobals "bool"=some none)
 (z2:nsIn K mainGlobals "int"=some none)
 (z3:nsIn K mainGlobals "isinstance"=some none)
 (z4:nsIn K mainGlobals "len"=some none)
 (z5:nsIn K mainGlobals "list"=some none)
 (z6:nsIn K mainGlobals "max"=some none)
 (z7:nsIn K mainGlobals "min"=some none)
 (z8:nsIn K mainGlobals "range"=some none)
 (z9:nsIn K mainGlobals "set"=some none)
 (z10:nsIn K mainGlobals "sorted"=some none)
 (z11:nsIn K mainGlobals "str"=some none)
 (z12:nsIn K mainGlobals "sum"=some none)
 (z13:nsIn K mainGlobals "tuple"=some none)
 (z14:nsIn K mainGlobals "zip"=some none)
 {t0:Tok} (y0:nsIn K mainGlobals "MOST_COUPLES"=some (some (.int 24 t0)))
 {t1:Tok} (y1:nsIn K mainGlobals "MOST_JUDGES"=some (some (.int 15 t1)))
 {t2:Tok} (y2:nsIn K mainGlobals "MOST_NUMBER"=some (some (.int 999 t2)))
 {t3:Tok} (y3:nsIn K mainGlobals "MOST_SIGNS"=some (some (.int 8 t3)))
 {t4:Tok} (y4:nsIn K mainGlobals "MOST_CARDS"=some (some (.int 200 t4)))
 {xc1:Addr} (xa1:nsIn K mainGlobals "BadCouples"=some (some (.ref xc1)))
 {xc2:Addr} (xa2:nsIn K mainGlobals "BadJudges"=some (some (.ref xc2)))
 {xc3:Addr} (xa3:nsIn K mainGlobals "SheetSealed"=some (some (.ref xc3)))
 {xc4:Addr} (xa4:nsIn K mainGlobals "UnknownJudge"=some (some (.ref xc4)))
 {xc5:Addr} (xa5:nsIn K mainGlobals "BadCard"=some (some (.ref xc5)))
 {xc6:Addr} (xa6:nsIn K mainGlobals "TooManyCards"=some (some (.ref xc6)))
 {xc7:Addr} (xa7:nsIn K mainGlobals "UnknownCouple"=some (some (.ref xc7)))
 {xc8:Addr} (xa8:nsIn K mainGlobals "LastCouple"=some (some (.ref xc8)))
 {xc9:Addr} (xa9:nsIn K mainGlobals "NoCard"=some (some (.ref xc9)))
 {xc11:Addr} (xa11:nsIn K mainGlobals "AtTop"=some (some (.ref xc11)))
 (xe1:excIn K xc1 bmV "ValueError.__new__"=true)
 (xe2:excIn K xc2 bmV "ValueError.__new__"=true)
 (xe3:excIn K xc3 bmV "ValueError.__new__"=true)
 (xe4:excIn K xc4 bmV "ValueError.__new__"=true)
 (xe5:excIn K xc5 bmV "ValueError.__new__"=true)
 (xe6:excIn K xc6 bmV "ValueError.__new__"=true)
 (xe7:excIn K xc7 bmV "ValueError.__new__"=true)
 (xe8:excIn K xc8 bmV "ValueError.__new__"=true)
 (xe9:excIn K xc9 bmV "ValueError.__new__"=true)
 (xe11:excIn K xc11 bmV "ValueError.__new__"=true)
 (opg_Sheet:plainGet K oC_Sheet Str.empty=true)
 (ohd_Sheet:hasDictIn K oC_Sheet=true)
 (opo_Sheet:plainOver K oC_Sheet=true)
 (osa_Sheet:findIn K (.ref oC_Sheet) "__setattr__"=some (some (.builtin "object.__setattr__")))
 (omk_Sheet:makesIn K oC_Sheet=true)
 (okc_Sheet:keepIn K (.ref oC_Sheet)=true)
 (on_Sheet_standing:findIn K (.ref oC_Sheet) "standing"=some none)
 (on_Sheet_struck_so_far:findIn K (.ref oC_Sheet) "struck_so_far"=some none)
 (on_Sheet_panel:findIn K (.ref oC_Sheet) "panel"=some none)
 (on_Sheet_card_by_judge:findIn K (.ref oC_Sheet) "card_by_judge"=some none)
 (on_Sheet_taken_so_far:findIn K (.ref oC_Sheet) "taken_so_far"=some none)
 (on_Sheet_sealed:findIn K (.ref oC_Sheet) "sealed"=some none)
 : LamK K "by_place"∧∃fd:FuncData,(∀(s:Shared)(v:Value),BindsTo s fd ⟨[v],[]⟩ [("_law_script",v)])∧∀base:Heap,K.In base→base.Ns mainGlobals mg→zdY mg base→FnOk l.prog w K mg base CX0 16 fa fd ["_law_script"] (zhy K):=by
 obtain⟨L69,LK⟩:=lam_mk a69 l69 qe qk qv qh qn
 have e:=hfa.symm.trans (mg_of X G a76)
 cases e
 have oc_Sheet:=clsA_of oa_Sheet
 have T:Txt K mg:=⟨mg_none_of X G z0,mg_none_of X G z1,mg_none_of X G z2,mg_none_of X G z3,mg_none_of X G z4,mg_none_of X G z5,mg_none_of X G z6,mg_none_of X G z7,mg_none_of X G z8,mg_none_of X G z9,mg_none_of X G z10,mg_none_of X G z11,mg_none_of X G z12,mg_none_of X G z13,mg_none_of X G z14,⟨_,mg_of X G y0⟩,⟨_,mg_of X G y1⟩,⟨_,mg_of X G y2⟩,⟨_,mg_of X G y3⟩,⟨_,mg_of X G y4⟩,⟨xc1,xa1,mg_of X G xa1,xe1⟩,⟨xc2,xa2,mg_of X G xa2,xe2⟩,⟨xc3,xa3,mg_of X G xa3,xe3⟩,⟨xc4,xa4,mg_of X G xa4,xe4⟩,⟨xc5,xa5,mg_of X G xa5,xe5⟩,⟨xc6,xa6,mg_of X G xa6,xe6⟩,⟨xc7,xa7,mg_of X G xa7,xe7⟩,⟨xc8,xa8,mg_of X G xa8,xe8⟩,⟨xc9,xa9,mg_of X G xa9,xe9⟩,⟨xc11,xa11,mg_of X G xa11,xe11⟩,oc_Sheet ▸ ⟨opg_Sheet,ohd_Sheet,opo_Sheet,osa_Sheet⟩,oc_Sheet ▸ on_Sheet_standing,oc_Sheet ▸ on_Sheet_struck_so_far,oc_Sheet ▸ on_Sheet_panel,oc_Sheet ▸ on_Sheet_card_by_judge,oc_Sheet ▸ on_Sheet_taken_so_far,oc_Sheet ▸ on_Sheet_sealed⟩
 have F0:=zw (st:=zM) l0 c0 k0
 have b0:=F0.binds (ps:=["self"]) fun _ _ _ _ _ _=>onS fun _=>on0 rfl
 have F1:=zw (st:=zJ) l1 c1 k1
 have b1:=F1.binds (ps:=["self","judge"]) fun _ _ _ _ _ _=>onS fun _=>onS fun _=>on0 rfl
 have F2:=zw (st:=yI) l2 c2 k2
 have b2:=F2.binds (ps:=["self"]) fun _ _ _ _ _ _=>onS fun _=>on0 rfl
 have F3:=zw (st:=yE) l3 c3 k3
 have b3:=F3.binds (ps:=["self"]) fun _ _ _ _ _ _=>onS fun _=>on0 rfl
 have F4:=zw (st:=wW) l4 c4 k4
 have b4:=F4.binds (ps:=["card","couples"]) fun _ _ _ _ _ _=>onS fun _=>onS fun _=>on0 rfl
 have F5:=zw (st:=zbJ) l5 c5 k5
 have b5:=F5.binds (ps:=["card","couple"]) fun _ _ _ _ _ _=>onS fun _=>onS fun _=>on0 rfl
 have F6:=zw (st:=yl) l6 c6 k6
 have b6:=F6.binds (ps:=["card","couple"]) fun _ _ _ _ _ _=>onS fun _=>onS fun _=>on0 rfl
 have F7:=zw (st:=zcu) l7 c7 k7
 have b7:=F7.binds (ps:=["card","couple"]) fun _ _ _ _ _ _=>onS fun _=>onS fun _=>on0 rfl
 have F8:=zw (st:=wC) l8 c8 k8
 have b8:=F8.binds (ps:=["couple"]) fun _ _ _ _ _ _=>onS fun _=>on0 rfl
 have F9:=zw (st:=y7) l9 c9 k9
 have b9:=F9.binds (ps:=["sign"]) fun _ _ _ _ _ _=>onS fun _=>on0 rfl
 have F10:=zw (st:=wz) l10 c10 k10
 have b10:=F10.binds (ps:=["things","most"]) fun _ _ _ _ _ _=>onS fun _=>onS fun _=>on0 rfl
 have F11:=zw (st:=zab) l11 c11 k11
 have b11:=F11.binds (ps:=["things"]) fun _ _ _ _ _ _=>onS fun _=>on0 rfl
 have F12:=zw (st:=wy) l12 c12 k12
 have b12:=F12.binds (ps:=["many"]) fun _ _ _ _ _ _=>onS fun _=>on0 rfl
 have F13:=zw (st:=zaq) l13 c13 k13
 have b13:=F13.binds (ps:=["marks","number"]) fun _ _ _ _ _ _=>onS fun _=>onS fun _=>on0 rfl
 have F14:=zw (st:=zaE) l14 c14 k14
 have b14:=F14.binds (ps:=["_law_found"]) fun _ _ _ _ _ _=>onS fun _=>on0 rfl
 have F15:=zw (st:=zcq) l15 c15 k15
 have b15:=F15.binds (ps:=["_law_script","_law_k"]) fun _ _ _ _ _ _=>onS fun _=>onS fun _=>on0 rfl
 have F16:=zw (st:=zax) l16 c16 k16
 have b16:=F16.binds (ps:=["_law_found","_law_due"]) fun _ _ _ _ _ _=>onS fun _=>onS fun _=>on0 rfl
 have F17:=zw (st:=zbH) l17 c17 k17
 have b17:=F17.binds (ps:=["_law_cell","_law_place"]) fun _ _ _ _ _ _=>onS fun _=>onS fun _=>on0 rfl
 have F18:=zw (st:=zaT) l18 c18 k18
 have b18:=F18.binds (ps:=["_law_mode","_law_cell","_law_least","_law_few","_law_most"]) fun _ _ _ _ _ _=>onS fun _=>onS fun _=>onS fun _=>onS fun _=>onS fun _=>on0 rfl
 have F19:=zw (st:=yP) l19 c19 k19
 have b19:=F19.binds (ps:=["_law_cell","_law_many_here"]) fun _ _ _ _ _ _=>onS fun _=>onS fun _=>on0 rfl
 have F20:=zw (st:=wp) l20 c20 k20
 have b20:=F20.binds (ps:=["_law_cell","_law_many_here"]) fun _ _ _ _ _ _=>onS fun _=>onS fun _=>on0 rfl
 have F21:=zw (st:=wS) l21 c21 k21
 have b21:=F21.binds (ps:=["_law_cards","_law_couple"]) fun _ _ _ _ _ _=>onS fun _=>onS fun _=>on0 rfl
 have F22:=zw (st:=zaX) l22 c22 k22
 have b22:=F22.binds (ps:=["_law_marks_here","_law_last"]) fun _ _ _ _ _ _=>onS fun _=>onS fun _=>on0 rfl
 have F23:=zw (st:=za9) l23 c23 k23
 have b23:=F23.binds (ps:=["_law_spots_here","_law_couples_here"]) fun _ _ _ _ _ _=>onS fun _=>onS fun _=>on0 rfl
 have F24:=zw (st:=wP) l24 c24 k24
 have b24:=F24.binds (ps:=["_law_one","_law_other","_law_last"]) fun _ _ _ _ _ _=>onS fun _=>onS fun _=>onS fun _=>on0 rfl
 have F25:=zw (st:=yX) l25 c25 k25
 have b25:=F25.binds (ps:=["_law_card_here","_law_couple"]) fun _ _ _ _ _ _=>onS fun _=>onS fun _=>on0 rfl
 have F26:=zw (st:=wI) l26 c26 k26
 have b26:=F26.binds (ps:=["_law_things"]) fun _ _ _ _ _ _=>onS fun _=>on0 rfl
 have F27:=zw (st:=wk) l27 c27 k27
 have b27:=F27.binds (ps:=["_law_marks_here","_law_last"]) fun _ _ _ _ _ _=>onS fun _=>onS fun _=>on0 rfl
 have F28:=zw (st:=wQ) l28 c28 k28
 have b28:=F28.binds (ps:=["_law_cards","_law_who","_law_k"]) fun _ _ _ _ _ _=>onS fun _=>onS fun _=>onS fun _=>on0 rfl
 have F29:=zw (st:=yJ) l29 c29 k29
 have b29:=F29.binds (ps:=["self","judge","card"]) fun _ _ _ _ _ _=>onS fun _=>onS fun _=>onS fun _=>on0 rfl
 have F30:=zw (st:=y9) l30 c30 k30
 have b30:=F30.binds (ps:=["self","couple"]) fun _ _ _ _ _ _=>onS fun _=>onS fun _=>on0 rfl
 have F31:=zw (st:=yH) l31 c31 k31
 have b31:=F31.binds (ps:=["self","judge"]) fun _ _ _ _ _ _=>onS fun _=>onS fun _=>on0 rfl
 have F32:=zw (st:=yD) l32 c32 k32
 have b32:=F32.binds (ps:=["couples"]) fun _ _ _ _ _ _=>onS fun _=>on0 rfl
 have F33:=zw (st:=wV) l33 c33 k33
 have b33:=F33.binds (ps:=["judge"]) fun _ _ _ _ _ _=>onS fun _=>on0 rfl
 have F34:=zw (st:=zar) l34 c34 k34
 have b34:=F34.binds (ps:=["cards","couple"]) fun _ _ _ _ _ _=>onS fun _=>onS fun _=>on0 rfl
 have F35:=zw (st:=zbG) l35 c35 k35
 have b35:=F35.binds (ps:=["marks","number"]) fun _ _ _ _ _ _=>onS fun _=>onS fun _=>on0 rfl
 have F36:=zw (st:=wA) l36 c36 k36
 have b36:=F36.binds (ps:=["marks","number"]) fun _ _ _ _ _ _=>onS fun _=>onS fun _=>on0 rfl
 have F37:=zw (st:=wb) l37 c37 k37
 have b37:=F37.binds (ps:=["marks"]) fun _ _ _ _ _ _=>onS fun _=>on0 rfl
 have F38:=zw (st:=yc) l38 c38 k38
 have b38:=F38.binds (ps:=["sheet","least"]) fun _ _ _ _ _ _=>onS fun _=>onS fun _=>on0 rfl
 have F39:=zw (st:=za4) l39 c39 k39
 have b39:=F39.binds (ps:=["_law_found","_law_due"]) fun _ _ _ _ _ _=>onS fun _=>onS fun _=>on0 rfl
 have F40:=zw (st:=zaA) l40 c40 k40
 have b40:=F40.binds (ps:=["_law_found","_law_due"]) fun _ _ _ _ _ _=>onS fun _=>onS fun _=>on0 rfl
 have F41:=zw (st:=zaB) l41 c41 k41
 have b41:=F41.binds (ps:=["_law_found","_law_due"]) fun _ _ _ _ _ _=>onS fun _=>onS fun _=>on0 rfl
 have F42:=zw (st:=za6) l42 c42 k42
 have b42:=F42.binds (ps:=["_law_cell","_law_couples_here","_law_style"]) fun _ _ _ _ _ _=>onS fun _=>onS fun _=>onS fun _=>on0 rfl
 have F43:=zw (st:=wg) l43 c43 k43
 have b43:=F43.binds (ps:=["_law_cards","_law_couples_here"]) fun _ _ _ _ _ _=>onS fun _=>onS fun _=>on0 rfl
 have F44:=zw (st:=zaD) l44 c44 k44
 have b44:=F44.binds (ps:=["_law_cards","_law_couples_here","_law_spots_here"]) fun _ _ _ _ _ _=>onS fun _=>onS fun _=>onS fun _=>on0 rfl
 have F45:=zw (st:=za5) l45 c45 k45
 have b45:=F45.binds (ps:=["_law_place","_law_couple","_law_cards","_law_last"]) fun _ _ _ _ _ _=>onS fun _=>onS fun _=>onS fun _=>onS fun _=>on0 rfl
 have F46:=zw (st:=yQ) l46 c46 k46
 have b46:=F46.binds (ps:=["self"]) fun _ _ _ _ _ _=>onS fun _=>on0 rfl
 have F47:=zw (st:=yR) l47 c47 k47
 have b47:=F47.binds (ps:=["judges"]) fun _ _ _ _ _ _=>onS fun _=>on0 rfl
 have F48:=zw (st:=wT) l48 c48 k48
 have b48:=F48.binds (ps:=["marks","last"]) fun _ _ _ _ _ _=>onS fun _=>onS fun _=>on0 rfl
 have F49:=zw (st:=zaz) l49 c49 k49
 have b49:=F49.binds (ps:=["one","other"]) fun _ _ _ _ _ _=>onS fun _=>onS fun _=>on0 rfl
 have F50:=zw (st:=yu) l50 c50 k50
 have b50:=F50.binds (ps:=["sheet","judge"]) fun _ _ _ _ _ _=>onS fun _=>onS fun _=>on0 rfl
 have F51:=zw (st:=zay) l51 c51 k51
 have b51:=F51.binds (ps:=["_law_found","_law_due"]) fun _ _ _ _ _ _=>onS fun _=>onS fun _=>on0 rfl
 have F52:=zw (st:=zav) l52 c52 k52
 have b52:=F52.binds (ps:=["_law_script","_law_start","_law_couples_here","_law_many_here","_law_style","_law_mode"]) fun _ _ _ _ _ _=>onS fun _=>onS fun _=>onS fun _=>onS fun _=>onS fun _=>onS fun _=>on0 rfl
 have F53:=zw (st:=wu) l53 c53 k53
 have b53:=F53.binds (ps:=["_law_cards","_law_couples_here"]) fun _ _ _ _ _ _=>onS fun _=>onS fun _=>on0 rfl
 have F54:=zw (st:=wX) l54 c54 k54
 have b54:=F54.binds (ps:=["self","couples","judges"]) fun _ _ _ _ _ _=>onS fun _=>onS fun _=>onS fun _=>on0 rfl
 have F55:=zw (st:=za8) l55 c55 k55
 have b55:=F55.binds (ps:=["one","other"]) fun _ _ _ _ _ _=>onS fun _=>onS fun _=>on0 rfl
 have F56:=zw (st:=wZ) l56 c56 k56
 have b56:=F56.binds (ps:=["one","other"]) fun _ _ _ _ _ _=>onS fun _=>onS fun _=>on0 rfl
 have F57:=zw (st:=wM) l57 c57 k57
 have b57:=F57.binds (ps:=["sheet","place","couple"]) fun _ _ _ _ _ _=>onS fun _=>onS fun _=>onS fun _=>on0 rfl
 have F58:=zw (st:=yp) l58 c58 k58
 have b58:=F58.binds (ps:=["_law_names","_law_cards","_law_couples_here"]) fun _ _ _ _ _ _=>onS fun _=>onS fun _=>onS fun _=>on0 rfl
 have F59:=zw (st:=yY) l59 c59 k59
 have b59:=F59.binds (ps:=["rows","own"]) fun _ _ _ _ _ _=>onS fun _=>onS fun _=>on0 rfl
 have F60:=zw (st:=we) l60 c60 k60
 have b60:=F60.binds (ps:=["cards","couples"]) fun _ _ _ _ _ _=>onS fun _=>onS fun _=>on0 rfl
 have F61:=zw (st:=zaC) l61 c61 k61
 have b61:=F61.binds (ps:=["_law_couples_here","_law_names","_law_cards"]) fun _ _ _ _ _ _=>onS fun _=>onS fun _=>onS fun _=>on0 rfl
 have F62:=zw (st:=zcp) l62 c62 k62
 have b62:=F62.binds (ps:=["sheet"]) fun _ _ _ _ _ _=>onS fun _=>on0 rfl
 have F63:=zw (st:=zaY) l63 c63 k63
 have b63:=F63.binds (ps:=["sheet","judge"]) fun _ _ _ _ _ _=>onS fun _=>onS fun _=>on0 rfl
 have F64:=zw (st:=za2) l64 c64 k64
 have b64:=F64.binds (ps:=["sheet","judge","couple"]) fun _ _ _ _ _ _=>onS fun _=>onS fun _=>onS fun _=>on0 rfl
 have F65:=zw (st:=wL) l65 c65 k65
 have b65:=F65.binds (ps:=["cards","couples"]) fun _ _ _ _ _ _=>onS fun _=>onS fun _=>on0 rfl
 have F66:=zw (st:=zcs) l66 c66 k66
 have b66:=F66.binds (ps:=["sheet"]) fun _ _ _ _ _ _=>onS fun _=>on0 rfl
 have F67:=zw (st:=zaF) l67 c67 k67
 have b67:=F67.binds (ps:=["sheet","couple"]) fun _ _ _ _ _ _=>onS fun _=>onS fun _=>on0 rfl
 have F68:=zw (st:=zat) l68 c68 k68
 have b68:=F68.binds (ps:=["sheet"]) fun _ _ _ _ _ _=>onS fun _=>on0 rfl
 have F69:=zw (st:=za7) l69 c69 k69
 have b69:=F69.binds (ps:=["places","couples"]) fun _ _ _ _ _ _=>onS fun _=>onS fun _=>on0 rfl
 have F70:=zw (st:=zaa) l70 c70 k70
 have b70:=F70.binds (ps:=["cards","couples"]) fun _ _ _ _ _ _=>onS fun _=>onS fun _=>on0 rfl
 have F71:=zw (st:=yW) l71 c71 k71
 have b71:=F71.binds (ps:=["cards","couples"]) fun _ _ _ _ _ _=>onS fun _=>onS fun _=>on0 rfl
 have F72:=zw (st:=zbK) l72 c72 k72
 have b72:=F72.binds (ps:=["sheet"]) fun _ _ _ _ _ _=>onS fun _=>on0 rfl
 have F73:=zw (st:=zaZ) l73 c73 k73
 have b73:=F73.binds (ps:=["sheet"]) fun _ _ _ _ _ _=>onS fun _=>on0 rfl
 have F74:=zw (st:=zcG) l74 c74 k74
 have b74:=F74.binds (ps:=["sheet"]) fun _ _ _ _ _ _=>onS fun _=>on0 rfl
 have F75:=zw (st:=wj) l75 c75 k75
 have b75:=F75.binds (ps:=["_law_sheet_here","_law_names","_law_couples_here","_law_cards","_law_who","_law_spot"]) fun _ _ _ _ _ _=>onS fun _=>onS fun _=>onS fun _=>onS fun _=>onS fun _=>onS fun _=>on0 rfl
 have F76:=zw (st:=zbL) l76 c76 k76
 have b76:=F76.binds (ps:=["_law_script"]) fun _ _ _ _ _ _=>onS fun _=>on0 rfl
 refine⟨LK,fnOf "law" "law" (zq zbL) (zo zbL) (zc zbL) .none kV76 dc76 pm76 an76 cd76 ct76,fun s v=>.of_eq rfl,fun base _ _ B=>?_⟩
 have C0:CanMX l.prog w K mg base 1 (zL K "Sheet") "refuse_if_sealed" ["self"] (yj K):=CanMX.of oc_Sheet (zb2 F0 T) ⟨a0,i0,k0⟩ b0
 have C1:CanMX l.prog w K mg base 1 (zL K "Sheet") "refuse_unknown_judge" ["self","judge"] (zU K):=CanMX.of oc_Sheet (zbl F1 T) ⟨a1,i1,k1⟩ b1
 have C2:CanM l.prog w K mg base 1 (zL K "Sheet") "couples" ["self"] (zI K):=CanM.of oc_Sheet (zex F2 T) ⟨a2,i2,k2⟩ b2
 have C3:CanM l.prog w K mg base 1 (zL K "Sheet") "handed" ["self"] (yh K):=CanM.of oc_Sheet (zfg F3 T) ⟨a3,i3,k3⟩ b3
 have C4:Can l.prog w K mg base 1 "whole_card" ["card","couples"] (zci K):=Can.of F4 (zgm F4 T) (mg_of X G a4) b4
 have C5:Can l.prog w K mg base 1 "mark_on" ["card","couple"] (zdT K):=Can.of F5 (ok_mark_on F5 T) (mg_of X G a5) b5
 have C6:Can l.prog w K mg base 1 "without_couple" ["card","couple"] (zaJ K):=Can.of F6 (zd9 F6 T) (mg_of X G a6) b6
 have C7:CanX l.prog w K mg base 1 "one_up" ["card","couple"] (zeE K):=CanX.of F7 (ok_one_up F7 T) (mg_of X G a7) b7
 have C8:Can l.prog w K mg base 1 "good_number" ["couple"] (zbU K):=Can.of F8 (zf0 F8 T) (mg_of X G a8) b8
 have C9:Can l.prog w K mg base 1 "small_letter" ["sign"] (zbo K):=Can.of F9 (zfe F9 T) (mg_of X G a9) b9
 have C10:Can l.prog w K mg base 1 "good_length" ["things","most"] (wU K):=Can.of F10 (zfF F10 T) (mg_of X G a10) b10
 have C11:Can l.prog w K mg base 1 "all_unlike" ["things"] (zbe K):=Can.of F11 (zgb F11 T) (mg_of X G a11) b11
 have C12:Can l.prog w K mg base 1 "majority_of" ["many"] (zbY K):=Can.of F12 (zfH F12 T) (mg_of X G a12) b12
 have C13:Can l.prog w K mg base 1 "granting" ["marks","number"] (zb8 K):=Can.of F13 (zh4 F13 T) (mg_of X G a13) b13
 have C14:Can l.prog w K mg base 1 "_law_whole" ["_law_found"] (zad K):=Can.of F14 (zhz F14 T) (mg_of X G a14) b14
 have C15:Can l.prog w K mg base 1 "_law_at" ["_law_script","_law_k"] (zdC K):=Can.of F15 (ok_law_at F15 T) (mg_of X G a15) b15
 have C16:Can l.prog w K mg base 1 "_law_texts" ["_law_found","_law_due"] (zcO K):=Can.of F16 (zhi F16 T) (mg_of X G a16) b16
 have C17:Can l.prog w K mg base 1 "_law_mix" ["_law_cell","_law_place"] (zdO K):=Can.of F17 (ok_law_mix F17 T) (mg_of X G a17) b17
 have C18:Can l.prog w K mg base 1 "_law_many" ["_law_mode","_law_cell","_law_least","_law_few","_law_most"] (zdt K):=Can.of F18 (ziG F18 T) (mg_of X G a18) b18
 have C19:Can l.prog w K mg base 1 "_law_couples" ["_law_cell","_law_many_here"] (zbX K):=Can.of F19 (zfQ F19 T) (mg_of X G a19) b19
 have C20:Can l.prog w K mg base 1 "_law_judges" ["_law_cell","_law_many_here"] (zcm K):=Can.of F20 (zga F20 T) (mg_of X G a20) b20
 have C21:Can l.prog w K mg base 1 "_law_marks" ["_law_cards","_law_couple"] (zaI K):=Can.of F21 (zhl F21 T) (mg_of X G a21) b21
 have C22:Can l.prog w K mg base 1 "_law_key" ["_law_marks_here","_law_last"] (zdR K):=Can.of F22 (ok_law_key F22 T) (mg_of X G a22) b22
 have C23:Can l.prog w K mg base 1 "_law_rows" ["_law_spots_here","_law_couples_here"] (zb6 K):=Can.of F23 (ziQ F23 T) (mg_of X G a23) b23
 have C24:Can l.prog w K mg base 1 "_law_part" ["_law_one","_law_other","_law_last"] (zdf K):=Can.of F24 (ziy F24 T) (mg_of X G a24) b24
 have C25:Can l.prog w K mg base 1 "_law_without" ["_law_card_here","_law_couple"] (zbR K):=Can.of F25 (zfT F25 T) (mg_of X G a25) b25
 have C26:Can l.prog w K mg base 1 "_law_words" ["_law_things"] (zcP K):=Can.of F26 (zhc F26 T) (mg_of X G a26) b26
 have C27:Can l.prog w K mg base 1 "_law_ladder" ["_law_marks_here","_law_last"] (zcg K):=Can.of F27 (zgi F27 T) (mg_of X G a27) b27
 have C28:Can l.prog w K mg base 1 "_law_moved" ["_law_cards","_law_who","_law_k"] (zcB K):=Can.of F28 (zhe F28 T) (mg_of X G a28) b28
 have C29:CanMX l.prog w K mg base 2 (zL K "Sheet") "hand_in" ["self","judge","card"] (za0 K):=CanMX.of oc_Sheet (zeK F29 T C4 C0 C1) ⟨a29,i29,k29⟩ b29
 have C30:CanMX l.prog w K mg base 2 (zL K "Sheet") "strike" ["self","couple"] (zbt K):=CanMX.of oc_Sheet (ze6 F30 T C6 C3 C0) ⟨a30,i30,k30⟩ b30
 have C31:CanMX l.prog w K mg base 2 (zL K "Sheet") "card_of" ["self","judge"] (yn K):=CanMX.of oc_Sheet (zeD F31 T C1) ⟨a31,i31,k31⟩ b31
 have C32:Can l.prog w K mg base 2 "good_couples" ["couples"] (zbp K):=Can.of F32 (zfd F32 T C8 C10 C11) (mg_of X G a32) b32
 have C33:Can l.prog w K mg base 2 "good_name" ["judge"] (zc2 K):=Can.of F33 (zhf F33 T C9 C10) (mg_of X G a33) b33
 have C34:Can l.prog w K mg base 2 "marks_of" ["cards","couple"] (zbi K):=Can.of F34 (ziB F34 T C5) (mg_of X G a34) b34
 have C35:Can l.prog w K mg base 2 "granted" ["marks","number"] (zaV K):=Can.of F35 (ok_granted F35 T C13) (mg_of X G a35) b35
 have C36:Can l.prog w K mg base 2 "granted_sum" ["marks","number"] (wO K):=Can.of F36 (zfu F36 T C13) (mg_of X G a36) b36
 have C37:Can l.prog w K mg base 2 "first_number" ["marks"] (wx K):=Can.of F37 (zfa F37 T C12) (mg_of X G a37) b37
 have C38:Can l.prog w K mg base 2 "refuse_fewer_cards" ["sheet","least"] (zK K):=Can.of F38 (zc7 F38 T C3) (mg_of X G a38) b38
 have C39:Can l.prog w K mg base 2 "_law_same" ["_law_found","_law_due"] (zbj K):=Can.of F39 (zhW F39 T C14) (mg_of X G a39) b39
 have C40:Can l.prog w K mg base 2 "_law_pairs" ["_law_found","_law_due"] (zcD K):=Can.of F40 (zhN F40 T C14) (mg_of X G a40) b40
 have C41:Can l.prog w K mg base 2 "_law_fours" ["_law_found","_law_due"] (zcW K):=Can.of F41 (zg8 F41 T C14) (mg_of X G a41) b41
 have C42:Can l.prog w K mg base 2 "_law_card" ["_law_cell","_law_couples_here","_law_style"] (zdc K):=Can.of F42 (ziT F42 T C17) (mg_of X G a42) b42
 have C43:Can l.prog w K mg base 2 "_law_spots" ["_law_cards","_law_couples_here"] (zbE K):=Can.of F43 (zhI F43 T C21 C22) (mg_of X G a43) b43
 have C44:Can l.prog w K mg base 2 "_law_parts" ["_law_cards","_law_couples_here","_law_spots_here"] (zcL K):=Can.of F44 (zhu F44 T C21 C23 C24) (mg_of X G a44) b44
 have C45:Can l.prog w K mg base 2 "_law_line" ["_law_place","_law_couple","_law_cards","_law_last"] (zdm K):=Can.of F45 (zhT F45 T C21 C26 C27) (mg_of X G a45) b45
 have C46:CanM l.prog w K mg base 3 (zL K "Sheet") "cards" ["self"] (yA K):=CanM.of oc_Sheet (zfx F46 T C3 C31) ⟨a46,i46,k46⟩ b46
 have C47:Can l.prog w K mg base 3 "good_judges" ["judges"] (zbT K):=Can.of F47 (zfv F47 T C33 C10 C11) (mg_of X G a47) b47
 have C48:Can l.prog w K mg base 3 "ladder_of" ["marks","last"] (zcM K):=Can.of F48 (zha F48 T C35 C36) (mg_of X G a48) b48
 have C49:Can l.prog w K mg base 3 "unlike_at" ["one","other"] (zby K):=Can.of F49 (zhA F49 T C35 C36 C37) (mg_of X G a49) b49
 have C50:Can l.prog w K mg base 3 "cards_without" ["sheet","judge"] (wY K):=Can.of F50 (zeG F50 T C3 C31) (mg_of X G a50) b50
 have C51:Can l.prog w K mg base 3 "_law_lists" ["_law_found","_law_due"] (zcR K):=Can.of F51 (zhk F51 T C39) (mg_of X G a51) b51
 have C52:Can l.prog w K mg base 3 "_law_panel" ["_law_script","_law_start","_law_couples_here","_law_many_here","_law_style","_law_mode"] (zc0 K):=Can.of F52 (zhP F52 T C15 C42) (mg_of X G a52) b52
 have C53:Can l.prog w K mg base 3 "_law_firsts" ["_law_cards","_law_couples_here"] (zbf K):=Can.of F53 (zgo F53 T C43) (mg_of X G a53) b53
 have C54:CanK l.prog w K mg base 4 "Sheet" (zL K "Sheet") ["self","couples","judges"] (zcj K):=CanK.of oc_Sheet (zgr F54 T C32 C47) (mg_of X G oa_Sheet) ⟨omk_Sheet,a54,i54,okc_Sheet⟩ b54
 have C55:Can l.prog w K mg base 4 "is_ahead" ["one","other"] (zdk K):=Can.of F55 (zil F55 T C35 C36 C37 C49) (mg_of X G a55) b55
 have C56:Can l.prog w K mg base 4 "parting_of" ["one","other"] (zcn K):=Can.of F56 (zgd F56 T C35 C37 C49) (mg_of X G a56) b56
 have C57:Can l.prog w K mg base 4 "row_text" ["sheet","place","couple"] (zcd K):=Can.of F57 (ziJ F57 T C34 C48 C2 C46) (mg_of X G a57) b57
 have C58:Can l.prog w K mg base 4 "_law_deciding" ["_law_names","_law_cards","_law_couples_here"] (zbn K):=Can.of F58 (ze8 F58 T C53) (mg_of X G a58) b58
 have C59:Can l.prog w K mg base 5 "place_among" ["rows","own"] (zb0 K):=Can.of F59 (zfs F59 T C55) (mg_of X G a59) b59
 have C60:Can l.prog w K mg base 6 "places_of" ["cards","couples"] (wq K):=Can.of F60 (zhb F60 T C34 C59) (mg_of X G a60) b60
 have C61:Can l.prog w K mg base 6 "_law_sheet" ["_law_couples_here","_law_names","_law_cards"] (zcX K):=Can.of F61 (zhH F61 T C54 C29) (mg_of X G a61) b61
 have C62:Can l.prog w K mg base 7 "places" ["sheet"] (zcw K):=Can.of F62 (ok_places F62 T C60 C38 C2 C46) (mg_of X G a62) b62
 have C63:Can l.prog w K mg base 7 "left_out" ["sheet","judge"] (zdp K):=Can.of F63 (zij F63 T C60 C38 C50 C2 C31) (mg_of X G a63) b63
 have C64:Can l.prog w K mg base 7 "step_up" ["sheet","judge","couple"] (zdQ K):=Can.of F64 (ok_step_up F64 T C7 C60 C2 C3 C31) (mg_of X G a64) b64
 have C65:Can l.prog w K mg base 7 "firsts_of" ["cards","couples"] (zbB K):=Can.of F65 (zg7 F65 T C60) (mg_of X G a65) b65
 have C66:Can l.prog w K mg base 8 "firsts" ["sheet"] (zdz K):=Can.of F66 (ok_firsts F66 T C38 C65 C2 C46) (mg_of X G a66) b66
 have C67:Can l.prog w K mg base 8 "table_row" ["sheet","couple"] (zcS K):=Can.of F67 (zho F67 T C62 C57 C2) (mg_of X G a67) b67
 have C68:Can l.prog w K mg base 9 "deciders" ["sheet"] (zdg K):=Can.of F68 (zhV F68 T C66 C38 C65 C50 C2 C3) (mg_of X G a68) b68
 have C69:Can l.prog w K mg base 11 "by_place" ["places","couples"] (zda K):=Can.of F69 (zh3 F69 T L69 B C62) (mg_of X G a69) b69
 have C70:Can l.prog w K mg base 12 "ranking_of" ["cards","couples"] (zbd K):=Can.of F70 (zgl F70 T C60 C69) (mg_of X G a70) b70
 have C71:Can l.prog w K mg base 13 "partings_of" ["cards","couples"] (zbW K):=Can.of F71 (zfE F71 T C34 C70 C56) (mg_of X G a71) b71
 have C72:Can l.prog w K mg base 13 "ranking" ["sheet"] (zcJ K):=Can.of F72 (ok_ranking F72 T C70 C38 C2 C46) (mg_of X G a72) b72
 have C73:Can l.prog w K mg base 14 "partings" ["sheet"] (zdl K):=Can.of F73 (zhY F73 T C71 C38 C2 C46) (mg_of X G a73) b73
 have C74:Can l.prog w K mg base 14 "table" ["sheet"] (zf8 K):=Can.of F74 (ok_table F74 T C72 C57) (mg_of X G a74) b74
 have C75:Can l.prog w K mg base 15 "_law_told" ["_law_sheet_here","_law_names","_law_couples_here","_law_cards","_law_who","_law_spot"] (zdq K):=Can.of F75 (ziN F75 T C62 C72 C66 C73 C63 C68 C64 C67 C74 C14 C39 C16 C40 C41 C43 C23 C44 C45 C53 C58 C28) (mg_of X G a75) b75
 exact ok_law F76 T C15 C39 C51 C18 C19 C20 C52 C61 C25 C75 C30 C2 C31
theorem walk{l:PySem.W.OpenLaw}{q:Program}{loose:List Str}{XP:(Str→Option Value)→Heap→Prop}{YP:World→Heap→Prop}{d:DefRec}{K:Params→Frag}(hn:l.most=some 63)(hdf:d.params.defaults=[])
 (hY:∀(w:World)(h:Heap),YP w h→(K w.params).In h)
 (hrec:∃dd,(PyProof.Rows.recsOf q).find? (fun e=>e.name==("by_place":Str))=some dd)
 (F:∀(w:World)(mg:Str→Option Value)(fa:Addr)(h:Heap),(K w.params).In h→h.Ns mainGlobals mg→mg d.name=some (.ref fa) →
   LamK (K w.params) "by_place"∧∃fd:FuncData,(∀(s:Shared)(u:Value),BindsTo s fd ⟨[u],[]⟩ [("_law_script",u)])∧∀base:Heap,(K w.params).In base→base.Ns mainGlobals mg→zdY mg base→FnOk l.prog w (K w.params) mg base CX0 16 fa fd ["_law_script"] (zhy (K w.params))) :
 PySem.W.WalkO q loose XP YP l.row.toRowW d [] (fun f vs=>PySem.call f vs) :=
 L2.walk_ofT (n:=63) (k:=16) (x:= "_law_script") (y:= "by_place") (CX:=fun _=>CX0) (sp:=fun w=>zhy (K w.params)) hn (by decide) hdf ⟨rfl,by decide,by decide⟩ hrec hY F (fun _ _ a ns hl hT hS=>⟨a,ns,rfl,hS,hl,hT,fun _=>rfl⟩) fun _ _ _ _ _ z=>z
end
end Pp
namespace PySem.W.Fast
def tw13236368498072445400:=0
def tw580259102353291567:=0
def tw5294968496494015109:=0
def tw5525813853691536739:=0
def tw9941938612291463183:=0
def tw9546439937409540489:=0
def tw15185293310619679402:=0
def tw18282940814217394635:=0
def tw3419573389046743703:=0
def tw11898579493583414905:=0
def tw14114093453273663575:=0
def tw7645873930576702698:=0
def tw16364705926878812500:=0
def tw18273393901455579599:=0
def tw15806174952988929477:=0
def tw3132304415211440506:=0
def tw12757227419873776976:=0
def tw3221128862126232035:=0
def tw2545285296443531759:=0
def tw15401912847777882483:=0
def tw5006852256883783581:=0
def tw9574975540405841600:=0
def tw15072603501212436955:=0
def tw10668370046448678347:=0
def tw16306213579350047268:=0
def tw7238459255459071708:=0
def tw18121770603722194506:=0
def tw7951321003647851297:=0
def tw6819793236882398189:=0
def tw6303299635812847068:=0
def tw4043844520141042412:=0
def tw16310599027910972574:=0
def tw6664000026632291561:=0
def tw745550234215895770:=0
def tw8997562725923672095:=0
def tw1171123394827187131:=0
def tw6308988481219932497:=0
def tw14957949573105930876:=0
def tw18238248594388773382:=0
def tw13216841595980055977:=0
def tw10116112877084916177:=0
def tw5722035798729303701:=0
def tw6006134986784801876:=0
def tw11736942916590426726:=0
def tw17367944138787377837:=0
def tw10954834192420183481:=0
def tw6007410038268183452:=0
def tw8896022184691793958:=0
def tw4306022647907155565:=0
def tw11277886856047869748:=0
def tw16987396886774043468:=0
def tw7232208994690319194:=0
def tw6160055403213584495:=0
def tw8109509249418775258:=0
def tw572077266540909557:=0
def tw11045426413246657998:=0
def tw1240844767265253893:=0
def tw18058274037725935536:=0
def tw3717621747820728120:=0
def tw10209081875295646621:=0
def tw280039750030971606:=0
def tw4305638644779631153:=0
def tw13408990416462044024:=0
def tw8645578629610103749:=0
def tw1262531145564125862:=0
def tw13153037062213717172:=0
def tw650283677402051399:=0
def tw11858366672936584977:=0
def tw16242182026573461593:=0
def tw4759045454262482352:=0
def tw5074576615788159440:=0
def tw15336151265364857242:=0
def tw11956439843493411261:=0
def tw522717405965421123:=0
def tw4293223814722337880:=0
def tw3965275866850875747:=0
def tw9587325536774721476:=0
def tw6807154285863653716:=0
def tw6795428085992109533:=0
def tw12078096064080440001:=0
def tw9546611491754960197:=0
def tw12787794671101890408:=0
def tw13900800639543409305:=0
def tw5019857542883845342:=0
def tw8952178623162120741:=0
def tw13626568220114374289:=0
def tw18265444975906384918:=0
def tw196152326695527897:=0
def tw12994803930144394289:=0
def tw2944750015130776079:=0
def tw3528405304437440491:=0
def tw547773487618995258:=0
def tw15473886968395437173:=0
def tw8882459494469841223:=0
def tw17852556910188272174:=0
def tw3311640347574552416:=0
def tw9502391760889141823:=0
def tw7851105852897769271:=0
def tw7369444662223159099:=0
def tw16812033191724017984:=0
def tw16721427492667664360:=0
def tw15160324025828279982:=0
def tw15768725509566737329:=0
def tw4415683225376657592:=0
def tw1804781085643394785:=0
def tw6516704151471620317:=0
def tw4215945107521523788:=0
def tw6648830847435927224:=0
def tw590155055477181050:=0
def tw7895605349229108611:=0
def tw10284064706320739755:=0
def tw3301945617104672842:=0
def tw2078571837474475624:=0
def tw8738215901961414376:=0
def tw9834136575736359987:=0
def tw15517502193826670800:=0
def tw15908173728447968600:=0
def tw7909034166999455797:=0
def tw10386254418631463665:=0
def tw1262505864320955467:=0
def tw17743272020878842768:=0
def tw6798322510203888817:=0
def tw9168938534119248826:=0
def tw6122435766968093645:=0
def tw1606222262958679105:=0
def tw110286345945441762:=0
def tw13083550167782582302:=0
def tw14289551659038436161:=0
def tw17983759581694436795:=0
def tw12563080473157789104:=0
def tw17028214736471185048:=0
def tw12146315397820216335:=0
def tw14712272396143169872:=0
def tw14926546161991328276:=0
def tw2130888437977716375:=0
def tw10138496977090073667:=0
def tw17959246387239313992:=0
def tw8798535028870237608:=0
def tw10126830948061136803:=0
def tw5075751693028576401:=0
def tw7390097863407059903:=0
def tw2630425159409733786:=0
def tw3088672278166110957:=0
def tw17360059766360567707:=0
def tw5041549543719946843:=0
def tw17579150886110420571:=0
def tw16344353908685923444:=0
def tw1848290279115594020:=0
def tw8362919670130695812:=0
def tw13435184857035771059:=0
def tw5106195312217777389:=0
def tw2693862150873570374:=0
def tw3719992431040245833:=0
def tw17275776704408456704:=0
def tw9989219205337834189:=0
def tw12992327157134319541:=0
def tw14887841264350927416:=0
def tw1573388472840345122:=0
def tw13056114207310834194:=0
def tw16309926475975635203:=0
def tw11314381019195714367:=0
def tw16280375321810523619:=0
def tw14459118597347969678:=0
def tw201747391714454938:=0
def tw7247637680721927002:=0
def tw1829906411357568929:=0
def tw2307555534905299985:=0
def tw9872591497005109100:=0
def tw1497911651208551442:=0
def tw17848289085868644663:=0
def tw9081220667493087495:=0
def tw4699466858674631283:=0
def tw13190406766636689144:=0
def tw4059181283268933386:=0
def tw10915019421513209200:=0
def tw825728670546780294:=0
def tw13336087260910434124:=0
def tw1600863605939983547:=0
def tw10517112244970127583:=0
def tw33435409051765420:=0
def tw10272176062229887543:=0
def tw11883260482412765960:=0
def tw16408976316616992719:=0
def tw2340541609367531502:=0
def tw12816526080522583339:=0
def tw17419019748689984860:=0
def tw14048454761490947432:=0
def tw18064533792807307185:=0
def tw14123039647560647399:=0
def tw8773682102626772877:=0
def tw7497530425216522300:=0
def tw10403366739957276822:=0
def tw12507605350086732355:=0
def tw16625371944211889973:=0
def tw11182260322180297425:=0
def tw17581602055543798153:=0
def tw2630859290051744263:=0
def tw9911480388447864456:=0
def tw17273572331013783315:=0
def tw17110551396568161348:=0
def tw14114272200375718790:=0
def tw4091376379504690389:=0
def tw16575070659296455960:=0
def tw4038014183432727987:=0
def tw4416985477240457355:=0
def tw3041756795136799313:=0
def tw14798307112596276400:=0
def tw13588993624584636423:=0
def tw5236009678360861431:=0
def tw12170570211938543655:=0
def tw10285939863341794415:=0
def tw1840204150919675621:=0
def tw15488089404695156279:=0
def tw10724712562617241533:=0
def tw10952933884411878146:=0
def tw15165296154264353692:=0
def tw9885444292507351211:=0
def tw3458770744984828846:=0
def tw14173434001104689771:=0
def tw5263737836285322593:=0
def tw11423631178589831137:=0
def tw16792521393484323179:=0
def tw1919000407383678916:=0
def tw8100953246245326574:=0
def tw17681229440947348413:=0
def tw10157362151728083706:=0
def tw3351843551463057002:=0
def tw1352953923709197129:=0
def tw11899220492346395177:=0
def tw72239191256309418:=0
def tw14981736080120644239:=0
def tw10144042346644293194:=0
def tw16378645324257283965:=0
def tw4213332833743628669:=0
def tw2109935579507226207:=0
def tw13683403938450825992:=0
def tw5948061557803683277:=0
def tw13986898412929310468:=0
def tw9669911129126452033:=0
def tw5812225927530722539:=0
def tw26446106461676446:=0
end PySem.W.Fast
open PySem PySem.W PyProof.Rows
set_option maxRecDepth 100000 in
set_option maxHeartbeats 0 in
theorem PySem.Challenge.cw_panelplace_k41_whole_struck_as_if_never_holds : PySem.Challenge.rw_panelplace_k41_whole_struck_as_if_never.Holds := by
 w_on;o_law;k_head;(case hw=>w_witness2)
 k_fill
 refine Pp.walk (l:=PySem.Challenge.rw_panelplace_k41_whole_struck_as_if_never) rfl rfl (fun w h Y=>PySem.W.km_in_of Y) ⟨_,rfl⟩ ?F
 case F =>
  intro w mg fa h KX G hmg
  refine' Pp.all_mk KX G hmg ?oa_Sheet ?a0 ?i0 ?l0 ?c0 ?k0 ?a1 ?i1 ?l1 ?c1 ?k1 ?a2 ?i2 ?l2 ?c2 ?k2 ?a3 ?i3 ?l3 ?c3 ?k3 ?a4 ?l4 ?c4 ?k4 ?a5 ?l5 ?c5 ?k5 ?a6 ?l6 ?c6 ?k6 ?a7 ?l7 ?c7 ?k7 ?a8 ?l8 ?c8 ?k8 ?a9 ?l9 ?c9 ?k9 ?a10 ?l10 ?c10 ?k10 ?a11 ?l11 ?c11 ?k11 ?a12 ?l12 ?c12 ?k12 ?a13 ?l13 ?c13 ?k13 ?a14 ?l14 ?c14 ?k14 ?a15 ?l15 ?c15 ?k15 ?a16 ?l16 ?c16 ?k16 ?a17 ?l17 ?c17 ?k17 ?a18 ?l18 ?c18 ?k18 ?a19 ?l19 ?c19 ?k19 ?a20 ?l20 ?c20 ?k20 ?a21 ?l21 ?c21 ?k21 ?a22 ?l22 ?c22 ?k22 ?a23 ?l23 ?c23 ?k23 ?a24 ?l24 ?c24 ?k24 ?a25 ?l25 ?c25 ?k25 ?a26 ?l26 ?c26 ?k26 ?a27 ?l27 ?c27 ?k27 ?a28 ?l28 ?c28 ?k28 ?a29 ?i29 ?l29 ?c29 ?k29 ?a30 ?i30 ?l30 ?c30 ?k30 ?a31 ?i31 ?l31 ?c31 ?k31 ?a32 ?l32 ?c32 ?k32 ?a33 ?l33 ?c33 ?k33 ?a34 ?l34 ?c34 ?k34 ?a35 ?l35 ?c35 ?k35 ?a36 ?l36 ?c36 ?k36 ?a37 ?l37 ?c37 ?k37 ?a38 ?l38 ?c38 ?k38 ?a39 ?l39 ?c39 ?k39 ?a40 ?l40 ?c40 ?k40 ?a41 ?l41 ?c41 ?k41 ?a42 ?l42 ?c42 ?k42 ?a43 ?l43 ?c43 ?k43 ?a44 ?l44 ?c44 ?k44 ?a45 ?l45 ?c45 ?k45 ?a46 ?i46 ?l46 ?c46 ?k46 ?a47 ?l47 ?c47 ?k47 ?a48 ?l48 ?c48 ?k48 ?a49 ?l49 ?c49 ?k49 ?a50 ?l50 ?c50 ?k50 ?a51 ?l51 ?c51 ?k51 ?a52 ?l52 ?c52 ?k52 ?a53 ?l53 ?c53 ?k53 ?a54 ?i54 ?l54 ?c54 ?k54 ?a55 ?l55 ?c55 ?k55 ?a56 ?l56 ?c56 ?k56 ?a57 ?l57 ?c57 ?k57 ?a58 ?l58 ?c58 ?k58 ?a59 ?l59 ?c59 ?k59 ?a60 ?l60 ?c60 ?k60 ?a61 ?l61 ?c61 ?k61 ?a62 ?l62 ?c62 ?k62 ?a63 ?l63 ?c63 ?k63 ?a64 ?l64 ?c64 ?k64 ?a65 ?l65 ?c65 ?k65 ?a66 ?l66 ?c66 ?k66 ?a67 ?l67 ?c67 ?k67 ?a68 ?l68 ?c68 ?k68 ?a69 ?l69 ?c69 ?k69 ?qe ?qk ?qv ?qh ?qn ?a70 ?l70 ?c70 ?k70 ?a71 ?l71 ?c71 ?k71 ?a72 ?l72 ?c72 ?k72 ?a73 ?l73 ?c73 ?k73 ?a74 ?l74 ?c74 ?k74 ?a75 ?l75 ?c75 ?k75 ?a76 ?l76 ?c76 ?k76 ?z0 ?z1 ?z2 ?z3 ?z4 ?z5 ?z6 ?z7 ?z8 ?z9 ?z10 ?z11 ?z12 ?z13 ?z14 ?y0 ?y1 ?y2 ?y3 ?y4 ?xa1 ?xa2 ?xa3 ?xa4 ?xa5 ?xa6 ?xa7 ?xa8 ?xa9 ?xa11 ?xe1 ?xe2 ?xe3 ?xe4 ?xe5 ?xe6 ?xe7 ?xe8 ?xe9 ?xe11 ?opg_Sheet ?ohd_Sheet ?opo_Sheet ?osa_Sheet ?omk_Sheet ?okc_Sheet ?on_Sheet_standing ?on_Sheet_struck_so_far ?on_Sheet_panel ?on_Sheet_card_by_judge ?on_Sheet_taken_so_far ?on_Sheet_sealed
  case oa_Sheet|a0|i0|l0|c0|k0|a1|i1|l1|c1|k1|a2|i2|l2|c2|k2|a3|i3|l3|c3|k3|a4|l4|c4|k4|a5|l5|c5|k5|a6|l6|c6|k6|a7|l7|c7|k7|a8|l8|c8|k8|a9|l9|c9|k9|a10|l10|c10|k10|a11|l11|c11|k11|a12|l12|c12|k12|a13|l13|c13|k13|a14|l14|c14|k14|a15|l15|c15|k15|a16|l16|c16|k16|a17|l17|c17|k17|a18|l18|c18|k18|a19|l19|c19|k19|a20|l20|c20|k20|a21|l21|c21|k21|a22|l22|c22|k22|a23|l23|c23|k23|a24|l24|c24|k24|a25|l25|c25|k25|a26|l26|c26|k26|a27|l27|c27|k27|a28|l28|c28|k28|a29|i29|l29|c29|k29|a30|i30|l30|c30|k30|a31|i31|l31|c31|k31|a32|l32|c32|k32|a33|l33|c33|k33|a34|l34|c34|k34|a35|l35|c35|k35|a36|l36|c36|k36|a37|l37|c37|k37|a38|l38|c38|k38|a39|l39|c39|k39|a40|l40|c40|k40|a41|l41|c41|k41|a42|l42|c42|k42|a43|l43|c43|k43|a44|l44|c44|k44|a45|l45|c45|k45|a46|i46|l46|c46|k46|a47|l47|c47|k47|a48|l48|c48|k48|a49|l49|c49|k49|a50|l50|c50|k50|a51|l51|c51|k51|a52|l52|c52|k52|a53|l53|c53|k53|a54|i54|l54|c54|k54|a55|l55|c55|k55|a56|l56|c56|k56|a57|l57|c57|k57|a58|l58|c58|k58|a59|l59|c59|k59|a60|l60|c60|k60|a61|l61|c61|k61|a62|l62|c62|k62|a63|l63|c63|k63|a64|l64|c64|k64|a65|l65|c65|k65|a66|l66|c66|k66|a67|l67|c67|k67|a68|l68|c68|k68|a69|l69|c69|k69=>k_is
  (case qe=>exact rfl)
  case qk=>k_is
  (case qv=>exact rfl)
  case qh|qn=>kernel_rfl
  case a70|l70|c70|k70|a71|l71|c71|k71|a72|l72|c72|k72|a73|l73|c73|k73|a74|l74|c74|k74|a75|l75|c75|k75|a76|l76|c76|k76|z0|z1|z2|z3|z4|z5|z6|z7|z8|z9|z10|z11|z12|z13|z14|y0|y1|y2|y3|y4|xa1|xa2|xa3|xa4|xa5|xa6|xa7|xa8|xa9|xa11=>k_is
  case xe1|xe2|xe3|xe4|xe5|xe6|xe7|xe8|xe9|xe11=>kernel_rfl
  case opg_Sheet|ohd_Sheet|opo_Sheet|osa_Sheet|omk_Sheet|okc_Sheet|on_Sheet_standing|on_Sheet_struck_so_far|on_Sheet_panel|on_Sheet_card_by_judge|on_Sheet_taken_so_far|on_Sheet_sealed=>k_is


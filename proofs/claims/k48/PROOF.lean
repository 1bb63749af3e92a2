import PyProof.Rows.All
import Wide.All
import OpenK.AllK
import Wide.FinOn
import Lean
import PyProof.EqAt
import PyProof.EqKinds
import PyProof.TupleCall
import PyProof.ListRange
import KE.KSortAsk
import KE.KSortKey
import KE.KSortTup
import KE.KItemsList
import KE.KLam
import KE.KNestM
import PyProof.Rows.StrLen
import PyProof.Rows.Range3
import PyProof.CallStr
import PyProof.StrBlockL
import PyProof.MeetsStr
import PyProof.Rows.StrDigits
import PySem.Challenge.RW_panelplace_k48_whole_two_sheets_apart
open PySem.W (Frag InstAt callWith_K callWith_K0 cellsFrom_some codeIn emptyDict excIn findIn fnOf handedIn hasDictIn hideAll hideAll_get instObj isFn keepIn lookIn makesIn methodCall_KW methodObj mg_none_of mg_of nsIn of_hideAll plainGet plainGet_of plainOver takerIn typeIn)
open List (all_cons all_eq_true all_map any_cons append_assoc append_nil cons_append cons_lt_cons_iff drop_eq_getElem_cons drop_nil drop_of_length_le ext_getElem filter filterMap filterMap_nil filter_append filter_congr filter_cons filter_cons_of_neg filter_cons_of_pos filter_filter filter_map filter_nil find?_cons findIdx_cons flatMap flatMap_append foldl_cons forIn_cons forIn_nil forIn_toArray getD_eq_getElem?_getD getElem?_eq_getElem getElem?_map getElem?_range getElem_idxOf getElem_inj getElem_map getElem_mem getElem_range getElem_toArray idxOf_lt_length_of_mem length_append length_cons length_drop length_filter_le length_map length_nil length_pos_of_mem length_range length_singleton length_tail length_take length_zip lookup_cons map map_append map_congr_left map_cons map_drop map_map map_nil map_set map_take mem_append mem_append_left mem_append_right mem_cons mem_cons_of_mem mem_cons_self mem_of_getElem? nodup_append not_mem_nil of_mem_zip pairwise_lt_range push_toArray range' range_succ range_succ_eq_map replicate size_toArray take_append_drop take_length take_nil take_of_length_le take_succ)
open PyProof.Rows (boot_all boot_bool boot_int boot_isinstance boot_list boot_max boot_min boot_set boot_str boot_sum boot_tuple callWith_builtin1 callWith_type1 len_str_of_int)
open Nat (le_add_right le_of_eq le_of_lt le_refl le_succ le_trans lt_irrefl lt_of_lt_of_le lt_succ_of_lt lt_succ_self lt_trans mul_le_mul ne_of_gt ne_of_lt zero_le)
open PySem.Heap (SameBut get?_push_of_some get?_push_size get?_update_other lt_size size_push size_update)
noncomputable section
set_option Elab.async false
set_option linter.all false
set_option maxRecDepth 100000
namespace L2
open PySem PySem.Spec PyProof.Rows
abbrev Key:=Sum Int Str
def ziG:Key->Value->Bool
 | .inl k,v=>Value.isInt k v
 | .inr x,v=>Value.isStrOf x v
def keyH(w:World):Key->Int
 | .inl k=>hashInt k
 | .inr x=>hashStr w x
theorem yJ:∀{k:Key}{v:Value},ziG k v=true->(∃i t,k=Sum.inl i/\v=Value.int i t)\/(∃x t,k=Sum.inr x/\v=Value.str x t)
 | .inl i,v,h=>by
   obtain⟨t,e⟩:=Value.isInt_shape (k:=i) (v:=v) h;exact .inl ⟨i,t,rfl,e⟩
 | .inr x,v,h=>by
   obtain⟨t,e⟩:=Value.isStrOf_shape (x:=x) (v:=v) h;exact .inr ⟨x,t,rfl,e⟩
theorem keyIs_int(i:Int)(t:Tok):ziG (.inl i) (.int i t)=true:=by simp[ziG,Value.isInt]
theorem keyIs_str(x:Str)(t:Tok):ziG (.inr x) (.str x t)=true:=by simp[ziG,Value.isStrOf]
theorem key_ll(a b:Int):decide ((Sum.inl a:Key)=Sum.inl b)=(a==b):=by
 by_cases e:a=b
 ·subst e;simp
 ·have h:¬(Sum.inl a:Key)=Sum.inl b:=λq=>e (Sum.inl.inj q);rw[decide_eq_false h];exact(beq_eq_false_iff_ne.mpr e).symm
theorem key_rr(a b:Str):decide ((Sum.inr a:Key)=Sum.inr b)=decide (a=b):=by
 by_cases e:a=b
 ·subst e;simp
 ·have h:¬(Sum.inr a:Key)=Sum.inr b:=λq=>e (Sum.inr.inj q);rw[decide_eq_false h,decide_eq_false e]
theorem key_lr(a:Int)(b:Str):decide ((Sum.inl a:Key)=Sum.inr b)=false:=decide_eq_false (λq=>nomatch q)
theorem key_rl(a:Str)(b:Int):decide ((Sum.inr a:Key)=Sum.inl b)=false:=decide_eq_false (λq=>nomatch q)
def wB(prog:Program)(w:World):PySem.KeyKind prog w Key where
 is:=ziG
 hash:=keyH w
 inj:=λv a b ha hb=>by
  rcases yJ ha with⟨i,t,rfl,rfl⟩|⟨x,t,rfl,rfl⟩
  ·rcases yJ hb with⟨j,u,rfl,e⟩|⟨y,u,rfl,e⟩
   ·injection e with e1 _;rw[e1]
   ·exact nomatch e
  ·rcases yJ hb with⟨j,u,rfl,e⟩|⟨y,u,rfl,e⟩
   ·exact nomatch e
   ·injection e with e1 _;rw[e1]
 byValue:=λk v h=>by
  rcases yJ h with⟨i,t,rfl,rfl⟩|⟨x,t,rfl,rfl⟩ <;> rfl
 pyHash:=λhv h=>by
  rcases yJ hv with⟨i,t,rfl,rfl⟩|⟨x,t,rfl,rfl⟩
  ·exact wpAny_pyHash_int h
  ·exact wpAny_pyHash_str h
 eqBool:=λhu hv h=>by
  rcases yJ hu with⟨i,t,rfl,rfl⟩|⟨x,t,rfl,rfl⟩
  ·rcases yJ hv with⟨j,u,rfl,rfl⟩|⟨y,u,rfl,rfl⟩
   ·rw[key_ll]at h;exact wpAny_eqBool_int h
   ·rw[key_lr]at h;exact SeqAt.EqAt.int_str i t y u _ _ _ _ h
  ·rcases yJ hv with⟨j,u,rfl,rfl⟩|⟨y,u,rfl,rfl⟩
   ·rw[key_rl]at h;exact SeqAt.EqAt.str_int x t j u _ _ _ _ h
   ·rw[key_rr]at h;exact wpAny_eqBool_str h
 «strs» := λk x t v h=>by
  rcases yJ h with⟨i,u,rfl,e⟩|⟨y,u,rfl,e⟩
  ·exact nomatch e
  ·injection e with e1 _
   subst e1;cases v <;> rfl
theorem zjM(prog:Program)(w:World)(i:Int)(t:Tok):(wB prog w).is (.inl i) (.int i t)=true:=keyIs_int i t
theorem zkI(prog:Program)(w:World)(x:Str)(t:Tok):(wB prog w).is (.inr x) (.str x t)=true:=keyIs_str x t
inductive V where
 | non | bl (b:Bool) | int (i:Int) | str (x:Str) | byt (b:Array UInt8) | flt (b:UInt64) | ref (a:Addr) | ty (n:String)
 deriving DecidableEq
def RelV:V->Value->Prop
 | .non,u=>u=Value.none
 | .bl b,u=>u=Value.bool b
 | .int i,u=>∃t,u=Value.int i t
 | .str x,u=>∃t,u=Value.str x t
 | .byt b,u=>∃t,u=Value.bytes b t
 | .flt b,u=>∃t,u=Value.float b t
 | .ref a,u=>u=Value.ref a
 | .ty n,u=>u=Value.type n
abbrev Vals:List V->List Value->Prop:=Paired RelV
variable {us:List Value}
theorem Vals.length{xs:List V}(r:Vals xs us):xs.length=us.length:=Paired.length r
theorem Vals.get:∀{xs:List V}{us:List Value}{i:Nat}{x:V},Vals xs us->xs[i]? = some x->∃u,us[i]? = some u/\RelV x u
 | _,_,_,_,.nil,e=>by simp at e
 | _,_,0,_,.cons r _,e=>by simp at e;subst e;exact⟨_,rfl,r⟩
 | _,_,i+1,x,.cons _ t,e=>by
   obtain⟨u,h1,h2⟩:=Vals.get (i:=i) (x:=x) t (by simpa using e);exact⟨u,by simpa using h1,h2⟩
variable {u:Value}
theorem Vals.set{x:V}(r:RelV x u):∀{xs:List V}{us:List Value}(i:Nat),Vals xs us->Vals (xs.set i x) (us.set i u)
 | _,_,_,.nil=>.nil
 | _,_,0,.cons _ t=>.cons r t
 | _,_,i+1,.cons q t=>.cons q (Vals.set r i t)
theorem Vals.append:∀{xs ys:List V}{us ws:List Value},Vals xs us->Vals ys ws->Vals (xs++ys) (us++ws)
 | _,_,_,_,.nil,s=>s
 | _,_,_,_,.cons r t,s=>.cons r (Vals.append t s)
theorem Vals.take:∀{xs:List V}{us:List Value}(n:Nat),Vals xs us->Vals (xs.take n) (us.take n)
 | _,_,0,_=>.nil
 | _,_,_+1,.nil=>.nil
 | _,_,n+1,.cons r t=>.cons r (Vals.take n t)
theorem Vals.drop:∀{xs:List V}{us:List Value}(n:Nat),Vals xs us->Vals (xs.drop n) (us.drop n)
 | _,_,0,r=>r
 | _,_,_+1,.nil=>.nil
 | _,_,n+1,.cons _ t=>Vals.drop n t
def RelO:Option V->Option Value->Prop
 | some v,some u=>RelV v u
 | none,none=>True
 | _,_=>False
def KV{κ:Type}:List (κ×V)->List (κ×Value)->Prop:=Paired fun(p:κ×V) (q:κ×Value)=>p.1=q.1/\RelV p.2 q.2
def kV:Key->V
 | .inl i=>.int i
 | .inr x=>.str x
inductive HO where
  | lst (xs:List V)
  | tup (xs:List V)
  | dK (kvs:List (Key×V)) | dT (kvs:List (List Key×V))
  | set (S:Int->Bool) (n:Nat)
  | ins (C dx:Addr) (fs:List (Str×V))
  | own (x:Addr)
  | xd (fs:List (Str×V))
  | met (f x:Addr)
  | rng (lo hi:Int)
  | frz (o:Obj) (u:HO)
  | tbl (ps:Array Value)
  | ext (φ:Heap->Prop)
abbrev Hp:=Addr->Option HO
def upd(H:Hp)(a:Addr)(o:HO):Hp:=λb=>if b=a then some o else H b
variable {H:Hp}{a:Addr}{o:HO}
theorem zd:upd H a o a=some o:=by unfold upd;rw[if_pos rfl]
variable {b:Addr}
theorem zh(h:b≠a):upd H a o b=H b:=by unfold upd;rw[if_neg h]
theorem upd_upd{u:HO}:upd (upd H a o) a u=upd H a u:=by
 funext b;unfold upd;split <;> rfl
theorem yc{u:HO}(h:H a=some o)(h':H b=some u)(d:o≠u):a≠b:=by
 intro e;subst e;rw[h]at h';exact d (Option.some.inj h')
theorem zn(h:H a=some o)(h':H b=none):a≠b:=by
 intro e;subst e;rw[h]at h';cases h'
section
variable (P:Program)(w:World)
def ObjOk(H:Hp)(h:Heap)(a:Addr):HO->Prop
 | .lst xs=>xs.length<=sizeLine/\∃(its:List Value)(n:Nat),Vals xs its/\h.get? a=some { cls:=.type "list",data:=.seq its.toArray n }
 | .tup xs=>xs.length<=sizeLine/\∃its:List Value,Vals xs its/\IsTup h a its.toArray
 | .dK kvs=>kvs.length<=sizeLine/\(a==sysModules)=false/\∃vs,KV kvs vs/\h.DictOf (wB P w) a vs
 | .dT kvs=>kvs.length<=sizeLine/\(a==sysModules)=false/\∃xs:List (List Key×Addr×Value),
    Paired (fun(p:List Key×V) (q:List Key×Addr×Value)=>p.1=q.1/\H q.2.1=some (.tup (p.1.map kV))/\RelV p.2 q.2.2) kvs xs /\
    ∃o es ep,h.get? a=some o/\o.ExactDict/\o.data=.dict es ep/\es.toList=xs.map (entryOfKey (tupleKind (wB P w)))/\(xs.map (·.1)).Nodup
 | .set S n=>h.SetOf (intKind P w) a S n
 | .ins C dx fs=>H dx=some (.own a)/\fs.length<=1000/\dx≠a/\h.get? a=some (instObj C dx) /\
    ∃mA,h.Ns1 dx mA/\(∀f,RelO (fs.lookup f) (mA f))/\PySem.Within mA (fs.map (·.1))
 | .own _=>∃o,h.get? a=some o
 | .xd fs=>∃mA,h.Ns1 a mA/\∀f,RelO (fs.lookup f) (mA f)
 | .rng lo hi=>∃t u v,h.get? a=some { cls:=.type "range",data:=.fields #[.int lo t,.int hi u,.int 1 v] }
 | .frz o u=>h.get? a=some o/\ObjOk H h a u
 | .tbl ps=>h.get? a=some { cls:=.none,data:=.fields ps }
 | .met f x=>h.get? a=some (methodObj (.ref f) (.ref x))
 | .ext φ=>φ h/\(∃o,h.get? a=some o)/\∀h1 h2:Heap,φ h1->(∀o,h1.get? a=some o->h2.get? a=some o)->φ h2
def HOk(H:Hp)(h:Heap):Prop:=∀a o,H a=some o->ObjOk P w H h a o
end
section
variable {P:Program}{w:World}{H H':Hp}{h h':Heap}{a:Addr}{o:HO}
theorem ObjOk.lt(x:ObjOk P w H h a o):a<h.objs.size:=by
 cases o with
 | lst xs=>obtain⟨_,_,_,_,e⟩:=x;exact lt_size e
 | tup xs=>obtain⟨_,_,_,p⟩:=x;exact p.lt
 | dK kvs=>obtain⟨_,_,_,_,o,_,_,e,_⟩:=x;exact lt_size e
 | dT kvs=>obtain⟨_,_,_,_,o,_,_,e,_⟩:=x;exact lt_size e
 | set S n=>obtain⟨o,_,_,_,e,_⟩:=x;exact lt_size e
 | ins C dx fs=>obtain⟨_,_,_,e,_⟩:=x;exact lt_size e
 | own y=>obtain⟨_,e⟩:=x;exact lt_size e
 | xd fs=>obtain⟨_,⟨_,_,_,e,_⟩,_⟩:=x;exact lt_size e
 | rng lo hi=>obtain⟨_,_,_,e⟩:=x;exact lt_size e
 | frz ob u=>obtain⟨e,_⟩:=x;exact lt_size e
 | tbl ps=>exact lt_size (show h.get? a=some _ from x)
 | met f y=>exact lt_size (show h.get? a=some _ from x)
 | ext φ=>obtain⟨_,⟨_,e⟩,_⟩:=x;exact lt_size e
theorem Paired.mapP{α β:Type}{F G:α->β->Prop}:∀{l₁:List α}{l₂:List β},Paired F l₁ l₂->(∀a b,F a b->G a b)->Paired G l₁ l₂
 | _,_,.nil,_=>.nil
 | _,_,.cons r t,f=>.cons (f _ _ r) (Paired.mapP t f)
theorem ObjOk.stay(x:ObjOk P w H h a o)(k:∀b u,(b=a\/H b=some (.own a))->h.get? b=some u->h'.get? b=some u)
 (ho:∀b,H b=some (.own a)->H' b=some (.own a)) (ht:∀b xs,H b=some (.tup xs)->H' b=some (.tup xs)):ObjOk P w H' h' a o:=by
 induction o with
 | lst xs=>obtain⟨z,its,n,r,e⟩:=x;exact⟨z,its,n,r,k _ _ (.inl rfl) e⟩
 | tup xs=>obtain⟨z,its,r,ob,e,c⟩:=x;exact⟨z,its,r,ob,k _ _ (.inl rfl) e,c⟩
 | dK kvs=>obtain⟨z,y,vs,r,ob,es,ep,e,c⟩:=x;exact⟨z,y,vs,r,ob,es,ep,k _ _ (.inl rfl) e,c⟩
 | dT kvs =>
   obtain⟨z,y,xs,r,ob,es,ep,e,c⟩:=x;exact⟨z,y,xs,Paired.mapP r λp q z=>⟨z.1,ht _ _ z.2.1,z.2.2⟩,ob,es,ep,k _ _ (.inl rfl) e,c⟩
 | set S n=>obtain⟨ob,es,ep,t,e,c⟩:=x;exact⟨ob,es,ep,t,k _ _ (.inl rfl) e,c⟩
 | ins C dx fs =>
   obtain⟨d,z,ne,e,mA,⟨od,es,ep,e2,c⟩,r⟩:=x;exact⟨ho _ d,z,ne,k _ _ (.inl rfl) e,mA,⟨od,es,ep,k _ _ (.inr d) e2,c⟩,r⟩
 | own y=>obtain⟨ob,e⟩:=x;exact⟨ob,k _ _ (.inl rfl) e⟩
 | xd fs=>obtain⟨mA,⟨od,es,ep,e,c⟩,r⟩:=x;exact⟨mA,⟨od,es,ep,k _ _ (.inl rfl) e,c⟩,r⟩
 | rng lo hi=>obtain⟨t,u,v,e⟩:=x;exact⟨t,u,v,k _ _ (.inl rfl) e⟩
 | frz ob u ih=>obtain⟨e,q⟩:=x;exact⟨k _ _ (.inl rfl) e,ih q⟩
 | tbl ps =>
   have e:h.get? a=some { cls:=.none,data:=.fields ps }:=x;show h'.get? a=some { cls:=.none,data:=.fields ps };exact k a _ (.inl rfl) e
 | met f y =>
   have e:h.get? a=some (methodObj (.ref f) (.ref y)):=x;show h'.get? a=some (methodObj (.ref f) (.ref y));exact k a _ (.inl rfl) e
 | ext φ=>obtain⟨p,⟨o,e⟩,st⟩:=x;exact⟨st _ _ p λo q=>k _ _ (.inl rfl) q,⟨o,k _ _ (.inl rfl) e⟩,st⟩
theorem HOk.lt(x:HOk P w H h)(e:H a=some o):a<h.objs.size:=(x a o e).lt
theorem HOk.fresh(x:HOk P w H h)(e:h.objs.size<=a):H a=none:=by
 cases q:H a with
 | none=>rfl
 | some u=>exact absurd (lt_of_lt_of_le (x.lt q) e) (lt_irrefl _)
theorem HOk.kept(x:HOk P w H h)(k:∀b u,h.get? b=some u->h'.get? b=some u):HOk P w H h':=λa o e =>
 (x a o e).stay (λb u _ q=>k b u q) (λ_ q=>q) λ_ _ q=>q
theorem HOk.laid(x:HOk P w H h)(k:∀b u,h.get? b=some u->h'.get? b=some u)(hp:h.objs.size<=a)(new:ObjOk P w (upd H a o) h' a o):HOk P w (upd H a o) h':=λb u e=>by
 have hn:=x.fresh hp;by_cases hb:b=a
 ·subst hb;rw[zd]at e;cases e;exact new
 ·rw[zh hb]at e;exact(x b u e).stay (λc v _ q=>k c v q) (λc q=>by rw[zh (zn q hn)];exact q) λc xs q=>by rw[zh (zn q hn)];exact q
end
def Rd(H:Hp)(a:Addr)(u:HO):Prop:=H a=some u\/∃o,H a=some (.frz o u)
theorem Rd.of{u:HO}(h:H a=some u):Rd H a u:=.inl h
variable {P:Program}{w:World}{h:Heap}
theorem Rd.ok{u:HO}(r:Rd H a u)(x:HOk P w H h):ObjOk P w H h a u:=by
 rcases r with r | ⟨o,r⟩
 ·exact x a u r
 ·obtain⟨_,q⟩:=x a _ r;exact q
def Mut:Option HO->Prop
 | some (.lst _)=>True
 | some (.dK _)=>True
 | some (.dT _)=>True
 | some (.set _ _)=>True
 | some (.ins _ _ _)=>True
 | some (.ext _)=>True
 | _=>False
section
variable {P:Program}{w:World}{H:Hp}{h h':Heap}{x e:Addr}{o':HO}
theorem HOk.write(ok:HOk P w H h)(mu:Mut (H x))(he:e=x\/H e=some (.own x))(k:∀b u,b≠e->h.get? b=some u->h'.get? b=some u)(heo:∃u,h'.get? e=some u)
 (new:ObjOk P w (upd H x o') h' x o'):HOk P w (upd H x o') h':=λb u q=>by
 have nown:∀c y,H c=some (.own y)->c≠x:=λc y r z=>by subst z;rw[r]at mu;exact mu
 have ntup:∀c xs,H c=some (.tup xs)->c≠x:=λc xs r z=>by subst z;rw[r]at mu;exact mu
 by_cases hb:b=x
 ·subst hb;rw[zd]at q;cases q;exact new
 ·rw[zh hb]at q;by_cases hbe:b=e
  ·have q':H b=some (.own x):=by
    rcases he with z | z
    ·exact absurd (hbe.trans z) hb
    ·rw[hbe];exact z
   rw[q]at q';cases q';obtain⟨v,hv⟩:=heo;exact⟨v,by rw[hbe];exact hv⟩
  ·refine(ok b u q).stay (λc v hc r=>k c v ?_ r) (λc r=>by rw[zh (nown c b r)];exact r) λc xs r=>by rw[zh (ntup c xs r)];exact r
   rcases hc with rfl | hc
   ·exact hbe
   ·rintro rfl;rcases he with z | z
    ·exact nown c b hc z
    ·rw[hc]at z;cases z;exact hb rfl
end
structure Un (fs ex:List Addr) (H H':Hp) (h h':Heap):Prop where
 keep:∀b o,h.get? b=some o->H b=none->b∉fs->b∉ex->h'.get? b=some o
 slot:∀b o,h.get? b=some o->H b=none->b∈fs->b∉ex->∃sl,h'.get? b=some { o with slots:=sl }
 free:∀b o,h.get? b=some o->H b=none->b∉ex->H' b=none
 there:∀b o,h.get? b=some o->b∉ex->∃o',h'.get? b=some o'
 tups:∀b xs,H b=some (.tup xs)->H' b=some (.tup xs)
 frzs:∀b o u,H b=some (.frz o u)->H' b=some (.frz o u)
 tbls:∀b ps,H b=some (.tbl ps)->∃more,H' b=some (.tbl (ps++more))
section
variable {fs fs' ex ex':List Addr}{H H1 H2:Hp}{h h1 h2 h':Heap}{a x e:Addr}{o:HO}
theorem Un.any(u:Un fs ex H H1 h h1){b:Addr}{ob:Obj}(q:h.get? b=some ob)(n:H b=none)(hx:b∉ex):∃sl,h1.get? b=some { ob with slots:=sl }:=by
 by_cases hb:b∈fs
 ·exact u.slot b ob q n hb hx
 ·exact⟨ob.slots,u.keep b ob q n hb hx⟩
theorem Un.trans(a:Un fs ex H H1 h h1)(b:Un fs ex H1 H2 h1 h2):Un fs ex H H2 h h2 where
 keep:=λc ob q n hc hx=>b.keep c ob (a.keep c ob q n hc hx) (a.free c ob q n hx) hc hx
 slot:=λc ob q n hc hx=>by
  obtain⟨sl,e1⟩:=a.slot c ob q n hc hx;obtain⟨sl',e2⟩:=b.slot c _ e1 (a.free c ob q n hx) hc hx;exact⟨sl',e2⟩
 free:=λc ob q n hx=>by
  obtain⟨o',e1⟩:=a.there c ob q hx;exact b.free c o' e1 (a.free c ob q n hx) hx
 there:=λc ob q hx=>by
  obtain⟨o',e1⟩:=a.there c ob q hx;exact b.there c o' e1 hx
 tups:=λc xs q=>b.tups c xs (a.tups c xs q)
 frzs:=λc ob xs q=>b.frzs c ob xs (a.frzs c ob xs q)
 tbls:=λc ps q=>by
  obtain⟨m1,e1⟩:=a.tbls c ps q;obtain⟨m2,e2⟩:=b.tbls c _ e1;exact⟨m1++m2,by rw[e2,Array.append_assoc]⟩
theorem Un.kept(k:∀b u,h.get? b=some u->h'.get? b=some u):Un fs ex H H h h' :=
 ⟨λb ob q _ _ _=>k b ob q,λb ob q _ _ _=>⟨ob.slots,k b ob q⟩,λ_ _ _ n _=>n,λb ob q _=>⟨ob,k b ob q⟩,λ_ _ q=>q,λ_ _ _ q=>q,λ_ ps q=>⟨#[],by rw[q];simp⟩⟩
theorem Un.refl:Un fs ex H H h h:=Un.kept λ_ _ q=>q
theorem Un.laid(k:∀b u,h.get? b=some u->h'.get? b=some u)(hp:h.objs.size<=a)(hn:H a=none):Un fs ex H (upd H a o) h h' where
 keep:=λb u q _ _ _=>k b u q
 slot:=λb u q _ _ _=>⟨u.slots,k b u q⟩
 free:=λb u q n _=>by rw[zh (ne_of_lt (lt_of_lt_of_le (lt_size q) hp))];exact n
 there:=λb u q _=>⟨u,k b u q⟩
 tups:=λb xs q=>by rw[zh (zn q hn)];exact q
 frzs:=λb u xs q=>by rw[zh (zn q hn)];exact q
 tbls:=λb ps q=>⟨#[],by rw[zh (zn q hn),q];simp⟩
theorem Un.write(mu:Mut (H x))(he:e=x\/H e=some (.own x))(k:∀b u,b≠e->h.get? b=some u->h'.get? b=some u)(heo:∃u,h'.get? e=some u):Un fs ex H (upd H x o) h h':=by
 have hx:∀b,H b=none->b≠x:=λb n z=>by subst z;rw[n]at mu;exact mu
 have hb:∀b,H b=none->b≠e:=λb n z=>by
  subst z;rcases he with r | r
  ·exact hx b n r
  ·rw[n]at r;cases r
 have hm:∀b u,H b=some u->¬Mut (some u)->b≠x:=λb u q nm z=>by subst z;rw[q]at mu;exact nm mu
 refine⟨λb u q n _ _=>k b u (hb b n) q,λb u q n _ _=>⟨u.slots,k b u (hb b n) q⟩,λb u q n _=>by rw[zh (hx b n)];exact n,λb u q _=>?_,
  λb xs q=>by rw[zh (hm b _ q λz=>z)];exact q,λb u xs q=>by rw[zh (hm b _ q λz=>z)];exact q,λb ps q=>⟨#[],by rw[zh (hm b _ q λz=>z),q];simp⟩⟩
 by_cases hbe:b=e
 ·subst hbe;exact heo
 ·exact⟨u,k b u hbe q⟩
end
def trk(h:Heap)(H:Hp):List Addr:=(List.range h.objs.size).filter λa=>(H a).isSome
def zhV(h:Heap)(H:Hp):Heap:=hideAll h (trk h H)
theorem hidT_size(h:Heap)(H:Hp):(zhV h H).objs.size=h.objs.size:=PySem.W.hideAll_size _ _
theorem hidT_get{o:Obj}(e:h.get? b=some o)(n:H b=none):(zhV h H).get? b=some o :=
 hideAll_get _ e λhm=>by
  have q:(H b).isSome=true:=(List.mem_filter.mp hm).2;rw[n]at q;simp at q
theorem of_hidT{o:Obj}(e:(zhV h H).get? b=some o):h.get? b=some o/\H b=none:=by
 have e':h.get? b=some o:=of_hideAll (trk h H) e;refine⟨e',?_⟩;cases q:H b with
 | none=>rfl
 | some x =>
   have hm:b∈trk h H:=List.mem_filter.mpr ⟨List.mem_range.mpr (lt_size e'),by simp[q]⟩;have z:(zhV h H).get? b=none:=PySem.W.hideAll_none (trk h H) hm;rw[z]at e;cases e
def allNews(g h:Heap)(L:Addr):List (Addr×Obj):=(List.range h.objs.size).filterMap λa=>if a=L\/(g.get? a).isSome=true then none else(h.get? a).map λo=>(a,o)
def zfe(g h:Heap)(L d:Addr):List (Addr×Obj):=(allNews g h L).filter λp=>decide (p.1≠d)
structure Mod (K:Frag) (mg:Str->Option Value) (base:Heap):Prop where
 kin:K.In base
 glob:base.Ns mainGlobals mg
 blt:∃mb,base.Ns builtinsNs mb/\∀x:Str,x≠"__name__"->mb x=bootBuiltins x
 nolimit:base.NoLimit
structure Cx where
 prog:Program
 w:World
 K:Frag
 mg:Str->Option Value
 base:Heap
 A:Around
 N:List Str
 s₀:Shared
 H₀:Hp
 env:Env
 outer:List Env
 stack:List Env
 ex:List Addr
 fn:Str->Bool
 calm:Bool
 pn:List (Addr×Obj)
 xe:Value->Shared->Prop
def frs(l:List Env):List Addr:=l.filterMap (·.frame)
abbrev Cx.fs(X:Cx):List Addr:=frs X.outer
def Vis(sc:Scope)(x:Str):Prop:=sc.names.lookup x=some .local\/sc.names.lookup x=some .cell\/sc.names.lookup x=some .free
def Loc(sc:Scope)(x:Str):Prop:=sc.names.lookup x=some .local\/sc.names.lookup x=some .cell
def Look(env:Env)(h:Heap)(m:Str->Option Value)(x:Str)(u:Value):Prop :=
 (env.kindOf x=some .local/\m x=some u)\/((env.kindOf x=some .cell\/env.kindOf x=some .free)/\∃c,env.cells.lookup x=some c/\h.IsCell c (some u))
structure Cx.Ok (X:Cx):Prop where
 mod:Mod X.K X.mg X.base
 kind:X.env.scope.kind=.function
 glob:X.env.globals=mainGlobals
 blt:X.env.builtins=builtinsNs
 above:X.s₀.heap.objs.size<=X.env.locals
 inj:∀x y c,X.env.cells.lookup x=some c->X.env.cells.lookup y=some c->x=y
 has:∀x,(X.env.kindOf x=some .cell\/X.env.kindOf x=some .free)->∃c,X.env.cells.lookup x=some c
 cab:∀x c,X.fn x=true->X.env.cells.lookup x=some c->X.s₀.heap.objs.size<=c
 hd:X.calm=true->X.A.handled=none
 frames:X.A.frames=some X.stack
 stk:X.stack=X.outer\/(X.stack=X.env::X.outer/\X.env.frame=some X.env.locals)
 exf:∀b∈X.ex,b≠X.env.locals/\∀x c,X.env.cells.lookup x=some c->c≠b
 bs:∀b o,X.base.get? b=some o->X.s₀.heap.get? b=some o/\X.H₀ b=none
 bsz:X.base.objs.size<=X.s₀.heap.objs.size
 noex:∀b o,X.base.get? b=some o->b∉X.ex
 exfs:∀b∈X.ex,b∉X.fs
 funs:X.s₀.heap.FunFrames X.base X.outer
 frf:∀b∈X.fs,X.H₀ b=none
structure Inv (X:Cx) (pins:List (Addr×Obj)) (σ:List (Option V)) (H:Hp) (s:Shared):Prop where
 ok:X.Ok
 os:s.os=X.s₀.os
 bare:AllBare s.gens
 base:Un X.fs X.ex X.H₀ H X.s₀.heap s.heap
 loc:∃m,s.heap.Ns X.env.locals m/\∀(i:Nat)(x:Str)(v:V),X.N[i]? = some x->σ[i]? = some (some v)->Vis X.env.scope x->∃u,RelV v u/\Look X.env s.heap m x u
 cell:∀x c,X.env.cells.lookup x=some c->∃v,s.heap.IsCell c v
 free:H X.env.locals=none
 freeC:∀x c,X.env.cells.lookup x=some c->H c=none
 pin:∀p∈X.pn++pins,s.heap.get? p.1=some p.2/\H p.1=none/\p.1≠X.env.locals/\p.1∉X.fs/\∀v,p.2.data ≠ .cell v
 hok:HOk X.prog X.w H s.heap
 len:σ.length=X.N.length
section
variable {X:Cx}{pins:List (Addr×Obj)}{σ:List (Option V)}{H H':Hp}{s:Shared}{h':Heap}
theorem Cx.Ok.nofr(ok:X.Ok){b:Addr}{o:Obj}(e:X.base.get? b=some o):b∉X.fs:=λhb=>by
 have:=(ok.funs.mem hb).1;rw[e]at this;cases this
theorem Inv.bs(I:Inv X pins σ H s):∀b o,X.base.get? b=some o->s.heap.get? b=some o/\H b=none:=λb o e =>
 ⟨I.base.keep b o (I.ok.bs b o e).1 (I.ok.bs b o e).2 (I.ok.nofr e) (I.ok.noex b o e),I.base.free b o (I.ok.bs b o e).1 (I.ok.bs b o e).2 (I.ok.noex b o e)⟩
theorem Inv.bk(I:Inv X pins σ H s):∀b o,X.base.get? b=some o->s.heap.get? b=some o:=λb o e=>(I.bs b o e).1
theorem Inv.mod(I:Inv X pins σ H s):Mod X.K X.mg X.base:=I.ok.mod
theorem Inv.kIn(I:Inv X pins σ H s):X.K.In s.heap:=I.ok.mod.kin.keeps I.bk
theorem Inv.lt(I:Inv X pins σ H s):X.env.locals<s.heap.objs.size:=let ⟨_,hn,_⟩:=I.loc;hn.lt
theorem Inv.sz(I:Inv X pins σ H s):X.s₀.heap.objs.size<=s.heap.objs.size:=le_trans I.ok.above (le_of_lt I.lt)
theorem Inv.nofs(I:Inv X pins σ H s){a:Addr}(h:s.heap.objs.size<=a):a∉X.fs:=λhb=>by
 obtain⟨_,o,ho,_⟩:=I.ok.funs.mem hb;exact absurd (lt_of_lt_of_le (lt_size ho) (le_trans I.sz h)) (lt_irrefl _)
theorem Inv.cne(I:Inv X pins σ H s):∀x c,X.env.cells.lookup x=some c->c≠X.env.locals:=λx c e z=>by
 obtain⟨v,o,ho,hd⟩:=I.cell x c e;obtain⟨m,⟨o',es,ep,ho',hd',_⟩,_⟩:=I.loc;rw[z,ho']at ho;cases ho;rw[hd']at hd;cases hd
theorem Inv.funs(I:Inv X pins σ H s):s.heap.FunFrames X.base X.outer:=by
 have all:∀(l:List Env),(∀b∈frs l,b∈X.fs)->X.s₀.heap.FunFrames X.base l->s.heap.FunFrames X.base l:=by
  intro l
  induction l with
  | nil=>intro _ _;trivial
  | cons env r ih =>
    intro hs hl;obtain⟨hk,⟨L,o,hf,hn,ho,hd⟩,hr⟩:=hl;have hL:L∈X.fs:=hs L (by unfold frs;rw[List.filterMap_cons,hf];exact mem_cons_self);obtain⟨sl,e⟩:=I.base.slot L o ho (I.ok.frf L hL) hL λz=>I.ok.exfs L z hL;exact⟨hk,⟨L,_,hf,hn,e,hd⟩,ih (λb hb=>hs b (by unfold frs;rw[List.filterMap_cons,hf];exact mem_cons_of_mem _ hb)) hr⟩
 exact all X.outer (λ_ hb=>hb) I.ok.funs
theorem Inv.stack(I:Inv X pins σ H s):s.heap.FunFrames X.base X.stack:=by
 rcases I.ok.stk with e | ⟨e,hf⟩
 ·rw[e];exact I.funs
 ·rw[e];obtain⟨m,hn,_⟩:=I.loc;refine .cons (by rw[I.ok.kind];decide) hf hn ?_ I.funs;exact Heap.get?_none_of_le (le_trans I.ok.bsz I.ok.above)
theorem Inv.stkSub(I:Inv X pins σ H s):∀b∈frs X.stack,b∈X.env.locals::X.fs:=λb hb=>by
 rcases I.ok.stk with e | ⟨e,hf⟩
 ·rw[e]at hb;exact mem_cons_of_mem _ hb
 ·rw[e]at hb;unfold frs at hb;rw[List.filterMap_cons,hf]at hb;exact hb
theorem Inv.stkFree(I:Inv X pins σ H s):∀b∈frs X.stack,H b=none:=λb hb=>by
 rcases List.mem_cons.mp (I.stkSub b hb)with e | hb
 ·rw[e];exact I.free
 ·obtain⟨_,o,ho,_⟩:=I.ok.funs.mem hb;exact I.base.free b o ho (I.ok.frf b hb) λz=>I.ok.exfs b z hb
variable {g':Array GenState}{t':Nat}{ch:List Addr}
theorem Inv.step{d':Drawn}(I:Inv X pins σ H s)
 (hch:∀b∈ch,(b∈X.ex\/X.s₀.heap.objs.size<=b)/\b≠X.env.locals/\(∀x c,X.env.cells.lookup x=some c->c≠b)/\∀p∈X.pn++pins,p.1≠b)
 (keep:∀b o,b≠X.env.locals->b∉X.fs->b∉ch->s.heap.get? b=some o->H b=none->h'.get? b=some o)
 (slot:∀b o,b≠X.env.locals->b∈X.fs->b∉ch->s.heap.get? b=some o->H b=none->∃sl,h'.get? b=some { o with slots:=sl }) (free:∀b o,b∉ch->s.heap.get? b=some o->H b=none->H' b=none)
 (there:∀b o,b∉ch->s.heap.get? b=some o->∃o',h'.get? b=some o')
 (tups:∀b xs,H b=some (.tup xs)->H' b=some (.tup xs)) (frzs:∀b o u,H b=some (.frz o u)->H' b=some (.frz o u)) (tbls:∀b ps,H b=some (.tbl ps)->∃more,H' b=some (.tbl (ps++more)))
 (ns:∀m,s.heap.Ns X.env.locals m->h'.Ns X.env.locals m) (hok:HOk X.prog X.w H' h') (hg:AllBare g') :
 Inv X pins σ H' { s with heap:=h',gens:=g',drawn:=d',toks:=t' }:=by
 have neL:∀b o,X.s₀.heap.get? b=some o->b≠X.env.locals:=λb o e=>ne_of_lt (lt_of_lt_of_le (lt_size e) I.ok.above);have neC:∀b o,X.s₀.heap.get? b=some o->b∉X.ex->b∉ch:=λb o e hx hb=>by
  rcases (hch b hb).1 with z | z
  ·exact hx z
  ·exact absurd (lt_of_lt_of_le (lt_size e) z) (lt_irrefl _)
 have cellK:∀x c,X.env.cells.lookup x=some c->∀v,s.heap.IsCell c v->h'.IsCell c v:=λx c e v ⟨o,ho,hd⟩=>by
  have nch:c∉ch:=λz=>(hch c z).2.2.1 x c e rfl;by_cases hc:c∈X.fs
  ·obtain⟨sl,q⟩:=slot c o (I.cne x c e) hc nch ho (I.freeC x c e);exact⟨_,q,hd⟩
  ·exact⟨o,keep c o (I.cne x c e) hc nch ho (I.freeC x c e),hd⟩
 refine⟨I.ok,I.os,hg,⟨λb o e n hb hx=>?_,λb o e n hb hx=>?_,λb o e n hx=>?_,λb o e hx=>?_,λb xs e=>tups b xs (I.base.tups b xs e),λb o xs e=>frzs b o xs (I.base.frzs b o xs e),λb ps e=>?_⟩,?_,λx c e=>?_,?_,λx c e=>?_,λp hp=>?_,hok,I.len⟩
 ·exact keep b o (neL b o e) hb (neC b o e hx) (I.base.keep b o e n hb hx) (I.base.free b o e n hx)
 ·obtain⟨sl,e1⟩:=I.base.slot b o e n hb hx;obtain⟨sl',e2⟩:=slot b _ (neL b o e) hb (neC b o e hx) e1 (I.base.free b o e n hx);exact⟨sl',e2⟩
 ·obtain⟨o',e1⟩:=I.base.there b o e hx;exact free b o' (neC b o e hx) e1 (I.base.free b o e n hx)
 ·obtain⟨o',e1⟩:=I.base.there b o e hx;exact there b o' (neC b o e hx) e1
 ·obtain⟨m1,e1⟩:=I.base.tbls b ps e;obtain⟨m2,e2⟩:=tbls b _ e1;exact⟨m1++m2,by rw[e2,Array.append_assoc]⟩
 ·obtain⟨m,hn,hl⟩:=I.loc;refine⟨m,ns m hn,λi x v e1 e2 e3=>?_⟩;obtain⟨u,r,l⟩:=hl i x v e1 e2 e3;refine⟨u,r,?_⟩;rcases l with l | ⟨k,c,e,z⟩
  ·exact .inl l
  ·exact .inr ⟨k,c,e,cellK x c e _ z⟩
 ·obtain⟨v,z⟩:=I.cell x c e;exact⟨v,cellK x c e v z⟩
 ·obtain⟨m,⟨o,_,_,ho,_⟩,_⟩:=I.loc;exact free _ o (λz=>(hch _ z).2.1 rfl) ho I.free
 ·obtain⟨v,o,ho,hd⟩:=I.cell x c e;exact free c o (λz=>(hch c z).2.2.1 x c e rfl) ho (I.freeC x c e)
 ·obtain⟨e,n,ne,nf,d⟩:=I.pin p hp;have nch:p.1∉ch:=λz=>(hch p.1 z).2.2.2 p hp rfl;exact⟨keep p.1 p.2 ne nf nch e n,free p.1 p.2 nch e n,ne,nf,d⟩
theorem Inv.un(I:Inv X pins σ H s)(u:Un X.fs [] H H' s.heap h')(hok:HOk X.prog X.w H' h'):Inv X pins σ H' { s with heap:=h',toks:=t' }:=by
 obtain⟨m,⟨o,es,ep,ho,r⟩,_⟩:=id I.loc;obtain⟨sl,hL⟩:=u.any ho I.free (by simp);exact I.step (g':=s.gens) (d':=s.drawn) (ch:=[]) (λ_ z=>nomatch z) (λb o _ hb _ e n=>u.keep b o e n hb (by simp)) (λb o _ hb _ e n=>u.slot b o e n hb (by simp)) (λb o _ e n=>u.free b o e n (by simp)) (λb o _ e=>u.there b o e (by simp)) u.tups u.frzs u.tbls (λm' hm=>by
  obtain⟨o',es',ep',ho',r'⟩:=hm;rw[ho]at ho';cases ho';exact⟨_,es',ep',hL,r'⟩) hok I.bare
theorem Inv.call{d':Drawn}(I:Inv X pins σ H s)(u:Un (frs X.stack) ch H H' s.heap h')(hok:HOk X.prog X.w H' h')(hg:AllBare g')
 (hch:∀b∈ch,(b∈X.ex\/X.s₀.heap.objs.size<=b)/\b≠X.env.locals/\(∀x c,X.env.cells.lookup x=some c->c≠b)/\∀p∈X.pn++pins,p.1≠b) :
 Inv X pins σ H' { s with heap:=h',gens:=g',drawn:=d',toks:=t' }:=by
 obtain⟨m,⟨o,es,ep,ho,r⟩,_⟩:=id I.loc;obtain⟨sl,hL⟩:=u.any ho I.free λz=>(hch _ z).2.1 rfl;exact I.step (ch:=ch) hch (λb o hL hb hc e n=>u.keep b o e n (λz=>(List.mem_cons.mp (I.stkSub b z)).elim hL hb) hc) (λb o _ _ hc e n=>u.any e n hc) (λb o hc e n=>u.free b o e n hc) (λb o hc e=>u.there b o e hc) u.tups u.frzs u.tbls (λm' hm=>by
  obtain⟨o',es',ep',ho',r'⟩:=hm;rw[ho]at ho';cases ho';exact⟨_,es',ep',hL,r'⟩) hok hg
theorem Inv.turned{it:Addr}(I:Inv X pins σ H s)(k:∀b o,b≠it->s.heap.get? b=some o->h'.get? b=some o)(hn:H it=none)(hL:it≠X.env.locals)
 (h1:it∈X.ex\/X.s₀.heap.objs.size<=it) (h2:∀x c,X.env.cells.lookup x=some c->c≠it) (h3:∀p∈X.pn++pins,p.1≠it):Inv X pins σ H { s with heap:=h',toks:=t' }:=by
 have nit:∀b u,H b=some u->b≠it:=λb u e z=>by rw[z,hn]at e;cases e
 refine I.step (g':=s.gens) (d':=s.drawn) (ch:=[it]) (λb hb=>?_) (λb o _ _ hc e _=>k b o (λz=>hc (by simp[z])) e) (λb o _ _ hc e _=>⟨o.slots,k b o (λz=>hc (by simp[z])) e⟩) (λ_ _ _ _ n=>n)
  (λb o hc e=>⟨o,k b o (λz=>hc (by simp[z])) e⟩) (λ_ _ e=>e) (λ_ _ _ e=>e) (λb ps e=>⟨#[],by rw[e];simp⟩) (λm hm=>?_) (λb u e=>?_) I.bare
 ·have e:b=it:=by simpa using hb
  subst e;exact⟨h1,hL,h2,h3⟩
 ·obtain⟨o,es,ep,ho,r⟩:=hm;exact⟨o,es,ep,k _ o (Ne.symm hL) ho,r⟩
 ·refine(I.hok b u e).stay (λc v hc q=>k c v ?_ q) (λ_ q=>q) λ_ _ q=>q;rcases hc with z | z
  ·rw[z];exact nit b u e
  ·exact nit c _ z
theorem Inv.tok(I:Inv X pins σ H s)(t:Nat):Inv X pins σ H { s with toks:=t }:=I.un (h':=s.heap) (t':=t) Un.refl I.hok
theorem Inv.kept(I:Inv X pins σ H s)(k:∀b u,s.heap.get? b=some u->h'.get? b=some u):Inv X pins σ H { s with heap:=h',toks:=t' }:=I.un (Un.kept k) (I.hok.kept k)
theorem Inv.laid{a:Addr}{o:HO}(I:Inv X pins σ H s)(k:∀b u,s.heap.get? b=some u->h'.get? b=some u)(hp:s.heap.objs.size<=a)(new:ObjOk X.prog X.w (upd H a o) h' a o):
 Inv X pins σ (upd H a o) { s with heap:=h',toks:=t' }:=I.un (Un.laid k hp (I.hok.fresh hp)) (I.hok.laid k hp new)
theorem Inv.write{x e:Addr}{o:HO}(I:Inv X pins σ H s)(mu:Mut (H x))(he:e=x\/H e=some (.own x))(k:∀b u,b≠e->s.heap.get? b=some u->h'.get? b=some u)(heo:∃u,h'.get? e=some u)
 (new:ObjOk X.prog X.w (upd H x o) h' x o):Inv X pins σ (upd H x o) { s with heap:=h',toks:=t' }:=I.un (Un.write mu he k heo) (I.hok.write mu he k heo new)
theorem Inv.pins_of{pins':List (Addr×Obj)}(I:Inv X pins σ H s)(h:∀p∈pins',s.heap.get? p.1=some p.2/\H p.1=none/\p.1≠X.env.locals/\p.1∉X.fs/\∀v,p.2.data ≠ .cell v):Inv X pins' σ H s :=
 ⟨I.ok,I.os,I.bare,I.base,I.loc,I.cell,I.free,I.freeC,λp hp=>(List.mem_append.mp hp).elim (λz=>I.pin p (mem_append_left _ z)) (h p),I.hok,I.len⟩
variable {i:Nat}{x:Str}
theorem zkB{N:List Str}(hN:N.Nodup){j:Nat}(a:N[i]? = some x)(b:N[j]? = some x):i=j:=by
 obtain⟨h1,e1⟩:=List.getElem?_eq_some_iff.mp a;obtain⟨h2,e2⟩:=List.getElem?_eq_some_iff.mp b;exact(getElem_inj hN).mp (e1.trans e2.symm)
variable {E:Value->Shared->Prop}{Q:Unit->Shared->Prop}
theorem zfX{M:Model}{A:Around}{v:V}{u:Value}(I:Inv X pins σ H s)(hN:X.N.Nodup)(hi:X.N[i]? = some x)(hx:Loc X.env.scope x)(r:RelV v u)
 (h:∀s',Inv X pins (σ.set i (some v)) H s'->(∃a,SameBut a s.heap s'.heap/\(a=X.env.locals\/X.env.cells.lookup x=some a))->Q () s') (hf:X.fn x=true\/X.env.scope.names.lookup x=some .local:=by first | exact .inl rfl | exact .inr rfl | assumption):wpAny M A (storeName X.env x u) Q E s:=by
 obtain⟨m,hn,hl⟩:=id I.loc;have hcls:(X.env.scope.kind == .class || (X.env.scope.kind == .module && X.env.locals != X.env.globals))=false:=by rw[I.ok.kind];rfl
 have hiσ:i<σ.length:=by rw[I.len];exact(List.getElem?_eq_some_iff.mp hi).1
 have cne:=I.cne;have tracked:∀{a:Addr}{h':Heap},(∃o,s.heap.get? a=some o/\H a=none)->SameBut a s.heap h'->HOk X.prog X.w H h':=λ{a h'} ha hs b ob e=>by
  obtain⟨_,_,hfree⟩:=ha;refine(I.hok b ob e).stay (λc w' hc q=>(hs.2 c ?_).trans q) (λ_ q=>q) λ_ _ q=>q;rintro rfl;rcases hc with rfl | hc
  ·rw[hfree]at e;cases e
  ·rw[hfree]at hc;cases hc
 rcases hx with hk | hk
 ·refine wpAny_storeName_local hk hn (λh' hn' hs=>?_) hcls;obtain⟨oL,_,_,hoL,_⟩:=id hn;refine h _ ⟨I.ok,I.os,I.bare,⟨λb o e n hb hx=>?_,λb o e n hb hx=>?_,I.base.free,λb o e hx=>?_,I.base.tups,I.base.frzs,I.base.tbls⟩,⟨_,hn',λj y v' e1 e2 e3=>?_⟩,λy c e=>?_,I.free,I.freeC,λp hp=>?_,tracked ⟨oL,hoL,I.free⟩ hs,by simpa using I.len⟩ ⟨_,hs,.inl rfl⟩
  ·exact(hs.2 b (ne_of_lt (lt_of_lt_of_le (lt_size e) I.ok.above))).trans (I.base.keep b o e n hb hx)
  ·obtain⟨sl,e1⟩:=I.base.slot b o e n hb hx;exact⟨sl,(hs.2 b (ne_of_lt (lt_of_lt_of_le (lt_size e) I.ok.above))).trans e1⟩
  ·obtain⟨o',e1⟩:=I.base.there b o e hx;exact⟨o',(hs.2 b (ne_of_lt (lt_of_lt_of_le (lt_size e) I.ok.above))).trans e1⟩
  ·by_cases hj:j=i
   ·subst hj;rw[hi]at e1;cases e1;rw[List.getElem?_set_self hiσ]at e2;cases e2;exact⟨u,r,.inl ⟨hk,by simp⟩⟩
   ·rw[List.getElem?_set_ne (Ne.symm hj)]at e2;obtain⟨u',r',q⟩:=hl j y v' e1 e2 e3;refine⟨u',r',?_⟩;rcases q with⟨k,e⟩|⟨k,c,e,z⟩
    ·refine .inl ⟨k,?_⟩;have:y≠x:=λe=>hj (zkB hN e1 (e ▸ hi));simp[this,e]
    ·exact .inr ⟨k,c,e,z.sameBut hs (cne y c e)⟩
  ·obtain⟨w',z⟩:=I.cell y c e;exact⟨w',z.sameBut hs (cne y c e)⟩
  ·obtain⟨e,n,ne,nf,d⟩:=I.pin p hp;exact⟨(hs.2 p.1 ne).trans e,n,ne,nf,d⟩
 ·have hfn:X.fn x=true:=by
   rcases hf with z | z
   ·exact z
   ·rw[z]at hk;cases hk
  obtain⟨c,hc⟩:=I.ok.has x (.inl hk);obtain⟨w',z⟩:=I.cell x c hc;refine wpAny_storeName_cell I.ok.kind hk hc z (λh' hc' hs=>?_);obtain⟨oc,hoc,hocd⟩:=id z;refine h { s with heap:=h' } ⟨I.ok,I.os,I.bare,⟨λb o e n hb hx=>?_,λb o e n hb hx=>?_,I.base.free,λb o e hx=>?_,I.base.tups,I.base.frzs,I.base.tbls⟩,⟨m,hn.sameBut hs (Ne.symm (cne x c hc)),λj y v' e1 e2 e3=>?_⟩,λy c' e=>?_,I.free,I.freeC,λp hp=>?_,tracked ⟨oc,hoc,I.freeC x c hc⟩ hs,by simpa using I.len⟩ ⟨c,hs,.inr hc⟩
  ·exact(hs.2 b (ne_of_lt (lt_of_lt_of_le (lt_size e) (I.ok.cab x c hfn hc)))).trans (I.base.keep b o e n hb hx)
  ·obtain⟨sl,e1⟩:=I.base.slot b o e n hb hx;exact⟨sl,(hs.2 b (ne_of_lt (lt_of_lt_of_le (lt_size e) (I.ok.cab x c hfn hc)))).trans e1⟩
  ·obtain⟨o',e1⟩:=I.base.there b o e hx;exact⟨o',(hs.2 b (ne_of_lt (lt_of_lt_of_le (lt_size e) (I.ok.cab x c hfn hc)))).trans e1⟩
  ·by_cases hj:j=i
   ·subst hj;rw[hi]at e1;cases e1;rw[List.getElem?_set_self hiσ]at e2;cases e2;exact⟨u,r,.inr ⟨.inl hk,c,hc,hc'⟩⟩
   ·rw[List.getElem?_set_ne (Ne.symm hj)]at e2;obtain⟨u',r',q⟩:=hl j y v' e1 e2 e3;refine⟨u',r',?_⟩;rcases q with q | ⟨k,c',e,z'⟩
    ·exact .inl q
    ·refine .inr ⟨k,c',e,z'.sameBut hs ?_⟩;rintro rfl;exact hj (zkB hN e1 (I.ok.inj _ _ _ e hc ▸ hi))
  ·by_cases hcc:c'=c
   ·subst hcc;exact⟨_,hc'⟩
   ·obtain⟨w2,z2⟩:=I.cell y c' e;exact⟨w2,z2.sameBut hs hcc⟩
  ·obtain⟨e,n,ne,nf,d⟩:=I.pin p hp;refine⟨(hs.2 p.1 ?_).trans e,n,ne,nf,d⟩;intro q;rw[q,hoc]at e;have q':oc=p.2:=Option.some.inj e;exact d w' (by rw[<-q'];exact hocd)
theorem zjJ{M:Model}{A:Around}{v:V}{u:Value}(I:Inv X pins σ H s)(hN:X.N.Nodup)(hi:X.N[i]? = some x)(hx:Loc X.env.scope x)(r:RelV v u)
 (h:∀s',Inv X pins (σ.set i (some v)) H s'->Q () s') (hf:X.fn x=true\/X.env.scope.names.lookup x=some .local:=by first | exact .inl rfl | exact .inr rfl | assumption):wpAny M A (storeName X.env x u) Q E s :=
 zfX I hN hi hx r (λs' I' _=>h s' I') hf
theorem Inv.call'{s':Shared}(I:Inv X pins σ H s)(ho:s'.os=s.os)(u:Un (frs X.stack) ch H H' s.heap s'.heap)(hok:HOk X.prog X.w H' s'.heap)(hg:AllBare s'.gens)
 (hch:∀b∈ch,(b∈X.ex\/X.s₀.heap.objs.size<=b)/\b≠X.env.locals/\(∀x c,X.env.cells.lookup x=some c->c≠b)/\∀p∈X.pn++pins,p.1≠b):Inv X pins σ H' s':=by
 obtain⟨h',g',d',t',o'⟩:=s';have e:o'=s.os:=ho;subst e;exact I.call (g':=g') (t':=t') (d':=d') u hok hg hch
end
abbrev XK:=Value->Option Addr->Hp->Prop
abbrev St:=List (Option V)
abbrev VK:=V->Hp->Prop
abbrev TE:=St->Hp->VK->Prop
abbrev TT:=St->Hp->(Bool->Hp->Prop)->Prop
abbrev TA:=St->Hp->(List V->Hp->Prop)->Prop
structure Ends where
 nx:St->Hp->Prop
 rt:VK
 bk:St->Hp->Prop:=λ_ _=>False
 ct:St->Hp->Prop:=λ_ _=>False
abbrev TS:=Ends->St->Hp->Prop
def EP(X:Cx)(pins:List (Addr×Obj))(σ:St)(Q:VK)(u:Value)(s':Shared):Prop:=∃v H',Inv X pins σ H' s'/\RelV v u/\Q v H'
def TP(X:Cx)(pins:List (Addr×Obj))(σ:St)(Q:Bool->Hp->Prop)(b:Bool)(s':Shared):Prop:=∃H',Inv X pins σ H' s'/\Q b H'
def AP(X:Cx)(pins:List (Addr×Obj))(σ:St)(Q:List V->Hp->Prop)(us:List Value)(s':Shared):Prop:=∃vs H',Inv X pins σ H' s'/\Vals vs us/\Q vs H'
def SP(X:Cx)(pins:List (Addr×Obj))(D:Ends)(f:Flow)(s':Shared):Prop :=
 match f with
 | .next=>∃σ' H',Inv X pins σ' H' s'/\D.nx σ' H'
 | .brk=>∃σ' H',Inv X pins σ' H' s'/\D.bk σ' H'
 | .cont=>∃σ' H',Inv X pins σ' H' s'/\D.ct σ' H'
 | .ret u=>∃v σ' H',Inv X pins σ' H' s'/\RelV v u/\D.rt v H'
def PE(X:Cx)(e:Expr)(t:TE):Prop :=
 ∀(pins:List (Addr×Obj)) (s:Shared) (σ:St) (H:Hp) (Q:VK),Inv X pins σ H s->t σ H Q->wpAny (model X.prog X.w) X.A (eval e X.env) (EP X pins σ Q) X.xe s
def PT(X:Cx)(e:Expr)(t:TT):Prop :=
 ∀(pins:List (Addr×Obj)) (s:Shared) (σ:St) (H:Hp) (Q:Bool->Hp->Prop),Inv X pins σ H s->t σ H Q->wpAny (model X.prog X.w) X.A (isTrue e X.env (eval e X.env)) (TP X pins σ Q) X.xe s
def PW(X:Cx)(e:Expr)(t:TT):Prop :=
 ∀(whole:Sem Value)(pins:List (Addr×Obj)) (s:Shared) (σ:St) (H:Hp) (Q:Bool->Hp->Prop),Inv X pins σ H s->t σ H Q->wpAny (model X.prog X.w) X.A (isTrue e X.env whole) (TP X pins σ Q) X.xe s
variable {X:Cx}
theorem PW.pt{e:Expr}{t:TT}(h:PW X e t):PT X e t:=h _
def PA(X:Cx)(es:List Expr)(t:TA):Prop :=
 ∀(pos:Pos)(pins:List (Addr×Obj)) (s:Shared) (σ:St) (H:Hp) (Q:List V->Hp->Prop),Inv X pins σ H s->t σ H Q->wpAny (model X.prog X.w) X.A (spliced (backTo pos (starEach es X.env))) (AP X pins σ Q) X.xe s
def PS(X:Cx)(st:Stmt)(t:TS):Prop :=
 ∀(pins:List (Addr×Obj)) (s:Shared) (σ:St) (H:Hp) (D:Ends),Inv X pins σ H s->t D σ H->wpAny (model X.prog X.w) X.A (exec st X.env) (SP X pins D) X.xe s
def PSs(X:Cx)(st:List Stmt)(t:TS):Prop :=
 ∀(pins:List (Addr×Obj)) (s:Shared) (σ:St) (H:Hp) (D:Ends),Inv X pins σ H s->t D σ H->wpAny (model X.prog X.w) X.A (execs st X.env) (SP X pins D) X.xe s
variable {A:Around}{E:Value->Shared->Prop}{s:Shared}
theorem thn{α:Type}{t:Sem α}{Q Q':α->Shared->Prop}{M:Model}(h:wpAny M A t Q E s)(hQ:∀a s,Q a s->Q' a s):wpAny M A t Q' E s:=wpAny_mono h hQ λ_ _ x=>x
section
variable {X:Cx}
variable {pins:List (Addr×Obj)}{s:Shared}
theorem bin{a b:Expr}{ta tb:TE}(ha:PE X a ta)(hb:PE X b tb){σ:St}{H:Hp}{R:V->V->Hp->Prop}(I:Inv X pins σ H s)(h:ta σ H λx H1=>tb σ H1 λy H2=>R x y H2)
 {α:Type} {Q:α->Shared->Prop} {f:Value->Value->Sem α}
 (hf:∀v u s2 x y H2,Inv X pins σ H2 s2->RelV x v->RelV y u->R x y H2->wpAny (model X.prog X.w) X.A (f v u) Q X.xe s2) :
 wpAny (model X.prog X.w) X.A (eval a X.env) (λv s₁=>wpAny (model X.prog X.w) X.A (eval b X.env) (λu s₂=>wpAny (model X.prog X.w) X.A (f v u) Q X.xe s₂) X.xe s₁) X.xe s:=by
 refine thn (ha pins s σ H _ I h) λv s1 ⟨x,H1,I1,r1,q1⟩=>?_;refine thn (hb pins s1 σ H1 _ I1 q1) λu s2 ⟨y,H2,I2,r2,q2⟩=>?_;exact hf v u s2 x y H2 I2 r1 r2 q2
inductive ITVar (i:Nat) (σ:St) (H:Hp) (Q:VK):Prop
 | mk (v:_):σ[i]? = some (some v)->Q v H->ITVar i σ H Q
def tVar(i:Nat):TE:=λσ H Q=>ITVar i σ H Q
def tC(v:V):TE:=λ_ H Q=>Q v H
variable {x:Str}
theorem pe_var{i:Nat}{pos:Pos}(hN:X.N[i]? = some x)(hv:Vis X.env.scope x)(hd:(x==("__debug__":Str))=false:=by decide)(hcd:(x==("__classdict__":Str))=false:=by decide):PE X (.Name x pos) (tVar i):=by
 intro pins s σ H Q I h;obtain⟨v,e,h⟩:=h;obtain⟨m,hn,hl⟩:=I.loc;obtain⟨u,r,l⟩:=hl i x v hN e hv;have fin:EP X pins σ Q u s:=⟨v,H,I,r,h⟩;rcases l with⟨hk,hm⟩|⟨hk,c,hc,hcell⟩
 ·exact wpAny_Name (wpAny_loadName_local I.ok.kind hk hn hm fin) hd
 ·rcases hk with hk | hk
  ·exact wpAny_Name (wpAny_loadName_cell I.ok.kind hk hc hcell fin) hd
  ·exact wpAny_Name (wpAny_loadName_free I.ok.kind hk hc hcell fin hcd) hd
theorem zg{i j pos}:PE X (.Constant (.int i) j pos) (tC (.int i)):=λ_ _ _ H _ I h=>wpAny_Constant_int ⟨.int i,H,I.tok _,⟨_,rfl⟩,h⟩
theorem zY{b j pos}:PE X (.Constant (.bool b) j pos) (tC (.bl b)):=λ_ _ _ H _ I h=>Constant_bool ⟨.bl b,H,I,rfl,h⟩
theorem zgk{j pos}:PE X (.Constant .none j pos) (tC .non):=λ_ _ _ H _ I h=>Constant_none ⟨.non,H,I,rfl,h⟩
theorem yg{x j pos}:PE X (.Constant (.str x) j pos) (tC (.str x)):=λ_ _ _ H _ I h=>Calls.Constant_str ⟨.str x,H,I.tok _,⟨_,rfl⟩,h⟩
def Gl(X:Cx)(x:Str):Prop:=X.env.kindOf x=some .globalImplicit
variable {E Q:Value->Shared->Prop}{u:Value}
theorem zfH{σ:St}{H:Hp}{pos:Pos}(I:Inv X pins σ H s)(hg:Gl X x)(hm:X.mg x=some u)(h:Q u s)
 (hd:(x==("__debug__":Str))=false:=by decide):wpAny (model X.prog X.w) X.A (eval (.Name x pos) X.env) Q E s :=
 Calls.Name_function_global I.ok.kind hg (Calls.loadGlobal_global (by rw[I.ok.glob];exact I.mod.glob.keeps I.bk) hm h) hd
theorem zcR{σ:St}{H:Hp}{pos:Pos}(I:Inv X pins σ H s)(hg:Gl X x)(hm:X.mg x=none)(hv:bootBuiltins x=some u)(h:Q u s)
 (hn:x≠"__name__":=by decide) (hd:(x==("__debug__":Str))=false:=by decide):wpAny (model X.prog X.w) X.A (eval (.Name x pos) X.env) Q E s:=by
 obtain⟨mb,h1,h2⟩:=I.mod.blt;exact Calls.Name_function_global I.ok.kind hg (Calls.loadGlobal_builtin (by rw[I.ok.glob];exact I.mod.glob.keeps I.bk) hm (by rw[I.ok.blt];exact h1.keeps I.bk) ((h2 x hn).trans hv) h) hd
theorem pe_glob{v:V}{pos:Pos}(hg:Gl X x)(hm:X.mg x=some u)(r:RelV v u)(hd:(x==("__debug__":Str))=false:=by decide):PE X (.Name x pos) (tC v) :=
 λ_ _ _ H _ I h=>zfH I hg hm ⟨v,H,I,r,h⟩ hd
theorem wz{v:V}{pos:Pos}(hg:Gl X x)(hm:X.mg x=none)(hv:bootBuiltins x=some u)(r:RelV v u)(hn:x≠"__name__":=by decide)(hd:(x==("__debug__":Str))=false:=by decide):PE X (.Name x pos) (tC v) :=
 λ_ _ _ H _ I h=>zcR I hg hm hv ⟨v,H,I,r,h⟩ hn hd
variable {a b:Expr}{ta tb:TE}{pos:Pos}
def PC(X:Cx)(op:CmpOp)(a b:Expr)(t:TE):Prop :=
 ∀(pins:List (Addr×Obj)) (s:Shared) (σ:St) (H:Hp) (Q:VK),Inv X pins σ H s->t σ H Q ->
  wpAny (model X.prog X.w) X.A (eval a X.env) (λv s₁=>wpAny (model X.prog X.w) X.A (eval b X.env) (λu s₂=>wpAny (model X.prog X.w) X.A (compareOp op v u) (EP X pins σ Q) X.xe s₂) X.xe s₁) X.xe s
inductive ITB (x:V) (H1:Hp) (Q:Bool->Hp->Prop):Prop
 | mk (c:_):x=.bl c->Q c H1->ITB x H1 Q
def tB(t:TE):TT:=λσ H Q=>t σ H λx H1=>ITB x H1 Q
theorem pt_cmp{op:CmpOp}{t:TE}(h:PC X op a b t)(h1:behindInMarks op b=false:=by first | exact nobehind _ (by decide) (by decide) | rfl):PT X (.Compare a [op] [b] pos) (tB t):=by
 intro pins s σ H Q I hw;refine wpAny_isTrue_Compare1 (thn (h pins s σ H _ I hw) λv s1 h1=>thn h1 λu s2 h2=>thn h2 λc s3 ⟨x,H1,I1,r1,q1⟩=>?_) h1;obtain⟨d,rfl,q⟩:=q1;cases r1;exact wpAny_truthy_bool ⟨H1,I1,q⟩
theorem zF{e:Expr}{t:TE}(h:PE X e t)(he:∀whole,isTrue e X.env whole=(do let v <-whole;standAt e.pos;holding [v] (truthy v)):=by intro _;rfl):PT X e (tB t):=by
 intro pins s σ H Q I hw;refine isTrue_plain (thn (h pins s σ H _ I hw) λv s1 ⟨x,H1,I1,r1,q1⟩=>?_) (he _);obtain⟨d,rfl,q⟩:=q1;cases r1;exact wpAny_truthy_bool ⟨H1,I1,q⟩
variable {tA tB':TT}{zfe:List Expr}
def tAnd(t u:TT):TT:=λσ H Q=>t σ H λc H1=>if c=true then u σ H1 Q else Q false H1
def tOr(t u:TT):TT:=λσ H Q=>t σ H λc H1=>if c=true then Q true H1 else u σ H1 Q
def tNot(t:TT):TT:=λσ H Q=>t σ H λc H1=>Q (!c) H1
theorem zbv(ha:PT X a tA):PW X (.BoolOp .And [a] pos) tA:=by
 intro wh pins s σ H Q I h;refine isTrue_and (thn (ha pins s σ H Q I h) λc s1 e=>?_);cases c with
 | true=>exact isTrue_and_nil e
 | false=>exact e
theorem we(ha:PT X a tA):PW X (.BoolOp .Or [a] pos) tA:=by
 intro wh pins s σ H Q I h;refine isTrue_or (thn (ha pins s σ H Q I h) λc s1 e=>?_);cases c with
 | false=>exact isTrue_or_nil e
 | true=>exact e
theorem zbZ(ha:PT X a tA)(hb:PW X (.BoolOp .And (b::zfe) pos) tB'):PW X (.BoolOp .And (a::b::zfe) pos) (tAnd tA tB'):=by
 intro wh pins s σ H Q I h;refine isTrue_and (thn (ha pins s σ H _ I h) λc s1 ⟨H1,I1,q1⟩=>?_);cases c with
 | true=>exact hb wh pins s1 σ H1 Q I1 q1
 | false=>exact⟨H1,I1,q1⟩
theorem zax(ha:PT X a tA)(hb:PW X (.BoolOp .Or (b::zfe) pos) tB'):PW X (.BoolOp .Or (a::b::zfe) pos) (tOr tA tB'):=by
 intro wh pins s σ H Q I h;refine isTrue_or (thn (ha pins s σ H _ I h) λc s1 ⟨H1,I1,q1⟩=>?_);cases c with
 | true=>exact⟨H1,I1,q1⟩
 | false=>exact hb wh pins s1 σ H1 Q I1 q1
theorem zJ(ha:PT X a tA):PT X (.UnaryOp .Not a pos) (tNot tA):=by
 intro pins s σ H Q I h;exact isTrue_not (ha pins s σ H (λc H1=>Q (!c) H1) I h)
inductive ITAndV (tb:TE) (σ:St) (x:V) (H1:Hp) (Q:VK):Prop
 | mk (c:_):x=.bl c->(if c=true then tb σ H1 Q else Q (.bl false) H1)->ITAndV tb σ x H1 Q
def tAndV(ta tb:TE):TE:=λσ H Q=>ta σ H λx H1=>ITAndV tb σ x H1 Q
inductive ITNotV (x:V) (H1:Hp) (Q:VK):Prop
 | mk (c:_):x=.bl c->Q (.bl (!c)) H1->ITNotV x H1 Q
def tNotV(ta:TE):TE:=λσ H Q=>ta σ H λx H1=>ITNotV x H1 Q
theorem zhf{op}{t:TE}(h:PE X a t):PE X (.BoolOp op [a] pos) t:=λpins s σ H Q I hw=>BoolOp_one (h pins s σ H Q I hw)
theorem zdo(ha:PE X a ta)(hb:PE X (.BoolOp .And (b::zfe) pos) tb):PE X (.BoolOp .And (a::b::zfe) pos) (tAndV ta tb):=by
 intro pins s σ H Q I h;refine BoolOp_and (thn (ha pins s σ H _ I h) λv s1 ⟨x,H1,I1,r1,q1⟩=>?_);obtain⟨c,rfl,q1⟩:=q1;cases r1;refine wpAny_truthy_bool ?_;cases c with
 | true=>exact hb pins s1 σ H1 Q I1 q1
 | false=>exact⟨.bl false,H1,I1,rfl,q1⟩
theorem pe_not(ha:PE X a ta):PE X (.UnaryOp .Not a pos) (tNotV ta):=by
 intro pins s σ H Q I h;refine UnaryOp_ (thn (ha pins s σ H _ I h) λv s1 ⟨x,H1,I1,r1,q1⟩=>?_);obtain⟨c,rfl,q1⟩:=q1;cases r1;exact not_of (wpAny_truthy_bool ⟨.bl (!c),H1,I1,rfl,q1⟩)
def tIf(t:TT)(ta tb:TE):TE:=λσ H Q=>t σ H λc H1=>if c=true then ta σ H1 Q else tb σ H1 Q
theorem pe_ifExp{c:Expr}(hc:PT X c tA)(ha:PE X a ta)(hb:PE X b tb):PE X (.IfExp c a b pos) (tIf tA ta tb):=by
 intro pins s σ H Q I h;refine wpAny_IfExp (thn (hc pins s σ H _ I h) λd s1 ⟨H1,I1,q1⟩=>?_);cases d with
 | true=>exact ha pins s1 σ H1 Q I1 q1
 | false=>exact hb pins s1 σ H1 Q I1 q1
end
def SqL(K:Frag)(H:Hp)(a:Addr)(xs:List V):Prop :=
 Rd H a (.lst xs) \/
  ∃(o:Obj)(its:Array Value)(n:Nat),K.lookup a=some o/\o.cls=.type "list"/\o.dict=none/\o.data=.seq its n/\its.size<=sizeLine/\Vals xs its.toList
def SqT(K:Frag)(H:Hp)(a:Addr)(xs:List V):Prop :=
 Rd H a (.tup xs) \/
  ∃(o:Obj)(its:Array Value)(n:Nat),K.lookup a=some o/\o.cls=.type "tuple"/\o.data=.seq its n/\its.size<=sizeLine/\Vals xs its.toList
def absV:Value->Option V
 | .none=>some .non
 | .bool b=>some (.bl b)
 | .int i _=>some (.int i)
 | .str x _=>some (.str x)
 | .bytes b _=>some (.byt b)
 | .float b _=>some (.flt b)
 | .ref a=>some (.ref a)
 | .type n=>some (.ty n)
 | _=>none
theorem RelV.abs{x:V}(r:RelV x u):absV u=some x:=by
 cases x with
 | non=>cases r;rfl
 | bl _=>cases r;rfl
 | int _=>obtain⟨t,rfl⟩:=r;rfl
 | str _=>obtain⟨t,rfl⟩:=r;rfl
 | byt _=>obtain⟨t,rfl⟩:=r;rfl
 | flt _=>obtain⟨t,rfl⟩:=r;rfl
 | ref _=>cases r;rfl
 | ty _=>cases r;rfl
theorem RelV.inj{x y:V}(r:RelV x u)(q:RelV y u):x=y:=Option.some.inj (r.abs.symm.trans q.abs)
theorem Vals.inj:∀{xs ys:List V}{us:List Value},Vals xs us->Vals ys us->xs=ys
 | _,_,_,.nil,.nil=>rfl
 | _,_,_,.cons r t,.cons r' t'=>by rw[r.inj r',Vals.inj t t']
section
variable {X:Cx}{pins:List (Addr×Obj)}{σ:St}{H:Hp}{s:Shared}{a:Addr}{xs ys:List V}
theorem SqL.of{K:Frag}(h:H a=some (.lst xs)):SqL K H a xs:=.inl (.inl h)
theorem SqT.of{K:Frag}(h:H a=some (.tup xs)):SqT K H a xs:=.inl (.inl h)
theorem Inv.list(I:Inv X pins σ H s)(h:SqL X.K H a xs):∃its:List Value,Vals xs its/\PlainL s.heap a its.toArray/\xs.length<=sizeLine:=by
 rcases h with h | ⟨o,its,n,hk,hc,hd,hs,hz,r⟩
 ·obtain⟨z,its,n,r,e⟩:=h.ok I.hok;exact⟨its,r,⟨_,n,e,rfl,rfl,rfl⟩,z⟩
 ·refine⟨its.toList,r,⟨o,n,I.kIn a o hk,hc,hd,by simpa using hs⟩,?_⟩;have e:=r.length;simp only[Array.length_toList]at e;omega
theorem Inv.tuple(I:Inv X pins σ H s)(h:SqT X.K H a xs):∃its:List Value,Vals xs its/\IsTup s.heap a its.toArray/\xs.length<=sizeLine:=by
 rcases h with h | ⟨o,its,n,hk,hc,hs,hz,r⟩
 ·obtain⟨z,its,r,p⟩:=h.ok I.hok;exact⟨its,r,p,z⟩
 ·refine⟨its.toList,r,⟨o,I.kIn a o hk,hc,n,by simpa using hs⟩,?_⟩;have e:=r.length;simp only[Array.length_toList]at e;omega
theorem Inv.list_inj(I:Inv X pins σ H s)(h:SqL X.K H a xs)(h':SqL X.K H a ys):xs=ys:=by
 obtain⟨its,r,⟨o,n,e,_,_,d⟩,_⟩:=I.list h;obtain⟨its',r',⟨o',n',e',_,_,d'⟩,_⟩:=I.list h';rw[e]at e';cases e';rw[d]at d';injection d' with d1 _
 have:its=its':=by simpa using congrArg Array.toList d1
 subst this;exact r.inj r'
end
abbrev Cx.wish(X:Cx)(E:Value->Shared->Prop):Cx:={ X with xe:=E }
abbrev Cx.nox(X:Cx):Cx:=X.wish λ_ _=>False
theorem Cx.Ok.wish(ok:X.Ok)(E:Value->Shared->Prop):(X.wish E).Ok :=
 ⟨ok.mod,ok.kind,ok.glob,ok.blt,ok.above,ok.inj,ok.has,ok.cab,ok.hd,ok.frames,ok.stk,ok.exf,ok.bs,ok.bsz,ok.noex,ok.exfs,ok.funs,ok.frf⟩
theorem Cx.Ok.unwish(ok:(X.wish E).Ok):X.Ok :=
 ⟨ok.mod,ok.kind,ok.glob,ok.blt,ok.above,ok.inj,ok.has,ok.cab,ok.hd,ok.frames,ok.stk,ok.exf,ok.bs,ok.bsz,ok.noex,ok.exfs,ok.funs,ok.frf⟩
section
variable {X:Cx}{pins:List (Addr×Obj)}{σ:St}{H:Hp}{s:Shared}{E:Value->Shared->Prop}
theorem Inv.wish(I:Inv X pins σ H s)(E:Value->Shared->Prop):Inv (X.wish E) pins σ H s:=⟨I.ok.wish E,I.os,I.bare,I.base,I.loc,I.cell,I.free,I.freeC,I.pin,I.hok,I.len⟩
theorem Inv.unwish(I:Inv (X.wish E) pins σ H s):Inv X pins σ H s:=⟨I.ok.unwish,I.os,I.bare,I.base,I.loc,I.cell,I.free,I.freeC,I.pin,I.hok,I.len⟩
theorem SP.unwish{D:Ends}{f:Flow}{s':Shared}(h:SP (X.wish E) pins D f s'):SP X pins D f s':=by
 cases f with
 | next=>obtain⟨σ',H',I,q⟩:=h;exact⟨σ',H',I.unwish,q⟩
 | brk=>obtain⟨σ',H',I,q⟩:=h;exact⟨σ',H',I.unwish,q⟩
 | cont=>obtain⟨σ',H',I,q⟩:=h;exact⟨σ',H',I.unwish,q⟩
 | ret u=>obtain⟨v,σ',H',I,r,q⟩:=h;exact⟨v,σ',H',I.unwish,r,q⟩
theorem PSs.nox{st:List Stmt}{t:TS}(h:PSs X.nox st t):PSs X st t:=λpins s σ H D I hw =>
 wpAny_mono (h pins s σ H D (I.wish _) hw) (λ_ _ q=>q.unwish) λ_ _ z=>False.elim z
end
section
variable {X:Cx}{st:Stmt}{zfe:List Stmt}{t u:TS}{e:Expr}{te:TE}{pos:Pos}
def tNext:TS:=λD σ H=>D.nx σ H
def tSeq(t u:TS):TS:=λD σ H=>t { D with nx:=u D } σ H
theorem zq:PSs X [] tNext:=λ_ _ σ H _ I h=>wpAny_execs_nil ⟨σ,H,I,h⟩
theorem zc(h1:PS X st t)(h2:PSs X zfe u):PSs X (st::zfe) (tSeq t u):=by
 intro pins s σ H D I h;refine wpAny_execs_cons (thn (h1 pins s σ H { D with nx:=u D } I h) λf s1 q=>?_);cases f with
 | next =>
   obtain⟨σ',H',I',q⟩:=q;exact h2 pins s1 σ' H' D I' q
 | ret v=>exact q
 | brk=>exact q
 | cont=>exact q
theorem ze(h1:PS X st t):PSs X [st] t:=by
 intro pins s σ H D I h;refine wpAny_execs_cons (thn (h1 pins s σ H D I h) λf s1 q=>?_);cases f with
 | next=>exact wpAny_execs_nil q
 | ret v=>exact q
 | brk=>exact q
 | cont=>exact q
theorem Inv.quiet{pins:List (Addr×Obj)}{σ:St}{H:Hp}{s:Shared}(I:Inv X pins σ H s):interactive X.env=false:=by simp[interactive,I.ok.kind]
def tDrop(te:TE):TS:=λD σ H=>te σ H λ_ H1=>D.nx σ H1
theorem zP(he:PE X e te)(hs:swapsWith e none pos.line X.env=pure false:=by rfl):PS X (.Expr e pos) (tDrop te):=by
 intro pins s σ H D I h;exact wpAny_Expr_any (thn (he pins s σ H _ I h) λv s1 ⟨x,H1,I1,r1,q1⟩=>⟨σ,H1,I1,q1⟩) I.quiet hs
def tRet(te:TE):TS:=λD σ H=>te σ H D.rt
theorem zj(he:PE X e te):PS X (.Return (some e) pos) (tRet te):=by
 intro pins s σ H D I h;exact wpAny_Return_some (thn (he pins s σ H _ I h) λv s1 ⟨x,H1,I1,r1,q1⟩=>⟨x,σ,H1,I1,r1,q1⟩)
def tIfS(c:TT)(t u:TS):TS:=λD σ H=>c σ H λb H1=>if b=true then t D σ H1 else u D σ H1
theorem zv{c:Expr}{a b:List Stmt}{tc:TT}(hc:PT X c tc)(ha:PSs X a t)(hb:PSs X b u):PS X (.If c a b pos) (tIfS tc t u):=by
 intro pins s σ H D I h;refine wpAny_If (thn (hc pins s σ H _ I h) λd s1 ⟨H1,I1,q1⟩=>?_);cases d with
 | true=>exact ha pins s1 σ H1 D I1 q1
 | false=>exact hb pins s1 σ H1 D I1 q1
def tNever:TS:=λ_ _ _=>False
theorem zhA:PS X st tNever:=λ_ _ _ _ _ _ h=>h.elim
end
abbrev TG:=V->St->Hp->(St->Hp->Prop)->Prop
abbrev TGs:=List V->St->Hp->(St->Hp->Prop)->Prop
def PG(X:Cx)(target:Expr)(t:TG):Prop :=
 ∀(pins:List (Addr×Obj)) (s:Shared) (σ:St) (H:Hp) (v:V) (u:Value) (Q:St->Hp->Prop),Inv X pins σ H s->RelV v u->t v σ H Q ->
  wpAny (model X.prog X.w) X.A (assign target X.env u) (λ_ s'=>∃σ' H',Inv X pins σ' H' s'/\Q σ' H') X.xe s
def PGs(X:Cx)(ts:List Expr)(t:TGs):Prop :=
 ∀(pins:List (Addr×Obj)) (s:Shared) (σ:St) (H:Hp) (vs:List V) (us:List Value) (Q:St->Hp->Prop),Inv X pins σ H s->Vals vs us->t vs σ H Q ->
  wpAny (model X.prog X.w) X.A (assignInOrder ((assignEach ts X.env).map (·.2)) us) (λ_ s'=>∃σ' H',Inv X pins σ' H' s'/\Q σ' H') X.xe s
abbrev TSet:=V->V->V->Hp->(Hp->Prop)->Prop
def PSet(X:Cx)(t:TSet):Prop :=
 ∀(pins:List (Addr×Obj)) (s:Shared) (σ:St) (H:Hp) (o i v:V) (ov iv u:Value) (Q:Hp->Prop),Inv X pins σ H s->RelV o ov->RelV i iv->RelV v u->t o i v H Q ->
  wpAny (model X.prog X.w) X.A (setItem ov iv u) (λ_ s'=>∃H',Inv X pins σ H' s'/\Q H') X.xe s
section
variable {X:Cx}{pos:Pos}
def zgv(i:Nat):TG:=λv σ H Q=>Q (σ.set i (some v)) H
theorem zU{i:Nat}{x:Str}(hN:X.N.Nodup)(hi:X.N[i]? = some x)(hx:Loc X.env.scope x)(hf:X.fn x=true\/X.env.scope.names.lookup x=some .local:=by first | exact .inl rfl | exact .inr rfl | assumption):PG X (.Name x pos) (zgv i):=by
 intro pins s σ H v u Q I r h;exact wpAny_assign_Name (zjJ I hN hi hx r (λs' I'=>⟨_,H,I',h⟩) hf)
def gNil:TGs:=λvs σ H Q=>vs=[]/\Q σ H
def gCons(t:TG)(u:TGs):TGs:=λvs σ H Q=>∃v r,vs=v::r/\t v σ H λσ' H'=>u r σ' H' Q
theorem pgs_nil:PGs X [] gNil:=by
 intro pins s σ H vs us Q I r h;obtain⟨e,h⟩:=h;subst e;cases r;exact assignInOrder_nil ⟨σ,H,I,h⟩
variable {e:Expr}{es:List Expr}
theorem zfG{t:TG}{u:TGs}(h1:PG X e t)(h2:PGs X es u)
 (hs:(assignEach (e::es) X.env).map (·.2)=assign e X.env::(assignEach es X.env).map (·.2):=by rfl):PGs X (e::es) (gCons t u):=by
 intro pins s σ H vs us Q I r h;obtain⟨v,vr,e1,h⟩:=h;subst e1;cases r with
 | cons r rr =>
   rw[hs];refine assignInOrder_cons (thn (h1 pins s σ H _ _ _ I r h) λ_ s1 ⟨σ1,H1,I1,q1⟩=>?_);exact h2 pins s1 σ1 H1 _ _ Q I1 rr q1
def gTup(K:Frag)(n:Nat)(t:TGs):TG:=λv σ H Q=>∃a xs,v=.ref a/\SqT K H a xs/\xs.length=n/\t xs σ H Q
theorem pg_tup{k:Nat}{t:TGs}{n:Nat}(hc:X.calm=true)(h:PGs X es t)
 (hn:(assignEach es X.env).length=n:=by rfl) (hst:(assignEach es X.env).findIdx? (·.1)=none:=by rfl):PG X (.Tuple es k pos) (gTup X.K n t):=by
 intro pins s σ H v u Q I r hw;obtain⟨a,xs,e1,hq,hl,hw⟩:=hw;subst e1;cases r;obtain⟨its,rv,ht,hz⟩:=I.tuple hq;refine assign_Tuple_tuple (I.ok.hd hc) ht (by simp[hn,<-hl,rv.length]) hst λh' hx=>?_;have I1:Inv X pins σ H { s with heap:=h' }:=I.kept (t':=s.toks) λb o e=>hx b o (ne_of_lt (lt_size e)) e;exact h pins _ σ H xs _ Q I1 (by simpa using rv) hw
def gSub(to ti:TE)(t:TSet):TG:=λv σ H Q=>to σ H λo H1=>ti σ H1 λi H2=>t o i v H2 λH3=>Q σ H3
theorem zjm{o i:Expr}{to ti:TE}{t:TSet}(ho:PE X o to)(hi:PE X i ti)(hs:PSet X t)
 (ha:∀v,assign (.Subscript o i pos) X.env v=(do
   let ov <-holding [v] (eval o X.env);let iv <-holding [v,ov] (eval i X.env)
   standAt pos
   holding [v,ov,iv] (setItem ov iv v)
   release [v,ov,iv] []):=by intro _;rfl):PG X (.Subscript o i pos) (gSub to ti t):=by
 intro pins s σ H v u Q I r h;rw[ha];refine wpAny_bind (wpAny_holding (thn (ho pins s σ H _ I h) λov s1 ⟨x,H1,I1,r1,q1⟩=>?_));refine wpAny_bind (wpAny_holding (thn (hi pins s1 σ H1 _ I1 q1) λiv s2 ⟨y,H2,I2,r2,q2⟩=>?_));refine wpAny_bind (wpAny_standAt (wpAny_bind (wpAny_holding (thn (hs pins s2 σ H2 x y v ov iv u _ I2 r1 r2 r q2) λ_ s3 ⟨H3,I3,q3⟩=>?_))));exact wpAny_release ⟨σ,H3,I3,q3⟩
def tAsg(te:TE)(g:TG):TS:=λD σ H=>te σ H λx H1=>g x σ H1 D.nx
theorem ziQ{tg:Expr}{te:TE}{g:TG}(he:PE X e te)(hg:PG X tg g)(hs:swapsWithSole [tg] e pos.line X.env=pure false:=by rfl)(hw:swappedStores [tg] e X.env=pure none:=by rfl)
 (h1:(assignEach [tg] X.env).map (·.2)=[assign tg X.env]:=by rfl):PS X (.Assign [tg] e pos) (tAsg te g):=by
 intro pins s σ H D I h;refine wpAny_Assign_stores (thn (he pins s σ H _ I h) λv s1 ⟨x,H1,I1,r1,q1⟩=>?_) hs hw;rw[h1];exact thn (hg pins s1 σ H1 x v _ I1 r1 q1) λ_ s2 q=>q
theorem zu{i:Nat}{x:Str}{te:TE}{pos':Pos}(hN:X.N.Nodup)(hi:X.N[i]? = some x)(hx:Loc X.env.scope x)(he:PE X e te)(hs:swapsWith e (some (.Name x pos')) pos.line X.env=pure false:=by rfl)(hf:X.fn x=true\/X.env.scope.names.lookup x=some .local:=by first | exact .inl rfl | exact .inr rfl | assumption):
 PS X (.Assign [.Name x pos'] e pos) (tAsg te (zgv i)):=by
 intro pins s σ H D I h;refine wpAny_Assign_Name (thn (he pins s σ H _ I h) λv s1 ⟨y,H1,I1,r1,q1⟩=>?_) hs;exact zjJ I1 hN hi hx r1 (λs2 I2=>⟨_,H1,I2,q1⟩) hf
end
structure It where
 go:Nat->Hp->Prop
 yld:Nat->Hp->V->Hp->Prop
 stop:Nat->Hp->Prop
def wI(X:Cx)(pins:List (Addr×Obj))(H:Hp)(b:Addr):Prop :=
 H b=none/\b≠X.env.locals/\b∉X.fs/\(b∈X.ex\/X.s₀.heap.objs.size<=b)/\(∀x c,X.env.cells.lookup x=some c->c≠b)/\∀p∈X.pn++pins,p.1≠b
theorem Inv.fpOk{pins:List (Addr×Obj)}{σ:St}{H':Hp}(I:Inv X pins σ H s)(hb:s.heap.objs.size<=b)(hn:H' b=none):wI X pins H' b:=by
 refine⟨hn,ne_of_gt (lt_of_lt_of_le I.lt hb),I.nofs hb,.inr (le_trans I.sz hb),λx c e z=>?_,λp hp z=>?_⟩
 ·obtain⟨v,q⟩:=I.cell x c e;exact absurd (lt_of_lt_of_le q.lt (by rw[z];exact hb)) (lt_irrefl _)
 ·exact absurd (lt_of_lt_of_le (lt_size (I.pin p hp).1) (by rw[z];exact hb)) (lt_irrefl _)
structure Turn (P:Program) (w:World) (K:Frag) (tg:Expr) (J:It) (fp:List Addr) (it:Addr) (tn:Nat->Heap->Prop):Prop where
 mem:it∈fp
 obj:∀i h,tn i h->∀b∈fp,∃o,h.get? b=some o/\∀v,o.data ≠ .cell v
 keep:∀i h h',tn i h->(∀b∈fp,∀o,h.get? b=some o->h'.get? b=some o)->tn i h'
 item:∀(X:Cx),X.prog=P->X.w=w->X.K=K->X.calm=true->∀(i:Nat)(pins:List (Addr×Obj)) (s:Shared) (σ:St) (H:Hp) (E:Value->Shared->Prop),Inv X pins σ H s->(∀b∈fp,wI X pins H b)->tn i s.heap->J.go i H ->
  wpAny (model P w) X.A (pyNext (.ref it)) (λr s1=>∃u,r=some u /\
   wpAny (model P w) X.A (letOwnedTupleGo tg (.ref it) u) (λ_ s2=>∃x H',Inv X pins σ H' s2/\RelV x u/\J.yld i H x H'/\tn (i+1) s2.heap/\∀b∈fp,H' b=none) E s1) E s
 done:∀(X:Cx),X.prog=P->X.w=w->X.K=K->X.calm=true->∀(i:Nat)(pins:List (Addr×Obj)) (s:Shared) (σ:St) (H:Hp) (E:Value->Shared->Prop),Inv X pins σ H s->(∀b∈fp,wI X pins H b)->tn i s.heap->J.stop i H ->
  wpAny (model P w) X.A (pyNext (.ref it)) (λr s1=>r=none/\Inv X pins σ H s1) E s
 self:∀(A:Around)(i:Nat)(s:Shared)(Q:Value->Shared->Prop)(E:Value->Shared->Prop),tn i s.heap->Q (.ref it) s->wpAny (model P w) A (pyIter (.ref it)) Q E s
abbrev TI:=St->Hp->(It->Hp->Prop)->Prop
def PIE(X:Cx)(pins:List (Addr×Obj))(σ:St)(tg:Expr)(R:It->Hp->Prop)(itv:Value)(s2:Shared):Prop :=
 ∃(it:Addr)(fp:List Addr)(tn:Nat->Heap->Prop)(J:It)(H':Hp),itv=.ref it/\Inv X pins σ H' s2/\Turn X.prog X.w X.K tg J fp it tn/\tn 0 s2.heap/\(∀b∈fp,wI X pins H' b)/\R J H'
def PI(X:Cx)(tg iter:Expr)(wi:TI):Prop :=
 ∀(pins:List (Addr×Obj)) (s:Shared) (σ:St) (H:Hp) (R:It->Hp->Prop),Inv X pins σ H s->wi σ H R ->
  wpAny (model X.prog X.w) X.A (eval iter X.env) (λv s1=>wpAny (model X.prog X.w) X.A (pyIter v) (PIE X pins σ tg R) X.xe s1) X.xe s
variable {tg:Expr}
theorem go_of{M:Model}{it:Addr}{o:Obj}{n:String}{vs:Array Value}{Q:Unit->Shared->Prop}(ho:s.heap.get? it=some o)(hc:o.cls=.type n)(hd:o.data=.fields vs)
 (hn : ["enumerate","zip","dict_itemiterator","dict_reverseitemiterator","odict_iterator","itertools.zip_longest","itertools.pairwise"].contains n=false) (hQ:Q () s):wpAny M A (letOwnedTupleGo tg (.ref it) u) Q E s:=by
 unfold letOwnedTupleGo;cases tg <;> first
  | exact wpAny_pure hQ
  | (cases u <;> first
      | exact wpAny_pure hQ
      | (refine wpAny_bind (wpAny_load ho ?_)
         rw[hc,hd];show wpAny M A (if(["enumerate","zip","dict_itemiterator","dict_reverseitemiterator","odict_iterator","itertools.zip_longest","itertools.pairwise"].contains n && vs[0]? == some (rawInt _))=true then _ else _) Q E s;rw[if_neg (by intro h;rw[hn,Bool.false_and]at h;cases h)];exact wpAny_pure hQ))
def Itl(K:Frag)(a:Addr):It :=
 ⟨λi H=>∃xs x,SqL K H a xs/\xs[i]? = some x,λi H x H'=>H'=H/\∀xs,SqL K H a xs->xs[i]? = some x,λi H=>∃xs,SqL K H a xs/\xs.length<=i⟩
def Itr(lo:Int)(n:Nat):It:=⟨λi _=>i<n,λi H x H'=>H'=H/\x=.int (lo+i),λi _=>n<=i⟩
variable {K:Frag}
theorem turn_list(a it:Addr):Turn P w K tg (Itl K a) [it] it (λi h=>h.IsListIter it a i) where
 mem:=by simp
 obj:=λi h st b hb=>by
  have e:b=it:=by simpa using hb
  subst e;obtain⟨o,e,c,d⟩:=st;exact⟨o,e,λv z=>by rw[d]at z;cases z⟩
 keep:=λi h h' st k=>st.at λo e=>k it (by simp) o e
 item:=by
  intro X hP hw hK hc i pins s σ H E I hf st hg;subst hP hw hK;obtain⟨xs,x,hq,hx⟩:=hg;obtain⟨its,rv,p,hz⟩:=I.list hq;obtain⟨u,hu,ru⟩:=rv.get hx;obtain⟨f0,f1,f2,f3,f4,f5⟩:=hf it (by simp);refine wpAny_pyNext_list_item st p.isList (x:=u) (by simpa using hu) λh' st' sb=>?_;have I1:Inv X pins σ H { s with heap:=h' }:=I.turned (t':=s.toks) (λb o hb e=>(sb.2 b hb).trans e) f0 f1 f3 f4 f5;obtain⟨o,e,c,d⟩:=id st';exact⟨u,rfl,go_of (s:={ s with heap:=h' }) e c d (by decide) ⟨x,H,I1,ru,⟨rfl,λys hy=>by rw[I.list_inj hy hq];exact hx⟩,st',λb hb=>(hf b hb).1⟩⟩
 done:=by
  intro X hP hw hK hc i pins s σ H E I hf st hg;subst hP hw hK;obtain⟨xs,hq,hx⟩:=hg;obtain⟨its,rv,p,hz⟩:=I.list hq;obtain⟨f0,f1,f2,f3,f4,f5⟩:=hf it (by simp);have hl:=rv.length;exact wpAny_pyNext_list_end (I.ok.hd hc) st p.isList (by simp;omega) λh' eb=>⟨rfl,I.turned (t':=s.toks) (λb o hb e=>eb b o hb e) f0 f1 f3 f4 f5⟩
 self:=λ_ _ _ _ _ st h=>wpAny_pyIter_listiter st h
theorem turn_range(it:Addr)(lo:Int)(n:Nat):Turn P w K tg (Itr lo n) [it] it (λi h=>IsRangeIter h it (lo+(i:Nat)*1) ((n:Int)-(i:Nat)) 1) where
 mem:=by simp
 obj:=λi h st b hb=>by
  have e:b=it:=by simpa using hb
  subst e;exact⟨_,st,λv z=>by
   have z':Data.fields _=Data.cell v:=z;cases z'⟩
 keep:=λi h h' st k=>k it (by simp) _ st
 item:=by
  intro X hP hw hK hc i pins s σ H E I hf st hg;subst hP hw hK;obtain⟨f0,f1,f2,f3,f4,f5⟩:=hf it (by simp);have W:=Walks.range (prog:=X.prog) (w:=X.w) (I.ok.hd hc) it lo 1 n;refine W.item i s _ _ hg st λv h' tk hv st' kk=>?_;obtain⟨t,rfl⟩:=hv;have I1:Inv X pins σ H { s with heap:=h',toks:=tk }:=I.turned (λb o hb e=>kk b o (by simpa using hb) e) f0 f1 f3 f4 f5;refine⟨_,rfl,go_of (s:={ s with heap:=h',toks:=tk }) (n:= "range_iterator") st' rfl rfl (by decide) ⟨.int (lo+i),H,I1,⟨t,?_⟩,⟨rfl,rfl⟩,st',λb hb=>(hf b hb).1⟩⟩;rw[Int.mul_one]
 done:=by
  intro X hP hw hK hc i pins s σ H E I hf st hg;subst hP hw hK;obtain⟨f0,f1,f2,f3,f4,f5⟩:=hf it (by simp);exact wpAny_pyNext_range_end (I.ok.hd hc) st (by have:n<=i:=hg;omega) λh' eb=>⟨rfl,I.turned (t':=s.toks) (λb o hb e=>eb b o hb e) f0 f1 f3 f4 f5⟩
 self:=λ_ _ _ _ _ st h=>wpAny_pyIter_rangeiter st h
section
variable {X:Cx}{tg:Expr}
inductive IIList (K:Frag) (x:V) (H1:Hp) (R:It->Hp->Prop):Prop
 | mk (a:_):x=.ref a->((∃xs,SqL K H1 a xs))->R (Itl K a) H1->IIList K x H1 R
def iList(K:Frag)(tl:TE):TI:=λσ H R=>tl σ H λx H1=>IIList K x H1 R
theorem zx{l:Expr}{tl:TE}(hl:PE X l tl):PI X tg l (iList X.K tl):=by
 intro pins s σ H R I h;refine thn (hl pins s σ H _ I h) λv s1 ⟨x,H1,I1,r1,q1⟩=>?_;obtain⟨a,e,⟨xs,hq⟩,q⟩:=q1;subst e;cases r1;obtain⟨its,rv,p,hz⟩:=I1.list hq;refine wpAny_pyIter_list p.isList ?_;refine⟨s1.heap.objs.size,[s1.heap.objs.size],_,_,H1,rfl,I1.kept (t':=s1.toks) λb o e=>get?_push_of_some _ e,turn_list a _,⟨_,get?_push_size _ rfl,rfl,rfl⟩,λb hb=>?_,q⟩;have e:b=s1.heap.objs.size:=by simpa using hb
 subst e;exact I1.fpOk (le_refl _) (I1.hok.fresh (le_refl _))
variable {pins:List (Addr×Obj)}{s:Shared}
theorem zjS{σ:St}{H:Hp}{R:It->Hp->Prop}{E:Value->Shared->Prop}{lo hi:Int}{t u v:Tok}{tk:Nat}(I:Inv X pins σ H s)(h1 : -(2 ^ 62)<=lo)(h2:lo<2 ^ 62)(h3 : -(2 ^ 62)<=hi)(h4:hi<2 ^ 62)
 (q:R (Itr lo (hi-lo).toNat) H):wpAny (model X.prog X.w) X.A (pyIter (.ref s.heap.objs.size)) (PIE X pins σ tg R) E { s with heap:=s.heap.push { cls:=.type "range",data:=.fields #[.int lo t,.int hi u,.int 1 v] },toks:=tk }:=by
 refine wpAny_pyIter_range (IsRange.new ..) (small_one h1 h2 h3 h4) ?_;have I1:Inv X pins σ H { s with heap:=s.heap.push { cls:=.type "range",data:=.fields #[.int lo t,.int hi u,.int 1 v] },toks:=tk }:=I.kept λb o e=>get?_push_of_some _ e;refine⟨(s.heap.push { cls:=.type "range",data:=.fields #[.int lo t,.int hi u,.int 1 v] }).objs.size,[(s.heap.push { cls:=.type "range",data:=.fields #[.int lo t,.int hi u,.int 1 v] }).objs.size],_,_,H,rfl,
  I1.kept (t':=tk) λb o e=>get?_push_of_some _ e,turn_range _ lo (hi-lo).toNat,?_,λb hb=>?_,q⟩
 ·have e1:lo+((0:Nat):Int)*1=lo:=by simp
  have e2:(((hi-lo).toNat:Nat):Int)-((0:Nat):Int)=Builtin.Range.rangeSize lo hi 1:=by rw[rangeSize_one];split <;> omega
  show IsRangeIter _ _ (lo+((0:Nat):Int)*1) ((((hi-lo).toNat:Nat):Int)-((0:Nat):Int)) 1;rw[e1,e2];exact get?_push_size _ rfl
 ·have e:b=(s.heap.push { cls:=.type "range",data:=.fields #[.int lo t,.int hi u,.int 1 v] }).objs.size:=by simpa using hb
  subst e;exact I1.fpOk (le_refl _) (I1.hok.fresh (le_refl _))
inductive IIRng1 (vs:List V) (H1:Hp) (R:It->Hp->Prop):Prop
 | mk (j:Int):vs=[.int j] -> -(2 ^ 62)<=j->j<2 ^ 62->R (Itr 0 j.toNat) H1->IIRng1 vs H1 R
def iRng1(ta:TA):TI:=λσ H R=>ta σ H λvs H1=>IIRng1 vs H1 R
inductive IIRng2 (vs:List V) (H1:Hp) (R:It->Hp->Prop):Prop
 | mk (i j:Int):vs=[.int i,.int j]->(-(2 ^ 62)<=i/\i<2 ^ 62 /\ -(2 ^ 62)<=j/\j<2 ^ 62)->R (Itr i (j-i).toNat) H1->IIRng2 vs H1 R
def iRng2(ta:TA):TI:=λσ H R=>ta σ H λvs H1=>IIRng2 vs H1 R
variable {pos:Pos}
theorem yo{a:Expr}{ta:TA}{p:Pos}(hg:Gl X "range")(hm:X.mg "range"=none)(ha:PA X [a] ta)(hs:starEach [a] X.env=[(false,eval a X.env)]:=by rfl):PI X tg (.Call (.Name "range" p) [a] [] pos) (iRng1 ta):=by
 intro pins s σ H R I h;refine Call_ (zcR I hg hm boot_range (callWith_type1 (thn (ha pos pins s σ H _ I h) λus s1 ⟨vs,H1,I1,r1,q1⟩=>?_) hs rfl));obtain⟨j,e,q1,q2,q⟩:=q1;subst e;cases r1 with
 | cons r rr =>
   cases rr;obtain⟨t,rfl⟩:=r;exact call_range_1 (zjS I1 (by omega) (by omega) q1 q2 (by simpa using q))
theorem zaG{a b:Expr}{ta:TA}{p:Pos}(hg:Gl X "range")(hm:X.mg "range"=none)(ha:PA X [a,b] ta)(hs:starEach [a,b] X.env=[(false,eval a X.env),(false,eval b X.env)]:=by rfl)(hs2:starEach [b] X.env=[(false,eval b X.env)]:=by rfl):
 PI X tg (.Call (.Name "range" p) [a,b] [] pos) (iRng2 ta):=by
 intro pins s σ H R I h;refine Call_ (zcR I hg hm boot_range (callWith_type1 (thn (ha pos pins s σ H _ I h) λus s1 ⟨vs,H1,I1,r1,q1⟩=>?_) (by rw[hs,hs2]) (by rw[hs2];rfl)));obtain⟨i,j,e,⟨q1,q2,q3,q4⟩,q⟩:=q1;subst e;cases r1 with
 | cons r rr =>
   cases rr with
   | cons r' rr =>
     cases rr;obtain⟨t,rfl⟩:=r;obtain⟨t',rfl⟩:=r';exact call_range_2 (zjS I1 q1 q2 q3 q4 q)
def tFor(wi:TI)(g:TG)(tb:TS):TS:=λD σ H=>wi σ H λJ H1=>∃W:Nat->Nat->St->Hp->Prop,(∃m,W 0 m σ H1)/\∀i m σ H,W i m σ H ->
 (J.stop i H/\D.nx σ H)\/(J.go i H/\∃N:St->Hp->Prop,(∀σ' H',N σ' H'->∃m',m'<m/\W (i+1) m' σ' H')/\∀x H',J.yld i H x H'->g x σ H' λσ2 H2=>tb { D with nx:=N,ct:=N,bk:=D.nx } σ2 H2)
def zi8(fp:List Addr)(h:Heap):List (Addr×Obj):=fp.filterMap λb=>(h.get? b).map λo=>(b,o)
variable {fp:List Addr}
theorem yy{h:Heap}{b:Addr}{o:Obj}(hb:b∈fp)(e:h.get? b=some o):(b,o)∈zi8 fp h:=List.mem_filterMap.mpr ⟨b,hb,by rw[e];rfl⟩
theorem of_pinsAt{h:Heap}{p:Addr×Obj}(hp:p∈zi8 fp h):p.1∈fp/\h.get? p.1=some p.2:=by
 obtain⟨b,hb,e⟩:=List.mem_filterMap.mp hp;cases q:h.get? b with
 | none=>rw[q]at e;cases e
 | some o =>
   rw[q]at e;have e':(b,o)=p:=Option.some.inj e;subst e';exact⟨hb,q⟩
theorem Inv.pinned{σ:St}{H:Hp}(I:Inv X pins σ H s)(hf:∀b∈fp,wI X pins H b)(ho:∀b∈fp,∃o,s.heap.get? b=some o/\∀v,o.data ≠ .cell v):Inv X (pins++zi8 fp s.heap) σ H s :=
 I.pins_of λp hp=>(List.mem_append.mp hp).elim (λz=>I.pin p (mem_append_right _ z)) λz=>by
  obtain⟨hb,e⟩:=of_pinsAt z;obtain⟨f0,f1,f2,_⟩:=hf p.1 hb;obtain⟨o,e',d⟩:=ho p.1 hb;rw[e]at e';cases e';exact⟨e,f0,f1,f2,d⟩
theorem Inv.unpinned{pl:List (Addr×Obj)}{σ:St}{H:Hp}(I:Inv X (pins++pl) σ H s):Inv X pins σ H s:=I.pins_of λp hp=>I.pin p (mem_append_right _ (mem_append_left _ hp))
theorem yP{iter:Expr}{body:List Stmt}{wi:TI}{g:TG}{tb:TS}(hp:PassesOwn (model X.prog X.w) X.A X.env X.xe)(hc:X.calm=true)(hi:PI X tg iter wi)(hg:PG X tg g)(hb:PSs X body tb)
 (hs:∀x,foldedSetIterable iter X.env x=pure x:=by intro _;rfl):PS X (.For tg iter body [] pos) (tFor wi g tb):=by
 intro pins s σ H D I h;refine wpAny_For (thn (hi pins s σ H _ I h) λv s1 h1=>thn h1 λitv s2 h2=>?_) hs;obtain⟨it,fp,tn,J,H2,e,I2,T,st2,f2,W,⟨m0,w0⟩,turn⟩:=h2;subst e;have stat:∀{H':Hp},(∀b∈fp,H' b=none)->∀b∈fp,wI X pins H' b:=λhn b hb=>⟨hn b hb,(f2 b hb).2⟩;refine codeAny_forLoop_any (λn s'=>∃i σ' H',Inv X pins σ' H' s'/\tn i s'.heap/\(∀b∈fp,H' b=none)/\W i n σ' H') ?_ m0 ⟨0,σ,H2,I2,st2,λb hb=>(f2 b hb).1,w0⟩;rintro n s3 ⟨i,σ3,H3,I3,st3,fr3,w3⟩;rcases turn i n σ3 H3 w3 with⟨stop,qn⟩|⟨go,N,hN,step⟩
 ·refine wpAny_passesOwn hp (thn (T.done X rfl rfl rfl hc i pins s3 σ3 H3 X.xe I3 (stat fr3) st3 stop) λr s4 ⟨hr,I4⟩=>?_);subst hr;exact wpAny_execs_nil ⟨σ3,H3,I4,qn⟩
 ·refine wpAny_passesOwn hp (thn (T.item X rfl rfl rfl hc i pins s3 σ3 H3 X.xe I3 (stat fr3) st3 go) λr s4 ⟨u,hr,h4⟩=>?_);subst hr;refine wpAny_passesOwn hp (thn h4 λ_ s5 ⟨x,H5,I5,r5,y5,st5,fr5⟩=>?_);have I5':=I5.pinned (stat fr5) (T.obj _ _ st5);refine wpAny_passesOwn hp (thn (hg _ s5 σ3 H5 x u _ I5' r5 (step x H5 y5)) λ_ s6 ⟨σ6,H6,I6,q6⟩=>?_);refine wpAny_passesOwn hp (thn (hb _ s6 σ6 H6 _ I6 q6) λf s7 q7=>?_);have again:∀{σ7:St}{H7:Hp},Inv X (pins++zi8 fp s5.heap) σ7 H7 s7->N σ7 H7->∃m,m<n/\∃i σ' H',Inv X pins σ' H' s7/\tn i s7.heap/\(∀b∈fp,H' b=none)/\W i m σ' H':=λ{σ7 H7} I7 n7=>by
   obtain⟨m',hm,w7⟩:=hN σ7 H7 n7;refine⟨m',hm,i+1,σ7,H7,I7.unpinned,T.keep _ _ _ st5 λb hb o e=>(I7.pin (b,o) (mem_append_right _ (mem_append_right _ (yy hb e)))).1,λb hb=>?_,w7⟩;obtain⟨o,e,d⟩:=T.obj _ _ st5 b hb;exact(I7.pin (b,o) (mem_append_right _ (mem_append_right _ (yy hb e)))).2.1
  cases f with
  | next=>obtain⟨σ7,H7,I7,n7⟩:=q7;exact again I7 n7
  | cont=>obtain⟨σ7,H7,I7,n7⟩:=q7;exact again I7 n7
  | brk=>obtain⟨σ7,H7,I7,q7⟩:=q7;exact⟨σ7,H7,I7.unpinned,q7⟩
  | ret v=>obtain⟨x7,σ7,H7,I7,r7,q7⟩:=q7;exact⟨x7,σ7,H7,I7.unpinned,r7,q7⟩
end
theorem zfA{xs:List V}{g:TG}{tb:TS}{D:Ends}{σ:St}(Pv:Nat->St->Hp->Prop)(h0:Pv 0 σ H)(hl:∀i σ H,i<=xs.length->Pv i σ H->SqL K H a xs)
 (hs:∀i x σ H,xs[i]? = some x->Pv i σ H->g x σ H λσ2 H2=>tb { D with nx:=Pv (i+1),ct:=Pv (i+1),bk:=D.nx } σ2 H2) (hd:∀σ H,Pv xs.length σ H->D.nx σ H) :
 ∃W:Nat->Nat->St->Hp->Prop,(∃m,W 0 m σ H)/\∀i m σ H,W i m σ H ->
  ((Itl K a).stop i H/\D.nx σ H)\/((Itl K a).go i H/\∃N:St->Hp->Prop,(∀σ' H',N σ' H'->∃m',m'<m/\W (i+1) m' σ' H')/\∀x H',(Itl K a).yld i H x H'->g x σ H' λσ2 H2=>tb { D with nx:=N,ct:=N,bk:=D.nx } σ2 H2):=by
 refine⟨λi m σ H=>m=xs.length-i/\i<=xs.length/\Pv i σ H,⟨xs.length,by simp,zero_le _,h0⟩,?_⟩;rintro i m σ H ⟨rfl,hi,p⟩;have q:=hl i σ H hi p;by_cases hlt:i<xs.length
 ·refine .inr ⟨⟨xs,xs[i],q,by simp[hlt]⟩,Pv (i+1),λσ' H' p'=>⟨xs.length-(i+1),by omega,rfl,hlt,p'⟩,λx H' y=>?_⟩;obtain⟨e,y⟩:=y;subst e;exact hs i x σ _ (y xs q) p
 ·have e:i=xs.length:=by omega
  subst e;exact .inl ⟨⟨xs,q,le_refl _⟩,hd σ H p⟩
theorem yi{lo:Int}{n:Nat}{g:TG}{tb:TS}{D:Ends}{σ:St}(Pv:Nat->St->Hp->Prop)(h0:Pv 0 σ H)
 (hs:∀i σ H,i<n->Pv i σ H->g (.int (lo+i)) σ H λσ2 H2=>tb { D with nx:=Pv (i+1),ct:=Pv (i+1),bk:=D.nx } σ2 H2) (hd:∀σ H,Pv n σ H->D.nx σ H) :
 ∃W:Nat->Nat->St->Hp->Prop,(∃m,W 0 m σ H)/\∀i m σ H,W i m σ H ->
  ((Itr lo n).stop i H/\D.nx σ H)\/((Itr lo n).go i H/\∃N:St->Hp->Prop,(∀σ' H',N σ' H'->∃m',m'<m/\W (i+1) m' σ' H')/\∀x H',(Itr lo n).yld i H x H'->g x σ H' λσ2 H2=>tb { D with nx:=N,ct:=N,bk:=D.nx } σ2 H2):=by
 refine⟨λi m σ H=>m=n-i/\i<=n/\Pv i σ H,⟨n,by simp,zero_le _,h0⟩,?_⟩;rintro i m σ H ⟨rfl,hi,p⟩;by_cases hlt:i<n
 ·refine .inr ⟨hlt,Pv (i+1),λσ' H' p'=>⟨n-(i+1),by omega,rfl,hlt,p'⟩,λx H' y=>?_⟩;obtain⟨e,y⟩:=y;subst e y;exact hs i σ _ hlt p
 ·have e:i=n:=by omega
  subst e;exact .inl ⟨le_refl _,hd σ H p⟩
abbrev R2:=V->V->Hp->VK->Prop
def OpR(X:Cx)(f:Value->Value->Sem Value)(r:R2):Prop :=
 ∀(pins:List (Addr×Obj)) (s:Shared) (σ:St) (H:Hp) (x y:V) (v u:Value) (Q:VK),Inv X pins σ H s->RelV x v->RelV y u->r x y H Q ->
  wpAny (model X.prog X.w) X.A (f v u) (EP X pins σ Q) X.xe s
def UnR(X:Cx)(f:Value->Sem Value)(r:V->Hp->VK->Prop):Prop :=
 ∀(pins:List (Addr×Obj)) (s:Shared) (σ:St) (H:Hp) (x:V) (v:Value) (Q:VK),Inv X pins σ H s->RelV x v->r x H Q ->
  wpAny (model X.prog X.w) X.A (f v) (EP X pins σ Q) X.xe s
def zak(X:Cx)(f:Value)(r:List V->Hp->VK->Prop):Prop :=
 ∀(pins:List (Addr×Obj)) (s:Shared) (σ:St) (H:Hp) (xs:List V) (us:List Value) (Q:VK),Inv X pins σ H s->Vals xs us->r xs H Q ->
  wpAny (model X.prog X.w) X.A (call f us) (EP X pins σ Q) X.xe s
def tOp(r:R2)(ta tb:TE):TE:=λσ H Q=>ta σ H λx H1=>tb σ H1 λy H2=>r x y H2 Q
def tUn(r:V->Hp->VK->Prop)(ta:TE):TE:=λσ H Q=>ta σ H λx H1=>r x H1 Q
inductive IRI (C:Int->Int->Prop) (g:Int->Int->V) (x y:V) (H:Hp) (Q:VK):Prop
 | mk (i:_) (j:_):x=.int i->y=.int j->C i j->Q (g i j) H->IRI C g x y H Q
def rI(C:Int->Int->Prop)(g:Int->Int->V):R2:=λx y H Q=>IRI C g x y H Q
inductive IRI0 (g:Int->Int->V) (x y:V) (H:Hp) (Q:VK):Prop
 | mk (i:_) (j:_):x=.int i->y=.int j->Q (g i j) H->IRI0 g x y H Q
def rI0(g:Int->Int->V):R2:=λx y H Q=>IRI0 g x y H Q
inductive IRU (g:Int->V) (x:V) (H:Hp) (Q:VK):Prop
 | mk (i:_):x=.int i->Q (g i) H->IRU g x H Q
def rU(g:Int->V):V->Hp->VK->Prop:=λx H Q=>IRU g x H Q
section
variable {X:Cx}{a b c:Expr}{ta tb tc:TE}{pos:Pos}
variable {f:Value->Value->Sem Value}
theorem binT(ha:PE X a ta)(hb:PE X b tb){pins:List (Addr×Obj)}{s:Shared}{σ:St}{H:Hp}{R:V->V->Hp->Prop}(I:Inv X pins σ H s)
 (h:ta σ H λx H1=>tb σ H1 λy H2=>R x y H2) {Q:Value->Shared->Prop} 
 (hf:∀v u s2 x y H2,Inv X pins σ H2 s2->RelV x v->RelV y u->R x y H2->wpAny (model X.prog X.w) X.A (f v u) Q X.xe s2) :
 wpAny (model X.prog X.w) X.A (eval a X.env) (λv s₁=>wpAny (model X.prog X.w) X.A (eval b X.env) (λu s₂=>wpAny (model X.prog X.w) X.A (f v u) Q X.xe s₂) X.xe s₁) X.xe s:=by
 refine thn (ha pins s σ H _ I h) λv s1 ⟨x,H1,I1,r1,q1⟩=>?_;refine thn (hb pins s1 σ H1 _ I1 q1) λu s2 ⟨y,H2,I2,r2,q2⟩=>?_;exact hf v u s2 x y H2 I2 r1 r2 q2
theorem zr{op:Operator}{r:R2}(ho:OpR X (binaryOp op) r)(ha:PE X a ta)(hb:PE X b tb):PE X (.BinOp a op b pos) (tOp r ta tb):=by
 intro pins s σ H Q I h;exact wpAny_BinOp (binT ha hb I h λv u s2 x y H2 I2 rx ry q=>ho pins s2 σ H2 x y v u Q I2 rx ry q)
theorem pe_un{op:UnaryOp}{r:V->Hp->VK->Prop}(ho:UnR X (unaryOp op) r)(ha:PE X a ta):PE X (.UnaryOp op a pos) (tUn r ta):=by
 intro pins s σ H Q I h;exact UnaryOp_ (thn (ha pins s σ H _ I h) λv s1 ⟨x,H1,I1,r1,q1⟩=>ho pins s1 σ H1 x v Q I1 r1 q1)
variable {g:Int->Int->Int}
theorem opI{C:Int->Int->Prop}
 (rule:∀(i j:Int)(t u:Tok)(s:Shared)(Q:Value->Shared->Prop)(E:Value->Shared->Prop),C i j->Q (.int (g i j) s.toks) { s with toks:=s.toks+1 }->wpAny (model X.prog X.w) X.A (f (.int i t) (.int j u)) Q E s) :
 OpR X f (rI C λi j=>.int (g i j)):=by
 intro pins s σ H x y v u Q I rx ry h;obtain⟨i,j,rfl,rfl,hc,q⟩:=h;obtain⟨t,rfl⟩:=rx;obtain⟨t',rfl⟩:=ry;exact rule i j t t' s _ _ hc ⟨.int (g i j),H,I.tok _,⟨_,rfl⟩,q⟩
theorem opI0
 (rule:∀(i j:Int)(t u:Tok)(s:Shared)(Q:Value->Shared->Prop)(E:Value->Shared->Prop),Q (.int (g i j) s.toks) { s with toks:=s.toks+1 }->wpAny (model X.prog X.w) X.A (f (.int i t) (.int j u)) Q E s) :
 OpR X f (rI0 λi j=>.int (g i j)):=by
 intro pins s σ H x y v u Q I rx ry h;obtain⟨i,j,rfl,rfl,q⟩:=h;obtain⟨t,rfl⟩:=rx;obtain⟨t',rfl⟩:=ry;exact rule i j t t' s _ _ ⟨.int (g i j),H,I.tok _,⟨_,rfl⟩,q⟩
theorem opB0{g:Int->Int->Bool}
 (rule:∀(i j:Int)(t u:Tok)(s:Shared)(Q:Value->Shared->Prop)(E:Value->Shared->Prop),Q (.bool (g i j)) s->wpAny (model X.prog X.w) X.A (f (.int i t) (.int j u)) Q E s) :
 OpR X f (rI0 λi j=>.bl (g i j)):=by
 intro pins s σ H x y v u Q I rx ry h;obtain⟨i,j,rfl,rfl,q⟩:=h;obtain⟨t,rfl⟩:=rx;obtain⟨t',rfl⟩:=ry;exact rule i j t t' s _ _ ⟨.bl (g i j),H,I,rfl,q⟩
def CDiv(i j:Int):Prop:=0<j/\j<1073741824
def CMul(i j:Int):Prop:=(-(2 ^ 64)<i/\i<2 ^ 64)\/(-(2 ^ 64)<j/\j<2 ^ 64)
theorem CMul.ok{i j:Int}(h:CMul i j):IntMulOk i j:=by
 rcases h with⟨h1,h2⟩|⟨h1,h2⟩
 ·exact .of_left (intBits_le_64 h1 h2)
 ·exact .of_right (intBits_le_64 h1 h2)
theorem yf:OpR X (binaryOp .Add) (rI0 λi j=>.int (i+j)):=opI0 λ_ _ _ _ _ _ _ q=>add_int q
theorem zds:OpR X (binaryOp .Sub) (rI0 λi j=>.int (i-j)):=opI0 λ_ _ _ _ _ _ _ q=>sub_int q
theorem zdc:OpR X (binaryOp .Mult) (rI CMul λi j=>.int (i*j)):=opI λ_ _ _ _ _ _ _ hc q=>mul_int q hc.ok
theorem wQ:OpR X (binaryOp .FloorDiv) (rI CDiv λi j=>.int (i/j)):=opI λi j _ _ _ _ _ hc q=>by
 have h1:(0:Int)<j:=hc.1;have h2:j<1073741824:=hc.2;exact floordiv_int (by omega) (by rw[Int.fdiv_eq_ediv_of_nonneg i (by omega)];exact q) (.inl (PyProof.noPylong_small (by omega)))
theorem yq:OpR X (binaryOp .Mod) (rI (λ_ j=>0<j) λi j=>.int (i%j)):=opI λi j _ _ _ _ _ hc q=>by
 have h1:(0:Int)<j:=hc;exact mod_int' (by omega) (by rw[Int.fmod_eq_emod_of_nonneg i (by omega)];exact q)
theorem unI{f:Value->Sem Value}{g:Int->Int}
 (rule:∀(i:Int)(t:Tok)(s:Shared)(Q:Value->Shared->Prop)(E:Value->Shared->Prop),Q (.int (g i) s.toks) { s with toks:=s.toks+1 }->wpAny (model X.prog X.w) X.A (f (.int i t)) Q E s) :
 UnR X f (rU λi=>.int (g i)):=by
 intro pins s σ H x v Q I rx h;obtain⟨i,rfl,q⟩:=h;obtain⟨t,rfl⟩:=rx;exact rule i t s _ _ ⟨.int (g i),H,I.tok _,⟨_,rfl⟩,q⟩
theorem un_neg:UnR X (unaryOp .USub) (rU λi=>.int (-i)):=unI λ_ _ _ _ _ q=>neg_int q
end
def scal:V->V->Bool
 | .non,.non=>true | .non,.int _=>true | .int _,.non=>true | .non,.bl _=>true | .bl _,.non=>true | .non,.str _=>true | .str _,.non=>true
 | .int _,.int _=>true | .bl _,.bl _=>true | .str _,.str _=>true | .byt _,.byt _=>true
 | .int _,.str _=>true | .str _,.int _=>true | .bl _,.str _=>true | .str _,.bl _=>true
 | _,_=>false
def rEq:R2:=λx y H Q=>scal x y=true/\Q (.bl (decide (x=y))) H
def rNe:R2:=λx y H Q=>scal x y=true/\Q (.bl (!decide (x=y))) H
theorem dec_int{i j:Int}:decide (V.int i=V.int j)=(i==j):=by
 rw[Bool.eq_iff_iff];simp
theorem dec_bl{i j:Bool}:decide (V.bl i=V.bl j)=(i==j):=by
 rw[Bool.eq_iff_iff];simp
theorem dec_str{i j:Str}:decide (V.str i=V.str j)=(i==j):=by
 rw[Bool.eq_iff_iff];simp
theorem dec_byt{i j:Array UInt8}:decide (V.byt i=V.byt j)=(i.toList==j.toList):=by
 rw[Bool.eq_iff_iff];cases i;cases j;simp
section
variable {X:Cx}{a b c:Expr}{ta tb tc:TE}{pos:Pos}
theorem zT{pins:List (Addr×Obj)}{σ:St}{H:Hp}{s:Shared}{Q:VK}{k k':Bool}(I:Inv X pins σ H s)(q:Q (.bl k) H)(e:k=k'):EP X pins σ Q (.bool k') s:=by
 subst e;exact⟨.bl k,H,I,rfl,q⟩
theorem zag:OpR X (compareOp .Eq) rEq:=by
 intro pins s σ H x y v u Q I rx ry h;obtain⟨hs,q⟩:=h;cases x with
 | non =>
   cases rx;cases y with
   | non=>cases ry;exact PySem.EqNone.eq_none_none (zT I q (by simp))
   | bl j=>cases ry;exact PySem.EqNone.eq_none_bool (zT I q (by simp))
   | int j=>obtain⟨t',rfl⟩:=ry;exact PySem.EqNone.eq_none_int (zT I q (by simp))
   | str j=>obtain⟨t',rfl⟩:=ry;exact PySem.EqNone.eq_none_str (zT I q (by simp))
   | _=>exact absurd (show false=true from hs) Bool.false_ne_true
 | bl i =>
   cases rx;cases y with
   | non=>cases ry;exact PySem.EqNone.eq_bool_none (zT I q (by simp))
   | bl j=>cases ry;exact eq_bool (zT I q dec_bl)
   | str j=>obtain⟨t',rfl⟩:=ry;exact PySem.EqMixed.eq_bool_str (zT I q (by simp))
   | _=>exact absurd (show false=true from hs) Bool.false_ne_true
 | int i =>
   obtain⟨t,rfl⟩:=rx;cases y with
   | non=>cases ry;exact PySem.EqNone.eq_int_none (zT I q (by simp))
   | int j=>obtain⟨t',rfl⟩:=ry;exact eq_int (zT I q dec_int)
   | str j=>obtain⟨t',rfl⟩:=ry;exact PySem.EqMixed.eq_int_str (zT I q (by simp))
   | _=>exact absurd (show false=true from hs) Bool.false_ne_true
 | str i =>
   obtain⟨t,rfl⟩:=rx;cases y with
   | non=>cases ry;exact PySem.EqNone.eq_str_none (zT I q (by simp))
   | bl j=>cases ry;exact PySem.EqMixed.eq_str_bool (zT I q (by simp))
   | int j=>obtain⟨t',rfl⟩:=ry;exact PySem.EqMixed.eq_str_int (zT I q (by simp))
   | str j=>obtain⟨t',rfl⟩:=ry;exact eq_str (zT I q dec_str)
   | _=>exact absurd (show false=true from hs) Bool.false_ne_true
 | byt i =>
   obtain⟨t,rfl⟩:=rx;cases y with
   | byt j=>obtain⟨t',rfl⟩:=ry;exact PySem.W.eq_bytes (zT I q dec_byt)
   | _=>exact absurd (show false=true from hs) Bool.false_ne_true
 | _=>cases y <;> exact absurd (show false=true from hs) Bool.false_ne_true
theorem yQ:OpR X (compareOp .NotEq) rNe:=by
 intro pins s σ H x y v u Q I rx ry h;obtain⟨hs,q⟩:=h;cases x with
 | non =>
   cases rx;cases y with
   | non=>cases ry;exact PySem.EqNone.ne_none_none (zT I q (by simp))
   | bl j=>cases ry;exact PySem.EqNone.ne_none_bool (zT I q (by simp))
   | int j=>obtain⟨t',rfl⟩:=ry;exact PySem.EqNone.ne_none_int (zT I q (by simp))
   | str j=>obtain⟨t',rfl⟩:=ry;exact PySem.EqNone.ne_none_str (zT I q (by simp))
   | _=>exact absurd (show false=true from hs) Bool.false_ne_true
 | bl i =>
   cases rx;cases y with
   | non=>cases ry;exact PySem.EqNone.ne_bool_none (zT I q (by simp))
   | bl j=>cases ry;exact ne_bool (zT I q (congrArg not dec_bl))
   | str j=>obtain⟨t',rfl⟩:=ry;exact PySem.EqMixed.ne_bool_str (zT I q (by simp))
   | _=>exact absurd (show false=true from hs) Bool.false_ne_true
 | int i =>
   obtain⟨t,rfl⟩:=rx;cases y with
   | non=>cases ry;exact PySem.EqNone.ne_int_none (zT I q (by simp))
   | int j=>obtain⟨t',rfl⟩:=ry;exact ne_int (zT I q (congrArg not dec_int))
   | str j=>obtain⟨t',rfl⟩:=ry;exact PySem.EqMixed.ne_int_str (zT I q (by simp))
   | _=>exact absurd (show false=true from hs) Bool.false_ne_true
 | str i =>
   obtain⟨t,rfl⟩:=rx;cases y with
   | non=>cases ry;exact PySem.EqNone.ne_str_none (zT I q (by simp))
   | bl j=>cases ry;exact PySem.EqMixed.ne_str_bool (zT I q (by simp))
   | int j=>obtain⟨t',rfl⟩:=ry;exact PySem.EqMixed.ne_str_int (zT I q (by simp))
   | str j=>obtain⟨t',rfl⟩:=ry;exact ne_str (zT I q (congrArg not dec_str))
   | _=>exact absurd (show false=true from hs) Bool.false_ne_true
 | byt i =>
   obtain⟨t,rfl⟩:=rx;cases y with
   | byt j=>obtain⟨t',rfl⟩:=ry;exact PySem.W.ne_bytes (zT I q (congrArg not dec_byt))
   | _=>exact absurd (show false=true from hs) Bool.false_ne_true
 | _=>cases y <;> exact absurd (show false=true from hs) Bool.false_ne_true
theorem zfr:OpR X (compareOp .Lt) (rI0 λi j=>.bl (decide (i<j))):=opB0 λ_ _ _ _ _ _ _ q=>lt_int q
theorem zfE:OpR X (compareOp .LtE) (rI0 λi j=>.bl (decide (i<=j))):=opB0 λ_ _ _ _ _ _ _ q=>le_int q
theorem zgp:OpR X (compareOp .Gt) (rI0 λi j=>.bl (decide (j<i))):=opB0 λ_ _ _ _ _ _ _ q=>gt_int q
theorem op_ge:OpR X (compareOp .GtE) (rI0 λi j=>.bl (decide (j<=i))):=opB0 λ_ _ _ _ _ _ _ q=>ge_int q
theorem op_isN:OpR X (compareOp .Is) (λx y H Q=>y=.non/\Q (.bl (decide (x=.non))) H):=by
 intro pins s σ H x y v u Q I rx ry h;obtain⟨rfl,q⟩:=h;cases ry;refine is_none_gen (zT I q ?_);cases x <;> first
  | (cases rx;rfl)
  | (obtain⟨t,rfl⟩:=rx;rfl)
theorem op_notN:OpR X (compareOp .IsNot) (λx y H Q=>y=.non/\Q (.bl (!decide (x=.non))) H):=by
 intro pins s σ H x y v u Q I rx ry h;obtain⟨rfl,q⟩:=h;cases ry;refine isnot_none_gen (zT I q ?_);cases x <;> first
  | (cases rx;rfl)
  | (obtain⟨t,rfl⟩:=rx;rfl)
variable {op:CmpOp}
theorem zp(b:Expr)(h:op ≠ .In:=by decide)(h2:op ≠ .NotIn:=by decide):behindInMarks op b=false:=by
 have e1:(op==CmpOp.In)=false:=by cases op <;> first | rfl | exact absurd rfl h
 have e2:(op==CmpOp.NotIn)=false:=by cases op <;> first | rfl | exact absurd rfl h2
 cases b <;> simp[behindInMarks,e1,e2]
theorem zbL{r:R2}(ho:OpR X (compareOp op) r)(ha:PE X a ta)(hb:PE X b tb)(hm:behindInMarks op b=false):PE X (.Compare a [op] [b] pos) (tOp r ta tb):=by
 intro pins s σ H Q I h;exact wpAny_Compare1 (binT ha hb I h λv u s2 x y H2 I2 rx ry q=>ho pins s2 σ H2 x y v u Q I2 rx ry q) hm
inductive ITTest (x:V) (H':Hp) (Q:Bool->Hp->Prop):Prop
 | mk (k:_):x=.bl k->Q k H'->ITTest x H' Q
def tTest(t:TE):TT:=λσ H Q=>t σ H λx H'=>ITTest x H' Q
theorem zm{r:R2}(ho:OpR X (compareOp op) r)(ha:PE X a ta)(hb:PE X b tb)(hm:behindInMarks op b=false):PT X (.Compare a [op] [b] pos) (tTest (tOp r ta tb)):=by
 intro pins s σ H Q I h;refine wpAny_isTrue_Compare1 (thn (ha pins s σ H _ I h) λv s1 ⟨x,H1,I1,r1,q1⟩=>thn (hb pins s1 σ H1 _ I1 q1) λu s2 ⟨y,H2,I2,r2,q2⟩ =>
  thn (ho pins s2 σ H2 x y v u _ I2 r1 r2 q2) λc s3 ⟨z,H3,I3,r3,k,e,q3⟩=>?_) hm
 subst e;cases r3;exact wpAny_truthy_bool ⟨H3,I3,q3⟩
def tChain(r r':R2)(ta tb tc:TE):TE:=λσ H Q=>ta σ H λx H1=>tb σ H1 λy H2=>r x y H2 λz H3=>∃k,z=.bl k /\
 (if k=true then tc σ H3 λw' H4=>r' y w' H4 Q else Q (.bl false) H3)
theorem zhM{op':CmpOp}{r r':R2}(ho:OpR X (compareOp op) r)(ho':OpR X (compareOp op') r')(ha:PE X a ta)(hb:PE X b tb)(hc:PE X c tc)
 (hm:lastMarks [op,op'] [b,c]=false:=by with_unfolding_all rfl):PE X (.Compare a [op,op'] [b,c] pos) (tChain r r' ta tb tc):=by
 intro pins s σ H Q I h;refine Compare_chain (thn (ha pins s σ H _ I h) λv s1 ⟨x,H1,I1,r1,q1⟩=>chain_link (thn (hb pins s1 σ H1 _ I1 q1) λu s2 ⟨y,H2,I2,r2,q2⟩ =>
  thn (ho pins s2 σ H2 x y v u _ I2 r1 r2 q2) λd s3 ⟨z,H3,I3,r3,k,e,q3⟩=>?_)) hm
 subst e;cases r3;refine wpAny_truthy_bool ?_;cases k with
 | false=>exact ite_ff ⟨.bl false,H3,I3,rfl,q3⟩
 | true=>exact ite_tt (chain_last (thn (hc pins s3 σ H3 _ I3 q3) λw' s4 ⟨z',H4,I4,r4,q4⟩=>ho' pins s4 σ H4 y z' u w' Q I4 r2 r4 q4))
theorem zgg:(sizeLine:Nat)<2 ^ 63:=by rw[sizeLine_eq];decide
inductive IOp_add_str (x y:V) (H:Hp) (Q:VK):Prop
 | mk (i:_) (j:_):x=.str i->y=.str j->i.length+j.length<=sizeLine->Q (.str (i++j)) H->IOp_add_str x y H Q
theorem zdI:OpR X (binaryOp .Add) IOp_add_str:=by
 intro pins s σ H x y v u Q I rx ry h;obtain⟨i,j,rfl,rfl,hz,q⟩:=h;obtain⟨t,rfl⟩:=rx;obtain⟨t',rfl⟩:=ry;exact add_str (λt' tk=>⟨.str (i++j),H,I.tok _,⟨_,rfl⟩,q⟩) hz
variable {us:List Value}
theorem vals1{x:V}(r:Vals [x] us):∃u,us=[u]/\RelV x u:=by
 cases r with
 | cons r1 r2=>cases r2;exact⟨_,rfl,r1⟩
theorem vals2{x y:V}(r:Vals [x,y] us):∃u w',us=[u,w']/\RelV x u/\RelV y w':=by
 cases r with
 | cons r1 r2 =>
   cases r2 with
   | cons r3 r4=>cases r4;exact⟨_,_,rfl,r1,r3⟩
inductive ICall_min2 (xs:List V) (H:Hp) (Q:VK):Prop
 | mk (i:_) (j:_):xs=[.int i,.int j]->(Q (.int (if j<i then j else i)) H)->ICall_min2 xs H Q
theorem call_min2(hc:X.calm=true):zak X (.builtin "min") ICall_min2:=by
 intro pins s σ H xs us Q I r h;obtain⟨i,j,rfl,q⟩:=h;obtain⟨u,w',rfl,⟨t,rfl⟩,⟨t',rfl⟩⟩:=vals2 r;refine min_two_ints (I.ok.hd hc) λh' tk k=>⟨_,H,I.kept k,?_,q⟩;by_cases hj:j<i
 ·rw[if_pos hj,if_pos hj];exact⟨_,rfl⟩
 ·rw[if_neg hj,if_neg hj];exact⟨_,rfl⟩
def LenV(K:Frag)(x:V)(H:Hp)(n:Nat):Prop :=
 match x with
 | .str y=>y.length<=sizeLine/\n=y.length
 | .byt y=>y.size<=sizeLine/\n=y.size
 | .ref p=>(∃xs,SqL K H p xs/\n=xs.length)\/∃xs,SqT K H p xs/\n=xs.length
 | _=>False
theorem call_len:zak X (.builtin "len") (λxs H Q=>∃x n,xs=[x]/\LenV X.K x H n/\Q (.int n) H):=by
 intro pins s σ H xs us Q I r h;obtain⟨x,n,rfl,e,q⟩:=h;obtain⟨u,rfl,rx⟩:=vals1 r;have hl:=zgg;have hs:sizeLine=16777216:=sizeLine_eq;cases x with
 | str y =>
   obtain⟨t,rfl⟩:=rx;obtain⟨hy,e'⟩:y.length<=sizeLine/\n=y.length:=e;subst e';exact len_str (by omega) ⟨.int _,H,I.tok _,⟨_,rfl⟩,q⟩
 | byt y =>
   obtain⟨t,rfl⟩:=rx;obtain⟨hy,e'⟩:y.size<=sizeLine/\n=y.size:=e;subst e';exact PySem.W.len_bytes (by omega) ⟨.int _,H,I.tok _,⟨_,rfl⟩,q⟩
 | ref p =>
   cases rx;have e':(∃xs,SqL X.K H p xs/\n=xs.length)\/∃xs,SqT X.K H p xs/\n=xs.length:=e;rcases e' with⟨xs,hx,e'⟩|⟨xs,hx,e'⟩
   ·subst e';obtain⟨its,r',pl,hz⟩:=I.list hx;have hlen:=r'.length;exact Calls.call_len_list pl.isList (by simp only[size_toArray];omega) ⟨.int xs.length,H,I.tok _,⟨_,by simp only[size_toArray];rw[hlen]⟩,q⟩
   ·subst e';obtain⟨its,r',pl,hz⟩:=I.tuple hx;have hlen:=r'.length;exact len_tuple pl (by simp only[size_toArray];omega) ⟨.int xs.length,H,I.tok _,⟨_,by simp only[size_toArray];rw[hlen]⟩,q⟩
 | _=>exact(show False from e).elim
end
structure ObjM (h:Heap) (x dx C:Addr) (mA:Str->Option Value):Prop where
 obj:h.get? x=some (instObj C dx)
 ns:h.Ns1 dx mA
 ne:dx≠x
variable {mA:Str->Option Value}
theorem lookIn_ns{dx:Addr}(n:h.Ns1 dx mA):∃od,h.get? dx=some od/\∀name,lookIn name od=some (mA name):=by
 obtain⟨o,es,ep,ho,hd,hk,_,hm⟩:=n;refine⟨o,ho,λname=>?_⟩;have e:=hm name;unfold nsFind findBy at e;rw[<-Array.find?_toList]at e;unfold lookIn;rw[hd];dsimp only;split
 ·rename_i y q;rw[q]at e;exact congrArg some e
 ·rename_i q;rw[q]at e;have a:es.toList.any (·.refKey)=false:=by
   rw[List.any_eq_false];intro y hy;obtain⟨z,t,hkey⟩:=hk y (Array.mem_toList_iff.mp hy);simp[DictEntry.refKey,hkey]
  have a':¬es.toList.any (·.refKey)=true:=by rw[a];exact Bool.false_ne_true
  rw[if_neg a'];exact congrArg some e
variable {C:Addr}
theorem ObjM.look{x dx:Addr}(I:ObjM h x dx C mA):∃od,InstAt h x (instObj C dx) C (some od)/\∀name,lookIn name od=some (mA name) :=
 let ⟨od,ho,hl⟩:=lookIn_ns I.ns
 ⟨od,⟨I.obj,rfl,rfl,ho⟩,hl⟩
section
variable {prog:Program}{w:World}{A:Around}{E:Value->Shared->Prop}{s:Shared}{K:Frag}{x dx C f:Addr}{mA:Str->Option Value}{name:Str}{v:Value}
theorem get_map{expr:Bool}{Q:Value->Shared->Prop}(X:K.In s.heap)(I:ObjM s.heap x dx C mA)(hg:plainGet K C name=true)(hh:hasDictIn K C=true)
 (ha:findIn K (.ref C) name=some none) (hv:mA name=some v) (hv':handedIn v=true) (h:Q v { s with toks:=s.toks+1 }) :
 wpAny (model prog w) A (getAttr (.ref x) name expr) Q E s:=by
 obtain⟨od,J,hl⟩:=I.look;exact PySem.W.get_value X J (plainGet_of hg).1 (PySem.W.findObj_own hh ha rfl (by rw[hl,hv])) hv' h
theorem get_meth{pl:Sem Bool}{Q:Value×List Value->Shared->Prop}(X:K.In s.heap)(I:ObjM s.heap x dx C mA)(hg:plainGet K C name=true)
 (hf:findIn K (.ref C) name=some (some (.ref f))) (ht:isFn K (.ref f)=true) (hv:mA name=none) (h:Q (.ref f,[.ref x]) s) :
 wpAny (model prog w) A (getMethod (.ref x) name pl) Q E s:=by
 obtain⟨od,J,hl⟩:=I.look;exact PySem.W.method_fn X J (plainGet_of hg).1 (plainGet_of hg).2 hf (beq_iff_eq.mp ht) (by show(lookIn name od).map (·.isSome)=some false;rw[hl,hv];rfl) h
theorem set_map{ns:List Str}{Q:Unit->Shared->Prop}(X:K.In s.heap)(I:ObjM s.heap x dx C mA)
 (hs:findIn K (.ref C) "__setattr__"=some (some (.builtin "object.__setattr__"))) (hp:plainOver K C=true) (ht:takerIn K C name=some none) (hh:hasDictIn K C=true)
 (hw:PySem.Within mA ns) (hsz:ns.length<=sizeLine)
 (h:∀h',ObjM h' x dx C (λy=>if y=name then some v else mA y)->SameBut dx s.heap h'->Q () { s with heap:=h',toks:=s.toks+2 }) :
 wpAny (model prog w) A (setAttr (.ref x) name v) Q E s:=by
 obtain⟨od,J,hl⟩:=I.look;refine PySem.W.set_plain X J hs (PySem.W.osa_open (s:={ s with toks:=s.toks+1 }) (r:=none) X J hp ht λb=>?_);obtain⟨cd,hc,hd'⟩:=PySem.W.any_some hh;have hx:s.heap.get? x=some ⟨.ref C,some dx,.plain,#[]⟩:=I.obj;refine wpAny_bind (wpAny_pure (wpAny_bind (wpAny_bind (wpAny_loadPart hx (wpAny_bind (PySem.W.Looks.here (s:={ s with toks:=s.toks+1 }) (PySem.W.looks_clsIn X hc) ?_))))));rw[hd'];refine wpAny_pure (a:=some dx) (wpAny_bind (wpAny_pure (wpAny_bind ?_)));refine wpAny_nsSet1 (s:={ s with toks:=s.toks+1 }) I.ns λh' hn2 hs2=>?_;obtain⟨oD,esD,epD,hoD,hdD,hcD⟩:=hn2.count (PySem.Within.cons name v hw);refine wpAny_bind (wpAny_lookBehind hoD (by rw[hdD];exact pastItsLine_dict (le_trans hcD (by rw[length_cons];omega))) ?_);exact wpAny_pure (h _ ⟨(hs2.2 _ (Ne.symm I.ne)).trans I.obj,hn2,I.ne⟩ hs2)
theorem make_map{R:Result->Shared->Prop}{vs:List Value}{kw:List (Str×Value)}(X:K.In s.heap)(hm:makesIn K C=true)
 (hi:findIn K (.ref C) "__init__"=some (some (.ref f))) (hf:typeIn K (.ref f)=some (.type "function"))
 (h:codeAny (model prog w) (A.under (.builtin "type.__call__" ⟨.ref C::vs,kw⟩)) (.call (.ref f) ⟨.ref (s.heap.objs.size+1)::vs,kw⟩) (PySem.W.InitBack (s.heap.objs.size+1) R)
   { s with heap:=(s.heap.push emptyDict).push (instObj C s.heap.objs.size) }) :
 codeAny (model prog w) A (.call (.ref C) ⟨vs,kw⟩) R s:=by
 obtain⟨hh,g,d,t,os⟩:=s;exact PySem.W.make_core (PySem.W.makes_of X hm) (PySem.W.looks_findIn X hi) (λself=>PySem.W.bind_fn X self hf) (.inl rfl) h
end
def zaa(f:Str)(v:V):List (Str×V)->List (Str×V)
 | []=>[(f,v)]
 | (g,x)::r=>if g=f then(g,v)::r else(g,x)::zaa f v r
theorem zgt(f g:Str)(v:V):∀fs:List (Str×V),(zaa f v fs).lookup g=if g=f then some v else fs.lookup g
 | []=>by
   show List.lookup g [(f,v)]=_;by_cases h:g=f
   ·have hb:(g==f)=true:=beq_iff_eq.mpr h;simp only[List.lookup,hb,if_pos h]
   ·have hb:(g==f)=false:=beq_eq_false_iff_ne.mpr h;simp only[List.lookup,hb,if_neg h]
 | (k,x)::r=>by
   have ih:=zgt f g v r;rw[show zaa f v ((k,x)::r)=(if k=f then(k,v)::r else(k,x)::zaa f v r)from rfl];by_cases hk:k=f
   ·rw[if_pos hk];by_cases h:g=k
    ·have hb:(g==k)=true:=beq_iff_eq.mpr h;simp only[List.lookup,hb,if_pos (h.trans hk)]
    ·have hb:(g==k)=false:=beq_eq_false_iff_ne.mpr h;simp only[List.lookup,hb,if_neg (λe:g=f=>h (e.trans hk.symm))]
   ·rw[if_neg hk];by_cases h:g=k
    ·have hb:(g==k)=true:=beq_iff_eq.mpr h;simp only[List.lookup,hb,if_neg (λe:g=f=>hk (h.symm.trans e))]
    ·have hb:(g==k)=false:=beq_eq_false_iff_ne.mpr h;simp only[List.lookup,hb];exact ih
theorem zgd(f:Str)(v:V):∀fs:List (Str×V),f∈(zaa f v fs).map (·.1)/\∀g,g∈fs.map (·.1)->g∈(zaa f v fs).map (·.1)
 | []=>⟨by simp[zaa],λg h=>by simp at h⟩
 | (k,x)::r=>by
   obtain⟨i1,i2⟩:=zgd f v r;rw[show zaa f v ((k,x)::r)=(if k=f then(k,v)::r else(k,x)::zaa f v r)from rfl];by_cases hk:k=f
   ·rw[if_pos hk];subst hk;exact⟨by simp,λg h=>by simpa using h⟩
   ·rw[if_neg hk];refine⟨?_,λg h=>?_⟩
    ·rw[map_cons];exact mem_cons_of_mem _ i1
    ·rw[map_cons]at h ⊢;rcases List.mem_cons.mp h with e | e
     ·exact List.mem_cons.mpr (.inl e)
     ·exact mem_cons_of_mem _ (i2 g e)
theorem zgB(f:Str)(v:V):∀fs:List (Str×V),(zaa f v fs).length<=fs.length+1
 | []=>by simp[zaa]
 | (k,x)::r=>by
   have ih:=zgB f v r;rw[show zaa f v ((k,x)::r)=(if k=f then(k,v)::r else(k,x)::zaa f v r)from rfl];by_cases hk:k=f
   ·rw[if_pos hk,length_cons,length_cons];omega
   ·rw[if_neg hk,length_cons,length_cons];omega
theorem RelO.some_of{v:V}{o:Option Value}(r:RelO (some v) o):∃u,o=some u/\RelV v u:=by
 cases o with
 | none=>exact(show False from r).elim
 | some u=>exact⟨u,rfl,r⟩
theorem RelO.none_of{o:Option Value}(r:RelO none o):o=none:=by
 cases o with
 | none=>rfl
 | some u=>exact(show False from r).elim
theorem handed_of{v:V}(r:RelV v u):handedIn u=true:=by
 cases v with
 | non=>cases (show u=Value.none from r);rfl
 | bl b=>cases (show u=Value.bool b from r);rfl
 | int i=>obtain⟨t,e⟩:=(show ∃t,u=Value.int i t from r);cases e;rfl
 | str x=>obtain⟨t,e⟩:=(show ∃t,u=Value.str x t from r);cases e;rfl
 | byt b=>obtain⟨t,e⟩:=(show ∃t,u=Value.bytes b t from r);cases e;rfl
 | flt b=>obtain⟨t,e⟩:=(show ∃t,u=Value.float b t from r);cases e;rfl
 | ref a=>cases (show u=Value.ref a from r);rfl
 | ty n=>cases (show u=Value.type n from r);rfl
section
variable {P:Program}{w:World}{H H':Hp}{h h':Heap}{a C dx:Addr}{fs fs':List (Str×V)}
theorem zjA(hok:HOk P w H h)(e:H a=some (.ins C dx fs)):∃mA,ObjM h a dx C mA/\(∀f,RelO (fs.lookup f) (mA f))/\PySem.Within mA (fs.map (·.1))/\fs.length<=1000/\H dx=some (.own a):=by
 obtain⟨d,z,ne,ob,mA,n,r,q⟩:=(show ObjOk P w H h a (.ins C dx fs)from hok a _ e);exact⟨mA,⟨ob,n,ne⟩,r,q,z,d⟩
end
structure Cls (K:Frag) (C:Addr):Prop where
 pg:plainGet K C Str.empty=true
 hd:hasDictIn K C=true
 po:plainOver K C=true
 sa:findIn K (.ref C) "__setattr__"=some (some (.builtin "object.__setattr__"))
theorem Cls.get(c:Cls K C)(f:Str):plainGet K C f=true:=c.pg
def NoAttr(K:Frag)(C:Addr)(f:Str):Prop:=findIn K (.ref C) f=some none
theorem NoAttr.taker{f:Str}(n:NoAttr K C f):takerIn K C f=some none:=by
 unfold takerIn;rw[show findIn K (.ref C) f=some none from n];rfl
structure Meth (K:Frag) (C:Addr) (m:Str) (f:Addr):Prop where
 at_:findIn K (.ref C) m=some (some (.ref f))
 fn:isFn K (.ref f)=true
 kp:keepIn K (.ref f)=true
section
variable {X:Cx}{pins:List (Addr×Obj)}{σ:St}{H:Hp}{s:Shared}{a C dx:Addr}{fs:List (Str×V)}{f:Str}{v:V}{A:Around}{E:Value->Shared->Prop}
variable {Q:Value->Shared->Prop}
theorem zkZ{b:Bool}(I:Inv X pins σ H s)(e:H a=some (.ins C dx fs))(c:Cls X.K C)(n:NoAttr X.K C f)(l:fs.lookup f=some v)
 (h:∀u s',Inv X pins σ H s'->RelV v u->Q u s'):wpAny (model X.prog X.w) A (getAttr (.ref a) f b) Q E s:=by
 obtain⟨mA,O,r,_,_,_⟩:=zjA I.hok e;obtain⟨u,hu,ru⟩:=RelO.some_of (v:=v) (o:=mA f) (by rw[<-l];exact r f);exact get_map I.kIn O (c.get f) c.hd n hu (handed_of ru) (h u _ (I.tok _) ru)
theorem zfh{m:Str}{g:Addr}{pl:Sem Bool}{Q:Value×List Value->Shared->Prop}(I:Inv X pins σ H s)(e:H a=some (.ins C dx fs))(c:Cls X.K C)(k:Meth X.K C m g)(l:fs.lookup m=none)
 (h:Q (.ref g,[.ref a]) s):wpAny (model X.prog X.w) A (getMethod (.ref a) m pl) Q E s:=by
 obtain⟨mA,O,r,_,_,_⟩:=zjA I.hok e;have hn:mA m=none:=RelO.none_of (by rw[<-l];exact r m);exact get_meth I.kIn O (c.get m) k.at_ k.fn hn h
theorem setattr_ok{y:V}{u:Value}{Q:Unit->Shared->Prop}(I:Inv X pins σ H s)(e:H a=some (.ins C dx fs))(c:Cls X.K C)(n:NoAttr X.K C f)(hl:fs.length<1000)(ry:RelV y u)
 (h:∀s',Inv X pins σ (upd H a (.ins C dx (zaa f y fs))) s'->Q () s'):wpAny (model X.prog X.w) A (setAttr (.ref a) f u) Q E s:=by
 obtain⟨mA,O,r,wi,_,ho⟩:=zjA I.hok e;have hz:(fs.map (·.1)).length<=sizeLine:=by rw[length_map,sizeLine_eq];omega
 refine set_map I.kIn O c.sa c.po n.taker c.hd wi hz λh' O' sb=>h _ ?_;have hd:∃o,h'.get? dx=some o:=let ⟨o,_,_,e',_⟩:=O'.ns;⟨o,e'⟩;refine I.write (x:=a) (e:=dx) (by rw[e];exact True.intro) (.inr ho) (λb q hb z=>(sb.2 b hb).trans z) hd ?_;refine⟨by rw[zh O.ne];exact ho,?_,O.ne,O'.obj,_,O'.ns,λg=>?_,λg hg=>?_⟩
 ·have:=zgB f y fs;omega
 ·show RelO ((zaa f y fs).lookup g) (if g=f then some u else mA g);rw[zgt];by_cases q:g=f
  ·rw[if_pos q,if_pos q];exact ry
  ·rw[if_neg q,if_neg q];exact r g
 ·by_cases q:g=f
  ·rw[q];exact(zgd f y fs).1
  ·refine(zgd f y fs).2 g (wi g λz=>hg ?_);show(if g=f then some u else mA g)=none;rw[if_neg q];exact z
theorem Inv.made(I:Inv X pins σ H s):Inv X pins σ (upd (upd H s.heap.objs.size (.own (s.heap.objs.size+1))) (s.heap.objs.size+1) (.ins C s.heap.objs.size []))
 { s with heap:=(s.heap.push emptyDict).push (instObj C s.heap.objs.size) }:=by
 have e1:(s.heap.push emptyDict).get? s.heap.objs.size=some emptyDict:=get?_push_size s.heap rfl;have e2:((s.heap.push emptyDict).push (instObj C s.heap.objs.size)).get? (s.heap.objs.size+1)=some (instObj C s.heap.objs.size):=by
  have:=get?_push_size (s.heap.push emptyDict) (o:=instObj C s.heap.objs.size) rfl
  rwa [size_push]at this
 have e3:(s.heap.push emptyDict).Ns s.heap.objs.size (λ_=>none):=⟨emptyDict,#[],_,e1,rfl,(λe he=>absurd he (by simp)),λ_=>rfl⟩;have I1:=I.laid (a:=s.heap.objs.size) (o:=.own (s.heap.objs.size+1)) (h':=s.heap.push emptyDict) (t':=s.toks) (λb u q=>get?_push_of_some _ q) (le_refl _) ⟨_,e1⟩;refine I1.laid (a:=s.heap.objs.size+1) (o:=.ins C s.heap.objs.size []) (t':=s.toks) (λb u q=>get?_push_of_some _ q) (le_of_eq (size_push _ _)) ?_;have ne:s.heap.objs.size≠s.heap.objs.size+1:=ne_of_lt (lt_succ_self _);refine⟨by rw[zh ne,zd],zero_le _,ne,e2,λ_=>none,(Heap.Ns1.of_empty e3).at λo q=>get?_push_of_some _ q,λ_=>True.intro,λy hy=>absurd rfl hy⟩
theorem attr_of{prog:Program}{w:World}{env:Env}{e:Expr}{f:Str}{pos:Pos}{s:Shared}(hb:attributeBase e f env (eval e env)=eval e env)
 (h:wpAny (model prog w) A (eval e env) (λo s₁=>wpAny (model prog w) A (getAttr o f true) Q E s₁) E s):wpAny (model prog w) A (eval (.Attribute e f pos) env) Q E s :=
 Attribute_any_ h (by rw[arm_eval_Attribute,hb])
end
inductive ITFld (K:Frag) (f:Str) (x:V) (H1:Hp) (Q:VK):Prop
 | mk (a:_) (C:_) (dx:_) (fs:_) (v:_):x=.ref a->H1 a=some (.ins C dx fs)->Cls K C->NoAttr K C f->fs.lookup f=some v->Q v H1->ITFld K f x H1 Q
def tFld(K:Frag)(ta:TE)(f:Str):TE:=λσ H Q=>ta σ H λx H1=>ITFld K f x H1 Q
def sFld(K:Frag)(ta tv:TE)(f:Str):TS:=λD σ H=>tv σ H λy H1=>ta σ H1 λx H2=>∃a C dx fs,x=.ref a/\H2 a=some (.ins C dx fs)/\Cls K C/\NoAttr K C f/\fs.length<1000 /\
 D.nx σ (upd H2 a (.ins C dx (zaa f y fs)))
section
variable {X:Cx}{o e value:Expr}{f:Str}{pos pos' tpos:Pos}{ta tv:TE}
theorem yN(he:PE X e ta)(hb:attributeBase e f X.env (eval e X.env)=eval e X.env):PE X (.Attribute e f pos) (tFld X.K ta f):=by
 intro pins s σ H Q I h;refine attr_of hb (thn (he pins s σ H _ I h) λu s1 ⟨x,H1,I1,rx,a,C,dx,fs,v,ex,ea,c,n,l,q⟩=>?_);subst ex;obtain rfl:u=Value.ref a:=rx;exact zkZ I1 ea c n l λu' s2 I2 ru=>⟨v,H1,I2,ru,q⟩
theorem zdF(ha:PE X o ta)(hv:PE X value tv)(hs:swapsWith value (some (.Attribute o f pos')) pos.line X.env=pure false):PS X (.Assign [.Attribute o f pos'] value pos) (sFld X.K ta tv f):=by
 intro pins s σ H D I h;refine plainObj_wpAny_Assign_Attribute (thn (hv pins s σ H _ I h) λu s1 ⟨y,H1,I1,ry,q⟩=>thn (ha pins s1 σ H1 _ I1 q) λov s2 ⟨x,H2,I2,rx,a,C,dx,fs,ex,ea,c,n,l,q2⟩=>?_) hs;subst ex;obtain rfl:ov=Value.ref a:=rx;exact setattr_ok I2 ea c n l ry λs3 I3=>⟨σ,_,I3,q2⟩
end
section
variable {X:Cx}{pins:List (Addr×Obj)}{σ:St}{H:Hp}{s:Shared}{A:Around}{E:Value->Shared->Prop}{Q:Value->Shared->Prop}{c:Value}{b:Bool}
end
structure Room (k:Nat) (A:Around):Prop where
 hd:A.handled=none
 dp:A.depth+3*k+5<recursionLimit
 un:A.units+16*k+200<cLine
variable {k:Nat}
theorem Room.mono{j:Nat}(r:Room k A)(h:j<=k):Room j A:=⟨r.hd,by have:=r.dp;omega,by have:=r.un;omega⟩
theorem hM{j:Nat}(r:Room k A)(h:j<=k:=by decide):Room j A:=r.mono h
theorem Room.deeper(r:Room (k+1) A)(env:Env):Room k (A.deeper env) :=
 ⟨r.hd,by have:=r.dp;show A.depth+1+3*k+5<_;omega,by have:=r.un;show A.units+3+16*k+200<_;omega⟩
theorem Room.in1(r:Room (k+1) A):Room k A.in1 :=
 ⟨r.hd,by have:=r.dp;show A.depth+3*k+5<_;omega,by have:=r.un;show A.units+1+16*k+200<_;omega⟩
variable {kw:List (Str×Value)}
theorem make_depth:(A.under (.builtin "type.__call__" ⟨.ref C::us,kw⟩)).depth=A.depth+1:=by
 first | rfl | simp[Around.under,Code.weight,Code.isCreation,Code.isGuard,Code.isCaller,Code.frames,Code.isFrame,guardIds]
theorem zkT:(A.under (.builtin "type.__call__" ⟨.ref C::us,kw⟩)).units=A.units+1:=by
 first | rfl | simp[Around.under,Code.cUnits,Code.frames,Code.isFrame]
theorem Room.make(r:Room (k+1) A)(C:Addr)(us:List Value)(kw:List (Str×Value)):Room k (A.under (.builtin "type.__call__" ⟨.ref C::us,kw⟩)) :=
 ⟨r.hd,by have:=r.dp;rw[make_depth];omega,by have:=r.un;rw[zkT];omega⟩
theorem Room.depth(r:Room k A):A.depth<recursionLimit:=by have:=r.dp;omega
theorem Room.units(r:Room k A):A.units+64<cLine:=by have:=r.un;omega
theorem Room.units0(r:Room k A):A.units<cLine:=by have:=r.un;omega
def tNil:TA:=λ_ H Q=>Q [] H
def tCons(ta:TE)(tr:TA):TA:=λσ H Q=>ta σ H λx H1=>tr σ H1 λxs H2=>Q (x::xs) H2
section
variable {X:Cx}{e:Expr}{es:List Expr}{te:TE}{t:TA}{pos:Pos}
theorem zb:PA X [] tNil:=λ_ _ _ _ H Q I h=>Calls.spliced_nil ⟨[],H,I,.nil,h⟩
theorem za(ha:PE X e te)(hr:PA X es t)(hs:starEach (e::es) X.env=(false,eval e X.env)::starEach es X.env:=by rfl):PA X (e::es) (tCons te t):=by
 intro pos pins s σ H Q I h;rw[hs];show wpAny _ _ (spliced ((false,eval e X.env)::backTo pos (starEach es X.env))) _ _ s;refine Calls.spliced_cons (thn (ha pins s σ H _ I h) λu s1 ⟨x,H1,I1,r1,q1⟩=>?_);exact thn (hr pos pins s1 σ H1 _ I1 q1) λus s2 ⟨xs,H2,I2,r2,q2⟩=>⟨x::xs,H2,I2,.cons r1 r2,q2⟩
def tTup(t:TA):TE:=λσ H Q=>t σ H λxs H1=>xs.length<=sizeLine/\∀p,H1 p=none->Q (.ref p) (upd H1 p (.tup xs))
def tLst(t:TA):TE:=λσ H Q=>t σ H λxs H1=>xs.length<=sizeLine/\∀p,H1 p=none->Q (.ref p) (upd H1 p (.lst xs))
theorem zb9{x1}(h:PA X es t):PE X (.Tuple es x1 pos) (tTup t):=by
 intro pins s σ H Q I hq;refine wpAny_Tuple_spliced (thn (h pos pins s σ H _ I hq) λus s1 ⟨xs,H1,I1,r,z,q⟩=>⟨by rw[<-r.length];exact z,?_⟩);have hf:H1 s1.heap.objs.size=none:=I1.hok.fresh (le_refl _);refine⟨.ref s1.heap.objs.size,upd H1 s1.heap.objs.size (.tup xs),I1.laid (t':=s1.toks) (λb u e=>get?_push_of_some _ e) (le_refl _) ?_,rfl,q _ hf⟩;exact⟨z,us,r,⟨_,get?_push_size _ rfl,rfl,_,rfl⟩⟩
theorem zI(h:PA X es t):PE X (.List es pos) (tLst t):=by
 intro pins s σ H Q I hq;refine wpAny_List_spliced (thn (h pos pins s σ H _ I hq) λus s1 ⟨xs,H1,I1,r,z,q⟩=>⟨by rw[<-r.length];exact z,?_⟩);have hf:H1 s1.heap.objs.size=none:=I1.hok.fresh (le_refl _);refine⟨.ref s1.heap.objs.size,upd H1 s1.heap.objs.size (.lst xs),I1.laid (t':=s1.toks) (λb u e=>get?_push_of_some _ e) (le_refl _) ?_,rfl,q _ hf⟩;exact⟨z,us,0,r,get?_push_size _ rfl⟩
end
abbrev Sp:=List V->Hp->VK->XK->Prop
abbrev CXT:=List Env->Hp->Shared->XK->Value->Shared->Prop
structure Env0 (P:Program) (w:World) (K:Frag) (mg:Str->Option Value) (base:Heap) (A:Around) (outer:List Env) (s:Shared) (H:Hp):Prop where
 frames:A.frames=some outer
 mod:Mod K mg base
 bs:∀b o,base.get? b=some o->s.heap.get? b=some o/\H b=none
 bsz:base.objs.size<=s.heap.objs.size
 funs:s.heap.FunFrames base outer
 frf:∀b∈frs outer,H b=none
 hok:HOk P w H s.heap
 bare:AllBare s.gens
def CE(outer:List Env)(P:Program)(w:World)(H:Hp)(s:Shared)(Q:VK)(u:Value)(s':Shared):Prop :=
 ∃v H',s'.os=s.os/\AllBare s'.gens/\Un (frs outer) [] H H' s.heap s'.heap/\HOk P w H' s'.heap/\RelV v u/\Q v H'
def CR(CX:CXT)(outer:List Env)(P:Program)(w:World)(H:Hp)(s:Shared)(Q:VK)(E:XK)(r:Result)(s':Shared):Prop :=
 match r with
 | .ok (.ret u)=>CE outer P w H s Q u s'
 | .ok _=>False
 | .error e=>CX outer H s E e s'
structure FnOk (P:Program) (w:World) (K:Frag) (mg:Str->Option Value) (base:Heap) (CX:CXT) (k:Nat) (f:Addr) (fd:FuncData) (ps:List Str) (sp:Sp):Prop where
 len:∀vs H Q E,sp vs H Q E->vs.length=ps.length
 run:∀(A:Around)(outer:List Env)(s:Shared)(H:Hp)(args:Args)(us:List Value)(vs:List V)(Q:VK)(E:XK),Room k A->Env0 P w K mg base A outer s H->BindsTo s fd args (ps.zip us)->Vals vs us->sp vs H Q E ->
  codeAny (model P w) A (.call (.ref f) args) (CR CX outer P w H s Q E) s
variable {mg:Str->Option Value}{base:Heap}{outer:List Env}
theorem Env0.make(e:Env0 P w K mg base A outer s H)(C:Addr)(us:List Value)(kw:List (Str×Value)):
 Env0 P w K mg base (A.under (.builtin "type.__call__" ⟨.ref C::us,kw⟩)) outer s H:=⟨by first | exact e.frames | (simpa [Around.under,Code.envs,Code.isFrame,pushEnvs] using e.frames),e.mod,e.bs,e.bsz,e.funs,e.frf,e.hok,e.bare⟩
theorem Env0.in1(e:Env0 P w K mg base A outer s H):
 Env0 P w K mg base A.in1 outer s H:=⟨e.frames,e.mod,e.bs,e.bsz,e.funs,e.frf,e.hok,e.bare⟩
section
variable {X:Cx}{pins:List (Addr×Obj)}{σ:St}{H:Hp}{s s':Shared}
theorem Inv.env0(I:Inv X pins σ H s):Env0 X.prog X.w X.K X.mg X.base X.A X.stack s H :=
 ⟨I.ok.frames,I.ok.mod,I.bs,le_trans I.ok.bsz I.sz,I.stack,I.stkFree,I.hok,I.bare⟩
theorem Inv.after{Q:VK}{u:Value}(I:Inv X pins σ H s)(h:CE X.stack X.prog X.w H s Q u s'):EP X pins σ Q u s':=by
 obtain⟨v,H',os,bare,un,hok,r,q⟩:=h;obtain⟨hh,g,d,t,os'⟩:=s';obtain rfl:os'=s.os:=os;exact⟨v,H',I.call (h':=hh) (g':=g) (d':=d) (t':=t) (ch:=[]) un hok bare (λb z=>absurd z (by simp)),r,q⟩
end
def tCall(sp:Sp)(dvs:List V)(E:XK)(t:TA):TE:=λσ H Q=>t σ H λvs H1=>sp (vs++dvs) H1 Q E
inductive ITMeth (C:Addr) (m:Str) (sp:Sp) (dvs:List V) (E:XK) (t:TA) (σ:St) (x:V) (H1:Hp) (Q:VK):Prop
 | mk (a:_) (dx:_) (fs:_):x=.ref a->H1 a=some (.ins C dx fs)->fs.lookup m=none->(t σ H1 λvs H2=>sp (x::(vs++dvs)) H2 Q E)->ITMeth C m sp dvs E t σ x H1 Q
def tMeth(C:Addr)(m:Str)(sp:Sp)(dvs:List V)(E:XK)(ta:TE)(t:TA):TE:=λσ H Q=>ta σ H λx H1=>ITMeth C m sp dvs E t σ x H1 Q
def Binds(K:Frag)(fd:FuncData)(ps:List Str)(ds:List Value):Prop :=
 ∀(s:Shared)(us:List Value),K.In s.heap->(us++ds).length=ps.length->BindsTo s fd ⟨us,[]⟩ (ps.zip (us++ds))
variable {ps:List Str}
theorem Binds.all{fd:FuncData}(h:∀us:List Value,us.length=ps.length->bindArgs fd ⟨us,[]⟩=pure (ps.zip us)):Binds K fd ps []:=λs us _ hl=>by
 rw[append_nil]at hl ⊢;exact .of_eq (h us hl)
def zjo(CX:CXT)(X:Cx)(E:XK):Prop:=∀(pins:List (Addr×Obj)) (σ:St) (H:Hp) (s:Shared) (e:Value) (s':Shared),Inv X pins σ H s->CX X.stack H s E e s'->X.xe e s'
section
variable {X:Cx}{CX:CXT}{k:Nat}{f C:Addr}{fd:FuncData}{ps:List Str}{sp:Sp}{dvs:List V}{ds:List Value}{E:XK}{x m:Str}{p pos apos:Pos}{e o:Expr}{es:List Expr}{ta:TE}{t:TA}
theorem run_fn{pins:List (Addr×Obj)}{σ:St}{H:Hp}{s:Shared}{Q:VK}{us:List Value}{vs:List V}(F:FnOk X.prog X.w X.K X.mg X.base CX k f fd ps sp)(hr:Room k X.A)(hb:Binds X.K fd ps ds)(hd:Vals dvs ds)(hx:zjo CX X E)
 (I:Inv X pins σ H s) (r:Vals vs us) (h:sp (vs++dvs) H Q E):wpAny (model X.prog X.w) X.A (call (.ref f) us) (EP X pins σ Q) X.xe s:=by
 have r2:Vals (vs++dvs) (us++ds):=r.append hd;have hl:(us++ds).length=ps.length:=by rw[<-r2.length];exact F.len _ _ _ _ h
 refine wpAny_call (codeAny_mono (F.run X.A X.stack s H ⟨us,[]⟩ (us++ds) (vs++dvs) Q E hr I.env0 (hb s us I.kIn hl) r2 h) λr s' hq=>?_);cases r with
 | error e=>exact hx pins σ H s e s' I hq
 | ok fl =>
   cases fl with
   | ret u=>exact I.after hq
   | next=>exact False.elim hq
   | brk=>exact False.elim hq
   | cont=>exact False.elim hq
theorem pe_call(F:FnOk X.prog X.w X.K X.mg X.base CX k f fd ps sp)(hr:Room k X.A)(hg:Gl X x)(hm:X.mg x=some (.ref f))(hk:keepIn X.K (.ref f)=true)(hb:Binds X.K fd ps ds)(hd:Vals dvs ds)(hx:zjo CX X E)
 (ha:PA X (e::es) t) (hdb:(x==("__debug__":Str))=false:=by decide) (he:starEach (e::es) X.env=(false,eval e X.env)::starEach es X.env:=by rfl) (hpl:(backTo pos (starEach es X.env)).any (·.1)=false:=by rfl) :
 PE X (.Call (.Name x p) (e::es) [] pos) (tCall sp dvs E t):=by
 intro pins s σ H Q I h;refine wpAny_Call_Name_kw (zfH I hg hm ?_ hdb);refine callWith_K (h₀:=X.base) I.ok.mod.kin hk (thn (ha pos pins s σ H _ I h) λus s1 ⟨vs,H1,I1,r,q⟩=>⟨I1.kIn,?_⟩) he hpl;exact run_fn F hr hb hd hx I1 r q
theorem pe_meth0{pl:Sem Bool}(he:PE X o ta)(c:Cls X.K C)(hm:Meth X.K C m f)(F:FnOk X.prog X.w X.K X.mg X.base CX k f fd ps sp)(hr:Room k X.A)(hb:Binds X.K fd ps ds)(hd:Vals dvs ds)(hx:zjo CX X E)
 (ht:eval (.Call (.Attribute o m apos) [] [] pos) X.env=(do
   let ov <-eval o X.env
   standAt apos.atName
   let (f,first) <-holding [ov] (getMethod ov m pl)
   callWith pos f first (backTo pos (starEach [] X.env)) (backToKw pos (keywordEach [] X.env))):=by rfl) :
 PE X (.Call (.Attribute o m apos) [] [] pos) (tMeth C m sp dvs E ta tNil):=by
 intro pins s σ H Q I h;refine methodCall_KW (pl:=pl) (thn (he pins s σ H _ I h) λu s1 ⟨x,H1,I1,rx,a,dx,fs,ex,ea,l,q⟩=>?_) ht;subst ex;obtain rfl:u=Value.ref a:=rx;refine zfh I1 ea c hm l ?_;exact callWith_K0 (first:=[.ref a]) I1.kIn hm.kp (run_fn (us:=[.ref a]) (vs:=[.ref a]) F hr hb hd hx I1 (.cons rfl .nil) q)
structure Mk (K:Frag) (C f:Addr):Prop where
 makes:makesIn K C=true
 init:findIn K (.ref C) "__init__"=some (some (.ref f))
 fn:isFn K (.ref f)=true
 kp:keepIn K (.ref C)=true
end
section
variable {X:Cx}{CX:CXT}{k:Nat}{f C:Addr}{fd:FuncData}{ps ks:List Str}{sp:Sp}{E:XK}{x m:Str}{p pos apos kpos:Pos}{e o:Expr}{es:List Expr}{kws:List Keyword}{te ta:TE}{t tk:TA}{nm:Option Str}
variable {g:List Value->List Value->List Value}{gV:List V->List V->List V}
end
structure FnScope (N P:List Str) (sc:Scope):Prop where
 kind:sc.kind=.function
 co:sc.isCoroutine=false
 gen:sc.isGenerator=false
 nd:N.Nodup
 pre:N.take P.length=P
 par:∀x∈P,sc.names.lookup x=some .local\/sc.names.lookup x=some .cell
 nofree:∀y∈sc.names,y.2 ≠ .free
variable {kindOf:Str->Option NameKind}{x:Str}
theorem ziv:∀{binds:List (Str×Value)} {m:Str->Option Value},(∀v,(x,v)∉binds)->bindL kindOf binds m x=m x
 | [],_,_=>rfl
 | (n,v)::r,m,h=>by
   unfold bindL;rw[ziv λw hw=>h w (mem_cons_of_mem _ hw)];split
   ·have:x≠n:=by rintro rfl;exact h v mem_cons_self
    simp[this]
   ·rfl
theorem ziA:∀{binds:List (Str×Value)} {m:Str->Option Value},(∀v,(x,v)∉binds)->bindC kindOf binds m x=m x
 | [],_,_=>rfl
 | (n,v)::r,m,h=>by
   unfold bindC;rw[ziA λw hw=>h w (mem_cons_of_mem _ hw)];split
   ·rfl
   ·have:x≠n:=by rintro rfl;exact h v mem_cons_self
    simp[this]
theorem zim{v:Value}:∀{P:List Str}{vs:List Value}{i:Nat}{m:Str->Option Value},P.Nodup->P[i]? = some x->vs[i]? = some v->kindOf x=some .local ->
 bindL kindOf (P.zip vs) m x=some v
 | [],_,_,_,_,h,_,_=>by simp at h
 | _::_,[],_,_,_,_,h,_=>by simp at h
 | p::P,w::vs,0,m,nd,h1,h2,hk=>by
   simp at h1 h2;subst h1;subst h2;show bindL kindOf ((p,w)::P.zip vs) m p=_;unfold bindL;rw[ziv λv hv=>(List.nodup_cons.mp nd).1 (of_mem_zip hv).1,if_pos hk];simp
 | p::P,w::vs,i+1,m,nd,h1,h2,hk=>by
   show bindL kindOf ((p,w)::P.zip vs) m x=_;unfold bindL;exact zim (i:=i) (List.nodup_cons.mp nd).2 (by simpa using h1) (by simpa using h2) hk
theorem zij{v:Value}:∀{P:List Str}{vs:List Value}{i:Nat}{m:Str->Option Value},P.Nodup->P[i]? = some x->vs[i]? = some v->kindOf x≠some .local ->
 bindC kindOf (P.zip vs) m x=some v
 | [],_,_,_,_,h,_,_=>by simp at h
 | _::_,[],_,_,_,_,h,_=>by simp at h
 | p::P,w::vs,0,m,nd,h1,h2,hk=>by
   simp at h1 h2;subst h1;subst h2;show bindC kindOf ((p,w)::P.zip vs) m p=_;unfold bindC;rw[ziA λv hv=>(List.nodup_cons.mp nd).1 (of_mem_zip hv).1,if_neg hk];simp
 | p::P,w::vs,i+1,m,nd,h1,h2,hk=>by
   show bindC kindOf ((p,w)::P.zip vs) m x=_;unfold bindC;exact zij (i:=i) (List.nodup_cons.mp nd).2 (by simpa using h1) (by simpa using h2) hk
def zbr(N:List Str)(vs:List V):St:=vs.map some++replicate (N.length-vs.length) none
def zb5(CX:CXT)(P:Program)(w:World)(K:Frag)(mg:Str->Option Value)(base:Heap)(N:List Str)(qual:Str)(scope:Scope)(f:Addr)(cd:Value)(A:Around)(outer:List Env)(s:Shared)(H:Hp)(E:XK):Cx where
 prog:=P
 w:=w
 K:=K
 mg:=mg
 base:=base
 A:=A.deeper (envOfC qual scope s.heap.objs.size f cd)
 N:=N
 s₀:=s
 H₀:=H
 env:=envOfC qual scope s.heap.objs.size f cd
 outer:=outer
 stack:=envOfC qual scope s.heap.objs.size f cd::outer
 ex:=[]
 calm:=true
 fn:=λ_=>true
 pn:=[]
 xe:=λe s'=>wpAny (model P w) (A.deeper (envOfC qual scope s.heap.objs.size f cd)) (leaving (envOfC qual scope s.heap.objs.size f cd) e) (λ_ s''=>CX outer H s E e s'') (λe' s''=>CX outer H s E e' s'') s'
theorem zjU{sc:Scope}{n:Nat}(h:sc.names.lookup x=some .cell):∃c,(cellsFrom n sc.names []).lookup x=some c:=by
 have q:=cellsFrom_some sc.names n [] (.inl h);exact Option.isSome_iff_exists.mp q
variable {scope:Scope}
theorem ziE{CX:CXT}{N:List Str}{qual:Str}{f:Addr}{cd:Value}{s1:Shared}{E:XK}{vs:List V}
 (S:FnScope N ps scope) (hd:A.handled=none) (e0:Env0 P w K mg base A outer s H) (hl:vs.length=ps.length) (r:Vals vs us)
 (x:InCallC s s.heap.objs.size (bindL (envOfC qual scope s.heap.objs.size f cd).kindOf (ps.zip us) λ_=>none) (cellsFrom (s.heap.objs.size+1) scope.names []) (bindC (envOfC qual scope s.heap.objs.size f cd).kindOf (ps.zip us) λ_=>none) s1) :
 Inv (zb5 CX P w K mg base N qual scope f cd A outer s H E) [] (zbr N vs) H s1:=by
 have hpl:ps.length<=N.length:=by have:=congrArg List.length S.pre;rw[length_take]at this;omega
 obtain⟨h1,tk,rfl,hk⟩:=x.done;have noA:∀b:Addr,b∉(zb5 CX P w K mg base N qual scope f cd A outer s H E).ex:=λb z=>absurd (show b∈([]:List Addr)from z) (by simp);refine⟨⟨e0.mod,S.kind,rfl,rfl,le_refl _,λy z c h1 h2=>?_,λy hy=>?_,λy c _ h=>?_,λ_=>hd,Around.frames_deeper e0.frames,.inr ⟨rfl,rfl⟩,λb z=>absurd z (noA b),e0.bs,e0.bsz,λb _ _=>noA b,λb z=>absurd z (noA b),e0.funs,e0.frf⟩,
  rfl,e0.bare,Un.kept hk,⟨_,x.toInCall.ns,λi y v h1 h2 h3=>?_⟩,λy c h=>⟨_,x.cell y c h⟩,e0.hok.fresh (le_refl _),λy c h=>?_,λp hp=>absurd (show p∈([]:List (Addr×Obj))from hp) (by simp),e0.hok.kept hk,?_⟩
 ·exact name_of_addr x.apart (PySem.mem_of_lookup h1) (PySem.mem_of_lookup h2)
 ·have hy:scope.names.lookup y=some .cell\/scope.names.lookup y=some .free:=hy;rcases hy with hy | hy
  ·exact zjU hy
  ·exact absurd rfl (S.nofree _ (PySem.mem_of_lookup hy))
 ·exact le_of_lt (x.above y c (PySem.mem_of_lookup h))
 ·have hi:i<vs.length:=by
   unfold zbr at h2;by_cases hi:i<vs.length
   ·exact hi
   ·rw[List.getElem?_append_right (by simpa using hi)]at h2;rw[List.getElem?_replicate]at h2;split at h2 <;> cases h2
  have ha:vs[i]? = some v:=by
   unfold zbr at h2;rw[List.getElem?_append_left (by simpa using hi),getElem?_map]at h2;cases e:vs[i]? with
   | none=>rw[e]at h2;cases h2
   | some a=>rw[e]at h2;cases h2;rfl
  obtain⟨u,hu,rv⟩:=r.get ha;have hp:ps[i]? = some y:=by
   rw[<-S.pre,List.getElem?_take_of_lt (by omega)];exact h1
  have ndP:ps.Nodup:=by rw[<-S.pre];exact S.nd.sublist (List.take_sublist _ _)
  refine⟨u,rv,?_⟩;rcases S.par y (mem_of_getElem? hp)with k | k
  ·exact .inl ⟨k,zim ndP hp hu k⟩
  ·obtain⟨c,e⟩:=zjU (n:=s.heap.objs.size+1) k;refine .inr ⟨.inl k,c,e,?_⟩;have q:=x.cell y c e;rw[zij ndP hp hu (by show scope.names.lookup y≠_;rw[k];decide)]at q;exact q
 ·exact e0.hok.fresh (le_of_lt (x.above y c (PySem.mem_of_lookup h)))
 ·unfold zbr;show _=N.length;rw[length_append,length_map,List.length_replicate];omega
theorem fn_of{CX:CXT}{f:Addr}{name qual:Str}{params:Arguments}{body:List Stmt}{dV kV doc pm cdv ct oc:Value}{an od:Option Addr}
 {osl:Array (Option Value)} {N:List Str} {sp:Sp} (lk:K.lookup f=some ⟨oc,od,.func (fnOf name qual params body scope dV kV doc pm an cdv ct),osl⟩) (hcd:codeIn K cdv qual=true) (S:FnScope N ps scope)
 (len:∀vs H Q E,sp vs H Q E->vs.length=ps.length)
 (hbody:∀(A:Around)(outer:List Env)(s:Shared)(H:Hp)(vs:List V)(Q:VK)(E:XK),Room k (A.deeper (envOfC qual scope s.heap.objs.size f cdv))->sp vs H Q E ->
   ∃t,PSs (zb5 CX P w K mg base N qual scope f cdv A outer s H E) body t/\t { nx:=λ_ H'=>Q .non H',rt:=Q } (zbr N vs) H) :
 FnOk P w K mg base CX (k+1) f (fnOf name qual params body scope dV kV doc pm an cdv ct) ps sp:=by
 refine⟨len,λA outer s H args us vs Q E hr e0 hb r hsp=>?_⟩;have hl:=len _ _ _ _ hsp;have KX:K.In s.heap:=e0.mod.kin.keeps λb o e=>(e0.bs b o e).1;have lim:s.heap.NoLimit:=e0.mod.nolimit.keeps λb o e=>(e0.bs b o e).1;have hkind:∀y∈ps.zip us,scope.names.lookup y.1=some .local\/(scope.names.lookup y.1=some .cell/\((cellsFrom (s.heap.objs.size+1) scope.names []).lookup y.1).isSome=true):=λ⟨n,v⟩ hy=>by
  rcases S.par n (of_mem_zip hy).1 with q | q
  ·exact .inl q
  ·exact .inr ⟨q,cellsFrom_some _ _ _ (.inl q)⟩
 refine codeAny_call_function hr.depth (KX _ _ lk) rfl S.co S.gen rfl (PySem.W.codeRec_of KX hcd) (hb _ _ _ _ ?_);refine wpAny_newFunctionEnv_cells S.kind hkind λenv he s1 x=>?_;subst he;refine⟨lim.keeps x.toInCall.keep,codeAny_func ?_⟩;obtain⟨t,ht,hq⟩:=hbody A outer s H vs Q E (hr.deeper _) hsp;have I:Inv (zb5 CX P w K mg base N qual scope f cdv A outer s H E) [] (zbr N vs) H s1:=ziE S hr.hd e0 hl r x;refine wpAny_mono (ht [] s1 (zbr N vs) H _ I hq) (λfl s' hs=>?_) λe s' hs=>hs;have fin:∀{σ':St}{H':Hp}{v:V}{u:Value},Inv (zb5 CX P w K mg base N qual scope f cdv A outer s H E) [] σ' H' s'->RelV v u->Q v H'->CE outer P w H s Q u s' :=
  λ{σ' H' v u} J rv q=>⟨v,H',J.os,J.bare,J.base,J.hok,rv,q⟩
 cases fl with
 | ret u =>
   obtain⟨v,σ',H',J,rv,q⟩:=hs;exact fin J rv q
 | next =>
   obtain⟨σ',H',J,q⟩:=hs;exact fin (v:=V.non) (u:=Value.none) J rfl q
 | brk =>
   obtain⟨_,_,_,q⟩:=hs;exact False.elim q
 | cont =>
   obtain⟨_,_,_,q⟩:=hs;exact False.elim q
section
variable {X:Cx}{x:Str}{p pos:Pos}{e:Expr}{es:List Expr}{t:TA}{id T:String}{r:List V->Hp->VK->Prop}
def tCB(r:List V->Hp->VK->Prop)(t:TA):TE:=λσ H Q=>t σ H λvs H1=>r vs H1 Q
theorem zB(hc:zak X (.builtin id) r)(hg:Gl X x)(hm:X.mg x=none)(hv:bootBuiltins x=some (.builtin id))(ha:PA X (e::es) t)(hn:x≠"__name__":=by decide)(hdb:(x==("__debug__":Str))=false:=by decide)
 (he:starEach (e::es) X.env=(false,eval e X.env)::starEach es X.env:=by rfl) (hpl:(backTo pos (starEach es X.env)).any (·.1)=false:=by rfl):PE X (.Call (.Name x p) (e::es) [] pos) (tCB r t):=by
 intro pins s σ H Q I h;refine wpAny_Call_Name_kw (zcR I hg hm hv ?_ hn hdb);exact callWith_builtin1 (thn (ha pos pins s σ H _ I h) λus s1 ⟨vs,H1,I1,r1,q1⟩=>hc pins s1 σ H1 vs us Q I1 r1 q1) he hpl
theorem zM(hc:zak X (.type T) r)(hg:Gl X x)(hm:X.mg x=none)(hv:bootBuiltins x=some (.type T))(ha:PA X (e::es) t)(hn:x≠"__name__":=by decide)(hdb:(x==("__debug__":Str))=false:=by decide)
 (he:starEach (e::es) X.env=(false,eval e X.env)::starEach es X.env:=by rfl) (hpl:(backTo pos (starEach es X.env)).any (·.1)=false:=by rfl):PE X (.Call (.Name x p) (e::es) [] pos) (tCB r t):=by
 intro pins s σ H Q I h;refine wpAny_Call_Name_kw (zcR I hg hm hv ?_ hn hdb);exact callWith_type1 (thn (ha pos pins s σ H _ I h) λus s1 ⟨vs,H1,I1,r1,q1⟩=>hc pins s1 σ H1 vs us Q I1 r1 q1) he hpl
end
end L2
namespace HT
open PySem PyProof.Rows
def lexLt:List Int->List Int->Bool
 | [],[]=>false
 | [],_::_=>true
 | _::_,[]=>false
 | x::xs,y::ys=>if x=y then lexLt xs ys else decide (x<y)
theorem lexLt_cons(x y:Int)(xs ys:List Int):lexLt (x::xs) (y::ys)=if x=y then lexLt xs ys else decide (x<y):=rfl
theorem lexLt_nil_nil:lexLt [] []=false:=rfl
theorem lexLt_nil_cons(y:Int)(ys:List Int):lexLt [] (y::ys)=true:=rfl
theorem lexLt_cons_nil(x:Int)(xs:List Int):lexLt (x::xs) []=false:=rfl
theorem rcLt_int(A:Around)(s:Shared)(a:Int)(t:Tok)(c:Int)(u:Tok)(prog:Program)(w:World)(E:Value->Shared->Prop)(Q:Value->Shared->Prop)(h:Q (.bool (decide (a<c))) s):
 wpAny (model prog w) A (richCompare .Lt (.int a t) (.int c u)) Q E s :=
 (PyProof.Rows.lt_int h:wpAny (model prog w) A (compareOp .Lt (.int a t) (.int c u)) Q E s)
section
open PySem.SeqAt
open PySem.AutoSeq1 (wpAny_loadPart')
open PySem.MeetsSeq PySem.MeetsSeq2 PySem.MeetsSeq3
end
section
variable {prog:Program}{w:World}{A:Around}{E:Value->Shared->Prop}{s:Shared}
def sIx(n d:Nat):Option Int->Nat
 | none=>d
 | some v=>if v<0 then(v+(n:Int)).toNat else min v.toNat n
theorem sIx_none(n d:Nat):sIx n d none=d:=rfl
theorem sIx_nat(n d k:Nat):sIx n d (some (k:Int))=min k n:=by
 show(if(k:Int)<0 then((k:Int)+(n:Int)).toNat else min (k:Int).toNat n)=min k n;rw[if_neg (by omega),Int.toNat_natCast]
end
end HT
namespace L2
open PySem PySem.Spec PyProof.Rows
abbrev TO:=St->Hp->(Option Int->Hp->Prop)->Prop
def PO(X:Cx)(e:Option Expr)(t:TO):Prop :=
 ∀(pins:List (Addr×Obj)) (s:Shared) (σ:St) (H:Hp) (Q:Option Int->Hp->Prop),Inv X pins σ H s->t σ H Q ->
  wpAny (model X.prog X.w) X.A (evalPart e X.env) (λu s'=>∃o H',Inv X pins σ H' s'/\IsPart u o/\Q o H') X.xe s
def tNoPart:TO:=λ_ H Q=>Q none H
inductive ITPart (x:V) (H1:Hp) (Q:Option Int->Hp->Prop):Prop
 | mk (i:_):x=.int i->Q (some i) H1->ITPart x H1 Q
def tPart(t:TE):TO:=λσ H Q=>t σ H λx H1=>ITPart x H1 Q
theorem zaC{ns:List Int}:∀{us:List Value},Vals (ns.map V.int) us->IntsAre us ns:=by
 induction ns with
 | nil=>intro us r;rw[map_nil]at r;cases r;exact .nil
 | cons n ns ih =>
   intro us r;rw[map_cons]at r;cases r with
   | cons r1 r2 =>
     obtain⟨t,e⟩:=r1;subst e;exact .cons n t (ih r2)
section
variable {X:Cx}{e:Expr}{te:TE}{lo hi:Option Expr}{tl th:TO}{pos p2:Pos}
theorem wf:PO X none tNoPart:=by
 intro pins s σ H Q I h;rw[evalPart_none];exact wpAny_pure ⟨none,H,I,.none,h⟩
theorem yA(h:PE X e te):PO X (some e) (tPart te):=by
 intro pins s σ H Q I hw;rw[evalPart_some];refine thn (h pins s σ H _ I hw) λu s1 ⟨x,H1,I1,r1,q1⟩=>?_;obtain⟨i,rfl,q⟩:=q1;obtain⟨t,rfl⟩:=r1;exact⟨some i,H1,I1,.int i t,q⟩
def SlR(X:Cx)(r:V->Option Int->Option Int->Hp->VK->Prop):Prop :=
 ∀(pins:List (Addr×Obj)) (s:Shared) (σ:St) (H:Hp) (x:V) (v vl vu:Value) (lo hi:Option Int) (sl:Addr) (Q:VK),Inv X pins σ H s->RelV x v->s.heap.IsSliceOf sl vl vu .none->IsPart vl lo->IsPart vu hi->r x lo hi H Q ->
  ∃T id,typeLookup (.type T) "__getitem__"=pure (some (.builtin id))/\s.TypeIs v T/\wpAny (model X.prog X.w) X.A (getItem v (.ref sl)) (EP X pins σ Q) X.xe s
def tSl(r:V->Option Int->Option Int->Hp->VK->Prop)(te:TE)(tl th:TO):TE:=λσ H Q=>te σ H λx H1=>tl σ H1 λl H2=>th σ H2 λu H3=>r x l u H3 Q
theorem yw{r:V->Option Int->Option Int->Hp->VK->Prop}(hr:SlR X r)(he:PE X e te)(hl:PO X lo tl)(hu:PO X hi th):PE X (.Subscript e (.Slice lo hi none p2) pos) (tSl r te tl th):=by
 intro pins s σ H Q I h;refine Subscript_ (thn (he pins s σ H _ I h) λv s1 ⟨x,H1,I1,r1,q1⟩=>?_);refine wpAny_Slice (thn (hl pins s1 σ H1 _ I1 q1) λvl s2 ⟨l,H2,I2,pl,q2⟩=>thn (hu pins s2 σ H2 _ I2 q2) λvu s3 ⟨u,H3,I3,pu,q3⟩=>?_);rw[evalPart_none];refine wpAny_pure ?_;have I4:Inv X pins σ H3 { s3 with heap:=s3.heap.push { cls:=.type "slice",data:=.fields #[vl,vu,.none] } }:=I3.kept (t':=s3.toks) λb ob q=>get?_push_of_some _ q;obtain⟨T,id,hT,ht,hg⟩:=hr pins { s3 with heap:=s3.heap.push { cls:=.type "slice",data:=.fields #[vl,vu,.none] } } σ H3 x v vl vu l u s3.heap.objs.size Q I4 r1 (Heap.IsSliceOf.new ..) pl pu q3;show wpAny (model X.prog X.w) X.A (subscriptTail e (.Slice lo hi none p2) v (.ref s3.heap.objs.size)) (EP X pins σ Q) X.xe { s3 with heap:=s3.heap.push { cls:=.type "slice",data:=.fields #[vl,vu,.none] } };exact tail_any (ops:=[.ref s3.heap.objs.size,v]) ht hT hg (by with_unfolding_all rfl)
def zf4(xs:List V)(lo hi:Option Int):List V:=(xs.drop (HT.sIx xs.length 0 lo)).take (HT.sIx xs.length xs.length hi-HT.sIx xs.length 0 lo)
theorem zkf(xs:List V)(lo hi:Option Int):(zf4 xs lo hi).length<=xs.length:=by
 unfold zf4;rw[length_take,length_drop];omega
end
def ixN(n:Nat)(i:Int):Option Nat:=if 0<=i then(if i<n then some i.toNat else none)else if -(n:Int)<=i then some (i+n).toNat else none
def atI{α:Type}(xs:List α)(i:Int):Option α:=(ixN xs.length i).bind λj=>xs[j]?
theorem ixN_seq{n:Nat}{i:Int}{j:Nat}(h:ixN n i=some j):seqIndex? i n=some j/\j<n /\ -(n:Int)<=i/\i<n:=by
 unfold ixN at h;by_cases h0:0<=i
 ·rw[if_pos h0]at h;by_cases h1:i<n
  ·rw[if_pos h1]at h;have e:i.toNat=j:=Option.some.inj h;exact⟨by rw[seqIndex_of h0 h1,e],by omega,by omega,h1⟩
  ·rw[if_neg h1]at h;cases h
 ·rw[if_neg h0]at h;by_cases h1 : -(n:Int)<=i
  ·rw[if_pos h1]at h;have e:(i+n).toNat=j:=Option.some.inj h;exact⟨by rw[seqIndex_neg (by omega) h1,e],by omega,h1,by omega⟩
  ·rw[if_neg h1]at h;cases h
variable {α:Type}
theorem zi6{xs:List α}{i:Int}{v:α}(h:atI xs i=some v):∃j,seqIndex? i xs.length=some j/\xs[j]? = some v/\j<xs.length /\ -(xs.length:Int)<=i/\i<xs.length:=by
 unfold atI at h;cases e:ixN xs.length i with
 | none=>rw[e]at h;cases h
 | some j =>
   rw[e]at h;obtain⟨h1,h2,h3,h4⟩:=ixN_seq e;exact⟨j,h1,h,h2,h3,h4⟩
theorem zN{xs:List α}{j:Nat}{v:α}(h:xs[j]? = some v):atI xs (j:Int)=some v:=by
 have hj:j<xs.length:=(List.getElem?_eq_some_iff.mp h).1;have e:ixN xs.length (j:Int)=some j:=by
  unfold ixN;rw[if_pos (by omega),if_pos (by omega)];simp
 unfold atI;rw[e];exact h
def PlainIx(b:Expr):Prop:=∀o i,subscripted b false o i=operate [o,i] (getItem o i)
def IxR(X:Cx)(r:R2):Prop :=
 ∀(value slice:Expr)(pins:List (Addr×Obj)) (s:Shared) (σ:St) (H:Hp) (x y:V) (v u:Value) (Q:VK),Inv X pins σ H s->RelV x v->RelV y u->r x y H Q ->
  subscripted slice false v u=operate [v,u] (getItem v u)->wpAny (model X.prog X.w) X.A (subscriptTail value slice v u) (EP X pins σ Q) X.xe s
def MtR(X:Cx)(id:String)(r:V->List V->Hp->VK->Prop):Prop :=
 ∀(pins:List (Addr×Obj)) (s:Shared) (σ:St) (H:Hp) (x:V) (xs:List V) (v:Value) (us:List Value) (Q:VK),Inv X pins σ H s->RelV x v->Vals xs us->r x xs H Q ->
  wpAny (model X.prog X.w) X.A (call (.builtin id) (v::us)) (EP X pins σ Q) X.xe s
section
variable {X:Cx}{a b:Expr}{ta tb:TE}{pos:Pos}
theorem zo{r:R2}(hr:IxR X r)(ha:PE X a ta)(hb:PE X b tb)(hs:PlainIx b):PE X (.Subscript a b pos) (tOp r ta tb):=by
 intro pins s σ H Q I h;exact Subscript_ (binT ha hb I h λv u s2 x y H2 I2 rx ry q=>hr a b pins s2 σ H2 x y v u Q I2 rx ry q (hs _ _))
inductive IRIxL (K:Frag) (x y:V) (H:Hp) (Q:VK):Prop
 | mk (p:_) (xs:_) (i:_) (v:_):x=.ref p->y=.int i->SqL K H p xs->atI xs i=some v->Q v H->IRIxL K x y H Q
def rIxL(K:Frag):R2:=λx y H Q=>IRIxL K x y H Q
inductive IRIxT (K:Frag) (x y:V) (H:Hp) (Q:VK):Prop
 | mk (p:_) (xs:_) (i:_) (v:_):x=.ref p->y=.int i->SqT K H p xs->atI xs i=some v->Q v H->IRIxT K x y H Q
def rIxT(K:Frag):R2:=λx y H Q=>IRIxT K x y H Q
def rIxS:R2:=λx y H Q=>∃z i c,x=.str z/\y=.int i/\z.length<=sizeLine/\atI z.cps.toList i=some c/\Q (.str ⟨#[c]⟩) H
theorem zk:IxR X (rIxL X.K):=by
 intro value slice pins s σ H x y v u Q I rx ry h hs;obtain⟨p,xs,i,z,rfl,rfl,hq,he,q⟩:=h;cases rx;obtain⟨t,rfl⟩:=ry;obtain⟨its,r,pl,hz⟩:=I.list hq;obtain⟨j,h1,h2,h3,h4,h5⟩:=zi6 he;obtain⟨w,ew,rw'⟩:=r.get h2;have hl:=r.length;have hn:=zgg;have fin:EP X pins σ Q w s:=⟨z,H,I,rw',q⟩;by_cases h0:0<=i
 ·have hj:i.toNat=j:=by
   rw[seqIndex_of h0 h5]at h1;exact Option.some.inj h1
  exact item_listR pl.isList h0 (by omega) (by rw[hj];simpa using ew) fin hs
 ·have hj:(i+(its.toArray.size:Int)).toNat=j:=by
   rw[seqIndex_neg (by omega) h4]at h1;rw[size_toArray,<-hl];exact Option.some.inj h1
  exact subscriptTail_builtinR (x:=w) pl.isList.typeIs slot_list_getitem.lookup
   (wpAny_getItem_list_neg (Q:=λr s'=>r=w/\EP X pins σ Q r s') pl.isList (by omega) (by rw[size_toArray] <;> omega) (by omega) (by rw[hj];simpa using ew) ⟨rfl,fin⟩) hs
theorem yt:IxR X (rIxT X.K):=by
 intro value slice pins s σ H x y v u Q I rx ry h hs;obtain⟨p,xs,i,z,rfl,rfl,hq,he,q⟩:=h;cases rx;obtain⟨t,rfl⟩:=ry;obtain⟨its,r,pl,hz⟩:=I.tuple hq;obtain⟨j,h1,h2,h3,h4,h5⟩:=zi6 he;obtain⟨w,ew,rw'⟩:=r.get h2;have hl:=r.length;have hn:=zgg;have fin:EP X pins σ Q w s:=⟨z,H,I,rw',q⟩;exact subscriptTail_builtinR (x:=w) pl.typeIs slot_tuple_getitem.lookup
  (getItem_tuple (j:=j) (Q:=λr s'=>r=w/\EP X pins σ Q r s') pl (by omega) (by omega) (by rw[size_toArray,<-hl];exact h1) (by simpa using ew) ⟨rfl,fin⟩) hs
theorem ix_str:IxR X rIxS:=by
 intro value slice pins s σ H x y v u Q I rx ry h hs;obtain⟨z,i,c,rfl,rfl,hz,he,q⟩:=h;obtain⟨t,rfl⟩:=rx;obtain⟨t',rfl⟩:=ry;obtain⟨j,h1,h2,h3,h4,h5⟩:=zi6 he;have hl:z.cps.toList.length=z.length:=by simp[Str.length]
 rw[hl]at h1 h4 h5;have hn:=zgg;exact tail_any (typeIs_str s z t) slot_str_getitem.lookup (getItem_str (c:=c) (by
  have e1:decide (i < -(2 ^ 63:Int))=false:=decide_eq_false (by omega);have e2:decide (i >= 2 ^ 63)=false:=decide_eq_false (by omega);rw[e1,e2,Bool.or_false]) (by rw[h1];simpa using h2) ⟨.str ⟨#[c]⟩,H,I.tok _,⟨_,rfl⟩,q⟩) hs
theorem mapSeq_set(its:List Value)(n j:Nat)(u:Value):Obj.mapSeq (·.setIfInBounds j u) { cls:=.type "list",data:=.seq its.toArray n }={ cls:=.type "list",data:=.seq (its.set j u).toArray n }:=by
 simp[Obj.mapSeq]
variable {pins:List (Addr×Obj)}{s:Shared}
theorem Inv.lst{σ:St}{H:Hp}{p:Addr}{xs:List V}(I:Inv X pins σ H s)(h:H p=some (.lst xs)):
 ∃(its:List Value)(n:Nat),Vals xs its/\s.heap.get? p=some { cls:=.type "list",data:=.seq its.toArray n }/\xs.length<=sizeLine:=by
 obtain⟨z,its,n,r,e⟩:=I.hok p _ h;exact⟨its,n,r,e,z⟩
theorem Inv.lstUpd{σ:St}{H:Hp}{p:Addr}{xs ys:List V}{its its':List Value}{n n':Nat}{f:Obj->Obj}(I:Inv X pins σ H s)(h:H p=some (.lst xs))
 (ho:s.heap.get? p=some { cls:=.type "list",data:=.seq its.toArray n }) (hf:f { cls:=.type "list",data:=.seq its.toArray n }={ cls:=.type "list",data:=.seq its'.toArray n' }) (r:Vals ys its') (hz:ys.length<=sizeLine) (t:Nat) :
 Inv X pins σ (upd H p (.lst ys)) { s with heap:=s.heap.update p f,toks:=t }:=by
 have e:(s.heap.update p f).get? p=some { cls:=.type "list",data:=.seq its'.toArray n' }:=by
  rw[Heap.get?_update_self f ho (by rw[hf] <;> rfl),hf]
 refine I.write (x:=p) (e:=p) (by rw[h];trivial) (.inl rfl) (λb u hb q=>(get?_update_other _ _ (Ne.symm hb)).trans q) ⟨_,e⟩ ?_;exact⟨hz,its',n',r,e⟩
inductive IRSetL (o i v:V) (H:Hp) (Q:Hp->Prop):Prop
 | mk (p:_) (xs:_) (k:_) (j:_):o=.ref p->i=.int k->H p=some (.lst xs)->ixN xs.length k=some j->Q (upd H p (.lst (xs.set j v)))->IRSetL o i v H Q
def rSetL:V->V->V->Hp->(Hp->Prop)->Prop:=λo i v H Q=>IRSetL o i v H Q
theorem zfM:PSet X rSetL:=by
 intro pins s σ H o i v ov iv u Q I ro ri rv h;obtain⟨p,xs,k,j,rfl,rfl,hp,hj,q⟩:=h;cases ro;obtain⟨t,rfl⟩:=ri;obtain⟨its,n,r,ho,hz⟩:=I.lst hp;obtain⟨h1,h2,h3,h4⟩:=ixN_seq hj;have hl:=r.length;have hn:=zgg;have I':Inv X pins σ (upd H p (.lst (xs.set j v))) { s with heap:=s.heap.update p (Obj.mapSeq (·.setIfInBounds j u)) } :=
  I.lstUpd hp ho (mapSeq_set its n j u) (r.set rv j) (by rw[List.length_set];exact hz) s.toks
 by_cases h0:0<=k
 ·have hk:k.toNat=j:=by
   rw[seqIndex_of h0 h4]at h1;exact Option.some.inj h1
  exact PySem.W.ki_setAt ho h0 (by omega) (by rw[size_toArray,<-hl];exact h4) (by rw[hk];exact⟨_,I',q⟩)
 ·have hk:(k+(its.toArray.size:Int)).toNat=j:=by
   rw[seqIndex_neg (by omega) h3]at h1;rw[size_toArray,<-hl];exact Option.some.inj h1
  exact PySem.W.ki_setBack ho (by omega) (by rw[size_toArray,<-hl];exact h3) (by omega) (by rw[hk];exact⟨_,I',q⟩)
theorem zjl(lo hi:Option Int)(n:Nat):(sliceBounds lo hi none n).1=((HT.sIx n 0 lo:Nat):Int)/\(sliceBounds lo hi none n).2.1=((HT.sIx n n hi:Nat):Int)/\(sliceBounds lo hi none n).2.2=1:=by
 refine⟨?_,?_,rfl⟩
 ·cases lo with
  | none=>simp[sliceBounds,HT.sIx]
  | some i =>
    simp only[sliceBounds,HT.sIx,Option.getD_none,show(1:Int) > 0 by decide,if_true];by_cases h:i<0
    ·simp only[h,if_true] <;> omega
    ·simp only[h,if_false] <;> omega
 ·cases hi with
  | none=>simp[sliceBounds,HT.sIx]
  | some i =>
    simp only[sliceBounds,HT.sIx,Option.getD_none,show(1:Int) > 0 by decide,if_true];by_cases h:i<0
    ·simp only[h,if_true] <;> omega
    ·simp only[h,if_false] <;> omega
theorem zh2(its:List Value)(lo hi:Option Int):slicePick its.toArray lo hi none=((its.drop (HT.sIx its.length 0 lo)).take (HT.sIx its.length its.length hi-HT.sIx its.length 0 lo)).toArray:=by
 obtain⟨h1,h2,h3⟩:=zjl lo hi its.toArray.size;unfold slicePick;rw[h1,h2,h3];simp only[sliceRange_one,pick_run,size_toArray] <;> rfl
inductive IRSlL (K:Frag) (x:V) (lo hi:Option Int) (H:Hp) (Q:VK):Prop
 | mk (a:_) (xs:_):x=.ref a->SqL K H a xs->(∀p,H p=none->Q (.ref p) (upd H p (.lst (zf4 xs lo hi))))->IRSlL K x lo hi H Q
def rSlL(K:Frag):V->Option Int->Option Int->Hp->VK->Prop:=λx lo hi H Q=>IRSlL K x lo hi H Q
theorem wj:SlR X (rSlL X.K):=by
 intro pins s σ H x v vl vu lo hi sl Q I rx hs pl pu h;obtain⟨a,xs,rfl,hx,q⟩:=h;cases rx;obtain⟨its,r,ht,hz⟩:=I.list hx;have hlen:=r.length;refine⟨"list",_,slot_list_getitem.lookup,ht.isList.typeIs,?_⟩;refine wpAny_getItem_list_slice ht.isList hs pl pu .none (by simp) ?_ (by rw[size_toArray] <;> omega);rw[zh2,<-hlen];refine⟨.ref s.heap.objs.size,_,I.laid (t':=s.toks) (o:=.lst (zf4 xs lo hi)) (λb ob q=>get?_push_of_some _ q) (le_refl _) ?_,rfl,q _ (I.hok.fresh (le_refl _))⟩;exact⟨le_trans (zkf xs lo hi) hz,_,0,(r.drop (HT.sIx xs.length 0 lo)).take (HT.sIx xs.length xs.length hi-HT.sIx xs.length 0 lo),get?_push_size _ rfl⟩
def zae:V->Bool
 | .non=>true
 | .bl _=>true
 | .int _=>true
 | .str _=>true
 | _=>false
def eqV:V->V->Bool
 | .non,.non=>true
 | .bl a,.bl b=>a==b
 | .bl a,.int b=>(if a then 1 else 0)==b
 | .int a,.bl b=>a==(if b then 1 else 0)
 | .int a,.int b=>a==b
 | .str a,.str b=>a==b
 | _,_=>false
variable {x:V}{v:Value}
theorem eqAt_V{A:Around}{y:V}{u:Value}(ry:RelV y u)(rx:RelV x v)(fy:zae y=true)(fx:zae x=true):SeqAt.EqAt A s u v (eqV y x):=by
 cases y with
 | non =>
   cases ry;cases x with
   | non=>cases rx;exact SeqAt.EqAt.same _
   | bl b=>cases rx;exact SeqAt.EqAt.none_bool b
   | int b=>obtain⟨t,rfl⟩:=rx;exact SeqAt.EqAt.none_int b t
   | str b=>obtain⟨t,rfl⟩:=rx;exact SeqAt.EqAt.none_str b t
   | _=>exact absurd (show false=true from fx) Bool.false_ne_true
 | bl a =>
   cases ry;cases x with
   | non=>cases rx;exact SeqAt.EqAt.bool_none a
   | bl b=>cases rx;exact SeqAt.EqAt.bool_bool a b
   | int b=>obtain⟨t,rfl⟩:=rx;exact SeqAt.EqAt.bool_int a b t
   | str b=>obtain⟨t,rfl⟩:=rx;exact SeqAt.EqAt.bool_str a b t
   | _=>exact absurd (show false=true from fx) Bool.false_ne_true
 | int a =>
   obtain⟨t',rfl⟩:=ry;cases x with
   | non=>cases rx;exact SeqAt.EqAt.int_none a t'
   | bl b=>cases rx;exact SeqAt.EqAt.int_bool a t' b
   | int b=>obtain⟨t,rfl⟩:=rx;exact SeqAt.EqAt.int_int a t' b t
   | str b=>obtain⟨t,rfl⟩:=rx;exact SeqAt.EqAt.int_str a t' b t
   | _=>exact absurd (show false=true from fx) Bool.false_ne_true
 | str a =>
   obtain⟨t',rfl⟩:=ry;cases x with
   | non=>cases rx;exact SeqAt.EqAt.str_none a t'
   | bl b=>cases rx;exact SeqAt.EqAt.str_bool a t' b
   | int b=>obtain⟨t,rfl⟩:=rx;exact SeqAt.EqAt.str_int a t' b t
   | str b=>obtain⟨t,rfl⟩:=rx;exact SeqAt.EqAt.str_str a t' b t
   | _=>exact absurd (show false=true from fx) Bool.false_ne_true
 | _=>exact absurd (show false=true from fy) Bool.false_ne_true
def eqU(x:V)(u:Value):Bool:=match u with
 | .none=>eqV .non x
 | .bool b=>eqV (.bl b) x
 | .int i _=>eqV (.int i) x
 | .str z _=>eqV (.str z) x
 | _=>false
theorem eqU_of{y:V}{u:Value}(r:RelV y u)(f:zae y=true):eqU x u=eqV y x:=by
 cases y with
 | non=>cases r;rfl
 | bl b=>cases r;rfl
 | int i=>obtain⟨t,rfl⟩:=r;rfl
 | str z=>obtain⟨t,rfl⟩:=r;rfl
 | _=>exact absurd (show false=true from f) Bool.false_ne_true
theorem zjy:∀{xs:List V}{us:List Value},Vals xs us->xs.all zae=true->us.any (eqU x)=xs.any λy=>eqV y x
 | _,_,.nil,_=>rfl
 | y::xs,u::us,.cons r t,f=>by
   rw[all_cons,Bool.and_eq_true]at f;rw[any_cons,any_cons,eqU_of r f.1,zjy t f.2]
theorem zfN{A:Around}(rx:RelV x v)(fx:zae x=true):∀{xs:List V}{us:List Value},Vals xs us->xs.all zae=true->∀u∈us,SeqAt.EqAt A s u v (eqU x u)
 | _,_,.nil,_=>λu hu=>by cases hu
 | y::xs,u::us,.cons r t,f=>λu' hu=>by
   rw[all_cons,Bool.and_eq_true]at f;rcases List.mem_cons.mp hu with rfl | hu
   ·rw[eqU_of r f.1];exact eqAt_V r rx f.1 fx
   ·exact zfN rx fx t f.2 u' hu
def inV(x:V)(xs:List V):Bool:=xs.any λy=>eqV y x
inductive IRIn (K:Frag) (neg:Bool) (x y:V) (H:Hp) (Q:VK):Prop
 | mk (p:_) (xs:_):y=.ref p->((SqL K H p xs\/SqT K H p xs))->zae x=true->xs.all zae=true->(Q (.bl (if neg then !inV x xs else inV x xs)) H)->IRIn K neg x y H Q
def rIn(K:Frag)(neg:Bool):R2:=λx y H Q=>IRIn K neg x y H Q
theorem zbF:OpR X (compareOp .NotIn) (rIn X.K true):=by
 intro pins s σ H x y v u Q I rx ry h;obtain⟨p,xs,rfl,hq,fx,fs,q⟩:=h;cases ry;rcases hq with hq | hq
 ·obtain⟨its,r,pl,hz⟩:=I.list hq;refine SeqAt.notIn_listAt (eqU x) pl.isList (λw hw=>zfN rx fx r fs w (by simpa using hw)) ⟨.bl _,H,I,rfl,?_⟩;rw[show its.toArray.any (eqU x)=its.any (eqU x)by simp,zjy r fs];exact q
 ·obtain⟨its,r,pl,hz⟩:=I.tuple hq;refine SeqAt.notIn_tupleAt (eqU x) pl (λw hw=>zfN rx fx r fs w (by simpa using hw)) ⟨.bl _,H,I,rfl,?_⟩;rw[show its.toArray.any (eqU x)=its.any (eqU x)by simp,zjy r fs];exact q
inductive ICall_len_seq (K:Frag) (xs:List V) (H:Hp) (Q:VK):Prop
 | mk (p:_) (ys:_):xs=[.ref p]->((SqL K H p ys\/SqT K H p ys))->Q (.int ys.length) H->ICall_len_seq K xs H Q
theorem zfp:zak X (.builtin "len") (ICall_len_seq X.K):=by
 intro pins s σ H xs us Q I r h;obtain⟨p,ys,rfl,hq,q⟩:=h;obtain⟨u,rfl,rx⟩:=vals1 r;cases rx;have hn:=zgg;rcases hq with hq | hq
 ·obtain⟨its,r',pl,hz⟩:=I.list hq;have hlen:=r'.length;exact Calls.call_len_list pl.isList (by simp only[size_toArray] <;> omega) ⟨.int ys.length,H,I.tok _,⟨s.toks+1,by rw[size_toArray,hlen]⟩,q⟩
 ·obtain⟨its,r',pl,hz⟩:=I.tuple hq;have hlen:=r'.length;exact len_tuple pl (by simp only[size_toArray] <;> omega) ⟨.int ys.length,H,I.tok _,⟨s.toks+1,by rw[size_toArray,hlen]⟩,q⟩
inductive ICall_list_of (K:Frag) (xs:List V) (H:Hp) (Q:VK):Prop
 | mk (p:_) (ys:_):xs=[.ref p]->((SqL K H p ys\/SqT K H p ys))->(∀l,H l=none->Q (.ref l) (upd H l (.lst ys)))->ICall_list_of K xs H Q
theorem zO:zak X (.type "list") (ICall_list_of X.K):=by
 intro pins s σ H xs us Q I r h;obtain⟨p,ys,rfl,hq,q⟩:=h;obtain⟨u,rfl,rx⟩:=vals1 r;cases rx;have fin:∀(its:List Value),Vals ys its->ys.length<=sizeLine->∀(h':Heap)(c':Nat),(∀b o',s.heap.get? b=some o'->h'.get? b=some o') ->
  h'.get? s.heap.objs.size=some { cls:=.type "list",dict:=none,data:=.seq its.toArray c',slots := #[] }->EP X pins σ Q (.ref s.heap.objs.size) { s with heap:=h' }:=λits r' hz h' c' kp e =>
  ⟨.ref s.heap.objs.size,_,I.laid (t':=s.toks) kp (le_refl _) (show ObjOk X.prog X.w _ h' _ (.lst ys)from⟨hz,its,c',r',e⟩),rfl,q _ (I.hok.fresh (le_refl _))⟩
 rcases hq with hq | hq
 ·obtain⟨its,r',pl,hz⟩:=I.list hq;have hlen:=r'.length;obtain⟨o,ho,hc,n,hd⟩:=pl.isList;exact call_list_seq p (.inl rfl) ho hc hd (λh' c' kp e=>fin its r' hz h' c' kp e) (by simp only[size_toArray] <;> omega)
 ·obtain⟨its,r',pl,hz⟩:=I.tuple hq;have hlen:=r'.length;obtain⟨o,ho,hc,n,hd⟩:=pl;exact call_list_seq p (.inr rfl) ho hc hd (λh' c' kp e=>fin its r' hz h' c' kp e) (by simp only[size_toArray] <;> omega)
def tyV(K:Frag)(T:String)(x:V)(H:Hp):Prop:=match x with
 | .str _=>T= "str"
 | .int _=>T= "int"
 | .ref p=>(T= "list"/\∃xs,SqL K H p xs)\/(T= "tuple"/\∃o,K.lookup p=some o/\o.cls=.type "tuple"/\o.dict=none) \/
    (T= "dict"/\((∃kvs,H p=some (.dK kvs))\/∃kvs,H p=some (.dT kvs)))\/(T= "set"/\∃S n,H p=some (.set S n))
 | _=>False
theorem tyV_is{σ:St}{H:Hp}{T:String}(I:Inv X pins σ H s)(r:RelV x v)(ty:tyV X.K T x H):
 s.TypeIs v T/\∀a,v=.ref a->∃ob,s.heap.get? a=some ob/\ob.dict=none:=by
 cases x with
 | str z =>
   obtain⟨t,rfl⟩:=r;cases (show T= "str" from ty);exact⟨typeIs_str s z t,λ_ e=>nomatch e⟩
 | int i =>
   obtain⟨t,rfl⟩:=r;cases (show T= "int" from ty);exact⟨typeIs_int s i t,λ_ e=>nomatch e⟩
 | ref p =>
   cases r;rcases ty with⟨rfl,xs,hq⟩|⟨rfl,o,hk,hc,hd⟩|⟨rfl,hk⟩|⟨rfl,S,n,hk⟩
   ·obtain⟨its,_,pl,_⟩:=I.list hq;refine⟨pl.isList.typeIs,λa e=>?_⟩;cases e;obtain⟨o,n,e,c,hd,_⟩:=pl;exact⟨o,e,hd⟩
   ·refine⟨⟨o,I.kIn p o hk,hc⟩,λa e=>?_⟩;cases e;exact⟨o,I.kIn _ o hk,hd⟩
   ·have z:∃o,s.heap.get? p=some o/\o.ExactDict:=by
     rcases hk with⟨kvs,hk⟩|⟨kvs,hk⟩
     ·obtain⟨_,_,_,_,o,_,_,e,ex,_⟩:=I.hok p _ hk;exact⟨o,e,ex⟩
     ·obtain⟨_,_,_,_,o,_,_,e,ex,_⟩:=I.hok p _ hk;exact⟨o,e,ex⟩
    obtain⟨o,e,ex⟩:=z;refine⟨⟨o,e,ex.1⟩,λa e2=>?_⟩;cases e2;exact⟨o,e,ex.2.1⟩
   ·obtain⟨o,_,_,_,e,ex,_⟩:=I.hok p _ hk;refine⟨⟨o,e,ex.1⟩,λa e2=>?_⟩;cases e2;exact⟨o,e,ex.2.1⟩
 | _=>exact False.elim ty
def tBM(K:Frag)(T:String)(r:V->List V->Hp->VK->Prop)(to:TE)(t:TA):TE:=λσ H Q=>to σ H λx H1=>tyV K T x H1/\t σ H1 λxs H2=>r x xs H2 Q
variable {o e:Expr}{es:List Expr}{to:TE}{t:TA}{name:Str}{apos cpos:Pos}{T id:String}{r:V->List V->Hp->VK->Prop}
theorem wF(pa:PlainAttrs T)(slot:Slot T name id)(hty:typeOf (.builtin id)=pure (.type "method_descriptor"))(hm:MtR X id r)(ho:PE X o to)(ha:PA X (e::es) t)
 (hbase:attributeBase o name X.env (eval o X.env)=eval o X.env:=by rfl)
 (hfew:((backTo cpos (starEach (e::es) X.env)).all (λx => !x.1) && (backToKw cpos (keywordEach [] X.env)).all (λx=>x.1.isSome)
   && decide ((e::es).length+([]:List Keyword).length+(if([]:List Keyword).isEmpty then 0 else 1)<30))=true:=by rfl)
 (hline:(apos.endLine==cpos.line)=true:=by rfl) (hs:starEach (e::es) X.env=(false,eval e X.env)::starEach es X.env:=by rfl) (hplain:(backTo cpos (starEach es X.env)).any (·.1)=false:=by rfl) :
 PE X (.Call (.Attribute o name apos) (e::es) [] cpos) (tBM X.K T r to t):=by
 intro pins s σ H Q I h;refine wpAny_Call_method_late hbase hfew hline rfl (thn (ho pins s σ H _ I h) λv s1 ⟨x,H1,I1,r1,ty,q1⟩=>?_);obtain⟨h1,h2⟩:=tyV_is I1 r1 ty;refine⟨T,id,pa,slot,hty,h1,h2,?_⟩;have hA:=ha cpos pins s1 σ H1 _ I1 q1;rw[hs]at hA ⊢;refine Calls.callWith_builtin (by show(false || (backTo cpos (starEach es X.env)).any (·.1))=false;rw[hplain] <;> rfl) (Calls.evalArgs_plain ?_);exact thn hA λus s2 ⟨vs,H2,I2,r2,q2⟩=>hm pins s2 σ H2 x vs v us Q I2 r1 r2 q2
end
def MtM(X:Cx)(id:String)(r:V->List V->Hp->VK->Prop):Prop :=
 ∀(pins:List (Addr×Obj)) (s:Shared) (σ:St) (H:Hp) (x:V) (xs:List V) (v:Value) (us:List Value) (Q:VK),Inv X pins σ H s->RelV x v->Vals xs us->r x xs H Q ->
  wpAny (model X.prog X.w) X.A (call (.builtin id) (v::us)) (EP X pins σ Q) X.xe s
theorem Vals.one:∀{x:V}{us:List Value},Vals [x] us->∃u,us=[u]/\RelV x u
 := by
 intro x us h;cases h with
 | cons r q=>cases q;exact⟨_,rfl,r⟩
theorem Vals.two:∀{x y:V}{us:List Value},Vals [x,y] us->∃u v,us=[u,v]/\RelV x u/\RelV y v
 := by
 intro x y us h;cases h with
 | cons r z=>cases z with
   | cons q z=>cases z;exact⟨_,_,rfl,r,q⟩
theorem Vals.eraseIdx:∀{xs:List V}{us:List Value}(i:Nat),Vals xs us->Vals (xs.eraseIdx i) (us.eraseIdx i)
 | _,_,_,.nil=>.nil
 | _,_,0,.cons _ t=>t
 | _,_,i+1,.cons r t=>.cons r (Vals.eraseIdx i t)
theorem Vals.reverse{xs:List V}{us:List Value}(h:Vals xs us):Vals xs.reverse us.reverse:=by
 induction h with
 | nil=>exact .nil
 | cons r t ih=>rw[List.reverse_cons,List.reverse_cons];exact Vals.append ih (.cons r .nil)
theorem zf2:∀(l:List α)(i:Nat),(l.eraseIdx i).length<=l.length
 | [],_=>le_refl _
 | _::_,0=>le_succ _
 | _::r,i+1=>Nat.succ_le_succ (zf2 r i)
section
variable {X:Cx}{pins:List (Addr×Obj)}{σ:St}{H:Hp}{s:Shared}{l b:Addr}{xs ys zs:List V}
variable {its:List Value}
theorem Inv.lset{its':List Value}{n:Nat}{f:Array Value->Array Value}{t':Nat}(I:Inv X pins σ H s)(hH:H l=some (.lst xs))
 (e:s.heap.get? l=some { cls:=.type "list",data:=.seq its.toArray n }) (hf:f its.toArray=its'.toArray) (hv:Vals ys its') (hz:ys.length<=sizeLine) :
 Inv X pins σ (upd H l (.lst ys)) { s with heap:=s.heap.update l (Obj.mapSeq f),toks:=t' }:=by
 have q:=PySem.IsL.update e f;rw[hf]at q;refine I.write (x:=l) (e:=l) (by rw[hH];exact trivial) (.inl rfl) (λb' u hb hu=>(get?_update_other s.heap (Obj.mapSeq f) (Ne.symm hb)).trans hu) ⟨_,q⟩ ?_;exact⟨hz,its',_,hv,q⟩
theorem Inv.lnew{t':Nat}(I:Inv X pins σ H s)(hv:Vals ys its)(hz:ys.length<=sizeLine):
 Inv X pins σ (upd H s.heap.objs.size (.lst ys)) { s with heap:=s.heap.push { cls:=.type "list",data:=.seq its.toArray },toks:=t' } :=
 I.laid (λ_ _ q=>get?_push_of_some _ q) (le_refl _) ⟨hz,its,0,hv,get?_push_size _ rfl⟩
theorem Inv.fresh(I:Inv X pins σ H s):H s.heap.objs.size=none:=I.hok.fresh (le_refl _)
theorem Inv.lstM(I:Inv X pins σ H s)(hH:H l=some (.lst xs)):xs.length<=sizeLine/\∃(its:List Value)(n:Nat),Vals xs its/\xs.length=its.length/\s.heap.get? l=some { cls:=.type "list",data:=.seq its.toArray n }:=by
 obtain⟨z,its,n,r,e⟩:=I.hok l _ hH;exact⟨z,its,n,r,r.length,e⟩
end
section
variable {X:Cx}
inductive IRAppend (x:V) (vs:List V) (H:Hp) (Q:VK):Prop
 | mk (l:_) (xs:_) (y:_):x=.ref l->vs=[y]->H l=some (.lst xs)->xs.length<sizeLine->Q .non (upd H l (.lst (xs++[y])))->IRAppend x vs H Q
def rAppend:V->List V->Hp->VK->Prop:=λx vs H Q=>IRAppend x vs H Q
theorem yD:MtM X "list.append" rAppend:=by
 intro pins s σ H x vs v us Q I rx rv h;obtain⟨l,xs,y,rfl,rfl,hH,hz,q⟩:=h;cases rx;obtain⟨u,rfl,ru⟩:=rv.one;obtain⟨z,its,n,r,hl,e⟩:=I.lstM hH;refine call_meets F.slot_list_append ⟨_,e,rfl⟩ F.entry_list_append (F.args_list_append_2 _ _) (PySem.list_append l its.toArray n u (by rw[size_toArray];omega)) ⟨e,?_⟩;refine⟨.non,_,I.lset (its':=its++[u]) hH e (by simp) (r.append (.cons ru .nil)) ?_,rfl,q⟩;rw[length_append,length_singleton];omega
def rPopAt:V->List V->Hp->VK->Prop:=λx vs H Q=>∃l xs i k y,x=.ref l/\vs=[.int i]/\H l=some (.lst xs) /\ -(2 ^ 63)<=i/\i<2 ^ 63/\seqIndex? i xs.length=some k/\xs[k]? = some y/\Q y (upd H l (.lst (xs.eraseIdx k)))
theorem mt_popAt:MtM X "list.pop" rPopAt:=by
 intro pins s σ H x vs v us Q I rx rv h;obtain⟨l,xs,i,k,y,rfl,rfl,hH,h1,h2,hk,hy,q⟩:=h;cases rx;obtain⟨u,rfl,ru⟩:=rv.one;obtain⟨t,rfl⟩:=ru;obtain⟨z,its,n,r,hl,e⟩:=I.lstM hH;obtain⟨w,hw,rw'⟩:=r.get hy;refine call_meets F.slot_list_pop ⟨_,e,rfl⟩ F.entry_list_pop (F.args_list_pop_2 _ _)
  (MeetsSeq.list_pop_at l its.toArray n i t k w (fitsIndex_both h1 h2) (by rw[size_toArray,<-hl];exact hk) (by rw[<-Array.getElem?_toList];exact hw) (by rw[size_toArray];omega)) ⟨e,?_⟩
 refine⟨y,_,I.lset (its':=its.eraseIdx k) hH e ?_ (r.eraseIdx k) ?_,rw',q⟩
 ·show its.toArray.eraseIdxIfInBounds k=(its.eraseIdx k).toArray;rw[List.eraseIdxIfInBounds_toArray]
 ·have:=zf2 xs k;omega
inductive IRCat (x y:V) (H:Hp) (Q:VK):Prop
 | mk (l:_) (b:_) (xs:_) (zs:_):x=.ref l->y=.ref b->H l=some (.lst xs)->H b=some (.lst zs)->xs.length+zs.length<=sizeLine->(∀p,H p=none->Q (.ref p) (upd H p (.lst (xs++zs))))->IRCat x y H Q
def rCat:R2:=λx y H Q=>IRCat x y H Q
theorem wd:OpR X (binaryOp .Add) rCat:=by
 intro pins s σ H x y v u Q I rx ry h;obtain⟨l,b,xs,zs,rfl,rfl,hH,hB,hz,q⟩:=h;cases rx;cases ry;obtain⟨z,its,n,r,hl,e⟩:=I.lstM hH;obtain⟨z2,its2,n2,r2,hl2,e2⟩:=I.lstM hB;refine PySem.P.add_list e e2 ?_ (by rw[size_toArray,size_toArray];omega);have ea:its.toArray++its2.toArray=(its++its2).toArray:=by simp
 rw[ea];exact⟨.ref _,_,I.lnew (t':=s.toks) (r.append r2) (by rw[length_append];omega),rfl,q _ I.fresh⟩
end
section
variable {prog:Program}{w:World}{A:Around}{E:Value->Shared->Prop}{s:Shared}
end
section
variable {X:Cx}
end
end L2
namespace Att
open PySem PySem.W PySem.Calls PyProof.Rows
theorem zgQ{P:Params}{h:Heap}:∀(ns:List Int)(vs:List Value),WellAll P h vs (ns.map WData.int)->IntsAre vs ns:=by
 intro ns
 induction ns with
 | nil =>
   intro vs w;rw[map_nil]at w;cases w;exact .nil
 | cons n ns ih =>
   intro vs w;rw[map_cons]at w;cases w with
   | cons a b =>
     cases a;exact .cons _ _ (ih _ b)
theorem script_of{l:OpenLaw}{n:Nat}(hn:l.most=some n){P:Params}{h:Heap}{args:List WData}{vals:List Value}
 (hpre:l.row.toRowW.claim.pre args=true) (hwl:WellAll P h vals args) :
 ∃a vs ns,vals=[Value.ref a]/\args=[WData.list (ns.map WData.int)]/\h.get? a=some { cls:=.type "list",data:=.seq vs.toArray }/\IntsAre vs ns/\ns.length<=n:=by
 have hsh:WShape.hasAll [] args [.list .int]=true:=(pre_splitW hpre).1;have hc:l.pre.holds [] { args:=args }=true:=(pre_splitW hpre).2;obtain⟨d,r,rfl,h1,h2⟩:=hasAllW_cons hsh;obtain rfl:=hasAllW_nil h2;obtain⟨xs,rfl,h3⟩:=hasW_list h1;obtain⟨ns,rfl⟩:=items_int h3;have hlen:ns.length<=n:=by
  unfold OpenLaw.pre at hc;have h4:(WTm.not (.lt (.lit (.int (n:Int))) (.len (.arg 0)))).holds [] { args:=[.list (ns.map .int)] }=true:=by
   have h4:=(holds_andW hc).1;rw[hn]at h4;exact h4
  have h5:=condW_of h4 (w_not (w_lt w_lit (w_len_list (w_arg rfl))));rw[length_map]at h5;refine Nat.le_of_not_lt λq=>?_;have q':(n:Int)<((ns.length:Nat):Int):=by omega
  first
   | (rw[decide_eq_true q']at h5;exact absurd h5 (by decide))
   | (simp at h5;omega)
 cases hwl with
 | cons w1 w2 =>
   cases w2;cases w1 with
   | list ho hall=>exact⟨_,_,ns,rfl,rfl,ho,zgQ ns _ hall,hlen⟩
theorem post_true(l:OpenLaw)(args:List WData):l.row.toRowW.claim.post args (.bool true) args=true :=
 postW_of (r:=l.row.toRowW) (X:=(true==true))
  (show WShape.has [] (.bool true) .bool=true by first | rfl | decide | simp[WShape.has,WShape.arms,WShape.armsAll])
  (show(WTm.eq .res (.lit (.bool true))).value [] { args:=args,res:=some (.bool true),after:=args }=some (.bool (true==true))from w_eq_bool (w_res rfl) w_lit) rfl
theorem attach_call{l:OpenLaw}{n:Nat}{q:Program}{loose:List Str}{XP:(Str->Option Value)->Heap->Prop}{YP:World->Heap->Prop}{d:DefRec}
 (hn:l.most=some n) (hdf:d.params.defaults=[])
 (call:∀(w:World)(s₀ s₁:Shared)(mg mb:Str->Option Value)(fa:Addr)(o:Obj)(pm cd doc:Value)(a:Addr)(vs:List Value)(ns:List Int),
   Ground q loose [] XP w s₀ mg mb s₁.heap->YP w s₁.heap ->
   s₁.heap.get? fa=some o->o.data=.func (docDef d.name d.params d.body d.scope pm cd doc)->s₁.heap.CodeRec cd d.name->mg d.name=some (.ref fa) ->
   s₁.heap.get? a=some { cls:=.type "list",data:=.seq vs.toArray }->IntsAre vs ns->ns.length<=n->s₁.gens = #[] ->
   codeAny (model l.prog w) callerA (.call (.ref fa) ⟨[.ref a],[]⟩) (λr s'=>r=.ok (.ret (.bool true))/\OldK s₁.heap s'.heap/\s'.os=s₁.os/\AllBare s'.gens) s₁) :
 WalkO q loose XP YP l.row.toRowW d [] (λf vs=>PySem.call f vs):=by
 intro w s₀ s₁ mg mb G Y fa o pm cd doc dV kV ho hd hcd hD hmg hg args vals as hpre hlay hrd hwl hlo;obtain rfl:dV=.none:=Dflts.none hD hdf;obtain rfl:kV=.none:=Dflts.noKw hD;obtain⟨a,vs,ns,rfl,rfl,hobj,hints,hlen⟩:=script_of hn hpre hwl;refine enter_call (codeAny_mono (call w s₀ s₁ mg mb fa o pm cd doc a vs ns G Y ho (fd_plain hd) hcd hmg hobj hints hlen hg) λr s' hq=>?_);obtain⟨rfl,h2,h3,h4⟩:=hq;exact⟨.inl ⟨.bool true,.bool true,[],rfl,λ_=>rfl,.bool true,post_true l _,λ_=>⟨List.Pairwise.nil,λ_ hm=>(nomatch hm)⟩⟩,h2,h3,h4⟩
section
variable {prog:Program}{w:World}{A:Around}{E:Value->Shared->Prop}{s:Shared}{K:Frag}
def ledger(h:Heap)(L d:Addr):List (Addr×Obj):=(List.range h.objs.size).filterMap λa=>if a=L\/a=d then none else(h.get? a).map λo=>(a,o)
end
end Att
namespace L2
open PySem PySem.Spec PyProof.Rows
theorem zix:∀{vs:List Value}{ns:List Int},IntsAre vs ns->Vals (ns.map V.int) vs
 | _,_,.nil=>.nil
 | _,_,.cons n t h=>.cons ⟨t,rfl⟩ (zix h)
end L2
namespace L2
open PySem PySem.Spec PyProof.Rows
def wg(s:Stmt)(j:Nat):Stmt:=match s with
 | .ClassDef _ _ _ body _ _ _ _ _ _ _=>body.getD j (.Pass ⟨0,0,0,0⟩)
 | _ => .Pass ⟨0,0,0,0⟩
def zav(s:Stmt):Arguments:=match s with
 | .FunctionDef _ a _ _ _ _ _ _ _ _=>a
 | _=>{ posonlyargs:=[],args:=[],vararg:=none,kwonlyargs:=[],kw_defaults:=[],kwarg:=none,defaults:=[] }
def wk(s:Stmt):List Stmt:=match s with
 | .FunctionDef _ _ b _ _ _ _ _ _ _=>b
 | _=>[]
def zf(s:Stmt):Scope:=match s with
 | .FunctionDef _ _ _ _ _ _ sc _ _ _=>sc
 | _=>{ kind:=.function,names:=[],isGenerator:=false,isCoroutine:=false }
abbrev CX0:CXT:=λ_ _ _ _ _ _=>False
abbrev E0:XK:=λ_ _ _=>False
variable {X:Cx}
theorem pass0:zjo CX0 X E0:=λ_ _ _ _ _ _ _ h=>h.elim
structure Fun (K:Frag) (x qual:Str) (st:Stmt) (f:Addr) (fd:FuncData):Prop where
 ex:∃(oc:Value)(od:Option Addr)(kV doc pm:Value)(an:Option Addr)(cdv ct:Value)(osl:Array (Option Value)),
  fd=fnOf x qual (zav st) (wk st) (zf st) .none kV doc pm an cdv ct/\K.lookup f=some ⟨oc,od,.func fd,osl⟩/\codeIn K cdv qual=true
 kp:keepIn K (.ref f)=true
section
variable {P:Program}{w:World}{K:Frag}{mg:Str->Option Value}{base:Heap}
variable {x qual:Str}{st:Stmt}{f:Addr}{fd:FuncData}{ps:List Str}
theorem Fun.ok{N:List Str}{k:Nat}{sp:Sp}(F:Fun K x qual st f fd)(S:FnScope N ps (zf st))(len:∀vs H Q E,sp vs H Q E->vs.length=ps.length)
 (hbody:∀(cdv:Value)(A:Around)(outer:List Env)(s:Shared)(H:Hp)(vs:List V)(Q:VK)(E:XK),Room k (A.deeper (envOfC qual (zf st) s.heap.objs.size f cdv))->sp vs H Q E ->
   ∃t,PSs (zb5 CX0 P w K mg base N qual (zf st) f cdv A outer s H E).nox (wk st) t/\t { nx:=λ_ H'=>Q .non H',rt:=Q } (zbr N vs) H):FnOk P w K mg base CX0 (k+1) f fd ps sp:=by
 obtain⟨oc,od,kV,doc,pm,an,cdv,ct,osl,rfl,lk,hcd⟩:=F.ex;refine fn_of lk hcd S len λA outer s H vs Q E hr hsp=>?_;obtain⟨t,h,q⟩:=hbody cdv A outer s H vs Q E hr hsp;exact⟨t,h.nox,q⟩
theorem Fun.binds(F:Fun K x qual st f fd)
 (h:∀(kV doc pm:Value)(an:Option Addr)(cdv ct:Value)(us:List Value),us.length=ps.length->bindArgs (fnOf x qual (zav st) (wk st) (zf st) .none kV doc pm an cdv ct) ⟨us,[]⟩=pure (ps.zip us)):Binds K fd ps []:=by
 obtain⟨oc,od,kV,doc,pm,an,cdv,ct,osl,rfl,lk,hcd⟩:=F.ex;exact .all (h kV doc pm an cdv ct)
theorem zgf{oc:Value}{od an:Option Addr}{osl:Array (Option Value)}{kV doc pm cdv ct:Value}(l:K.lookup f=some ⟨oc,od,.func (fnOf x qual (zav st) (wk st) (zf st) .none kV doc pm an cdv ct),osl⟩)
 (c:codeIn K cdv qual=true) (k:keepIn K (.ref f)=true):Fun K x qual st f (fnOf x qual (zav st) (wk st) (zf st) .none kV doc pm an cdv ct):=⟨⟨oc,od,kV,doc,pm,an,cdv,ct,osl,rfl,l,c⟩,k⟩
end
variable {k:Nat}
theorem ziw{A:Around}(hr:Room k A):A.units+1<cLine:=Nat.lt_of_le_of_lt (Nat.add_le_add_left (by decide:1<=64) _) hr.units
section
variable {X:Cx}
theorem pv(i:Nat){x:Str}{pos:Pos}(hN:X.N[i]? = some x:=by rfl)(hv:Vis X.env.scope x:=by first | exact Or.inl rfl | exact Or.inr (Or.inl rfl) | exact Or.inr (Or.inr rfl))(hd:(x==("__debug__":Str))=false:=by decide)
 (hcd:(x==("__classdict__":Str))=false:=by decide):PE X (.Name x pos) (tVar i):=pe_var hN hv hd hcd
end
variable {A B:Prop}
theorem yl(h:B):if false=true then A else B:=by
 rw[if_neg Bool.false_ne_true];exact h
theorem zh5(h:A):if true=true then A else B:=by
 rw[if_pos rfl];exact h
theorem iteNS{c:Prop} [Decidable c](hc:c)(h:B):if(!decide c)=true then A else B:=by
 rw[decide_eq_true hc];exact yl h
def Same(H H':Hp):Prop:=∀b o,H b=some o->H' b=some o
theorem Same.refl(H:Hp):Same H H:=λ_ _ h=>h
variable {H:Hp}
theorem Same.trans{H1 H2:Hp}(a:Same H H1)(b:Same H1 H2):Same H H2:=λc o h=>b c o (a c o h)
variable {H':Hp}{l:Addr}
theorem Same.free(e:Same H H')(h:H' l=Option.none):H l=Option.none:=by
 cases q:H l with
 | none=>rfl
 | some o =>
   rw[e l o q]at h;cases h
variable {K:Frag}{a:Addr}{xs:List V}
theorem Same.seq(e:Same H H')(h:SqL K H a xs):SqL K H' a xs:=by
 rcases h with(h | ⟨o,h⟩) | h
 ·exact .inl (.inl (e _ _ h))
 ·exact .inl (.inr ⟨o,e _ _ h⟩)
 ·exact .inr h
theorem zdi{env:Env}:∀(l:List (Str×NameKind)) (acc:List (Str×Addr)),(∀y∈l,y.2=.free->∃c,env.cells.lookup y.1=some c)->(∀y c,acc.lookup y=some c->env.cells.lookup y=some c) ->
 ∃cl,(forIn l acc fun(x:Str×NameKind) (r:List (Str×Addr))=>if(x.2==NameKind.free)=true then(do let a <-cellOf env x.1;pure (ForInStep.yield ((x.1,a)::r)))else(pure (ForInStep.yield r):Sem (ForInStep (List (Str×Addr)))))=(pure cl:Sem (List (Str×Addr))) /\
  (∀y c,cl.lookup y=some c->env.cells.lookup y=some c)/\(∀y,((y,NameKind.free)∈l\/(acc.lookup y).isSome=true)->∃c,cl.lookup y=some c)
 | [],acc,_,ha=>⟨acc,rfl,ha,λy h=>by
    rcases h with h | h
    ·cases h
    ·exact Option.isSome_iff_exists.mp h⟩
 | (n,k)::r,acc,h,ha=>by
   by_cases hk:k=.free
   ·subst hk;obtain⟨c,hc⟩:=h (n,.free) mem_cons_self rfl;obtain⟨cl,e,h1,h2⟩:=zdi r ((n,c)::acc) (λy hy=>h y (mem_cons_of_mem _ hy)) (λy d hd=>by
     rw[lookup_cons]at hd;by_cases hy:y=n
     ·subst hy;simp at hd;subst hd;exact hc
     ·rw[beq_eq_false_iff_ne.mpr hy]at hd;exact ha y d hd)
    refine⟨cl,?_,h1,λy hy=>h2 y ?_⟩
    ·rw[forIn_cons];have:cellOf env n=pure c:=by unfold cellOf;rw[hc]
     simp only[this];exact e
    ·rcases hy with hy | hy
     ·rcases List.mem_cons.mp hy with z | z
      ·have:y=n:=by injection z
       right;simp[lookup_cons,this]
      ·exact .inl z
     ·right;rw[lookup_cons];split
      ·rfl
      ·exact hy
   ·obtain⟨cl,e,h1,h2⟩:=zdi r acc (λy hy=>h y (mem_cons_of_mem _ hy)) ha;refine⟨cl,?_,h1,λy hy=>h2 y ?_⟩
    ·rw[forIn_cons];have hb:(k==NameKind.free)=false:=by simpa using hk
     simp only[hb];exact e
    ·rcases hy with hy | hy
     ·rcases List.mem_cons.mp hy with z | z
      ·injection z with _ z2;exact absurd z2.symm hk
      ·exact .inl z
     ·exact .inr hy
variable {env:Env}{scope:Scope}
theorem zbV(h:∀y∈scope.names,y.2=.free->∃c,env.cells.lookup y.1=some c):
 ∃cl,closureFor scope env=pure cl/\(∀y c,cl.lookup y=some c->env.cells.lookup y=some c)/\∀y,(y,NameKind.free)∈scope.names->∃c,cl.lookup y=some c:=by
 obtain⟨cl,e,h1,h2⟩:=zdi scope.names [] h (λy c z=>by cases z);refine⟨cl,?_,h1,λy hy=>h2 y (.inl hy)⟩;unfold closureFor;exact(congrArg (fun(m:Sem (List (Str×Addr)))=>m >>= λr=>pure r) e).trans rfl
theorem zbm{f:Str×NameKind->Str×NameKind}(h1:∀p,(f p).1=p.1):∀{names:List (Str×NameKind)} {y:Str} {k:NameKind},(names.map f).lookup y=some k->∃k0,(y,k0)∈names/\(f (y,k0)).2=k
 | [],_,_,h=>by cases h
 | p::r,y,k,h=>by
   rw[map_cons]at h;generalize hq:f p=q at h;obtain⟨q1,q2⟩:=q;rw[lookup_cons]at h;have e1:q1=p.1:=by have:=h1 p;rw[hq]at this;exact this
   by_cases hy:y=q1
   ·have hb:(y==q1)=true:=by simp[hy]
    rw[hb]at h;have h':q2=k:=Option.some.inj h;refine⟨p.2,?_,?_⟩
    ·rw[hy,e1];exact mem_cons_self
    ·rw[hy,e1];have:f (p.1,p.2)=(q1,q2):=hq;rw[this];exact h'
   ·rw[beq_eq_false_iff_ne.mpr hy]at h;obtain⟨k0,m,e⟩:=zbm h1 (names:=r) h;exact⟨k0,mem_cons_of_mem _ m,e⟩
theorem zai{f:Str×NameKind->Str×NameKind}(h1:∀p,(f p).1=p.1):∀{names:List (Str×NameKind)} {y:Str} {k:NameKind},names.lookup y=some k->(names.map f).lookup y=some (f (y,k)).2
 | [],_,_,h=>by cases h
 | p::r,y,k,h=>by
   rw[map_cons];obtain⟨p1,p2⟩:=p;have e1:=h1 (p1,p2);generalize hq:f (p1,p2)=q at e1 ⊢;obtain⟨q1,q2⟩:=q;have e1:q1=p1:=e1;subst e1;rw[lookup_cons]at h ⊢;by_cases hy:y=q1
   ·have hb:(y==q1)=true:=by simp[hy]
    rw[hb]at h ⊢;have h':p2=k:=Option.some.inj h;subst h';subst hy;show some q2=_;rw[hq]
   ·rw[beq_eq_false_iff_ne.mpr hy]at h ⊢;exact zai h1 h
def rl(env:Env)(p:Str×NameKind):Str×NameKind:=if(p.2==NameKind.free && env.scope.kind == .function && env.kindOf p.1==some .cell)then(p.1,NameKind.cell)else(p.1,p.2)
theorem zhU(env:Env)(p:Str×NameKind):(rl env p).1=p.1:=by unfold rl;split <;> rfl
theorem rl_free(env:Env)(y:Str):(rl env (y,.free)).2=.cell\/(rl env (y,.free)).2=.free:=by
 unfold rl;split
 ·exact .inl rfl
 ·exact .inr rfl
theorem ziZ(env:Env)(y:Str)(k:NameKind)(h:k ≠ .free):(rl env (y,k)).2=k:=by
 unfold rl;have hb:(k==NameKind.free)=false:=by simpa using h
 simp[hb]
theorem wK(scope:Scope)(env:Env):(relabel scope env).names=scope.names.map (rl env):=rfl
variable {y:Str}
theorem zfO(hc:∀z∈scope.names,z.2 ≠ .cell)(h:(relabel scope env).names.lookup y=some .cell\/(relabel scope env).names.lookup y=some .free):(y,NameKind.free)∈scope.names:=by
 rw[wK]at h;have go:∀k,(k=.cell\/k=.free)->(scope.names.map (rl env)).lookup y=some k->(y,NameKind.free)∈scope.names:=λk hk q=>by
  obtain⟨k0,m,e⟩:=zbm (zhU env) q;by_cases hf:k0=.free
  ·rw[hf]at m;exact m
  ·rw[ziZ env y k0 hf]at e;rcases hk with z | z
   ·exact absurd (e.trans z) (hc _ m)
   ·exact absurd (e.trans z) hf
 rcases h with h | h
 ·exact go _ (.inl rfl) h
 ·exact go _ (.inr rfl) h
theorem zbH(h:scope.names.lookup y=some .free):(relabel scope env).names.lookup y=some .cell\/(relabel scope env).names.lookup y=some .free:=by
 rw[wK,zai (zhU env) h];rcases rl_free env y with z | z
 ·exact .inl (congrArg some z)
 ·exact .inr (congrArg some z)
def blk(X:Cx)(N:List Str)(scope:Scope)(cl:List (Str×Addr))(C:Addr)(s2:Shared)(H2:Hp)(fp:List Addr):Cx where
 prog:=X.prog
 w:=X.w
 K:=X.K
 mg:=X.mg
 base:=X.base
 A:=X.A
 N:=N
 s₀:=s2
 H₀:=H2
 env:=compEnvC scope cl C X.env
 outer:=X.stack
 stack:=X.stack
 ex:=fp
 fn:=λ_=>false
 calm:=X.calm
 pn:=[]
 xe:=λ_ _=>False
structure CompScope (sc:Scope) (N:List Str) (x:Str) (fr:List Str) (ix:List Nat) (scope:Scope):Prop where
 kind:scope.kind=.function
 nocell:∀y∈scope.names,y.2 ≠ .cell
 lcl:∀y∈scope.names,y.2=.local->scope.names.lookup y.1=some .local
 lx:scope.names.lookup x=some .local
 free:∀y∈scope.names,y.2=.free->sc.names.lookup y.1=some .cell\/sc.names.lookup y.1=some .free
 at':fr.map some=ix.map λi=>N[i]?
 frk:∀y∈fr,scope.names.lookup y=some .free/\(sc.names.lookup y=some .cell\/sc.names.lookup y=some .free)
 nd:(x::fr).Nodup
def cap(ix:List Nat)(σ:St):St:=ix.map λi=>(σ[i]?).join
section
variable {X:Cx}{pins:List (Addr×Obj)}{σ:St}{H:Hp}{s:Shared}{x:Str}{fr:List Str}{ix:List Nat}{scope:Scope}{cl:List (Str×Addr)}{fp:List Addr}{C D:Addr}
theorem blk_ok(S:CompScope X.env.scope X.N x fr ix scope)(I:Inv X pins σ H s)(hf:∀b∈fp,wI X pins H b)(hfo:∀b∈fp,b<s.heap.objs.size)(hC:s.heap.objs.size<=C)
 (h1:∀y c,cl.lookup y=some c->X.env.cells.lookup y=some c) (h2:∀y,(y,NameKind.free)∈scope.names->∃c,cl.lookup y=some c):(blk X (x::fr) scope cl C s H fp).Ok where
 mod:=I.ok.mod
 kind:=S.kind
 glob:=I.ok.glob
 blt:=I.ok.blt
 above:=hC
 inj:=λy z c a b=>I.ok.inj y z c (h1 y c a) (h1 z c b)
 has:=λy hy=>h2 y (zfO (env:=X.env) (scope:=scope) S.nocell hy)
 cab:=λy c h _=>Bool.noConfusion (show false=true from h)
 hd:=I.ok.hd
 frames:=I.ok.frames
 stk:=.inl rfl
 exf:=λb hb=>⟨λz=>absurd (hfo b hb) (by rw[z];exact Nat.not_lt.mpr hC),λy c e=>(hf b hb).2.2.2.2.1 y c (h1 y c e)⟩
 bs:=I.bs
 bsz:=le_trans I.ok.bsz I.sz
 noex:=λb o e hb=>by
  rcases (hf b hb).2.2.2.1 with z | z
  ·exact I.ok.noex b o e z
  ·exact absurd (lt_of_lt_of_le (lt_size e) (le_trans I.ok.bsz z)) (lt_irrefl _)
 exfs:=λb hb z=>by
  rcases List.mem_cons.mp (I.stkSub b z)with e | e
  ·exact(hf b hb).2.1 e
  ·exact(hf b hb).2.2.1 e
 funs:=I.stack
 frf:=I.stkFree
theorem ziW:(cap ix σ).length=ix.length:=by unfold cap;rw[length_map]
theorem CompScope.len(S:CompScope X.env.scope X.N x fr ix scope):fr.length=ix.length:=by have:=congrArg List.length S.at';simpa using this
theorem blk_inv{s':Shared}{pn:List (Addr×Obj)}{m:Str->Option Value}(S:CompScope X.env.scope X.N x fr ix scope)(I:Inv X pins σ H s)(hf:∀b∈fp,wI X pins H b)(hfo:∀b∈fp,b<s.heap.objs.size)(hC:s.heap.objs.size<=C)
 (h1:∀y c,cl.lookup y=some c->X.env.cells.lookup y=some c) (h2:∀y,(y,NameKind.free)∈scope.names->∃c,cl.lookup y=some c)
 (ho:s'.os=s.os) (hg:s'.gens=s.gens) (k:∀b o,s.heap.get? b=some o->s'.heap.get? b=some o) (hn:s'.heap.Ns C m)
 (hp:∀p∈pn,s'.heap.get? p.1=some p.2/\s.heap.objs.size<=p.1/\p.1≠C/\∀v,p.2.data ≠ .cell v) :
 Inv (blk X (x::fr) scope cl C s H fp) pn (none::cap ix σ) H s':=by
 obtain⟨mX,hnX,hlX⟩:=I.loc;refine⟨blk_ok S I hf hfo hC h1 h2,ho,by rw[hg];exact I.bare,Un.kept k,⟨m,hn,λi y v e1 e2 e3=>?_⟩,λy c e=>?_,I.hok.fresh hC,λy c e=>I.freeC y c (h1 y c e),λp hp'=>?_,I.hok.kept k,by
  show(none::cap ix σ).length=(x::fr).length;simp[ziW,S.len]⟩
 ·cases i with
  | zero=>cases e2
  | succ j =>
    have e1':fr[j]? = some y:=e1;have e2':(cap ix σ)[j]? = some (some v):=e2;obtain⟨f1,f2⟩:=S.frk y (mem_of_getElem? e1');unfold cap at e2';rw[getElem?_map]at e2';cases ei:ix[j]? with
    | none=>rw[ei]at e2';cases e2'
    | some i =>
      rw[ei]at e2';have e3':(σ[i]?).join=some v:=Option.some.inj e2';have e4:σ[i]? = some (some v):=by
       cases q:σ[i]? with
       | none=>rw[q]at e3';cases e3'
       | some w=>rw[q]at e3';have:w=some v:=e3';rw[this]
      have e5:X.N[i]? = some y:=by
       have:=congrArg (λl=>l[j]?) S.at';simp only[getElem?_map,e1',ei]at this
       simpa using this.symm
      have vis:Vis X.env.scope y:=by
       rcases f2 with z | z
       ·exact .inr (.inl z)
       ·exact .inr (.inr z)
      obtain⟨u,r,l⟩:=hlX i y v e5 e4 vis;refine⟨u,r,.inr ⟨zbH f1,?_⟩⟩;rcases l with⟨z,_⟩|⟨_,c,ec,hc⟩
      ·rcases f2 with q | q
       ·have q':=(show X.env.scope.names.lookup y=some .local from z).symm.trans q;cases q'
       ·have q':=(show X.env.scope.names.lookup y=some .local from z).symm.trans q;cases q'
      ·obtain⟨c',hc'⟩:=h2 y (PySem.mem_of_lookup f1);have:c'=c:=by have:=h1 y c' hc';rw[ec]at this;exact(Option.some.inj this).symm
       subst this;refine⟨c',hc',?_⟩;obtain⟨o,ho',hd⟩:=hc;exact⟨o,k _ _ ho',hd⟩
 ·obtain⟨v,o,ho',hd⟩:=I.cell y c (h1 y c e);exact⟨v,o,k _ _ ho',hd⟩
 ·have hp'':p∈pn:=by simpa [blk] using hp'
  obtain⟨q1,q2,q3,q4⟩:=hp p hp'';refine⟨q1,I.hok.fresh q2,q3,λz=>?_,q4⟩;obtain⟨_,o,ho',_⟩:=I.stack.mem z;exact absurd (lt_of_lt_of_le (lt_size ho') q2) (lt_irrefl _)
end
def PIf(X:Cx)(ifs:List Expr)(t:TT):Prop :=
 ∀(pins:List (Addr×Obj)) (s:Shared) (σ:St) (H:Hp) (Q:Bool->Hp->Prop),Inv X pins σ H s->t σ H Q ->
  wpAny (model X.prog X.w) X.A (forIn ifs true λc r=>if r=true then do let ok <-isTrue c X.env (eval c X.env);pure (ForInStep.yield ok)else pure (ForInStep.yield r)) (TP X pins σ Q) X.xe s
def tYes:TT:=λ_ H Q=>Q true H
theorem yz:PIf X [] tYes:=λ_ _ _ H _ I h=>wpAny_tests_nil ⟨H,I,h⟩
theorem yC{c:Expr}{t:TT}(h:PT X c t):PIf X [c] t:=λpins s σ H Q I q=>wpAny_tests_one (h pins s σ H Q I q)
def zd1(J:It)(c:St)(tc:TT)(te:TE)(H1:Hp)(fin:List V->Hp->Prop):Prop :=
 ∃W:Nat->Nat->List V->Hp->Prop,(∃m,W 0 m [] H1)/\∀i m ys H,W i m ys H ->
  (J.stop i H/\ys.length<=sizeLine/\fin ys H) \/
  (J.go i H/\ys.length<sizeLine/\∃N:List V->Hp->Prop,(∀ys' H',N ys' H'->∃m',m'<m/\W (i+1) m' ys' H')/\∀x H',J.yld i H x H'->tc (some x::c) H' λb H2=>if b=true then te (some x::c) H2 λy H3=>N (ys++[y]) H3 else N ys H2)
def tComp(ix:List Nat)(wi:TI)(tc:TT)(te:TE):TE:=λσ H Q=>wi σ H λJ H1=>zd1 J (cap ix σ) tc te H1 λys H2=>∀l,H2 l=none->Q (.ref l) (upd H2 l (.lst ys))
variable {w:World}{s:Shared}
theorem zdv{prog:Program}{A:Around}{R:Result->Shared->Prop}{elt tg it0:Expr}{tests:List Expr}{pos:Pos}{it acc:Value}(J:Nat->Shared->Prop)
 (turn:∀n s,J n s->wpAny (model prog w) A (pyNext it) (λr s1=>match r with
   | none=>R (.ok .next) s1
   | some v=>wpAny (model prog w) A (letOwnedTupleGo tg it v) (λ_ s2=>wpAny (model prog w) A (assign tg env v) (λ_ s3 =>
      wpAny (model prog w) A (forIn tests true λc r=>if r=true then do let ok <-isTrue c env (eval c env);pure (ForInStep.yield ok)else pure (ForInStep.yield r)) (λok s4 =>
       if ok=true then wpAny (model prog w) A (eval elt env) (λx s5 =>
        wpAny (model prog w) A (call (.builtin "list.append") [acc,x]) (λ_ s6=>∃m,m<n/\J m s6) (λ_ _=>False) s5) (λ_ _=>False) s4
       else ∃m,m<n/\J m s4) (λ_ _=>False) s3) (λ_ _=>False) s2) (λ_ _=>False) s1) (λ_ _=>False) s)
 (n:Nat) (h:J n s):codeAny (model prog w) A (.compLoop (.ListComp elt [⟨tg,it0,tests,0⟩] scope pos) 0 it acc env) R s:=by
 have up:∀{α:Type}{t:Sem α}{q q':α->Shared->Prop}{E':Value->Shared->Prop}{s:Shared},wpAny (model prog w) A t q (λ_ _=>False) s->(∀a s,q a s->q' a s)->wpAny (model prog w) A t q' E' s:=λh k=>wpAny_mono h k λ_ _ z=>False.elim z;refine codeAny_loop rfl J (λn s hJ=>?_) n h;show wpAny _ A ((compTurn (.ListComp elt [⟨tg,it0,tests,0⟩] scope pos) 0 it acc env).onRaise (λx=>do noteFrame x env;theTreesLotGoes x)) _ _ s;refine wpAny_noted ?_;rw[compTurn_list];refine wpAny_bind (wpAny_standAt (wpAny_bind (up (turn n s hJ) λr s1 h1=>?_)));cases r with
 | none=>exact wpAny_pure h1
 | some v =>
   refine wpAny_bind (up h1 λ_ s2 h2=>wpAny_bind (up h2 λ_ s3 h3=>wpAny_bind (up h3 λok s4 h4=>?_)));cases ok with
   | false=>exact wpAny_pure ⟨rfl,h4⟩
   | true =>
     exact wpAny_bind (wpAny_bind (up h4 λx s5 h5=>wpAny_bind (up h5 λ_ s6 h6=>wpAny_pure (wpAny_pure ⟨rfl,h6⟩))))
section
variable {X:Cx}{x:Str}{fr:List Str}{ix:List Nat}{scope:Scope}{elt iter:Expr}{ifs:List Expr}{px pos:Pos}{wi:TI}{tc:TT}{te:TE}
theorem zj1{use:Option (Value->Sem Unit)}{Q:Value->Shared->Prop}{pins:List (Addr×Obj)}{s2:Shared}{σ:St}{H2:Hp}{it:Addr}{fp:List Addr}{tn:Nat->Heap->Prop}{J:It}{cl:List (Str×Addr)}(S:CompScope X.env.scope X.N x fr ix scope)(hc:X.calm=true)
 (hif:∀cl C s2 H2 fp,PIf (blk X (x::fr) scope cl C s2 H2 fp) ifs tc) (he:∀cl C s2 H2 fp,PE (blk X (x::fr) scope cl C s2 H2 fp) elt te)
 (h1:∀y c,cl.lookup y=some c->X.env.cells.lookup y=some c) (h2:∀y,(y,NameKind.free)∈scope.names->∃c,cl.lookup y=some c)
 (I2:Inv X pins σ H2 s2) (T:Turn X.prog X.w X.K (.Name x px) J fp it tn) (st2:tn 0 s2.heap) (f2:∀b∈fp,wI X pins H2 b) {fin:List V->Hp->Prop} (wc:zd1 J (cap ix σ) tc te H2 fin)
 (hQ:∀(D C:Addr)(ys:List V)(H':Hp)(s':Shared)(m:Str->Option Value),Inv X pins σ (upd H' D (.lst ys)) s'->H' D=none->s'.heap.Ns C m->D≠C->s2.heap.objs.size<=C->H' C=none->fin ys H' ->
   compPost (model X.prog X.w) X.A X.xe use Q (.ref D) C (.ok .next) s') :
 wpAny (model X.prog X.w) X.A (newList []) (λacc s₃=>wpAny (model X.prog X.w) X.A (newFunctionEnv scope X.env.globals cl [] X.env.qual none .none (some X.env)) (λcenv s₄ =>
  codeAny (model X.prog X.w) X.A (.compStart (.ListComp elt [⟨.Name x px,iter,ifs,0⟩] scope pos) 0 (.ref it) acc { cenv with scope:=relabel scope X.env }) (compPost (model X.prog X.w) X.A X.xe use Q acc cenv.locals) s₄) X.xe s₃) X.xe s2:=by
 have hfo:∀b∈fp,b<s2.heap.objs.size:=λb hb=>by
  obtain⟨o,e,_⟩:=T.obj 0 _ st2 b hb;exact lt_size e
 refine wpAny_newObj_type (wpAny_newFunctionEnv S.nocell (by intro y hy;simp at hy) (λh₁ hns₁ hsb₁=>?_) S.kind);dsimp only at hns₁ hsb₁ ⊢;generalize hHp:s2.heap.push { cls:=.type "list",dict:=none,data:=.seq ([]:List Value).toArray }=Hp2 at hns₁ hsb₁ ⊢;have hCs:Hp2.objs.size=s2.heap.objs.size+1:=by rw[<-hHp,size_push]
 have hDC:s2.heap.objs.size≠Hp2.objs.size:=by rw[hCs];exact ne_of_lt (lt_succ_self _)
 have hCle:s2.heap.objs.size<=Hp2.objs.size:=by rw[hCs];exact le_succ _
 have zeZ:∀b,b<s2.heap.objs.size->b≠Hp2.objs.size:=λb hb=>by rw[hCs];exact ne_of_lt (lt_succ_of_lt hb)
 have old:∀b o,s2.heap.get? b=some o->h₁.get? b=some o:=λb o e=>hsb₁.extBut b o (zeZ b (lt_size e)) (get?_push_of_some _ (hHp ▸ get?_push_of_some _ e));have hacc:h₁.get? s2.heap.objs.size=some { cls:=.type "list",data:=.seq ([]:List Value).toArray 0 }:=hsb₁.extBut _ _ hDC (get?_push_of_some _ (hHp ▸ get?_push_size _ rfl));have st1:tn 0 h₁:=T.keep 0 _ _ st2 λb _ o e=>old b o e;have fpD:∀b∈fp,b≠s2.heap.objs.size:=λb hb=>ne_of_lt (hfo b hb);generalize hD:s2.heap.objs.size=D at hacc hDC fpD ⊢;have hDle:s2.heap.objs.size<=D:=le_of_eq hD;generalize hC:Hp2.objs.size=C at hns₁ hsb₁ hDC hCle ⊢;have oldD:∀b o,s2.heap.get? b=some o->b≠D:=λb o e z=>absurd (lt_size e) (by rw[z,<-hD];exact lt_irrefl _);obtain⟨W,⟨m0,w0⟩,turn⟩:=wc;have loop:∀s₃:Shared,s₃={ s2 with heap:=h₁,toks:=s2.toks+([]:List (Str×Value)).length } ->
  codeAny (model X.prog X.w) X.A (.compLoop (.ListComp elt [⟨.Name x px,iter,ifs,0⟩] scope pos) 0 (.ref it) (.ref D) (compEnvC scope cl C X.env))
   (compPost (model X.prog X.w) X.A X.xe use Q (.ref D) C) s₃:=by
  rintro s₃ rfl;have I0:Inv (blk X (x::fr) scope cl C s2 H2 fp) [(D,{ cls:=.type "list",data:=.seq ([]:List Value).toArray 0 })] (none::cap ix σ) H2 { s2 with heap:=h₁,toks:=s2.toks+([]:List (Str×Value)).length } :=
   blk_inv S I2 f2 hfo hCle h1 h2 rfl rfl old hns₁ (λp hp=>by
    have e:p=(D,{ cls:=.type "list",data:=.seq ([]:List Value).toArray 0 }):=by simpa using hp
    subst e;exact⟨hacc,hDle,hDC,λv z=>by cases z⟩)
  have stat:∀{its:Obj}{H':Hp},(∀b∈fp,H' b=none)->∀b∈fp,wI (blk X (x::fr) scope cl C s2 H2 fp) [(D,its)] H' b:=λ{its H'} hn b hb=>by
   refine⟨hn b hb,λz=>?_,λz=>(I0.ok.exfs b hb z),.inl hb,λy c e=>(I0.ok.exf b hb).2 y c e,λp hp z=>?_⟩
   ·exact(I0.ok.exf b hb).1 z
   ·have e:p=(D,its):=by simpa [blk] using hp
    subst e;exact fpD b hb (Eq.symm z)
  refine zdv (env:=compEnvC scope cl C X.env)
   (λn s'=>∃i ys its k v0 H',Vals ys its/\Inv (blk X (x::fr) scope cl C s2 H2 fp) [(D,{ cls:=.type "list",data:=.seq its.toArray k })] (v0::cap ix σ) H' s'/\tn i s'.heap/\(∀b∈fp,H' b=none)/\W i n ys H') ?_ m0
   ⟨0,[],[],0,none,H2,.nil,I0,st1,λb hb=>(f2 b hb).1,w0⟩
  rintro n s3 ⟨i,ys,its,k,v0,H3,rv,I3,st3,fr3,w3⟩;rcases turn i n ys H3 w3 with⟨stop,hz,hfin⟩|⟨go,hz,N,hN,step⟩
  ·refine thn (T.done (blk X (x::fr) scope cl C s2 H2 fp) rfl rfl rfl hc i _ s3 _ H3 _ I3 (stat fr3) st3 stop) λr s4 ⟨hr,I4⟩=>?_;subst hr;have pD:=I4.pin (D,{ cls:=.type "list",data:=.seq its.toArray k }) (by simp[blk]);obtain⟨mC,hnC,_⟩:=I4.loc;have hH3D:H3 D=none:=pD.2.1;have hok':HOk X.prog X.w (upd H3 D (.lst ys)) s4.heap:=λb u e=>by
    by_cases hb:b=D
    ·subst hb;rw[zd]at e;cases e;exact⟨hz,its,k,rv,pD.1⟩
    ·rw[zh hb]at e;exact(I4.hok b u e).stay (λc v _ q=>q) (λc q=>by rw[zh (zn q hH3D)];exact q) λc xs q=>by rw[zh (zn q hH3D)];exact q
   have b4:Un (frs X.stack) fp H2 H3 s2.heap s4.heap:=I4.base;have un:Un (frs X.stack) fp H2 (upd H3 D (.lst ys)) s2.heap s4.heap :=
    ⟨b4.keep,b4.slot,λb o q n hx=>by
     rw[zh (oldD b o q)];exact b4.free b o q n hx,b4.there,λb xs q=>by rw[zh (zn (b4.tups b xs q) hH3D)];exact b4.tups b xs q,
     λb o u q=>by rw[zh (zn (b4.frzs b o u q) hH3D)];exact b4.frzs b o u q,λb ps q=>by
      obtain⟨more,e⟩:=b4.tbls b ps q;exact⟨more,by rw[zh (zn e hH3D)];exact e⟩⟩
   have I5:Inv X pins σ (upd H3 D (.lst ys)) s4:=I2.call' (ch:=fp) I4.os un hok' I4.bare λb hb=>by
    obtain⟨g0,g1,g2,g3,g4,g5⟩:=f2 b hb;exact⟨g3,g1,g4,g5⟩
   exact hQ D C ys H3 s4 mC I5 hH3D hnC hDC hCle I4.free hfin
  ·refine thn (T.item (blk X (x::fr) scope cl C s2 H2 fp) rfl rfl rfl hc i _ s3 _ H3 _ I3 (stat fr3) st3 go) λr s4 ⟨u,hr,h4⟩=>?_;subst hr;refine thn h4 λ_ s5 ⟨y,H5,I5,r5,y5,st5,fr5⟩=>?_;have I5':=I5.pinned (stat fr5) (T.obj _ _ st5);have pg:PG (blk X (x::fr) scope cl C s2 H2 fp) (.Name x px) (zgv 0):=zU S.nd rfl (.inl (lookup_relabel_local S.lx)) (.inr (lookup_relabel_local S.lx));refine thn (pg _ s5 _ H5 y u (λσ6 H6=>σ6=some y::cap ix σ/\H6=H5) I5' r5 ⟨rfl,rfl⟩) λ_ s6 ⟨σ6,H6,I6,e6,e6'⟩=>?_;subst e6 e6';refine thn (hif cl C s2 H2 fp _ s6 _ _ _ I6 (step y _ y5)) λb s7 ⟨H7,I7,q7⟩=>?_;have again:∀{s8:Shared}{H8:Hp}{its':List Value}{k':Nat}{ys':List V},Vals ys' its'->Inv (blk X (x::fr) scope cl C s2 H2 fp) [(D,{ cls:=.type "list",data:=.seq its'.toArray k' })] (some y::cap ix σ) H8 s8->(∀b∈fp,∀o,s5.heap.get? b=some o->s8.heap.get? b=some o)->(∀b∈fp,H8 b=none)->N ys' H8 ->
    ∃m,m<n/\∃i ys its k v0 H',Vals ys its/\Inv (blk X (x::fr) scope cl C s2 H2 fp) [(D,{ cls:=.type "list",data:=.seq its.toArray k })] (v0::cap ix σ) H' s8/\tn i s8.heap/\(∀b∈fp,H' b=none)/\W i m ys H' :=
    λ{s8 H8 its' k' ys'} rv8 I8 kp fr8 nn=>let ⟨m',hm,w8⟩:=hN ys' H8 nn;⟨m',hm,i+1,ys',its',k',some y,H8,rv8,I8,T.keep _ _ _ st5 kp,fr8,w8⟩
   cases b with
   | false =>
     rw[if_neg Bool.false_ne_true]at q7 ⊢;refine again rv I7.unpinned (λb hb o e=>(I7.pin (b,o) (by simp[blk];exact .inr (yy hb e))).1) (λb hb=>?_) q7;obtain⟨o,e,d⟩:=T.obj _ _ st5 b hb;exact(I7.pin (b,o) (by simp[blk];exact .inr (yy hb e))).2.1
   | true =>
     rw[if_pos rfl]at q7 ⊢;refine thn (he cl C s2 H2 fp _ s7 _ _ _ I7 q7) λv s8 ⟨z,H8,I8,r8,q8⟩=>?_;have pD:=I8.pin (D,{ cls:=.type "list",data:=.seq its.toArray k }) (by simp[blk]);have hvl:ys.length=its.length:=rv.length;refine append_at (hsz:=by show its.toArray.size<=sizeLine;rw[size_toArray];omega) pD.1 λh₉ hs₉ hD₉=>?_;have eo:({ cls:=.type "list",data:=.seq (its.toArray.push v) (k+1) }:Obj)={ cls:=.type "list",data:=.seq (its++[v]).toArray (k+1) }:=by rw[push_toArray]
     rw[eo]at hD₉;have pn8:∀b∈fp,∀o,s5.heap.get? b=some o->s8.heap.get? b=some o/\H8 b=none:=λb hb o e=>by
      have q:=I8.pin (b,o) (by simp[blk];exact .inr (yy hb e));exact⟨q.1,q.2.1⟩
     have J8:=I8.unpinned.pins_of (pins':=[]) (λp hp=>by cases hp);have f2D:wI (blk X (x::fr) scope cl C s2 H2 fp) [] H8 D:=⟨pD.2.1,pD.2.2.1,pD.2.2.2.1,.inr hDle,λy c e z=>by
      obtain⟨v,o,ho,_⟩:=I2.cell y c (h1 y c e);exact oldD c o ho z,λp hp=>by cases hp⟩
     have I9:Inv (blk X (x::fr) scope cl C s2 H2 fp) [] (some y::cap ix σ) H8 { s8 with heap:=h₉ }:=J8.turned (t':=s8.toks) (it:=D) (λb o hb e=>(hs₉.2 b hb).trans e) f2D.1 f2D.2.1 f2D.2.2.2.1 f2D.2.2.2.2.1 f2D.2.2.2.2.2;refine again (its':=its++[v]) (k':=k+1) (ys':=ys++[z]) (rv.append (.cons r8 .nil)) (I9.pins_of λp hp=>?_) (λb hb o e=>(hs₉.2 b (fpD b hb)).trans (pn8 b hb o e).1) (λb hb=>?_) q8
     ·have e:p=(D,{ cls:=.type "list",data:=.seq (its++[v]).toArray (k+1) }):=by simpa using hp
      subst e;exact⟨hD₉,f2D.1,f2D.2.1,f2D.2.2.1,λv z=>by cases z⟩
     ·obtain⟨o,e,d⟩:=T.obj _ _ st5 b hb;exact(pn8 b hb o e).2
 exact codeAny_compStart_list (loop _ rfl) (T.self X.A 0 _ _ _ st1 (loop _ rfl))
theorem zL(S:CompScope X.env.scope X.N x fr ix scope)(hc:X.calm=true)(hi:PI X (.Name x px) iter wi)(hif:∀cl C s2 H2 fp,PIf (blk X (x::fr) scope cl C s2 H2 fp) ifs tc)(he:∀cl C s2 H2 fp,PE (blk X (x::fr) scope cl C s2 H2 fp) elt te)
 (hs:∀x,foldedSetIterable iter X.env x=pure x:=by intro _;rfl):PE X (.ListComp elt [⟨.Name x px,iter,ifs,0⟩] scope pos) (tComp ix wi tc te):=by
 intro pins s σ H Q I h;obtain⟨cl,ecl,h1,h2⟩:=zbV (env:=X.env) (scope:=scope) λy hy hf=>I.ok.has y.1 (S.free y hy hf);rw[eval_ListComp];refine wpAny_comprehension_free (use:=none) rfl hs ecl S.kind S.lcl (thn (hi pins s σ H _ I h) λxv s1 q1=>thn q1 λitv s2 q2=>?_);obtain⟨it,fp,tn,J,H2,rfl,I2,T,st2,f2,wc⟩:=q2;refine zj1 S hc hif he h1 h2 I2 T st2 f2 wc λD C ys H' s' m I' hD hn hDC hC hHC fin=>?_;refine⟨m,hn,λh' sb=>⟨.ref D,upd H' D (.lst ys),?_,rfl,fin D hD⟩⟩;have hcf:wI X pins (upd H' D (.lst ys)) C:=by
  have z:=I2.fpOk (H':=upd H' D (.lst ys)) hC (by rw[zh (Ne.symm hDC)];exact hHC);exact z
 exact I'.turned (t':=s'.toks) (it:=C) (λb o hb e=>(sb.2 b hb).trans e) hcf.1 hcf.2.1 hcf.2.2.2.1 hcf.2.2.2.2.1 hcf.2.2.2.2.2
theorem y6{i:Nat}{y:Str}{py spos:Pos}(S:CompScope X.env.scope X.N x fr ix scope)(hc:X.calm=true)(hN:X.N.Nodup)(hiy:X.N[i]? = some y)(hy:Loc X.env.scope y)(hi:PI X (.Name x px) iter wi)(hif:∀cl C s2 H2 fp,PIf (blk X (x::fr) scope cl C s2 H2 fp) ifs tc)(he:∀cl C s2 H2 fp,PE (blk X (x::fr) scope cl C s2 H2 fp) elt te)
 (hsw:swapsWith (.ListComp elt [⟨.Name x px,iter,ifs,0⟩] scope pos) (some (.Name y py)) spos.line X.env=pure true:=by rfl)
 (hf:X.fn y=true\/X.env.scope.names.lookup y=some .local:=by first | exact .inl rfl | exact .inr rfl | assumption)
 (hs:∀x,foldedSetIterable iter X.env x=pure x:=by intro _;rfl) :
 PS X (.Assign [.Name y py] (.ListComp elt [⟨.Name x px,iter,ifs,0⟩] scope pos) spos) (tAsg (tComp ix wi tc te) (zgv i)):=by
 intro pins s σ H Dn I h;obtain⟨cl,ecl,h1,h2⟩:=zbV (env:=X.env) (scope:=scope) λy hy hf=>I.ok.has y.1 (S.free y hy hf);rw[exec_Assign_Name_used _ _ _ _ hsw];refine wpAny_bind (wpAny_standAt (wpAny_bind ?_));show wpAny _ X.A (do let _ <-comprehension (.ListComp elt [⟨.Name x px,iter,ifs,0⟩] scope pos) scope X.env _ (newList []) false (eval iter X.env) (some (assign (.Name y py) X.env))) _ _ s;refine wpAny_bind (thn (Q:=λ_ s'=>SP X pins Dn .next s') ?_ λ_ s' q=>wpAny_pure (wpAny_pure q));refine wpAny_comprehension_free (use:=some (assign (.Name y py) X.env)) rfl hs ecl S.kind S.lcl (thn (hi pins s σ H _ I h) λxv s1 q1=>thn q1 λitv s2 q2=>?_);obtain⟨it,fp,tn,J,H2,rfl,I2,T,st2,f2,wc⟩:=q2;refine zj1 S hc hif he h1 h2 I2 T st2 f2 wc λD C ys H' s' m I' hD hn hDC hC hHC fin=>?_;have hcf:wI X pins (upd H' D (.lst ys)) C:=I2.fpOk (H':=upd H' D (.lst ys)) hC (by rw[zh (Ne.symm hDC)];exact hHC);show wpAny _ X.A (assign (.Name y py) X.env (.ref D)) _ _ s';refine wpAny_assign_Name (zfX (v:=V.ref D) I' hN hiy hy rfl (λs'' I'' hsb=>?_) hf);obtain⟨a,sb,ha⟩:=hsb;have hCa:C≠a:=λz=>by
  rcases ha with q | q
  ·exact hcf.2.1 (z.trans q)
  ·exact hcf.2.2.2.2.1 y a q z.symm
 refine⟨m,hn.sameBut sb hCa,λh' sb'=>⟨_,_,I''.turned (t':=s''.toks) (it:=C) (λb o hb e=>(sb'.2 b hb).trans e) hcf.1 hcf.2.1 hcf.2.2.2.1 hcf.2.2.2.2.1 hcf.2.2.2.2.2,fin D hD⟩⟩
end
section
variable {X:Cx}
def ixV(xs:List V)(y:V):Nat:=xs.findIdx λz=>eqV z y
theorem zjL{x:V}:∀{xs:List V}{us:List Value},Vals xs us->xs.all zae=true->us.findIdx (eqU x)=xs.findIdx λy=>eqV y x
 | _,_,.nil,_=>rfl
 | y::xs,u::us,.cons r t,f=>by
   rw[all_cons,Bool.and_eq_true]at f;rw[findIdx_cons,findIdx_cons,eqU_of r f.1,zjL t f.2]
def rIndex(K:Frag):V->List V->Hp->VK->Prop:=λx vs H Q=>∃l xs y,x=.ref l/\vs=[y]/\SqL K H l xs/\zae y=true/\xs.all zae=true/\ixV xs y<xs.length/\Q (.int (ixV xs y:Nat)) H
theorem zkQ:(sizeLine:Int)<2 ^ 63-1:=by decide
theorem zem:MtM X "list.index" (rIndex X.K):=by
 intro pins s σ H x vs v us Q I rx rv h;obtain⟨l,xs,y,rfl,rfl,hH,fy,fs,hj,q⟩:=h;cases rx;obtain⟨u,rfl,ru⟩:=rv.one;obtain⟨its,r,⟨⟨oc,od,dt,sl⟩,n,e,c1,c2,c3⟩,z⟩:=I.list hH;simp only at c1 c2 c3;subst c1 c2 c3;have hl:=r.length;have ef:=zjL (x:=y) r fs;have hj':its.findIdx (eqU y)<its.length:=by rw[ef,<-hl];exact hj
 refine call_meets F.slot_list_index ⟨_,e,rfl⟩ F.entry_list_index (F.args_list_index_2 _ _)
  (SeqAt.list_indexAt l its.toArray n none sl u (eqU y) (its.findIdx (eqU y)) (by simpa using hj') (by have:=zkQ;omega) (by simpa using List.findIdx_getElem (w:=hj')) (λm hm hlt=>by simpa using List.not_of_lt_findIdx hlt)) ⟨e,λw hw=>zfN ru fy r fs w (by simpa using hw),?_⟩
 refine⟨.int (ixV xs y:Nat),H,I.tok _,⟨s.toks,?_⟩,q⟩;rw[ef];rfl
def isInt:V->Option Bool
 | .int _=>some true
 | .bl _=>some true
 | .str _=>some false
 | .non=>some false
 | _=>none
def isBool:V->Option Bool
 | .int _=>some false
 | .bl _=>some true
 | .str _=>some false
 | .non=>some false
 | _=>none
def isStr:V->Option Bool
 | .int _=>some false
 | .bl _=>some false
 | .str _=>some true
 | .non=>some false
 | _=>none
inductive IsLst (K:Frag) (H:Hp):V->Bool->Prop
 | yes {a:Addr} {xs:List V}:SqL K H a xs->IsLst K H (.ref a) true
 | no {a:Addr} {xs:List V}:SqT K H a xs->IsLst K H (.ref a) false
inductive IsTpl (K:Frag) (H:Hp):V->Bool->Prop
 | yes {a:Addr} {xs:List V}:SqT K H a xs->IsTpl K H (.ref a) true
 | no {a:Addr} {xs:List V}:SqL K H a xs->IsTpl K H (.ref a) false
inductive ICall_isi_int (xs:List V) (H:Hp) (Q:VK):Prop
 | mk (x:_) (b:_):xs=[x,.ty "int"]->isInt x=some b->Q (.bl b) H->ICall_isi_int xs H Q
theorem zi7:zak X (.builtin "isinstance") ICall_isi_int:=by
 intro pins s σ H xs us Q I r h;obtain⟨x,b,rfl,e,q⟩:=h;obtain⟨u,t,rfl,ru,rt⟩:=r.two;cases rt;cases x with
 | int i=>obtain⟨t',rfl⟩:=ru;cases e;exact IsiPair.int_int ⟨.bl true,H,I,rfl,q⟩
 | bl i=>cases ru;cases e;exact IsiPair.bool_int ⟨.bl true,H,I,rfl,q⟩
 | str i=>obtain⟨t',rfl⟩:=ru;cases e;exact IsiPair.str_int ⟨.bl false,H,I.tok _,rfl,q⟩
 | non=>cases ru;cases e;exact IsiPair.NoneType_int ⟨.bl false,H,I.tok _,rfl,q⟩
 | _=>cases e
inductive ICall_isi_bool (xs:List V) (H:Hp) (Q:VK):Prop
 | mk (x:_) (b:_):xs=[x,.ty "bool"]->isBool x=some b->Q (.bl b) H->ICall_isi_bool xs H Q
theorem zeY:zak X (.builtin "isinstance") ICall_isi_bool:=by
 intro pins s σ H xs us Q I r h;obtain⟨x,b,rfl,e,q⟩:=h;obtain⟨u,t,rfl,ru,rt⟩:=r.two;cases rt;cases x with
 | int i=>obtain⟨t',rfl⟩:=ru;cases e;exact IsiPair.int_bool ⟨.bl false,H,I.tok _,rfl,q⟩
 | bl i=>cases ru;cases e;exact IsiPair.bool_bool ⟨.bl true,H,I,rfl,q⟩
 | str i=>obtain⟨t',rfl⟩:=ru;cases e;exact IsiPair.str_bool ⟨.bl false,H,I.tok _,rfl,q⟩
 | non=>cases ru;cases e;exact IsiPair.NoneType_bool ⟨.bl false,H,I.tok _,rfl,q⟩
 | _=>cases e
inductive ICall_isi_str (xs:List V) (H:Hp) (Q:VK):Prop
 | mk (x:_) (b:_):xs=[x,.ty "str"]->isStr x=some b->Q (.bl b) H->ICall_isi_str xs H Q
theorem zfj:zak X (.builtin "isinstance") ICall_isi_str:=by
 intro pins s σ H xs us Q I r h;obtain⟨x,b,rfl,e,q⟩:=h;obtain⟨u,t,rfl,ru,rt⟩:=r.two;cases rt;cases x with
 | int i=>obtain⟨t',rfl⟩:=ru;cases e;exact IsiPair.int_str ⟨.bl false,H,I.tok _,rfl,q⟩
 | bl i=>cases ru;cases e;exact IsiPair.bool_str ⟨.bl false,H,I.tok _,rfl,q⟩
 | str i=>obtain⟨t',rfl⟩:=ru;cases e;exact IsiPair.str_str ⟨.bl true,H,I,rfl,q⟩
 | non=>cases ru;cases e;exact IsiPair.NoneType_str ⟨.bl false,H,I.tok _,rfl,q⟩
 | _=>cases e
inductive ICall_isi_list (K:Frag) (xs:List V) (H:Hp) (Q:VK):Prop
 | mk (x:_) (b:_):xs=[x,.ty "list"]->IsLst K H x b->Q (.bl b) H->ICall_isi_list K xs H Q
theorem wL:zak X (.builtin "isinstance") (ICall_isi_list X.K):=by
 intro pins s σ H xs us Q I r h;obtain⟨x,b,rfl,e,q⟩:=h;obtain⟨u,t,rfl,ru,rt⟩:=r.two;cases rt;cases e with
 | yes hq =>
   cases ru;obtain⟨its,r,⟨o,n,e,c1,c2,c3⟩,z⟩:=I.list hq;exact IsiPair.list_list e c1 ⟨.bl true,H,I,rfl,q⟩
 | no hq =>
   cases ru;obtain⟨its,r,⟨o,e,c1,n,c3⟩,z⟩:=I.tuple hq;exact IsiPair.tuple_list e c1 ⟨.bl false,H,I.tok _,rfl,q⟩
inductive ICall_isi_tuple (K:Frag) (xs:List V) (H:Hp) (Q:VK):Prop
 | mk (x:_) (b:_):xs=[x,.ty "tuple"]->IsTpl K H x b->Q (.bl b) H->ICall_isi_tuple K xs H Q
theorem zbY:zak X (.builtin "isinstance") (ICall_isi_tuple X.K):=by
 intro pins s σ H xs us Q I r h;obtain⟨x,b,rfl,e,q⟩:=h;obtain⟨u,t,rfl,ru,rt⟩:=r.two;cases rt;cases e with
 | yes hq =>
   cases ru;obtain⟨its,r,⟨o,e,c1,n,c3⟩,z⟩:=I.tuple hq;exact IsiPair.tuple_tuple e c1 ⟨.bl true,H,I,rfl,q⟩
 | no hq =>
   cases ru;obtain⟨its,r,⟨o,n,e,c1,c2,c3⟩,z⟩:=I.list hq;exact IsiPair.list_tuple e c1 ⟨.bl false,H,I.tok _,rfl,q⟩
def tRev(K:Frag)(te ts:TE):TE:=λσ H Q=>te σ H λx H1=>ts σ H1 λy H2=>y=.int (-1)/\∃a xs,x=.ref a/\SqL K H2 a xs/\∀p,H2 p=none->Q (.ref p) (upd H2 p (.lst xs.reverse))
theorem pe_rev{e st:Expr}{te ts:TE}{p2 pos:Pos}(he:PE X e te)(hst:PE X st ts):PE X (.Subscript e (.Slice none none (some st) p2) pos) (tRev X.K te ts):=by
 intro pins s σ H Q I h;refine Subscript_ (thn (he pins s σ H _ I h) λv s1 ⟨x,H1,I1,r1,q1⟩=>?_);refine wpAny_Slice ?_;rw[evalPart_none];refine wpAny_pure (wpAny_pure ?_);rw[evalPart_some];refine thn (hst pins s1 σ H1 _ I1 q1) λu s3 ⟨y,H3,I3,r3,q3⟩=>?_;obtain⟨rfl,a,xs,rfl,hx,q⟩:=q3;obtain⟨t,rfl⟩:=r3;cases r1;have I4:Inv X pins σ H3 { s3 with heap:=s3.heap.push { cls:=.type "slice",data:=.fields #[.none,.none,.int (-1) t] } }:=I3.kept (t':=s3.toks) λb ob q=>get?_push_of_some _ q;obtain⟨its,r,ht,hz⟩:=I4.list hx;have hlen:=r.length;show wpAny (model X.prog X.w) X.A (subscriptTail e (.Slice none none (some st) p2) (.ref a) (.ref s3.heap.objs.size)) (EP X pins σ Q) X.xe { s3 with heap:=s3.heap.push { cls:=.type "slice",data:=.fields #[.none,.none,.int (-1) t] } };refine tail_any (ops:=[.ref a,.ref s3.heap.objs.size]) ht.isList.typeIs slot_list_getitem.lookup ?_ (by with_unfolding_all rfl);refine wpAny_getItem_list_slice ht.isList (Heap.IsSliceOf.new ..) .none .none (.int (-1) t) (by decide) ?_ (by rw[size_toArray] <;> omega);rw[PySem.W.krv_pick];refine⟨.ref _,_,I4.laid (t':=s3.toks) (o:=.lst xs.reverse) (λb ob q=>get?_push_of_some _ q) (le_refl _) ?_,rfl,q _ (I4.hok.fresh (le_refl _))⟩;exact⟨by rw[List.length_reverse];exact hz,_,0,r.reverse,get?_push_size _ rfl⟩
end
structure Can (P:Program) (w:World) (K:Frag) (mg:Str->Option Value) (base:Heap) (k:Nat) (x:Str) (ps:List Str) (sp:Sp):Prop where
 ex:∃f fd,FnOk P w K mg base CX0 k f fd ps sp/\mg x=some (.ref f)/\keepIn K (.ref f)=true/\Binds K fd ps []
variable {P:Program}{mg:Str->Option Value}{base:Heap}{x qual:Str}{ps:List Str}{sp:Sp}{f:Addr}{fd:FuncData}{st:Stmt}
theorem Can.of
 (F:Fun K x qual st f fd) (G:FnOk P w K mg base CX0 k f fd ps sp) (hm:mg x=some (.ref f)) (b:Binds K fd ps []):Can P w K mg base k x ps sp:=⟨f,fd,G,hm,F.kp,b⟩
section
variable {X:Cx}{k:Nat}{x:Str}{ps:List Str}{sp:Sp}{p pos:Pos}{e:Expr}{es:List Expr}{t:TA}
theorem zi(C:Can X.prog X.w X.K X.mg X.base k x ps sp)(hr:Room k X.A)(hg:Gl X x)(ha:PA X (e::es) t)(hdb:(x==("__debug__":Str))=false:=by decide)(he:starEach (e::es) X.env=(false,eval e X.env)::starEach es X.env:=by rfl)
 (hpl:(backTo pos (starEach es X.env)).any (·.1)=false:=by rfl):PE X (.Call (.Name x p) (e::es) [] pos) (tCall sp [] E0 t):=by
 obtain⟨f,fd,F,hm,hk,hb⟩:=C.ex;exact pe_call F hr hg hm hk hb .nil pass0 ha hdb he hpl
end
variable {c:St}{te:TE}{fin:List V->Hp->Prop}
theorem yV{tc:TT}(Pv:Nat->List V->Hp->Prop)(h0:Pv 0 [] H)(hl:∀i ys H,i<=xs.length->Pv i ys H->SqL K H a xs/\ys.length<=i)(hz:xs.length<=sizeLine)
 (hs:∀i x ys H,xs[i]? = some x->Pv i ys H->tc (some x::c) H λb H2=>if b=true then te (some x::c) H2 λy H3=>Pv (i+1) (ys++[y]) H3 else Pv (i+1) ys H2)
 (hd:∀ys H,Pv xs.length ys H->fin ys H):zd1 (Itl K a) c tc te H fin:=by
 refine⟨λi m ys H=>m=xs.length-i/\i<=xs.length/\Pv i ys H,⟨xs.length,by simp,zero_le _,h0⟩,?_⟩;rintro i m ys H ⟨rfl,hi,p⟩;obtain⟨q,hy⟩:=hl i ys H hi p;by_cases hlt:i<xs.length
 ·refine .inr ⟨⟨xs,xs[i],q,by simp[hlt]⟩,by omega,Pv (i+1),λys' H' p'=>⟨_,by omega,rfl,hlt,p'⟩,λx H' y=>?_⟩;obtain⟨e,y⟩:=y;subst e;exact hs i x ys _ (y xs q) p
 ·have e:i=xs.length:=by omega
  subst e;exact .inl ⟨⟨xs,q,le_refl _⟩,by omega,hd ys H p⟩
variable {n:Nat}
theorem zfg{lo:Int}{tc:TT}(Pv:Nat->List V->Hp->Prop)(h0:Pv 0 [] H)(hl:∀i ys H,i<=n->Pv i ys H->ys.length<=i)(hz:n<=sizeLine)
 (hs:∀i ys H,i<n->Pv i ys H->tc (some (.int (lo+i))::c) H λb H2=>if b=true then te (some (.int (lo+i))::c) H2 λy H3=>Pv (i+1) (ys++[y]) H3 else Pv (i+1) ys H2)
 (hd:∀ys H,Pv n ys H->fin ys H):zd1 (Itr lo n) c tc te H fin:=by
 refine⟨λi m ys H=>m=n-i/\i<=n/\Pv i ys H,⟨n,by simp,zero_le _,h0⟩,?_⟩;rintro i m ys H ⟨rfl,hi,p⟩;have hy:=hl i ys H hi p;by_cases hlt:i<n
 ·refine .inr ⟨hlt,by omega,Pv (i+1),λys' H' p'=>⟨_,by omega,rfl,hlt,p'⟩,λx H' y=>?_⟩;obtain⟨e,y⟩:=y;subst e y;exact hs i ys _ hlt p
 ·have e:i=n:=by omega
  subst e;exact .inl ⟨le_refl _,by omega,hd ys H p⟩
theorem yb(Pv:Nat->List V->Hp->Prop)(h0:Pv 0 [] H)(hl:∀i ys H,i<=xs.length->Pv i ys H->SqL K H a xs/\ys.length<=i)(hz:xs.length<=sizeLine)
 (hs:∀i x ys H,xs[i]? = some x->Pv i ys H->te (some x::c) H λy H3=>Pv (i+1) (ys++[y]) H3) (hd:∀ys H,Pv xs.length ys H->fin ys H):zd1 (Itl K a) c tYes te H fin :=
 yV Pv h0 hl hz (λi x ys H e p=>zh5 (B:=Pv (i+1) ys H) (hs i x ys H e p)) hd
theorem zeD{lo:Int}(Pv:Nat->List V->Hp->Prop)(h0:Pv 0 [] H)(hl:∀i ys H,i<=n->Pv i ys H->ys.length<=i)(hz:n<=sizeLine)
 (hs:∀i ys H,i<n->Pv i ys H->te (some (.int (lo+i))::c) H λy H3=>Pv (i+1) (ys++[y]) H3) (hd:∀ys H,Pv n ys H->fin ys H):zd1 (Itr lo n) c tYes te H fin :=
 zfg Pv h0 hl hz (λi ys H e p=>zh5 (B:=Pv (i+1) ys H) (hs i ys H e p)) hd
theorem zei{i:Int}{pos:Pos}(h:∃t,X.mg x=some (.int i t))(hg:Gl X x)(hd:(x==("__debug__":Str))=false:=by decide):PE X (.Name x pos) (tC (.int i)):=by
 obtain⟨t,h⟩:=h;exact pe_glob hg h ⟨t,rfl⟩ hd
theorem yB{c:Prop} [Decidable c](h1:c->A)(h2:¬c->B):if decide c=true then A else B:=by
 by_cases h:c
 ·rw[if_pos (decide_eq_true h)];exact h1 h
 ·rw[if_neg (by rw[decide_eq_false h];exact Bool.false_ne_true)];exact h2 h
theorem yj{c:Prop} [Decidable c](h1:¬c->A)(h2:c->B):if(!decide c)=true then A else B:=by
 by_cases h:c
 ·rw[decide_eq_true h];exact yl (h2 h)
 ·rw[decide_eq_false h];exact zh5 (h1 h)
theorem zhi{b:Bool}(h1:b=true->A)(h2:b=false->B):if b=true then A else B:=by
 cases b with
 | true=>exact zh5 (h1 rfl)
 | false=>exact yl (h2 rfl)
theorem Same.new{o:HO}(h:H l=Option.none):Same H (upd H l o):=λb u e=>by rw[zh (zn e h)];exact e
theorem Same.newT{o:HO}(s:Same H H')(h:H' l=Option.none):Same H (upd H' l o):=s.trans (Same.new h)
theorem Same.put{o:HO}(s:Same H H')(h:H l=Option.none):Same H (upd H' l o):=λb u e=>by rw[zh (zn e h)];exact s b u e
theorem Same.seqT(e:Same H H')(h:SqT K H a xs):SqT K H' a xs:=by
 rcases h with(h | ⟨o,h⟩) | h
 ·exact .inl (.inl (e _ _ h))
 ·exact .inl (.inr ⟨o,e _ _ h⟩)
 ·exact .inr h
theorem SqL.new:SqL K (upd H l (.lst xs)) l xs:=SqL.of zd
theorem SqT.new:SqT K (upd H l (.tup xs)) l xs:=SqT.of zd
theorem zhG{i:Int}{v:V}(h0:0<=i)(h:xs[i.toNat]? = some v):atI xs i=some v:=by
 have:=zN h
 rwa [Int.toNat_of_nonneg h0]at this
variable {ns:List Int}{i:Nat}
theorem wR(h:i<ns.length):(ns.map V.int)[i]? = some (.int (ns.getD i 0)):=by
 rw[getElem?_map,getElem?_eq_getElem h,getD_eq_getElem?_getD,getElem?_eq_getElem h];rfl
theorem zc6{i:Int}(h0:0<=i)(h:i<ns.length):atI (ns.map V.int) i=some (.int (ns.getD i.toNat 0)):=zhG h0 (wR (by omega))
theorem zA(ns:List Int):(ns.map V.int).all zae=true:=by
 rw[all_map];exact List.all_eq_true.mpr λ_ _=>rfl
theorem zac(ns:List Int)(c:Int):ixV (ns.map V.int) (.int c)=ns.idxOf c:=by
 unfold ixV
 induction ns with
 | nil=>rfl
 | cons a ns ih =>
   rw[map_cons,findIdx_cons,List.idxOf_cons,ih];rfl
theorem zhq(ns:List Int)(c:Int):inV (.int c) (ns.map V.int)=decide (c∈ns):=by
 unfold inV
 induction ns with
 | nil=>rfl
 | cons a ns ih =>
   rw[map_cons,any_cons,ih];show((a==c) || _)=_;by_cases h:a=c
   ·subst h;simp
   ·have:¬c=a:=λe=>h e.symm;simp[h,this]
theorem zfJ{k:Int}(h:0<=k):zf4 xs (some k) none=xs.drop k.toNat:=by
 obtain⟨n,rfl⟩:=Int.eq_ofNat_of_zero_le h;unfold zf4;rw[HT.sIx_none];show(xs.drop (HT.sIx xs.length 0 (some ((n:Nat):Int)))).take _=_;rw[HT.sIx_nat,Int.toNat_natCast];by_cases h:n<=xs.length
 ·rw[Nat.min_eq_left h,take_of_length_le (by rw[length_drop];exact le_refl _)]
 ·rw[Nat.min_eq_right (by omega),drop_of_length_le (le_refl _),drop_of_length_le (by omega),take_nil]
theorem zfF{k:Int}(h:0<=k):zf4 xs none (some k)=xs.take k.toNat:=by
 obtain⟨n,rfl⟩:=Int.eq_ofNat_of_zero_le h;unfold zf4;rw[HT.sIx_none,List.drop_zero];show xs.take (HT.sIx xs.length xs.length (some ((n:Nat):Int))-0)=_;rw[HT.sIx_nat,Int.toNat_natCast,Nat.sub_zero];by_cases h:n<=xs.length
 ·rw[Nat.min_eq_left h]
 ·rw[Nat.min_eq_right (by omega),take_of_length_le (le_refl _),take_of_length_le (by omega)]
theorem zeM{k:Int}(h:0<=k):zf4 (ns.map V.int) (some k) none=(ns.drop k.toNat).map V.int:=by rw[zfJ h,map_drop]
theorem zgh{k:Int}(h:0<=k):zf4 (ns.map V.int) none (some k)=(ns.take k.toNat).map V.int:=by rw[zfF h,map_take]
theorem zt:1000000<=sizeLine:=by decide
theorem seqIx_ok{i:Int}(h0:0<=i)(h1:i<n):seqIndex? i n=some i.toNat:=by
 have e:(if i<0 then i+(n:Int)else i)=i:=if_neg (by omega);unfold seqIndex?;simp only[e];rw[if_pos (by simp only[Bool.and_eq_true,decide_eq_true_eq];exact⟨h0,h1⟩)]
theorem zik{α β:Type}(f:α->β):∀(l:List α)(i:Nat),(l.map f).eraseIdx i=(l.eraseIdx i).map f
 | [],_=>rfl
 | _::_,0=>rfl
 | a::l,i+1=>by
   show f a::(l.map f).eraseIdx i=f a::(l.eraseIdx i).map f;rw[zik f l i]
theorem zhJ{α:Type}:∀(l:List α)(i:Nat)(h:i<l.length),(l[i]::l.eraseIdx i).Perm l
 | a::l,0,_=>List.Perm.refl _
 | a::l,i+1,h=>(List.Perm.swap a (l[i]'(by simpa using h)) (l.eraseIdx i)).trans ((zhJ l i (by simpa using h)).cons a)
theorem yE(hi:i<ns.length):ns.take (i+1)=ns.take i++[ns.getD i 0]:=by
 rw[take_succ,getElem?_eq_getElem hi,getD_eq_getElem?_getD,getElem?_eq_getElem hi];rfl
theorem yF{x:V}(hx:(ns.map V.int)[i]? = some x):i<ns.length/\x=.int (ns.getD i 0):=by
 have hi:i<ns.length:=by have:=(List.getElem?_eq_some_iff.mp hx).1;rwa [length_map]at this
 refine⟨hi,?_⟩;rw[wR hi]at hx;exact(Option.some.inj hx).symm
theorem zeH(hi:i<ns.length):ns.getD i 0=ns[i]:=by rw[getD_eq_getElem?_getD,getElem?_eq_getElem hi];rfl
theorem wN(hi:i<ns.length):ns.getD i 0∈ns:=by rw[zeH hi];exact getElem_mem hi
theorem app_ints(ns:List Int)(x:Int):ns.map V.int++[V.int x]=(ns++[x]).map V.int:=by rw[map_append];rfl
theorem lst_app(ns:List Int)(x:Int):upd H l (.lst (ns.map V.int++[V.int x])) l=some (.lst ((ns++[x]).map V.int)):=zd.trans (congrArg (λl=>some (HO.lst l)) (app_ints ns x))
def eqL:List V->List V->Bool
 | [],[]=>true
 | x::xs,y::ys=>eqV x y && eqL xs ys
 | _,_=>false
def eqAtJ(xs ys:List V)(j:Nat):Bool:=match xs[j]?,ys[j]? with
 | some x,some y=>eqV x y
 | _,_=>false
theorem zgc:∀{xs ys:List V},xs.length=ys.length->(List.range xs.length).all (eqAtJ xs ys)=eqL xs ys
 | [],[],_=>rfl
 | x::xs,y::ys,h=>by
   have h':xs.length=ys.length:=by simpa using h
   show(List.range (xs.length+1)).all _=(eqV x y && eqL xs ys);rw[range_succ_eq_map,all_cons,all_map,<-zgc h'];rfl
theorem zju:∀{xs ys:List V},xs.length≠ys.length->eqL xs ys=false
 | [],[],h=>absurd rfl h
 | [],_::_,_=>rfl
 | _::_,[],_=>rfl
 | x::xs,y::ys,h=>by
   show(eqV x y && eqL xs ys)=false;rw[zju (λe=>h (by simp[e])),Bool.and_false]
theorem yH:∀(ns ms:List Int),eqL (ns.map V.int) (ms.map V.int)=decide (ns=ms)
 | [],[]=>rfl
 | [],_::_=>rfl
 | _::_,[]=>rfl
 | a::ns,b::ms=>by
   show((a==b) && eqL (ns.map V.int) (ms.map V.int))=_;rw[yH ns ms];by_cases h:a=b
   ·subst h;simp
   ·simp[h]
theorem eqAt_j{A:Around}{ys:List V}{us vs:List Value}(ru:Vals xs us)(rv:Vals ys vs)(fx:xs.all zae=true)(fy:ys.all zae=true):
 ∀j (h1:j<us.toArray.size) (h2:j<vs.toArray.size),SeqAt.EqAt A s us.toArray[j] vs.toArray[j] (eqAtJ xs ys j):=λj h1 h2=>by
 have l1:=ru.length;have l2:=rv.length;have h1':j<us.length:=by simpa using h1
 have h2':j<vs.length:=by simpa using h2
 obtain⟨u,eu,r1⟩:=ru.get (i:=j) (x:=xs[j]) (getElem?_eq_getElem (by omega));obtain⟨v,ev,r2⟩:=rv.get (i:=j) (x:=ys[j]) (getElem?_eq_getElem (by omega));have e1:us.toArray[j]=u:=by rw[getElem_toArray];rw[getElem?_eq_getElem h1']at eu;exact Option.some.inj eu
 have e2:vs.toArray[j]=v:=by rw[getElem_toArray];rw[getElem?_eq_getElem h2']at ev;exact Option.some.inj ev
 rw[e1,e2];have ej:eqAtJ xs ys j=eqV xs[j] ys[j]:=by unfold eqAtJ;rw[getElem?_eq_getElem (by omega),getElem?_eq_getElem (by omega)]
 rw[ej];exact eqAt_V r1 r2 (List.all_eq_true.mp fx _ (getElem_mem _)) (List.all_eq_true.mp fy _ (getElem_mem _))
section
variable {X:Cx}
inductive IREqL (K:Frag) (x y:V) (H:Hp) (Q:VK):Prop
 | mk (a:_) (b:_) (xs:_) (ys:_):x=.ref a->y=.ref b->SqL K H a xs->SqL K H b ys->xs.all zae=true->ys.all zae=true->Q (.bl (eqL xs ys)) H->IREqL K x y H Q
def rEqL(K:Frag):R2:=λx y H Q=>IREqL K x y H Q
theorem zht(hu:X.A.units<cLine):OpR X (compareOp .Eq) (rEqL X.K):=by
 intro pins s σ H x y v u Q I rx ry h;obtain⟨a,b,xs,ys,rfl,rfl,ha,hb,fx,fy,q⟩:=h;cases rx;cases ry;obtain⟨its,r1,p1,z1⟩:=I.list ha;obtain⟨its2,r2,p2,z2⟩:=I.list hb;have l1:=r1.length;have l2:=r2.length;by_cases hl:xs.length=ys.length
 ·refine SeqAt.eq_listAt p1.isList p2.isList (by simp;omega) hu (eqAt_j r1 r2 fx fy) ⟨.bl (eqL xs ys),H,I,?_,q⟩;rw[size_toArray,<-l1,zgc hl];rfl
 ·refine SeqAt.eq_list_lengthsAt p1.isList p2.isList (by simp;omega) hu ⟨.bl (eqL xs ys),H,I,?_,q⟩;rw[zju hl];rfl
theorem zjq{ns:List Int}:∀{us:List Value},IntsAre us ns->Vals (ns.map V.int) us:=by
 intro us h
 induction h with
 | nil=>exact .nil
 | cons n t _ ih=>exact .cons ⟨t,rfl⟩ ih
inductive ICall_sorted (K:Frag) (xs:List V) (H:Hp) (Q:VK):Prop
 | mk (a:Addr) (ns:List Int):xs=[.ref a]->SqL K H a (ns.map V.int)->ns.length<64->(∀(l:Addr)(ms:List Int),H l=none->ms.Perm ns->ms.Pairwise (·<= ·)->Q (.ref l) (upd H l (.lst (ms.map V.int))))->ICall_sorted K xs H Q
theorem zek:zak X (.builtin "sorted") (ICall_sorted X.K):=by
 intro pins s σ H xs us Q I r h;obtain⟨a,ns,rfl,hS,hz,q⟩:=h;obtain⟨u,rfl,ru⟩:=r.one;cases ru;obtain⟨its,r1,p1,z1⟩:=I.list hS;have l1:=r1.length;rw[length_map]at l1;refine sorted_ints p1.isList (zaC r1) (by omega) λout ns' hI hp hw=>?_;obtain⟨e,he⟩:=sortedAll_at s.heap its out;have hf:H (s.heap.objs.size+1)=none:=I.hok.fresh (le_succ _);have hv:=zjq hI;have hlen:ns'.length<64:=by rw[hp.length_eq];exact hz
 refine⟨.ref (s.heap.objs.size+1),upd H (s.heap.objs.size+1) (.lst (ns'.map V.int)),I.laid (t':=s.toks) (λb o e=>sortedAll_old e) (le_succ _) ⟨?_,out.toList,e,hv,?_⟩,rfl,q _ ns' hf hp hw⟩
 ·rw[length_map];have:=zt;omega
 ·exact he
theorem bools_at{bs:List Bool}{us:List Value}(r:Vals (bs.map V.bl) us){i:Nat}{v:Value}(h:us[i]? = some v):v=.bool (bs.getD i false):=by
 have hl:=r.length;rw[length_map]at hl;have hi:i<bs.length:=by rw[hl];exact(List.getElem?_eq_some_iff.mp h).1
 obtain⟨u,e,ru⟩:=r.get (i:=i) (x:=.bl bs[i]) (by rw[getElem?_map,getElem?_eq_getElem hi];rfl);rw[e]at h;cases h;rw[getD_eq_getElem?_getD,getElem?_eq_getElem hi];exact ru
theorem range_all(bs:List Bool):(List.range bs.length).all (λi=>bs.getD i false)=bs.all id:=by
 induction bs with
 | nil=>rfl
 | cons b bs ih =>
   rw[length_cons,range_succ_eq_map,all_cons,all_map,all_cons,<-ih];rfl
inductive ICall_all (K:Frag) (xs:List V) (H:Hp) (Q:VK):Prop
 | mk (a:Addr) (bs:List Bool):xs=[.ref a]->SqL K H a (bs.map V.bl)->Q (.bl (bs.all id)) H->ICall_all K xs H Q
theorem zhw(hc:X.calm=true):zak X (.builtin "all") (ICall_all X.K):=by
 intro pins s σ H xs us Q I r h;obtain⟨a,bs,rfl,hS,q⟩:=h;obtain⟨u,rfl,ru⟩:=r.one;cases ru;obtain⟨its,r1,p1,z1⟩:=I.list hS;have l1:=r1.length;rw[length_map]at l1;have hlt:a<s.heap.objs.size:=by obtain⟨o,n,e,_⟩:=p1;exact lt_size e
 refine call_all_walk (wpAny_pyIter_list p1.isList ?_);have I1:Inv X pins σ H { s with heap:=s.heap.push { cls:=.type "list_iterator",data:=.fields #[.ref a,.int 0 0] } }:=I.kept (t':=s.toks) λb o e=>get?_push_of_some _ e;refine⟨s.heap.objs.size,_,_,its.toArray.size,_,_,λi=>bs.getD i false,rfl,Walks.list (by simpa using I.ok.hd hc) s.heap.objs.size a (ne_of_lt hlt) its.toArray,⟨⟨_,get?_push_size _ rfl,rfl,rfl⟩,p1.isList.push _⟩,?_,λh' tk hk=>?_⟩
 ·intro i v s' Q' E' hP hQ;have:=bools_at r1 (i:=i) (v:=v) (by simpa using hP);subst this;exact wpAny_truthy_bool hQ
 ·have f:=I.fpOk (H':=H) (le_refl _) (I.hok.fresh (le_refl _));refine⟨.bl (bs.all id),H,I1.turned (it:=s.heap.objs.size) (λb o hb e=>hk b o (by simpa using hb) e) f.1 f.2.1 f.2.2.2.1 f.2.2.2.2.1 f.2.2.2.2.2,?_,q⟩;rw[size_toArray,<-l1,range_all];rfl
theorem zjb(hc:X.calm=true):zak X (.type "set") (λxs H Q=>∃(a:Addr)(ns:List Int),xs=[.ref a]/\SqL X.K H a (ns.map V.int)/\ns.length<4000 /\
 ∀l,H l=none->Q (.ref l) (upd H l (.set (λk=>(firstMet (λi=>ns.getD i 0) ns.length).any (·== k)) (firstMet (λi=>ns.getD i 0) ns.length).length))):=by
 intro pins s σ H xs us Q I r h;obtain⟨a,ns,rfl,hS,hz,q⟩:=h;obtain⟨u,rfl,ru⟩:=r.one;cases ru;obtain⟨its,r1,p1,z1⟩:=I.list hS;have l1:=r1.length;rw[length_map]at l1;have hsb:scanBound=4096:=rfl;refine call_set_list (ns:=ns) (I.ok.hd hc) p1.isList (by simpa using zaC r1) (by rw[size_toArray];omega) λh' tk hset hk=>?_;have esz:its.toArray.size=ns.length:=by rw[size_toArray];omega
 rw[esz]at hset;refine⟨.ref s.heap.objs.size,_,I.laid (t':=tk) (o:=.set _ _) (λb o e=>hk b o (lt_size e) e) (le_refl _) hset,rfl,q _ (I.hok.fresh (le_refl _))⟩
theorem call_len_set:zak X (.builtin "len") (λxs H Q=>∃a S n,xs=[.ref a]/\H a=some (.set S n)/\Q (.int n) H):=by
 intro pins s σ H xs us Q I r h;obtain⟨a,S,n,rfl,hS,q⟩:=h;obtain⟨u,rfl,ru⟩:=r.one;cases ru;obtain⟨o,es,ep,t,ho,hex,hd,_,_,hsz,hf,hn⟩:=I.hok a _ hS;have hsb:scanBound=4096:=rfl;refine PySem.call_len_set ho hex hd hf (by omega) ⟨.int n,H,I.tok _,⟨s.toks+1,?_⟩,q⟩;rw[hn]
end
theorem zh0(ns:List Int):firstMet (λi=>ns.getD i 0) ns.length=ns.foldl step_dedup []:=by
 unfold firstMet;congr 1;refine ext_getElem (by simp) λi h1 h2=>?_;rw[getElem_map,getElem_range,getD_eq_getElem?_getD,getElem?_eq_getElem h2];rfl
theorem dedup_le(acc ns:List Int):(ns.foldl step_dedup acc).length<=acc.length+ns.length:=by
 induction ns generalizing acc with
 | nil=>exact le_refl _
 | cons a ns ih =>
   rw[foldl_cons];refine le_trans (ih _) ?_;rw[step_length,length_cons];split <;> omega
theorem dedup_full(acc ns:List Int)(hacc:acc.Nodup):(ns.foldl step_dedup acc).length=acc.length+ns.length↔(acc++ns).Nodup:=by
 induction ns generalizing acc with
 | nil=>simpa using hacc
 | cons a ns ih =>
   rw[foldl_cons];by_cases h:acc.any (·== a)=true
   ·have e:step_dedup acc a=acc:=by unfold step_dedup;rw[if_pos h]
    rw[e];have hm:a∈acc:=by
     obtain⟨x,hx,hb⟩:=List.any_eq_true.mp h;have:x=a:=by simpa using hb
     rw[<-this];exact hx
    constructor
    ·intro q;have:=dedup_le acc ns;rw[length_cons]at q;omega
    ·intro q;rw[nodup_append]at q;exact absurd rfl (q.2.2 a hm a mem_cons_self)
   ·have e:step_dedup acc a=acc++[a]:=by unfold step_dedup;rw[if_neg h]
    have hm:a∉acc:=λhm=>h (List.any_eq_true.mpr ⟨a,hm,by simp⟩);have hn:(acc++[a]).Nodup:=by
     rw[nodup_append];exact⟨hacc,by simp,λx hx y hy z=>hm (by rw[List.mem_singleton.mp hy]at z;rw[<-z];exact hx)⟩
    rw[e];have:=ih (acc++[a]) hn;rw[append_assoc,List.singleton_append]at this;rw[<-this,length_append,length_singleton,length_cons];omega
theorem zkz(ns:List Int):(firstMet (λi=>ns.getD i 0) ns.length).length=ns.length↔ns.Nodup:=by
 rw[zh0];have:=dedup_full [] ns List.nodup_nil
 simpa using this
inductive ITMid (t:TS) (D:Ends) (σ:St) (H:Hp):Prop
 | mk (P:St->Hp->Prop):t { D with nx:=P } σ H->(∀σ' H',P σ' H'->D.nx σ' H')->ITMid t D σ H
def tMid(t:TS):TS:=λD σ H=>ITMid t D σ H
theorem zcK{t:TS}(h:PS X st t):PS X st (tMid t):=by
 intro pins s σ H D I hw;obtain⟨P,h1,h2⟩:=hw;refine thn (h pins s σ H _ I h1) λf s' q=>?_;cases f with
 | next=>obtain⟨σ',H',I',q⟩:=q;exact⟨σ',H',I',h2 _ _ q⟩
 | brk=>exact q
 | cont=>exact q
 | ret u=>exact q
structure Fly (P:Program) (w:World) (outer:List Env) (H:Hp) (s:Shared) (x:Addr) (cls:Value) (H':Hp) (s':Shared):Prop where
 os:s'.os=s.os
 bare:AllBare s'.gens
 ex:∃B a0,Heap.FlyingW B outer x cls a0 s'.heap/\HOk P w H' B/\(∀b o,s.heap.get? b=some o->H b=none->b∉frs outer->B.get? b=some o)/\∀b o,s.heap.get? b=some o->b∉frs outer->∃o',B.get? b=some o'
 slot:∀b o,s.heap.get? b=some o->H b=none->b∈frs outer->∃sl,s'.heap.get? b=some { o with slots:=sl }
 free:∀b o,s.heap.get? b=some o->H b=none->H' b=none
 tups:∀b xs,H b=some (.tup xs)->H' b=some (.tup xs)
 frzs:∀b o u,H b=some (.frz o u)->H' b=some (.frz o u)
 tbls:∀b ps,H b=some (.tbl ps)->∃more,H' b=some (.tbl (ps++more))
 new:H' x=none
def CX1(P:Program)(w:World):CXT:=λouter H s E e s'=>∃x cls H',e=.ref x/\Fly P w outer H s x cls H' s'/\E cls none H'
section
variable {P:Program}{w:World}{outer:List Env}{H H':Hp}{s s':Shared}{x:Addr}{cls:Value}
theorem ObjOk.obj{H:Hp}{h:Heap}{a:Addr}{o:HO}(x:ObjOk P w H h a o):∃ob,h.get? a=some ob:=by
 cases o with
 | lst xs=>obtain⟨_,_,_,_,e⟩:=x;exact⟨_,e⟩
 | tup xs=>obtain⟨_,_,_,ob,e,_⟩:=x;exact⟨ob,e⟩
 | dK kvs=>obtain⟨_,_,_,_,o,_,_,e,_⟩:=x;exact⟨o,e⟩
 | dT kvs=>obtain⟨_,_,_,_,o,_,_,e,_⟩:=x;exact⟨o,e⟩
 | set S n=>obtain⟨o,_,_,_,e,_⟩:=x;exact⟨o,e⟩
 | ins C dx fs=>obtain⟨_,_,_,e,_⟩:=x;exact⟨_,e⟩
 | own y=>obtain⟨o,e⟩:=x;exact⟨o,e⟩
 | xd fs=>obtain⟨_,⟨o,_,_,e,_⟩,_⟩:=x;exact⟨o,e⟩
 | rng lo hi=>obtain⟨_,_,_,e⟩:=x;exact⟨_,e⟩
 | frz ob u=>obtain⟨e,_⟩:=x;exact⟨_,e⟩
 | tbl ps=>exact⟨_,(show h.get? a=some _ from x)⟩
 | met f y=>exact⟨_,(show h.get? a=some _ from x)⟩
 | ext φ=>obtain⟨_,⟨o,e⟩,_⟩:=x;exact⟨o,e⟩
end
section
variable {X:Cx}{pins:List (Addr×Obj)}{σ:St}{H H':Hp}{s s':Shared}{x:Addr}{cls:Value}
def zbQ(h:Heap)(l:List Env):Heap:=hideAll h (frs l)
theorem zc1{h:Heap}{l:List Env}{b:Addr}{o:Obj}(e:h.get? b=some o)(n:b∉frs l):(zbQ h l).get? b=some o:=hideAll_get _ e n
theorem zi2{h:Heap}{l:List Env}{b:Addr}{o:Obj}(e:(zbQ h l).get? b=some o):h.get? b=some o:=of_hideAll _ e
theorem Inv.frameOk(I:Inv X pins σ H s):HOk X.prog X.w H (zbQ s.heap X.stack):=λa o e =>
 (I.hok a o e).stay (λb u hb q=>zc1 q λz=>by
   have n:=I.stkFree b z;rcases hb with hb | hb
   ·rw[hb,e]at n;cases n
   ·rw[n]at hb;cases hb) (λ_ q=>q) λ_ _ q=>q
end
abbrev XW:=St->Value->Hp->Prop
def Fl(X:Cx)(W:XW):Prop:=∀(pins:List (Addr×Obj)) (σ:St) (H:Hp) (s:Shared) (x:Addr) (cls:Value) (H':Hp) (s':Shared),Inv X pins σ H s->Fly X.prog X.w X.stack H s x cls H' s'->W σ cls H'->X.xe (.ref x) s'
def Md(X:Cx)(W:XW):Prop:=∀(pins:List (Addr×Obj)) (σ:St) (H:Hp) (s:Shared) (x:Addr) (cls:Value) (args:List Value) (h':Heap),Inv X pins σ H s->Heap.MadeExcOf s.heap h' x cls args->W σ cls H->X.xe (.ref x) { s with heap:=h' }
section
variable {P:Program}{w:World}{K:Frag}{mg:Str->Option Value}{base:Heap}{N:List Str}{qual:Str}{scope:Scope}{f:Addr}{cd:Value}{A:Around}{outer:List Env}{s0:Shared}{H0:Hp}{E:XK}
theorem fly_def:Fl (zb5 (CX1 P w) P w K mg base N qual scope f cd A outer s0 H0 E) λ_ cls H'=>E cls none H':=by
 intro pins σ H s x cls H' s' I fl hE;obtain⟨B,a0,hfl,hB,k1,k2⟩:=fl.ex;have hst:frs (envOfC qual scope s0.heap.objs.size f cd::outer)=s0.heap.objs.size::frs outer:=rfl;have old:∀b o,s0.heap.get? b=some o->b∉frs outer->b∉frs (envOfC qual scope s0.heap.objs.size f cd::outer):=λb o e hb=>by
  rw[hst];exact λz=>(List.mem_cons.mp z).elim (λq=>absurd (lt_size e) (by rw[q];exact lt_irrefl _)) hb
 refine wpAny_leaves_onW (base:=B) (L:=s0.heap.objs.size) I.ok.frames rfl hfl λh2 hfl2 up=>?_;refine⟨x,cls,H',rfl,⟨fl.os.trans I.os,fl.bare,⟨B,a0,hfl2,hB,λb o e n hb=>?_,λb o e hb=>?_⟩,λb o e n hb=>?_,λb o e n=>?_,λb xs e=>fl.tups b xs (I.base.tups b xs e),λb o u e=>fl.frzs b o u (I.base.frzs b o u e),λb ps e=>?_,fl.new⟩,hE⟩
 ·exact k1 b o (I.base.keep b o e n hb (by simp[zb5])) (I.base.free b o e n (by simp[zb5])) (old b o e hb)
 ·obtain⟨o1,e1⟩:=I.base.there b o e (by simp[zb5]);exact k2 b o1 e1 (old b o e hb)
 ·obtain⟨sl,e1⟩:=I.base.slot b o e n hb (by simp[zb5]);obtain⟨sl2,e2⟩:=fl.slot b _ e1 (I.base.free b o e n (by simp[zb5])) (mem_cons_of_mem _ hb);obtain⟨_,o',e',d⟩:=I.ok.funs.mem hb;have eo:o'=o:=by
   have e'':s0.heap.get? b=some o':=e';rw[e]at e'';exact(Option.some.inj e'').symm
  subst eo;obtain⟨sl3,e3⟩:=up b _ e2 d;exact⟨sl3,e3⟩
 ·obtain⟨o1,e1⟩:=I.base.there b o e (by simp[zb5]);exact fl.free b o1 e1 (I.base.free b o e n (by simp[zb5]))
 ·obtain⟨m1,e1⟩:=I.base.tbls b ps e;obtain⟨m2,e2⟩:=fl.tbls b _ e1;exact⟨m1++m2,by rw[e2,Array.append_assoc]⟩
theorem md_def:Md (zb5 (CX1 P w) P w K mg base N qual scope f cd A outer s0 H0 E) λ_ cls H'=>E cls none H':=by
 intro pins σ H s x cls args h' I mk hE;have hst:frs (envOfC qual scope s0.heap.objs.size f cd::outer)=s0.heap.objs.size::frs outer:=rfl;have old:∀b o,s0.heap.get? b=some o->b∉frs outer->b∉frs (envOfC qual scope s0.heap.objs.size f cd::outer):=λb o e hb=>by
  rw[hst];exact λz=>(List.mem_cons.mp z).elim (λq=>absurd (lt_size e) (by rw[q];exact lt_irrefl _)) hb
 have hl:s.heap.FunFrames (zbQ s.heap (envOfC qual scope s0.heap.objs.size f cd::outer)) (envOfC qual scope s0.heap.objs.size f cd::outer) :=
  PySem.W.funFrames_hide I.stack λenv he b hb=>List.mem_filterMap.mpr ⟨env,he,hb⟩
 have hB:HOk P w H (zbQ s.heap (envOfC qual scope s0.heap.objs.size f cd::outer)):=I.frameOk;have hx:H x=none:=by
  cases q:H x with
  | none=>rfl
  | some o =>
    obtain⟨o',e⟩:=(I.hok x o q).obj;rw[mk.new]at e;cases e
 refine wpAny_leaves_madeW (L:=s0.heap.objs.size) (h:=s.heap) (base:=zbQ s.heap (envOfC qual scope s0.heap.objs.size f cd::outer)) I.ok.frames rfl (λb o e=>zi2 e) hl mk λh2 t hfl2 _ _ up=>?_;refine⟨x,cls,H,rfl,⟨I.os,I.bare,⟨_,_,hfl2,hB,λb o e n hb=>?_,λb o e hb=>?_⟩,λb o e n hb=>?_,λb o e n=>I.base.free b o e n (by simp[zb5]),I.base.tups,I.base.frzs,I.base.tbls,hx⟩,hE⟩
 ·exact zc1 (I.base.keep b o e n hb (by simp[zb5])) (old b o e hb)
 ·obtain⟨o1,e1⟩:=I.base.there b o e (by simp[zb5]);exact⟨o1,zc1 e1 (old b o e hb)⟩
 ·obtain⟨sl,e1⟩:=I.base.slot b o e n hb (by simp[zb5]);obtain⟨_,o',e',d⟩:=I.ok.funs.mem hb;have eo:o'=o:=by
   have e'':s0.heap.get? b=some o':=e';rw[e]at e'';exact(Option.some.inj e'').symm
  subst eo;obtain⟨sl3,e3⟩:=up b _ (mk.keeps _ _ e1) d;exact⟨sl3,e3⟩
end
abbrev TJ:=St->Hp->Str->(Str->Hp->Prop)->Prop
def PJ(X:Cx)(es:List Expr)(t:TJ):Prop :=
 ∀(pins:List (Addr×Obj)) (s:Shared) (σ:St) (H:Hp) (acc:Str) (Q:Str->Hp->Prop),Inv X pins σ H s->t σ H acc Q ->
  wpAny (model X.prog X.w) X.A (joinParts acc (evalEach es X.env)) (EP X pins σ λv H'=>∃y,v=.str y/\Q y H') X.xe s
def jNil:TJ:=λ_ H acc Q=>acc.length<=sizeLine/\Q acc H
def jCons(te:TE)(t:TJ):TJ:=λσ H acc Q=>te σ H λx H1=>∃y,x=.str y/\(acc++y).length<=sizeLine/\t σ H1 (acc++y) Q
def tFmt(te:TE):TE:=λσ H Q=>te σ H λx H1=>(∃i,x=.int i/\i.natAbs.log2<1920/\Q (.str (toString i)) H1)\/(∃y,x=.str y/\y.length<=sizeLine/\Q (.str y) H1)
def tJoin(t:TJ):TE:=λσ H Q=>t σ H Str.empty λy H1=>Q (.str y) H1
section
variable {X:Cx}{e v1 v2:Expr}{es:List Expr}{te:TE}{t:TJ}{pos:Pos}
theorem pj_nil:PJ X [] jNil:=λpins s σ H acc Q I h=>joinParts_nil ⟨.str acc,H,I.tok _,⟨_,rfl⟩,acc,rfl,h.2⟩ h.1
theorem zeL(he:PE X e te)(hr:PJ X es t):PJ X (e::es) (jCons te t):=by
 intro pins s σ H acc Q I h;show wpAny _ _ (joinParts acc (eval e X.env::evalEach es X.env)) _ _ s;refine joinParts_cons (thn (he pins s σ H _ I h) λu s1 ⟨x,H1,I1,r1,y,ey,hz,q⟩=>?_);subst ey;obtain⟨t',rfl⟩:=r1;exact⟨hz,hr pins s1 σ H1 _ Q I1 q⟩
theorem zkX(he:PE X e te):PE X (.FormattedValue e (-1) none pos) (tFmt te):=by
 intro pins s σ H Q I h;refine FormattedValue_plain (thn (he pins s σ H _ I h) λu s1 ⟨x,H1,I1,r1,q⟩=>?_);rcases q with⟨i,ex,hd,q⟩|⟨y,ex,hz,q⟩
 ·subst ex;obtain⟨t',rfl⟩:=r1;exact formatField_int_small hd ⟨.str (toString i),H1,I1.tok _,⟨_,rfl⟩,q⟩
 ·subst ex;obtain⟨t',rfl⟩:=r1;exact formatField_str (λt2 tk=>⟨.str y,H1,I1.tok _,⟨_,rfl⟩,q⟩) hz
theorem pe_fstr{zfe:List Expr}(h:PJ X (v1::v2::zfe) t):PE X (.JoinedStr (v1::v2::zfe) pos) (tJoin t):=by
 intro pins s σ H Q I q;exact JoinedStr_many (thn (h pins s σ H Str.empty _ I q) λu s1 ⟨x,H1,I1,r1,y,ey,q1⟩=>⟨x,H1,I1,r1,by subst ey;exact q1⟩)
end
theorem ziT{a b:Nat}(hx:x.length<=a)(hy:y.length<=b):(x++y).length<=a+b:=by rw[strLen_append];omega
def bmV:List Value:=[.type "ValueError",.type "Exception",.type "BaseException",.type "object"]
abbrev ExC(K:Frag)(C:Addr):Prop:=excIn K C bmV "ValueError.__new__"=true
def subIn(K:Frag)(C D:Addr):Bool:=match K.lookup C with
 | some ⟨_,_,.cls cd,_⟩=>cd.mro.contains (.ref D)
 | _=>false
variable {C:Addr}
theorem exc_obj{h:Heap}(hk:K.In h)(q:ExC K C):∃tl N nm qn bs hd sn sb ab cl dd a0 a1 a2 a3 a5 mN,
 h.get? C=some (excClassObj nm qn C N bs tl hd sn sb ab cl dd a0 a1 a2 a3 a5 "ValueError.__new__")/\h.Ns N mN/\mN "__init__"=none/\OwnTail h bmV tl/\∀D,(Value.ref C::tl).contains (.ref D)=subIn K C D:=by
 unfold ExC excIn at q;split at q
 next dd cd sl ho =>
  split at q
  next C' tl a0 a1 a2 a3 n a5 em es =>
   simp only[Bool.and_eq_true,beq_iff_eq,Bool.not_eq_true']at q;obtain⟨⟨⟨⟨⟨z1,z2⟩,z3⟩,z4⟩,z5⟩,z6⟩:=q;subst z1 z2;have sb:∀D,(Value.ref C'::tl).contains (.ref D)=subIn K C' D:=λD=>by unfold subIn;rw[ho];show _=cd.mro.contains _;rw[em]
   obtain⟨nm,bs,mro,ns,qn,hd,sn,sub,ab,cl,del⟩:=cd;dsimp only at em z3 z5 z6;subst em z3;obtain⟨l⟩:=sl;have es':l=[a0,a1,a2,a3,some (.builtin "ValueError.__new__"),a5]:=es;subst es';exact⟨tl,ns,nm,qn,bs,hd,sn,sub,ab,cl,dd,a0,a1,a2,a3,a5,_,hk _ _ ho,.of_isNs (PySem.W.isNs_of_in hk z5),PySem.W.nsMap_none_of_in hk z5 z6,PySem.W.tail_of_in hk z4,sb⟩
  next=>cases q
 next=>cases q
section
variable {X:Cx}
def tRaise(C:Addr)(W:XW)(ta:TA):TS:=λ_ σ H=>ta σ H λvs H1=>vs.length<=sizeLine/\W σ (.ref C) H1
theorem wJ{x:Str}{C:Addr}{W:XW}{np cpos pos:Pos}{e:Expr}{es:List Expr}{ta:TA}(hc:X.calm=true)(md:Md X W)(hg:Gl X x)(hm:X.mg x=some (.ref C))(hx:ExC X.K C)(ha:PA X (e::es) ta)
 (hdb:(x==("__debug__":Str))=false:=by decide) (he:starEach (e::es) X.env=(false,eval e X.env)::starEach es X.env:=by rfl) (hpl:(backTo cpos (starEach es X.env)).any (·.1)=false:=by rfl) :
 PS X (.Raise (some (.Call (.Name x np) (e::es) [] cpos)) none pos) (tRaise C W ta):=by
 intro pins s σ H D I h;obtain⟨tl,N,nm,qn,bs,hd,sn,sb,ab,cl,dd,a0,a1,a2,a3,a5,mN,hC,hN,hni,T,_⟩:=exc_obj I.mod.kin hx;refine wpAny_Raise_call_subT (C:=C) (bm:=tl) (nm:=nm) (q:=qn) (N:=N) (bs:=bs) (hdct:=hd) (sn:=sn) (sub:=sb) (ab:=ab) (col:=cl) (dd:=dd) (k0:=a0) (k1:=a1) (k2:=a2) (k3:=a3) (k5:=a5) PySem.F.excBase_ValueError (mN:=mN) (T.hasType (by decide)) (I.ok.hd hc) (by rw[he];show(false || (backTo cpos (starEach es X.env)).any (·.1))=false;rw[hpl];rfl) hni (zfH I hg hm ⟨rfl,?_⟩ hdb);have hA:=ha cpos pins s σ H _ I h;rw[he]at hA ⊢;refine Calls.evalArgs_plain (thn hA λus s1 ⟨vs,H1,I1,r1,hz,q⟩=>⟨rfl,by show us.length<=sizeLine;rw[<-r1.length];exact hz,I1.bk _ _ hC,hN.keeps I1.bk,T.keeps I1.bk,λh' x mk=>?_⟩);exact md pins σ H1 s1 x (.ref C) us h' I1 mk q
end
structure CanX (P:Program) (w:World) (K:Frag) (mg:Str->Option Value) (base:Heap) (k:Nat) (x:Str) (ps:List Str) (sp:Sp):Prop where
 ex:∃f fd,FnOk P w K mg base (CX1 P w) k f fd ps sp/\mg x=some (.ref f)/\keepIn K (.ref f)=true/\Binds K fd ps []
theorem CanX.of
 (F:Fun K x qual st f fd) (G:FnOk P w K mg base (CX1 P w) k f fd ps sp) (hm:mg x=some (.ref f)) (b:Binds K fd ps []):CanX P w K mg base k x ps sp:=⟨f,fd,G,hm,F.kp,b⟩
variable {N:List Str}
theorem Fun.okX(F:Fun K x qual st f fd)(S:FnScope N ps (zf st))(len:∀vs H Q E,sp vs H Q E->vs.length=ps.length)
 (hbody:∀(X:Cx)(W:XW)(cdv:Value)(A:Around)(outer:List Env)(s:Shared)(H:Hp)(vs:List V)(Q:VK)(E:XK),X=zb5 (CX1 P w) P w K mg base N qual (zf st) f cdv A outer s H E->W=(λ_ cls H'=>E cls none H')->Fl X W->Md X W->Room k X.A->sp vs H Q E ->
   ∃t,PSs X (wk st) t/\t { nx:=λ_ H'=>Q .non H',rt:=Q } (zbr N vs) H):FnOk P w K mg base (CX1 P w) (k+1) f fd ps sp:=by
 obtain⟨oc,od,kV,doc,pm,an,cdv,ct,osl,rfl,lk,hcd⟩:=F.ex;refine fn_of lk hcd S len λA outer s H vs Q E hr hsp=>?_;exact hbody _ _ cdv A outer s H vs Q E rfl rfl fly_def md_def hr hsp
def tCallX(W:XW)(sp:Sp)(t:TA):TE:=λσ H Q=>t σ H λvs H1=>sp vs H1 Q λcls _ H'=>W σ cls H'
section
variable {X:Cx}{k:Nat}{x:Str}{ps:List Str}{sp:Sp}{p pos:Pos}{e:Expr}{es:List Expr}{t:TA}{W:XW}
theorem ziL{pins:List (Addr×Obj)}{σ:St}{H:Hp}{s:Shared}{Q:VK}{us:List Value}{vs:List V}{f:Addr}{fd:FuncData}(F:FnOk X.prog X.w X.K X.mg X.base (CX1 X.prog X.w) k f fd ps sp)(hr:Room k X.A)(hb:Binds X.K fd ps [])(fl:Fl X W)
 (I:Inv X pins σ H s) (r:Vals vs us) (h:sp vs H Q λcls _ H'=>W σ cls H'):wpAny (model X.prog X.w) X.A (call (.ref f) us) (EP X pins σ Q) X.xe s:=by
 have hl:us.length=ps.length:=by rw[<-r.length];exact F.len _ _ _ _ h
 have hb':=hb s us I.kIn (by rw[append_nil];exact hl);rw[append_nil]at hb';refine wpAny_call (codeAny_mono (F.run X.A X.stack s H ⟨us,[]⟩ us vs Q _ hr I.env0 hb' r h) λr s' hq=>?_);cases r with
 | error e =>
   obtain⟨y,cls,H',rfl,fly,w⟩:=hq;exact fl pins σ H s y cls H' s' I fly w
 | ok fl' =>
   cases fl' with
   | ret u=>exact I.after hq
   | next=>exact False.elim hq
   | brk=>exact False.elim hq
   | cont=>exact False.elim hq
theorem pe_ownX(C:CanX X.prog X.w X.K X.mg X.base k x ps sp)(fl:Fl X W)(hr:Room k X.A)(hg:Gl X x)(ha:PA X (e::es) t)(hdb:(x==("__debug__":Str))=false:=by decide)(he:starEach (e::es) X.env=(false,eval e X.env)::starEach es X.env:=by rfl)
 (hpl:(backTo pos (starEach es X.env)).any (·.1)=false:=by rfl):PE X (.Call (.Name x p) (e::es) [] pos) (tCallX W sp t):=by
 obtain⟨f,fd,F,hm,hk,hb⟩:=C.ex;intro pins s σ H Q I h;refine wpAny_Call_Name_kw (zfH I hg hm ?_ hdb);refine callWith_K (h₀:=X.base) I.ok.mod.kin hk (thn (ha pos pins s σ H _ I h) λus s1 ⟨vs,H1,I1,r,q⟩=>⟨I1.kIn,?_⟩) he hpl;exact ziL F hr hb fl I1 r q
end
section
variable {X:Cx}{pins:List (Addr×Obj)}{σ:St}{H H':Hp}{s s':Shared}{x:Addr}{cls:Value}
end
section
variable {X:Cx}{x n:Str}{Dx:Addr}{np hpos:Pos}{b0:Stmt}{suite:List Stmt}{zfe:List ExceptHandler}{ts:TS}{tr:Value->TS}{i:Nat}
end
section
variable {X:Cx}
end
theorem zdX:Fl X λ_ _ _=>False:=λ_ _ _ _ _ _ _ _ _ _ h=>h.elim
abbrev zc3(K:Frag)(x:Str)(C:Addr):Prop:=nsIn K mainGlobals x=some (some (.ref C))
section
variable {X:Cx}{K:Frag}
theorem zcg(h:X.K=K):IxR X (rIxL K):=by subst h;exact zk
theorem mt_indexK(h:X.K=K):MtM X "list.index" (rIndex K):=by subst h;exact zem
theorem zh4(h:X.K=K):zak X (.builtin "len") (ICall_len_seq K):=by subst h;exact zfp
theorem pi_listK{tg l:Expr}{tl:TE}(h:X.K=K)(hl:PE X l tl):PI X tg l (iList K tl):=by subst h;exact zx hl
theorem pe_bmK{o e:Expr}{es:List Expr}{to:TE}{t:TA}{name:Str}{apos cpos:Pos}{T id:String}{r:V->List V->Hp->VK->Prop}(h:X.K=K)(pa:PlainAttrs T)(slot:Slot T name id)(hty:typeOf (.builtin id)=pure (.type "method_descriptor"))(hm:MtR X id r)(ho:PE X o to)(ha:PA X (e::es) t)
 (hbase:attributeBase o name X.env (eval o X.env)=eval o X.env:=by rfl)
 (hfew:((backTo cpos (starEach (e::es) X.env)).all (λx => !x.1) && (backToKw cpos (keywordEach [] X.env)).all (λx=>x.1.isSome)
   && decide ((e::es).length+([]:List Keyword).length+(if([]:List Keyword).isEmpty then 0 else 1)<30))=true:=by rfl)
 (hline:(apos.endLine==cpos.line)=true:=by rfl) (hs:starEach (e::es) X.env=(false,eval e X.env)::starEach es X.env:=by rfl) (hplain:(backTo cpos (starEach es X.env)).any (·.1)=false:=by rfl) :
 PE X (.Call (.Attribute o name apos) (e::es) [] cpos) (tBM K T r to t):=by subst h;exact wF pa slot hty hm ho ha hbase hfew hline hs hplain
end
theorem iteNo{b:Bool}(h:b=false)(k:B):if b=true then A else B:=by rw[h,if_neg Bool.false_ne_true];exact k
section
variable {α:Type} [DecidableEq α]
def zf1(acc:List α)(v:α):List α:=if v∈acc then acc else acc++[v]
def met(val:Nat->α)(i:Nat):List α:=((List.range i).map val).foldl zf1 []
theorem zhz(val:Nat->α)(i:Nat):met val (i+1)=zf1 (met val i) (val i):=by
 unfold met;rw[range_succ,map_append,List.foldl_append];rfl
theorem zhI{acc:List α}{v k:α}:k∈zf1 acc v↔k∈acc\/k=v:=by
 unfold zf1;split
 ·rename_i h;exact⟨.inl,λz=>z.elim id λe=>by rw[e];exact h⟩
 ·rw[mem_append,List.mem_singleton]
theorem zhd(acc:List α)(v:α):(zf1 acc v).length=if decide (v∈acc)=true then acc.length else acc.length+1:=by
 unfold zf1;by_cases h:v∈acc
 ·rw[if_pos h,decide_eq_true h,if_pos rfl]
 ·rw[if_neg h,decide_eq_false h,if_neg (by decide),length_append];rfl
theorem met_len(val:Nat->α):∀i,(met val i).length<=i
 | 0=>le_refl _
 | i+1=>by
   rw[zhz,zhd];have:=met_len val i;split <;> omega
theorem met_list(ts:List α)(d:α):met (λi=>ts.getD i d) ts.length=ts.foldl zf1 []:=by
 unfold met;congr 1;refine ext_getElem (by simp) λi h1 h2=>?_;rw[getElem_map,getElem_range,getD_eq_getElem?_getD,getElem?_eq_getElem h2];rfl
theorem zjk(acc ts:List α):(ts.foldl zf1 acc).length<=acc.length+ts.length:=by
 induction ts generalizing acc with
 | nil=>exact le_refl _
 | cons a ts ih =>
   rw[foldl_cons];refine le_trans (ih _) ?_;rw[zhd,length_cons];split <;> omega
theorem zhu(acc ts:List α)(hacc:acc.Nodup):(ts.foldl zf1 acc).length=acc.length+ts.length↔(acc++ts).Nodup:=by
 induction ts generalizing acc with
 | nil=>simpa using hacc
 | cons a ts ih =>
   rw[foldl_cons];by_cases h:a∈acc
   ·have e:zf1 acc a=acc:=by unfold zf1;rw[if_pos h]
    rw[e];constructor
    ·intro q;have:=zjk acc ts;rw[length_cons]at q;omega
    ·intro q;rw[nodup_append]at q;exact absurd rfl (q.2.2 a h a mem_cons_self)
   ·have e:zf1 acc a=acc++[a]:=by unfold zf1;rw[if_neg h]
    have hn:(acc++[a]).Nodup:=by
     rw[nodup_append];exact⟨hacc,by simp,λx hx y hy z=>h (by rw[List.mem_singleton.mp hy]at z;rw[<-z];exact hx)⟩
    rw[e];have:=ih (acc++[a]) hn;rw[append_assoc,List.singleton_append]at this;rw[<-this,length_append,length_singleton,length_cons];omega
theorem zjT(ts:List α)(d:α):(met (λi=>ts.getD i d) ts.length).length=ts.length↔ts.Nodup:=by
 rw[met_list];have:=zhu [] ts List.nodup_nil
 simpa using this
end
section
variable {prog:Program}{w:World}{A:Around}{R:Result->Shared->Prop}{it:Addr}{fp wr:List Addr}{G:Array GenState->Array GenState->Prop}{n:Nat}{P:Nat->Value->Prop}{St:Nat->Shared->Prop}
variable {α:Type} [DecidableEq α] {knd:KeyKind prog w α}
theorem zgz{h h':Heap}{a:Addr}{S:α->Bool}{m:Nat}(x:h.SetOf knd a S m)(k:∀o,h.get? a=some o->h'.get? a=some o):h'.SetOf knd a S m:=by
 obtain⟨o,es,ep,t,ho,r⟩:=x;exact⟨o,es,ep,t,k _ ho,r⟩
theorem zj2{h:Heap}{a:Addr}{S S':α->Bool}{m m':Nat}(x:h.SetOf knd a S m)(e:S=S')(e':m=m'):h.SetOf knd a S' m':=by subst e;subst e';exact x
theorem set_fill(W:WalksS prog w A.in1 it fp wr G n P St)(S:Addr)(hS:S∉fp)(val:Nat->α)(hv:∀i v,P i v->knd.is (val i) v=true/\v.scannable=true)(hb:n+1<scanBound):
 ∀(k i:Nat)(s:Shared),k+i=n->St i s->s.heap.SetOf knd S (λx=>decide (x∈met val i)) (met val i).length ->
  (∀s',Moved (S::wr) G s s'->s'.heap.SetOf knd S (λx=>decide (x∈met val n)) (met val n).length->R (.ok (.ret .none)) s') ->
  codeAny (model prog w) A (.builtin "set.update.loop" ⟨[.ref S,.ref it],[]⟩) R s:=by
 have hw:S∉wr:=λz=>hS (W.sub _ z);intro k
 induction k with
 | zero =>
   intro i s hk st hs hR;rw[Nat.zero_add]at hk;subst hk;refine codeAny_builtin F.entry_set_update_loop ?_;rw[Around.under_plainId F.plain_set_update_loop _];refine wpAny_bind (W.done s _ _ st λs' hm=>?_);exact wpAny_pure (hR s' (hm.mono λb z=>mem_cons_of_mem _ z) (zgz hs λo e=>hm.heap S o hw e))
 | succ k ih =>
   intro i s hk st hs hR;refine codeAny_builtin F.entry_set_update_loop ?_;rw[Around.under_plainId F.plain_set_update_loop _];refine wpAny_bind (W.item i s _ _ (by omega) st λv s' hP st' hm=>?_);obtain⟨kv,sv⟩:=hv i v hP;have hs':=zgz hs λo e=>hm.heap S o hw e;refine wpAny_bind (m:=holding [v] (setAdd S v)) (wpAny_holding ?_);unfold setAdd;refine wpAny_holding (wpAny_bind (knd.pyHash kv ?_));refine wpAny_setAddHashed_of (knd:=knd) (s:={ s' with toks:=s'.toks+1 }) kv sv hs' (by have:=met_len val i;omega) λh' hsb hs2=>?_;have hs3:h'.SetOf knd S (λx=>decide (x∈met val (i+1))) (met val (i+1)).length:=by
    refine zj2 hs2 (funext λx=>?_) ?_
    ·rw[zhz];by_cases h1:x∈met val i
     ·rw[decide_eq_true h1,decide_eq_true (zhI.mpr (.inl h1)),Bool.true_or]
     ·by_cases h2:x=val i
      ·rw[decide_eq_true h2,decide_eq_true (zhI.mpr (.inr h2)),Bool.or_true]
      ·rw[decide_eq_false h1,decide_eq_false h2,decide_eq_false λz=>(zhI.mp z).elim h1 h2];rfl
    ·rw[zhz,zhd]
   refine wpAny_pure ⟨plainId_quiet F.plain_set_update_loop _,ih (i+1) _ (by omega) (W.frame _ s' _ _ st' (le_succ _) λb hb o e=>?_) hs3 λs'' hm''=>hR s'' ?_⟩
   ·rw[hsb.2 b λz=>hS (by rw[<-z];exact hb)];exact e
   ·refine Moved.trans W.gtrans ((hm.mono λb z=>mem_cons_of_mem _ z).then_heap (le_succ _) λb o hb e=>?_) hm'';rw[hsb.2 b λz=>hb (by rw[z];exact mem_cons_self)];exact e
end
section
variable {prog:Program}{w:World}{A:Around}{E:Value->Shared->Prop}{s:Shared}{α:Type} [DecidableEq α] {knd:KeyKind prog w α}
def Filled(knd:KeyKind prog w α)(s:Shared)(ks:List α)(s2:Shared):Prop :=
 ∃(h':Heap)(tk:Nat),s2={ s with heap:=h',toks:=tk }/\h'.SetOf knd s.heap.objs.size (λk=>decide (k∈ks)) ks.length/\∀b o,b<s.heap.objs.size->s.heap.get? b=some o->h'.get? b=some o
set_option maxHeartbeats 3200000 in
theorem zki{l:Addr}{items:Array Value}{val:Nat->α}{Q:Value->Shared->Prop}(hh:A.handled=none)(hl:s.heap.IsList l items)(hv:∀i v,items[i]? = some v->knd.is (val i) v=true/\v.scannable=true)(hb:items.size+1<scanBound)
 (h:∀s2,Filled knd s (met val items.size) s2->Q (.ref s.heap.objs.size) s2):wpAny (model prog w) A (call (.type "set") [.ref l]) Q E s:=by
 have hlt:l<s.heap.objs.size:=by obtain⟨o,e,_⟩:=hl;exact lt_size e
 obtain⟨c,tl,hmro⟩:=F.called_set.mro;have hmade:=F.called_set.made;have hsub:=F.called_set.sub;refine wpAny_call (codeAny_of_tree ?_);show wpAny _ _ (callAny (.type "set") _) _ _ _;refine wpAny_pure ⟨Code.quiet_builtin _ (by decide +kernel),codeAny_builtin F.entry_type_call ?_⟩;rw[Around.under_plain (weight_type_call_type "set" [.ref l] []) rfl];have h1:=F.called_set.notType;have h2:=F.called_set.canCreate;have h3:=F.typeCall_set_1 (.ref l)
 repeat (any_goals (first | assumption | wp_step))
 refine codeAny_mono (code_set_new_1 (.ref l) (E:=E) (Q₁:=λv s₁=>∃led:Bool,v=.ref s.heap.objs.size/\s₁={ s with heap:=s.heap.push { cls:=.type "set",dict:=none,data:=.set #[] 0 (.fresh 0 0 led) } }) λled=>⟨led,rfl,rfl⟩) λr s₁ hr=>?_;rcases r with e | fl
 ·exact hr
 cases fl with
 | ret v =>
   obtain⟨led,rfl,rfl⟩:=hr;generalize hob:({ cls:=.type "set",dict:=none,data:=.set #[] 0 (.fresh 0 0 led) }:Obj)=ob;have hS:(s.heap.push ob).get? s.heap.objs.size=some ob:=get?_push_size _ (by rw[<-hob];rfl);have hT:Shared.TypeIs { s with heap:=s.heap.push ob } (.ref s.heap.objs.size) "set":=⟨_,hS,by rw[<-hob]⟩;have h4:=F.called_set.init.lookup;have h5:=F.called_set.init.bind (.ref s.heap.objs.size)
   repeat (any_goals (first | assumption | wp_step))
   refine codeAny_mono (codeAny_call_builtin (R:=wants (λr s₂=>r=.none/\Filled knd s (met val items.size) s₂) E) F.called_set.init.plain F.entry_set_init (check_set_init_1 hT ?_)) λr₂ s₂ hr₂=>?_
   ·have hl1:(s.heap.push ob).IsList l items:=hl.push _;obtain⟨⟨ocls,odict,odata,oslots⟩,hol,hcl,nl,hdl⟩:=id hl1;simp only at hcl hdl;subst hcl hdl;have h6:=F.sub_list_set;have h7:=F.sub_list_frozenset;have h8:(Value.type "list" == Value.type "dict")=false:=by decide
    subst hob;unfold Builtin.«set.__init__» noKeywords Builtin.Frozenset.updateFrom;generalize hPI:pyIter=PI
    wp_walk
    subst hPI;refine wpAny_pyIter_list hl1 (wpAny_bind (wpAny_runValue ?_));have hsz:(s.heap.push { cls:=.type "set",dict:=none,data:=.set #[] 0 (.fresh 0 0 led) }).objs.size=s.heap.objs.size+1:=size_push ..;refine set_fill (knd:=knd) ((Walks.list (by simp[hh]) _ l (by rw[hsz];exact ne_of_lt (lt_succ_of_lt hlt)) items).toS) s.heap.objs.size ?_ val hv hb items.size 0 _ rfl ⟨⟨_,get?_push_size _ rfl,rfl,rfl⟩,hl1.push _⟩ ?_ λs' hm hS'=>?_
    ·rw[hsz];simp only[mem_cons,not_mem_nil,or_false,not_or];exact⟨ne_of_lt (lt_succ_self _),ne_of_gt hlt⟩
    ·exact zj2 ((setObjOf_fresh (knd:=knd) led).setOf (get?_push_of_some _ hS) (by unfold scanBound;omega)) rfl rfl
    ·obtain⟨h',g',d',tk',os'⟩:=s';have eg:g'=s.gens:=hm.gens;have ed:d'=s.drawn:=hm.drawn;have eo:os'=s.os:=hm.os;subst eg ed eo;refine wpAny_pure (show wpAny _ _ (ret Value.none) _ _ _ from wpAny_pure ⟨rfl,h',tk',rfl,hS',λb o hb e=>?_⟩);refine hm.heap b o ?_ (get?_push_of_some _ (get?_push_of_some _ e));rw[hsz];simp only[mem_cons,not_mem_nil,or_false,not_or];exact⟨ne_of_lt hb,ne_of_lt (lt_succ_of_lt hb)⟩
   ·rcases r₂ with e | fl₂
    ·exact hr₂
    cases fl₂ with
    | ret r =>
      obtain⟨rfl,hf⟩:=hr₂
      repeat (any_goals (first | assumption | wp_step))
      exact h _ hf
    | _=>exact hr₂.elim
 | _=>exact hr.elim
end
section
variable {X:Cx}
inductive IOp_le_str (x y:V) (H:Hp) (Q:VK):Prop
 | mk (i:_) (j:_):x=.str i->y=.str j->Q (.bl (!decide (j.cps.toList<i.cps.toList))) H->IOp_le_str x y H Q
theorem zis:OpR X (compareOp .LtE) IOp_le_str:=by
 intro pins s σ H x y v u Q I rx ry h;obtain⟨i,j,rfl,rfl,q⟩:=h;obtain⟨t,rfl⟩:=rx;obtain⟨t',rfl⟩:=ry;exact PySem.P.le_str (zT I q rfl)
inductive IRSlS (x:V) (lo hi:Option Int) (H:Hp) (Q:VK):Prop
 | mk (z:_):x=.str z->z.length<=sizeLine->Q (.str (PySem.Txt.slice z lo hi)) H->IRSlS x lo hi H Q
def rSlS:V->Option Int->Option Int->Hp->VK->Prop:=λx lo hi H Q=>IRSlS x lo hi H Q
theorem part_as{v:Value}{o:Option Int}(h:IsPart v o):∃p:Option (Int×Tok),v=partValue p/\p.map (·.1)=o:=by
 cases h with
 | none=>exact⟨none,rfl,rfl⟩
 | int i t=>exact⟨some (i,t),rfl,rfl⟩
theorem sl_str:SlR X rSlS:=by
 intro pins s σ H x v vl vu lo hi sl Q I rx hs pl pu h;obtain⟨z,rfl,hz,q⟩:=h;obtain⟨t,rfl⟩:=rx;obtain⟨l,rfl,rfl⟩:=part_as pl;obtain⟨u,rfl,rfl⟩:=part_as pu;refine⟨"str",_,PySem.F.slot_str_getitem.lookup,typeIs_str _ _ _,wpAny_getItem_str_slice (l:=l) (u:=u) (st:=none) hs rfl (post_val_or_str ⟨le_trans (PySem.Txt.slice_le z _ _) hz,λt' k=>?_⟩)⟩;exact⟨.str (PySem.Txt.slice z _ _),H,I.tok _,⟨t',rfl⟩,q⟩
def Its(z:Str):It:=⟨λi _=>i<z.length,λi H x H'=>H'=H/\∃c,z.cps[i]? = some c/\x=.str ⟨#[c]⟩,λi _=>i=z.length⟩
theorem zkt{P:Program}{w:World}{K:Frag}{tg:Expr}(it:Addr)(T:String)(z:Str)(t:Tok)
 (hT : ["enumerate","zip","dict_itemiterator","dict_reverseitemiterator","odict_iterator","itertools.zip_longest","itertools.pairwise"].contains T=false)
 (W:∀A:Around,A.handled=none->Walks P w A it [it] [it] z.cps.size (SignAt z) (λi h=>h.IsStrIter it T z t i))
 (slf:∀(A:Around)(i:Nat)(s:Shared)(Q:Value->Shared->Prop)(E:Value->Shared->Prop),s.heap.IsStrIter it T z t i->Q (.ref it) s->wpAny (model P w) A (pyIter (.ref it)) Q E s) :
 Turn P w K tg (Its z) [it] it (λi h=>h.IsStrIter it T z t i) where
 mem:=by simp
 obj:=λi h st b hb=>by
  have e:b=it:=by simpa using hb
  subst e;obtain⟨o,e,c,d⟩:=st;exact⟨o,e,λv z=>by rw[d]at z;cases z⟩
 keep:=λi h h' st k=>by obtain⟨o,e,r⟩:=st;exact⟨o,k it (by simp) o e,r⟩
 item:=by
  intro X hP hw hK hc i pins s σ H E I hf st hg;subst hP hw hK;obtain⟨f0,f1,f2,f3,f4,f5⟩:=hf it (by simp);refine(W X.A (I.ok.hd hc)).item i s _ _ hg st λv h' tk hv st' kk=>?_;obtain⟨c,u,ec,rfl⟩:=hv;have I1:Inv X pins σ H { s with heap:=h',toks:=tk }:=I.turned (λb o hb e=>kk b o (by simpa using hb) e) f0 f1 f3 f4 f5;obtain⟨o,e,c1,d⟩:=id st';exact⟨_,rfl,go_of (s:={ s with heap:=h',toks:=tk }) (n:=T) e c1 d hT ⟨.str ⟨#[c]⟩,H,I1,⟨u,rfl⟩,⟨rfl,c,ec,rfl⟩,st',λb hb=>(hf b hb).1⟩⟩
 done:=by
  intro X hP hw hK hc i pins s σ H E I hf st hg;subst hP hw hK;obtain⟨f0,f1,f2,f3,f4,f5⟩:=hf it (by simp);have hg:i=z.cps.size:=hg;subst hg;exact(W X.A (I.ok.hd hc)).done s _ _ st λh' tk kk=>⟨rfl,I.turned (λb o hb e=>kk b o (by simpa using hb) e) f0 f1 f3 f4 f5⟩
 self:=λA i s Q E st h=>slf A i s Q E st h
inductive IIStr (x:V) (H1:Hp) (R:It->Hp->Prop):Prop
 | mk (z:_):x=.str z->R (Its z) H1->IIStr x H1 R
def iStr(tl:TE):TI:=λσ H R=>tl σ H λx H1=>IIStr x H1 R
theorem pi_str{tg l:Expr}{tl:TE}(hl:PE X l tl):PI X tg l (iStr tl):=by
 intro pins s σ H R I h;refine thn (hl pins s σ H _ I h) λv s1 ⟨x,H1,I1,r1,q1⟩=>?_;obtain⟨z,e,q⟩:=q1;subst e;obtain⟨t,rfl⟩:=r1;have hf:∀b ∈ [s1.heap.objs.size],wI X pins H1 b:=λb hb=>by
  have e:b=s1.heap.objs.size:=by simpa using hb
  subst e;exact I1.fpOk (le_refl _) (I1.hok.fresh (le_refl _))
 have hk:∀o:Obj,Inv X pins σ H1 { s1 with heap:=s1.heap.push o }:=λo=>I1.kept (t':=s1.toks) λb u e=>get?_push_of_some _ e;cases ha:z.cps.all (·< 128)
 ·refine wpAny_pyIter_wide ha ⟨s1.heap.objs.size,[s1.heap.objs.size],_,_,H1,rfl,hk _,zkt _ "str_iterator" z t (by decide) (λA hA=>Walks.strWide hA _ z t) (λA i s Q E st h=>wpAny_pyIter_striter_wide st h),⟨_,get?_push_size _ rfl,rfl,rfl⟩,hf,q⟩
 ·refine wpAny_pyIter_ascii ha ⟨s1.heap.objs.size,[s1.heap.objs.size],_,_,H1,rfl,hk _,zkt _ "str_ascii_iterator" z t (by decide) (λA hA=>Walks.strAscii hA _ z t) (λA i s Q E st h=>wpAny_pyIter_striter_ascii st h),⟨_,get?_push_size _ rfl,rfl,rfl⟩,hf,q⟩
theorem comp_str0{z:Str}{c:St}{te:TE}{H:Hp}{fin:List V->Hp->Prop}(Pv:Nat->List V->Hp->Prop)(h0:Pv 0 [] H)(hl:∀i ys H,i<=z.length->Pv i ys H->ys.length<=i)(hz:z.length<=sizeLine)
 (hs:∀i d ys H,z.cps.toList[i]? = some d->Pv i ys H->te (some (.str ⟨#[d]⟩)::c) H λy H3=>Pv (i+1) (ys++[y]) H3) (hd:∀ys H,Pv z.length ys H->fin ys H):zd1 (Its z) c tYes te H fin:=by
 refine⟨λi m ys H=>m=z.length-i/\i<=z.length/\Pv i ys H,⟨z.length,by simp,zero_le _,h0⟩,?_⟩;rintro i m ys H ⟨rfl,hi,p⟩;have hy:=hl i ys H hi p;by_cases hlt:i<z.length
 ·refine .inr ⟨hlt,by omega,Pv (i+1),λys' H' p'=>⟨_,by omega,rfl,hlt,p'⟩,λx H' y=>?_⟩;obtain⟨e,d,ed,ex⟩:=y;subst e ex;exact zh5 (B:=Pv (i+1) ys H') (hs i d ys _ (by rw[Array.getElem?_toList];exact ed) p)
 ·have e:i=z.length:=by omega
  subst e;exact .inl ⟨rfl,by omega,hd ys H p⟩
variable {ts:List Str}{i:Nat}
theorem strs_val{us:List Value}(r:Vals (ts.map V.str) us){v:Value}(h:us[i]? = some v)(d:Str):∃t,v=.str (ts.getD i d) t:=by
 have hl:=r.length;rw[length_map]at hl;have hi:i<ts.length:=by rw[hl];exact(List.getElem?_eq_some_iff.mp h).1
 obtain⟨u,e,ru⟩:=r.get (i:=i) (x:=.str ts[i]) (by rw[getElem?_map,getElem?_eq_getElem hi];rfl);rw[e]at h;cases h;obtain⟨t,rfl⟩:=ru;exact⟨t,by rw[getD_eq_getElem?_getD,getElem?_eq_getElem hi];rfl⟩
def tLenSetS(K:Frag)(te:TE):TE:=λσ H Q=>te σ H λx H1=>∃(a:Addr)(ts:List Str),x=.ref a/\SqL K H1 a (ts.map V.str)/\ts.length<4000/\Q (.int (met (λi=>ts.getD i "") ts.length).length) H1
theorem zkO{e:Expr}{te:TE}{p p2 pos pos2:Pos}(hc:X.calm=true)(hg:Gl X "len")(hm:X.mg "len"=none)(hg2:Gl X "set")(hm2:X.mg "set"=none)(he:PE X e te)
 (h1:starEach [.Call (.Name "set" p2) [e] [] pos2] X.env=[(false,eval (.Call (.Name "set" p2) [e] [] pos2) X.env)]:=by rfl) (h2:starEach [e] X.env=[(false,eval e X.env)]:=by rfl) :
 PE X (.Call (.Name "len" p) [.Call (.Name "set" p2) [e] [] pos2] [] pos) (tLenSetS X.K te):=by
 intro pins s σ H Q I h;refine wpAny_Call_Name_kw (zcR I hg hm PySem.boot_len ?_);refine callWith_builtin1 ?_ h1 rfl;rw[h1];show wpAny _ _ (spliced ((false,eval (.Call (.Name "set" p2) [e] [] pos2) X.env)::backTo pos [])) _ _ s;refine Calls.spliced_cons ?_;refine wpAny_Call_Name_kw (zcR I hg2 hm2 boot_set ?_);refine callWith_type1 ?_ h2 rfl;rw[h2];show wpAny _ _ (spliced ((false,eval e X.env)::backTo pos2 [])) _ _ s;refine Calls.spliced_cons (thn (he pins s σ H _ I h) λv s1 ⟨x,H1,I1,r1,q1⟩=>?_);obtain⟨a,ts,rfl,hS,hz,q⟩:=q1;cases r1;obtain⟨its,rv,pl,hz2⟩:=I1.list hS;have hl:=rv.length;rw[length_map]at hl;have hsb:scanBound=4096:=rfl;refine Calls.spliced_nil ?_;refine zki (knd:=strKind X.prog X.w) (val:=λi=>ts.getD i "") (I1.ok.hd hc) pl.isList (λi v hv=>?_) (by rw[size_toArray];omega) λs2 ⟨h',tk,e2,hs,hk⟩=>?_
 ·obtain⟨t,rfl⟩:=strs_val rv (i:=i) (v:=v) (by simpa using hv) "";exact⟨beq_self_eq_true _,rfl⟩
 subst e2;have I2:Inv X pins σ H1 { s1 with heap:=h',toks:=tk }:=I1.kept (t':=tk) λb o e=>hk b o (lt_size e) e;refine Calls.spliced_nil ?_;have esz:its.toArray.size=ts.length:=by rw[size_toArray];omega
 rw[esz]at hs;obtain⟨o,es,ep,t,ho,hex,hd,_,_,hsz,hf,hn⟩:=hs;refine PySem.call_len_set ho hex hd hf (by omega) ⟨.int (met (λi=>ts.getD i "") ts.length).length,H1,I2.tok _,⟨tk+1,?_⟩,q⟩;rw[hn]
theorem zfw(h:i<ts.length):(ts.map V.str)[i]? = some (.str (ts.getD i "")):=by
 rw[getElem?_map,getElem?_eq_getElem h,getD_eq_getElem?_getD,getElem?_eq_getElem h];rfl
theorem zfB{i:Int}(h0:0<=i)(h:i<ts.length):atI (ts.map V.str) i=some (.str (ts.getD i.toNat "")):=zhG h0 (zfw (by omega))
theorem flat_strs(ts:List Str):(ts.map V.str).all zae=true:=by
 rw[all_map];exact List.all_eq_true.mpr λ_ _=>rfl
theorem inV_strs(ts:List Str)(c:Str):inV (.str c) (ts.map V.str)=decide (c∈ts):=by
 unfold inV
 induction ts with
 | nil=>rfl
 | cons a ts ih =>
   rw[map_cons,any_cons,ih];show((a==c) || _)=_;by_cases h:a=c
   ·subst h;simp
   ·have:¬c=a:=λe=>h e.symm;simp[h,this]
theorem zca{x:V}(hx:(ts.map V.str)[i]? = some x):i<ts.length/\x=.str (ts.getD i ""):=by
 have hi:i<ts.length:=by have:=(List.getElem?_eq_some_iff.mp hx).1;rwa [length_map]at this
 refine⟨hi,?_⟩;rw[zfw hi]at hx;exact(Option.some.inj hx).symm
theorem yp(hi:i<ts.length):ts.take (i+1)=ts.take i++[ts.getD i ""]:=by
 rw[take_succ,getElem?_eq_getElem hi,getD_eq_getElem?_getD,getElem?_eq_getElem hi];rfl
theorem zbb(hi:i<ts.length):ts.getD i "" ∈ ts:=by
 rw[getD_eq_getElem?_getD,getElem?_eq_getElem hi];exact getElem_mem hi
theorem y9(x y:Str):(x++y).length=x.length+y.length:=by
 show(x.cps++y.cps).size=x.cps.size+y.cps.size;exact Array.size_append
abbrev abc:Str:= "abcdefghijklmnopqrstuvwxyz"
def zeo(c:Nat):Bool:=decide (97<=c) && decide (c<=122)
theorem zgo(ns:List Int):∀i,i<=ns.length->preSum (λi=>ns.getD i 0) i=(ns.take i).sum
 | 0,_=>by simp[preSum]
 | i+1,h=>by
   rw[yE (by omega),List.sum_append,<-zgo ns i (by omega)];simp[preSum]
inductive ICall_sum (K:Frag) (xs:List V) (H:Hp) (Q:VK):Prop
 | mk (a:Addr) (ns:List Int):xs=[.ref a]->SqL K H a (ns.map V.int)->Q (.int ns.sum) H->ICall_sum K xs H Q
theorem zen(hc:X.calm=true):zak X (.builtin "sum") (ICall_sum X.K):=by
 intro pins s σ H xs us Q I r h;obtain⟨a,ns,rfl,hS,q⟩:=h;obtain⟨u,rfl,ru⟩:=r.one;cases ru;obtain⟨its,r1,p1,z1⟩:=I.list hS;have l1:=r1.length;rw[length_map]at l1;have hlt:a<s.heap.objs.size:=by obtain⟨o,n,e,_⟩:=p1;exact lt_size e
 refine call_sum_walkAnyS (wpAny_pyIter_list p1.isList ?_);have I1:Inv X pins σ H { s with heap:=s.heap.push { cls:=.type "list_iterator",data:=.fields #[.ref a,.int 0 0] } }:=I.kept (t':=s.toks) λb o e=>get?_push_of_some _ e;refine⟨s.heap.objs.size,_,_,_,its.toArray.size,_,_,λi=>ns.getD i 0,rfl,(Walks.list (by simpa using I.ok.hd hc) s.heap.objs.size a (ne_of_lt hlt) its.toArray).toS,⟨⟨_,get?_push_size _ rfl,rfl,rfl⟩,p1.isList.push _⟩,?_,?_,λs' t' hm=>?_⟩
 ·intro b hb;rw[size_push];simp only[mem_cons,not_mem_nil,or_false]at hb;rcases hb with rfl | rfl
  ·exact lt_succ_self _
  ·exact lt_succ_of_lt hlt
 ·intro i v hP;exact IntsAre.int_at (zaC r1) i v (by simpa using hP)
 ·obtain⟨h',g',d',tk',os'⟩:=s';have eg:g'=s.gens:=hm.gens;have ed:d'=s.drawn:=hm.drawn;have eo:os'=s.os:=hm.os;subst eg ed eo;have f:=I.fpOk (H':=H) (le_refl _) (I.hok.fresh (le_refl _));have I2:=I1.turned (t':=tk') (h':=h') (it:=s.heap.objs.size) (λb o hb e=>hm.heap b o (by simpa using hb) e) f.1 f.2.1 f.2.2.2.1 f.2.2.2.2.1 f.2.2.2.2.2;refine⟨.int ns.sum,H,I2,⟨t',?_⟩,q⟩;rw[size_toArray,<-l1,zgo ns _ (le_refl _),take_length]
end
def zbe(X:Cx)(x:Str)(N:List Str)(scope:Scope)(cl:List (Str×Addr))(cx:Addr)(C:Addr)(s2:Shared)(H2:Hp)(fp:List Addr):Cx where
 prog:=X.prog
 w:=X.w
 K:=X.K
 mg:=X.mg
 base:=X.base
 A:=X.A
 N:=N
 s₀:=s2
 H₀:=H2
 env:=compEnvC scope ((x,cx)::cl) C X.env
 outer:=X.stack
 stack:=X.stack
 ex:=fp
 fn:=λy=>y==x
 calm:=X.calm
 pn:=[]
 xe:=λ_ _=>False
structure CompScopeC (sc:Scope) (N:List Str) (x:Str) (fr:List Str) (ix:List Nat) (scope:Scope):Prop where
 kind:scope.kind=.function
 one:∀a acc,cellsFrom a scope.names acc=(x,a)::acc
 push:∀h:Heap,pushCells h scope.names=h.push { cls:=.type "cell",data:=.cell none }
 cells:∀y∈scope.names,y.2=.cell->y.1=x
 lcl:∀y∈scope.names,y.2=.local->scope.names.lookup y.1=some .local
 lx:scope.names.lookup x=some .cell
 free:∀y∈scope.names,y.2=.free->sc.names.lookup y.1=some .cell\/sc.names.lookup y.1=some .free
 at':fr.map some=ix.map λi=>N[i]?
 frk:∀y∈fr,scope.names.lookup y=some .free/\(sc.names.lookup y=some .cell\/sc.names.lookup y=some .free)
 nd:(x::fr).Nodup
theorem zgD(h:scope.names.lookup y=some .cell\/scope.names.lookup y=some .free):(relabel scope env).names.lookup y=some .cell\/(relabel scope env).names.lookup y=some .free:=by
 rcases h with h | h
 ·left;rw[wK,zai (zhU env) h,ziZ env y .cell (by decide)]
 ·exact zbH h
variable {fr:List Str}{ix:List Nat}
theorem CompScope.under{sc:Scope}(S:CompScope sc N x fr ix scope):CompScope (relabel sc env) N x fr ix scope :=
 ⟨S.kind,S.nocell,S.lcl,S.lx,λy hy hf=>zgD (S.free y hy hf),S.at',λy hy=>⟨(S.frk y hy).1,zgD (S.frk y hy).2⟩,S.nd⟩
theorem zhX(hc:∀z∈scope.names,z.2=.cell->z.1=x)(h:(relabel scope env).names.lookup y=some .cell\/(relabel scope env).names.lookup y=some .free):(y,NameKind.free)∈scope.names\/y=x:=by
 rw[wK]at h;have go:∀k,(k=.cell\/k=.free)->(scope.names.map (rl env)).lookup y=some k->(y,NameKind.free)∈scope.names\/y=x:=λk hk q=>by
  obtain⟨k0,m,e⟩:=zbm (zhU env) q;by_cases hf:k0=.free
  ·rw[hf]at m;exact .inl m
  ·rw[ziZ env y k0 hf]at e;rcases hk with z | z
   ·exact .inr (hc _ m (e.trans z))
   ·exact absurd (e.trans z) hf
 rcases h with h | h
 ·exact go _ (.inl rfl) h
 ·exact go _ (.inr rfl) h
variable {cx:Addr}{cl:List (Str×Addr)}
theorem wY{c:Addr}(h:((x,cx)::cl).lookup y=some c):(y=x/\c=cx)\/(y≠x/\cl.lookup y=some c):=by
 rw[lookup_cons]at h;by_cases hy:y=x
 ·have hb:(y==x)=true:=by simp[hy]
  rw[hb]at h;exact .inl ⟨hy,(Option.some.inj h).symm⟩
 ·rw[beq_eq_false_iff_ne.mpr hy]at h;exact .inr ⟨hy,h⟩
theorem look_ne(hy:y≠x):((x,cx)::cl).lookup y=cl.lookup y:=by
 rw[lookup_cons,beq_eq_false_iff_ne.mpr hy]
theorem look_eq:((x,cx)::cl).lookup x=some cx:=by
 rw[lookup_cons,beq_self_eq_true]
section
variable {X:Cx}{pins:List (Addr×Obj)}{σ:St}{H:Hp}{s:Shared}{x:Str}{fr:List Str}{ix:List Nat}{scope:Scope}{cl:List (Str×Addr)}{fp:List Addr}{C D cx:Addr}
theorem zkr(I:Inv X pins σ H s)(h1:∀y c,cl.lookup y=some c->X.env.cells.lookup y=some c){y:Str}{c:Addr}(e:cl.lookup y=some c):c<s.heap.objs.size:=by
 obtain⟨v,o,ho,_⟩:=I.cell y c (h1 y c e);exact lt_size ho
theorem blkC_ok(S:CompScopeC X.env.scope X.N x fr ix scope)(I:Inv X pins σ H s)(hf:∀b∈fp,wI X pins H b)(hfo:∀b∈fp,b<s.heap.objs.size)(hC:s.heap.objs.size<=C)(hcx:s.heap.objs.size<=cx)
 (h1:∀y c,cl.lookup y=some c->X.env.cells.lookup y=some c) (h2:∀y,(y,NameKind.free)∈scope.names->∃c,cl.lookup y=some c):(zbe X x (x::fr) scope cl cx C s H fp).Ok where
 mod:=I.ok.mod
 kind:=S.kind
 glob:=I.ok.glob
 blt:=I.ok.blt
 above:=hC
 inj:=λy z c a b=>by
  rcases wY a with⟨a1,a2⟩|⟨a1,a2⟩
  ·rcases wY b with⟨b1,b2⟩|⟨b1,b2⟩
   ·exact a1.trans b1.symm
   ·exact absurd (zkr I h1 b2) (by rw[a2];exact Nat.not_lt.mpr hcx)
  ·rcases wY b with⟨b1,b2⟩|⟨b1,b2⟩
   ·exact absurd (zkr I h1 a2) (by rw[b2];exact Nat.not_lt.mpr hcx)
   ·exact I.ok.inj y z c (h1 y c a2) (h1 z c b2)
 has:=λy hy=>by
  by_cases e:y=x
  ·subst e;exact⟨cx,look_eq⟩
  ·rcases zhX (env:=X.env) (scope:=scope) S.cells hy with z | z
   ·obtain⟨c,hc⟩:=h2 y z;exact⟨c,(look_ne e).trans hc⟩
   ·exact absurd z e
 cab:=λy c h e=>by
  have hy:y=x:=by simpa [zbe] using h
  rcases wY e with⟨_,z⟩|⟨z,_⟩
  ·rw[z];exact hcx
  ·exact absurd hy z
 hd:=I.ok.hd
 frames:=I.ok.frames
 stk:=.inl rfl
 exf:=λb hb=>⟨λz=>absurd (hfo b hb) (by rw[z];exact Nat.not_lt.mpr hC),λy c e=>by
  rcases wY e with⟨_,z⟩|⟨_,z⟩
  ·exact λq=>absurd (hfo b hb) (by rw[<-q,z];exact Nat.not_lt.mpr hcx)
  ·exact(hf b hb).2.2.2.2.1 y c (h1 y c z)⟩
 bs:=I.bs
 bsz:=le_trans I.ok.bsz I.sz
 noex:=λb o e hb=>by
  rcases (hf b hb).2.2.2.1 with z | z
  ·exact I.ok.noex b o e z
  ·exact absurd (lt_of_lt_of_le (lt_size e) (le_trans I.ok.bsz z)) (lt_irrefl _)
 exfs:=λb hb z=>by
  rcases List.mem_cons.mp (I.stkSub b z)with e | e
  ·exact(hf b hb).2.1 e
  ·exact(hf b hb).2.2.1 e
 funs:=I.stack
 frf:=I.stkFree
theorem CompScopeC.len(S:CompScopeC X.env.scope X.N x fr ix scope):fr.length=ix.length:=by have:=congrArg List.length S.at';simpa using this
theorem blkC_inv{s':Shared}{pn:List (Addr×Obj)}{m:Str->Option Value}(S:CompScopeC X.env.scope X.N x fr ix scope)(I:Inv X pins σ H s)(hf:∀b∈fp,wI X pins H b)(hfo:∀b∈fp,b<s.heap.objs.size)(hC:s.heap.objs.size<=C)(hcx:s.heap.objs.size<=cx)
 (h1:∀y c,cl.lookup y=some c->X.env.cells.lookup y=some c) (h2:∀y,(y,NameKind.free)∈scope.names->∃c,cl.lookup y=some c)
 (ho:s'.os=s.os) (hg:s'.gens=s.gens) (k:∀b o,s.heap.get? b=some o->s'.heap.get? b=some o) (hn:s'.heap.Ns C m) (hcell:s'.heap.IsCell cx none)
 (hp:∀p∈pn,s'.heap.get? p.1=some p.2/\s.heap.objs.size<=p.1/\p.1≠C/\∀v,p.2.data ≠ .cell v) :
 Inv (zbe X x (x::fr) scope cl cx C s H fp) pn (none::cap ix σ) H s':=by
 obtain⟨mX,hnX,hlX⟩:=I.loc;refine⟨blkC_ok S I hf hfo hC hcx h1 h2,ho,by rw[hg];exact I.bare,Un.kept k,⟨m,hn,λi y v e1 e2 e3=>?_⟩,λy c e=>?_,I.hok.fresh hC,λy c e=>?_,λp hp'=>?_,I.hok.kept k,by
  show(none::cap ix σ).length=(x::fr).length;simp[ziW,S.len]⟩
 ·cases i with
  | zero=>cases e2
  | succ j =>
    have e1':fr[j]? = some y:=e1;have e2':(cap ix σ)[j]? = some (some v):=e2;have hmem:=mem_of_getElem? e1';have hyx:y≠x:=λz=>(List.nodup_cons.mp S.nd).1 (by rw[<-z];exact hmem);obtain⟨f1,f2⟩:=S.frk y hmem;unfold cap at e2';rw[getElem?_map]at e2';cases ei:ix[j]? with
    | none=>rw[ei]at e2';cases e2'
    | some i =>
      rw[ei]at e2';have e3':(σ[i]?).join=some v:=Option.some.inj e2';have e4:σ[i]? = some (some v):=by
       cases q:σ[i]? with
       | none=>rw[q]at e3';cases e3'
       | some w=>rw[q]at e3';have:w=some v:=e3';rw[this]
      have e5:X.N[i]? = some y:=by
       have:=congrArg (λl=>l[j]?) S.at';simp only[getElem?_map,e1',ei]at this
       simpa using this.symm
      have vis:Vis X.env.scope y:=by
       rcases f2 with z | z
       ·exact .inr (.inl z)
       ·exact .inr (.inr z)
      obtain⟨u,r,l⟩:=hlX i y v e5 e4 vis;refine⟨u,r,.inr ⟨zbH f1,?_⟩⟩;rcases l with⟨z,_⟩|⟨_,c,ec,hc⟩
      ·rcases f2 with q | q
       ·have q':=(show X.env.scope.names.lookup y=some .local from z).symm.trans q;cases q'
       ·have q':=(show X.env.scope.names.lookup y=some .local from z).symm.trans q;cases q'
      ·obtain⟨c',hc'⟩:=h2 y (PySem.mem_of_lookup f1);have:c'=c:=by have:=h1 y c' hc';rw[ec]at this;exact(Option.some.inj this).symm
       subst this;refine⟨c',(look_ne hyx).trans hc',?_⟩;obtain⟨o,ho',hd⟩:=hc;exact⟨o,k _ _ ho',hd⟩
 ·rcases wY e with⟨_,z⟩|⟨_,z⟩
  ·subst z;exact⟨none,hcell⟩
  ·obtain⟨v,o,ho',hd⟩:=I.cell y c (h1 y c z);exact⟨v,o,k _ _ ho',hd⟩
 ·rcases wY e with⟨_,z⟩|⟨_,z⟩
  ·subst z;exact I.hok.fresh hcx
  ·exact I.freeC y c (h1 y c z)
 ·have hp'':p∈pn:=by simpa [zbe] using hp'
  obtain⟨q1,q2,q3,q4⟩:=hp p hp'';refine⟨q1,I.hok.fresh q2,q3,λz=>?_,q4⟩;obtain⟨_,o,ho',_⟩:=I.stack.mem z;exact absurd (lt_of_lt_of_le (lt_size ho') q2) (lt_irrefl _)
end
theorem newEnv_one{M:Model}{A:Around}{E:Value->Shared->Prop}{sc:Scope}{globals:Addr}{outer:Env}{Q:Env->Shared->Prop}(S:CompScopeC sc N x fr ix scope)
 (h:Q (newEnv scope s.heap.objs.size globals ((x,s.heap.objs.size+1)::cl) qual none .none (some outer) builtinsNs) { s with heap:=(s.heap.push { cls:=.type "dict",data:=.dict #[] }).push { cls:=.type "cell",data:=.cell none } }) :
 wpAny M A (newFunctionEnv scope globals cl [] qual none .none (some outer)) Q E s:=by
 simp only[newFunctionEnv,Option.isSome_some,if_true];refine wpAny_bind (wpAny_alloc ?_);refine wpAny_bind (wpAny_layCells _ (λname kind cells=>by cases hkc:kind==NameKind.cell <;> simp[hkc]) _ _ _ _ ?_);rw[S.one,S.push,show({ s with heap:=s.heap.push { cls:=.type "dict",data:=.dict #[] } }:Shared).heap.objs.size=s.heap.objs.size+1 from size_push ..];simp only[forIn_nil];exact wpAny_bind (wpAny_pure (wpAny_pure h))
section
variable {X:Cx}{x:Str}{fr:List Str}{ix:List Nat}{scope:Scope}{elt iter:Expr}{ifs:List Expr}{px pos:Pos}{wi:TI}{tc:TT}{te:TE}
theorem comp_runC{use:Option (Value->Sem Unit)}{Q:Value->Shared->Prop}{pins:List (Addr×Obj)}{s2:Shared}{σ:St}{H2:Hp}{it:Addr}{fp:List Addr}{tn:Nat->Heap->Prop}{J:It}{cl:List (Str×Addr)}(S:CompScopeC X.env.scope X.N x fr ix scope)(hc:X.calm=true)
 (hif:∀cl cx C s2 H2 fp,PIf (zbe X x (x::fr) scope cl cx C s2 H2 fp) ifs tc) (he:∀cl cx C s2 H2 fp,PE (zbe X x (x::fr) scope cl cx C s2 H2 fp) elt te)
 (h1:∀y c,cl.lookup y=some c->X.env.cells.lookup y=some c) (h2:∀y,(y,NameKind.free)∈scope.names->∃c,cl.lookup y=some c)
 (I2:Inv X pins σ H2 s2) (T:Turn X.prog X.w X.K (.Name x px) J fp it tn) (st2:tn 0 s2.heap) (f2:∀b∈fp,wI X pins H2 b) {fin:List V->Hp->Prop} (wc:zd1 J (cap ix σ) tc te H2 fin)
 (hQ:∀(D C:Addr)(ys:List V)(H':Hp)(s':Shared)(m:Str->Option Value),Inv X pins σ (upd H' D (.lst ys)) s'->H' D=none->s'.heap.Ns C m->D≠C->s2.heap.objs.size<=C->H' C=none->fin ys H' ->
   compPost (model X.prog X.w) X.A X.xe use Q (.ref D) C (.ok .next) s') :
 wpAny (model X.prog X.w) X.A (newList []) (λacc s₃=>wpAny (model X.prog X.w) X.A (newFunctionEnv scope X.env.globals cl [] X.env.qual none .none (some X.env)) (λcenv s₄ =>
  codeAny (model X.prog X.w) X.A (.compStart (.ListComp elt [⟨.Name x px,iter,ifs,0⟩] scope pos) 0 (.ref it) acc { cenv with scope:=relabel scope X.env }) (compPost (model X.prog X.w) X.A X.xe use Q acc cenv.locals) s₄) X.xe s₃) X.xe s2:=by
 have hfo:∀b∈fp,b<s2.heap.objs.size:=λb hb=>by
  obtain⟨o,e,_⟩:=T.obj 0 _ st2 b hb;exact lt_size e
 refine wpAny_newObj_type (newEnv_one S ?_);generalize hHp:s2.heap.push { cls:=.type "list",dict:=none,data:=.seq ([]:List Value).toArray }=Hp2;have hCs:Hp2.objs.size=s2.heap.objs.size+1:=by rw[<-hHp,size_push]
 have hDC:s2.heap.objs.size≠Hp2.objs.size:=by rw[hCs];exact ne_of_lt (lt_succ_self _)
 have hCle:s2.heap.objs.size<=Hp2.objs.size:=by rw[hCs];exact le_succ _
 have hcx:s2.heap.objs.size<=Hp2.objs.size+1:=le_trans hCle (le_succ _);have hDcx:s2.heap.objs.size≠Hp2.objs.size+1:=by rw[hCs];exact ne_of_lt (lt_succ_of_lt (lt_succ_self _))
 have hcs:(Hp2.push { cls:=.type "dict",data:=.dict #[] }).objs.size=Hp2.objs.size+1:=size_push ..;have hcell:((Hp2.push { cls:=.type "dict",data:=.dict #[] }).push { cls:=.type "cell",data:=.cell none }).IsCell (Hp2.objs.size+1) none:=⟨_,by rw[<-hcs];exact get?_push_size _ rfl,rfl⟩;have hns₁:((Hp2.push { cls:=.type "dict",data:=.dict #[] }).push { cls:=.type "cell",data:=.cell none }).Ns Hp2.objs.size λ_=>none:=(Heap.Ns.new Hp2 (.type "dict")).push _;have old:∀b o,s2.heap.get? b=some o->((Hp2.push { cls:=.type "dict",data:=.dict #[] }).push { cls:=.type "cell",data:=.cell none }).get? b=some o:=λb o e=>get?_push_of_some _ (get?_push_of_some _ (hHp ▸ get?_push_of_some _ e));have hacc:((Hp2.push { cls:=.type "dict",data:=.dict #[] }).push { cls:=.type "cell",data:=.cell none }).get? s2.heap.objs.size=some { cls:=.type "list",data:=.seq ([]:List Value).toArray 0 }:=get?_push_of_some _ (get?_push_of_some _ (hHp ▸ get?_push_size _ rfl));generalize hcxe:Hp2.objs.size+1=cx at hcell hcx hDcx ⊢;generalize hh1:(Hp2.push { cls:=.type "dict",data:=.dict #[] }).push { cls:=.type "cell",data:=.cell none }=h₁ at hcell hns₁ old hacc ⊢;have st1:tn 0 h₁:=T.keep 0 _ _ st2 λb _ o e=>old b o e;have fpD:∀b∈fp,b≠s2.heap.objs.size:=λb hb=>ne_of_lt (hfo b hb);generalize hD:s2.heap.objs.size=D at hacc hDC hDcx fpD ⊢;have hDle:s2.heap.objs.size<=D:=le_of_eq hD;generalize hC:Hp2.objs.size=C at hns₁ hDC hCle ⊢;have oldD:∀b o,s2.heap.get? b=some o->b≠D:=λb o e z=>absurd (lt_size e) (by rw[z,<-hD];exact lt_irrefl _);obtain⟨W,⟨m0,w0⟩,turn⟩:=wc;have loop:∀s₃:Shared,s₃={ s2 with heap:=h₁ } ->
  codeAny (model X.prog X.w) X.A (.compLoop (.ListComp elt [⟨.Name x px,iter,ifs,0⟩] scope pos) 0 (.ref it) (.ref D) (compEnvC scope ((x,cx)::cl) C X.env))
   (compPost (model X.prog X.w) X.A X.xe use Q (.ref D) C) s₃:=by
  rintro s₃ rfl;have I0:Inv (zbe X x (x::fr) scope cl cx C s2 H2 fp) [(D,{ cls:=.type "list",data:=.seq ([]:List Value).toArray 0 })] (none::cap ix σ) H2 { s2 with heap:=h₁ } :=
   blkC_inv S I2 f2 hfo hCle hcx h1 h2 rfl rfl old hns₁ hcell (λp hp=>by
    have e:p=(D,{ cls:=.type "list",data:=.seq ([]:List Value).toArray 0 }):=by simpa using hp
    subst e;exact⟨hacc,hDle,hDC,λv z=>by cases z⟩)
  have stat:∀{its:Obj}{H':Hp},(∀b∈fp,H' b=none)->∀b∈fp,wI (zbe X x (x::fr) scope cl cx C s2 H2 fp) [(D,its)] H' b:=λ{its H'} hn b hb=>by
   refine⟨hn b hb,λz=>?_,λz=>(I0.ok.exfs b hb z),.inl hb,λy c e=>(I0.ok.exf b hb).2 y c e,λp hp z=>?_⟩
   ·exact(I0.ok.exf b hb).1 z
   ·have e:p=(D,its):=by simpa [zbe] using hp
    subst e;exact fpD b hb (Eq.symm z)
  refine zdv (env:=compEnvC scope ((x,cx)::cl) C X.env)
   (λn s'=>∃i ys its k v0 H',Vals ys its/\Inv (zbe X x (x::fr) scope cl cx C s2 H2 fp) [(D,{ cls:=.type "list",data:=.seq its.toArray k })] (v0::cap ix σ) H' s'/\tn i s'.heap/\(∀b∈fp,H' b=none)/\W i n ys H') ?_ m0
   ⟨0,[],[],0,none,H2,.nil,I0,st1,λb hb=>(f2 b hb).1,w0⟩
  rintro n s3 ⟨i,ys,its,k,v0,H3,rv,I3,st3,fr3,w3⟩;rcases turn i n ys H3 w3 with⟨stop,hz,hfin⟩|⟨go,hz,N,hN,step⟩
  ·refine thn (T.done (zbe X x (x::fr) scope cl cx C s2 H2 fp) rfl rfl rfl hc i _ s3 _ H3 _ I3 (stat fr3) st3 stop) λr s4 ⟨hr,I4⟩=>?_;subst hr;have pD:=I4.pin (D,{ cls:=.type "list",data:=.seq its.toArray k }) (by simp[zbe]);obtain⟨mC,hnC,_⟩:=I4.loc;have hH3D:H3 D=none:=pD.2.1;have hok':HOk X.prog X.w (upd H3 D (.lst ys)) s4.heap:=λb u e=>by
    by_cases hb:b=D
    ·subst hb;rw[zd]at e;cases e;exact⟨hz,its,k,rv,pD.1⟩
    ·rw[zh hb]at e;exact(I4.hok b u e).stay (λc v _ q=>q) (λc q=>by rw[zh (zn q hH3D)];exact q) λc xs q=>by rw[zh (zn q hH3D)];exact q
   have b4:Un (frs X.stack) fp H2 H3 s2.heap s4.heap:=I4.base;have un:Un (frs X.stack) fp H2 (upd H3 D (.lst ys)) s2.heap s4.heap :=
    ⟨b4.keep,b4.slot,λb o q n hx=>by
     rw[zh (oldD b o q)];exact b4.free b o q n hx,b4.there,λb xs q=>by rw[zh (zn (b4.tups b xs q) hH3D)];exact b4.tups b xs q,
     λb o u q=>by rw[zh (zn (b4.frzs b o u q) hH3D)];exact b4.frzs b o u q,λb ps q=>by
      obtain⟨more,e⟩:=b4.tbls b ps q;exact⟨more,by rw[zh (zn e hH3D)];exact e⟩⟩
   have I5:Inv X pins σ (upd H3 D (.lst ys)) s4:=I2.call' (ch:=fp) I4.os un hok' I4.bare λb hb=>by
    obtain⟨g0,g1,g2,g3,g4,g5⟩:=f2 b hb;exact⟨g3,g1,g4,g5⟩
   exact hQ D C ys H3 s4 mC I5 hH3D hnC hDC hCle I4.free hfin
  ·refine thn (T.item (zbe X x (x::fr) scope cl cx C s2 H2 fp) rfl rfl rfl hc i _ s3 _ H3 _ I3 (stat fr3) st3 go) λr s4 ⟨u,hr,h4⟩=>?_;subst hr;refine thn h4 λ_ s5 ⟨y,H5,I5,r5,y5,st5,fr5⟩=>?_;have I5':=I5.pinned (stat fr5) (T.obj _ _ st5);have pg:PG (zbe X x (x::fr) scope cl cx C s2 H2 fp) (.Name x px) (zgv 0):=zU S.nd rfl (.inr (by show(relabel scope X.env).names.lookup x=some .cell;rw[wK,zai (zhU X.env) S.lx,ziZ X.env x .cell (by decide)])) (.inl (by simp[zbe]));refine thn (pg _ s5 _ H5 y u (λσ6 H6=>σ6=some y::cap ix σ/\H6=H5) I5' r5 ⟨rfl,rfl⟩) λ_ s6 ⟨σ6,H6,I6,e6,e6'⟩=>?_;subst e6 e6';refine thn (hif cl cx C s2 H2 fp _ s6 _ _ _ I6 (step y _ y5)) λb s7 ⟨H7,I7,q7⟩=>?_;have again:∀{s8:Shared}{H8:Hp}{its':List Value}{k':Nat}{ys':List V},Vals ys' its'->Inv (zbe X x (x::fr) scope cl cx C s2 H2 fp) [(D,{ cls:=.type "list",data:=.seq its'.toArray k' })] (some y::cap ix σ) H8 s8->(∀b∈fp,∀o,s5.heap.get? b=some o->s8.heap.get? b=some o)->(∀b∈fp,H8 b=none)->N ys' H8 ->
    ∃m,m<n/\∃i ys its k v0 H',Vals ys its/\Inv (zbe X x (x::fr) scope cl cx C s2 H2 fp) [(D,{ cls:=.type "list",data:=.seq its.toArray k })] (v0::cap ix σ) H' s8/\tn i s8.heap/\(∀b∈fp,H' b=none)/\W i m ys H' :=
    λ{s8 H8 its' k' ys'} rv8 I8 kp fr8 nn=>let ⟨m',hm,w8⟩:=hN ys' H8 nn;⟨m',hm,i+1,ys',its',k',some y,H8,rv8,I8,T.keep _ _ _ st5 kp,fr8,w8⟩
   cases b with
   | false =>
     rw[if_neg Bool.false_ne_true]at q7 ⊢;refine again rv I7.unpinned (λb hb o e=>(I7.pin (b,o) (by simp[zbe];exact .inr (yy hb e))).1) (λb hb=>?_) q7;obtain⟨o,e,d⟩:=T.obj _ _ st5 b hb;exact(I7.pin (b,o) (by simp[zbe];exact .inr (yy hb e))).2.1
   | true =>
     rw[if_pos rfl]at q7 ⊢;refine thn (he cl cx C s2 H2 fp _ s7 _ _ _ I7 q7) λv s8 ⟨z,H8,I8,r8,q8⟩=>?_;have pD:=I8.pin (D,{ cls:=.type "list",data:=.seq its.toArray k }) (by simp[zbe]);have hvl:ys.length=its.length:=rv.length;refine append_at (hsz:=by show its.toArray.size<=sizeLine;rw[size_toArray];omega) pD.1 λh₉ hs₉ hD₉=>?_;have eo:({ cls:=.type "list",data:=.seq (its.toArray.push v) (k+1) }:Obj)={ cls:=.type "list",data:=.seq (its++[v]).toArray (k+1) }:=by rw[push_toArray]
     rw[eo]at hD₉;have pn8:∀b∈fp,∀o,s5.heap.get? b=some o->s8.heap.get? b=some o/\H8 b=none:=λb hb o e=>by
      have q:=I8.pin (b,o) (by simp[zbe];exact .inr (yy hb e));exact⟨q.1,q.2.1⟩
     have J8:=I8.unpinned.pins_of (pins':=[]) (λp hp=>by cases hp);have f2D:wI (zbe X x (x::fr) scope cl cx C s2 H2 fp) [] H8 D:=⟨pD.2.1,pD.2.2.1,pD.2.2.2.1,.inr hDle,λy c e z=>by
      rcases wY e with⟨_,q⟩|⟨_,q⟩
      ·exact hDcx (z.symm.trans q)
      ·obtain⟨v,o,ho,_⟩:=I2.cell y c (h1 y c q);exact oldD c o ho z,λp hp=>by cases hp⟩
     have I9:Inv (zbe X x (x::fr) scope cl cx C s2 H2 fp) [] (some y::cap ix σ) H8 { s8 with heap:=h₉ }:=J8.turned (t':=s8.toks) (it:=D) (λb o hb e=>(hs₉.2 b hb).trans e) f2D.1 f2D.2.1 f2D.2.2.2.1 f2D.2.2.2.2.1 f2D.2.2.2.2.2;refine again (its':=its++[v]) (k':=k+1) (ys':=ys++[z]) (rv.append (.cons r8 .nil)) (I9.pins_of λp hp=>?_) (λb hb o e=>(hs₉.2 b (fpD b hb)).trans (pn8 b hb o e).1) (λb hb=>?_) q8
     ·have e:p=(D,{ cls:=.type "list",data:=.seq (its++[v]).toArray (k+1) }):=by simpa using hp
      subst e;exact⟨hD₉,f2D.1,f2D.2.1,f2D.2.2.1,λv z=>by cases z⟩
     ·obtain⟨o,e,d⟩:=T.obj _ _ st5 b hb;exact(pn8 b hb o e).2
 exact codeAny_compStart_list (loop _ rfl) (T.self X.A 0 _ _ _ st1 (loop _ rfl))
theorem pe_compC(S:CompScopeC X.env.scope X.N x fr ix scope)(hc:X.calm=true)(hi:PI X (.Name x px) iter wi)(hif:∀cl cx C s2 H2 fp,PIf (zbe X x (x::fr) scope cl cx C s2 H2 fp) ifs tc)(he:∀cl cx C s2 H2 fp,PE (zbe X x (x::fr) scope cl cx C s2 H2 fp) elt te)
 (hs:∀x,foldedSetIterable iter X.env x=pure x:=by intro _;rfl):PE X (.ListComp elt [⟨.Name x px,iter,ifs,0⟩] scope pos) (tComp ix wi tc te):=by
 intro pins s σ H Q I h;obtain⟨cl,ecl,h1,h2⟩:=zbV (env:=X.env) (scope:=scope) λy hy hf=>I.ok.has y.1 (S.free y hy hf);rw[eval_ListComp];refine wpAny_comprehension_free (use:=none) rfl hs ecl S.kind S.lcl (thn (hi pins s σ H _ I h) λxv s1 q1=>thn q1 λitv s2 q2=>?_);obtain⟨it,fp,tn,J,H2,rfl,I2,T,st2,f2,wc⟩:=q2;refine comp_runC S hc hif he h1 h2 I2 T st2 f2 wc λD C ys H' s' m I' hD hn hDC hC hHC fin=>?_;refine⟨m,hn,λh' sb=>⟨.ref D,upd H' D (.lst ys),?_,rfl,fin D hD⟩⟩;have hcf:wI X pins (upd H' D (.lst ys)) C:=by
  have z:=I2.fpOk (H':=upd H' D (.lst ys)) hC (by rw[zh (Ne.symm hDC)];exact hHC);exact z
 exact I'.turned (t':=s'.toks) (it:=C) (λb o hb e=>(sb.2 b hb).trans e) hcf.1 hcf.2.1 hcf.2.2.2.1 hcf.2.2.2.2.1 hcf.2.2.2.2.2
end
section
open PySem.SeqAt
open PySem.AutoSeq1 (wpAny_loadPart')
open PySem.MeetsSeq PySem.MeetsSeq2 PySem.MeetsSeq3
theorem lt_loop(l b:Addr)(items items2:Array Value)(n n2:Nat)(dd dd2:Option Addr)(sl sl2:Array (Option Value))(ns ms:List Int)(hi:IntsAre items.toList ns)(hj:IntsAre items2.toList ms)(k:Nat):
 ∀i:Nat,ns.length-i=k->i<=ns.length->i<=ms.length->Meets (Builtin.«list.__eq__.loop» ⟨[.ref l,.ref b,rawInt i,rawInt 0],[]⟩)
  (λA R s=>s.heap.get? l=some { cls:=.type "list",dict:=dd,data:=.seq items n,slots:=sl }/\s.heap.get? b=some { cls:=.type "list",dict:=dd2,data:=.seq items2 n2,slots:=sl2 } /\
    R (.ok (.ret (.bool (HT.lexLt (ns.drop i) (ms.drop i))))) s):=by
 have z1:items.size=ns.length:=by rw[<-hi.length];simp
 have z2:items2.size=ms.length:=by rw[<-hj.length];simp
 have stop:∀i,(i=ns.length\/i=ms.length)->i<=ns.length->i<=ms.length->HT.lexLt (ns.drop i) (ms.drop i)=decide (items.size<items2.size):=λi h h1 h2=>by
  rw[z1,z2];rcases Nat.lt_or_ge i ns.length with c1 | c1
  ·have e:i=ms.length:=h.elim (λz=>by omega) id;rw[drop_of_length_le (le_of_eq e.symm),drop_eq_getElem_cons c1,HT.lexLt_cons_nil];exact(decide_eq_false (by omega)).symm
  ·rw[drop_of_length_le c1];rcases Nat.lt_or_ge i ms.length with c2 | c2
   ·rw[drop_eq_getElem_cons c2,HT.lexLt_nil_cons];exact(decide_eq_true (by omega)).symm
   ·rw[drop_of_length_le c2,HT.lexLt_nil_nil];exact(decide_eq_false (by omega)).symm
 induction k with
 | zero =>
   intro i hk h1 h2 prog w A R s h;obtain⟨hp,g,d,tk,os⟩:=s;obtain⟨hl,hb,h⟩:=h;rw[stop i (.inl (by omega)) h1 h2]at h
   wp_walk using wpAny_loadPart' hl,wpAny_loadPart' hb
   have hi1:items[((i:Nat):Int).toNat]? = none:=by simp;omega
   rw[hi1]
   wp_walk using wpAny_loadPart' hl,wpAny_loadPart' hb
   exact h
 | succ k ih =>
   intro i hk h1 h2 prog w A R s h;obtain⟨hp,g,d,tk,os⟩:=s;obtain⟨hl,hb,h⟩:=h;have hlt:i<items.size:=by omega
   have hi1:items[((i:Nat):Int).toNat]? = some items[i]:=by simp[hlt]
   wp_walk using wpAny_loadPart' hl,wpAny_loadPart' hb
   rw[hi1];by_cases hm:i<ms.length
   ·have hlt2:i<items2.size:=by omega
    have hi2:items2[((i:Nat):Int).toNat]? = some items2[i]:=by simp[hlt2]
    have hc:((i:Int)+1)=((i+1:Nat):Int):=by push_cast;rfl
    rw[hi2];obtain⟨t,et⟩:=IntsAre.int_at hi i items[i] (by simp[hlt]);obtain⟨u,eu⟩:=IntsAre.int_at hj i items2[i] (by simp[hlt2]);have hn':i<ns.length:=by omega
    have en:ns.getD i 0=ns[i]:=by rw[getD_eq_getElem?_getD,getElem?_eq_getElem hn'];rfl
    have em:ms.getD i 0=ms[i]:=by rw[getD_eq_getElem?_getD,getElem?_eq_getElem hm];rfl
    rw[en]at et;rw[em]at eu;rw[drop_eq_getElem_cons hn',drop_eq_getElem_cons hm,HT.lexLt_cons]at h;have heq:EqAt A.in1 ⟨hp,g,d,tk,os⟩ items[i] items2[i] (ns[i]==ms[i]):=by rw[et,eu];exact SeqAt.EqAt.int_int _ _ _ _
    refine wpAny_bind (heq prog w _ _ ?_);cases hb':(ns[i]==ms[i])with
    | true =>
      rw[if_pos (by simpa using hb')]at h
      wp_walk
      rw[hc];exact⟨plainId_quiet plain_eq_loop _,codeAny_builtin entry_eq_loop (by
       rw[Around.under_plainId plain_eq_loop _];exact ih (i+1) (by omega) (by omega) (by omega) prog w A R _ ⟨hl,hb,h⟩)⟩
    | false =>
      rw[if_neg (by simpa using hb')]at h
      wp_walk using wpAny_loadPart' hl,wpAny_loadPart' hb
      rw[hi1,hi2];have hri:=HT.rcLt_int A.in1 ⟨hp,g,d,tk,os⟩ ns[i] t ms[i] u prog w;rw[et,eu]
      wp_walk using hri
      exact h
   ·have hi2:items2[((i:Nat):Int).toNat]? = none:=by simp;omega
    rw[hi2];rw[stop i (.inr (by omega)) h1 h2]at h
    wp_walk using wpAny_loadPart' hl,wpAny_loadPart' hb
    exact h
theorem ziU(l b:Addr)(items items2:Array Value)(n n2:Nat)(dd dd2:Option Addr)(sl sl2:Array (Option Value))(ns ms:List Int)(hi:IntsAre items.toList ns)(hj:IntsAre items2.toList ms):
 Meets (Builtin.«list.__lt__» ⟨[.ref l,.ref b],[]⟩)
  (λ_ R s=>s.heap.get? l=some { cls:=.type "list",dict:=dd,data:=.seq items n,slots:=sl }/\s.heap.get? b=some { cls:=.type "list",dict:=dd2,data:=.seq items2 n2,slots:=sl2 } /\
    R (.ok (.ret (.bool (HT.lexLt ns ms)))) s):=by
 intro prog w A R s h;obtain⟨hp,g,d,tk,os⟩:=s;obtain⟨hl,hb,h⟩:=h;have f2:=AutoSeq1.sub_list_list
 wp_walk using wpAny_loadPart' hl,wpAny_loadPart' hb
 exact⟨plainId_quiet plain_eq_loop _,codeAny_builtin entry_eq_loop (by
  rw[Around.under_plainId plain_eq_loop _];exact lt_loop l b items items2 n n2 dd dd2 sl sl2 ns ms hi hj _ 0 rfl (zero_le _) (zero_le _) prog w A R _ ⟨hl,hb,h⟩)⟩
end
section
variable {X:Cx}
inductive IRLtL (K:Frag) (x y:V) (H:Hp) (Q:VK):Prop
 | mk (a:_) (b:_) (ns:_) (ms:_):x=.ref a->y=.ref b->SqL K H a (ns.map V.int)->SqL K H b (ms.map V.int)->Q (.bl (HT.lexLt ns ms)) H->IRLtL K x y H Q
def rLtL(K:Frag):R2:=λx y H Q=>IRLtL K x y H Q
theorem op_lt_list(hu:X.A.units<cLine):OpR X (compareOp .Lt) (rLtL X.K):=by
 intro pins s σ H x y v u Q I rx ry h;obtain⟨a,b,ns,ms,rfl,rfl,ha,hb,q⟩:=h;cases rx;cases ry;obtain⟨its,r1,p1,z1⟩:=I.list ha;obtain⟨its2,r2,p2,z2⟩:=I.list hb;obtain⟨⟨cls,dd,data,sl⟩,n,e,c1,c2,c3⟩:=p1;obtain⟨⟨cls2,dd2,data2,sl2⟩,n2,e2,d1,d2,d3⟩:=p2;simp only at c1 c2 c3 d1 d2 d3;subst c1 c2 c3 d1 d2 d3;have i1:IntsAre its.toArray.toList ns:=zaC r1;have i2:IntsAre its2.toArray.toList ms:=zaC r2;exact richCompare_meets_room (op := .Lt) ⟨_,e,rfl⟩ ⟨_,e2,rfl⟩ PySem.F.slot_list_lt PySem.F.entry_list_lt (PySem.F.args_list_lt_2 _ _) (ziU a b its.toArray its2.toArray n n2 _ _ _ _ ns ms i1 i2)
  ⟨e,e2,show Value.bool (HT.lexLt ns ms)≠Value.notImplemented/\EP X pins σ Q (.bool (HT.lexLt ns ms)) s from⟨(λx=>nomatch x),⟨.bl (HT.lexLt ns ms),H,I,rfl,q⟩⟩⟩ hu
theorem zj8{K:Frag}(h:X.K=K)(hu:X.A.units<cLine):OpR X (compareOp .Lt) (rLtL K):=by subst h;exact op_lt_list hu
inductive IRNeL (K:Frag) (x y:V) (H:Hp) (Q:VK):Prop
 | mk (a:_) (b:_) (xs:_) (ys:_):x=.ref a->y=.ref b->SqL K H a xs->SqL K H b ys->xs.all zae=true->ys.all zae=true->Q (.bl (!eqL xs ys)) H->IRNeL K x y H Q
def rNeL(K:Frag):R2:=λx y H Q=>IRNeL K x y H Q
theorem zay(hu:X.A.units<cLine):OpR X (compareOp .NotEq) (rNeL X.K):=by
 intro pins s σ H x y v u Q I rx ry h;obtain⟨a,b,xs,ys,rfl,rfl,ha,hb,fx,fy,q⟩:=h;cases rx;cases ry;obtain⟨its,r1,p1,z1⟩:=I.list ha;obtain⟨its2,r2,p2,z2⟩:=I.list hb;have l1:=r1.length;have l2:=r2.length;by_cases hl:xs.length=ys.length
 ·refine SeqAt.RcNeAt.lists p1.isList p2.isList (by simp;omega) hu (eqAt_j r1 r2 fx fy) _ _ _ _ ⟨.bl (!eqL xs ys),H,I,?_,q⟩;rw[size_toArray,<-l1,zgc hl];rfl
 ·refine SeqAt.RcNeAt.lists_lengths p1.isList p2.isList (by simp;omega) hu _ _ _ _ ⟨.bl (!eqL xs ys),H,I,?_,q⟩;rw[zju hl];rfl
end
structure CanM (P:Program) (w:World) (K:Frag) (mg:Str->Option Value) (base:Heap) (k:Nat) (C:Addr) (m:Str) (ps:List Str) (sp:Sp):Prop where
 ex:∃f fd,FnOk P w K mg base CX0 k f fd ps sp/\Meth K C m f/\Binds K fd ps []
structure CanMX (P:Program) (w:World) (K:Frag) (mg:Str->Option Value) (base:Heap) (k:Nat) (C:Addr) (m:Str) (ps:List Str) (sp:Sp):Prop where
 ex:∃f fd,FnOk P w K mg base (CX1 P w) k f fd ps sp/\Meth K C m f/\Binds K fd ps []
inductive ITMethX (C:Addr) (m:Str) (W:XW) (sp:Sp) (t:TA) (σ:St) (x:V) (H1:Hp) (Q:VK):Prop
 | mk (a:_) (dx:_) (fs:_):x=.ref a->H1 a=some (.ins C dx fs)->fs.lookup m=none->(t σ H1 λvs H2=>sp (.ref a::vs) H2 Q λcls _ H'=>W σ cls H')->ITMethX C m W sp t σ x H1 Q
def tMethX(C:Addr)(m:Str)(W:XW)(sp:Sp)(ta:TE)(t:TA):TE:=λσ H Q=>ta σ H λx H1=>ITMethX C m W sp t σ x H1 Q
section
variable {X:Cx}{k:Nat}{C:Addr}{m:Str}{ps:List Str}{sp:Sp}{apos pos:Pos}{o e:Expr}{es:List Expr}{ta:TE}{t:TA}{W:XW}{pl:Sem Bool}
theorem wG(M:CanMX X.prog X.w X.K X.mg X.base k C m ps sp)(c:Cls X.K C)(fl:Fl X W)(hr:Room k X.A)(he:PE X o ta)(ha:PA X (e::es) t)
 (hst:starEach (e::es) X.env=(false,eval e X.env)::starEach es X.env:=by rfl) (hpl:(backTo pos (starEach es X.env)).any (·.1)=false:=by rfl)
 (ht:eval (.Call (.Attribute o m apos) (e::es) [] pos) X.env=(do
   let ov <-eval o X.env
   standAt apos.atName
   let (f,first) <-holding [ov] (getMethod ov m pl)
   callWith pos f first (backTo pos (starEach (e::es) X.env)) (backToKw pos (keywordEach [] X.env))):=by rfl) :
 PE X (.Call (.Attribute o m apos) (e::es) [] pos) (tMethX C m W sp ta t):=by
 obtain⟨f,fd,F,hm,hb⟩:=M.ex;intro pins s σ H Q I h;refine methodCall_KW (pl:=pl) (thn (he pins s σ H _ I h) λu s1 ⟨x,H1,I1,rx,a,dx,fs,ex,ea,l,q⟩=>?_) ht;subst ex;obtain rfl:u=Value.ref a:=rx;refine zfh I1 ea c hm l ?_;refine callWith_K (first:=[.ref a]) (h₀:=X.base) I.ok.mod.kin hm.kp (thn (ha pos pins s1 σ H1 _ I1 q) λus s2 ⟨vs,H2,I2,r,q2⟩=>⟨I2.kIn,?_⟩) hst hpl;exact ziL (us:=.ref a::us) (vs:=.ref a::vs) F hr hb fl I2 (.cons rfl r) q2
theorem zeK(M:CanMX X.prog X.w X.K X.mg X.base k C m ps sp)(c:Cls X.K C)(fl:Fl X W)(hr:Room k X.A)(he:PE X o ta)
 (ht:eval (.Call (.Attribute o m apos) [] [] pos) X.env=(do
   let ov <-eval o X.env
   standAt apos.atName
   let (f,first) <-holding [ov] (getMethod ov m pl)
   callWith pos f first (backTo pos (starEach [] X.env)) (backToKw pos (keywordEach [] X.env))):=by rfl) :
 PE X (.Call (.Attribute o m apos) [] [] pos) (tMethX C m W sp ta tNil):=by
 obtain⟨f,fd,F,hm,hb⟩:=M.ex;intro pins s σ H Q I h;refine methodCall_KW (pl:=pl) (thn (he pins s σ H _ I h) λu s1 ⟨x,H1,I1,rx,a,dx,fs,ex,ea,l,q⟩=>?_) ht;subst ex;obtain rfl:u=Value.ref a:=rx;refine zfh I1 ea c hm l ?_;exact callWith_K0 (first:=[.ref a]) I1.kIn hm.kp (ziL (us:=[.ref a]) (vs:=[.ref a]) F hr hb fl I1 (.cons rfl .nil) q)
theorem zE(M:CanM X.prog X.w X.K X.mg X.base k C m ps sp)(c:Cls X.K C)(hr:Room k X.A)(he:PE X o ta)
 (ht:eval (.Call (.Attribute o m apos) [] [] pos) X.env=(do
   let ov <-eval o X.env
   standAt apos.atName
   let (f,first) <-holding [ov] (getMethod ov m pl)
   callWith pos f first (backTo pos (starEach [] X.env)) (backToKw pos (keywordEach [] X.env))):=by rfl) :
 PE X (.Call (.Attribute o m apos) [] [] pos) (tMeth C m sp [] E0 ta tNil):=by
 obtain⟨f,fd,F,hm,hb⟩:=M.ex;exact pe_meth0 (pl:=pl) he c hm F hr hb .nil pass0 ht
structure CanK (P:Program) (w:World) (K:Frag) (mg:Str->Option Value) (base:Heap) (k:Nat) (x:Str) (C:Addr) (ps:List Str) (sp:Sp):Prop where
 ex:∃f fd,FnOk P w K mg base (CX1 P w) k f fd ps sp/\mg x=some (.ref C)/\Mk K C f/\Binds K fd ps []
def tMakeX(C:Addr)(W:XW)(sp:Sp)(t:TA):TE:=λσ H Q=>t σ H λvs H1=>∀x dx,H1 x=none->H1 dx=none->dx≠x->sp (.ref x::vs) (upd (upd H1 dx (.own x)) x (.ins C dx [])) (λv H2=>v=.non/\Q (.ref x) H2) λcls _ H'=>W σ cls H'
theorem run_makeX{pins:List (Addr×Obj)}{σ:St}{H:Hp}{s:Shared}{Q:VK}{us:List Value}{vs:List V}{f:Addr}{fd:FuncData}(M:Mk X.K C f)(F:FnOk X.prog X.w X.K X.mg X.base (CX1 X.prog X.w) k f fd ps sp)(hr:Room (k+1) X.A)(hb:Binds X.K fd ps [])(fl:Fl X W)(I:Inv X pins σ H s)(r:Vals vs us)
 (h:∀x dx,H x=none->H dx=none->dx≠x->sp (.ref x::vs) (upd (upd H dx (.own x)) x (.ins C dx [])) (λv H2=>v=.non/\Q (.ref x) H2) λcls _ H'=>W σ cls H') :
 wpAny (model X.prog X.w) X.A (call (.ref C) us) (EP X pins σ Q) X.xe s:=by
 have hq:=h (s.heap.objs.size+1) s.heap.objs.size (I.hok.fresh (le_succ _)) (I.hok.fresh (le_refl _)) (ne_of_lt (lt_succ_self _));have I2:=Inv.made (C:=C) I;have r2:Vals (V.ref (s.heap.objs.size+1)::vs) (Value.ref (s.heap.objs.size+1)::us):=.cons rfl r;have hl:(Value.ref (s.heap.objs.size+1)::us).length=ps.length:=by
  have e:=r2.length;rw[F.len _ _ _ _ hq]at e;exact e.symm
 have hb':=hb { s with heap:=(s.heap.push emptyDict).push (instObj C s.heap.objs.size) } (Value.ref (s.heap.objs.size+1)::us) I2.kIn (by rw[append_nil];exact hl);rw[append_nil]at hb';refine wpAny_call (make_map (f:=f) I.kIn M.makes M.init (beq_iff_eq.mp M.fn) (codeAny_mono (F.run _ X.stack _ _ ⟨Value.ref (s.heap.objs.size+1)::us,[]⟩ (Value.ref (s.heap.objs.size+1)::us) _ _ _ (hr.make C us [])
  (I2.env0.make C us []) hb' r2 hq) λr s' hq'=>?_))
 cases r with
 | error e =>
   obtain⟨y,cls,H',rfl,fly,w⟩:=hq';exact fl pins σ _ _ y cls H' s' I2 fly w
 | ok fl =>
   cases fl with
   | ret u =>
     obtain⟨v,H',I3,rv,ev,q3⟩:=I2.after hq';subst ev;exact⟨rv,⟨V.ref (s.heap.objs.size+1),H',I3,rfl,q3⟩⟩
   | next=>exact False.elim hq'
   | brk=>exact False.elim hq'
   | cont=>exact False.elim hq'
theorem zky{x:Str}{p:Pos}(M:CanK X.prog X.w X.K X.mg X.base k x C ps sp)(fl:Fl X W)(hr:Room (k+1) X.A)(hg:Gl X x)(ha:PA X (e::es) t)(hdb:(x==("__debug__":Str))=false:=by decide)
 (he:starEach (e::es) X.env=(false,eval e X.env)::starEach es X.env:=by rfl) (hpl:(backTo pos (starEach es X.env)).any (·.1)=false:=by rfl):PE X (.Call (.Name x p) (e::es) [] pos) (tMakeX C W sp t):=by
 obtain⟨f,fd,F,hm,hk,hb⟩:=M.ex;intro pins s σ H Q I h;refine wpAny_Call_Name_kw (zfH I hg hm ?_ hdb);refine callWith_K (h₀:=X.base) I.ok.mod.kin hk.kp (thn (ha pos pins s σ H _ I h) λus s1 ⟨vs,H1,I1,r,q⟩=>⟨I1.kIn,?_⟩) he hpl;exact run_makeX hk F hr hb fl I1 r q
theorem pe_fldK{K:Frag}{f:Str}(h:X.K=K)(he:PE X e ta)(hb:attributeBase e f X.env (eval e X.env)=eval e X.env):PE X (.Attribute e f pos) (tFld K ta f):=by subst h;exact yN he hb
end
def zH(K:Frag)(x:Str):Addr:=match nsIn K mainGlobals x with
 | some (some (.ref C))=>C
 | _=>0
theorem clsA_of(h:nsIn K mainGlobals x=some (some (.ref C))):zH K x=C:=by unfold zH;rw[h]
theorem CanM.of{m:Str}(hC:zH K x=C)(G:FnOk P w K mg base CX0 k f fd ps sp)(hm:Meth K C m f)(b:Binds K fd ps []):CanM P w K mg base k (zH K x) m ps sp:=by rw[hC];exact⟨f,fd,G,hm,b⟩
theorem CanMX.of{m:Str}(hC:zH K x=C)(G:FnOk P w K mg base (CX1 P w) k f fd ps sp)(hm:Meth K C m f)(b:Binds K fd ps []):CanMX P w K mg base k (zH K x) m ps sp:=by rw[hC];exact⟨f,fd,G,hm,b⟩
theorem CanK.of(hC:zH K x=C)(G:FnOk P w K mg base (CX1 P w) k f fd ps sp)(hg:mg x=some (.ref C))(hm:Mk K C f)(b:Binds K fd ps []):CanK P w K mg base k x (zH K x) ps sp:=by rw[hC];exact⟨f,fd,G,hg,hm,b⟩
section
variable {X:Cx}
inductive ICall_max_list (K:Frag) (xs:List V) (H:Hp) (Q:VK):Prop
 | mk (a:Addr) (ns:List Int):xs=[.ref a]->SqL K H a (ns.map V.int)->0<ns.length->(∀M:Int,M∈ns->(∀x∈ns,x<=M)->Q (.int M) H)->ICall_max_list K xs H Q
theorem zih(hc:X.calm=true):zak X (.builtin "max") (ICall_max_list X.K):=by
 intro pins s σ H xs us Q I r h;obtain⟨a,ns,rfl,hS,hne,q⟩:=h;obtain⟨u,rfl,ru⟩:=r.one;cases ru;obtain⟨its,r1,p1,z1⟩:=I.list hS;have hi:=zaC r1;obtain⟨xs,e⟩:=hi.allInts.items;have hns:ns=xs.toList.map (·.1):=by
  rw[<-hi.numsOf,<-nums_intItems,<-e]
 have hsz:0<xs.size:=by
  have h3:=hne;rw[hns,length_map,Array.length_toList]at h3;exact h3
 have hl:=p1.isList;rw[e]at hl;refine max_intList (I.ok.hd hc) hl hsz λv h' tk hv hk=>?_;obtain⟨t,rfl⟩:=intItems_at hv;obtain⟨h1,h2⟩:=argBest_gt (numAt xs) (xs.size-1);refine⟨.int _,H,I.kept (t':=tk) hk,⟨t,rfl⟩,q _ ?_ λa ha=>?_⟩
 ·rw[hns,numAt_eq];exact getD_mem (by rw[length_map,Array.length_toList];omega)
 ·rw[hns]at ha;obtain⟨j,hj,rfl⟩:=mem_getD ha;rw[length_map,Array.length_toList]at hj;rw[<-numAt_eq];exact h2 j (by omega)
inductive IRCatS (K:Frag) (x y:V) (H:Hp) (Q:VK):Prop
 | mk (l:_) (b:_) (xs:_) (zs:_):x=.ref l->y=.ref b->SqL K H l xs->SqL K H b zs->xs.length+zs.length<=sizeLine->(∀p,H p=none->Q (.ref p) (upd H p (.lst (xs++zs))))->IRCatS K x y H Q
def rCatS(K:Frag):R2:=λx y H Q=>IRCatS K x y H Q
theorem op_catS:OpR X (binaryOp .Add) (rCatS X.K):=by
 intro pins s σ H x y v u Q I rx ry h;obtain⟨l,b,xs,zs,rfl,rfl,hH,hB,hz,q⟩:=h;cases rx;cases ry;obtain⟨its,r,p1,z1⟩:=I.list hH;obtain⟨its2,r2,p2,z2⟩:=I.list hB;have hl:=r.length;have hl2:=r2.length;obtain⟨⟨cls,dd,data,sl⟩,ho,hc,n,hd⟩:=p1.isList;obtain⟨⟨cls2,dd2,data2,sl2⟩,ho2,hc2,n2,hd2⟩:=p2.isList;cases hc;cases hd;cases hc2;cases hd2;refine concat_meets ⟨_,ho,rfl⟩ ⟨_,ho2,rfl⟩ noFill_list_add seq_list_add F.slot_list_add F.entry_list_add (F.args_list_add_2 _ _) (list_addW l b its.toArray its2.toArray n n2 dd dd2 sl sl2 (by rw[size_toArray,size_toArray];omega)) ⟨ho,ho2,?_⟩;have ea:its.toArray++its2.toArray=(its++its2).toArray:=by simp
 rw[ea];exact⟨.ref _,_,I.lnew (t':=s.toks) (r.append r2) (by rw[length_append];omega),rfl,q _ I.fresh⟩
theorem yI{K:Frag}(h:X.K=K)(hu:X.A.units<cLine):OpR X (compareOp .NotEq) (rNeL K):=by subst h;exact zay hu
end
end L2
namespace L2
open PySem PySem.Spec PyProof.Rows PySem.W PySem.Calls Builtin Builtin.ObjectAttr Builtin.Getset_descriptor
section
variable {prog:Program}{w:World}{A:Around}{s:Shared}{K:Frag}{x C:Addr}{E:Value->Shared->Prop}
end
section
variable {X:Cx}
end
end L2
namespace M14
open PySem PySem.W PyProof.Rows
abbrev g(p:Array Nat)(i:Nat):Nat:=p.getD i 0
variable {p:Array Nat}
theorem g_of{q:Array Nat}{i j:Nat}(h:p[i]? = q[j]?):g p i=g q j:=by
 show p.getD i 0=q.getD j 0;rw[Array.getD_eq_getD_getElem?,Array.getD_eq_getD_getElem?,h]
theorem zdV{i j:Nat}(hj:j<=p.size)(k:Nat):g (kas_rev p i j) k=if i<=k/\k<j then g p (i+j-1-k)else g p k:=by
 have e:=getElem?_mirror_all (xs:=p) (i:=i) hj k;by_cases c:i<=k/\k<j
 ·rw[if_pos c]at e ⊢;exact g_of e
 ·rw[if_neg c]at e ⊢;exact g_of e
theorem g_bub{s d:Nat}(hs:s<p.size)(hd:d<=s)(k:Nat):g (bubble p s d) k=if k=s-d then g p s else if s-d<k/\k<=s then g p (k-1)else g p k:=by
 have e:=getElem?_bubble hs d hd k;by_cases c:k=s-d
 ·rw[if_pos c]at e ⊢;exact g_of e
 ·rw[if_neg c]at e ⊢;by_cases c2:s-d<k/\k<=s
  ·rw[if_pos c2]at e ⊢;exact g_of e
  ·rw[if_neg c2]at e ⊢;exact g_of e
section
variable (key:Nat->Int)(N:Nat)
def R(a b:Nat):Prop:=key a<key b\/key a=key b/\a<b
structure B (p:Array Nat) (m:Nat):Prop where
 pm:p.Perm (List.range N).toArray
 tl:∀i,m<=i->i<N->g p i=i
 lo:∀i,i<m->g p i<m
 le:m<=N
def I(p:Array Nat)(m:Nat):Prop:=B N p m/\∀i j,i<j->j<m->R key (g p i) (g p j)
def E(p:Array Nat)(m:Nat):Prop:=B N p m/\∀i j,i<j->j<m->R key (g p j) (g p i)
structure D (p:Array Nat) (m b:Nat):Prop where
 bs:B N p m
 lt:b<m
 ds:∀i j,i<j->j<b->R key (g p j) (g p i)
 sp:∀i j,i<b->b<=j->j<m->key (g p j)<key (g p i)
 bk:∀i j,b<=i->i<j->j<m->key (g p i)=key (g p j)/\g p i<g p j
def ck(i j:Nat)(C:Bool->Shared->Prop)(s:Shared):Prop:=i<N/\j<N/\C (decide (key i<key j)) s
variable {key N}
variable {p:Array Nat}{m:Nat}
theorem B.size(b:B N p m):p.size=N:=by
 have:=b.pm.size_eq
 simpa using this
theorem B.lt(b:B N p m){i:Nat}(h:i<N):g p i<N:=by
 by_cases c:i<m
 ·have:=b.lo i c;have:=b.le;omega
 ·rw[b.tl i (by omega) h];exact h
theorem B.rev{i j:Nat}(b:B N p m)(hj:j<=m):B N (kas_rev p i j) m:=by
 have hs:j<=p.size:=by have:=b.size;have:=b.le;omega
 refine⟨(mirror_perm _ _ _ _).trans b.pm,λk h1 h2=>?_,λk h=>?_,b.le⟩
 ·rw[zdV hs,if_neg (by omega)];exact b.tl k h1 h2
 ·rw[zdV hs];split
  ·exact b.lo _ (by omega)
  ·exact b.lo _ h
theorem B.up(b:B N p m)(h:m<N):B N p (m+1):=by
 refine⟨b.pm,λi h1 h2=>b.tl i (by omega) h2,λi hi=>?_,h⟩;by_cases c:i<m
 ·have:=b.lo i c;omega
 ·have e:i=m:=by omega
  rw[e,b.tl m (le_refl _) h];omega
variable {b:Nat}
theorem R.le{a:Nat}(h:R key a b):key a<=key b:=by
 rcases h with h | h
 ·omega
 ·omega
theorem R.of{a:Nat}(h:key a<=key b)(l:a<b):R key a b:=by
 by_cases c:key a<key b
 ·exact .inl c
 ·exact .inr ⟨by omega,l⟩
theorem I.turn(h:I key N p m):E key N (kas_rev p 0 m) m:=by
 have hs:m<=p.size:=by have:=h.1.size;have:=h.1.le;omega
 refine⟨h.1.rev (le_refl _),λi j hij hj=>?_⟩;rw[zdV hs,zdV hs,if_pos ⟨zero_le _,hj⟩,if_pos ⟨zero_le _,by omega⟩];exact h.2 _ _ (by omega) (by omega)
theorem E.turn(h:E key N p m):I key N (kas_rev p 0 m) m:=by
 have hs:m<=p.size:=by have:=h.1.size;have:=h.1.le;omega
 refine⟨h.1.rev (le_refl _),λi j hij hj=>?_⟩;rw[zdV hs,zdV hs,if_pos ⟨zero_le _,by omega⟩,if_pos ⟨zero_le _,hj⟩];exact h.2 _ _ (by omega) (by omega)
theorem D.one(h:D key N p (m+1) m):E key N p (m+1):=by
 refine⟨h.bs,λi j hij hj=>?_⟩;by_cases c:j<m
 ·exact h.ds i j hij c
 ·have e:j=m:=by omega
  subst e;exact .inl (h.sp i j hij (le_refl _) (by omega))
theorem D.turn(h:D key N p m b):E key N (kas_rev p b m) m:=by
 have hs:m<=p.size:=by have:=h.bs.size;have:=h.bs.le;omega
 have hl:=h.lt;refine⟨h.bs.rev (le_refl _),λi j hij hj=>?_⟩;rw[zdV hs,zdV hs];by_cases c:j<b
 ·rw[if_neg (by omega),if_neg (by omega)];exact h.ds i j hij c
 ·rw[if_pos ⟨by omega,hj⟩];by_cases c2:i<b
  ·rw[if_neg (by omega)];exact .inl (h.sp i _ c2 (by omega) (by omega))
  ·rw[if_pos ⟨by omega,by omega⟩];have z:=h.bk (b+m-1-j) (b+m-1-i) (by omega) (by omega) (by omega);exact .inr z
theorem E.step(h:E key N p m)(h1:1<=m)(hm:m<N)(hk:key (g p m)<key (g p (m-1))):D key N p (m+1) m:=by
 refine⟨h.1.up hm,by omega,h.2,λi j hi h2 h3=>?_,λi j h2 h3 h4=>by omega⟩;have e:j=m:=by omega
 subst e;by_cases c:i=j-1
 ·subst c;exact hk
 ·have:=(h.2 i (j-1) (by omega) (by omega)).le;omega
theorem D.same(h:D key N p m b)(hm:m<N)(hk:key (g p m)=key (g p (m-1))):D key N p (m+1) b:=by
 have hl:=h.lt;refine⟨h.bs.up hm,by omega,h.ds,λi j hi h2 h3=>?_,λi j h2 h3 h4=>?_⟩
 ·by_cases c:j<m
  ·exact h.sp i j hi h2 c
  ·have e:j=m:=by omega
   subst e;rw[hk];exact h.sp i _ hi (by omega) (by omega)
 ·by_cases c:j<m
  ·exact h.bk i j h2 h3 c
  ·have e:j=m:=by omega
   subst e;refine⟨?_,by rw[h.bs.tl j (le_refl _) hm];exact h.bs.lo i h3⟩;rw[hk];by_cases c2:i=j-1
   ·rw[c2]
   ·exact(h.bk i (j-1) h2 (by omega) (by omega)).1
theorem I.up(h:I key N p m)(h1:1<=m)(hm:m<N)(hk:¬key (g p m)<key (g p (m-1))):I key N p (m+1):=by
 refine⟨h.1.up hm,λi j hij hj=>?_⟩;by_cases c:j<m
 ·exact h.2 i j hij c
 ·have e:j=m:=by omega
  subst e;refine R.of ?_ (by rw[h.1.tl j (le_refl _) hm];exact h.1.lo i hij);by_cases c2:i=j-1
  ·rw[c2];omega
  ·have:=(h.2 i (j-1) (by omega) (by omega)).le;omega
variable {s:Shared}
theorem asc{Q:Nat->Shared->Prop}:∀(f m:Nat),m+f=N->1<=m->I key N p m->(∀m',m<=m'->m'<=N->I key N p m'->(m'<N->key (g p m')<key (g p (m'-1)))->Q m' s)->(kas_asc p f m).kasWp (ck key N) Q s
 | 0,m,e,h1,h,q=>q m (le_refl _) (by omega) h (by omega)
 | f+1,m,e,h1,h,q=>by
   refine⟨h.1.lt (by omega),h.1.lt (by omega),?_⟩;by_cases c:key (g p m)<key (g p (m-1))
   ·rw[decide_eq_true c];dsimp only;rw[if_pos rfl];exact q m (le_refl _) (by omega) h λ_=>c
   ·rw[decide_eq_false c];dsimp only;rw[if_neg Bool.false_ne_true];exact asc f (m+1) (by omega) (by omega) (h.up h1 (by omega) c) λm' l1 l2=>q m' (by omega) l2
theorem desc{Q:Array Nat×Nat×Nat->Shared->Prop}{s:Shared}:∀(f:Nat)(p:Array Nat)(m q:Nat),m+f=N->q+1<=m->D key N p m (m-(q+1)) ->
 (∀p' m' q',m'<=N->q'+1<=m'->D key N p' m' (m'-(q'+1))->Q (p',m',q') s)->(kas_desc f p m q).kasWp (ck key N) Q s
 | 0,p,m,q,e,hq,h,k=>k p m q (by omega) hq h
 | f+1,p,m,q,e,hq,h,k=>by
   refine⟨h.bs.lt (by omega),h.bs.lt (by omega),?_⟩;by_cases c:key (g p m)<key (g p (m-1))
   ·rw[decide_eq_true c];dsimp only;rw[if_pos rfl];by_cases cq:q > 0
    ·rw[if_pos cq];refine desc f _ (m+1) 0 (by omega) (by omega) ?_ k;have hs:m<=p.size:=by have:=h.bs.size;omega
     refine h.turn.step (by omega) (by omega) ?_;rw[zdV hs,zdV hs,if_neg (by omega),if_pos ⟨by omega,by omega⟩];have z:=(h.bk (m-(q+1)) (m-1) (le_refl _) (by omega) (by omega)).1;rw[show m-(q+1)+m-1-(m-1)=m-(q+1)by omega,z];exact c
    ·rw[if_neg cq];have e0:q=0:=by omega
     subst e0;refine desc f _ (m+1) 0 (by omega) (by omega) ?_ k;obtain⟨r,rfl⟩:∃r,m=r+1:=⟨m-1,by omega⟩;exact E.step (D.one h) (by omega) (by omega) c
   ·rw[decide_eq_false c];dsimp only;rw[if_neg Bool.false_ne_true];refine⟨h.bs.lt (by omega),h.bs.lt (by omega),?_⟩;by_cases d:key (g p (m-1))<key (g p m)
    ·rw[decide_eq_true d];dsimp only;rw[if_pos rfl];exact k p m q (by omega) hq h
    ·rw[decide_eq_false d];dsimp only;rw[if_neg Bool.false_ne_true];refine desc f p (m+1) (q+1) (by omega) (by omega) ?_ k;rw[show m+1-(q+1+1)=m-(q+1)by omega];exact h.same (by omega) (by omega)
variable {Q:Nat×Array Nat->Shared->Prop}
theorem tail3(h1:1<=m)(h:E key N p m)(q:∀m' p',1<=m'->m'<=N->I key N p' m'->Q (m',p') s):(kas_tail3 m N p).kasWp (ck key N) Q s:=by
 unfold kas_tail3;rw[KasT.kasWp_bind];have:=h.1.le;exact asc (N-m) m (by omega) h1 h.turn λm' l1 l2 z _=>q m' _ (by omega) l2 z
theorem zjN(h1:1<=m)(hm:m<N)(h:E key N p m)(hk:key (g p m)<key (g p (m-1)))(q:∀m' p',1<=m'->m'<=N->I key N p' m'->Q (m',p') s):(kas_descPart m N p).kasWp (ck key N) Q s:=by
 unfold kas_descPart;rw[KasT.kasWp_bind];refine desc (N-(m+1)) p (m+1) 0 (by omega) (by omega) (h.step h1 hm hk) λp' m' q' l1 l2 d=>?_;dsimp only;by_cases c:q' > 0
 ·rw[if_pos c];exact tail3 (by omega) d.turn q
 ·rw[if_neg c];have e0:q'=0:=by omega
  subst e0;obtain⟨r,rfl⟩:∃r,m'=r+1:=⟨m'-1,by omega⟩;exact tail3 (by omega) (D.one d) q
theorem count(h1:1<=N)(h:I key N p 1)(q:∀m' p',1<=m'->m'<=N->I key N p' m'->Q (m',p') s):(kas_count N p).kasWp (ck key N) Q s:=by
 unfold kas_count;rw[KasT.kasWp_bind];refine asc (N-1) 1 (by omega) (le_refl _) h λm l1 l2 z hk=>?_;by_cases c:m=N
 ·rw[if_pos (by rw[c];exact beq_self_eq_true N)];exact q m p l1 l2 z
 ·rw[if_neg (by intro b;exact c (eq_of_beq b))];have hm:m<N:=by omega
  have hk:=hk hm;by_cases c1:m > 1
  ·rw[if_pos c1];refine⟨z.1.lt (by omega),z.1.lt (by omega),?_⟩;by_cases d:key (g p 0)<key (g p (m-1))
   ·rw[decide_eq_true d];dsimp only;rw[if_pos rfl];exact q m p l1 l2 z
   ·rw[decide_eq_false d];dsimp only;rw[if_neg Bool.false_ne_true];have hs:m<=p.size:=by have:=z.1.size;omega
    refine zjN l1 hm z.turn ?_ q;rw[zdV hs,zdV hs,if_neg (by omega),if_pos ⟨by omega,by omega⟩,show 0+m-1-(m-1)=0 by omega];omega
  ·rw[if_neg c1];have e:m=1:=by omega
   subst e;exact zjN l1 hm ⟨z.1,λi j a b=>by omega⟩ hk q
theorem place{p:Array Nat}{k:Nat}{Q:Nat->Shared->Prop}{s:Shared}(hk:k<N)(h:I key N p k):∀(f l r:Nat),r<=l+f->l<=r->r<=k->(∀i,i<l->key (g p i)<=key (g p k))->(∀i,r<=i->i<k->key (g p k)<key (g p i)) ->
 (∀l',l'<=k->(∀i,i<l'->key (g p i)<=key (g p k))->(∀i,l'<=i->i<k->key (g p k)<key (g p i))->Q l' s)->(kas_place p k f l r).kasWp (ck key N) Q s
 | 0,l,r,e,h1,h2,a,b,q=>q l (by omega) a λi x y=>b i (by omega) y
 | f+1,l,r,e,h1,h2,a,b,q=>by
   unfold kas_place;by_cases c:l >= r
   ·rw[if_pos c];exact q l (by omega) a λi x y=>b i (by omega) y
   ·rw[if_neg c];have h3:(l+r)/2<r:=by omega
    have h4:l<=(l+r)/2:=by omega
    generalize (l+r)/2=m at h3 h4;refine⟨h.1.lt hk,h.1.lt (by omega),?_⟩;by_cases d:key (g p k)<key (g p m)
    ·rw[decide_eq_true d];dsimp only;rw[if_pos rfl];refine place hk h f l m (by omega) h4 (by omega) a (λi x y=>?_) q;by_cases c2:i=m
     ·rw[c2];exact d
     ·have:=(h.2 m i (by omega) y).le;omega
    ·rw[decide_eq_false d];dsimp only;rw[if_neg Bool.false_ne_true];refine place hk h f (m+1) r (by omega) (by omega) h2 (λi x=>?_) b q;by_cases c2:i=m
     ·rw[c2];omega
     ·have:=(h.2 i m (by omega) (by omega)).le;omega
theorem I.put{k l:Nat}(hk:k<N)(h:I key N p k)(hl:l<=k)(a:∀i,i<l->key (g p i)<=key (g p k))(b:∀i,l<=i->i<k->key (g p k)<key (g p i)):I key N (bubble p k (k-l)) (k+1):=by
 have hs:k<p.size:=by rw[h.1.size];exact hk
 have hg:=λi=>g_bub hs (Nat.sub_le k l) i;rw[show k-(k-l)=l by omega]at hg;refine⟨⟨(bubble_perm _ _ _).trans h.1.pm,λi h1 h2=>?_,λi hi=>?_,hk⟩,λi j hij hj=>?_⟩
 ·rw[hg,if_neg (by omega),if_neg (by omega)];exact h.1.tl i (by omega) h2
 ·rw[hg];by_cases c:i=l
  ·rw[if_pos c,h.1.tl k (le_refl _) hk];omega
  ·rw[if_neg c];by_cases c2:l<i/\i<=k
   ·rw[if_pos c2];have:=h.1.lo (i-1) (by omega);omega
   ·rw[if_neg c2];have:=h.1.lo i (by omega);omega
 ·rw[hg i,hg j];by_cases c1:j<l
  ·rw[if_neg (by omega),if_neg (by omega),if_neg (by omega),if_neg (by omega)];exact h.2 i j hij (by omega)
  ·by_cases c2:j=l
   ·rw[if_pos c2,if_neg (by omega),if_neg (by omega)];exact R.of (a i (by omega)) (by rw[h.1.tl k (le_refl _) hk];exact h.1.lo i (by omega))
   ·rw[if_neg c2,if_pos (show l<j/\j<=k by omega)];by_cases c3:i=l
    ·rw[if_pos c3];exact .inl (b (j-1) (by omega) (by omega))
    ·rw[if_neg c3];by_cases c4:i<l
     ·rw[if_neg (by omega)];exact h.2 i (j-1) (by omega) (by omega)
     ·rw[if_pos (by omega)];exact h.2 (i-1) (j-1) (by omega) (by omega)
theorem bin{Q:Array Nat->Shared->Prop}(q:∀p',I key N p' N->Q p' s):∀(f:Nat)(p:Array Nat)(k:Nat),k+f=N->I key N p k->(kas_bin f p k).kasWp (ck key N) Q s
 | 0,p,k,e,h=>q p (by rw[Nat.add_zero]at e;rw[<-e];rw[e]at h ⊢;exact h)
 | f+1,p,k,e,h=>by
   unfold kas_bin;rw[KasT.kasWp_bind];refine place (by omega) h k 0 k (by omega) (zero_le _) (le_refl _) (λi x=>by omega) (λi x y=>by omega) λl l1 a b=>?_;exact bin q f _ (k+1) (by omega) (h.put (by omega) l1 a b)
theorem zbr(h1:1<=N):I key N (List.range N).toArray 1:=by
 have e:∀i,i<N->g (List.range N).toArray i=i:=λi h=>by
  show(List.range N).toArray.getD i 0=i;simp[Array.getD,h]
 exact⟨⟨Array.Perm.refl _,λi _ h=>e i h,λi h=>by rw[e i (by omega)];exact h,h1⟩,λi j a b=>by omega⟩
theorem sort{Q:Array Nat->Shared->Prop}(h1:1<=N)(q:∀p,I key N p N->Q p s):(kas_sort N).kasWp (ck key N) Q s:=by
 unfold kas_sort;rw[KasT.kasWp_bind];refine count h1 (zbr h1) λm p l1 l2 h=>?_;dsimp only;by_cases c:m<N
 ·rw[if_pos c,show max m 1=m by omega];exact bin q (N-m) p m (by omega) h
 ·rw[if_neg c];have e:m=N:=by omega
  subst e;exact q p h
end
end M14
namespace L2
open PySem PySem.W PySem.Calls PyProof.Rows
theorem wp_cmp{α:Type}{c c':Nat->Nat->(Bool->Shared->Prop)->Shared->Prop}{Q:α->Shared->Prop}(m:∀i j C C' s,(∀b s',C b s'->C' b s')->c i j C s->c' i j C' s):
 ∀(t:KasT α)(s:Shared),t.kasWp c Q s->t.kasWp c' Q s
 | .ret _,_,h=>h
 | .ask i j k,s,h=>m i j _ _ s (λb s' z=>wp_cmp m (k b) s' z) h
section
variable {X:Cx}{pins:List (Addr×Obj)}{σ:St}{H:Hp}{s:Shared}{a kS:Addr}{A:Around}{E:Value->Shared->Prop}
structure Own (X:Cx) (pins:List (Addr×Obj)) (H:Hp) (a:Addr):Prop where
 free:H a=none
 loc:a≠X.env.locals
 new:X.s₀.heap.objs.size<=a
 cell:∀x c,X.env.cells.lookup x=some c->c≠a
 pin:∀p∈X.pn++pins,p.1≠a
 fs:a∉X.fs
theorem Inv.own(I:Inv X pins σ H s){b:Addr}(h:s.heap.objs.size<=b):Own X pins H b:=by
 refine⟨I.hok.fresh h,λz=>?_,le_trans I.sz h,λx c e z=>?_,λp hp z=>?_,I.nofs h⟩
 ·have:=I.lt;rw[<-z]at this;exact absurd this (Nat.not_lt.mpr h)
 ·obtain⟨v,hv⟩:=I.cell x c e;obtain⟨o,ho,_⟩:=hv;have:=lt_size ho;rw[z]at this;exact absurd this (Nat.not_lt.mpr h)
 ·have:=lt_size (I.pin p hp).1;rw[z]at this;exact absurd this (Nat.not_lt.mpr h)
theorem Inv.swap{f:Obj->Obj}(I:Inv X pins σ H s)(o:Own X pins H a):Inv X pins σ H { s with heap:=s.heap.update a f } :=
 I.turned (it:=a) (λb u hb hu=>(get?_update_other s.heap f (Ne.symm hb)).trans hu) o.free o.loc (.inr o.new) o.cell o.pin
variable {u:Obj}
theorem Inv.hold(I:Inv X pins σ H s)(o:Own X pins H a)(e:s.heap.get? a=some u)(hu:∀v,u.data ≠ .cell v):Inv X ((a,u)::pins) σ H s :=
 I.pins_of λp hp=>by
  rcases List.mem_cons.mp hp with rfl | hp
  ·exact⟨e,o.free,o.loc,o.fs,hu⟩
  ·exact I.pin p (mem_append_right _ hp)
theorem Inv.drop{p:Addr×Obj}(I:Inv X (p::pins) σ H s):Inv X pins σ H s :=
 I.pins_of λq hq=>I.pin q (mem_append_right _ (mem_cons_of_mem _ hq))
theorem Inv.held(I:Inv X ((a,u)::pins) σ H s):s.heap.get? a=some u:=(I.pin (a,u) (mem_append_right _ (mem_cons_self ..))).1
theorem Own.more(o:Own X pins H a)(h:kS≠a):Own X ((kS,u)::pins) H a :=
 ⟨o.free,o.loc,o.new,o.cell,λp hp=>by
  rcases List.mem_append.mp hp with z | z
  ·exact o.pin p (mem_append_left _ z)
  ·rcases List.mem_cons.mp z with rfl | z
   ·exact h
   ·exact o.pin p (mem_append_right _ z),o.fs⟩
theorem nocell{vs:Array Value}{n:Nat}:∀v,(seqObj "list" vs n).data ≠ .cell v:=λv z=>by cases z
theorem zge:∀{ks:List Value}{kz:List Int},IntsAre ks kz->∀i,i<kz.length->∃t,ks.getD i Value.none=Value.int (kz.getD i 0) t
 | _,_,.cons n t r,0,_=>⟨t,rfl⟩
 | _,_,.cons n t r,i+1,h=>zge r i (by simpa using h)
theorem zkM{vs:List Value}{kz:List Int}{e1:Nat}{body:Value->PUnit->Sem (ForInStep PUnit)}(hl:kz.length=vs.length)
 (hb:∀(v:Value)(ks:List Value)(e:Nat)(s:Shared),vs[ks.length]? = some v->Inv X ((kS,seqObj "list" ks.toArray e)::(a,seqObj "list" #[] e1)::pins) σ H s->IntsAre ks (kz.take ks.length) ->
   wpAny (model X.prog X.w) A (body v ⟨⟩) (λr s'=>r=.yield ⟨⟩/\∃(k:Value)(e':Nat),Inv X ((kS,seqObj "list" (ks++[k]).toArray e')::(a,seqObj "list" #[] e1)::pins) σ H s'/\IntsAre (ks++[k]) (kz.take (ks++[k]).length)) E s) :
 ∀(r:List Value)(ks:List Value)(e:Nat)(s:Shared),vs.drop ks.length=r->ks.length<=vs.length->Inv X ((kS,seqObj "list" ks.toArray e)::(a,seqObj "list" #[] e1)::pins) σ H s->IntsAre ks (kz.take ks.length) ->
  wpAny (model X.prog X.w) A (forIn r PUnit.unit body) (λ_ s'=>∃(ks:List Value)(e:Nat),Inv X ((kS,seqObj "list" ks.toArray e)::(a,seqObj "list" #[] e1)::pins) σ H s'/\IntsAre ks kz) E s
 | [],ks,e,s,hd,hz,I,hi=>by
   rw[forIn_nil];have:vs.length<=ks.length:=by
    have:=congrArg List.length hd;rw[length_drop,length_nil]at this;omega
   refine wpAny_pure ⟨ks,e,I,?_⟩;rw[take_of_length_le (by omega)]at hi;exact hi
 | v::r,ks,e,s,hd,hz,I,hi=>by
   rw[forIn_cons];have hv:vs[ks.length]? = some v:=by
    have:=congrArg List.head? hd;rw[List.head?_drop]at this;exact this
   have hlt:ks.length<vs.length:=(List.getElem?_eq_some_iff.mp hv).1;refine wpAny_bind (wpAny_mono (hb v ks e s hv I hi) (λq s' hq=>?_) λ_ _ x=>x);obtain⟨rfl,k,e',I',hi'⟩:=hq;show wpAny (model X.prog X.w) A (forIn r PUnit.unit body) _ E s';have hlen:(ks++[k]).length=ks.length+1:=by rw[length_append,length_singleton]
   refine zkM hl hb r (ks++[k]) e' s' ?_ (by omega) I' hi';rw[hlen,<-List.drop_drop,hd];rfl
theorem key_tail{st:SortSt}{ks out:List Value}{e e1:Nat}(I:Inv X ((kS,seqObj "list" ks.toArray e)::(a,seqObj "list" #[] e1)::pins) σ H s)(o:Own X pins H a)(ok:Own X pins H kS)(hka:kS≠a)(hz:ks.length<64)(hz2:out.length<64)
 (ho:(arrOf st).map (·.2)=List.toArray out) (hf:failedOf st=none) :
 wpAny (model X.prog X.w) A (ksk_tail a false e1 (.ref kS) st) (λr s'=>r=.done (.ret .none)/\Inv X pins σ H s'/\∃e,s'.heap.get? a=some (seqObj "list" out.toArray e)) E s:=by
 have hln:=zt;have hk:=I.held;have ha:=I.drop.held;have I1:=I.drop.drop.swap (f:=Obj.mapSeq λ_=>(#[]:Array Value)) ok;have ha1:(s.heap.update kS (Obj.mapSeq λ_=>(#[]:Array Value))).get? a=some (seqObj "list" #[] e1):=(get?_update_other s.heap _ hka).trans ha;have I2:=I1.swap (f:=Obj.mapSeq λ_=>out.toArray) o;obtain⟨c2,hc2⟩:∃c2,((s.heap.update kS (Obj.mapSeq λ_=>(#[]:Array Value))).update a (Obj.mapSeq λ_=>out.toArray)).get? a=some (seqObj "list" out.toArray c2):=⟨_,get?_update_seq ha1 λ_=>out.toArray⟩;unfold ksk_tail
 try dsimp only
 rw[ho];refine wpAny_bind (listUpdate_at hk rfl ?_ (by rw[size_toArray];omega) (zero_le _));refine wpAny_bind (wpAny_letGo ?_);refine wpAny_bind (seqEpoch_at ha1 rfl ?_);simp only[Bool.false_eq_true,if_false];refine wpAny_bind (listUpdate_at ha1 rfl ?_ (zero_le _) (by rw[size_toArray];omega));rw[hf];simp only[bne_self_eq_false,Bool.false_eq_true,if_false];exact wpAny_pure ⟨rfl,I2,c2,hc2⟩
theorem keyed{f:Value}{vs:List Value}{n:Nat}{kz:List Int}(I:Inv X pins σ H s)(o:Own X pins H a)(ho:s.heap.get? a=some (seqObj "list" vs.toArray n))(h1:1<=vs.length)(h64:vs.length<64)(hl:kz.length=vs.length)
 (calls:∀(i:Nat)(v:Value)(pins':List (Addr×Obj)) (s':Shared),vs[i]? = some v->Inv X pins' σ H s'->wpAny (model X.prog X.w) A (call f [v]) (λk s''=>Inv X pins' σ H s''/\∃t,k=Value.int (kz.getD i 0) t) (λ_ _=>False) s') :
 wpAny (model X.prog X.w) A (ksk_tree a f false) (λr s'=>r=.done (.ret .none)/\∃(p:Array Nat)(e:Nat),M14.I (λk=>kz.getD k 0) vs.length p vs.length/\Inv X pins σ H s'/\s'.heap.get? a=some (seqObj "list" (p.toList.map λi=>vs.getD i Value.none).toArray e)) E s:=by
 have hln:=zt;have ha:a<s.heap.objs.size:=lt_size ho;have I1:=I.swap (f:=Obj.mapSeq λ_=>(#[]:Array Value)) o;obtain⟨e1,ho1⟩:∃e1,(s.heap.update a (Obj.mapSeq λ_=>(#[]:Array Value))).get? a=some (seqObj "list" #[] e1):=⟨_,get?_update_seq ho λ_ => #[]⟩;unfold ksk_tree;refine wpAny_bind (listItems_at ho rfl ?_);refine wpAny_bind (listUpdate_at ho rfl ?_ (by rw[size_toArray];omega) (zero_le _));refine wpAny_bind (seqEpoch_at ho1 rfl ?_);refine wpAny_bind (wpAny_newTuple ?_ (by show vs.length<=_;omega));refine wpAny_bind (wpAny_newList ?_ (zero_le _));refine wpAny_holding ?_;have I2:Inv X pins σ H { s with heap:=(s.heap.update a (Obj.mapSeq λ_=>(#[]:Array Value))).push (seqObj "tuple" vs.toArray 0) }:=I1.kept (t':=s.toks) λb u q=>get?_push_of_some _ q;have I3:Inv X pins σ H { s with heap:=((s.heap.update a (Obj.mapSeq λ_=>(#[]:Array Value))).push (seqObj "tuple" vs.toArray 0)).push (seqObj "list" #[] 0) }:=I2.kept (t':=s.toks) λb u q=>get?_push_of_some _ q;have ok:=I2.own (b:=((s.heap.update a (Obj.mapSeq λ_=>(#[]:Array Value))).push (seqObj "tuple" vs.toArray 0)).objs.size) (le_refl _);have hka:((s.heap.update a (Obj.mapSeq λ_=>(#[]:Array Value))).push (seqObj "tuple" vs.toArray 0)).objs.size≠a:=by
  rw[size_push',size_update];exact ne_of_gt (lt_succ_of_lt ha)
 have hk0:(((s.heap.update a (Obj.mapSeq λ_=>(#[]:Array Value))).push (seqObj "tuple" vs.toArray 0)).push (seqObj "list" #[] 0)).get? ((s.heap.update a (Obj.mapSeq λ_=>(#[]:Array Value))).push (seqObj "tuple" vs.toArray 0)).objs.size=some (seqObj "list" #[] 0):=get?_push_size _ rfl;have ha0:(((s.heap.update a (Obj.mapSeq λ_=>(#[]:Array Value))).push (seqObj "tuple" vs.toArray 0)).push (seqObj "list" #[] 0)).get? a=some (seqObj "list" #[] e1):=get?_push_of_some _ (get?_push_of_some _ ho1);show wpAny _ _ (ksk_rest a f false vs.toArray e1 (.ref ((s.heap.update a (Obj.mapSeq λ_=>(#[]:Array Value))).push (seqObj "tuple" vs.toArray 0)).objs.size)) _ _ { s with heap:=((s.heap.update a (Obj.mapSeq λ_=>(#[]:Array Value))).push (seqObj "tuple" vs.toArray 0)).push (seqObj "list" #[] 0) };generalize ((s.heap.update a (Obj.mapSeq λ_=>(#[]:Array Value))).push (seqObj "tuple" vs.toArray 0)).objs.size=kS at ok hka hk0;generalize ((s.heap.update a (Obj.mapSeq λ_=>(#[]:Array Value))).push (seqObj "tuple" vs.toArray 0)).push (seqObj "list" #[] 0)=h3 at I3 hk0 ha0;clear I1 I2 ho1;have ok':∀e,Own X ((a,seqObj "list" #[] e)::pins) H kS:=λe=>ok.more (Ne.symm hka);have I4:=(I3.hold o ha0 nocell).hold (ok' e1) hk0 nocell;unfold ksk_rest;refine wpAny_bind (wpAny_rule ?_);rw[forIn_toArray];refine wpAny_bind (wpAny_mono (zkM (kz:=kz) (vs:=vs) hl (λv ks e s' hv I5 hi=>?_) vs [] 0 _ rfl (zero_le _) I4 .nil) (λ_ s' hd=>?_) λ_ _ x=>x)
 ·refine wpAny_bind (wpAny_attempt (wpAny_mono (calls ks.length v _ s' hv I5) (λk s'' hk=>?_) λ_ _ hF=>hF.elim));obtain⟨I6,t,rfl⟩:=hk;dsimp only;have hlt:ks.length<vs.length:=(List.getElem?_eq_some_iff.mp hv).1;have hk6:=I6.held;obtain⟨c2,hc2⟩:∃c2,(s''.heap.update kS (Obj.mapSeq (·.push (Value.int (kz.getD ks.length 0) t)))).get? kS=some (seqObj "list" (ks++[Value.int (kz.getD ks.length 0) t]).toArray c2) :=
   ⟨_,by rw[show(ks++[Value.int (kz.getD ks.length 0) t]).toArray=ks.toArray.push (Value.int (kz.getD ks.length 0) t)by simp];exact get?_update_seq hk6 (·.push _)⟩
  refine wpAny_bind (listUpdate_at hk6 rfl ?_ (by rw[size_toArray];omega) (by rw[Array.size_push,size_toArray];omega));exact wpAny_pure ⟨rfl,_,c2,(I6.drop.swap (ok' e1)).hold (ok' e1) hc2 nocell,by rw[length_append,length_singleton,List.take_add_one];exact hi.append (by rw[getElem?_eq_getElem (by omega),getD_eq_getElem?_getD,getElem?_eq_getElem (by omega)];exact .cons _ t .nil)⟩
 ·obtain⟨ks,e,I7,hi⟩:=hd;have hk7:=I7.held;have I8:=I7.drop;have ha8:=I8.held;have hkl:ks.length=vs.length:=by rw[hi.length,hl]
  refine wpAny_bind (listItems_at hk7 rfl ?_);have fin:∀(st:SortSt)(p:Array Nat),M14.I (λk=>kz.getD k 0) vs.length p vs.length->arrOf st=p.map (kas_item (ks.toArray.zip vs.toArray))->failedOf st=none ->
   wpAny (model X.prog X.w) A (ksk_tail a false e1 (.ref kS) st) (λr s'=>r=.done (.ret .none)/\∃(p:Array Nat)(e:Nat),M14.I (λk=>kz.getD k 0) vs.length p vs.length/\Inv X pins σ H s'/\s'.heap.get? a=some (seqObj "list" (p.toList.map λi=>vs.getD i Value.none).toArray e)) E s':=λst p hp har hf =>
   wpAny_mono (key_tail (out:=p.toList.map λi=>vs.getD i Value.none) I7 o ok hka (by omega) (by rw[length_map,Array.length_toList,hp.1.size];exact h64) (kat_snds hkl har) hf) (λr s2 z=>⟨z.1,p,_,hp,z.2.1,z.2.2.choose_spec⟩) λ_ _ x=>x
  unfold ksk_end;simp only[Bool.false_eq_true,if_false];by_cases h2:vs.length<2
  ·have hs2:vs.toArray.size<2:=by rw[size_toArray];exact h2
   rw[if_pos hs2,if_pos hs2];refine wpAny_bind (wpAny_pure ?_);refine wpAny_bind (wpAny_pure ?_);have hN:vs.length=1:=by omega
   have z:∀m,m=1->M14.I (λk=>kz.getD k 0) vs.length (List.range vs.length).toArray m:=λm e=>by rw[e];exact M14.zbr h1
   refine fin _ _ (z _ hN) ?_ rfl;have e:=kas_range (ks.toArray.zip vs.toArray);rw[show(ks.toArray.zip vs.toArray).size=vs.length by simp[hkl]]at e;exact e.symm
  ·have hs2:¬vs.toArray.size<2:=by rw[size_toArray];exact h2
   rw[if_neg hs2,if_neg hs2,ksk_kind (kz:=kz) (by simpa using hi) (by rw[size_toArray];omega)];refine wpAny_bind (wpAny_pure ?_);have ask:(kas_sort vs.length).kasWp (kas_ask X.prog X.w A oneType' ks) (λp s2=>M14.I (λk=>kz.getD k 0) vs.length p vs.length/\s2=s') s':=by
    refine wp_cmp (c:=M14.ck (λk=>kz.getD k 0) vs.length) (λi j C C' s0 m h=>?_) _ _ (M14.sort h1 λp hp=>⟨hp,rfl⟩);obtain⟨hi1,hj1,hc⟩:=h;obtain⟨t,et⟩:=zge hi i (by omega);obtain⟨u,eu⟩:=zge hi j (by omega);unfold kas_ask;rw[et,eu];exact kat_lt_int (m _ _ hc)
   refine wpAny_bind (wpAny_mono (kat_run (Q:=λst' s2=>∃p:Array Nat,M14.I (λk=>kz.getD k 0) vs.length p vs.length/\arrOf st'=p.map (kas_item (ks.toArray.zip vs.toArray))/\failedOf st'=none/\s2=s') hkl (by omega) h64 (λp' st' s2 a1 a2 a3 a4=>⟨p',a4.1,a2,a3,a4.2⟩) ask) ?_ λ_ _ x=>x);rintro ⟨⟨⟩,st'⟩ s2 ⟨p,hp,har,hf,rfl⟩;exact fin _ _ hp har hf
end
end L2
namespace L2
open PySem PySem.W
abbrev zh1(h:Heap)(z TI TO T:Addr)(b:Bool):Prop :=
 h.get? z=some { cls:=.type "zip",dict:=none,data:=.fields #[rawInt T,.bool b,.bool false,.ref TI,.ref TO],slots := #[] }
section
variable {P:Program}{w:World}{A:Around}{E:Value->Shared->Prop}{s:Shared}{z TI TO T i1 i2 l1 l2:Addr}{b:Bool}
theorem zjW{Q:Bool->Shared->Prop}(hz:zh1 s.heap z TI TO T b)(hT:∃o,s.heap.get? T=some o)(q:∀h',zh1 h' z TI TO T true->SameBut z s.heap h'->Q false { s with heap:=h' }):
 wpAny (model P w) A (Builtin.SmallTypes.ownedTupleIsFree (.ref z)) Q E s:=by
 obtain⟨o,ho⟩:=hT;unfold Builtin.SmallTypes.ownedTupleIsFree;refine wpAny_bind (wpAny_field hz rfl (x:=rawInt T) rfl ?_);show wpAny _ _ (loadIfAlive ((T:Int).toNat) >>= _) _ _ _;rw[Int.toNat_natCast];refine wpAny_bind (kdx_alive ho ?_);simp only[Option.isNone_some,if_false,Bool.false_eq_true];refine wpAny_bind (wpAny_field hz rfl (x:=.bool b) rfl ?_);cases b with
 | true =>
   rw[if_neg (show ¬((Value.bool true != Value.bool true)=true)by decide)];exact wpAny_pure (q _ hz (Heap.SameBut.refl _ _))
 | false =>
   rw[if_pos (show(Value.bool false != Value.bool true)=true by decide)];exact wpAny_bind (wpAny_setField_rec hz (by simp) λh₃ e₃ s₃=>wpAny_pure (q h₃ e₃ s₃))
variable {k1:Nat}{xs ys:Array Value}
theorem zip_busy{k2:Nat}{x y:Value}{Q:Value->Shared->Prop}(D:ZipApart z TI TO i1 i2 l1 l2)(hz:zh1 s.heap z TI TO T b)(hT:∃o,s.heap.get? T=some o)(hTI:IsPair s.heap TI (.ref i1) (.ref i2))
 (h1:s.heap.IsListIter i1 l1 k1) (h2:s.heap.IsListIter i2 l2 k2) (hl1:s.heap.IsList l1 xs) (hl2:s.heap.IsList l2 ys) (hx:xs[k1]? = some x) (hy:ys[k2]? = some y)
 (q:∀h',zh1 h' z TI TO T true->h'.IsListIter i1 l1 (k1+1)->h'.IsListIter i2 l2 (k2+1)->IsPair h' s.heap.objs.size x y->h'.objs.size=s.heap.objs.size+1 ->
   (∀c o,c≠z->c≠i1->c≠i2->s.heap.get? c=some o->h'.get? c=some o)->Q (.ref s.heap.objs.size) { s with heap:=h' }) :
 wpAny (model P w) A (Builtin.«zip.__next__» ⟨[.ref z],[]⟩) (λr s'=>∃v,r=.done (.ret v)/\Q v s') E s:=by
 show wpAny (model P w) A (field (.ref z) 2 >>= _) _ _ _;refine wpAny_bind (wpAny_field hz (x:=.bool false) rfl rfl ?_);show wpAny (model P w) A (field (.ref z) 3 >>= _) _ _ _;refine wpAny_bind (wpAny_field hz (x:=.ref TI) rfl rfl ?_);refine wpAny_bind (wpAny_seqItems hTI rfl ?_);show wpAny (model P w) A (Builtin.SmallTypes.ownedTupleIsFree (.ref z) >>= _) _ _ _;refine wpAny_bind (zjW hz hT λh₁ z₁ s₁=>?_);simp only[if_false,Bool.false_eq_true];rw[show(#[Value.ref i1,Value.ref i2]:Array Value)=[Value.ref i1,Value.ref i2].toArray from rfl,forIn_toArray];simp only[forIn_cons,forIn_nil];refine wpAny_bind (wpAny_bind (wpAny_bind (wpAny_holding ?_)));show wpAny (model P w) A (Builtin.SmallTypes.nextOf (.ref i1) >>= _) _ _ _;refine wpAny_bind (wpAny_nextOf_list_item (h1.extBut s₁.extBut D.i1z) (hl1.extBut s₁.extBut D.l1z) hx λh₂ a₂ s₂=>wpAny_pure (wpAny_pure ?_));refine wpAny_bind (wpAny_bind (wpAny_holding ?_));show wpAny (model P w) A (Builtin.SmallTypes.nextOf (.ref i2) >>= _) _ _ _;refine wpAny_bind (wpAny_nextOf_list_item ((h2.extBut s₁.extBut D.i2z).extBut s₂.extBut D.i12.symm) ((hl2.extBut s₁.extBut D.l2z).extBut s₂.extBut D.l2i1) hy λh₃ a₃ s₃=>wpAny_pure (wpAny_pure (wpAny_pure ?_)));refine wpAny_bind (wpAny_newTuple (wpAny_pure ⟨_,rfl,?_⟩) (by show 2<=sizeLine;decide));have hsz:h₃.objs.size=s.heap.objs.size:=by rw[s₃.1,s₂.1,s₁.1]
 show Q (.ref h₃.objs.size) _;rw[hsz];have up:∀c o,h₃.get? c=some o->(h₃.push { cls:=.type "tuple",data:=.seq #[x,y] }).get? c=some o:=λc o e=>get?_push_of_some _ e;refine q _ (up _ _ (s₃.extBut _ _ D.i2z.symm (s₂.extBut _ _ D.i1z.symm z₁))) ?_ ?_ ?_ ?_ λc o c1 c2 c3 e=>up _ _ (s₃.extBut _ _ c3 (s₂.extBut _ _ c2 (s₁.extBut _ _ c1 e)))
 ·exact(a₂.extBut s₃.extBut D.i12).at λo e=>up _ o e
 ·exact a₃.at λo e=>up _ o e
 ·rw[<-hsz];exact get?_push_size _ rfl
 ·exact(size_push ..).trans (by rw[hsz])
theorem zip_over{k2:Nat}{ys:Array Value}{Q:Fin->Shared->Prop}(hh:A.handled=none)(D:ZipApart z TI TO i1 i2 l1 l2)(hz:zh1 s.heap z TI TO T b)(hT:∃o,s.heap.get? T=some o)(hTI:IsPair s.heap TI (.ref i1) (.ref i2))
 (h1:s.heap.IsListIter i1 l1 k1) (hl1:s.heap.IsList l1 xs) (hx:xs[k1]? = none)
 (q:∀h' e,(∀c o,c≠z->c≠i1->c≠i2->s.heap.get? c=some o->h'.get? c=some o)->(∃o,h'.get? e=some o/\o.cls=.type "StopIteration")->E (.ref e) { s with heap:=h' }) :
 wpAny (model P w) A (Builtin.«zip.__next__» ⟨[.ref z],[]⟩) Q E s:=by
 show wpAny (model P w) A (field (.ref z) 2 >>= _) _ _ _;refine wpAny_bind (wpAny_field hz (x:=.bool false) rfl rfl ?_);show wpAny (model P w) A (field (.ref z) 3 >>= _) _ _ _;refine wpAny_bind (wpAny_field hz (x:=.ref TI) rfl rfl ?_);refine wpAny_bind (wpAny_seqItems hTI rfl ?_);show wpAny (model P w) A (Builtin.SmallTypes.ownedTupleIsFree (.ref z) >>= _) _ _ _;refine wpAny_bind (zjW hz hT λh₁ z₁ s₁=>?_);simp only[if_false,Bool.false_eq_true];rw[show(#[Value.ref i1,Value.ref i2]:Array Value)=[Value.ref i1,Value.ref i2].toArray from rfl,forIn_toArray];simp only[forIn_cons,forIn_nil];refine wpAny_bind (wpAny_bind (wpAny_bind (wpAny_holding ?_)));show wpAny (model P w) A (Builtin.SmallTypes.nextOf (.ref i1) >>= _) _ _ _;refine wpAny_bind (wpAny_nextOf_list_end hh (h1.extBut s₁.extBut D.i1z) (hl1.extBut s₁.extBut D.l1z) hx λh₂ e s₂ he=>?_);exact q h₂ e (λc o c1 c2 _ x=>s₂ _ _ c2 (s₁.extBut _ _ c1 x)) he
variable {Q:Option Value->Shared->Prop}
theorem next_busy{k2:Nat}{x y:Value}(D:ZipApart z TI TO i1 i2 l1 l2)(hz:zh1 s.heap z TI TO T b)(hT:∃o,s.heap.get? T=some o)(hTI:IsPair s.heap TI (.ref i1) (.ref i2))
 (h1:s.heap.IsListIter i1 l1 k1) (h2:s.heap.IsListIter i2 l2 k2) (hl1:s.heap.IsList l1 xs) (hl2:s.heap.IsList l2 ys) (hx:xs[k1]? = some x) (hy:ys[k2]? = some y)
 (q:∀h',zh1 h' z TI TO T true->h'.IsListIter i1 l1 (k1+1)->h'.IsListIter i2 l2 (k2+1)->IsPair h' s.heap.objs.size x y->h'.objs.size=s.heap.objs.size+1 ->
   (∀c o,c≠z->c≠i1->c≠i2->s.heap.get? c=some o->h'.get? c=some o)->Q (some (.ref s.heap.objs.size)) { s with heap:=h' }) :
 wpAny (model P w) A (pyNext (.ref z)) Q E s:=by
 have t:s.TypeIs (.ref z) "zip":=⟨_,hz,rfl⟩;unfold pyNext;exact wpAny_bind (wpAny_attempt (wpAny_callSpecial?_slot (name:=Str.ofString "__next__") t F.slot_zip_next (wpAny_call_entry F.slot_zip_next t F.entry_zip_next
  (zip_busy D hz hT hTI h1 h2 hl1 hl2 hx hy λh' a1 a2 a3 a4 a5 a6=>wpAny_pure (q h' a1 a2 a3 a4 a5 a6)) (F.args_zip_next_1 _))))
theorem next_over(hh:A.handled=none)(D:ZipApart z TI TO i1 i2 l1 l2)(hz:zh1 s.heap z TI TO T b)(hT:∃o,s.heap.get? T=some o)(hTI:IsPair s.heap TI (.ref i1) (.ref i2))
 (h1:s.heap.IsListIter i1 l1 k1) (hl1:s.heap.IsList l1 xs) (hx:xs[k1]? = none)
 (q:∀h',(∀c o,c≠z->c≠i1->c≠i2->s.heap.get? c=some o->h'.get? c=some o)->Q none { s with heap:=h' }):wpAny (model P w) A (pyNext (.ref z)) Q E s:=by
 have t:s.TypeIs (.ref z) "zip":=⟨_,hz,rfl⟩;unfold pyNext;refine wpAny_bind (wpAny_attempt (wpAny_callSpecial?_slot (name:=Str.ofString "__next__") t F.slot_zip_next (wpAny_call_entry F.slot_zip_next t F.entry_zip_next
  (zip_over (k2:=0) (ys := #[]) hh D hz hT hTI h1 hl1 hx λh' e k he=>?_) (F.args_zip_next_1 _))))
 obtain⟨o,ho,hc⟩:=he;exact wpAny_bind (wpAny_isInstance (T:= "StopIteration") (b:=true) ⟨o,ho,hc⟩ isSubtype_stop (wpAny_pure (q _ k)))
def ZSt(z TI TO i1 i2 l1 l2:Addr)(xs ys:Array Value)(i:Nat)(s:Shared):Prop :=
 IsPair s.heap TI (.ref i1) (.ref i2)/\s.heap.IsListIter i1 l1 i/\s.heap.IsListIter i2 l2 i/\s.heap.IsList l1 xs/\s.heap.IsList l2 ys /\
  ((i=0/\IsZip s.heap z TI TO .none/\∃a b,IsPair s.heap TO a b)\/(0<i/\∃(T:Addr)(b:Bool),zh1 s.heap z TI TO T b/\∃o,s.heap.get? T=some o))
end
end L2
namespace L2
open PySem PySem.W PyProof.Rows
section
variable {X:Cx}{pins:List (Addr×Obj)}{σ:St}{H:Hp}{s:Shared}{h':Heap}{t':Nat}{ch:List Addr}
theorem Inv.moved(I:Inv X pins σ H s)(o:∀c∈ch,Own X pins H c)(k:∀b u,b∉ch->s.heap.get? b=some u->h'.get? b=some u):Inv X pins σ H { s with heap:=h',toks:=t' }:=by
 have nit:∀b u,H b=some u->b∉ch:=λb u e z=>by rw[(o b z).free]at e;cases e
 have nL:X.env.locals∉ch:=λz=>(o _ z).loc rfl;refine I.step (g':=s.gens) (d':=s.drawn) (ch:=ch) (λb hb=>⟨.inr (o b hb).new,(o b hb).loc,(o b hb).cell,(o b hb).pin⟩) (λb u _ _ hc e _=>k b u hc e) (λb u _ _ hc e _=>⟨u.slots,k b u hc e⟩)
  (λ_ _ _ _ n=>n) (λb u hc e=>⟨u,k b u hc e⟩) (λ_ _ e=>e) (λ_ _ _ e=>e) (λb ps e=>⟨#[],by rw[e];simp⟩) (λm hm=>?_) (λb u e=>?_) I.bare
 ·obtain⟨ob,es,ep,ho,r⟩:=hm;exact⟨ob,es,ep,k _ ob nL ho,r⟩
 ·refine(I.hok b u e).stay (λc v hc q=>k c v ?_ q) (λ_ q=>q) λ_ _ q=>q;rcases hc with z | z
  ·rw[z];exact nit b u e
  ·exact nit c _ z
variable {T:Addr}
theorem Inv.movedT{v:HO}(I:Inv X pins σ H s)(o:∀c∈ch,Own X pins H c)(k:∀b u,b∉ch->s.heap.get? b=some u->h'.get? b=some u)(hT:s.heap.objs.size<=T)(new:ObjOk X.prog X.w (upd H T v) h' T v):
 Inv X pins σ (upd H T v) { s with heap:=h',toks:=t' }:=by
 have hf:H T=none:=I.hok.fresh hT;have nit:∀b u,H b=some u->b∉ch:=λb u e z=>by rw[(o b z).free]at e;cases e
 have nL:X.env.locals∉ch:=λz=>(o _ z).loc rfl;have up:∀b u,H b=some u->upd H T v b=some u:=λb u e=>by rw[zh (zn e hf)];exact e
 refine I.step (g':=s.gens) (d':=s.drawn) (ch:=ch) (λb hb=>⟨.inr (o b hb).new,(o b hb).loc,(o b hb).cell,(o b hb).pin⟩) (λb u _ _ hc e _=>k b u hc e) (λb u _ _ hc e _=>⟨u.slots,k b u hc e⟩)
  (λb u _ e n=>?_) (λb u hc e=>⟨u,k b u hc e⟩) (λb _ e=>up b _ e) (λb _ _ e=>up b _ e) (λb ps e=>⟨#[],by rw[up b _ e];simp⟩) (λm hm=>?_) (λb u e=>?_) I.bare
 ·rw[zh (λz=>by rw[z]at e;exact absurd (lt_size e) (Nat.not_lt.mpr hT))];exact n
 ·obtain⟨ob,es,ep,ho,r⟩:=hm;exact⟨ob,es,ep,k _ ob nL ho,r⟩
 ·by_cases hb:b=T
  ·subst hb;rw[zd]at e;cases e;exact new
  ·rw[zh hb]at e;refine(I.hok b u e).stay (λc w hc q=>k c w ?_ q) (λc q=>up c _ q) λc _ q=>up c _ q;rcases hc with z | z
   ·rw[z];exact nit b u e
   ·exact nit c _ z
theorem Own.upd{c:Addr}{v:HO}(o:Own X pins H c)(h:c≠T):Own X pins (upd H T v) c:=⟨by rw[zh h];exact o.free,o.loc,o.new,o.cell,o.pin,o.fs⟩
variable {A:Around}{E:Value->Shared->Prop}{z TI TO i1 i2 l1 l2 S:Addr}{xs ys:List Value}{xv yv:List V}
theorem zip_item{i:Nat}{x y:Value}{vx vy:V}{Q:Option Value->Shared->Prop}(I:Inv X pins σ H s)(o:∀c ∈ [z,TO,i1,i2],Own X pins H c)(D:ZipApart z TI TO i1 i2 l1 l2)(st:ZSt z TI TO i1 i2 l1 l2 xs.toArray ys.toArray i s)
 (hx:xs[i]? = some x) (hy:ys[i]? = some y) (rx:RelV vx x) (ry:RelV vy y)
 (q:∀s',Inv X pins σ (L2.upd H s.heap.objs.size (.tup [vx,vy])) s'->ZSt z TI TO i1 i2 l1 l2 xs.toArray ys.toArray (i+1) s'->(∀b u,b ∉ [z,TO,i1,i2]->s.heap.get? b=some u->s'.heap.get? b=some u)->s'.heap.objs.size=s.heap.objs.size+1->Q (some (.ref s.heap.objs.size)) s') :
 wpAny (model X.prog X.w) A (pyNext (.ref z)) Q E s:=by
 obtain⟨hTI,h1,h2,hl1,hl2,hz⟩:=st;have hx':xs.toArray[i]? = some x:=by simpa using hx
 have hy':ys.toArray[i]? = some y:=by simpa using hy
 have nTI:TI ∉ [z,TO,i1,i2]:=by simp[D.TIz,D.TITO,D.TIi1,D.TIi2]
 have n1:l1 ∉ [z,TO,i1,i2]:=by simp[D.l1z,D.l1TO,D.l1i1,D.l1i2]
 have n2:l2 ∉ [z,TO,i1,i2]:=by simp[D.l2z,D.l2TO,D.l2i1,D.l2i2]
 have fin:∀(h':Heap)(b:Bool)(T:Addr),zh1 h' z TI TO T b->(∃u,h'.get? T=some u)->h'.IsListIter i1 l1 (i+1)->h'.IsListIter i2 l2 (i+1)->IsPair h' s.heap.objs.size x y->h'.objs.size=s.heap.objs.size+1 ->
  (∀c u,c ∉ [z,TO,i1,i2]->s.heap.get? c=some u->h'.get? c=some u)->Q (some (.ref s.heap.objs.size)) { s with heap:=h' }:=λh' b T b1 b2 b3 b4 b5 b6 k=>by
  refine q _ (I.movedT (t':=s.toks) o k (le_refl _) ⟨by show 2<=sizeLine;decide,[x,y],.cons rx (.cons ry .nil),_,b5,rfl,_,rfl⟩) ⟨k _ _ nTI hTI,b3,b4,hl1.at λu e=>k _ u n1 e,hl2.at λu e=>k _ u n2 e,.inr ⟨Nat.succ_pos _,T,b,b1,b2⟩⟩ k b6
 rcases hz with⟨rfl,hz,a,b,hTO⟩|⟨hi,T,b,hz,hT⟩
 ·refine wpAny_pyNext_zip_item D hz hTI hTO h1 h2 hl1 hl2 hx' hy' λh' a1 a2 a3 a4 a5 a6 k=>?_;exact fin h' false _ a1 ⟨_,a5⟩ a3 a4 a5 a6 λc u hc e=>k c u (λw=>hc (by simp[w])) (λw=>hc (by simp[w])) (λw=>hc (by simp[w])) (λw=>hc (by simp[w])) e
 ·refine next_busy D hz hT hTI h1 h2 hl1 hl2 hx' hy' λh' a1 a2 a3 a4 a5 k=>?_;have k':∀c u,c ∉ [z,TO,i1,i2]->s.heap.get? c=some u->h'.get? c=some u:=λc u hc e=>k c u (λw=>hc (by simp[w])) (λw=>hc (by simp[w])) (λw=>hc (by simp[w])) e;obtain⟨u,hu⟩:=hT;by_cases c1:T=z
  ·exact fin h' true T a1 ⟨_,by rw[c1];exact a1⟩ a2 a3 a4 a5 k'
  ·by_cases c2:T=i1
   ·obtain⟨w,hw,_⟩:=id a2;exact fin h' true T a1 ⟨w,by rw[c2];exact hw⟩ a2 a3 a4 a5 k'
   ·by_cases c3:T=i2
    ·obtain⟨w,hw,_⟩:=id a3;exact fin h' true T a1 ⟨w,by rw[c3];exact hw⟩ a2 a3 a4 a5 k'
    ·exact fin h' true T a1 ⟨u,k T u c1 c2 c3 hu⟩ a2 a3 a4 a5 k'
abbrev Prs(H:Hp)(ts:List Addr)(ps:List (V×V)):Prop:=Paired (λt (p:V×V)=>H t=some (.tup [p.1,p.2])) ts ps
variable {ts:List Addr}{ps:List (V×V)}
theorem Prs.upd{v:HO}(h:Prs H ts ps)(hT:H T=none):Prs (L2.upd H T v) ts ps:=by
 induction h with
 | nil=>exact .nil
 | cons e _ ih=>exact .cons (by rw[zh (zn e hT)];exact e) ih
theorem Prs.snoc{t:Addr}{p:V×V}(h:Prs H ts ps)(e:H t=some (.tup [p.1,p.2])):Prs H (ts++[t]) (ps++[p]):=by
 induction h with
 | nil=>exact .cons e .nil
 | cons a _ ih=>exact .cons a ih
theorem vals_at:∀{xv:List V}{xs:List Value},Vals xv xs->∀(i:Nat)(h:i<xv.length),∃x,xs[i]? = some x/\RelV xv[i] x:=by
 intro xv xs r
 induction r with
 | nil=>intro i h;exact absurd h (Nat.not_lt_zero _)
 | cons e _ ih =>
   intro i h;cases i with
   | zero=>exact⟨_,rfl,e⟩
   | succ i=>exact ih i (by simpa using h)
theorem ZSt.keep{i:Nat}{h':Heap}(st:ZSt z TI TO i1 i2 l1 l2 xs.toArray ys.toArray i s)(h0:0<i)(k:∀b u,b≠S->s.heap.get? b=some u->h'.get? b=some u)(he:∃u,h'.get? S=some u)(hS:S ∉ [z,TO,i1,i2])(hSl:S≠TI/\S≠l1/\S≠l2):
 ZSt z TI TO i1 i2 l1 l2 xs.toArray ys.toArray i { s with heap:=h' }:=by
 obtain⟨a1,a2,a3,a4,a5,a6⟩:=st;have n:∀c ∈ [z,TO,i1,i2],c≠S:=λc hc e=>hS (e ▸ hc);refine⟨k _ _ (Ne.symm hSl.1) a1,a2.at λu e=>k _ u (n _ (by simp)) e,a3.at λu e=>k _ u (n _ (by simp)) e,a4.at λu e=>k _ u (Ne.symm hSl.2.1) e,a5.at λu e=>k _ u (Ne.symm hSl.2.2) e,?_⟩;rcases a6 with⟨z0,_⟩|⟨_,T,b,hz,u,hu⟩
 ·omega
 ·refine .inr ⟨h0,T,b,k _ _ (n _ (by simp)) hz,?_⟩;by_cases c:T=S
  ·rw[c];exact he
  ·exact⟨u,k T u c hu⟩
theorem zip_loop{res:Value}{R:Result->Shared->Prop}(hh:A.in1.handled=none)(D:ZipApart z TI TO i1 i2 l1 l2)(hS:S ∉ [z,TO,i1,i2])(hSl:S≠TI/\S≠l1/\S≠l2)(rx:Vals xv xs)(ry:Vals yv ys)(hl:xv.length=yv.length)(hn:xv.length<64):
 ∀(k i:Nat)(s:Shared)(H:Hp)(ts:List Addr)(c:Nat),xv.length-i=k->i<=xv.length->0<xv.length->Inv X pins σ H s->(∀c ∈ [z,TO,i1,i2],Own X pins H c/\c<s.heap.objs.size)->Own X pins H S->S<s.heap.objs.size ->
  ZSt z TI TO i1 i2 l1 l2 xs.toArray ys.toArray i s->s.heap.get? S=some { cls:=.type "list",dict:=none,data:=.seq (ts.map Value.ref).toArray c,slots := #[] }->ts.length=i->Prs H ts ((xv.zip yv).take i) ->
  (∀s' H' ts,Inv X pins σ H' s'->Same H H'->Prs H' ts (xv.zip yv)->Own X pins H' S->(∃c,s'.heap.get? S=some { cls:=.type "list",dict:=none,data:=.seq (ts.map Value.ref).toArray c,slots := #[] })->R (.ok (.ret res)) s') ->
  codeAny (model X.prog X.w) A (.builtin "list.extend.loop" ⟨[.ref S,.ref z,res],[]⟩) R s:=by
 have lx:=rx.length;have ly:=ry.length;intro k
 induction k with
 | zero =>
   intro i s H ts c hk hi h0 I o oS lS st eS et pr q;have e:i=xv.length:=by omega
   subst e;refine codeAny_builtin F.entry_extend_loop ?_;rw[Around.under_plainId F.plain_extend_loop _];show wpAny (model X.prog X.w) A.in1 (pyNext (.ref z) >>= _) _ _ s;obtain⟨hTI,h1,h2,hl1,hl2,hz⟩:=st;rcases hz with⟨z0,_⟩|⟨_,T,b,hz,hT⟩
   ·omega
   refine wpAny_bind (next_over hh D hz hT hTI h1 hl1 (by simp;omega) λh' k'=>?_);have kk:∀b u,b ∉ [z,TO,i1,i2]->s.heap.get? b=some u->h'.get? b=some u:=λb u hb e=>k' b u (λw=>hb (by simp[w])) (λw=>hb (by simp[w])) (λw=>hb (by simp[w])) e;rw[take_of_length_le (by rw[length_zip];omega)]at pr;exact wpAny_pure (q _ H ts (I.moved (t':=s.toks) (λc hc=>(o c hc).1) kk) (Same.refl _) pr oS ⟨c,kk S _ hS eS⟩)
 | succ k ih =>
   intro i s H ts c hk hi h0 I o oS lS st eS et pr q;have hlt:i<xv.length:=by omega
   refine codeAny_builtin F.entry_extend_loop ?_;rw[Around.under_plainId F.plain_extend_loop _];show wpAny (model X.prog X.w) A.in1 (pyNext (.ref z) >>= _) _ _ s;obtain⟨x,hx,vx⟩:=vals_at rx i hlt;obtain⟨y,hy,vy⟩:=vals_at ry i (by omega);refine wpAny_bind (zip_item I (λc hc=>(o c hc).1) D st hx hy vx vy λs' I' st' k' z'=>?_);have eS':=k' S _ hS eS;have hf:H s.heap.objs.size=none:=I.hok.fresh (le_refl _);have oS':Own X pins (L2.upd H s.heap.objs.size (.tup [xv[i],yv[i]])) S:=oS.upd (ne_of_lt lS);obtain⟨c2,hc2⟩:∃c2,(s'.heap.update S (Obj.mapSeq (·.push (Value.ref s.heap.objs.size)))).get? S=some { cls:=.type "list",dict:=none,data:=.seq ((ts++[s.heap.objs.size]).map Value.ref).toArray c2,slots := #[] } :=
    ⟨_,by rw[show((ts++[s.heap.objs.size]).map Value.ref).toArray=(ts.map Value.ref).toArray.push (Value.ref s.heap.objs.size)by simp];exact get?_update_seq eS' (·.push _)⟩
   have ko:∀b u,b≠S->s'.heap.get? b=some u->(s'.heap.update S (Obj.mapSeq (·.push (Value.ref s.heap.objs.size)))).get? b=some u:=λb u hb e=>(get?_update_other _ _ (Ne.symm hb)).trans e;have hln:=zt;show wpAny (model X.prog X.w) A.in1 (updateSeq S (·.push (Value.ref s.heap.objs.size)) >>= _) _ _ _;refine wpAny_bind ?_;refine wpAny_updateSeq eS' rfl (wpAny_pure ⟨plainId_quiet F.plain_extend_loop _,ih (i+1) _ _ (ts++[s.heap.objs.size]) c2 (by omega) (by omega) h0 (I'.swap oS') (λc hc=>?_) oS' ?_ (st'.keep (Nat.succ_pos _) ko ⟨_,hc2⟩ hS hSl) hc2 (by rw[length_append,et];rfl) ?_ ?_⟩) ?_ ?_
   ·refine⟨((o c hc).1).upd (ne_of_lt (o c hc).2),?_⟩;show c<(s'.heap.update S _).objs.size;rw[size_update,z'];exact lt_succ_of_lt (o c hc).2
   ·show S<(s'.heap.update S _).objs.size;rw[size_update,z'];exact lt_succ_of_lt lS
   ·have e:(xv.zip yv).take (i+1)=(xv.zip yv).take i++[(xv[i],yv[i])]:=by
     rw[List.take_add_one,getElem?_eq_getElem (by rw[length_zip];omega)];simp
    rw[e];exact(pr.upd hf).snoc zd
   ·intro s2 H2 ts2 J1 J2 J3 J4 J5;exact q s2 H2 ts2 J1 ((Same.new hf).trans J2) J3 J4 J5
   ·rw[size_toArray,length_map,et];omega
   ·rw[Array.size_push,size_toArray,length_map,et];omega
end
end L2
namespace L2
open PySem PySem.W PyProof.Rows PySem.Calls
theorem zip_len:typeLookup (.type "zip") "__len__"=pure none:=by rw[typeLookup_type,builtinLookup_eq_fast];kernel_rfl
theorem zip_hint:typeLookup (.type "zip") "__length_hint__"=pure none:=by rw[typeLookup_type,builtinLookup_eq_fast];kernel_rfl
section
variable {X:Cx}{pins:List (Addr×Obj)}{σ:St}{H:Hp}{s:Shared}{A:Around}{E:Value->Shared->Prop}{z TI TO i1 i2 l1 l2:Addr}{xs ys:List Value}{xv yv:List V}
theorem zkJ{Q:List Value->Shared->Prop}(hh:A.in1.handled=none)(D:ZipApart z TI TO i1 i2 l1 l2)(rx:Vals xv xs)(ry:Vals yv ys)(hl:xv.length=yv.length)(hn:xv.length<64)(h0:0<xv.length)
 (I:Inv X pins σ H s) (o:∀c ∈ [z,TO,i1,i2],Own X pins H c/\c<s.heap.objs.size) (st:ZSt z TI TO i1 i2 l1 l2 xs.toArray ys.toArray 0 s)
 (q:∀s' H' ts,Inv X pins σ H' s'->Same H H'->Prs H' ts (xv.zip yv)->Q (ts.map Value.ref) s'):wpAny (model X.prog X.w) A (collect (.ref z)) Q E s:=by
 have hz:IsZip s.heap z TI TO .none:=by
  rcases st.2.2.2.2.2 with⟨_,hz,_⟩|⟨w,_⟩
  ·exact hz
  ·omega
 have lt:∀{c u},s.heap.get? c=some u->c<s.heap.objs.size:=λe=>lt_size e;have lz:=(o z (by simp)).2;have hSz:s.heap.objs.size≠z:=ne_of_gt lz;have oS:=I.own (b:=s.heap.objs.size) (le_refl _);unfold collect;refine wpAny_bind (wpAny_runValue (codeAny_builtin F.entry_proto_collect ?_));rw[Around.under_plainId F.plain_proto_collect _];show wpAny (model X.prog X.w) A.in1 (newList [] >>= λl=>again (.builtin "list.__iadd__" ⟨[l,.ref z],[]⟩)) _ _ s;refine wpAny_bind (wpAny_newList ?_ (zero_le _));have I1:Inv X pins σ H { s with heap:=s.heap.push { cls:=.type "list",data:=.seq ([]:List Value).toArray } }:=I.kept (t':=s.toks) λb u e=>get?_push_of_some _ e;have hS1:(s.heap.push { cls:=.type "list",data:=.seq ([]:List Value).toArray }).get? s.heap.objs.size=some { cls:=.type "list",data:=.seq ([]:List Value).toArray }:=get?_push_size _ rfl;have k1:∀b u,s.heap.get? b=some u->(s.heap.push { cls:=.type "list",data:=.seq ([]:List Value).toArray }).get? b=some u:=λb u e=>get?_push_of_some _ e;have z1:(s.heap.push { cls:=.type "list",data:=.seq ([]:List Value).toArray }).objs.size=s.heap.objs.size+1:=size_push ..;show wpAny (model X.prog X.w) A.in1 (again (.builtin "list.__iadd__" ⟨[.ref s.heap.objs.size,.ref z],[]⟩)) _ _ { s with heap:=s.heap.push { cls:=.type "list",data:=.seq ([]:List Value).toArray } };generalize s.heap.push { cls:=.type "list",data:=.seq ([]:List Value).toArray }=h1 at I1 hS1 k1 z1;refine wpAny_pure ⟨plainId_quiet F.plain_list_iadd _,codeAny_builtin F.entry_list_iadd ?_⟩;rw[Around.under_plainId F.plain_list_iadd _];show wpAny (model X.prog X.w) A.in1 (Builtin.List.listExtendWith (.ref s.heap.objs.size) (.ref z) (.ref s.heap.objs.size)) _ _ _;unfold Builtin.List.listExtendWith;have tz:Shared.TypeIs { s with heap:=h1 } (.ref z) "zip":=⟨_,k1 _ _ hz,rfl⟩;refine wpAny_bind (wpAny_typeOf tz ?_);have e1:Builtin.List.listSameRef (.ref s.heap.objs.size) (.ref z)=false:=by simp[Builtin.List.listSameRef,hSz]
 have e2:(Value.type "zip" == Value.type "list")=false:=by decide
 have e3:(Value.type "zip" == Value.type "tuple")=false:=by decide
 simp only[e1,e2,e3,Bool.or_false,if_false,Bool.false_eq_true];refine wpAny_bind (wpAny_pyIter_zip (k1 _ _ hz) ?_);refine wpAny_bind (wpAny_holding ?_);unfold Builtin.List.listLengthHint;refine wpAny_bind (wpAny_specialOf tz zip_len ?_);show wpAny (model X.prog X.w) A.in1 (specialOf (Value.ref z) (Str.ofString "__length_hint__") >>= _) _ _ _;refine wpAny_bind (wpAny_specialOf tz zip_hint (wpAny_pure ?_));show wpAny (model X.prog X.w) A.in1 (rule "list.extend.makes-room" >>= λ_=>Builtin.List.listTouch (.ref s.heap.objs.size) >>= λ_=>again (.builtin "list.extend.loop" ⟨[.ref s.heap.objs.size,.ref z,.ref s.heap.objs.size],[]⟩)) _ _ _;refine wpAny_bind (wpAny_rule (wpAny_bind ?_));show wpAny (model X.prog X.w) A.in1 (updateSeq s.heap.objs.size (·.push .none) >>= λ_=>updateSeq s.heap.objs.size (·.pop)) _ _ _;refine wpAny_bind (wpAny_updateSeq hS1 rfl ?_);have hS2:=Heap.get?_update_self (Obj.mapSeq (·.push Value.none)) hS1 rfl;refine wpAny_updateSeq hS2 rfl ?_;have hS3:=Heap.get?_update_self (Obj.mapSeq (·.pop)) hS2 rfl;have I3:=(I1.swap (f:=Obj.mapSeq (·.push Value.none)) oS).swap (f:=Obj.mapSeq (·.pop)) oS;have k3:∀b u,b≠s.heap.objs.size->s.heap.get? b=some u->((h1.update s.heap.objs.size (Obj.mapSeq (·.push Value.none))).update s.heap.objs.size (Obj.mapSeq (·.pop))).get? b=some u :=
  λb u hb e=>(get?_update_other _ _ (Ne.symm hb)).trans ((get?_update_other _ _ (Ne.symm hb)).trans (k1 b u e))
 have z3:((h1.update s.heap.objs.size (Obj.mapSeq (·.push Value.none))).update s.heap.objs.size (Obj.mapSeq (·.pop))).objs.size=s.heap.objs.size+1:=by rw[size_update,size_update,z1]
 have kk:∀b u,s.heap.get? b=some u->((h1.update s.heap.objs.size (Obj.mapSeq (·.push Value.none))).update s.heap.objs.size (Obj.mapSeq (·.pop))).get? b=some u:=λb u e=>k3 b u (ne_of_lt (lt e)) e;obtain⟨a1,a2,a3,a4,a5,a6⟩:=st;refine wpAny_pure ⟨plainId_quiet F.plain_extend_loop _,zip_loop (S:=s.heap.objs.size) (xs:=xs) (ys:=ys) (xv:=xv) (yv:=yv) hh D (λm=>lt_irrefl _ (o _ m).2) ⟨ne_of_gt (lt a1),?_,?_⟩ rx ry hl hn _ 0 _ H [] _ rfl (zero_le _) h0 I3 (λc hc=>⟨(o c hc).1,?_⟩) oS ?_ ⟨kk _ _ a1,a2.at λu e=>kk _ u e,a3.at λu e=>kk _ u e,a4.at λu e=>kk _ u e,a5.at λu e=>kk _ u e,?_⟩ hS3 rfl .nil λs' H' ts J1 J2 J3 J4 J5=>?_⟩
 ·obtain⟨u,hu,_⟩:=a4;exact ne_of_gt (lt hu)
 ·obtain⟨u,hu,_⟩:=a5;exact ne_of_gt (lt hu)
 ·show c<Array.size _;rw[z3];exact lt_succ_of_lt (o c hc).2
 ·show s.heap.objs.size<Array.size _;rw[z3];exact lt_succ_self _
 ·rcases a6 with⟨_,b1,a,b,b2⟩|⟨w,_⟩
  ·exact .inl ⟨rfl,kk _ _ b1,a,b,kk _ _ b2⟩
  ·omega
 ·obtain⟨c,J5⟩:=J5;show wpAny (model X.prog X.w) A (load s.heap.objs.size >>= _) _ _ s';refine wpAny_bind (wpAny_load J5 (wpAny_pure ?_));exact q s' H' ts J1 J2 J3
end
section
variable {X:Cx}{pins:List (Addr×Obj)}{σ:St}{H:Hp}{s:Shared}{A:Around}{E:Value->Shared->Prop}{z TI TO i1 i2 l1 l2 q:Addr}{xs ys:List Value}{xv yv:List V}{kz:List Int}
theorem Inv.trackO{T:Addr}{v:HO}(I:Inv X pins σ H s)(o:Own X pins H T)(new:ObjOk X.prog X.w (upd H T v) s.heap T v):Inv X pins σ (upd H T v) s:=by
 have hf:=o.free;have up:∀b u,H b=some u->upd H T v b=some u:=λb u e=>by rw[zh (zn e hf)];exact e
 refine I.step (h':=s.heap) (g':=s.gens) (d':=s.drawn) (t':=s.toks) (ch:=[T]) (λb hb=>?_) (λb u _ _ hc e _=>e) (λb u _ _ hc e _=>⟨u.slots,e⟩)
  (λb u hc e n=>by rw[zh (λw=>hc (by simp[w]))];exact n) (λb u hc e=>⟨u,e⟩) (λb _ e=>up b _ e) (λb _ _ e=>up b _ e) (λb ps e=>⟨#[],by rw[up b _ e];simp⟩) (λm hm=>hm) (λb u e=>?_) I.bare
 ·rw[List.mem_singleton.mp hb];exact⟨.inr o.new,o.loc,o.cell,o.pin⟩
 ·by_cases hb:b=T
  ·subst hb;rw[zd]at e;cases e;exact new
  ·rw[zh hb]at e;exact(I.hok b u e).stay (λc w hc k=>k) (λc k=>up c _ k) λc _ k=>up c _ k
theorem Prs.length{ts:List Addr}{ps:List (V×V)}(h:Prs H ts ps):ts.length=ps.length:=by
 induction h with
 | nil=>rfl
 | cons _ _ ih=>rw[length_cons,length_cons,ih]
theorem zkS{Q:Value->Shared->Prop}(hh:A.in1.in1.handled=none)(D:ZipApart z TI TO i1 i2 l1 l2)(rx:Vals xv xs)(ry:Vals yv ys)(hl:xv.length=yv.length)(hn:xv.length<64)(h0:0<xv.length)(hk:kz.length=xv.length)
 (I:Inv X pins σ H s) (o:∀c ∈ [z,TO,i1,i2],Own X pins H c/\c<s.heap.objs.size) (st:ZSt z TI TO i1 i2 l1 l2 xs.toArray ys.toArray 0 s)
 (calls:∀(H':Hp)(ts:List Addr),Same H H'->Prs H' ts (xv.zip yv)->∀(i:Nat)(v:Value)(pins':List (Addr×Obj)) (s':Shared),(ts.map Value.ref)[i]? = some v->Inv X pins' σ H' s' ->
   wpAny (model X.prog X.w) A.in1.in1 (call (.ref q) [v]) (λk s''=>Inv X pins' σ H' s''/\∃t,k=Value.int (kz.getD i 0) t) (λ_ _=>False) s')
 (fin:∀(s':Shared)(H':Hp)(ts:List Addr)(l:Addr)(p:Array Nat),Same H H'->Prs H' ts (xv.zip yv)->H' l=none->M14.I (λk=>kz.getD k 0) xv.length p xv.length->Inv X pins σ (upd H' l (.lst (p.toList.map λi=>V.ref (ts.getD i 0)))) s'->Q (.ref l) s') :
 wpAny (model X.prog X.w) A (call (.builtin "sorted") [.ref z] [(Str.ofString "key",.ref q)]) Q E s:=by
 have hln:=zt;refine call_function_entry_kw kind_sorted plain_sorted entry_sorted (ksk_s1 _ _) ?_;unfold Builtin.«sorted»;refine wpAny_bind (m:=checkCount "sorted" 1 1 _) (wpAny_pure ?_);refine wpAny_bind (zkJ hh D rx ry hl hn h0 I o st λs1 H1 ts I1 sm pr=>?_);have lt:ts.length=xv.length:=by rw[pr.length,length_zip];omega
 refine wpAny_bind (wpAny_newList ?_ (by rw[length_map];omega));have I2:Inv X pins σ H1 { s1 with heap:=s1.heap.push (seqObj "list" (ts.map Value.ref).toArray 0) }:=I1.kept (t':=s1.toks) λb u e=>get?_push_of_some _ e;have hD:(s1.heap.push (seqObj "list" (ts.map Value.ref).toArray 0)).get? s1.heap.objs.size=some (seqObj "list" (ts.map Value.ref).toArray 0):=get?_push_size _ rfl;have oD:=I1.own (b:=s1.heap.objs.size) (le_refl _);refine wpAny_bind (wpAny_holding (wpAny_call_entry_kw slot_list_sort ⟨_,hD,rfl⟩ entry_list_sort ?body (ksk_l1 _ _)))
 case body =>
  show wpAny (model X.prog X.w) A.in1.in1 (Builtin.«list.sort» ⟨[.ref s1.heap.objs.size],[(Str.ofString "key",.ref q)]⟩) _ _ _;rw[ksk_t1];refine wpAny_mono (keyed (f:=.ref q) (kz:=kz) (vs:=ts.map Value.ref) I2 oD hD (by rw[length_map];omega) (by rw[length_map];omega) (by rw[length_map];omega) (calls H1 ts sm pr)) (λr s2 w=>?_) λ_ _ w=>w;obtain⟨rfl,p,e,hp,I3,h3⟩:=w;rw[length_map,lt]at hp;refine⟨_,rfl,wpAny_pure ⟨_,rfl,?_⟩⟩;refine fin s2 H1 ts _ p sm pr oD.free hp (I3.trackO oD ⟨?_,p.toList.map λi=>(ts.map Value.ref).getD i Value.none,e,?_,h3⟩)
  ·rw[length_map,Array.length_toList,hp.1.size];omega
  ·have hm:∀i∈p.toList,i<ts.length:=λi hi=>by
    have:=(hp.1.pm.toList.mem_iff (a:=i)).mp hi;rw[lt]
    simpa using this
   revert hm;generalize p.toList=l;intro hm
   induction l with
   | nil=>exact .nil
   | cons a l ih =>
     have ha:=hm a (mem_cons_self ..);refine .cons ?_ (ih λi hi=>hm i (mem_cons_of_mem _ hi));have e:(ts.map Value.ref).getD a Value.none=Value.ref (ts.getD a 0):=by simp[ha]
     show RelV (V.ref (ts.getD a 0)) ((ts.map Value.ref).getD a Value.none);rw[e];rfl
end
section
variable {X:Cx}{pins:List (Addr×Obj)}{σ:St}{H:Hp}{s:Shared}{A:Around}{E:Value->Shared->Prop}{l1 l2:Addr}{xv yv:List V}
theorem made_zip{Q:Value->Shared->Prop}(I:Inv X pins σ H s)(h1:SqL X.K H l1 xv)(h2:SqL X.K H l2 yv)
 (q:∀(s':Shared)(z TI TO i1 i2:Addr)(xs ys:List Value),Vals xv xs->Vals yv ys->Inv X pins σ H s'->ZipApart z TI TO i1 i2 l1 l2->(∀c ∈ [z,TO,i1,i2],Own X pins H c/\c<s'.heap.objs.size)->ZSt z TI TO i1 i2 l1 l2 xs.toArray ys.toArray 0 s'->Q (.ref z) s') :
 wpAny (model X.prog X.w) A (call (.type "zip") [.ref l1,.ref l2]) Q E s:=by
 obtain⟨xs,r1,p1,_⟩:=I.list h1;obtain⟨ys,r2,p2,_⟩:=I.list h2;have b1:=p1.isList;have b2:=p2.isList;have t1:l1<s.heap.objs.size:=by obtain⟨u,hu,_⟩:=b1;exact lt_size hu
 have t2:l2<s.heap.objs.size:=by obtain⟨u,hu,_⟩:=b2;exact lt_size hu
 refine call_zip_2 b1 b2 λh' hz hTI hTO hi1 hi2 hsz hk=>?_;have n:∀(l:Addr)(d:Nat),l<s.heap.objs.size->l≠s.heap.objs.size+d:=λl d h=>ne_of_lt (lt_of_lt_of_le h (le_add_right _ _));have m:∀d e:Nat,d≠e->s.heap.objs.size+d≠s.heap.objs.size+e:=λd e h w=>h (Nat.add_left_cancel w);refine q _ (s.heap.objs.size+4) (s.heap.objs.size+2) (s.heap.objs.size+3) (s.heap.objs.size+0) (s.heap.objs.size+1) xs ys r1 r2 (I.kept (t':=s.toks) hk)
  ⟨m 2 4 (by decide),m 3 4 (by decide),m 0 4 (by decide),m 1 4 (by decide),m 2 3 (by decide),m 2 0 (by decide),m 2 1 (by decide),m 3 0 (by decide),m 3 1 (by decide),m 0 1 (by decide),n _ 4 t1,n _ 3 t1,n _ 0 t1,n _ 1 t1,n _ 4 t2,n _ 3 t2,n _ 0 t2,n _ 1 t2⟩ (λc hc=>?_)
  ⟨hTI,hi1,hi2,b1.at λu e=>hk _ u e,b2.at λu e=>hk _ u e,.inl ⟨rfl,hz,_,_,hTO⟩⟩
 have hb:∃d,d<5/\c=s.heap.objs.size+d:=by
  simp only[mem_cons,not_mem_nil,or_false]at hc;rcases hc with w | w | w | w
  ·exact⟨4,by decide,w⟩
  ·exact⟨3,by decide,w⟩
  ·exact⟨0,by decide,w⟩
  ·exact⟨1,by decide,w⟩
 obtain⟨d,hd,rfl⟩:=hb;refine⟨I.own (le_add_right _ _),?_⟩;show s.heap.objs.size+d<Array.size _;rw[hsz];exact Nat.add_lt_add_left hd _
end
end L2
namespace L2
open PySem PySem.W PySem.Spec PyProof.Rows PySem.Calls
def zfP(mg:Str->Option Value)(h:Heap):Prop:=∃bm ob,mg "__builtins__"=some (.ref bm)/\bm≠builtinsNs/\h.get? bm=some ob/\ob.cls=.type "module"/\ob.dict=some builtinsNs/\ob.data=.plain
abbrev fnO(f:Addr)(o:Obj):HO:=.ext λh=>h.get? f=some o
abbrev zgR(c:Addr)(q:Str):HO:=.ext λh=>h.CodeRec (.ref c) q
def SameN(H H':Hp):Prop:=(∀b u,H b=some u->(∀ps,u ≠ .tbl ps)->H' b=some u)/\∀b ps,H b=some (.tbl ps)->∃qs,H' b=some (.tbl qs)
variable {H H':Hp}
theorem Same.toN(s:Same H H'):SameN H H':=⟨λb u e _=>s b u e,λb ps e=>⟨ps,s b _ e⟩⟩
theorem SameN.trans{H1 H2:Hp}(a:SameN H H1)(b:SameN H1 H2):SameN H H2:=⟨λc u e n=>b.1 c u (a.1 c u e n) n,λc ps e=>let ⟨qs,e1⟩:=a.2 c ps e;b.2 c qs e1⟩
theorem SameN.free{l:Addr}(s:SameN H H')(h:H' l=none):H l=none:=by
 cases e:H l with
 | none=>rfl
 | some u =>
   by_cases hu:∃ps,u=.tbl ps
   ·obtain⟨ps,rfl⟩:=hu;obtain⟨qs,e1⟩:=s.2 l ps e;rw[h]at e1;cases e1
   ·have e1:=s.1 l u e λps z=>hu ⟨ps,z⟩;rw[h]at e1;cases e1
def noT(H:Hp):Hp:=λb=>match H b with
 | some (.tbl _)=>none
 | x=>x
theorem noT_of{b:Addr}{u:HO}(e:H b=some u)(n:∀ps,u ≠ .tbl ps):noT H b=some u:=by
 unfold noT;rw[e];cases u <;> first | rfl | exact absurd rfl (n _)
theorem of_noT{b:Addr}{u:HO}(e:noT H b=some u):H b=some u/\∀ps,u ≠ .tbl ps:=by
 unfold noT at e;split at e
 ·cases e
 ·rename_i z;refine⟨e,λps w=>?_⟩;subst w;exact z ps e
theorem SameN.same(s:SameN H H'):Same (noT H) H':=λb u e=>let ⟨h,n⟩:=of_noT e;s.1 b u h n
variable {K:Frag}
theorem SqL.noT{a:Addr}{xs:List V}(h:SqL K H a xs):SqL K (L2.noT H) a xs:=by
 rcases h with(h | ⟨o,h⟩) | h
 ·exact .inl (.inl (noT_of h λ_ z=>by cases z))
 ·exact .inl (.inr ⟨o,noT_of h λ_ z=>by cases z⟩)
 ·exact .inr h
section
variable {X:Cx}{pins:List (Addr×Obj)}{σ:St}{H:Hp}{s:Shared}{E:Value->Shared->Prop}
theorem Inv.lam{P c':Addr}{ps more:Array Value}{h':Heap}{fo:Obj}{q:Str}{tk:Nat}(I:Inv X pins σ H s)(hfo:fo.isFreed=false)(hP:H P=some (.tbl ps))(hx:Heap.ExtBut P s.heap h')(hc:s.heap.objs.size<=c')(hlt:c'<h'.objs.size)
 (hcd:h'.CodeRec (.ref c') q) (ht:h'.get? P=some (tabObj (ps++more))) :
 Inv X pins σ (upd (upd (upd H P (.tbl (ps++more))) c' (zgR c' q)) h'.objs.size (fnO h'.objs.size fo)) { s with heap:=h'.push fo,toks:=tk }:=by
 have hPs:P<s.heap.objs.size:=I.hok.lt hP;have nPc:P≠c':=ne_of_lt (lt_of_lt_of_le hPs hc);have ncf:c'≠h'.objs.size:=ne_of_lt hlt;have nPf:P≠h'.objs.size:=ne_of_lt (lt_trans (lt_of_lt_of_le hPs hc) hlt);have old:∀b,b<s.heap.objs.size->b≠P->upd (upd (upd H P (.tbl (ps++more))) c' (zgR c' q)) h'.objs.size (fnO h'.objs.size fo) b=H b:=λb hb n=>by
  rw[zh (ne_of_lt (lt_trans (lt_of_lt_of_le hb hc) hlt)),zh (ne_of_lt (lt_of_lt_of_le hb hc)),zh n]
 have atP:upd (upd (upd H P (.tbl (ps++more))) c' (zgR c' q)) h'.objs.size (fnO h'.objs.size fo) P=some (.tbl (ps++more)):=by rw[zh nPf,zh nPc,zd]
 have k:∀b u,b≠P->s.heap.get? b=some u->(h'.push fo).get? b=some u:=λb u n e=>get?_push_of_some _ (hx b u n e);have nP:∀b u,H b=some u->(∀w,u ≠ .tbl w)->b≠P:=λb u e n z=>by rw[z,hP]at e;cases e;exact n _ rfl
 have keepH:∀b u,H b=some u->(∀w,u ≠ .tbl w)->upd (upd (upd H P (.tbl (ps++more))) c' (zgR c' q)) h'.objs.size (fnO h'.objs.size fo) b=some u:=λb u e n=>by
  rw[old b (I.hok.lt e) (nP b u e n)];exact e
 refine I.step (g':=s.gens) (d':=s.drawn) (ch:=[]) (λ_ z=>nomatch z) (λb o _ _ _ e n=>k b o (λz=>by rw[z,hP]at n;cases n) e) (λb o _ _ _ e n=>⟨o.slots,k b o (λz=>by rw[z,hP]at n;cases n) e⟩)
  (λb o _ e n=>by rw[old b (lt_size e) (λz=>by rw[z,hP]at n;cases n)];exact n) (λb o _ e=>?_) (λb xs e=>keepH b _ e λ_ z=>by cases z) (λb o u e=>keepH b _ e λ_ z=>by cases z) (λb w e=>?_) (λm hm=>?_) (λb u e=>?_) I.bare
 ·by_cases hb:b=P
  ·subst hb;exact⟨_,get?_push_of_some _ ht⟩
  ·exact⟨o,k b o hb e⟩
 ·by_cases hb:b=P
  ·subst hb;rw[hP]at e;cases e;exact⟨more,atP⟩
  ·exact⟨#[],by rw[old b (I.hok.lt e) hb,e];simp⟩
 ·have nL:X.env.locals≠P:=λz=>by have:=I.free;rw[z,hP]at this;cases this
  obtain⟨o,es,ep,ho,r⟩:=hm;exact⟨o,es,ep,k _ o nL ho,r⟩
 ·by_cases hf:b=h'.objs.size
  ·subst hf;rw[zd]at e;cases e;exact⟨get?_push_size _ hfo,⟨fo,get?_push_size _ hfo⟩,λh1 h2 a b=>b _ a⟩
  ·by_cases hc':b=c'
   ·subst hc';rw[zh ncf,zd]at e;cases e;obtain⟨c,oc,vs,t,e1,e2,e3,e4⟩:=hcd;cases e1;exact⟨⟨b,oc,vs,t,rfl,get?_push_of_some _ e2,e3,e4⟩,⟨oc,get?_push_of_some _ e2⟩,λh1 h2 ⟨c,oc,vs,t,e1,e2,e3⟩ q=>by cases e1;exact⟨b,oc,vs,t,rfl,q _ e2,e3⟩⟩
   ·by_cases hb:b=P
    ·subst hb;rw[atP]at e;cases e;exact get?_push_of_some _ ht
    ·rw[zh hf,zh hc',zh hb]at e;refine(I.hok b u e).stay (λc v hc q=>k c v ?_ q) (λc w=>keepH c _ w λ_ z=>by cases z) λc xs w=>keepH c _ w λ_ z=>by cases z
     rcases hc with rfl | hc
     ·exact hb
     ·exact nP c _ hc λ_ z=>by cases z
end
variable {P:Program}{w:World}{mg:Str->Option Value}{k:Nat}
theorem lam_ok{base:Heap}{f c':Addr}{name qual:Str}{params:Arguments}{body:Expr}{scope:Scope}{pm ctv:Value}{N ps:List Str}{sp:Sp}(S:FnScope N ps scope)
 (len:∀vs H Q E,sp vs H Q E->vs.length=ps.length)
 (has:∀vs H Q E,sp vs H Q E->H f=some (fnO f (kla_obj name qual params body scope [] pm c' ctv))/\H c'=some (zgR c' qual))
 (hbody:∀(A:Around)(outer:List Env)(s:Shared)(H:Hp)(vs:List V)(Q:VK)(E:XK),Room k (A.deeper (envOfC qual scope s.heap.objs.size f (.ref c')))->sp vs H Q E ->
   ∃t,PE (zb5 CX0 P w K mg base N qual scope f (.ref c') A outer s H E) body t/\t (zbr N vs) H Q) :
 FnOk P w K mg base CX0 (k+1) f (kla_fn name qual params body scope [] pm (.ref c') ctv) ps sp:=by
 refine⟨len,λA outer s H args us vs Q E hr e0 hb r hsp=>?_⟩;have hl:=len _ _ _ _ hsp;obtain⟨a1,a2⟩:=has _ _ _ _ hsp;obtain⟨o1,_⟩:=e0.hok f _ a1;obtain⟨o2,_⟩:=e0.hok c' _ a2;have lim:s.heap.NoLimit:=e0.mod.nolimit.keeps λb o e=>(e0.bs b o e).1;have hkind:∀y∈ps.zip us,scope.names.lookup y.1=some .local\/(scope.names.lookup y.1=some .cell/\((cellsFrom (s.heap.objs.size+1) scope.names []).lookup y.1).isSome=true):=λ⟨n,v⟩ hy=>by
  rcases S.par n (of_mem_zip hy).1 with q | q
  ·exact .inl q
  ·exact .inr ⟨q,cellsFrom_some _ _ _ (.inl q)⟩
 refine kla_callFunE hr.depth o1 rfl S.co S.gen rfl o2 (hb _ _ _ _ ?_);refine wpAny_newFunctionEnv_cells S.kind hkind λenv he s1 x=>?_;subst he;refine⟨lim.keeps x.toInCall.keep,kla_codeExpr ?_⟩;obtain⟨t,ht,hq⟩:=hbody A outer s H vs Q E (hr.deeper _) hsp;have I:Inv (zb5 CX0 P w K mg base N qual scope f (.ref c') A outer s H E) [] (zbr N vs) H s1:=ziE S hr.hd e0 hl r x;refine wpAny_mono (ht [] s1 (zbr N vs) H _ I hq) (λu s' hs=>?_) λe s' hs=>hs;obtain⟨v,H',J,rv,q⟩:=hs;exact⟨v,H',J.os,J.bare,J.base,J.hok,rv,q⟩
def sp_fst(f c':Addr)(o:Obj)(q:Str):Sp:=λvs H Q _=>H f=some (fnO f o)/\H c'=some (zgR c' q)/\∃(t:Addr)(x y:V),vs=[.ref t]/\H t=some (.tup [x,y])/\Q x H
theorem Prs.get:∀{ts:List Addr}{ps:List (V×V)},Prs H ts ps->∀(i:Nat)(t:Addr),ts[i]? = some t->∃p,ps[i]? = some p/\H t=some (.tup [p.1,p.2])
 | _,_,.nil,i,t,e=>by simp at e
 | _,_,.cons h r,0,t,e=>by
   simp at e;subst e;exact⟨_,rfl,h⟩
 | _,_,.cons h r,i+1,t,e=>by
   obtain⟨p,e1,e2⟩:=Prs.get r i t (by simpa using e);exact⟨p,by simpa using e1,e2⟩
section
variable {X:Cx}{ex ey:Expr}{t:TA}{c P:Addr}{y:Str}{p1 p2 p3 p4 p5 pos pos2 lpos kp:Pos}{j:Nat}{params:Arguments}{scope:Scope}
end
def zab(K:Frag)(x:Str):Addr:=match tabIn K x with
 | some (_,P)=>P
 | none=>0
structure Lam (K:Frag) (x:Str) (f:Addr):Prop where
 ex:∃c,codeHdIn K c (zab K x)=true/\∃(oc:Value)(od:Option Addr)(fd:FuncData)(osl:Array (Option Value)),K.lookup f=some ⟨oc,od,.func fd,osl⟩/\fd.code=.ref c
def LamK(K:Frag)(x:Str):Prop:=(∃c,tabIn K x=some (c,zab K x))/\K.lookup (zab K x)=none
variable {x:Str}{fd:FuncData}
theorem lam_mk{f c P:Addr}{oc o1:Value}{od d1:Option Addr}{osl s1:Array (Option Value)}{vs:Array Value}(a:nsIn K mainGlobals x=some (some (.ref f)))(l:K.lookup f=some ⟨oc,od,.func fd,osl⟩)(e:fd.code=.ref c)
 (lk:K.lookup c=some ⟨o1,d1,.fields vs,s1⟩) (lv:vs[11]? = some (.ref P)) (lh:codeHdIn K c P=true) (ln:K.lookup P=none):Lam K x f/\LamK K x:=by
 have ht:tabIn K x=some (c,P):=by
  unfold tabIn;rw[a];dsimp only;rw[l];dsimp only;rw[e];dsimp only;rw[lk];dsimp only;rw[lv]
 have hp:zab K x=P:=by unfold zab;rw[ht]
 exact⟨⟨c,by rw[hp];exact lh,oc,od,fd,osl,l,e⟩,⟨c,by rw[hp];exact ht⟩,by rw[hp];exact ln⟩
section
variable {P:Program}{w:World}{K:Frag}{mg:Str->Option Value}{base:Heap}
theorem Fun.okC{x qual y:Str}{st:Stmt}{f:Addr}{fd:FuncData}{N ps:List Str}{k:Nat}{sp:Sp}(F:Fun K x qual st f fd)(L:Lam K y f)(S:FnScope N ps (zf st))(len:∀vs H Q E,sp vs H Q E->vs.length=ps.length)
 (hbody:∀(c:Addr)(A:Around)(outer:List Env)(s:Shared)(H:Hp)(vs:List V)(Q:VK)(E:XK),codeHdIn K c (zab K y)=true->Room k (A.deeper (envOfC qual (zf st) s.heap.objs.size f (.ref c)))->sp vs H Q E ->
   ∃t,PSs (zb5 CX0 P w K mg base N qual (zf st) f (.ref c) A outer s H E).nox (wk st) t/\t { nx:=λ_ H'=>Q .non H',rt:=Q } (zbr N vs) H):FnOk P w K mg base CX0 (k+1) f fd ps sp:=by
 obtain⟨oc,od,kV,doc,pm,an,cdv,ct,osl,rfl,lk,hcd⟩:=F.ex;obtain⟨c,hc,oc',od',fd',osl',lk',e⟩:=L.ex;rw[lk]at lk';cases lk';have e:cdv=.ref c:=e;subst e;refine fn_of lk hcd S len λA outer s H vs Q E hr hsp=>?_;obtain⟨t,h,q⟩:=hbody c A outer s H vs Q E hc hr hsp;exact⟨t,h.nox,q⟩
end
theorem law_callT{mb:Str->Option Value}{CX:CXT}{fa a c T:Addr}{sp:Sp}{s₁:Shared}{vs:List Value}{ns:List Int}
 (KX:K.In s₁.heap) (hns:s₁.heap.Ns mainGlobals mg) (hb:s₁.heap.Ns builtinsNs mb) (hbb:∀x:Str,x≠"__name__"->mb x=bootBuiltins x) (hlim:s₁.heap.NoLimit) (hbm:zfP mg s₁.heap) (hg:s₁.gens = #[])
 (hC:CodeHd s₁.heap c T) (hT:s₁.heap.get? T=some (tabObj #[])) (hTK:K.lookup T=none)
 (ha:s₁.heap.get? a=some { cls:=.type "list",data:=.seq vs.toArray }) (hi:IntsAre vs ns) (hl:ns.length<=sizeLine) (hr:Room k callerA)
 (F:∀base:Heap,K.In base->base.Ns mainGlobals mg->zfP mg base->FnOk P w K mg base CX k fa fd [x] sp) (hbind:∀(s:Shared)(u:Value),BindsTo s fd ⟨[u],[]⟩ [(x,u)])
 (hsp:∀H:Hp,H T=some (.tbl #[])->SqL K H a (ns.map V.int)->sp [.ref a] H (λv _=>v=.bl true) λ_ _ _=>False)
 (hCX:∀H e s',CX [] H s₁ (λ_ _ _=>False) e s'->False) :
 codeAny (model P w) callerA (.call (.ref fa) ⟨[.ref a],[]⟩) (λr s'=>r=.ok (.ret (.bool true))/\OldK s₁.heap s'.heap/\s'.os=s₁.os/\AllBare s'.gens) s₁:=by
 have rv:=zix hi;have lenV:=hi.length;have naT:a≠T:=λz=>by rw[z,hT]at ha;cases ha
 have core:∀H:Hp,(∀b,b≠T->H b=none\/∃o xs,H b=some (.frz o (.lst xs)))->H T=some (.tbl #[])->SqL K H a (ns.map V.int)->HOk P w H s₁.heap->(∀b,H b≠none->b=a\/b=T)->(H a≠none->K.lookup a=none) ->
  codeAny (model P w) callerA (.call (.ref fa) ⟨[.ref a],[]⟩) (λr s'=>r=.ok (.ret (.bool true))/\OldK s₁.heap s'.heap/\s'.os=s₁.os/\AllBare s'.gens) s₁:=by
  intro H hO hHT hS hok hA hK;have base_of:∀{b:Addr}{o:Obj},s₁.heap.get? b=some o->H b=none->(zhV s₁.heap H).get? b=some o:=λe n=>hidT_get e n;have noA:∀{b:Addr}{o:Obj},s₁.heap.get? b=some o->o.cls ≠ .type "list"->o.cls ≠ .none->H b=none:=λ{b o} e d d2=>by
   cases q:H b with
   | none=>rfl
   | some u =>
     rcases hA b (by rw[q];simp)with e' | e'
     ·subst e';rw[ha]at e;cases e;exact absurd rfl d
     ·subst e';rw[hT]at e;cases e;exact absurd rfl d2
  have noD:∀{b:Addr}{o:Obj}{es:Array DictEntry}{ep:Nat},s₁.heap.get? b=some o->o.data=.dict es ep->H b=none:=λ{b o es ep} e d=>by
   cases q:H b with
   | none=>rfl
   | some u =>
     rcases hA b (by rw[q];simp)with e' | e'
     ·subst e';rw[ha]at e;cases e;have d':Data.seq vs.toArray _=Data.dict es ep:=d;cases d'
     ·subst e';rw[hT]at e;cases e;have d':Data.fields #[]=Data.dict es ep:=d;cases d'
  have nsK:∀{b:Addr}{m:Str->Option Value},s₁.heap.Ns b m->(zhV s₁.heap H).Ns b m:=λ{b m} ⟨o,es,ep,e,d,r⟩=>⟨o,es,ep,base_of e (noD e d),d,r⟩;have hKb:K.In (zhV s₁.heap H):=λb o e=>base_of (KX b o e) (by
   cases q:H b with
   | none=>rfl
   | some u =>
     rcases hA b (by rw[q];simp)with e' | e'
     ·subst e';rw[hK (by rw[q];simp)]at e;cases e
     ·subst e';rw[hTK]at e;cases e)
  have hM:Mod K mg (zhV s₁.heap H):=⟨hKb,nsK hns,⟨mb,nsK hb,hbb⟩,let ⟨mc,h1,h2⟩:=hlim;⟨mc,nsK h1,h2⟩⟩;have hBM:zfP mg (zhV s₁.heap H):=let ⟨bm,ob,b1,b2,b3,b4,r⟩:=hbm;⟨bm,ob,b1,b2,base_of b3 (noA b3 (by rw[b4];decide) (by rw[b4];intro z;cases z)),b4,r⟩;have e0:Env0 P w K mg (zhV s₁.heap H) callerA [] s₁ H:=⟨rfl,hM,λb o e=>of_hidT e,le_of_eq (hidT_size _ _),trivial,λb hb=>absurd (show b∈([]:List Addr)from hb) (by simp),hok,.of_eq hg⟩;refine codeAny_mono ((F _ hKb (nsK hns) hBM).run callerA [] s₁ H ⟨[.ref a],[]⟩ [.ref a] [.ref a] _ _ hr e0 (hbind s₁ (.ref a)) (.cons rfl .nil) (hsp H hHT hS)) λr s' h=>?_;cases r with
  | error e=>exact(hCX H e s' h).elim
  | ok fl =>
    cases fl with
    | next=>exact False.elim h
    | brk=>exact False.elim h
    | cont=>exact False.elim h
    | ret u =>
      obtain⟨v,H',os,bare,un,hok',r',q⟩:=h;have q':v=.bl true:=q;subst q';obtain rfl:u=Value.bool true:=r';obtain⟨more,eT⟩:=un.tbls T #[] hHT;have eT2:s'.heap.get? T=some (tabObj (#[]++more)):=hok' T _ eT;have kept:∀b o,b≠T->s₁.heap.get? b=some o->s'.heap.get? b=some o:=λb o n e=>by
       cases q:H b with
       | none=>exact un.keep b o e q (by intro z;exact absurd (show b∈([]:List Addr)from z) (by simp)) (by simp)
       | some u =>
         rcases hO b n with z | ⟨ob,xs,z⟩
         ·rw[q]at z;cases z
         ·have z2:=un.frzs b ob _ z;obtain⟨e1,_⟩:=hok b _ z;obtain⟨e2,_⟩:=hok' b _ z2;rw[e]at e1;cases e1;exact e2
      refine⟨rfl,⟨λb o e=>?_,λb o e=>?_⟩,os,bare⟩
      ·by_cases n:b=T
       ·subst n;rw[hT]at e;cases e;exact .inr (.inl ⟨(hC.tab hT).isCodeTable,rfl,#[],more,rfl,eT2⟩)
       ·exact .inl (kept b o n e)
      ·by_cases n:b=T
       ·subst n;exact⟨_,eT2⟩
       ·exact⟨o,kept b o n e⟩
 cases hk:K.lookup a with
 | some o =>
   have e:=KX a o hk;rw[ha]at e;cases e;refine core (λb=>if b=T then some (.tbl #[])else none) (λb n=>.inl (if_neg n)) (if_pos rfl) (.inr ⟨_,vs.toArray,_,hk,rfl,rfl,rfl,by rw[size_toArray,lenV];exact hl,by simpa using rv⟩) (λb u z=>?_) (λb z=>?_) λz=>absurd (if_neg naT) z
   ·by_cases hb:b=T
    ·have z':=(if_pos hb).symm.trans z;cases z';subst hb;exact hT
    ·have z':=(if_neg hb).symm.trans z;cases z'
   ·by_cases hb:b=T
    ·exact .inr hb
    ·exact absurd (if_neg hb) z
 | none =>
   refine core (λb=>if b=a then some (.frz { cls:=.type "list",data:=.seq vs.toArray } (.lst (ns.map V.int)))else if b=T then some (.tbl #[])else none) (λb n=>?_) ?_ (.inl (.inr ⟨{ cls:=.type "list",data:=.seq vs.toArray },if_pos rfl⟩)) (λb u z=>?_) (λb z=>?_) λ_=>hk
   ·by_cases hb:b=a
    ·exact .inr ⟨_,_,if_pos hb⟩
    ·exact .inl ((if_neg hb).trans (if_neg n))
   ·exact(if_neg (Ne.symm naT)).trans (if_pos rfl)
   ·by_cases hb:b=a
    ·have z':=(if_pos hb).symm.trans z;cases z';subst hb;exact⟨ha,by rw[length_map];exact hl,vs,_,rv,ha⟩
    ·have z':=(if_neg hb).symm.trans z;by_cases hc:b=T
     ·have z2:=(if_pos hc).symm.trans z';cases z2;subst hc;exact hT
     ·have z2:=(if_neg hc).symm.trans z';cases z2
   ·by_cases hb:b=a
    ·exact .inl hb
    ·by_cases hc:b=T
     ·exact .inr hc
     ·exact absurd ((if_neg hb).trans (if_neg hc)) z
theorem walk_ofT{l:PySem.W.OpenLaw}{n:Nat}{q:Program}{loose:List Str}{XP:(Str->Option Value)->Heap->Prop}{YP:World->Heap->Prop}{d:DefRec}{K:Params->Frag}{CX:World->CXT}{sp:World->Sp}{y:Str}
 (hn:l.most=some n) (hn2:n<=sizeLine) (hdf:d.params.defaults=[]) (hr:Room k callerA) (hrec:∃dd,(recsOf q).find? (λe=>e.name==y)=some dd)
 (hY:∀(w:World)(h:Heap),YP w h->(K w.params).In h)
 (F:∀(w:World)(mg:Str->Option Value)(fa:Addr)(h:Heap),(K w.params).In h->h.Ns mainGlobals mg->mg d.name=some (.ref fa) ->
   LamK (K w.params) y/\∃fd:FuncData,(∀(s:Shared)(u:Value),BindsTo s fd ⟨[u],[]⟩ [(x,u)]) /\
    ∀base:Heap,(K w.params).In base->base.Ns mainGlobals mg->zfP mg base->FnOk l.prog w (K w.params) mg base (CX w) k fa fd [x] (sp w))
 (hsp:∀(w:World)(H:Hp)(a:Addr)(ns:List Int),ns.length<=n->H (zab (K w.params) y)=some (.tbl #[])->SqL (K w.params) H a (ns.map V.int)->sp w [.ref a] H (λv _=>v=.bl true) λ_ _ _=>False)
 (hCX:∀(w:World)(H:Hp)(s:Shared)(e:Value)(s':Shared),CX w [] H s (λ_ _ _=>False) e s'->False) :
 PySem.W.WalkO q loose XP YP l.row.toRowW d [] (λf vs=>PySem.call f vs):=by
 refine Att.attach_call hn hdf λw s₀ s₁ mg mb fa o pm cd doc a vs ns G Y ho hd hcd hmg hobj hints hlen hg=>?_;have KX:=hY w _ Y;obtain⟨⟨⟨c,ht⟩,hTK⟩,fd,hb,hF⟩:=F w mg fa _ KX G.T.g hmg;obtain⟨dd,hrec⟩:=hrec;obtain⟨hC,hT⟩:=tab_of G.T KX hrec ht;exact law_callT KX G.T.g G.T.b G.T.builtins G.T.nolimit G.T.bmain hg hC hT hTK hobj hints (le_trans hlen hn2) hr hF hb (λH hO hS=>hsp w H a ns hlen hO hS) λH e s'=>hCX w H s₁ e s'
structure CompScope2 (sc:Scope) (N:List Str) (x x2:Str) (fr:List Str) (ix:List Nat) (scope:Scope):Prop where
 kind:scope.kind=.function
 nocell:∀y∈scope.names,y.2 ≠ .cell
 lcl:∀y∈scope.names,y.2=.local->scope.names.lookup y.1=some .local
 lx:scope.names.lookup x=some .local
 lx2:scope.names.lookup x2=some .local
 free:∀y∈scope.names,y.2=.free->sc.names.lookup y.1=some .cell\/sc.names.lookup y.1=some .free
 at':fr.map some=ix.map λi=>N[i]?
 frk:∀y∈fr,scope.names.lookup y=some .free/\(sc.names.lookup y=some .cell\/sc.names.lookup y=some .free)
 nd:(x::x2::fr).Nodup
section
variable {X:Cx}{pins:List (Addr×Obj)}{σ:St}{H:Hp}{s:Shared}{x x2:Str}{fr:List Str}{ix:List Nat}{scope:Scope}{cl:List (Str×Addr)}{fp:List Addr}{C D:Addr}
theorem blk_ok2(S:CompScope2 X.env.scope X.N x x2 fr ix scope)(I:Inv X pins σ H s)(hf:∀b∈fp,wI X pins H b)(hfo:∀b∈fp,b<s.heap.objs.size)(hC:s.heap.objs.size<=C)
 (h1:∀y c,cl.lookup y=some c->X.env.cells.lookup y=some c) (h2:∀y,(y,NameKind.free)∈scope.names->∃c,cl.lookup y=some c):(blk X (x::x2::fr) scope cl C s H fp).Ok where
 mod:=I.ok.mod
 kind:=S.kind
 glob:=I.ok.glob
 blt:=I.ok.blt
 above:=hC
 inj:=λy z c a b=>I.ok.inj y z c (h1 y c a) (h1 z c b)
 has:=λy hy=>h2 y (zfO (env:=X.env) (scope:=scope) S.nocell hy)
 cab:=λy c h _=>Bool.noConfusion (show false=true from h)
 hd:=I.ok.hd
 frames:=I.ok.frames
 stk:=.inl rfl
 exf:=λb hb=>⟨λz=>absurd (hfo b hb) (by rw[z];exact Nat.not_lt.mpr hC),λy c e=>(hf b hb).2.2.2.2.1 y c (h1 y c e)⟩
 bs:=I.bs
 bsz:=le_trans I.ok.bsz I.sz
 noex:=λb o e hb=>by
  rcases (hf b hb).2.2.2.1 with z | z
  ·exact I.ok.noex b o e z
  ·exact absurd (lt_of_lt_of_le (lt_size e) (le_trans I.ok.bsz z)) (lt_irrefl _)
 exfs:=λb hb z=>by
  rcases List.mem_cons.mp (I.stkSub b z)with e | e
  ·exact(hf b hb).2.1 e
  ·exact(hf b hb).2.2.1 e
 funs:=I.stack
 frf:=I.stkFree
theorem CompScope2.len(S:CompScope2 X.env.scope X.N x x2 fr ix scope):fr.length=ix.length:=by have:=congrArg List.length S.at';simpa using this
theorem blk_inv2{s':Shared}{pn:List (Addr×Obj)}{m:Str->Option Value}(S:CompScope2 X.env.scope X.N x x2 fr ix scope)(I:Inv X pins σ H s)(hf:∀b∈fp,wI X pins H b)(hfo:∀b∈fp,b<s.heap.objs.size)(hC:s.heap.objs.size<=C)
 (h1:∀y c,cl.lookup y=some c->X.env.cells.lookup y=some c) (h2:∀y,(y,NameKind.free)∈scope.names->∃c,cl.lookup y=some c)
 (ho:s'.os=s.os) (hg:s'.gens=s.gens) (k:∀b o,s.heap.get? b=some o->s'.heap.get? b=some o) (hn:s'.heap.Ns C m)
 (hp:∀p∈pn,s'.heap.get? p.1=some p.2/\s.heap.objs.size<=p.1/\p.1≠C/\∀v,p.2.data ≠ .cell v) :
 Inv (blk X (x::x2::fr) scope cl C s H fp) pn (none::none::cap ix σ) H s':=by
 obtain⟨mX,hnX,hlX⟩:=I.loc;refine⟨blk_ok2 S I hf hfo hC h1 h2,ho,by rw[hg];exact I.bare,Un.kept k,⟨m,hn,λi y v e1 e2 e3=>?_⟩,λy c e=>?_,I.hok.fresh hC,λy c e=>I.freeC y c (h1 y c e),λp hp'=>?_,I.hok.kept k,by
  show(none::none::cap ix σ).length=(x::x2::fr).length;simp[ziW,S.len]⟩
 ·rcases i with _ | _ | j
  ·cases e2
  ·cases e2
  ·have e1':fr[j]? = some y:=e1;have e2':(cap ix σ)[j]? = some (some v):=e2;obtain⟨f1,f2⟩:=S.frk y (mem_of_getElem? e1');unfold cap at e2';rw[getElem?_map]at e2';cases ei:ix[j]? with
   | none=>rw[ei]at e2';cases e2'
   | some i =>
     rw[ei]at e2';have e3':(σ[i]?).join=some v:=Option.some.inj e2';have e4:σ[i]? = some (some v):=by
      cases q:σ[i]? with
      | none=>rw[q]at e3';cases e3'
      | some w=>rw[q]at e3';have:w=some v:=e3';rw[this]
     have e5:X.N[i]? = some y:=by
      have:=congrArg (λl=>l[j]?) S.at';simp only[getElem?_map,e1',ei]at this
      simpa using this.symm
     have vis:Vis X.env.scope y:=by
      rcases f2 with z | z
      ·exact .inr (.inl z)
      ·exact .inr (.inr z)
     obtain⟨u,r,l⟩:=hlX i y v e5 e4 vis;refine⟨u,r,.inr ⟨zbH f1,?_⟩⟩;rcases l with⟨z,_⟩|⟨_,c,ec,hc⟩
     ·rcases f2 with q | q
      ·have q':=(show X.env.scope.names.lookup y=some .local from z).symm.trans q;cases q'
      ·have q':=(show X.env.scope.names.lookup y=some .local from z).symm.trans q;cases q'
     ·obtain⟨c',hc'⟩:=h2 y (PySem.mem_of_lookup f1);have:c'=c:=by have:=h1 y c' hc';rw[ec]at this;exact(Option.some.inj this).symm
      subst this;refine⟨c',hc',?_⟩;obtain⟨o,ho',hd⟩:=hc;exact⟨o,k _ _ ho',hd⟩
 ·obtain⟨v,o,ho',hd⟩:=I.cell y c (h1 y c e);exact⟨v,o,k _ _ ho',hd⟩
 ·have hp'':p∈pn:=by simpa [blk] using hp'
  obtain⟨q1,q2,q3,q4⟩:=hp p hp'';refine⟨q1,I.hok.fresh q2,q3,λz=>?_,q4⟩;obtain⟨_,o,ho',_⟩:=I.stack.mem z;exact absurd (lt_of_lt_of_le (lt_size ho') q2) (lt_irrefl _)
end
def zf5(K:Frag)(J:It)(c:St)(tc:TT)(te:TE)(H1:Hp)(fin:List V->Hp->Prop):Prop :=
 ∃W:Nat->Nat->List V->Hp->Prop,(∃m,W 0 m [] H1)/\∀i m ys H,W i m ys H ->
  (J.stop i H/\ys.length<=sizeLine/\fin ys H) \/
  (J.go i H/\ys.length<sizeLine/\∃N:List V->Hp->Prop,(∀ys' H',N ys' H'->∃m',m'<m/\W (i+1) m' ys' H')/\∀x H',J.yld i H x H'->∃t a b,x=.ref t/\SqT K H' t [a,b]/\tc (some a::some b::c) H' λd H2=>if d=true then te (some a::some b::c) H2 λy H3=>N (ys++[y]) H3 else N ys H2)
def tComp2(K:Frag)(ix:List Nat)(wi:TI)(tc:TT)(te:TE):TE:=λσ H Q=>wi σ H λJ H1=>zf5 K J (cap ix σ) tc te H1 λys H2=>∀l,H2 l=none->Q (.ref l) (upd H2 l (.lst ys))
section
variable {X:Cx}{x x2:Str}{fr:List Str}{ix:List Nat}{scope:Scope}{elt iter:Expr}{ifs:List Expr}{px px2 tp pos:Pos}{tk:Nat}{wi:TI}{tc:TT}{te:TE}
theorem ziz{use:Option (Value->Sem Unit)}{Q:Value->Shared->Prop}{pins:List (Addr×Obj)}{s2:Shared}{σ:St}{H2:Hp}{it:Addr}{fp:List Addr}{tn:Nat->Heap->Prop}{J:It}{cl:List (Str×Addr)}(S:CompScope2 X.env.scope X.N x x2 fr ix scope)(hc:X.calm=true)
 (hif:∀cl C s2 H2 fp,PIf (blk X (x::x2::fr) scope cl C s2 H2 fp) ifs tc) (he:∀cl C s2 H2 fp,PE (blk X (x::x2::fr) scope cl C s2 H2 fp) elt te)
 (h1:∀y c,cl.lookup y=some c->X.env.cells.lookup y=some c) (h2:∀y,(y,NameKind.free)∈scope.names->∃c,cl.lookup y=some c)
 (I2:Inv X pins σ H2 s2) (T:Turn X.prog X.w X.K (.Tuple [.Name x px,.Name x2 px2] tk tp) J fp it tn) (st2:tn 0 s2.heap) (f2:∀b∈fp,wI X pins H2 b) {fin:List V->Hp->Prop} (wc:zf5 X.K J (cap ix σ) tc te H2 fin)
 (hQ:∀(D C:Addr)(ys:List V)(H':Hp)(s':Shared)(m:Str->Option Value),Inv X pins σ (upd H' D (.lst ys)) s'->H' D=none->s'.heap.Ns C m->D≠C->s2.heap.objs.size<=C->H' C=none->fin ys H' ->
   compPost (model X.prog X.w) X.A X.xe use Q (.ref D) C (.ok .next) s') :
 wpAny (model X.prog X.w) X.A (newList []) (λacc s₃=>wpAny (model X.prog X.w) X.A (newFunctionEnv scope X.env.globals cl [] X.env.qual none .none (some X.env)) (λcenv s₄ =>
  codeAny (model X.prog X.w) X.A (.compStart (.ListComp elt [⟨.Tuple [.Name x px,.Name x2 px2] tk tp,iter,ifs,0⟩] scope pos) 0 (.ref it) acc { cenv with scope:=relabel scope X.env }) (compPost (model X.prog X.w) X.A X.xe use Q acc cenv.locals) s₄) X.xe s₃) X.xe s2:=by
 have hfo:∀b∈fp,b<s2.heap.objs.size:=λb hb=>by
  obtain⟨o,e,_⟩:=T.obj 0 _ st2 b hb;exact lt_size e
 refine wpAny_newObj_type (wpAny_newFunctionEnv S.nocell (by intro y hy;simp at hy) (λh₁ hns₁ hsb₁=>?_) S.kind);dsimp only at hns₁ hsb₁ ⊢;generalize hHp:s2.heap.push { cls:=.type "list",dict:=none,data:=.seq ([]:List Value).toArray }=Hp2 at hns₁ hsb₁ ⊢;have hCs:Hp2.objs.size=s2.heap.objs.size+1:=by rw[<-hHp,size_push]
 have hDC:s2.heap.objs.size≠Hp2.objs.size:=by rw[hCs];exact ne_of_lt (lt_succ_self _)
 have hCle:s2.heap.objs.size<=Hp2.objs.size:=by rw[hCs];exact le_succ _
 have zeZ:∀b,b<s2.heap.objs.size->b≠Hp2.objs.size:=λb hb=>by rw[hCs];exact ne_of_lt (lt_succ_of_lt hb)
 have old:∀b o,s2.heap.get? b=some o->h₁.get? b=some o:=λb o e=>hsb₁.extBut b o (zeZ b (lt_size e)) (get?_push_of_some _ (hHp ▸ get?_push_of_some _ e));have hacc:h₁.get? s2.heap.objs.size=some { cls:=.type "list",data:=.seq ([]:List Value).toArray 0 }:=hsb₁.extBut _ _ hDC (get?_push_of_some _ (hHp ▸ get?_push_size _ rfl));have st1:tn 0 h₁:=T.keep 0 _ _ st2 λb _ o e=>old b o e;have fpD:∀b∈fp,b≠s2.heap.objs.size:=λb hb=>ne_of_lt (hfo b hb);generalize hD:s2.heap.objs.size=D at hacc hDC fpD ⊢;have hDle:s2.heap.objs.size<=D:=le_of_eq hD;generalize hC:Hp2.objs.size=C at hns₁ hsb₁ hDC hCle ⊢;have oldD:∀b o,s2.heap.get? b=some o->b≠D:=λb o e z=>absurd (lt_size e) (by rw[z,<-hD];exact lt_irrefl _);obtain⟨W,⟨m0,w0⟩,turn⟩:=wc;have loop:∀s₃:Shared,s₃={ s2 with heap:=h₁,toks:=s2.toks+([]:List (Str×Value)).length } ->
  codeAny (model X.prog X.w) X.A (.compLoop (.ListComp elt [⟨.Tuple [.Name x px,.Name x2 px2] tk tp,iter,ifs,0⟩] scope pos) 0 (.ref it) (.ref D) (compEnvC scope cl C X.env))
   (compPost (model X.prog X.w) X.A X.xe use Q (.ref D) C) s₃:=by
  rintro s₃ rfl;have I0:Inv (blk X (x::x2::fr) scope cl C s2 H2 fp) [(D,{ cls:=.type "list",data:=.seq ([]:List Value).toArray 0 })] (none::none::cap ix σ) H2 { s2 with heap:=h₁,toks:=s2.toks+([]:List (Str×Value)).length } :=
   blk_inv2 S I2 f2 hfo hCle h1 h2 rfl rfl old hns₁ (λp hp=>by
    have e:p=(D,{ cls:=.type "list",data:=.seq ([]:List Value).toArray 0 }):=by simpa using hp
    subst e;exact⟨hacc,hDle,hDC,λv z=>by cases z⟩)
  have stat:∀{its:Obj}{H':Hp},(∀b∈fp,H' b=none)->∀b∈fp,wI (blk X (x::x2::fr) scope cl C s2 H2 fp) [(D,its)] H' b:=λ{its H'} hn b hb=>by
   refine⟨hn b hb,λz=>?_,λz=>(I0.ok.exfs b hb z),.inl hb,λy c e=>(I0.ok.exf b hb).2 y c e,λp hp z=>?_⟩
   ·exact(I0.ok.exf b hb).1 z
   ·have e:p=(D,its):=by simpa [blk] using hp
    subst e;exact fpD b hb (Eq.symm z)
  refine zdv (env:=compEnvC scope cl C X.env)
   (λn s'=>∃i ys its k v0 v1 H',Vals ys its/\Inv (blk X (x::x2::fr) scope cl C s2 H2 fp) [(D,{ cls:=.type "list",data:=.seq its.toArray k })] (v0::v1::cap ix σ) H' s'/\tn i s'.heap/\(∀b∈fp,H' b=none)/\W i n ys H') ?_ m0
   ⟨0,[],[],0,none,none,H2,.nil,I0,st1,λb hb=>(f2 b hb).1,w0⟩
  rintro n s3 ⟨i,ys,its,k,v0,v1,H3,rv,I3,st3,fr3,w3⟩;rcases turn i n ys H3 w3 with⟨stop,hz,hfin⟩|⟨go,hz,N,hN,step⟩
  ·refine thn (T.done (blk X (x::x2::fr) scope cl C s2 H2 fp) rfl rfl rfl hc i _ s3 _ H3 _ I3 (stat fr3) st3 stop) λr s4 ⟨hr,I4⟩=>?_;subst hr;have pD:=I4.pin (D,{ cls:=.type "list",data:=.seq its.toArray k }) (by simp[blk]);obtain⟨mC,hnC,_⟩:=I4.loc;have hH3D:H3 D=none:=pD.2.1;have hok':HOk X.prog X.w (upd H3 D (.lst ys)) s4.heap:=λb u e=>by
    by_cases hb:b=D
    ·subst hb;rw[zd]at e;cases e;exact⟨hz,its,k,rv,pD.1⟩
    ·rw[zh hb]at e;exact(I4.hok b u e).stay (λc v _ q=>q) (λc q=>by rw[zh (zn q hH3D)];exact q) λc xs q=>by rw[zh (zn q hH3D)];exact q
   have b4:Un (frs X.stack) fp H2 H3 s2.heap s4.heap:=I4.base;have un:Un (frs X.stack) fp H2 (upd H3 D (.lst ys)) s2.heap s4.heap :=
    ⟨b4.keep,b4.slot,λb o q n hx=>by
     rw[zh (oldD b o q)];exact b4.free b o q n hx,b4.there,λb xs q=>by rw[zh (zn (b4.tups b xs q) hH3D)];exact b4.tups b xs q,
     λb o u q=>by rw[zh (zn (b4.frzs b o u q) hH3D)];exact b4.frzs b o u q,λb ps q=>by
      obtain⟨more,e⟩:=b4.tbls b ps q;exact⟨more,by rw[zh (zn e hH3D)];exact e⟩⟩
   have I5:Inv X pins σ (upd H3 D (.lst ys)) s4:=I2.call' (ch:=fp) I4.os un hok' I4.bare λb hb=>by
    obtain⟨g0,g1,g2,g3,g4,g5⟩:=f2 b hb;exact⟨g3,g1,g4,g5⟩
   exact hQ D C ys H3 s4 mC I5 hH3D hnC hDC hCle I4.free hfin
  ·refine thn (T.item (blk X (x::x2::fr) scope cl C s2 H2 fp) rfl rfl rfl hc i _ s3 _ H3 _ I3 (stat fr3) st3 go) λr s4 ⟨u,hr,h4⟩=>?_;subst hr;refine thn h4 λ_ s5 ⟨y,H5,I5,r5,y5,st5,fr5⟩=>?_;have I5':=I5.pinned (stat fr5) (T.obj _ _ st5);have pg:PG (blk X (x::x2::fr) scope cl C s2 H2 fp) (.Tuple [.Name x px,.Name x2 px2] tk tp) (gTup X.K 2 (gCons (zgv 0) (gCons (zgv 1) gNil))) :=
    pg_tup hc (zfG (zU S.nd rfl (.inl (lookup_relabel_local S.lx)) (.inr (lookup_relabel_local S.lx))) (zfG (zU S.nd rfl (.inl (lookup_relabel_local S.lx2)) (.inr (lookup_relabel_local S.lx2))) pgs_nil))
   obtain⟨t5,y1,y2,ey,ht5,q5⟩:=step y _ y5;refine thn (pg _ s5 _ H5 y u (λσ6 H6=>σ6=some y1::some y2::cap ix σ/\H6=H5) I5' r5 ⟨t5,_,ey,ht5,rfl,_,_,rfl,_,_,rfl,rfl,rfl,rfl⟩) λ_ s6 ⟨σ6,H6,I6,e6,e6'⟩=>?_;subst e6 e6';refine thn (hif cl C s2 H2 fp _ s6 _ _ _ I6 q5) λb s7 ⟨H7,I7,q7⟩=>?_;have again:∀{s8:Shared}{H8:Hp}{its':List Value}{k':Nat}{ys':List V},Vals ys' its'->Inv (blk X (x::x2::fr) scope cl C s2 H2 fp) [(D,{ cls:=.type "list",data:=.seq its'.toArray k' })] (some y1::some y2::cap ix σ) H8 s8->(∀b∈fp,∀o,s5.heap.get? b=some o->s8.heap.get? b=some o)->(∀b∈fp,H8 b=none)->N ys' H8 ->
    ∃m,m<n/\∃i ys its k v0 v1 H',Vals ys its/\Inv (blk X (x::x2::fr) scope cl C s2 H2 fp) [(D,{ cls:=.type "list",data:=.seq its.toArray k })] (v0::v1::cap ix σ) H' s8/\tn i s8.heap/\(∀b∈fp,H' b=none)/\W i m ys H' :=
    λ{s8 H8 its' k' ys'} rv8 I8 kp fr8 nn=>let ⟨m',hm,w8⟩:=hN ys' H8 nn;⟨m',hm,i+1,ys',its',k',some y1,some y2,H8,rv8,I8,T.keep _ _ _ st5 kp,fr8,w8⟩
   cases b with
   | false =>
     rw[if_neg Bool.false_ne_true]at q7 ⊢;refine again rv I7.unpinned (λb hb o e=>(I7.pin (b,o) (by simp[blk];exact .inr (yy hb e))).1) (λb hb=>?_) q7;obtain⟨o,e,d⟩:=T.obj _ _ st5 b hb;exact(I7.pin (b,o) (by simp[blk];exact .inr (yy hb e))).2.1
   | true =>
     rw[if_pos rfl]at q7 ⊢;refine thn (he cl C s2 H2 fp _ s7 _ _ _ I7 q7) λv s8 ⟨z,H8,I8,r8,q8⟩=>?_;have pD:=I8.pin (D,{ cls:=.type "list",data:=.seq its.toArray k }) (by simp[blk]);have hvl:ys.length=its.length:=rv.length;refine append_at (hsz:=by show its.toArray.size<=sizeLine;rw[size_toArray];omega) pD.1 λh₉ hs₉ hD₉=>?_;have eo:({ cls:=.type "list",data:=.seq (its.toArray.push v) (k+1) }:Obj)={ cls:=.type "list",data:=.seq (its++[v]).toArray (k+1) }:=by rw[push_toArray]
     rw[eo]at hD₉;have pn8:∀b∈fp,∀o,s5.heap.get? b=some o->s8.heap.get? b=some o/\H8 b=none:=λb hb o e=>by
      have q:=I8.pin (b,o) (by simp[blk];exact .inr (yy hb e));exact⟨q.1,q.2.1⟩
     have J8:=I8.unpinned.pins_of (pins':=[]) (λp hp=>by cases hp);have f2D:wI (blk X (x::x2::fr) scope cl C s2 H2 fp) [] H8 D:=⟨pD.2.1,pD.2.2.1,pD.2.2.2.1,.inr hDle,λy c e z=>by
      obtain⟨v,o,ho,_⟩:=I2.cell y c (h1 y c e);exact oldD c o ho z,λp hp=>by cases hp⟩
     have I9:Inv (blk X (x::x2::fr) scope cl C s2 H2 fp) [] (some y1::some y2::cap ix σ) H8 { s8 with heap:=h₉ }:=J8.turned (t':=s8.toks) (it:=D) (λb o hb e=>(hs₉.2 b hb).trans e) f2D.1 f2D.2.1 f2D.2.2.2.1 f2D.2.2.2.2.1 f2D.2.2.2.2.2;refine again (its':=its++[v]) (k':=k+1) (ys':=ys++[z]) (rv.append (.cons r8 .nil)) (I9.pins_of λp hp=>?_) (λb hb o e=>(hs₉.2 b (fpD b hb)).trans (pn8 b hb o e).1) (λb hb=>?_) q8
     ·have e:p=(D,{ cls:=.type "list",data:=.seq (its++[v]).toArray (k+1) }):=by simpa using hp
      subst e;exact⟨hD₉,f2D.1,f2D.2.1,f2D.2.2.1,λv z=>by cases z⟩
     ·obtain⟨o,e,d⟩:=T.obj _ _ st5 b hb;exact(pn8 b hb o e).2
 exact codeAny_compStart_list (loop _ rfl) (T.self X.A 0 _ _ _ st1 (loop _ rfl))
theorem zjI(S:CompScope2 X.env.scope X.N x x2 fr ix scope)(hc:X.calm=true)(hi:PI X (.Tuple [.Name x px,.Name x2 px2] tk tp) iter wi)(hif:∀cl C s2 H2 fp,PIf (blk X (x::x2::fr) scope cl C s2 H2 fp) ifs tc)(he:∀cl C s2 H2 fp,PE (blk X (x::x2::fr) scope cl C s2 H2 fp) elt te)
 (hs:∀x,foldedSetIterable iter X.env x=pure x:=by intro _;rfl):PE X (.ListComp elt [⟨.Tuple [.Name x px,.Name x2 px2] tk tp,iter,ifs,0⟩] scope pos) (tComp2 X.K ix wi tc te):=by
 intro pins s σ H Q I h;obtain⟨cl,ecl,h1,h2⟩:=zbV (env:=X.env) (scope:=scope) λy hy hf=>I.ok.has y.1 (S.free y hy hf);rw[eval_ListComp];refine wpAny_comprehension_free (use:=none) rfl hs ecl S.kind S.lcl (thn (hi pins s σ H _ I h) λxv s1 q1=>thn q1 λitv s2 q2=>?_);obtain⟨it,fp,tn,J,H2,rfl,I2,T,st2,f2,wc⟩:=q2;refine ziz S hc hif he h1 h2 I2 T st2 f2 wc λD C ys H' s' m I' hD hn hDC hC hHC fin=>?_;refine⟨m,hn,λh' sb=>⟨.ref D,upd H' D (.lst ys),?_,rfl,fin D hD⟩⟩;have hcf:wI X pins (upd H' D (.lst ys)) C:=by
  have z:=I2.fpOk (H':=upd H' D (.lst ys)) hC (by rw[zh (Ne.symm hDC)];exact hHC);exact z
 exact I'.turned (t':=s'.toks) (it:=C) (λb o hb e=>(sb.2 b hb).trans e) hcf.1 hcf.2.1 hcf.2.2.2.1 hcf.2.2.2.2.1 hcf.2.2.2.2.2
theorem zd7{i:Nat}{y:Str}{py spos:Pos}(S:CompScope2 X.env.scope X.N x x2 fr ix scope)(hc:X.calm=true)(hN:X.N.Nodup)(hiy:X.N[i]? = some y)(hy:Loc X.env.scope y)(hi:PI X (.Tuple [.Name x px,.Name x2 px2] tk tp) iter wi)(hif:∀cl C s2 H2 fp,PIf (blk X (x::x2::fr) scope cl C s2 H2 fp) ifs tc)(he:∀cl C s2 H2 fp,PE (blk X (x::x2::fr) scope cl C s2 H2 fp) elt te)
 (hsw:swapsWith (.ListComp elt [⟨.Tuple [.Name x px,.Name x2 px2] tk tp,iter,ifs,0⟩] scope pos) (some (.Name y py)) spos.line X.env=pure true:=by rfl)
 (hf:X.fn y=true\/X.env.scope.names.lookup y=some .local:=by first | exact .inl rfl | exact .inr rfl | assumption)
 (hs:∀x,foldedSetIterable iter X.env x=pure x:=by intro _;rfl) :
 PS X (.Assign [.Name y py] (.ListComp elt [⟨.Tuple [.Name x px,.Name x2 px2] tk tp,iter,ifs,0⟩] scope pos) spos) (tAsg (tComp2 X.K ix wi tc te) (zgv i)):=by
 intro pins s σ H Dn I h;obtain⟨cl,ecl,h1,h2⟩:=zbV (env:=X.env) (scope:=scope) λy hy hf=>I.ok.has y.1 (S.free y hy hf);rw[exec_Assign_Name_used _ _ _ _ hsw];refine wpAny_bind (wpAny_standAt (wpAny_bind ?_));show wpAny _ X.A (do let _ <-comprehension (.ListComp elt [⟨.Tuple [.Name x px,.Name x2 px2] tk tp,iter,ifs,0⟩] scope pos) scope X.env _ (newList []) false (eval iter X.env) (some (assign (.Name y py) X.env))) _ _ s;refine wpAny_bind (thn (Q:=λ_ s'=>SP X pins Dn .next s') ?_ λ_ s' q=>wpAny_pure (wpAny_pure q));refine wpAny_comprehension_free (use:=some (assign (.Name y py) X.env)) rfl hs ecl S.kind S.lcl (thn (hi pins s σ H _ I h) λxv s1 q1=>thn q1 λitv s2 q2=>?_);obtain⟨it,fp,tn,J,H2,rfl,I2,T,st2,f2,wc⟩:=q2;refine ziz S hc hif he h1 h2 I2 T st2 f2 wc λD C ys H' s' m I' hD hn hDC hC hHC fin=>?_;have hcf:wI X pins (upd H' D (.lst ys)) C:=I2.fpOk (H':=upd H' D (.lst ys)) hC (by rw[zh (Ne.symm hDC)];exact hHC);show wpAny _ X.A (assign (.Name y py) X.env (.ref D)) _ _ s';refine wpAny_assign_Name (zfX (v:=V.ref D) I' hN hiy hy rfl (λs'' I'' hsb=>?_) hf);obtain⟨a,sb,ha⟩:=hsb;have hCa:C≠a:=λz=>by
  rcases ha with q | q
  ·exact hcf.2.1 (z.trans q)
  ·exact hcf.2.2.2.2.1 y a q z.symm
 refine⟨m,hn.sameBut sb hCa,λh' sb'=>⟨_,_,I''.turned (t':=s''.toks) (it:=C) (λb o hb e=>(sb'.2 b hb).trans e) hcf.1 hcf.2.1 hcf.2.2.2.1 hcf.2.2.2.2.1 hcf.2.2.2.2.2,fin D hD⟩⟩
end
section
variable {X:Cx}{pins:List (Addr×Obj)}{σ:St}{H:Hp}{s:Shared}{h':Heap}{t':Nat}{ch:List Addr}
theorem Inv.movedF(I:Inv X pins σ H s)(o:∀c∈ch,wI X pins H c)(k:∀b u,b∉ch->s.heap.get? b=some u->h'.get? b=some u):Inv X pins σ H { s with heap:=h',toks:=t' }:=by
 have nit:∀b u,H b=some u->b∉ch:=λb u e z=>by rw[(o b z).1]at e;cases e
 have nL:X.env.locals∉ch:=λz=>(o _ z).2.1 rfl;refine I.step (g':=s.gens) (d':=s.drawn) (ch:=ch) (λb hb=>⟨(o b hb).2.2.2.1,(o b hb).2.1,(o b hb).2.2.2.2.1,(o b hb).2.2.2.2.2⟩) (λb u _ _ hc e _=>k b u hc e) (λb u _ _ hc e _=>⟨u.slots,k b u hc e⟩)
  (λ_ _ _ _ n=>n) (λb u hc e=>⟨u,k b u hc e⟩) (λ_ _ e=>e) (λ_ _ _ e=>e) (λb ps e=>⟨#[],by rw[e];simp⟩) (λm hm=>?_) (λb u e=>?_) I.bare
 ·obtain⟨ob,es,ep,ho,r⟩:=hm;exact⟨ob,es,ep,k _ ob nL ho,r⟩
 ·refine(I.hok b u e).stay (λc v hc q=>k c v ?_ q) (λ_ q=>q) λ_ _ q=>q;rcases hc with z | z
  ·rw[z];exact nit b u e
  ·exact nit c _ z
theorem Inv.movedFT{T:Addr}{v:HO}(I:Inv X pins σ H s)(o:∀c∈ch,wI X pins H c)(k:∀b u,b∉ch->s.heap.get? b=some u->h'.get? b=some u)(hT:s.heap.objs.size<=T)(new:ObjOk X.prog X.w (upd H T v) h' T v):
 Inv X pins σ (upd H T v) { s with heap:=h',toks:=t' }:=by
 have hf:H T=none:=I.hok.fresh hT;have nit:∀b u,H b=some u->b∉ch:=λb u e z=>by rw[(o b z).1]at e;cases e
 have nL:X.env.locals∉ch:=λz=>(o _ z).2.1 rfl;have up:∀b u,H b=some u->upd H T v b=some u:=λb u e=>by rw[zh (zn e hf)];exact e
 refine I.step (g':=s.gens) (d':=s.drawn) (ch:=ch) (λb hb=>⟨(o b hb).2.2.2.1,(o b hb).2.1,(o b hb).2.2.2.2.1,(o b hb).2.2.2.2.2⟩) (λb u _ _ hc e _=>k b u hc e) (λb u _ _ hc e _=>⟨u.slots,k b u hc e⟩)
  (λb u _ e n=>?_) (λb u hc e=>⟨u,k b u hc e⟩) (λb _ e=>up b _ e) (λb _ _ e=>up b _ e) (λb ps e=>⟨#[],by rw[up b _ e];simp⟩) (λm hm=>?_) (λb u e=>?_) I.bare
 ·rw[zh (λz=>by rw[z]at e;exact absurd (lt_size e) (Nat.not_lt.mpr hT))];exact n
 ·obtain⟨ob,es,ep,ho,r⟩:=hm;exact⟨ob,es,ep,k _ ob nL ho,r⟩
 ·by_cases hb:b=T
  ·subst hb;rw[zd]at e;cases e;exact new
  ·rw[zh hb]at e;refine(I.hok b u e).stay (λc w hc q=>k c w ?_ q) (λc q=>up c _ q) λc _ q=>up c _ q;rcases hc with z | z
   ·rw[z];exact nit b u e
   ·exact nit c _ z
end
def Itz(K:Frag)(l1 l2:Addr):It :=
 ⟨λi H=>∃xs ys x y,SqL K H l1 xs/\SqL K H l2 ys/\xs[i]? = some x/\ys[i]? = some y,
  λi H v H'=>∃t x y,v=.ref t/\H t=none/\H'=upd H t (.tup [x,y])/\(∀xs,SqL K H l1 xs->xs[i]? = some x)/\∀ys,SqL K H l2 ys->ys[i]? = some y,
  λi H=>∃xs ys,SqL K H l1 xs/\SqL K H l2 ys/\(xs.length<=i\/ys.length<=i)⟩
theorem turn_zip{elts:List Expr}{pos:Pos}{z TI TO i1 i2 l1 l2:Addr}(D:ZipApart z TI TO i1 i2 l1 l2):
 Turn P w K (.Tuple elts k pos) (Itz K l1 l2) [z,TI,TO,i1,i2] z (λi h=>IsZip h z TI TO .none/\IsPair h TI (.ref i1) (.ref i2)/\(∃a b,IsPair h TO a b)/\h.IsListIter i1 l1 i/\h.IsListIter i2 l2 i) where
 mem:=by simp
 obj:=λi h st b hb=>by
  obtain⟨a1,a2,⟨_,_,a3⟩,⟨o4,e4,c4,d4⟩,⟨o5,e5,c5,d5⟩⟩:=st;simp only[mem_cons,not_mem_nil,or_false]at hb;rcases hb with rfl | rfl | rfl | rfl | rfl
  ·exact⟨_,a1,λv z=>by cases z⟩
  ·exact⟨_,a2,λv z=>by cases z⟩
  ·exact⟨_,a3,λv z=>by cases z⟩
  ·exact⟨_,e4,λv z=>by rw[d4]at z;cases z⟩
  ·exact⟨_,e5,λv z=>by rw[d5]at z;cases z⟩
 keep:=λi h h' st k=>by
  obtain⟨a1,a2,⟨a,b,a3⟩,a4,a5⟩:=st;exact⟨k _ (by simp) _ a1,k _ (by simp) _ a2,⟨a,b,k _ (by simp) _ a3⟩,a4.at λo e=>k _ (by simp) o e,a5.at λo e=>k _ (by simp) o e⟩
 item:=by
  intro X hP hw hK hc i pins s σ H E I hf st hg;subst hP hw hK;obtain⟨xs,ys,x,y,q1,q2,hx,hy⟩:=hg;obtain⟨hz,hTI,⟨a,b,hTO⟩,h1,h2⟩:=st;obtain⟨us,r1,p1,z1⟩:=I.list q1;obtain⟨vs,r2,p2,z2⟩:=I.list q2;obtain⟨u,hu,ru⟩:=r1.get hx;obtain⟨v,hv,rv⟩:=r2.get hy;have nTI:TI ∉ [z,TO,i1,i2]:=by simp[D.TIz,D.TITO,D.TIi1,D.TIi2]
  have ff:∀c ∈ [z,TO,i1,i2],wI X pins H c:=λc hc=>hf c (by simp only[mem_cons,not_mem_nil,or_false]at hc ⊢;rcases hc with e | e | e | e <;> simp[e]);refine wpAny_pyNext_zip_item D hz hTI hTO h1 h2 p1.isList p2.isList (by simpa using hu) (by simpa using hv) λh' a1 a2 a3 a4 a5 a6 hk=>?_;have kk:∀c o,c ∉ [z,TO,i1,i2]->s.heap.get? c=some o->h'.get? c=some o:=λc o hc e=>hk c o (λw=>hc (by simp[w])) (λw=>hc (by simp[w])) (λw=>hc (by simp[w])) (λw=>hc (by simp[w])) e;have I1:Inv X pins σ (upd H s.heap.objs.size (.tup [x,y])) { s with heap:=h' }:=I.movedFT (t':=s.toks) ff kk (le_refl _) ⟨by show 2<=sizeLine;decide,[u,v],.cons ru (.cons rv .nil),_,a5,rfl,_,rfl⟩;refine⟨_,rfl,wpAny_letOwnedTupleGo_zip a1 λh2' hz' hs'=>?_⟩;have lt:∀c ∈ [z,TI,TO,i1,i2],c≠s.heap.objs.size:=λc hc=>by
   have:∃o,s.heap.get? c=some o:=by
    simp only[mem_cons,not_mem_nil,or_false]at hc;rcases hc with rfl | rfl | rfl | rfl | rfl
    ·exact⟨_,hz⟩
    ·exact⟨_,hTI⟩
    ·exact⟨_,hTO⟩
    ·obtain⟨o,e,_⟩:=h1;exact⟨o,e⟩
    ·obtain⟨o,e,_⟩:=h2;exact⟨o,e⟩
   obtain⟨o,e⟩:=this;exact ne_of_lt (lt_size e)
  have fz:wI X pins (upd H s.heap.objs.size (.tup [x,y])) z:=by
   obtain⟨f0,f1⟩:=hf z (by simp);exact⟨by rw[zh (lt z (by simp))];exact f0,f1⟩
  have I2:Inv X pins σ (upd H s.heap.objs.size (.tup [x,y])) { s with heap:=h2' }:=Inv.movedF (s:={ s with heap:=h' }) (t':=s.toks) (ch:=[z]) I1 (λc hc=>by rw[List.mem_singleton.mp hc];exact fz) λc o hc e=>hs'.extBut c o (λw=>hc (by simp[w])) e;refine⟨.ref s.heap.objs.size,_,I2,rfl,⟨_,x,y,rfl,I.hok.fresh (le_refl _),rfl,λxs' q=>?_,λys' q=>?_⟩,⟨hz',hs'.extBut _ _ D.TIz (kk _ _ nTI hTI),⟨_,_,hs'.extBut _ _ D.TOz a2⟩,a3.extBut hs'.extBut D.i1z,a4.extBut hs'.extBut D.i2z⟩,λc hc=>?_⟩
  ·rw[I.list_inj q q1];exact hx
  ·rw[I.list_inj q q2];exact hy
  ·rw[zh (lt c hc)];exact(hf c hc).1
 done:=by
  intro X hP hw hK hc i pins s σ H E I hf st hg;subst hP hw hK;obtain⟨xs,ys,q1,q2,hend⟩:=hg;obtain⟨hz,hTI,⟨a,b,hTO⟩,h1,h2⟩:=st;obtain⟨us,r1,p1,z1⟩:=I.list q1;obtain⟨vs,r2,p2,z2⟩:=I.list q2;have l1':=r1.length;have l2':=r2.length;have ff:∀c ∈ [z,TO,i1,i2],wI X pins H c:=λc hc=>hf c (by simp only[mem_cons,not_mem_nil,or_false]at hc ⊢;rcases hc with e | e | e | e <;> simp[e]);refine wpAny_pyNext_zip_end (I.ok.hd hc) D hz hTI hTO h1 h2 p1.isList p2.isList ?_ λh' hk=>⟨rfl,I.movedF (t':=s.toks) ff λc o hc e=>hk c o (λw=>hc (by simp[w])) (λw=>hc (by simp[w])) (λw=>hc (by simp[w])) (λw=>hc (by simp[w])) e⟩;rcases hend with h | h
  ·exact .inl (by simp;omega)
  ·exact .inr (by simp;omega)
 self:=λ_ _ _ _ _ st h=>wpAny_pyIter_zip st.1 h
inductive IIZip (K:Frag) (vs:List V) (H1:Hp) (R:It->Hp->Prop):Prop
 | mk (l1:_) (l2:_) (xs:_) (ys:_):vs=[.ref l1,.ref l2]->SqL K H1 l1 xs->SqL K H1 l2 ys->R (Itz K l1 l2) H1->IIZip K vs H1 R
def iZip(K:Frag)(ta:TA):TI:=λσ H R=>ta σ H λvs H1=>IIZip K vs H1 R
section
variable {X:Cx}{ex ey:Expr}{t:TA}{p pos tp:Pos}{elts:List Expr}{tk:Nat}
theorem pi_zip(hg:Gl X "zip")(hm:X.mg "zip"=none)(ha:PA X [ex,ey] t)(he:starEach [ex,ey] X.env=(false,eval ex X.env)::starEach [ey] X.env:=by rfl)(hpl:(backTo pos (starEach [ey] X.env)).any (·.1)=false:=by rfl):
 PI X (.Tuple elts tk tp) (.Call (.Name "zip" p) [ex,ey] [] pos) (iZip X.K t):=by
 intro pins s σ H R I h;refine wpAny_Call_Name_kw (zcR I hg hm boot_zip ?_ (by decide) (by decide));refine callWith_type1 (thn (ha pos pins s σ H _ I h) λus s1 hh=>?_) he hpl;obtain⟨vs,H1,I1,r1,l1,l2,xs,ys,rfl,q1,q2,q⟩:=hh;cases r1 with
 | cons e1 r=>cases r with
   | cons e2 r =>
     cases r;cases e1;cases e2;obtain⟨us,r1,p1,_⟩:=I1.list q1;obtain⟨ws,r2,p2,_⟩:=I1.list q2;have b1:=p1.isList;have b2:=p2.isList;have t1:l1<s1.heap.objs.size:=by obtain⟨u,hu,_⟩:=b1;exact lt_size hu
     have t2:l2<s1.heap.objs.size:=by obtain⟨u,hu,_⟩:=b2;exact lt_size hu
     refine call_zip_2 b1 b2 λh' hz hTI hTO hi1 hi2 hsz hk=>?_;have n:∀(l:Addr)(d:Nat),l<s1.heap.objs.size->l≠s1.heap.objs.size+d:=λl d h=>ne_of_lt (lt_of_lt_of_le h (le_add_right _ _));have m:∀d e:Nat,d≠e->s1.heap.objs.size+d≠s1.heap.objs.size+e:=λd e h w=>h (Nat.add_left_cancel w);refine wpAny_pyIter_zip hz ?_;refine⟨s1.heap.objs.size+4,[s1.heap.objs.size+4,s1.heap.objs.size+2,s1.heap.objs.size+3,s1.heap.objs.size+0,s1.heap.objs.size+1],_,Itz X.K l1 l2,H1,rfl,I1.kept (t':=s1.toks) hk,
      turn_zip (i1:=s1.heap.objs.size+0) (i2:=s1.heap.objs.size+1) (TI:=s1.heap.objs.size+2) (TO:=s1.heap.objs.size+3) (l1:=l1) (l2:=l2) ⟨m 2 4 (by decide),m 3 4 (by decide),m 0 4 (by decide),m 1 4 (by decide),m 2 3 (by decide),m 2 0 (by decide),m 2 1 (by decide),m 3 0 (by decide),m 3 1 (by decide),m 0 1 (by decide),n _ 4 t1,n _ 3 t1,n _ 0 t1,n _ 1 t1,n _ 4 t2,n _ 3 t2,n _ 0 t2,n _ 1 t2⟩,
      ⟨hz,hTI,⟨_,_,hTO⟩,hi1,hi2⟩,λb hb=>?_,q⟩
     have hb':∃d,b=s1.heap.objs.size+d:=by
      simp only[mem_cons,not_mem_nil,or_false]at hb;rcases hb with w | w | w | w | w
      ·exact⟨4,w⟩
      ·exact⟨2,w⟩
      ·exact⟨3,w⟩
      ·exact⟨0,w⟩
      ·exact⟨1,w⟩
     obtain⟨d,rfl⟩:=hb';exact I1.fpOk (le_add_right _ _) (I1.hok.fresh (le_add_right _ _))
end
theorem for_zip{l1 l2:Addr}{xs ys:List V}{g:TG}{tb:TS}{D:Ends}{σ:St}(Pv:Nat->St->Hp->Prop)(h0:Pv 0 σ H)(hl:∀i σ H,i<=min xs.length ys.length->Pv i σ H->SqL K H l1 xs/\SqL K H l2 ys)
 (hs:∀i x y t σ H,xs[i]? = some x->ys[i]? = some y->H t=none->Pv i σ H->g (.ref t) σ (upd H t (.tup [x,y])) λσ2 H2=>tb { D with nx:=Pv (i+1),ct:=Pv (i+1),bk:=D.nx } σ2 H2) (hd:∀σ H,Pv (min xs.length ys.length) σ H->D.nx σ H) :
 ∃W:Nat->Nat->St->Hp->Prop,(∃m,W 0 m σ H)/\∀i m σ H,W i m σ H ->
  ((Itz K l1 l2).stop i H/\D.nx σ H)\/((Itz K l1 l2).go i H/\∃N:St->Hp->Prop,(∀σ' H',N σ' H'->∃m',m'<m/\W (i+1) m' σ' H')/\∀x H',(Itz K l1 l2).yld i H x H'->g x σ H' λσ2 H2=>tb { D with nx:=N,ct:=N,bk:=D.nx } σ2 H2):=by
 refine⟨λi m σ H=>m=min xs.length ys.length-i/\i<=min xs.length ys.length/\Pv i σ H,⟨min xs.length ys.length,by simp,zero_le _,h0⟩,?_⟩;rintro i m σ H ⟨rfl,hi,p⟩;obtain⟨q1,q2⟩:=hl i σ H hi p;by_cases hlt:i<min xs.length ys.length
 ·have h1:i<xs.length:=by omega
  have h2:i<ys.length:=by omega
  refine .inr ⟨⟨xs,ys,xs[i],ys[i],q1,q2,by simp[h1],by simp[h2]⟩,Pv (i+1),λσ' H' p'=>⟨min xs.length ys.length-(i+1),by omega,rfl,hlt,p'⟩,λv H' y=>?_⟩;obtain⟨t,x,y,rfl,hn,rfl,e1,e2⟩:=y;exact hs i x y t σ _ (e1 xs q1) (e2 ys q2) hn p
 ·have e:i=min xs.length ys.length:=by omega
  subst e;exact .inl ⟨⟨xs,ys,q1,q2,by omega⟩,hd σ H p⟩
end L2
namespace L2
open PySem PySem.W PySem.Spec PyProof.Rows
variable {fin:List V->Hp->Prop}
theorem comp2_list{K:Frag}{a:Addr}{xs:List V}{c:St}{tc:TT}{te:TE}{H:Hp}(Pv:Nat->List V->Hp->Prop)(h0:Pv 0 [] H)(hl:∀i ys H,i<=xs.length->Pv i ys H->SqL K H a xs/\ys.length<=i)(hz:xs.length<=sizeLine)
 (hs:∀i x ys H,xs[i]? = some x->Pv i ys H->∃t u v,x=.ref t/\SqT K H t [u,v]/\tc (some u::some v::c) H λb H2=>if b=true then te (some u::some v::c) H2 λy H3=>Pv (i+1) (ys++[y]) H3 else Pv (i+1) ys H2) (hd:∀ys H,Pv xs.length ys H->fin ys H):zf5 K (Itl K a) c tc te H fin:=by
 refine⟨λi m ys H=>m=xs.length-i/\i<=xs.length/\Pv i ys H,⟨xs.length,by simp,zero_le _,h0⟩,?_⟩;rintro i m ys H ⟨rfl,hi,p⟩;obtain⟨q,hy⟩:=hl i ys H hi p;by_cases hlt:i<xs.length
 ·refine .inr ⟨⟨xs,xs[i],q,by simp[hlt]⟩,by omega,λys' H'=>Pv (i+1) ys' H',λys' H' p'=>⟨xs.length-(i+1),by omega,rfl,hlt,p'⟩,λx H' y=>?_⟩;obtain⟨e,y⟩:=y;subst e;exact hs i x ys _ (y xs q) p
 ·have e:i=xs.length:=by omega
  subst e;exact .inl ⟨⟨xs,q,le_refl _⟩,by omega,hd ys H p⟩
theorem zgA{K:Frag}{a:Addr}{xs:List V}{c:St}{te:TE}{H:Hp}(Pv:Nat->List V->Hp->Prop)(h0:Pv 0 [] H)(hl:∀i ys H,i<=xs.length->Pv i ys H->SqL K H a xs/\ys.length<=i)(hz:xs.length<=sizeLine)
 (hs:∀i x ys H,xs[i]? = some x->Pv i ys H->∃t u v,x=.ref t/\SqT K H t [u,v]/\te (some u::some v::c) H λy H3=>Pv (i+1) (ys++[y]) H3) (hd:∀ys H,Pv xs.length ys H->fin ys H):zf5 K (Itl K a) c tYes te H fin :=
 comp2_list Pv h0 hl hz (λi x ys H e p=>let ⟨t,u,v,e1,e2,h⟩:=hs i x ys H e p;⟨t,u,v,e1,e2,zh5 (B:=Pv (i+1) ys H) h⟩) hd
end L2
namespace L2
open PySem PySem.W PySem.Spec PyProof.Rows PySem.Calls
def LamS(P:Addr)(q:Str)(H:Hp):Prop:=∃ps,H P=some (.tbl ps)/\TriplesOk ps.toList/\∀pos cv,codeAmong pos ps.toList=some cv->∃c',cv=.ref c'/\H c'=some (zgR c' q)
theorem LamS.new{P:Addr}{q:Str}{H:Hp}(h:H P=some (.tbl #[])):LamS P q H:=⟨#[],h,trivial,λpos cv e=>by simp[codeAmong]at e⟩
theorem LamS.same{P:Addr}{q:Str}{H H':Hp}(h:LamS P q H)(s:Same H H'):LamS P q H':=by
 obtain⟨ps,h1,h2,h3⟩:=h;exact⟨ps,s _ _ h1,h2,λpos cv e=>let ⟨c',e1,e2⟩:=h3 pos cv e;⟨c',e1,s _ _ e2⟩⟩
def zce:Str:=Str.ofString "by_place" ++ ".<locals>." ++ "<lambda>"
theorem among_snoc{pos:Pos}{a b:Int}{c x:Value}:∀(l:List Value),TriplesOk l->codeAmong pos (l++[rawInt a,rawInt b,c])=some x->codeAmong pos l=some x\/x=c:=by
 intro l h e
 fun_induction TriplesOk l with
 | case1 =>
   simp only[List.nil_append,codeAmong,rawInt]at e;split at e
   ·cases e;exact .inr rfl
   ·cases e
 | case2 a' t b' u y zfe ih =>
   simp only[cons_append,codeAmong]at e ⊢;split at e
   ·rename_i hc;rw[if_pos hc];exact .inl e
   ·rename_i hc;rw[if_neg hc];exact ih h e
 | case3=>exact h.elim
section
variable {X:Cx}{pins:List (Addr×Obj)}{σ:St}{H:Hp}{s:Shared}{E:Value->Shared->Prop}
theorem lam_eval2{params:Arguments}{body:Expr}{scope:Scope}{pos:Pos}{c P:Addr}{Q:Value->Shared->Prop}(I:Inv X pins σ H s)(hL:LamS P (X.env.qual ++ "<lambda>") H)(hcode:X.env.code=.ref c)(C:CodeHd X.base c P)(B:zfP X.mg X.base)
 (hdef:defaultsOf params X.env=([],[])) (hcl:closureFor scope X.env=pure [])
 (q:∀(f c':Addr)(pm ctv:Value)(H3:Hp)(s':Shared),(∀b u,b≠P->s.heap.get? b=some u->s'.heap.get? b=some u)->s.heap.objs.size<=s'.heap.objs.size ->
   (∀a,a<s.heap.objs.size->a≠P->H3 a=H a)->H3 f=some (fnO f (kla_obj "<lambda>" (X.env.qual ++ "<lambda>") params body scope [] pm c' ctv))->H3 c'=some (zgR c' (X.env.qual ++ "<lambda>"))->SameN H H3->LamS P (X.env.qual ++ "<lambda>") H3->Inv X pins σ H3 s'->Q (.ref f) s') :
 wpAny (model X.prog X.w) X.A (eval (.Lambda params body scope pos) X.env) Q E s:=by
 obtain⟨ps,hP,ht,hh⟩:=hL;have hb:∀b o,X.base.get? b=some o->b≠P:=λb o e z=>by have:=(I.bs b o e).2;rw[z,hP]at this;cases this
 have hPg:s.heap.get? P=some (tabObj ps):=I.hok P _ hP;have hPs:P<s.heap.objs.size:=I.hok.lt hP;obtain⟨bm,ob,b1,b2,b3,b4,b5,b6⟩:=B;have hG:mainGlobals≠P:=by obtain⟨o,_,_,e,_⟩:=I.mod.glob;exact hb _ o e
 have hbG:bm≠mainGlobals:=λz=>by
  obtain⟨o,es,ep,e,hd,_⟩:=I.mod.glob;rw[z,e]at b3;cases b3;rw[hd]at b6;cases b6
 cases hA:codeAmong pos ps.toList with
 | none =>
   refine kla_eval hdef (kla_makeFunction (ps:=ps) (mg:=X.mg) hcl I.ok.glob (I.mod.glob.keeps I.bk) hcode (C.keeps I.bk) hPg ht hA hG ⟨bm,ob,b1,b2,hbG,hb _ _ b3,I.bk _ _ b3,b4,b5,b6⟩ λc' ctv h' tk hx hge hlt hrec htb=>?_);have J:=I.lam (tk:=tk) (fo:=kla_obj "<lambda>" (X.env.qual ++ "<lambda>") params body scope [] ((X.mg "__name__").getD .none) c' ctv) rfl hP hx hge hlt hrec htb;have nPc:P≠c':=ne_of_lt (lt_of_lt_of_le hPs hge);have ncf:c'≠h'.objs.size:=ne_of_lt hlt;have nPf:P≠h'.objs.size:=ne_of_lt (lt_trans (lt_of_lt_of_le hPs hge) hlt);have old:∀a,a<s.heap.objs.size->a≠P->(upd (upd (upd H P (.tbl (ps ++ #[rawInt ↑pos.line,rawInt ↑pos.col,Value.ref c']))) c' (zgR c' (X.env.qual ++ "<lambda>"))) h'.objs.size (fnO h'.objs.size (kla_obj "<lambda>" (X.env.qual ++ "<lambda>") params body scope [] ((X.mg "__name__").getD .none) c' ctv))) a=H a:=λa h1 h2=>by
    rw[zh (ne_of_lt (lt_trans (lt_of_lt_of_le h1 hge) hlt)),zh (ne_of_lt (lt_of_lt_of_le h1 hge)),zh h2]
   have atP:(upd (upd (upd H P (.tbl (ps ++ #[rawInt ↑pos.line,rawInt ↑pos.col,Value.ref c']))) c' (zgR c' (X.env.qual ++ "<lambda>"))) h'.objs.size (fnO h'.objs.size (kla_obj "<lambda>" (X.env.qual ++ "<lambda>") params body scope [] ((X.mg "__name__").getD .none) c' ctv))) P=some (.tbl (ps ++ #[rawInt ↑pos.line,rawInt ↑pos.col,Value.ref c'])):=by rw[zh nPf,zh nPc,zd]
   have hcc:(upd (upd (upd H P (.tbl (ps ++ #[rawInt ↑pos.line,rawInt ↑pos.col,Value.ref c']))) c' (zgR c' (X.env.qual ++ "<lambda>"))) h'.objs.size (fnO h'.objs.size (kla_obj "<lambda>" (X.env.qual ++ "<lambda>") params body scope [] ((X.mg "__name__").getD .none) c' ctv))) c'=some (zgR c' (X.env.qual ++ "<lambda>")):=by rw[zh ncf,zd]
   refine q h'.objs.size c' ((X.mg "__name__").getD .none) ctv _ _ (λb u n e=>get?_push_of_some _ (hx b u n e)) ?_ old zd hcc ⟨λb u e n=>?_,λb qs e=>?_⟩ ⟨_,atP,?_,λpos' cv e=>?_⟩ J
   ·show s.heap.objs.size<=(h'.push _).objs.size;rw[size_push];exact le_of_lt (Nat.lt_of_le_of_lt hge (lt_succ_of_lt hlt))
   ·rw[old b (I.hok.lt e) (λw=>by rw[w,hP]at e;cases e;exact n _ rfl)];exact e
   ·by_cases hb:b=P
    ·subst hb;exact⟨_,atP⟩
    ·exact⟨qs,by rw[old b (I.hok.lt e) hb];exact e⟩
   ·rw[Array.toList_append];exact TriplesOk_snoc _ _ _ _ ht
   ·rw[Array.toList_append]at e;rcases among_snoc _ ht e with e | rfl
    ·obtain⟨c2,e1,e2⟩:=hh pos' cv e;exact⟨c2,e1,by rw[old c2 (I.hok.lt e2) (λw=>by rw[w,hP]at e2;cases e2)];exact e2⟩
    ·exact⟨c',rfl,hcc⟩
 | some cv =>
   obtain⟨c',rfl,hcc⟩:=hh pos cv hA;refine kla_eval hdef (kla_makeFunctionHit (ps:=ps) (mg:=X.mg) hcl I.ok.glob (I.mod.glob.keeps I.bk) hcode (C.keeps I.bk) hPg ht hA ⟨bm,ob,b1,b2,hbG,hb _ _ b3,I.bk _ _ b3,b4,b5,b6⟩ λctv h' tk hk hsz=>?_);have hn:H h'.objs.size=none:=I.hok.fresh hsz;have J:Inv X pins σ (upd H h'.objs.size (fnO h'.objs.size (kla_obj "<lambda>" (X.env.qual ++ "<lambda>") params body scope [] ((X.mg "__name__").getD .none) c' ctv))) { s with heap:=h'.push (kla_obj "<lambda>" (X.env.qual ++ "<lambda>") params body scope [] ((X.mg "__name__").getD .none) c' ctv),toks:=tk } :=
    I.laid (t':=tk) (λb u e=>get?_push_of_some _ (hk b u e)) hsz ⟨get?_push_size _ rfl,⟨_,get?_push_size _ rfl⟩,λh1 h2 a b=>b _ a⟩
   refine q h'.objs.size c' ((X.mg "__name__").getD .none) ctv _ _ (λb u n e=>get?_push_of_some _ (hk b u e)) ?_ (λa h1 h2=>zh (ne_of_lt (lt_of_lt_of_le h1 hsz))) zd ((Same.new hn) _ _ hcc) (Same.new hn).toN (LamS.same ⟨ps,hP,ht,hh⟩ (Same.new hn)) J;show s.heap.objs.size<=(h'.push _).objs.size;rw[size_push];exact Nat.le_succ_of_le hsz
end
def tSZ2(K:Frag)(P:Addr)(qq:Str)(t:TA):TE:=λσ H Q=>t σ H λvs H1=>∃(l1 l2:Addr)(xs:List Int)(yv:List V),vs=[.ref l1,.ref l2]/\SqL K H1 l1 (xs.map V.int)/\SqL K H1 l2 yv/\xs.length=yv.length/\0<xs.length/\xs.length<64/\LamS P qq H1 /\
 ∀(H2:Hp)(ts:List Addr)(l:Addr)(p:Array Nat),SameN H1 H2->LamS P qq H2->Prs H2 ts ((xs.map V.int).zip yv)->H2 l=none->M14.I (λk=>xs.getD k 0) xs.length p xs.length->Q (.ref l) (upd H2 l (.lst (p.toList.map λi=>V.ref (ts.getD i 0))))
section
variable {X:Cx}{ex ey:Expr}{t:TA}{c P:Addr}{y:Str}{p1 p2 p3 p4 p5 pos pos2 lpos kp:Pos}{j:Nat}{params:Arguments}{scope:Scope}
theorem pe_sortz2{qq:Str}(hqq:X.env.qual ++ "<lambda>"=qq)(hr:Room 3 X.A)(hg1:Gl X "sorted")(hm1:X.mg "sorted"=none)(hg2:Gl X "zip")(hm2:X.mg "zip"=none)(hcode:X.env.code=.ref c)(C:codeHdIn X.K c P=true)(B:zfP X.mg X.base)(S:FnScope [y] [y] scope)
 (hy:scope.names.lookup y=some .local) (hdb:(y==("__debug__":Str))=false) (hdc:(y==("__classdict__":Str))=false)
 (hdef:defaultsOf params X.env=([],[])) (hcl:closureFor scope X.env=pure [])
 (hbind:∀(q:Str)(pm cv ctv u:Value)(b:Expr),bindArgs (kla_fn "<lambda>" q params b scope [] pm cv ctv) ⟨[u],[]⟩=pure [(y,u)])
 (ha:PA X [ex,ey] t) (he:starEach [ex,ey] X.env=(false,eval ex X.env)::starEach [ey] X.env:=by rfl) (hpl:(backTo pos2 (starEach [ey] X.env)).any (·.1)=false:=by rfl) :
 PE X (.Call (.Name "sorted" p1) [.Call (.Name "zip" p2) [ex,ey] [] pos2] [⟨some "key",.Lambda params (.Subscript (.Name y p3) (.Constant (.int 0) j p4) p5) scope lpos,kp⟩] pos) (tSZ2 X.K P qq t):=by
 intro pins s σ H Q I h;refine wpAny_Call_Name_kw (zcR I hg1 hm1 boot_sorted ?_ (by decide) (by decide));refine callWith_kw ?_;refine Calls.spliced_cons ?_;refine wpAny_Call_Name_kw (zcR I hg2 hm2 boot_zip ?_ (by decide) (by decide));refine callWith_type1 (thn (ha pos2 pins s σ H _ I h) λus s1 hh=>?_) he hpl;obtain⟨vs,H1,I1,r1,l1,l2,xs,yv,rfl,q1,q2,hl,h0,h64,hP,q⟩:=hh;obtain⟨u1,u2,rfl⟩:∃u1 u2,us=[u1,u2]:=by
  cases r1 with
  | cons _ r=>cases r with
    | cons _ r=>cases r with
      | nil=>exact⟨_,_,rfl⟩
 cases r1 with
 | cons e1 r=>cases r with
   | cons e2 r =>
     cases (show u1=Value.ref l1 from e1);cases (show u2=Value.ref l2 from e2);refine made_zip I1 q1 q2 λs2 z TI TO i1 i2 xv' yv' rx ry I2 D o st=>?_;refine Calls.spliced_nil ?_;refine kws_cons ?_;subst hqq;refine lam_eval2 (c:=c) (P:=P) I2 hP hcode (codeHd_of_K I2.mod.kin C) B hdef hcl λf c' pm ctv H3 s3 k hsz old hf hcc sn ls3 I3=>?_;refine kws_nil ?_;obtain⟨ps,hP,_⟩:=hP;have hPg:s2.heap.get? P=some (tabObj ps):=I2.hok P _ hP;have nO:∀a ∈ [z,TO,i1,i2],a≠P:=λa ha w=>by have:=(o a ha).1.free;rw[w,hP]at this;cases this
     have nX:∀(a:Addr)(u:Obj),s2.heap.get? a=some u->u.cls ≠ .none->a≠P:=λa u e n w=>by rw[w,hPg]at e;cases e;exact n rfl
     obtain⟨a1,a2,a3,a4,a5,a6⟩:=st;obtain⟨b1,ba,bb,b2⟩:IsZip s2.heap z TI TO .none/\∃a b,IsPair s2.heap TO a b:=by
      rcases a6 with⟨_,w⟩|⟨w,_⟩
      ·exact w
      ·exact absurd w (lt_irrefl _)
     have st3:ZSt z TI TO i1 i2 l1 l2 xv'.toArray yv'.toArray 0 s3:=by
      refine⟨k _ _ (nX _ _ a1 (by intro w;cases w)) a1,a2.at λu e=>k _ u (nO _ (by simp)) e,a3.at λu e=>k _ u (nO _ (by simp)) e,a4.at λu e=>k _ u ?_ e,a5.at λu e=>k _ u ?_ e,.inl ⟨rfl,k _ _ (nO _ (by simp)) b1,ba,bb,k _ _ (nO _ (by simp)) b2⟩⟩
      ·obtain⟨u',e',hc,_⟩:=a4;exact nX _ _ e' (by rw[hc];intro w;cases w)
      ·obtain⟨u',e',hc,_⟩:=a5;exact nX _ _ e' (by rw[hc];intro w;cases w)
     have o3:∀a ∈ [z,TO,i1,i2],Own X pins H3 a/\a<s3.heap.objs.size:=λa ha=>by
      obtain⟨oa,la⟩:=o a ha;exact⟨⟨by rw[old a la (nO a ha)];exact oa.free,oa.loc,oa.new,oa.cell,oa.pin,oa.fs⟩,lt_of_lt_of_le la hsz⟩
     have lx:(xs.map V.int).length=xs.length:=length_map _;have F:FnOk X.prog X.w X.K X.mg X.base CX0 1 f (kla_fn "<lambda>" (X.env.qual ++ "<lambda>") params (.Subscript (.Name y p3) (.Constant (.int 0) j p4) p5) scope [] pm (.ref c') ctv) [y] (sp_fst f c' (kla_obj "<lambda>" (X.env.qual ++ "<lambda>") params (.Subscript (.Name y p3) (.Constant (.int 0) j p4) p5) scope [] pm c' ctv) (X.env.qual ++ "<lambda>")):=by
      refine lam_ok S (λvs H Q E h=>?_) (λvs H Q E h=>⟨h.1,h.2.1⟩) λA outer s H vs Q E hr h=>?_
      ·obtain⟨_,_,t,x,y',rfl,_⟩:=h;rfl
      ·obtain⟨_,_,t,x,y',rfl,ht,hq⟩:=h;exact⟨_,zo yt (pe_var (i:=0) rfl (.inl hy) hdb hdc) zg (λ_ _=>rfl),⟨_,rfl,t,[x,y'],0,x,rfl,rfl,.inl (.inl ht),rfl,hq⟩⟩
     show wpAny (model X.prog X.w) X.A (call (.builtin "sorted") [.ref z] [(Str.ofString "key",.ref f)]) _ _ s3;refine zkS (kz:=xs) (xv:=xs.map V.int) (yv:=yv) (q:=f) hr.hd D rx ry (by rw[lx];exact hl) (by rw[lx];exact h64) (by rw[lx];exact h0) lx.symm I3 o3 st3 (λH4 ts s4 pr i v pins' s5 hv I5=>?_) λs4 H4 ts l p sm pr hn hi I4=>?_
     ·rw[getElem?_map]at hv;cases et:ts[i]? with
      | none=>rw[et]at hv;cases hv
      | some a =>
        rw[et]at hv;cases hv;obtain⟨⟨pa,pb⟩,ep,ha⟩:=pr.get i a et;have epa:pa=.int (xs.getD i 0):=by
         rw[List.getElem?_zip_eq_some]at ep;obtain⟨ep,_⟩:=ep;rw[getElem?_map]at ep;rw[getD_eq_getElem?_getD];cases ex:xs[i]? with
         | none=>rw[ex]at ep;cases ep
         | some x=>rw[ex]at ep;cases ep;rfl
        subst epa;refine wpAny_call (codeAny_mono (F.run X.A.in1.in1 X.stack s5 H4 ⟨[.ref a],[]⟩ [.ref a] [.ref a] (λx H'=>x=.int (xs.getD i 0)/\H'=H4) E0 hr.in1.in1 I5.env0.in1.in1 (.of_eq (hbind _ _ _ _ _ _)) (.cons rfl .nil) ⟨s4 _ _ hf,s4 _ _ hcc,a,_,_,rfl,ha,rfl,rfl⟩) λr s6 hq=>?_);cases r with
        | error e=>exact hq
        | ok fl =>
          cases fl with
          | next=>exact False.elim hq
          | brk=>exact False.elim hq
          | cont=>exact False.elim hq
          | ret u =>
            obtain⟨v,H',I6,rv,rfl,rfl⟩:=I5.after hq;obtain⟨tk,rfl⟩:=rv;exact⟨I6,tk,rfl⟩
     ·rw[lx]at hi;exact⟨.ref l,_,I4,rfl,q H4 ts l p (sn.trans sm.toN) (ls3.same sm) pr hn hi⟩
end
theorem comp2_zip{K:Frag}{l1 l2:Addr}{xs ys:List V}{c:St}{tc:TT}{te:TE}{H:Hp}{fin:List V->Hp->Prop}(Pv:Nat->List V->Hp->Prop)(h0:Pv 0 [] H)(hl:∀i zs H,i<=min xs.length ys.length->Pv i zs H->SqL K H l1 xs/\SqL K H l2 ys/\zs.length<=i)(hz:min xs.length ys.length<=sizeLine)
 (hs:∀i x y t zs H,xs[i]? = some x->ys[i]? = some y->H t=none->Pv i zs H->tc (some x::some y::c) (upd H t (.tup [x,y])) λb H2=>if b=true then te (some x::some y::c) H2 λz H3=>Pv (i+1) (zs++[z]) H3 else Pv (i+1) zs H2) (hd:∀zs H,Pv (min xs.length ys.length) zs H->fin zs H):zf5 K (Itz K l1 l2) c tc te H fin:=by
 refine⟨λi m zs H=>m=min xs.length ys.length-i/\i<=min xs.length ys.length/\Pv i zs H,⟨min xs.length ys.length,by simp,zero_le _,h0⟩,?_⟩;rintro i m zs H ⟨rfl,hi,p⟩;obtain⟨q1,q2,hy⟩:=hl i zs H hi p;by_cases hlt:i<min xs.length ys.length
 ·have h1:i<xs.length:=by omega
  have h2:i<ys.length:=by omega
  refine .inr ⟨⟨xs,ys,xs[i],ys[i],q1,q2,by simp[h1],by simp[h2]⟩,by omega,Pv (i+1),λzs' H' p'=>⟨min xs.length ys.length-(i+1),by omega,rfl,hlt,p'⟩,λv H' y=>?_⟩;obtain⟨t,x,y,rfl,hn,rfl,e1,e2⟩:=y;exact⟨t,x,y,rfl,.inl (.inl zd),hs i x y t zs _ (e1 xs q1) (e2 ys q2) hn p⟩
 ·have e:i=min xs.length ys.length:=by omega
  subst e;exact .inl ⟨⟨xs,ys,q1,q2,by omega⟩,by omega,hd zs H p⟩
section
variable {X:Cx}
end
section
variable {X:Cx}{tg:Expr}
end
end L2
namespace L2
open PySem PySem.Spec PyProof.Rows PySem.Builtin PySem.Builtin.Str
theorem strs_of:∀{ts:List Str}{us:List Value},Vals (ts.map V.str) us->∃l:List (Str×Tok),us=strValues l/\l.map (·.1)=ts
 | [],_,h=>by cases h;exact⟨[],rfl,rfl⟩
 | x::ts,_,h=>by
   cases h with
   | cons r h =>
     obtain⟨t,rfl⟩:=r;obtain⟨l,rfl,e⟩:=strs_of h;exact⟨(x,t)::l,rfl,by rw[map_cons,e]⟩
theorem join_fits{z:Str}{ts:List Str}(hz:z.length<=10)(hl:ts.length<=200)(h:∀t∈ts,t.length<=2000):tooLong (ts.toArray.foldl (·+ ·.length+z.length) 0)=false:=by
 have go:∀(l:List Str)(n:Nat),(∀t∈l,t.length<=2000)->l.foldl (·+ ·.length+z.length) n<=n+2010*l.length:=by
  intro l
  induction l with
  | nil=>intro n _;simp
  | cons t l ih =>
    intro n h;have:=ih (n+t.length+z.length) λu hu=>h u (mem_cons_of_mem _ hu);have h1:=h t (mem_cons_self ..);rw[foldl_cons,length_cons];omega
 have:=go ts 0 h;have hln:=zt;unfold tooLong;rw[List.foldl_toArray];simp only[gt_iff_lt,decide_eq_false_iff_not];omega
section
variable {X:Cx}
theorem zda:zak X (.type "str") (λxs H Q=>(∃i:Int,xs=[.int i]/\i.natAbs.log2<1920/\Q (.str (toString i)) H)\/∃y,xs=[.str y]/\Q (.str y) H):=by
 intro pins s σ H xs us Q I r h;rcases h with⟨i,rfl,hd,q⟩|⟨y,rfl,q⟩
 ·obtain⟨u,rfl,⟨t,rfl⟩⟩:=r.one;exact P.str_of_int hd ⟨.str _,H,I.tok _,⟨_,rfl⟩,q⟩
 ·obtain⟨u,rfl,⟨t,rfl⟩⟩:=r.one;exact P.str_of_str ⟨.str _,H,I,⟨_,rfl⟩,q⟩
inductive IRJoin (K:Frag) (x:V) (xs:List V) (H:Hp) (Q:VK):Prop
 | mk (z:Str) (a:Addr) (ts:List Str):x=.str z->xs=[.ref a]->SqL K H a (ts.map V.str)->z.length<=10->ts.length<=200->((∀t∈ts,t.length<=2000))->Q (.str (Txt.join z ts)) H->IRJoin K x xs H Q
def rJoin(K:Frag):V->List V->Hp->VK->Prop:=λx xs H Q=>IRJoin K x xs H Q
theorem ms_join:MtR X "str.join" (rJoin X.K):=by
 intro pins s σ H x xs v us Q I rx rv h;obtain⟨z,a,ts,rfl,rfl,hq,h1,h2,h3,q⟩:=h;obtain⟨t,rfl⟩:=rx;obtain⟨u,rfl,ru⟩:=rv.one;cases ru;obtain⟨its,rr,p,_⟩:=I.list hq;obtain⟨l,rfl,rfl⟩:=strs_of rr;have hf:=join_fits h1 h2 h3;exact call_meets F.slot_str_join (typeIs_str _ _ _) F.entry_str_join (F.args_str_join_2 _ _) (meets_str_join_list z t a l hf) ⟨p.isList,post_join l ⟨joinFit_length hf,λt' k=>⟨.str _,H,I.tok _,⟨_,rfl⟩,q⟩⟩⟩
end
def tN(n:Int):Str:=Str.ofString (toString n)
theorem zeA{i:Int}(h:i.natAbs<=100000):i.natAbs.log2<1920:=by
 by_cases h0:i.natAbs=0
 ·rw[h0];decide
 ·have:i.natAbs.log2<17:=(Nat.log2_lt h0).mpr (by omega);omega
section
variable {X:Cx}
end
end L2
namespace M2
open PySem L2
def zfn(z:Str):Bool:=(decide (1<=(z.length:Int)) && decide ((z.length:Int)<=8)) && (z.cps.toList.map zeo).all id
def zel(ts:List Str):Bool:=(decide (1<=(ts.length:Int)) && decide ((ts.length:Int)<=15)) && (decide ts.Nodup && (ts.map zfn).all id)
theorem zbR(z:Str):zfn z=true↔(1<=z.length/\z.length<=8)/\∀c∈z.cps.toList,zeo c=true:=by
 unfold zfn;simp only[Bool.and_eq_true,decide_eq_true_eq,all_map,all_eq_true,Function.comp,id];constructor
 ·rintro ⟨⟨h1,h2⟩,h3⟩;exact⟨⟨by omega,by omega⟩,h3⟩
 ·rintro ⟨⟨h1,h2⟩,h3⟩;exact⟨⟨by omega,by omega⟩,h3⟩
theorem zf7(ts:List Str):zel ts=true↔(1<=ts.length/\ts.length<=15)/\ts.Nodup/\∀z∈ts,(1<=z.length/\z.length<=8)/\∀c∈z.cps.toList,zeo c=true:=by
 unfold zel;simp only[Bool.and_eq_true,decide_eq_true_eq,all_map,all_eq_true,Function.comp,id,zbR];constructor
 ·rintro ⟨⟨h1,h2⟩,h3,h4⟩;exact⟨⟨by omega,by omega⟩,h3,h4⟩
 ·rintro ⟨⟨h1,h2⟩,h3,h4⟩;exact⟨⟨by omega,by omega⟩,h3,h4⟩
theorem le_a(c:Nat):(!decide ((⟨#[c]⟩:Str).cps.toList<("a":Str).cps.toList))=decide (97<=c):=by
 have e:("a":Str).cps.toList=[97]:=by decide +kernel
 rw[e];show(!decide ([c] < [97]))=_;by_cases h:97<=c
 ·rw[decide_eq_true h,decide_eq_false];rfl;simp[cons_lt_cons_iff];omega
 ·rw[decide_eq_false h,decide_eq_true];rfl;simp[cons_lt_cons_iff];omega
theorem le_z(c:Nat):(!decide (("z":Str).cps.toList<(⟨#[c]⟩:Str).cps.toList))=decide (c<=122):=by
 have e:("z":Str).cps.toList=[122]:=by decide +kernel
 rw[e];show(!decide ([122] < [c]))=_;by_cases h:c<=122
 ·rw[decide_eq_true h,decide_eq_false];rfl;simp[cons_lt_cons_iff];omega
 ·rw[decide_eq_false h,decide_eq_true];rfl;simp[cons_lt_cons_iff];omega
end M2
namespace L2
open PySem PySem.Spec PyProof.Rows
end L2
namespace M1
def gap(c:Int):Int:=[1,7,500,998].getD (c%4).toNat 1
def couples(c:Int)(m:Nat):List Int:=(List.range m).map fun(k:Nat)=>(c/4+(k:Int)*gap c)%999+1
theorem zey(c:Int)(m:Nat):(couples c m).length=m:=by unfold couples;simp
theorem zje(c:Int)(m:Nat):couples c (m+1)=couples c m++[(c/4+(m:Int)*gap c)%999+1]:=by unfold couples;rw[range_succ,map_append];rfl
theorem zeW{c:Int}{m:Nat}{x:Int}(h:x∈couples c m):1<=x/\x<=999:=by
 obtain⟨k,_,rfl⟩:=List.mem_map.mp h;have h1:=Int.emod_nonneg (c/4+(k:Int)*gap c) (show(999:Int)≠0 by decide);have h2:=Int.emod_lt_of_pos (c/4+(k:Int)*gap c) (show(0:Int)<999 by decide);omega
theorem gap_cases(c:Int):gap c=1\/gap c=7\/gap c=500\/gap c=998:=by
 have h:c%4=0\/c%4=1\/c%4=2\/c%4=3:=by omega
 unfold gap;rcases h with h | h | h | h <;> rw[h]
 ·exact .inl rfl
 ·exact .inr (.inl rfl)
 ·exact .inr (.inr (.inl rfl))
 ·exact .inr (.inr (.inr rfl))
theorem zeO{c:Int}{m:Nat}(hm:m<=999):(couples c m).Nodup:=by
 unfold couples;refine List.pairwise_map.mpr (List.Pairwise.imp_of_mem (λ{i j} hi hj hlt e=>?_) (pairwise_lt_range (n:=m)));have hi:=List.mem_range.mp hi;have hj:=List.mem_range.mp hj;rcases gap_cases c with g | g | g | g <;> rw[g]at e <;> omega
theorem zk0{l r:List Int}{x:Int}(h:(l++x::r).Nodup):((l++x::r).filter λo => !decide (o=x))=l++r:=by
 rw[nodup_append]at h;obtain⟨_,n2,n3⟩:=h;rw[List.nodup_cons]at n2;rw[filter_append,filter_cons_of_neg (by simp)];congr 1
 ·exact List.filter_eq_self.mpr λy hy=>by simp;exact n3 y hy _ mem_cons_self
 ·exact List.filter_eq_self.mpr λy hy=>by simp;intro z;rw[z]at hy;exact n2.1 hy
variable {ms:List Int}
theorem split_at{i:Nat}(hi:i<ms.length):ms.take i++ms.getD i 0::ms.drop (i+1)=ms:=by
 have e:ms.getD i 0=ms[i]:=by rw[getD_eq_getElem?_getD,getElem?_eq_getElem hi];rfl
 have:=take_append_drop i ms
 rwa [drop_eq_getElem_cons hi,<-e]at this
theorem zde(h:ms.Nodup){i:Nat}(hi:i<ms.length):(ms.filter λo => !decide (o=ms.getD i 0))=ms.take i++ms.drop (i+1):=by
 have e:=split_at hi;have:=zk0 (l:=ms.take i) (x:=ms.getD i 0) (r:=ms.drop (i+1)) (by rw[e];exact h)
 rwa [e]at this
def zc7(ns:List Int):Bool:=(decide (1<=(ns.length:Int)) && decide ((ns.length:Int)<=24)) && (decide ns.Nodup && (ns.map λn=>decide (1<=n) && decide (n<=999)).all id)
theorem ziD(ns:List Int):zc7 ns=true↔(1<=ns.length/\ns.length<=24)/\ns.Nodup/\∀n∈ns,1<=n/\n<=999:=by
 unfold zc7;simp only[Bool.and_eq_true,decide_eq_true_eq,all_map,all_eq_true,Function.comp,id];constructor
 ·rintro ⟨⟨h1,h2⟩,h3,h4⟩;exact⟨⟨by omega,by omega⟩,h3,h4⟩
 ·rintro ⟨⟨h1,h2⟩,h3,h4⟩;exact⟨⟨by omega,by omega⟩,h3,h4⟩
end M1
namespace L2
open PySem PySem.Spec PyProof.Rows
inductive IRRemove (x:V) (vs:List V) (H:Hp) (Q:VK):Prop
 | mk (l:Addr) (ns:List Int) (c:Int):x=.ref l->vs=[.int c]->H l=some (.lst (ns.map V.int))->ns.Nodup->c∈ns->(Q .non (upd H l (.lst ((ns.filter λo => !decide (o=c)).map V.int))))->IRRemove x vs H Q
def rRemove:V->List V->Hp->VK->Prop:=λx vs H Q=>IRRemove x vs H Q
def eqI(c:Int):Value->Bool
 | .int a _=>a==c
 | _=>false
theorem zkN:∀{ns:List Int}{its:List Value},Vals (ns.map V.int) its->∀(i:Nat)(hi:i<its.length),∃t,its[i]=.int (ns.getD i 0) t
 | [],_,.nil,i,hi=>absurd hi (Nat.not_lt_zero _)
 | a::ns,v::its,.cons r rs,0,_=>by
   obtain⟨t,rfl⟩:=r;exact⟨t,rfl⟩
 | a::ns,v::its,.cons r rs,i+1,hi=>zkN rs i (by simpa using hi)
theorem mt_remove{X:Cx}:MtM X "list.remove" rRemove:=by
 intro pins s σ H x vs v us Q I rx rv h;obtain⟨l,ns,c,rfl,rfl,hH,nd,hc,q⟩:=h;cases rx;obtain⟨u,rfl,ru⟩:=rv.one;obtain⟨t,rfl⟩:=ru;obtain⟨z,its,n,r,hl,e⟩:=I.lstM hH;rw[length_map]at hl;have hj:ns.idxOf c<ns.length:=idxOf_lt_length_of_mem hc;have hg:ns.getD (ns.idxOf c) 0=c:=by
  rw[getD_eq_getElem?_getD,getElem?_eq_getElem hj];exact getElem_idxOf _
 have hat:=zkN r;have er:(ns.map V.int).eraseIdx (ns.idxOf c)=(ns.filter λo => !decide (o=c)).map V.int:=by
  have f1:=M1.zde nd hj;rw[hg]at f1;rw[f1,List.eraseIdx_eq_take_drop_succ,<-map_take,<-map_drop,map_append]
 refine call_meets F.slot_list_remove ⟨_,e,rfl⟩ F.entry_list_remove (F.args_list_remove_2 _ _)
  (MeetsSeq.list_remove l its.toArray n (.int c t) (eqI c) (λy hy=>?_) (ns.idxOf c) (by rw[size_toArray];omega) ?_ (λm hm hlt=>?_) (by rw[size_toArray];rw[length_map]at z;omega)) ⟨e,?_⟩
 ·have hy:y∈its:=by simpa using hy
  obtain⟨i,hi,rfl⟩:=List.getElem_of_mem hy;obtain⟨t',et⟩:=hat i hi;rw[et];exact MeetsSeq.EqGives.int _ _ _ _
 ·obtain⟨t',et⟩:=hat (ns.idxOf c) (by omega);show eqI c (its.toArray[ns.idxOf c]'_)=true;rw[getElem_toArray,et,hg];show(c==c)=true;simp
 ·obtain⟨t',et⟩:=hat m (by omega);show eqI c (its.toArray[m]'_)=false;rw[getElem_toArray,et];show(ns.getD m 0==c)=false;have:ns.getD m 0≠c:=λw=>by
   have hm':m<ns.length:=by omega
   have e1:ns[m]=ns[ns.idxOf c]:=by
    rw[getElem_idxOf];rw[getD_eq_getElem?_getD,getElem?_eq_getElem hm']at w;exact w
   have:=(getElem_inj nd).mp e1;omega
  simpa using this
 rw[<-er]at q;refine⟨.non,_,I.lset (its':=its.eraseIdx (ns.idxOf c)) hH e ?_ (r.eraseIdx (ns.idxOf c)) ?_,rfl,q⟩
 ·show its.toArray.eraseIdxIfInBounds (ns.idxOf c)=(its.eraseIdx (ns.idxOf c)).toArray;rw[List.eraseIdxIfInBounds_toArray]
 ·have:=zf2 (ns.map V.int) (ns.idxOf c);omega
inductive IRNeLE (K:Frag) (x y:V) (H:Hp) (Q:VK):Prop
 | mk (a:_) (b:_) (xs:_):x=.ref a->y=.ref b->SqL K H a xs->SqL K H b []->Q (.bl (!decide (xs.length=0))) H->IRNeLE K x y H Q
def rNeLE(K:Frag):R2:=λx y H Q=>IRNeLE K x y H Q
theorem zgr{X:Cx}(hu:X.A.units<cLine):OpR X (compareOp .NotEq) (rNeLE X.K):=by
 intro pins s σ H x y v u Q I rx ry h;obtain⟨a,b,xs,rfl,rfl,ha,hb,q⟩:=h;cases xs with
 | nil=>exact zay hu pins s σ H _ _ v u Q I rx ry ⟨a,b,[],[],rfl,rfl,ha,hb,rfl,rfl,q⟩
 | cons z xs =>
   cases rx;cases ry;obtain⟨its,r1,p1,z1⟩:=I.list ha;obtain⟨its2,r2,p2,z2⟩:=I.list hb;have l1:=r1.length;have l2:=r2.length;exact SeqAt.RcNeAt.lists_lengths p1.isList p2.isList (by simp at l1 l2;simp;omega) hu _ _ _ _ ⟨.bl true,H,I,rfl,q⟩
structure DF (K:Frag) (x:Str) (st:Stmt) (ps:List Str):Prop where
 ex:∃f fd,nsIn K mainGlobals x=some (some (.ref f))/\Fun K x x st f fd/\Binds K fd ps []
structure DM (K:Frag) (C:Addr) (m qual:Str) (st:Stmt) (ps:List Str):Prop where
 ex:∃f fd,findIn K (.ref C) m=some (some (.ref f))/\isFn K (.ref f)=true/\Fun K m qual st f fd/\Binds K fd ps []
section
variable {K:Frag}{st:Stmt}{f C:Addr}{oc:Value}{od an:Option Addr}{osl:Array (Option Value)}{kV doc pm cdv ct:Value}{ps:List Str}
theorem df{x:Str}(a:nsIn K mainGlobals x=some (some (.ref f)))(l:K.lookup f=some ⟨oc,od,.func (fnOf x x (zav st) (wk st) (zf st) .none kV doc pm an cdv ct),osl⟩)(c:codeIn K cdv x=true)(k:keepIn K (.ref f)=true)
 (h:∀(kV doc pm:Value)(an:Option Addr)(cdv ct:Value)(us:List Value),us.length=ps.length->bindArgs (fnOf x x (zav st) (wk st) (zf st) .none kV doc pm an cdv ct) ⟨us,[]⟩=pure (ps.zip us)):DF K x st ps:=⟨⟨f,_,a,zgf l c k,(zgf l c k).binds h⟩⟩
theorem dm{m qual:Str}(a:findIn K (.ref C) m=some (some (.ref f)))(i:isFn K (.ref f)=true)(l:K.lookup f=some ⟨oc,od,.func (fnOf m qual (zav st) (wk st) (zf st) .none kV doc pm an cdv ct),osl⟩)(c:codeIn K cdv qual=true)(k:keepIn K (.ref f)=true)
 (h:∀(kV doc pm:Value)(an:Option Addr)(cdv ct:Value)(us:List Value),us.length=ps.length->bindArgs (fnOf m qual (zav st) (wk st) (zf st) .none kV doc pm an cdv ct) ⟨us,[]⟩=pure (ps.zip us)):DM K C m qual st ps:=⟨⟨f,_,a,i,zgf l c k,(zgf l c k).binds h⟩⟩
end
section
variable {K:Frag}{mg:Str->Option Value}{st:Stmt}{C:Addr}{ps:List Str}{k:Nat}{sp:Sp}{h:Heap}{x m qual:Str}(P:Program)(w:World)(base:Heap)
theorem zS(X:K.In h)(G:h.Ns mainGlobals mg)(d:DF K x st ps)(g:∀{f fd},Fun K x x st f fd->FnOk P w K mg base CX0 k f fd ps sp):Can P w K mg base k x ps sp:=by
 obtain⟨f,fd,a,F,b⟩:=d.ex;exact Can.of F (g F) (mg_of X G a) b
theorem canFX(X:K.In h)(G:h.Ns mainGlobals mg)(d:DF K x st ps)(g:∀{f fd},Fun K x x st f fd->FnOk P w K mg base (CX1 P w) k f fd ps sp):CanX P w K mg base k x ps sp:=by
 obtain⟨f,fd,a,F,b⟩:=d.ex;exact CanX.of F (g F) (mg_of X G a) b
theorem canM(hC:zH K x=C)(d:DM K C m qual st ps)(g:∀{f fd},Fun K m qual st f fd->FnOk P w K mg base CX0 k f fd ps sp):CanM P w K mg base k (zH K x) m ps sp:=by
 obtain⟨f,fd,a,i,F,b⟩:=d.ex;exact CanM.of hC (g F) ⟨a,i,F.kp⟩ b
theorem zit(hC:zH K x=C)(d:DM K C m qual st ps)(g:∀{f fd},Fun K m qual st f fd->FnOk P w K mg base (CX1 P w) k f fd ps sp):CanMX P w K mg base k (zH K x) m ps sp:=by
 obtain⟨f,fd,a,i,F,b⟩:=d.ex;exact CanMX.of hC (g F) ⟨a,i,F.kp⟩ b
theorem canK(hC:zH K x=C)(X:K.In h)(G:h.Ns mainGlobals mg)(ha:nsIn K mainGlobals x=some (some (.ref C)))(mk:makesIn K C=true)(kc:keepIn K (.ref C)=true)(d:DM K C "__init__" qual st ps)(g:∀{f fd},Fun K "__init__" qual st f fd->FnOk P w K mg base (CX1 P w) k f fd ps sp):CanK P w K mg base k x (zH K x) ps sp:=by
 obtain⟨f,fd,a,i,F,b⟩:=d.ex;exact CanK.of hC (g F) (mg_of X G ha) ⟨mk,a,i,kc⟩ b
end
section
variable {P:List Value->Prop}
theorem on0(p:P []):∀us:List Value,us.length=0->P us
 | [],_=>p
theorem onS{n:Nat}(p:∀(a:Value)(us:List Value),us.length=n->P (a::us)):∀us:List Value,us.length=n+1->P us:=by
 intro us e;cases us with
 | nil=>cases e
 | cons a r=>exact p a r (Nat.succ.inj e)
end
theorem scM{N P:List Str}{sc:Scope}(a1:sc.kind=.function:=by exact rfl)(a2:sc.isCoroutine=false:=by exact rfl)(a3:sc.isGenerator=false:=by exact rfl)(a4:N.Nodup:=by decide +kernel)(a5:N.take P.length=P:=by exact rfl)(a6:∀x∈P,sc.names.lookup x=some .local\/sc.names.lookup x=some .cell:=by decide +kernel)(a7:∀y∈sc.names,y.2 ≠ .free:=by decide +kernel):FnScope N P sc:=⟨a1,a2,a3,a4,a5,a6,a7⟩
section
variable {sc:Scope}{N:List Str}{x x2:Str}{fr:List Str}{ix:List Nat}{scope:Scope}
theorem csM(a1:scope.kind=.function:=by exact rfl)(a2:∀y∈scope.names,y.2 ≠ .cell:=by decide +kernel)(a3:∀y∈scope.names,y.2=.local->scope.names.lookup y.1=some .local:=by decide +kernel)(a4:scope.names.lookup x=some .local:=by exact rfl)(a5:∀y∈scope.names,y.2=.free->sc.names.lookup y.1=some .cell\/sc.names.lookup y.1=some .free:=by decide +kernel)
 (a6:fr.map some=ix.map λi=>N[i]? := by exact rfl) (a7:∀y∈fr,scope.names.lookup y=some .free/\(sc.names.lookup y=some .cell\/sc.names.lookup y=some .free):=by decide +kernel) (a8:(x::fr).Nodup:=by decide +kernel):CompScope sc N x fr ix scope:=⟨a1,a2,a3,a4,a5,a6,a7,a8⟩
theorem csMC(a1:scope.kind=.function:=by exact rfl)(b1:∀a acc,cellsFrom a scope.names acc=(x,a)::acc:=by exact λ_ _=>rfl)(b2:∀h:Heap,pushCells h scope.names=h.push { cls:=.type "cell",data:=.cell none }:=by exact λ_=>rfl)(b3:∀y∈scope.names,y.2=.cell->y.1=x:=by decide +kernel)(a3:∀y∈scope.names,y.2=.local->scope.names.lookup y.1=some .local:=by decide +kernel)(a4:scope.names.lookup x=some .cell:=by exact rfl)(a5:∀y∈scope.names,y.2=.free->sc.names.lookup y.1=some .cell\/sc.names.lookup y.1=some .free:=by decide +kernel)
 (a6:fr.map some=ix.map λi=>N[i]? := by exact rfl) (a7:∀y∈fr,scope.names.lookup y=some .free/\(sc.names.lookup y=some .cell\/sc.names.lookup y=some .free):=by decide +kernel) (a8:(x::fr).Nodup:=by decide +kernel):CompScopeC sc N x fr ix scope:=⟨a1,b1,b2,b3,a3,a4,a5,a6,a7,a8⟩
theorem csM2(a1:scope.kind=.function:=by exact rfl)(a2:∀y∈scope.names,y.2 ≠ .cell:=by decide +kernel)(a3:∀y∈scope.names,y.2=.local->scope.names.lookup y.1=some .local:=by decide +kernel)(a4:scope.names.lookup x=some .local:=by exact rfl)(b4:scope.names.lookup x2=some .local:=by exact rfl)(a5:∀y∈scope.names,y.2=.free->sc.names.lookup y.1=some .cell\/sc.names.lookup y.1=some .free:=by decide +kernel)
 (a6:fr.map some=ix.map λi=>N[i]? := by exact rfl) (a7:∀y∈fr,scope.names.lookup y=some .free/\(sc.names.lookup y=some .cell\/sc.names.lookup y=some .free):=by decide +kernel) (a8:(x::x2::fr).Nodup:=by decide +kernel):CompScope2 sc N x x2 fr ix scope:=⟨a1,a2,a3,a4,b4,a5,a6,a7,a8⟩
end
section
variable {X:Cx}{e:Expr}{p pos:Pos}{te:TE}
theorem ya(hm:X.mg "len"=none)(he:PE X e te)(hg:Gl X "len":=by rfl)(hs:starEach [e] X.env=(false,eval e X.env)::starEach [] X.env:=by rfl)(hpl:(backTo pos (starEach [] X.env)).any (·.1)=false:=by rfl):
 PE X (.Call (.Name "len" p) [e] [] pos) (tCB (ICall_len_seq X.K) (tCons te tNil)):=zB zfp hg hm PySem.boot_len (za he zb (hs:=hs)) (he:=hs) (hpl:=hpl)
theorem pLenK{K:Frag}(hK:X.K=K)(hm:X.mg "len"=none)(he:PE X e te)(hg:Gl X "len":=by rfl)(hs:starEach [e] X.env=(false,eval e X.env)::starEach [] X.env:=by rfl)(hpl:(backTo pos (starEach [] X.env)).any (·.1)=false:=by rfl):
 PE X (.Call (.Name "len" p) [e] [] pos) (tCB (ICall_len_seq K) (tCons te tNil)):=zB (zh4 hK) hg hm PySem.boot_len (za he zb (hs:=hs)) (he:=hs) (hpl:=hpl)
end
section
variable {κ:Type} [DecidableEq κ]
def zaB(kvs:List (κ×V))(k:κ):Option V:=(kvs.find? λkv=>decide (kv.1=k)).map (·.2)
def zcN(kvs:List (κ×V))(k:κ)(v:V):List (κ×V) :=
 if(kvs.any λkv=>decide (kv.1=k))=true then kvs.map (λkv=>if kv.1=k then(kv.1,v)else kv)else kvs++[(k,v)]
theorem wt{p:κ×V}{r:List (κ×V)}{k:κ}(e:p.1=k):zaB (p::r) k=some p.2:=by simp[zaB,find?_cons,e]
theorem wn{p:κ×V}{r:List (κ×V)}{k:κ}(e:¬p.1=k):zaB (p::r) k=zaB r k:=by simp[zaB,find?_cons,e]
theorem zeg(k:κ):∀kvs:List (κ×V),(kvs.any λkv=>decide (kv.1=k))=(zaB kvs k).isSome
 | []=>rfl
 | p::r=>by
   rw[any_cons];by_cases e:p.1=k
   ·simp only[wt e,decide_eq_true e,Bool.true_or,Option.isSome_some]
   ·rw[wn e,decide_eq_false e,Bool.false_or];exact zeg k r
theorem zj3(k j:κ)(y:V):∀kvs:List (κ×V),zaB (kvs.map λkv=>if kv.1=k then(kv.1,y)else kv) j=(zaB kvs j).map λx=>if j=k then y else x
 | []=>rfl
 | p::r=>by
   have ih:=zj3 k j y r;rw[map_cons];by_cases h:p.1=k
   ·rw[if_pos h];by_cases e:p.1=j
    ·rw[wt (p:=(p.1,y)) e,wt e,Option.map_some,if_pos (e.symm.trans h)]
    ·rw[wn (p:=(p.1,y)) e,wn e,ih]
   ·rw[if_neg h];by_cases e:p.1=j
    ·rw[wt (p:=p) e,wt e,Option.map_some,if_neg (λz=>h (e.trans z))]
    ·rw[wn (p:=p) e,wn e,ih]
theorem zil(k j:κ)(y:V):∀kvs:List (κ×V),zaB kvs k=none->zaB (kvs++[(k,y)]) j=if j=k then some y else zaB kvs j
 | [],_=>by
   by_cases e:k=j
   ·rw[if_pos e.symm];exact wt (p:=(k,y)) e
   ·rw[if_neg (λz=>e z.symm)];exact wn (p:=(k,y)) e
 | p::r,hn=>by
   rw[cons_append];have hk:¬p.1=k:=λz=>by rw[wt z]at hn;cases hn
   rw[wn hk]at hn;have ih:=zil k j y r hn;by_cases e:p.1=j
   ·rw[wt e,wt e,if_neg (λz=>hk (e.trans z))]
   ·rw[wn e,wn e,ih]
theorem zfI(kvs:List (κ×V))(k j:κ)(y:V):zaB (zcN kvs k y) j=if j=k then some y else zaB kvs j:=by
 unfold zcN;by_cases a:(kvs.any λkv=>decide (kv.1=k))=true
 ·rw[if_pos a,zj3];rw[zeg]at a;by_cases e:j=k
  ·obtain⟨x,hx⟩:=Option.isSome_iff_exists.mp a;rw[if_pos e,e,hx,Option.map_some,if_pos rfl]
  ·rw[if_neg e];cases zaB kvs j with
   | none=>rfl
   | some x=>rw[Option.map_some,if_neg e]
 ·rw[if_neg a];refine zil k j y kvs ?_;rw[zeg]at a;cases q:zaB kvs k with
  | none=>rfl
  | some x=>rw[q]at a;exact(a rfl).elim
theorem zd3(kvs:List (κ×V))(k:κ)(v:V):(zcN kvs k v).length<=kvs.length+1:=by
 unfold zcN;split
 ·rw[length_map];omega
 ·rw[length_append,length_cons,length_nil];omega
theorem RelO.isSome_eq{o:Option V}{u:Option Value}(r:RelO o u):o.isSome=u.isSome:=by
 cases o with
 | none=>cases u with
   | none=>rfl
   | some _=>exact(show False from r).elim
 | some _=>cases u with
   | none=>exact(show False from r).elim
   | some _=>rfl
theorem KV.val{kvs:List (κ×V)}{vs:List (κ×Value)}(r:KV kvs vs)(k:κ):RelO (zaB kvs k) (valueAt vs k):=by
 unfold KV at r
 induction r with
 | nil=>exact True.intro
 | @cons p q ps qs h t ih =>
   obtain⟨h1,h2⟩:=h;by_cases e:p.1=k
   ·have e':q.1=k:=h1.symm.trans e;have b:valueAt (q::qs) k=some q.2:=by simp[valueAt,find?_cons,e']
    rw[wt e,b];exact h2
   ·have e':¬q.1=k:=λz=>e (h1.trans z);have b:valueAt (q::qs) k=valueAt qs k:=by simp[valueAt,find?_cons,e']
    rw[wn e,b];exact ih
theorem KV.any{kvs:List (κ×V)}{vs:List (κ×Value)}(r:KV kvs vs)(k:κ):(kvs.any λkv=>decide (kv.1=k))=vs.any λkv=>decide (kv.1=k):=by
 unfold KV at r
 induction r with
 | nil=>rfl
 | cons h t ih=>rw[any_cons,any_cons,ih,h.1]
theorem KV.repl{kvs:List (κ×V)}{vs:List (κ×Value)}(r:KV kvs vs)(k:κ){y:V}{u:Value}(ry:RelV y u):
 KV (kvs.map λkv=>if kv.1=k then(kv.1,y)else kv) (vs.map λkv=>if kv.1=k then(kv.1,u)else kv):=by
 unfold KV at r ⊢
 induction r with
 | nil=>exact .nil
 | @cons p q ps qs h t ih =>
   rw[map_cons,map_cons];refine .cons ?_ ih;obtain⟨h1,h2⟩:=h;by_cases e:p.1=k
   ·rw[if_pos e,if_pos (h1.symm.trans e)];exact⟨h1,ry⟩
   ·rw[if_neg e,if_neg (λz=>e (h1.trans z))];exact⟨h1,h2⟩
theorem KV.put{kvs:List (κ×V)}{vs:List (κ×Value)}(r:KV kvs vs)(k:κ){y:V}{u:Value}(ry:RelV y u):KV (zcN kvs k y) (stored vs k u):=by
 unfold zcN stored;rw[r.any k];by_cases e:(vs.any λkv=>decide (kv.1=k))=true
 ·rw[if_pos e,if_pos e];exact r.repl k ry
 ·rw[if_neg e,if_neg e];exact Paired.snoc r ⟨rfl,ry⟩
theorem KV.length{kvs:List (κ×V)}{vs:List (κ×Value)}(r:KV kvs vs):kvs.length=vs.length:=Paired.length r
end
variable {P:Program}{w:World}{u:Value}
theorem zj7{k:Key}(r:RelV (kV k) u):(wB P w).is k u=true:=by
 cases k with
 | inl i=>obtain⟨t,e⟩:=(show ∃t,u=Value.int i t from r);subst e;exact zjM P w i t
 | inr x=>obtain⟨t,e⟩:=(show ∃t,u=Value.str x t from r);subst e;exact zkI P w x t
theorem ziI:∀{ks:List Key}{us:List Value},Vals (ks.map kV) us->ItemsAre (wB P w) ks us
 | [],_,r=>by rw[map_nil]at r;cases r;exact .nil
 | k::ks,_,r=>by
   rw[map_cons]at r;cases r with
   | cons h t=>exact .cons (zj7 h) (ziI t)
abbrev KT(H:Hp):List (List Key×V)->List (List Key×Addr×Value)->Prop:=Paired λp q=>p.1=q.1/\H q.2.1=some (.tup (p.1.map kV))/\RelV p.2 q.2.2
variable {H:Hp}{kvs:List (List Key×V)}{xs:List (List Key×Addr×Value)}
theorem KT.val(r:KT H kvs xs)(k:List Key):RelO (zaB kvs k) ((atKey xs k).map (·.2)):=by
 induction r with
 | nil=>exact True.intro
 | @cons p q ps qs h t ih =>
   obtain⟨h1,_,h2⟩:=h;by_cases e:p.1=k
   ·have e':q.1=k:=h1.symm.trans e;have b:atKey (q::qs) k=some q.2:=by simp[atKey,find?_cons,e']
    rw[wt e,b];exact h2
   ·have e':¬q.1=k:=λz=>e (h1.trans z);have b:atKey (q::qs) k=atKey qs k:=by simp[atKey,find?_cons,e']
    rw[wn e,b];exact ih
theorem KT.repl(r:KT H kvs xs)(k:List Key){y:V}(ry:RelV y u):
 KT H (kvs.map λkv=>if kv.1=k then(kv.1,y)else kv) (xs.map (putAt k u)):=by
 induction r with
 | nil=>exact .nil
 | @cons p q ps qs h t ih =>
   rw[map_cons,map_cons];refine .cons ?_ ih;obtain⟨h1,h2,h3⟩:=h;unfold putAt;by_cases e:p.1=k
   ·rw[if_pos e,if_pos (h1.symm.trans e)];exact⟨h1,h2,ry⟩
   ·rw[if_neg e,if_neg (λz=>e (h1.trans z))];exact⟨h1,h2,h3⟩
theorem KT.put(r:KT H kvs xs)(k:List Key){b:Addr}{y:V}(hb:H b=some (.tup (k.map kV)))(ry:RelV y u):
 KT H (zcN kvs k y) (storedH xs k b u):=by
 have e:(kvs.any λkv=>decide (kv.1=k))=(atKey xs k).isSome:=by
  rw[zeg,(r.val k).isSome_eq,Option.isSome_map]
 unfold zcN storedH;rw[e];by_cases q:(atKey xs k).isSome=true
 ·rw[if_pos q,if_pos q];exact r.repl k ry
 ·rw[if_neg q,if_neg q];exact Paired.snoc r ⟨rfl,hb,ry⟩
theorem KT.keeps{H':Hp}(r:KT H kvs xs)(ht:∀b ys,H b=some (.tup ys)->H' b=some (.tup ys)):KT H' kvs xs :=
 Paired.mapP r λ_ _ z=>⟨z.1,ht _ _ z.2.1,z.2.2⟩
section
variable {P:Program}{w:World}{H:Hp}{h:Heap}{a:Addr}
theorem rd_of{u:HO}(ok:HOk P w H h)(e:Rd H a u):ObjOk P w H h a u:=e.ok ok
variable {kvs:List (Key×V)}
theorem zkn(ok:HOk P w H h)(e:Rd H a (.dK kvs)):kvs.length<=sizeLine/\(a==sysModules)=false/\∃vs,KV kvs vs/\h.DictOf (wB P w) a vs :=
 show ObjOk P w H h a (.dK kvs)from rd_of ok e
theorem dk_of(ok:HOk P w H h)(e:H a=some (.dK kvs)):kvs.length<=sizeLine/\(a==sysModules)=false/\∃vs,KV kvs vs/\h.DictOf (wB P w) a vs:=zkn ok (.inl e)
theorem zhD{ks:List Key}(ok:HOk P w H h)(e:H a=some (.tup (ks.map kV))):(tupleKind (wB P w)).is h ks a:=by
 obtain⟨_,its,r,o,h1,h2,n,h3⟩:=(show ObjOk P w H h a (.tup (ks.map kV))from ok a _ e);exact⟨o,its.toArray,n,h1,h2,h3,by simpa using ziI r⟩
theorem zj9{kvs:List (List Key×V)}(ok:HOk P w H h)(e:Rd H a (.dT kvs)):kvs.length<=sizeLine/\(a==sysModules)=false /\
 ∃xs,KT H kvs xs/\h.DictOfH (tupleKind (wB P w)) a xs:=by
 obtain⟨z,y,xs,r,o,es,ep,h1,h2,h3,h4,h5⟩:=(show ObjOk P w H h a (.dT kvs)from rd_of ok e);refine⟨z,y,xs,r,o,es,ep,h1,h2,h3,h4,λx hx=>?_,h5⟩;have all:∀{l:List (List Key×V)} {m:List (List Key×Addr×Value)},KT H l m->∀x∈m,(tupleKind (wB P w)).is h x.1 x.2.1:=by
  intro l m q
  induction q with
  | nil=>intro x hx;exact nomatch hx
  | @cons p q ps qs hq t ih =>
    intro x hx;rcases List.mem_cons.mp hx with e | hx
    ·subst e;exact zhD ok (by rw[<-hq.1];exact hq.2.1)
    ·exact ih x hx
 exact all r x hx
theorem dt_of{kvs:List (List Key×V)}(ok:HOk P w H h)(e:H a=some (.dT kvs)):kvs.length<=sizeLine/\(a==sysModules)=false /\
 ∃xs,KT H kvs xs/\h.DictOfH (tupleKind (wB P w)) a xs:=zj9 ok (.inl e)
end
def DGet(H:Hp)(a:Addr)(y:V)(r:Option V):Prop :=
 (∃kvs k,Rd H a (.dK kvs)/\y=kV k/\r=zaB kvs k)\/∃kvs k b,Rd H a (.dT kvs)/\y=.ref b/\H b=some (.tup (k.map kV))/\r=zaB kvs k
def DPut(H:Hp)(a:Addr)(y v:V)(H':Hp):Prop :=
 (∃kvs k,H a=some (.dK kvs)/\y=kV k/\kvs.length<sizeLine/\H'=upd H a (.dK (zcN kvs k v))) \/
 ∃kvs k b,H a=some (.dT kvs)/\y=.ref b/\H b=some (.tup (k.map kV))/\kvs.length<sizeLine/\H'=upd H a (.dT (zcN kvs k v))
theorem DGet.k{H:Hp}{a:Addr}{kvs:List (Key×V)}{k:Key}(e:H a=some (.dK kvs)):DGet H a (kV k) (zaB kvs k):=.inl ⟨kvs,k,.inl e,rfl,rfl⟩
theorem DPut.k{H:Hp}{a:Addr}{kvs:List (Key×V)}{k:Key}{v:V}(e:H a=some (.dK kvs))(hl:kvs.length<sizeLine):DPut H a (kV k) v (upd H a (.dK (zcN kvs k v))):=.inl ⟨kvs,k,e,rfl,hl,rfl⟩
section
variable {X:Cx}{pins:List (Addr×Obj)}{σ:St}{H:Hp}{s:Shared}{a:Addr}{y v:V}{u r:Value}{o:Option V}{A:Around}{E:Value->Shared->Prop}
theorem Inv.big(I:Inv X pins σ H s):sysModules<s.heap.objs.size:=by
 have h:mainGlobals<s.heap.objs.size:=(I.mod.glob.keeps I.bk).lt;exact lt_trans (by decide) h
variable {Q:Value->Shared->Prop}
theorem d_getItem(hu:A.units+1<cLine)(I:Inv X pins σ H s)(g:DGet H a y (some v))(ry:RelV y u)(h:∀w' s',Inv X pins σ H s'->RelV v w'->Q w' s'):
 wpAny (model X.prog X.w) A (getItem (.ref a) u) Q E s:=by
 rcases g with⟨kvs,k,e,ey,l⟩|⟨kvs,k,b,e,ey,eb,l⟩
 ·subst ey;obtain⟨z,hd,vs,rel,dd⟩:=zkn I.hok e;obtain⟨w',hw,rw'⟩:=RelO.some_of (v:=v) (o:=valueAt vs k) (by rw[l];exact rel.val k);exact wpAny_getItem_of (zj7 ry) dd.mapOf hw (h w' _ (I.tok _) rw')
 ·subst ey;cases (show u=Value.ref b from ry);obtain⟨z,hd,xs,rel,dd⟩:=zj9 I.hok e;obtain⟨w',hw,rw'⟩:=RelO.some_of (v:=v) (o:=(atKey xs k).map (·.2)) (by rw[l];exact rel.val k);obtain⟨p,hp,hp2⟩:=Option.map_eq_some_iff.mp hw;refine wpAny_getItem_heap (tupleKind_room_in1 hu) (zhD I.hok eb) dd hp ?_;rw[hp2];exact h w' _ (I.tok _) rw'
theorem d_in(hu:A.units+1<cLine)(I:Inv X pins σ H s)(g:DGet H a y o)(ry:RelV y u)(h:∀s',Inv X pins σ H s'->Q (.bool o.isSome) s'):
 wpAny (model X.prog X.w) A (compareOp .In u (.ref a)) Q E s:=by
 rcases g with⟨kvs,k,e,ey,l⟩|⟨kvs,k,b,e,ey,eb,l⟩
 ·subst ey;obtain⟨z,hd,vs,rel,dd⟩:=zkn I.hok e;refine wpAny_in_of (zj7 ry) hd dd.mapOf ?_;rw[<-(rel.val k).isSome_eq,<-l];exact h _ (I.tok _)
 ·subst ey;cases (show u=Value.ref b from ry);obtain⟨z,hd,xs,rel,dd⟩:=zj9 I.hok e;refine wpAny_in_heap (tupleKind_room_in1 hu) (zhD I.hok eb) hd dd ?_;have q:=(rel.val k).isSome_eq;rw[Option.isSome_map]at q;rw[<-q,<-l];exact h _ (I.tok _)
theorem d_notIn(hu:A.units+1<cLine)(I:Inv X pins σ H s)(g:DGet H a y o)(ry:RelV y u)(h:∀s',Inv X pins σ H s'->Q (.bool (!o.isSome)) s'):
 wpAny (model X.prog X.w) A (compareOp .NotIn u (.ref a)) Q E s:=by
 rcases g with⟨kvs,k,e,ey,l⟩|⟨kvs,k,b,e,ey,eb,l⟩
 ·subst ey;obtain⟨z,hd,vs,rel,dd⟩:=zkn I.hok e;refine wpAny_notIn_of (zj7 ry) hd dd.mapOf ?_;rw[<-(rel.val k).isSome_eq,<-l];exact h _ (I.tok _)
 ·subst ey;cases (show u=Value.ref b from ry);obtain⟨z,hd,xs,rel,dd⟩:=zj9 I.hok e;refine wpAny_notIn_heap (tupleKind_room_in1 hu) (zhD I.hok eb) hd dd ?_;have q:=(rel.val k).isSome_eq;rw[Option.isSome_map]at q;rw[<-q,<-l];exact h _ (I.tok _)
theorem d_write{h':Heap}{t':Nat}{ob:HO}(I:Inv X pins σ H s)(mu:Mut (H a))(hs:SameBut a s.heap h')(he:∃q,h'.get? a=some q)(new:ObjOk X.prog X.w (upd H a ob) h' a ob):
 Inv X pins σ (upd H a ob) { s with heap:=h',toks:=t' } :=
 I.write (x:=a) (e:=a) mu (.inl rfl) (λb q hb z=>(hs.2 b hb).trans z) he new
theorem dk_new{P:Program}{w:World}{H':Hp}{h':Heap}{kvs:List (Key×V)}{vs:List (Key×Value)}(z:kvs.length<=sizeLine)(hd:(a==sysModules)=false)(rel:KV kvs vs)(dd:h'.DictOf (wB P w) a vs):
 ObjOk P w H' h' a (.dK kvs):=⟨z,hd,vs,rel,dd⟩
theorem d_setItem{H':Hp}{Q:Unit->Shared->Prop}(hu:A.units+1<cLine)(I:Inv X pins σ H s)(g:DPut H a y v H')(ry:RelV y u)(rv:RelV v r)(h:∀s',Inv X pins σ H' s'->Q () s'):
 wpAny (model X.prog X.w) A (setItem (.ref a) u r) Q E s:=by
 rcases g with⟨kvs,k,e,ey,l,eH⟩|⟨kvs,k,b,e,ey,eb,l,eH⟩
 ·subst ey eH;obtain⟨z,hd,vs,rel,dd⟩:=dk_of I.hok e;have hz:vs.length<=sizeLine:=by rw[<-rel.length];exact z
  have hl:(zcN kvs k v).length<=sizeLine:=by have:=zd3 kvs k v;omega
  refine wpAny_setItem_pairs (hsz:=hz) (zj7 ry) dd λh' dd' hs=>h _ ?_;have he:∃q,h'.get? a=some q:=let ⟨q,_,_,hq,_⟩:=dd';⟨q,hq⟩;exact d_write I (by rw[e];exact True.intro) hs he (dk_new hl hd (rel.put k rv) dd')
 ·subst ey eH;cases (show u=Value.ref b from ry);obtain⟨z,hd,xs,rel,dd⟩:=dt_of I.hok e;have hz:xs.length<=sizeLine:=by rw[<-Paired.length rel];exact z
  have hl:(zcN kvs k v).length<=sizeLine:=by have:=zd3 kvs k v;omega
  refine wpAny_setItem_heap (hsz:=hz) (tupleKind_room_in1 hu) (zhD I.hok eb) dd λh' dd' hs=>h _ ?_;obtain⟨q,es,ep,hq,h2,h3,h4,_,h5⟩:=dd';refine d_write I (by rw[e];exact True.intro) hs ⟨q,hq⟩ ⟨hl,hd,_,(rel.put k eb rv).keeps λc ys ec=>?_,q,es,ep,hq,h2,h3,h4,h5⟩;rw[zh (yc ec e (λz=>nomatch z))];exact ec
end
section
variable {X:Cx}{pins:List (Addr×Obj)}{σ:St}{H:Hp}{s:Shared}{a:Addr}{kvs:List (Key×V)}{k:Key}{u:Value}{A:Around}{E:Value->Shared->Prop}
end
def NoSl(i:Expr):Prop:=∀ov iv,subscripted i false ov iv=operate [ov,iv] (getItem ov iv)
theorem subD_of{prog:Program}{A:Around}{E:Value->Shared->Prop}{s:Shared}{env:Env}{value slice:Expr}{pos:Pos}{T id:String}{Q:Value->Shared->Prop}
 (hl:typeLookup (.type T) "__getitem__"=pure (some (.builtin id))) (hs:NoSl slice)
 (h:wpAny (model prog w) A (eval value env) (λo s₁=>wpAny (model prog w) A (eval slice env) (λi s₂=>s₂.TypeIs o T/\wpAny (model prog w) A (getItem o i) Q E s₂) E s₁) E s) :
 wpAny (model prog w) A (eval (.Subscript value slice pos) env) Q E s:=by
 refine Subscript_ (wpAny_mono h (λo s₁ h₁=>wpAny_mono h₁ (λi s₂ h₂=>?_) λ_ _ x=>x) λ_ _ x=>x);obtain⟨hT,h₂⟩:=h₂;unfold subscriptTail;refine wpAny_bind ?_;rw[getitemInPython_of_ne hT.not_modules];refine wpAny_bind (wpAny_specialOf hT hl ?_);have fin:wpAny (model prog w) A (subscripted slice false o i) (λr s₃=>wpAny (model prog w) A (letTemporaryGo value o r >>= λ_=>pure r) Q E s₃) E s₂:=by
  rw[hs o i];exact wpAny_operating (wpAny_mono h₂ (λr s₃ h₃=>wpAny_bind (wpAny_letTemporaryGo (wpAny_pure h₃))) λ_ _ x=>x)
 first
  | exact wpAny_pure (wpAny_bind fin)
  | exact wpAny_bind (wpAny_pure (wpAny_bind fin))
  | exact wpAny_bind fin
theorem zj4{X:Cx}{pins:List (Addr×Obj)}{σ:St}{s:Shared}{a:Addr}{y:V}{o:Option V}(I:Inv X pins σ H s)(g:DGet H a y o):s.TypeIs (.ref a) "dict":=by
 rcases g with⟨kvs,k,e,_,_⟩|⟨kvs,k,b,e,_,_,_⟩
 ·obtain⟨_,_,vs,_,dd⟩:=zkn I.hok e;exact dd.typeIs
 ·obtain⟨_,_,xs,_,dd⟩:=zj9 I.hok e;exact dd.typeIs
def tDGet(td ty:TE):TE:=λσ H Q=>td σ H λx H1=>ty σ H1 λy H2=>∃a v,x=.ref a/\DGet H2 a y (some v)/\Q v H2
def tDIn(ty td:TE):TE:=λσ H Q=>ty σ H λy H1=>td σ H1 λx H2=>∃a o,x=.ref a/\DGet H2 a y o/\Q (.bl o.isSome) H2
def tDNotIn(ty td:TE):TE:=λσ H Q=>ty σ H λy H1=>td σ H1 λx H2=>∃a o,x=.ref a/\DGet H2 a y o/\Q (.bl (!o.isSome)) H2
def sDPut(td ty tv:TE):TS:=λD σ H=>tv σ H λv H1=>td σ H1 λx H2=>ty σ H2 λy H3=>∃a H4,x=.ref a/\DPut H3 a y v H4/\D.nx σ H4
section
variable {X:Cx}{o i e value:Expr}{pos pos' tpos:Pos}{td ty tv:TE}
theorem pe_dget(hu:X.A.units+1<cLine)(ho:PE X o td)(hi:PE X i ty)(hs:NoSl i):PE X (.Subscript o i pos) (tDGet td ty):=by
 intro pins s σ H Q I h;refine subD_of PySem.F.slot_dict_getitem.lookup hs (thn (ho pins s σ H _ I h) λu s1 ⟨x,H1,I1,rx,q1⟩=>thn (hi pins s1 σ H1 _ I1 q1) λiv s2 ⟨y,H2,I2,ry,a,v,ex,g,q2⟩=>?_);subst ex;obtain rfl:u=Value.ref a:=rx;exact⟨zj4 I2 g,d_getItem hu I2 g ry λw' s3 I3 rw'=>⟨v,H2,I3,rw',q2⟩⟩
theorem pc_din(hu:X.A.units+1<cLine)(hi:PE X i ty)(ho:PE X o td):PC X .In i o (tDIn ty td):=by
 intro pins s σ H Q I h;refine thn (hi pins s σ H _ I h) λiv s1 ⟨y,H1,I1,ry,q1⟩=>thn (ho pins s1 σ H1 _ I1 q1) λu s2 ⟨x,H2,I2,rx,a,ov,ex,g,q2⟩=>?_;subst ex;obtain rfl:u=Value.ref a:=rx;exact d_in hu I2 g ry λs3 I3=>⟨.bl ov.isSome,H2,I3,rfl,q2⟩
theorem pc_dnotin(hu:X.A.units+1<cLine)(hi:PE X i ty)(ho:PE X o td):PC X .NotIn i o (tDNotIn ty td):=by
 intro pins s σ H Q I h;refine thn (hi pins s σ H _ I h) λiv s1 ⟨y,H1,I1,ry,q1⟩=>thn (ho pins s1 σ H1 _ I1 q1) λu s2 ⟨x,H2,I2,rx,a,ov,ex,g,q2⟩=>?_;subst ex;obtain rfl:u=Value.ref a:=rx;exact d_notIn hu I2 g ry λs3 I3=>⟨.bl (!ov.isSome),H2,I3,rfl,q2⟩
theorem ps_dput(hu:X.A.units+1<cLine)(ho:PE X o td)(hi:PE X i ty)(hv:PE X value tv)(hs:swapsWith value (some (.Subscript o i pos')) pos.line X.env=pure false):
 PS X (.Assign [.Subscript o i pos'] value pos) (sDPut td ty tv):=by
 intro pins s σ H D I h;refine wpAny_Assign_Subscript (thn (hv pins s σ H _ I h) λr s1 ⟨v,H1,I1,rv,q1⟩=>thn (ho pins s1 σ H1 _ I1 q1) λu s2 ⟨x,H2,I2,rx,q2⟩=>thn (hi pins s2 σ H2 _ I2 q2) λiv s3 ⟨y,H3,I3,ry,a,H4,ex,g,q3⟩=>?_) hs;subst ex;obtain rfl:u=Value.ref a:=rx;exact d_setItem hu I3 g ry rv λs4 I4=>⟨σ,H4,I4,q3⟩
end
theorem dk_empty(h:Heap)(hb:sysModules<h.objs.size):ObjOk P w H (h.push { cls:=.type "dict",data:=.dict #[] }) h.objs.size (.dK []) :=
 ⟨zero_le _,beq_eq_false_iff_ne.mpr (Ne.symm (ne_of_lt hb)),[],.nil,Heap.DictOf.new h⟩
def tDNewK:TE:=λ_ H Q=>∀p,H p=none->Q (.ref p) (upd H p (.dK []))
section
variable {X:Cx}{pos:Pos}
theorem pe_dnewK:PE X (.Dict [] [] pos) tDNewK:=λpins s σ H Q I h =>
 wpAny_Dict_empty ⟨.ref s.heap.objs.size,_,I.laid (a:=s.heap.objs.size) (o:=.dK []) (t':=s.toks) (λ_ _ q=>get?_push_of_some _ q) (le_refl _) (dk_empty s.heap I.big),rfl,h _ (I.hok.fresh (le_refl _))⟩
end
structure M1 (X:Cx) (o:Expr) (m:Str) (apos:Pos) (e:Expr) (cpos:Pos):Prop where
 base:attributeBase o m X.env (eval o X.env)=eval o X.env
 few:((backTo cpos (starEach [e] X.env)).all (λx => !x.1) && (backToKw cpos (keywordEach [] X.env)).all (λx=>x.1.isSome)
  && decide (([e]:List Expr).length+([]:List Keyword).length+(if([]:List Keyword).isEmpty then 0 else 1)<30))=true
 line:(apos.endLine==cpos.line)=true
 trees:backTo cpos (starEach [e] X.env)=[(false,eval e X.env)]
structure M2 (X:Cx) (o:Expr) (m:Str) (apos:Pos) (e f:Expr) (cpos:Pos):Prop where
 base:attributeBase o m X.env (eval o X.env)=eval o X.env
 few:((backTo cpos (starEach [e,f] X.env)).all (λx => !x.1) && (backToKw cpos (keywordEach [] X.env)).all (λx=>x.1.isSome)
  && decide (([e,f]:List Expr).length+([]:List Keyword).length+(if([]:List Keyword).isEmpty then 0 else 1)<30))=true
 line:(apos.endLine==cpos.line)=true
 trees:backTo cpos (starEach [e,f] X.env)=[(false,eval e X.env),(false,eval f X.env)]
section
variable {X:Cx}{pins:List (Addr×Obj)}{σ:St}{H:Hp}{s:Shared}{a:Addr}{y d:V}{u r:Value}{o:Option V}{A:Around}{E:Value->Shared->Prop}
end
section
variable {X:Cx}{o e f:Expr}{apos cpos:Pos}{td ty tx:TE}
end
section
variable {X:Cx}{pins:List (Addr×Obj)}{σ:St}{H:Hp}{s:Shared}{a:Addr}{kvs:List (Key×V)}{A:Around}{E:Value->Shared->Prop}
end
section
variable {X:Cx}{pins:List (Addr×Obj)}{σ:St}{H:Hp}{s:Shared}{a:Addr}{y:V}{u:Value}{A:Around}{E:Value->Shared->Prop}
end
section
variable {X:Cx}
end
section
variable {κ:Type} [DecidableEq κ]
end
end L2
namespace M10
open PySem L2 M2
def zio(e0 e1:Str)(c:Int)(k:Nat):Str:=e0++⟨#[97+((c+11*(k:Int))%26).toNat]⟩++e1
def zdC(e0 e1:Str)(c:Int)(m:Nat):List Str:=(List.range m).map fun(k:Nat)=>zio e0 e1 c k
theorem zjG(e0 e1:Str)(c:Int)(m:Nat):zdC e0 e1 c (m+1)=zdC e0 e1 c m++[zio e0 e1 c m]:=by unfold zdC;rw[range_succ,map_append];rfl
theorem zhp(e0 e1:Str)(c:Int)(m:Nat):(zdC e0 e1 c m).length=m:=by unfold zdC;simp
theorem zhL(e0 e1:Str)(c:Int)(k:Nat):(zio e0 e1 c k).cps.toList=e0.cps.toList++[97+((c+11*(k:Int))%26).toNat]++e1.cps.toList:=by
 show(e0.cps ++ #[97+((c+11*(k:Int))%26).toNat]++e1.cps).toList=_;rw[Array.toList_append,Array.toList_append]
theorem zjv(e0 e1:Str)(c:Int){m:Nat}(hm:m<=26):(zdC e0 e1 c m).Nodup:=by
 unfold zdC;refine List.pairwise_map.mpr (List.Pairwise.imp_of_mem (λ{i j} hi hj hlt e=>?_) (pairwise_lt_range (n:=m)));have hi:=List.mem_range.mp hi;have hj:=List.mem_range.mp hj;have h:=congrArg (λs:Str=>s.cps.toList) e;simp only[zhL,append_assoc]at h;have h2:=List.append_cancel_left h;have h3:97+((c+11*(i:Int))%26).toNat=97+((c+11*(j:Int))%26).toNat:=by
  have:=List.cons.inj (show(97+((c+11*(i:Int))%26).toNat)::e1.cps.toList=(97+((c+11*(j:Int))%26).toNat)::e1.cps.toList from h2);exact this.1
 omega
theorem zkY{e0 e1:Str}(c:Int)(k:Nat)(hl:e0.length+e1.length<=7)(h0:∀x∈e0.cps.toList,zeo x=true)(h1:∀x∈e1.cps.toList,zeo x=true):zfn (zio e0 e1 c k)=true:=by
 rw[zbR];have hlen:(zio e0 e1 c k).length=e0.length+1+e1.length:=by unfold zio;rw[y9,y9];rfl
 refine⟨by omega,λx hx=>?_⟩;rw[zhL]at hx;rcases List.mem_append.mp hx with hx | hx
 ·rcases List.mem_append.mp hx with hx | hx
  ·exact h0 x hx
  ·have e:x=97+((c+11*(k:Int))%26).toNat:=List.mem_singleton.mp hx;have:=Int.emod_nonneg (c+11*(k:Int)) (show(26:Int)≠0 by decide);have:=Int.emod_lt_of_pos (c+11*(k:Int)) (show(0:Int)<26 by decide);unfold zeo;rw[e,decide_eq_true (by omega),decide_eq_true (by omega)];rfl
 ·exact h1 x hx
theorem ends_ok(z p:Fin 8)(h:p.val<=z.val):(PySem.Txt.slice "vwxyzab" none (some (p.val:Int))).length+(PySem.Txt.slice "vwxyzab" (some (p.val:Int)) (some (z.val:Int))).length<=7 /\
 (∀x∈(PySem.Txt.slice "vwxyzab" none (some (p.val:Int))).cps.toList,zeo x=true)/\∀x∈(PySem.Txt.slice "vwxyzab" (some (p.val:Int)) (some (z.val:Int))).cps.toList,zeo x=true:=by
 revert z p;decide +kernel
end M10
namespace M3
open PySem L2
def got(ms:List Int)(n:Int):List Int:=ms.filter λm=>decide (m<=n)
def cnt(ms:List Int)(n:Int):Nat:=(got ms n).length
def sm(ms:List Int)(n:Int):Int:=(got ms n).sum
def isF(ms:List Int)(f:Int):Prop:=ms.length<2*cnt ms f/\2*cnt ms (f-1)<=ms.length
variable {ms:List Int}
theorem zbT{a b:Int}(h:a<=b):cnt ms a<=cnt ms b:=by
 unfold cnt got
 induction ms with
 | nil=>exact le_refl _
 | cons x ms ih =>
   rw[filter_cons,filter_cons];by_cases h1:x<=a
   ·rw[if_pos (decide_eq_true h1),if_pos (decide_eq_true (by omega)),length_cons,length_cons];omega
   ·rw[if_neg (by simpa using h1)];split
    ·rw[length_cons];omega
    ·exact ih
theorem zch{f g:Int}(h1:isF ms f)(h2:isF ms g):f=g:=by
 unfold isF at h1 h2;rcases Int.lt_trichotomy f g with h | h | h
 ·have:=zbT (ms:=ms) (show f<=g-1 by omega);omega
 ·exact h
 ·have:=zbT (ms:=ms) (show g<=f-1 by omega);omega
theorem zji{n:Int}(h:∀x∈ms,n<x):cnt ms n=0:=by
 unfold cnt got;rw[List.filter_eq_nil_iff.mpr]
 ·rfl
 ·intro x hx;have:=h x hx;simp;omega
theorem zhs{n:Int}(h:∀x∈ms,x<=n):cnt ms n=ms.length:=by
 unfold cnt got;rw[List.filter_eq_self.mpr];intro x hx;have:=h x hx;simp;omega
theorem zdf(ms:List Int)(n:Int):cnt ms n<=ms.length:=length_filter_le _ _
theorem zc8{f:Int}(h:isF ms f)(lo hi:Int)(hl:∀x∈ms,lo<=x/\x<=hi):lo<=f/\f<=hi:=by
 unfold isF at h;constructor
 ·by_cases c:lo<=f
  ·exact c
  ·have:=zji (ms:=ms) (n:=f) λx hx=>by have:=(hl x hx).1;omega
   omega
 ·by_cases c:f<=hi
  ·exact c
  ·have:=zhs (ms:=ms) (n:=f-1) λx hx=>by have:=(hl x hx).2;omega
   have:=zdf ms f;omega
theorem zfD{i:Nat}(n:Int)(hi:i<ms.length):got (ms.take (i+1)) n=if ms.getD i 0<=n then got (ms.take i) n++[ms.getD i 0] else got (ms.take i) n:=by
 unfold got;rw[yE hi,filter_append,filter_cons];by_cases h:ms.getD i 0<=n
 ·rw[if_pos (decide_eq_true h),if_pos h];rfl
 ·rw[if_neg (by simpa using h),if_neg h];simp
end M3
namespace L2
open PySem
inductive All2 {α β:Type} (R:α->β->Prop):List α->List β->Prop
 | nil:All2 R [] []
 | cons {a:α} {b:β} {as:List α} {bs:List β}:R a b->All2 R as bs->All2 R (a::as) (b::bs)
namespace All2
variable {α β:Type}{R S:α->β->Prop}{as as':List α}{bs bs':List β}
theorem length(h:All2 R as bs):as.length=bs.length:=by
 induction h with
 | nil=>rfl
 | cons _ _ ih=>rw[length_cons,length_cons,ih]
theorem imp(f:∀a b,R a b->S a b)(h:All2 R as bs):All2 S as bs:=by
 induction h with
 | nil=>exact .nil
 | cons r _ ih=>exact .cons (f _ _ r) ih
theorem append(h:All2 R as bs)(h':All2 R as' bs'):All2 R (as++as') (bs++bs'):=by
 induction h with
 | nil=>exact h'
 | cons r _ ih=>exact .cons r ih
theorem snoc{a:α}{b:β}(h:All2 R as bs)(r:R a b):All2 R (as++[a]) (bs++[b]):=h.append (.cons r .nil)
theorem get(h:All2 R as bs):∀{i:Nat}{b:β},bs[i]? = some b->∃a,as[i]? = some a/\R a b:=by
 induction h with
 | nil=>intro i b e;simp at e
 | cons r _ ih =>
   intro i b e;cases i with
   | zero=>simp only[List.getElem?_cons_zero]at e ⊢;cases e;exact⟨_,rfl,r⟩
   | succ i=>simp only[List.getElem?_cons_succ]at e ⊢;exact ih e
theorem getL(h:All2 R as bs):∀{i:Nat}{a:α},as[i]? = some a->∃b,bs[i]? = some b/\R a b:=by
 induction h with
 | nil=>intro i b e;simp at e
 | cons r _ ih =>
   intro i b e;cases i with
   | zero=>simp only[List.getElem?_cons_zero]at e ⊢;cases e;exact⟨_,rfl,r⟩
   | succ i=>simp only[List.getElem?_cons_succ]at e ⊢;exact ih e
end All2
def Refs{α:Type}(K:Frag)(R:Hp->Addr->α->Prop)(H:Hp)(a:Addr)(xs:List α):Prop:=∃ls:List Addr,SqL K H a (ls.map V.ref)/\All2 (R H) ls xs
def Stays{α:Type}(R:Hp->Addr->α->Prop):Prop:=∀H H' l x,Same H H'->R H l x->R H' l x
variable {α:Type}{K:Frag}{H H':Hp}{a:Addr}
theorem Refs.same{R:Hp->Addr->α->Prop}(st:Stays R){xs:List α}(s:Same H H')(h:Refs K R H a xs):Refs K R H' a xs:=by
 obtain⟨ls,q,r⟩:=h;exact⟨ls,s.seq q,r.imp λa b=>st _ _ _ _ s⟩
def IL(K:Frag)(H:Hp)(l:Addr)(c:List Int):Prop:=SqL K H l (c.map V.int)
def TPl(K:Frag)(H:Hp)(l:Addr)(p:Int×Int):Prop:=SqT K H l [.int p.1,.int p.2]
theorem IL.stays(K:Frag):Stays (IL K):=λ_ _ _ _ s h=>Same.seq s h
theorem TPl.stays(K:Frag):Stays (TPl K):=λ_ _ _ _ s h=>s.seqT h
variable {ls:List Addr}{i:Nat}{l:Addr}
theorem yR(h:ls[i]? = some l):(ls.map V.ref)[i]? = some (.ref l):=by rw[getElem?_map,h];rfl
theorem zah{x:V}(h:(ls.map V.ref)[i]? = some x):∃l,ls[i]? = some l/\x=.ref l:=by
 rw[getElem?_map]at h;cases e:ls[i]? with
 | none=>rw[e]at h;cases h
 | some l=>rw[e]at h;cases h;exact⟨l,rfl,rfl⟩
theorem zfR{ms:List Int}{n:Int}{c:St}{tc:TT}{te:TE}{fin:List V->Hp->Prop}(hS:SqL K H a (ms.map V.int))(hz:ms.length<=1000000)
 (hc:∀x (R:Bool->Hp->Prop),R (decide (x<=n)) H->tc (some (.int x)::c) H R) (he:∀x (R:V->Hp->Prop),R (.int x) H->te (some (.int x)::c) H R) (hd:fin ((M3.got ms n).map V.int) H):zd1 (Itl K a) c tc te H fin:=by
 refine yV (xs:=ms.map V.int) (λi ys H2=>H2=H/\ys=(M3.got (ms.take i) n).map V.int) ⟨rfl,rfl⟩ ?_ (by rw[length_map];have:=zt;omega) ?_ ?_
 ·rintro i ys H2 hi ⟨rfl,rfl⟩;refine⟨hS,?_⟩;rw[length_map];have:=M3.zdf (ms.take i) n;unfold M3.cnt at this;rw[length_take]at this;omega
 ·rintro i x ys H2 hx ⟨rfl,rfl⟩;obtain⟨hi,rfl⟩:=yF hx;refine hc _ _ (yB (λh=>?_) (λh=>?_))
  ·refine he _ _ ⟨rfl,?_⟩;rw[M3.zfD n hi,if_pos h,map_append];rfl
  ·refine⟨rfl,?_⟩;rw[M3.zfD n hi,if_neg h]
 ·rintro ys H2 ⟨rfl,rfl⟩;rw[length_map,take_length];exact hd
variable {p:Addr}{xs:List V}{o:HO}
theorem SqT.put{ys:List V}(h:SqT K H a xs)(hp:H p=some (.lst ys)):SqT K (upd H p o) a xs:=by
 rcases h with(h | ⟨u,h⟩) | h
 ·exact .inl (.inl (by rw[zh (λe=>by rw[e,hp]at h;cases h)];exact h))
 ·exact .inl (.inr ⟨u,by rw[zh (λe=>by rw[e,hp]at h;cases h)];exact h⟩)
 ·exact .inr h
theorem TPl.put{ys:List V}{ps:List (Int×Int)}(h:All2 (TPl K H) ls ps)(hp:H p=some (.lst ys)):All2 (TPl K (upd H p o)) ls ps:=h.imp λ_ _ r=>SqT.put r hp
theorem zhc(ls:List Addr)(x:Addr):upd H l (.lst (ls.map V.ref++[V.ref x])) l=some (.lst ((ls++[x]).map V.ref)):=zd.trans (congrArg (λl=>some (HO.lst l)) (by rw[map_append];rfl))
theorem pe_both{X:Cx}{e:Expr}{t u:TE}(h1:PE X e t)(h2:PE X e u):PE X e (λσ H Q=>t σ H Q\/u σ H Q):=by
 intro pins s σ H Q I h;rcases h with h | h
 ·exact h1 pins s σ H Q I h
 ·exact h2 pins s σ H Q I h
structure Sh where
 couples:List Int
 struck:List Int
 panel:List Str
 card:Str->Option (List Int)
 taken:Nat
 shut:Bool
def wo(c:Int)(l:List Int):List Int:=l.filter λo => !decide (o=c)
namespace Sh
structure Ok (S:Sh):Prop where
 c1:1<=S.couples.length
 c24:S.couples.length+S.struck.length<=24
 nd:S.couples.Nodup
 rng:∀c∈S.couples,1<=c/\c<=999
 p1:1<=S.panel.length
 p15:S.panel.length<=15
 pnd:S.panel.Nodup
 cd:∀j c,S.card j=some c->j∈S.panel/\c.Perm S.couples
 t200:S.taken<=200
def handed(S:Sh):List Str:=S.panel.filter λj=>(S.card j).isSome
def cardsIn(S:Sh):List (List Int):=S.handed.map λj=>(S.card j).getD []
def new(us:List Int)(ts:List Str):Sh:=⟨us,[],ts,λ_=>none,0,false⟩
def hand(S:Sh)(j:Str)(c:List Int):Sh:={ S with card:=λk=>if k=j then some c else S.card k,taken:=S.taken+1 }
def refuse(S:Sh)(j:Str)(c:List Int):Option Str :=
 if S.shut=true then some "SheetSealed" else if j∈S.panel then(if c.Perm S.couples then(if 200<=S.taken then some "TooManyCards" else none)else some "BadCard")else some "UnknownJudge"
def strike(S:Sh)(c:Int):Sh:={ S with couples:=wo c S.couples,struck:=S.struck++[c],card:=λj=>(S.card j).map (wo c) }
def refuseS(S:Sh)(c:Int):Option Str :=
 if S.shut=true then some "SheetSealed" else if c∈S.couples then(if S.couples.length=1 then some "LastCouple" else none)else some "UnknownCouple"
def close(S:Sh):Sh:={ S with shut:=true }
theorem Ok.new{us:List Int}{ts:List Str}(h1:M1.zc7 us=true)(h2:M2.zel ts=true):(new us ts).Ok:=by
 have g1:=h1;unfold M1.zc7 at g1;simp only[Bool.and_eq_true,decide_eq_true_eq,all_map,all_eq_true,Function.comp,id]at g1;obtain⟨⟨a1,a2⟩,a3,a4⟩:=g1;obtain⟨⟨b1,b2⟩,b3,_⟩:=(M2.zf7 ts).mp h2;exact⟨by show 1<=us.length;omega,by show us.length+0<=24;omega,a3,a4,b1,b2,b3,(λ_ _ h=>nomatch h),zero_le _⟩
theorem Ok.hand{S:Sh}(h:S.Ok){j:Str}{c:List Int}(hr:S.refuse j c=none):(S.hand j c).Ok/\j∈S.panel/\c.Perm S.couples/\S.taken<200/\S.shut=false:=by
 unfold refuse at hr;split at hr
 ·cases hr
 rename_i h1;split at hr;rename_i h2;split at hr;rename_i h3;split at hr
 ·cases hr
 rename_i h4
 ·refine⟨⟨h.c1,h.c24,h.nd,h.rng,h.p1,h.p15,h.pnd,λk d e=>?_,by show S.taken+1<=200;omega⟩,h2,h3,by omega,by simpa using h1⟩;have e:(if k=j then some c else S.card k)=some d:=e;by_cases ek:k=j
  ·rw[if_pos ek]at e;cases e;subst ek;exact⟨h2,h3⟩
  ·rw[if_neg ek]at e;exact h.cd k d e
 ·cases hr
 ·cases hr
theorem wo_len{c:Int}{l:List Int}(nd:l.Nodup)(hc:c∈l):(wo c l).length+1=l.length:=by
 unfold wo;have e:(l.filter λo => !decide (o=c))=l.erase c:=by
  rw[nd.erase_eq_filter];refine filter_congr λx _=>?_;by_cases h:x=c
  ·subst h;simp
  ·simp[h]
 rw[e,List.length_erase_of_mem hc];have:=length_pos_of_mem hc;omega
theorem Ok.strike{S:Sh}(h:S.Ok){c:Int}(hr:S.refuseS c=none):(S.strike c).Ok/\c∈S.couples/\2<=S.couples.length/\S.shut=false:=by
 unfold refuseS at hr;split at hr
 ·cases hr
 rename_i h1;split at hr;rename_i h2;split at hr
 ·cases hr
 rename_i h3
 ·have hl:=wo_len h.nd h2;have h0:=h.c1;have h24:=h.c24;refine⟨⟨?_,?_,h.nd.filter _,λd hd=>h.rng d (List.mem_filter.mp hd).1,h.p1,h.p15,h.pnd,λk d e=>?_,h.t200⟩,h2,by omega,by simpa using h1⟩
  ·show 1<=(wo c S.couples).length;omega
  ·show(wo c S.couples).length+(S.struck++[c]).length<=24;rw[length_append,length_singleton];omega
  ·have e:(S.card k).map (wo c)=some d:=e;cases q:S.card k with
   | none=>rw[q]at e;cases e
   | some b =>
     rw[q]at e;cases e;exact⟨(h.cd k b q).1,(h.cd k b q).2.filter _⟩
 ·cases hr
theorem Ok.close{S:Sh}(h:S.Ok):S.close.Ok:=⟨h.c1,h.c24,h.nd,h.rng,h.p1,h.p15,h.pnd,h.cd,h.t200⟩
end Sh
def shF(a1 a2 a3 d:Addr)(S:Sh):List (Str×V):=[("standing",.ref a1),("struck_so_far",.ref a2),("panel",.ref a3),("card_by_judge",.ref d),("taken_so_far",.int S.taken),("sealed",.bl S.shut)]
structure Shape (K:Frag) (H:Hp) (p:Addr) (F:Addr->Prop) (S:Sh) (dx a1 a2 a3 d:Addr) (kvs:List (Key×V)):Prop where
 ip:H p=some (.ins (zH K "Sheet") dx (shF a1 a2 a3 d S))
 i1:H a1=some (.lst (S.couples.map V.int))
 i2:H a2=some (.lst (S.struck.map V.int))
 i3:H a3=some (.lst (S.panel.map V.str))
 i4:H d=some (.dK kvs)
 kl:kvs.length<=S.taken
 cn:∀j,S.card j=none->zaB kvs (Sum.inr j)=none
 cs:∀j c,S.card j=some c->∃l,zaB kvs (Sum.inr j)=some (.ref l)/\H l=some (.lst (c.map V.int))/\F l/\l≠a2
 fp:F p
 f1:F a1
 f2:F a2
 f3:F a3
 f4:F d
 n12:a1≠a2
 n32:a3≠a2
 fh:∀b,F b->H b≠none
structure SheetIn (K:Frag) (H:Hp) (p:Addr) (F:Addr->Prop) (S:Sh) (dx a1 a2 a3 d:Addr) (kvs:List (Key×V)):Prop extends Shape K H p F S dx a1 a2 a3 d kvs where
 ok:S.Ok
def ShapeAt(K:Frag)(H:Hp)(p:Addr)(F:Addr->Prop)(S:Sh):Prop:=∃dx a1 a2 a3 d kvs,Shape K H p F S dx a1 a2 a3 d kvs
def SheetAt(K:Frag)(H:Hp)(p:Addr)(F:Addr->Prop)(S:Sh):Prop:=∃dx a1 a2 a3 d kvs,SheetIn K H p F S dx a1 a2 a3 d kvs
variable {F:Addr->Prop}{S:Sh}{kvs:List (Key×V)}
theorem SheetIn.off{dx a1 a2 a3 d:Addr}(h:SheetIn K H p F S dx a1 a2 a3 d kvs)(e:∀b,F b->H' b=H b):SheetIn K H' p F S dx a1 a2 a3 d kvs :=
 ⟨⟨(e _ h.fp).trans h.ip,(e _ h.f1).trans h.i1,(e _ h.f2).trans h.i2,(e _ h.f3).trans h.i3,(e _ h.f4).trans h.i4,h.kl,h.cn,
  λj c hc=>let ⟨l,x1,x2,x3,x4⟩:=h.cs j c hc;⟨l,x1,(e _ x3).trans x2,x3,x4⟩,h.fp,h.f1,h.f2,h.f3,h.f4,h.n12,h.n32,λb hb=>by rw[e b hb];exact h.fh b hb⟩,h.ok⟩
theorem SheetAt.off(h:SheetAt K H p F S)(e:∀b,F b->H' b=H b):SheetAt K H' p F S:=by
 obtain⟨dx,a1,a2,a3,d,kvs,h⟩:=h;exact⟨dx,a1,a2,a3,d,kvs,h.off e⟩
theorem SheetAt.fh(h:SheetAt K H p F S):∀b,F b->H b≠none:=by
 obtain⟨dx,a1,a2,a3,d,kvs,h⟩:=h;exact h.fh
theorem SheetAt.ok(h:SheetAt K H p F S):S.Ok:=by
 obtain⟨dx,a1,a2,a3,d,kvs,h⟩:=h;exact h.ok
theorem SheetAt.shape(h:SheetAt K H p F S):ShapeAt K H p F S:=by
 obtain⟨dx,a1,a2,a3,d,kvs,h⟩:=h;exact⟨dx,a1,a2,a3,d,kvs,h.toShape⟩
theorem SheetAt.same(h:SheetAt K H p F S)(s:Same H H'):SheetAt K H' p F S:=h.off λb hb=>by
 have:=h.fh b hb;cases e:H b with
 | none=>exact absurd e this
 | some o=>exact s b o e
theorem SheetAt.put(h:SheetAt K H p F S)(n:¬F l):SheetAt K (upd H l o) p F S:=h.off λb hb=>zh λz=>n (z ▸ hb)
def Deed(F:Addr->Prop)(H:Hp)(F':Addr->Prop)(H':Hp):Prop:=∀b o,H b=some o->¬F b->H' b=some o/\¬F' b
def LQ(K:Frag)(F:Addr->Prop)(H:Hp)(a:Addr)(xs:List V):Prop :=
 (Rd H a (.lst xs)/\¬F a)\/∃(o:Obj)(its:Array Value)(n:Nat),K.lookup a=some o/\o.cls=.type "list"/\o.dict=none/\o.data=.seq its n/\its.size<=sizeLine/\Vals xs its.toList
theorem LQ.sq(h:LQ K F H a xs):SqL K H a xs:=h.imp (λz=>z.1) id
variable {F':Addr->Prop}
theorem LQ.deed(h:LQ K F H a xs)(d:Deed F H F' H'):LQ K F' H' a xs:=by
 rcases h with⟨r | ⟨o,r⟩,n⟩ | h
 ·exact .inl ⟨.inl (d a _ r n).1,(d a _ r n).2⟩
 ·exact .inl ⟨.inr ⟨o,(d a _ r n).1⟩,(d a _ r n).2⟩
 ·exact .inr h
theorem LQ.same(h:LQ K F H a xs)(s:Same H H'):LQ K F H' a xs:=by
 rcases h with⟨r | ⟨o,r⟩,n⟩ | h
 ·exact .inl ⟨.inl (s a _ r),n⟩
 ·exact .inl ⟨.inr ⟨o,s a _ r⟩,n⟩
 ·exact .inr h
theorem LQ.of(h:H a=some (.lst xs))(n:¬F a):LQ K F H a xs:=.inl ⟨.inl h,n⟩
theorem SqL.none(h:SqL K H a xs):LQ K (λ_=>False) H a xs:=h.imp (λz=>⟨z,λw=>w⟩) id
theorem Deed.same(s:Same H H'):Deed F H F H':=λb o e n=>⟨s b o e,n⟩
theorem Deed.trans{F1 F2:Addr->Prop}{H1 H2:Hp}(a:Deed F H F1 H1)(b:Deed F1 H1 F2 H2):Deed F H F2 H2:=λc o e n=>b c o (a c o e n).1 (a c o e n).2
theorem SheetAt.apart(h:SheetAt K H p F S)(n:H l=none):¬F l:=λz=>h.fh l z n
theorem zfQ{x:Addr}{u i:HO}(hx:H x=some i)(hl:H l=none):upd (upd H l o) x u x=some u/\upd (upd H l o) x u l=some o/\l≠x/\∀b v,H b=some v->b≠x->upd (upd H l o) x u b=some v:=by
 have n:l≠x:=λe=>by rw[e,hx]at hl;cases hl
 exact⟨zd,by rw[zh n];exact zd,n,λb v e nb=>by rw[zh nb,zh (zn e hl)];exact e⟩
theorem zg5(f:Str)(v x:V)(r:List (Str×V)):zaa f v ((f,x)::r)=(f,v)::r:=by rw[zaa,if_pos rfl]
theorem ye{f g:Str}(v x:V)(r:List (Str×V))(h:g≠f):zaa f v ((g,x)::r)=(g,x)::zaa f v r:=by rw[zaa,if_neg h]
theorem pf1(v:V):zaa "standing" v []=([("standing",v)]:List (Str×V)):=rfl
theorem pf2(u v:V):zaa "struck_so_far" v [("standing",u)]=([("standing",u),("struck_so_far",v)]:List (Str×V)):=by rw[ye _ _ _ (by decide)];rfl
theorem pf3(u w v:V):zaa "panel" v [("standing",u),("struck_so_far",w)]=([("standing",u),("struck_so_far",w),("panel",v)]:List (Str×V)):=by rw[ye _ _ _ (by decide),ye _ _ _ (by decide)];rfl
theorem pf4(u w y v:V):zaa "card_by_judge" v [("standing",u),("struck_so_far",w),("panel",y)]=([("standing",u),("struck_so_far",w),("panel",y),("card_by_judge",v)]:List (Str×V)):=by rw[ye _ _ _ (by decide),ye _ _ _ (by decide),ye _ _ _ (by decide)];rfl
theorem pf5(u w y z v:V):zaa "taken_so_far" v [("standing",u),("struck_so_far",w),("panel",y),("card_by_judge",z)]=([("standing",u),("struck_so_far",w),("panel",y),("card_by_judge",z),("taken_so_far",v)]:List (Str×V)):=by rw[ye _ _ _ (by decide),ye _ _ _ (by decide),ye _ _ _ (by decide),ye _ _ _ (by decide)];rfl
theorem pf6(u w y z t v:V):zaa "sealed" v [("standing",u),("struck_so_far",w),("panel",y),("card_by_judge",z),("taken_so_far",t)]=([("standing",u),("struck_so_far",w),("panel",y),("card_by_judge",z),("taken_so_far",t),("sealed",v)]:List (Str×V)):=by rw[ye _ _ _ (by decide),ye _ _ _ (by decide),ye _ _ _ (by decide),ye _ _ _ (by decide),ye _ _ _ (by decide)];rfl
theorem zkk(a1 a2 a3 d b:Addr)(S S':Sh)(h:S'.taken=S.taken)(h2:S'.shut=S.shut):zaa "standing" (.ref b) (shF a1 a2 a3 d S)=shF b a2 a3 d S':=by unfold shF;rw[zg5,h,h2]
theorem pf_taken(a1 a2 a3 d:Addr)(S S':Sh)(h2:S'.shut=S.shut):zaa "taken_so_far" (.int S'.taken) (shF a1 a2 a3 d S)=shF a1 a2 a3 d S':=by
 unfold shF;rw[ye _ _ _ (by decide),ye _ _ _ (by decide),ye _ _ _ (by decide),ye _ _ _ (by decide),zg5,h2]
theorem pf_sealed(a1 a2 a3 d:Addr)(S S':Sh)(h:S'.taken=S.taken):zaa "sealed" (.bl S'.shut) (shF a1 a2 a3 d S)=shF a1 a2 a3 d S':=by
 unfold shF;rw[ye _ _ _ (by decide),ye _ _ _ (by decide),ye _ _ _ (by decide),ye _ _ _ (by decide),ye _ _ _ (by decide),zg5,h]
theorem putK_len{k:Key}{v u:V}(h:zaB kvs k=some u):(zcN kvs k v).length=kvs.length:=by
 unfold zcN;have:(kvs.any λkv=>decide (kv.1=k))=true:=by rw[zeg,h];rfl
 rw[if_pos this,length_map]
theorem SheetAt.ins(h:SheetAt K H p F S):∃dx a1 a2 a3 d,H p=some (.ins (zH K "Sheet") dx (shF a1 a2 a3 d S)):=by
 obtain⟨dx,a1,a2,a3,d,kvs,h⟩:=h;exact⟨dx,a1,a2,a3,d,h.ip⟩
def Sh.rows(S:Sh):List (List Int):=S.panel.map λj=>(S.card j).getD []
def zeU(cs:List (List Int)):List Int:=((List.range cs.length).filter λk => !decide (cs.getD k []=[])).map fun(k:Nat)=>(k:Int)
theorem zjE(l:List α)(d:α):(List.range l.length).map (λk=>l.getD k d)=l:=by
 refine ext_getElem (by simp) λi h1 h2=>?_;simp[h2]
theorem zgi{cs:List (List Int)}{x:Int}(h:x∈zeU cs):0<=x/\x.toNat<cs.length/\cs.getD x.toNat []≠[]:=by
 obtain⟨k,hk,rfl⟩:=List.mem_map.mp h;obtain⟨h1,h2⟩:=List.mem_filter.mp hk;have h1:=List.mem_range.mp h1;refine⟨by omega,by simpa using h1,λz=>?_⟩;have e:((k:Int)).toNat=k:=by omega
 rw[e]at z;rw[decide_eq_true z]at h2;exact absurd h2 (by decide)
theorem intoK_len(cs:List (List Int)):(zeU cs).length<=cs.length:=by
 unfold zeU;rw[length_map];exact le_trans (length_filter_le _ _) (by rw[length_range];exact le_refl _)
theorem Sh.rows_len(S:Sh):S.rows.length=S.panel.length:=by unfold rows;simp
theorem Sh.rows_at(S:Sh){k:Nat}(h:k<S.panel.length):S.rows.getD k []=(S.card (S.panel.getD k "")).getD []:=by
 unfold rows;rw[getD_eq_getElem?_getD,getD_eq_getElem?_getD,getElem?_map,getElem?_eq_getElem h];rfl
variable {c:List Int}
theorem Sh.Ok.full(h:S.Ok){j:Str}(e:S.card j=some c):c≠[]:=λz=>by
 have:=(h.cd j c e).2.length_eq;have h1:=h.c1;rw[z]at this;simp at this;omega
theorem Sh.into_names(h:S.Ok):(zeU S.rows).map (λx=>S.panel.getD x.toNat "")=S.handed:=by
 unfold zeU Sh.handed;rw[map_map]
 conv=>rhs;rw[<-zjE S.panel ""]
 rw[filter_map,Sh.rows_len];have e:(List.range S.panel.length).filter (λk => !decide (S.rows.getD k []=[]))=(List.range S.panel.length).filter ((λj=>(S.card j).isSome) ∘ λk=>S.panel.getD k ""):=by
  refine filter_congr λk hk=>?_;have hk:=List.mem_range.mp hk;rw[S.rows_at hk];show _=(S.card (S.panel.getD k "")).isSome;cases e:S.card (S.panel.getD k "")with
  | none=>rfl
  | some c=>rw[show(some c).getD ([]:List Int)=c from rfl,decide_eq_false (h.full e)];rfl
 rw[e];refine map_congr_left λk _=>?_;show S.panel.getD ((k:Int)).toNat ""=_;rw[show((k:Int)).toNat=k by omega]
theorem Sh.into_cards(h:S.Ok):(zeU S.rows).map (λx=>S.rows.getD x.toNat [])=S.cardsIn:=by
 unfold Sh.cardsIn;rw[<-Sh.into_names h,map_map];refine map_congr_left λx hx=>?_;have:=zgi hx;rw[S.rows_at (by rw[<-Sh.rows_len];exact this.2.1)];rfl
theorem Sh.into_one{S:Sh}(h:S.Ok){x:Int}(hx:x∈zeU S.rows):S.card (S.panel.getD x.toNat "")=some (S.rows.getD x.toNat []):=by
 have hm:=zgi hx;have e:=S.rows_at (k:=x.toNat) (by rw[<-Sh.rows_len];exact hm.2.1);cases q:S.card (S.panel.getD x.toNat "")with
 | none=>rw[q]at e;exact absurd e hm.2.2
 | some c=>rw[q]at e;rw[e];rfl
theorem zgZ(cs:List (List Int))(i:Nat):(((List.range (i+1)).filter λk => !decide (cs.getD k []=[])).map fun(k:Nat)=>(k:Int))=(((List.range i).filter λk => !decide (cs.getD k []=[])).map fun(k:Nat)=>(k:Int))++(if cs.getD i []=[] then [] else [(i:Int)]):=by
 rw[range_succ,filter_append,map_append];congr 1;by_cases h:cs.getD i []=[]
 ·rw[if_pos h,filter_cons,if_neg (by rw[decide_eq_true h];decide)];rfl
 ·rw[if_neg h,filter_cons,if_pos (by rw[decide_eq_false h];rfl)];rfl
variable {β:Type}
theorem All2.at{R:α->β->Prop}{as:List α}{bs:List β}(h:All2 R as bs)(hi:i<bs.length)(d:β):∃a,as[i]? = some a/\R a (bs.getD i d):=by
 have e:bs[i]? = some (bs.getD i d):=by rw[getD_eq_getElem?_getD,getElem?_eq_getElem hi];rfl
 exact h.get e
theorem All2.impM{R S:α->β->Prop}{as:List α}{bs:List β}(h:All2 R as bs)(f:∀a∈as,∀b,R a b->S a b):All2 S as bs:=by
 induction h with
 | nil=>exact .nil
 | cons r _ ih=>exact .cons (f _ (mem_cons_self ..) _ r) (ih λa ha b=>f a (mem_cons_of_mem _ ha) b)
theorem All2.set{R:α->β->Prop}{as:List α}{bs:List β}(h:All2 R as bs){a:α}{b:β}(r:R a b):∀k,All2 R (as.set k a) (bs.set k b):=by
 induction h with
 | nil=>intro k;exact .nil
 | cons r' h' ih =>
   intro k;cases k with
   | zero=>exact .cons r h'
   | succ k=>exact .cons r' (ih k)
def Rows(F:Addr->Prop)(H:Hp)(lc:Addr)(ls:List Addr)(cs:List (List Int)):Prop:=H lc=some (.lst (ls.map V.ref))/\¬F lc/\All2 (λl c=>H l=some (.lst (c.map V.int))/\¬F l) ls cs
variable {lc:Addr}{cs:List (List Int)}
theorem Rows.len(h:Rows F H lc ls cs):ls.length=cs.length:=h.2.2.length
theorem Rows.refs(K:Frag)(h:Rows F H lc ls cs):Refs K (IL K) H lc cs:=⟨ls,SqL.of h.1,h.2.2.imp λ_ _ z=>SqL.of z.1⟩
theorem Rows.deed(h:Rows F H lc ls cs)(d:Deed F H F' H'):Rows F' H' lc ls cs :=
 ⟨(d _ _ h.1 h.2.1).1,(d _ _ h.1 h.2.1).2,h.2.2.imp λ_ _ z=>d _ _ z.1 z.2⟩
theorem Rows.same(h:Rows F H lc ls cs)(s:Same H H'):Rows F H' lc ls cs:=h.deed (Deed.same s)
theorem All2.memL{R:α->β->Prop}{as:List α}{bs:List β}(h:All2 R as bs){a:α}(ha:a∈as):∃b,R a b:=by
 induction h with
 | nil=>cases ha
 | cons r _ ih =>
   rcases List.mem_cons.mp ha with e | e
   ·exact⟨_,e ▸ r⟩
   ·exact ih e
theorem Rows.put(h:Rows F H lc ls cs){x:Addr}(n:lc≠x/\∀l∈ls,l≠x):Rows F (upd H x o) lc ls cs :=
 ⟨by rw[zh n.1];exact h.1,h.2.1,h.2.2.impM λl hl c z=>⟨by rw[zh (n.2 l hl)];exact z.1,z.2⟩⟩
theorem zdM(h:ls≠[]):(HO.lst (c.map V.int)) ≠ .lst (ls.map V.ref):=λz=>by
 injection z with z
 cases ls with
 | nil=>exact h rfl
 | cons l ls=>cases c with
   | nil=>cases z
   | cons x c=>simp at z
theorem Rows.set(h:Rows F H lc ls cs)(hne:ls≠[]){m:Addr}(hm:H m=some (.lst (c.map V.int)))(nm:¬F m)(k:Nat):
 Rows F (upd H lc (.lst ((ls.map V.ref).set k (.ref m)))) lc (ls.set k m) (cs.set k c):=by
 refine⟨by rw[zd,map_set],h.2.1,All2.set (h.2.2.imp λl c z=>⟨?_,z.2⟩) ⟨?_,nm⟩ k⟩
 ·rw[zh (yc z.1 h.1 (zdM hne))];exact z.1
 ·rw[zh (yc hm h.1 (zdM hne))];exact hm
theorem Sh.rows_hand(h:S.panel.Nodup){k:Nat}(hk:k<S.panel.length)(c:List Int):(S.hand (S.panel.getD k "") c).rows=S.rows.set k c:=by
 unfold Sh.rows;refine ext_getElem (by simp;rfl) λi h1 h2=>?_;have hi:i<S.panel.length:=by simpa using h2
 rw[List.getElem_set];have e1:((S.hand (S.panel.getD k "") c).panel.map λj=>((S.hand (S.panel.getD k "") c).card j).getD [])[i]=(if S.panel[i]=S.panel.getD k "" then some c else S.card S.panel[i]).getD []:=by
  rw[getElem_map];rfl
 rw[e1];have ek:S.panel.getD k ""=S.panel[k]:=by rw[getD_eq_getElem?_getD,getElem?_eq_getElem hk];rfl
 by_cases hki:k=i
 ·subst hki;rw[if_pos ek.symm,if_pos rfl];rfl
 ·rw[if_neg hki,if_neg (λz=>hki (getElem_inj h |>.mp (z.trans ek)).symm),getElem_map]
theorem ixN_ok{k:Int}{n:Nat}(h0:0<=k)(h:k.toNat<n):ixN n k=some k.toNat:=by
 unfold ixN;rw[if_pos h0,if_pos (by omega)]
theorem cut_ints(ns:List Int)(i j:Nat)(h:i<=j):∃zs:List Int,zf4 (ns.map V.int) (some (i:Int)) (some (j:Int))=zs.map V.int/\zs.length<=j-i/\zs.length<=ns.length:=by
 unfold zf4;rw[HT.sIx_nat,HT.sIx_nat,length_map,<-map_drop,<-map_take];refine⟨_,rfl,?_,?_⟩
 ·rw[length_take,length_drop];omega
 ·rw[length_take,length_drop];omega
theorem Sh.rows_strike(S:Sh)(c:Int):(S.strike c).rows=S.rows.map (wo c):=by
 unfold Sh.rows;rw[map_map];refine map_congr_left λj _=>?_;show((S.card j).map (wo c)).getD []=wo c ((S.card j).getD []);cases S.card j with
 | none=>rfl
 | some d=>rfl
theorem Sh.rows_le(h:S.Ok){d:List Int}(hd:d∈S.rows):d.length<=24:=by
 unfold Sh.rows at hd;obtain⟨j,_,rfl⟩:=List.mem_map.mp hd;cases e:S.card j with
 | none=>exact zero_le _
 | some c =>
   have:=(h.cd j c e).2.length_eq;have:=h.c24;show c.length<=24;omega
end L2
namespace M5
open PySem L2 M3
def key(ms:List Int):Nat->List Int
 | 0=>[]
 | k+1=>(λa:List Int=>if a=[] then [] else a++[-((got ms ((k:Int)+1)).length:Int),(got ms ((k:Int)+1)).sum])
    (if key ms k=[]/\ms.length<2*(got ms ((k:Int)+1)).length then [(k:Int)+1] else key ms k)
def zl(cs:List (List Int))(c:Int):List Int:=cs.map λcard=>(card.idxOf c:Int)+1
def zfm(cs:List (List Int))(us:List Int):List (List Int):=us.map λc=>key (zl cs c) us.length
def zeZ(rs:List (List Int))(m:List Int):Nat:=(rs.filter λr=>HT.lexLt r m).length
def spots(cs:List (List Int))(us:List Int):List Int:=(zfm cs us).map λm=>1+(zeZ (zfm cs us) m:Int)
def rows(ps us:List Int):List (Int×Int):=(List.range us.length).flatMap fun(i:Nat)=>(ps.zip us).filter λp=>decide (p.1=(i:Int)+1)
theorem key_len(ms:List Int):∀k,(key ms k).length<=1+2*k
 | 0=>zero_le _
 | k+1=>by
   have ih:=key_len ms k;unfold key;dsimp only;have go:∀a:List Int,a.length<=1+2*k->(if a=[] then [] else a++[-((got ms ((k:Int)+1)).length:Int),(got ms ((k:Int)+1)).sum]).length<=1+2*(k+1):=λa h=>by
    split
    ·simp
    ·rw[length_append,length_cons,length_cons,length_nil];omega
   refine go _ ?_;split
   ·rw[length_cons,length_nil];omega
   ·exact ih
theorem zX(cs:List (List Int))(c:Int):(zl cs c).length=cs.length:=by unfold zl;simp
theorem rows_len(ps us:List Int)(h:ps.length=us.length):(rows ps us).length<=us.length*us.length:=by
 unfold rows;have go:∀n:Nat,((List.range n).flatMap fun(i:Nat)=>(ps.zip us).filter λp=>decide (p.1=(i:Int)+1)).length<=n*us.length:=λn=>by
  induction n with
  | zero=>simp
  | succ n ih =>
    rw[range_succ,flatMap_append,length_append,Nat.succ_mul];have h1:=length_filter_le (λp=>decide (p.1=(n:Int)+1)) (ps.zip us);rw[length_zip,h,Nat.min_self]at h1;have e:flatMap (fun(i:Nat)=>(ps.zip us).filter λp=>decide (p.1=(i:Int)+1)) [n]=(ps.zip us).filter λp=>decide (p.1=(n:Int)+1):=by simp
    rw[e];omega
 exact go us.length
end M5
namespace M6
open PySem L2 M3 M5
abbrev Sg:=Option (Int×Int)
def sg(a:List Int)(k:Int):Sg:=if a.length<2*cnt a k then some ((cnt a k:Int),sm a k)else none
def olt:Sg->Sg->Bool
 | some _,none=>true
 | none,_=>false
 | some p,some q=>decide (q.1<p.1) || (decide (p.1=q.1) && decide (p.2<q.2))
def zC:List Sg->List Sg->Bool
 | x::xs,y::ys=>if x=y then zC xs ys else olt x y
 | _,_=>false
def wm(a:List Int)(n:Nat):List Sg:=(List.range n).map fun(i:Nat)=>sg a ((i:Int)+1)
def zV(a b:List Int)(n:Nat):Bool:=zC (wm a n) (wm b n)
theorem zd8(k:Nat)(x:Sg)(xs ys:List Sg):zC (replicate k x++xs) (replicate k x++ys)=zC xs ys:=by
 induction k with
 | zero=>rfl
 | succ k ih=>rw[List.replicate_succ,cons_append,cons_append,zC,if_pos rfl];exact ih
def tl(a:List Int)(f m:Nat):List Int:=(List.range m).flatMap fun(i:Nat)=>[-(cnt a ((f:Int)+i):Int),sm a ((f:Int)+i)]
theorem tl_succ(a:List Int)(f m:Nat):tl a f (m+1)=tl a f m++[-(cnt a ((f:Int)+m):Int),sm a ((f:Int)+m)]:=by
 unfold tl;rw[range_succ,flatMap_append];simp
theorem zkD{a:List Int}:∀{k:Nat},(∀j:Nat,j<=k->1<=j->2*cnt a j<=a.length)->key a k=[]
 | 0,_=>rfl
 | k+1,h=>by
   have ih:=zkD (a:=a) (k:=k) λj hj h1=>h j (by omega) h1;have hk:=h (k+1) (le_refl _) (by omega);have e:((k+1:Nat):Int)=(k:Int)+1:=by omega
   rw[e]at hk;unfold cnt at hk;unfold key;rw[ih,if_neg (λz=>absurd z.2 (by omega))];rfl
theorem zhy{a:List Int}{f:Nat}(h1:1<=f)(hf:isF a f):∀m:Nat,key a (f+m)=(f:Int)::tl a f (m+1)
 | 0=>by
   obtain⟨g,rfl⟩:∃g,f=g+1:=⟨f-1,by omega⟩;have e:((g+1:Nat):Int)=(g:Int)+1:=by omega
   have hlow:key a g=[]:=zkD λj hj hj1=>by
    have:=zbT (ms:=a) (show(j:Int)<=((g+1:Nat):Int)-1 by omega);have:=hf.2;omega
   have hov:=hf.1;rw[e]at hov;unfold cnt at hov;show key a (g+1)=_;unfold key;rw[hlow,if_pos ⟨rfl,hov⟩,tl_succ];have e0:((g+1:Nat):Int)+((0:Nat):Int)=(g:Int)+1:=by omega
   rw[e0,e];rfl
 | m+1=>by
   have ih:=zhy h1 hf m;show key a ((f+m)+1)=_;unfold key;rw[ih,if_neg (λz=>by cases z.1),tl_succ a f (m+1)];have e:((f+m:Nat):Int)+1=(f:Int)+((m+1:Nat):Int):=by omega
   rw[e];rfl
variable {a:List Int}{k:Int}
theorem zco(h:2*cnt a k<=a.length):sg a k=none:=by unfold sg;rw[if_neg (by omega)]
theorem yZ(h:a.length<2*cnt a k):sg a k=some ((cnt a k:Int),sm a k):=by unfold sg;rw[if_pos h]
theorem ziF{f m:Nat}(h1:1<=f)(hf:isF a f):wm a (f+m)=replicate (f-1) none++(List.range (m+1)).map fun(i:Nat)=>some ((cnt a ((f:Int)+i):Int),sm a ((f:Int)+i)):=by
 refine ext_getElem ?_ λi hi1 hi2=>?_
 ·unfold wm;simp;omega
 ·have hi:i<f+m:=by unfold wm at hi1;simpa using hi1
  have e1:(wm a (f+m))[i]=sg a ((i:Int)+1):=by
   have:(wm a (f+m))[i]? = some (sg a ((i:Int)+1)):=by
    show((List.range (f+m)).map fun(i:Nat)=>sg a ((i:Int)+1))[i]? = _;rw[getElem?_map,getElem?_range hi];rfl
   rw[getElem?_eq_getElem hi1]at this;exact Option.some.inj this
  rw[e1];by_cases c:i<f-1
  ·rw[List.getElem_append_left (by simpa using c),List.getElem_replicate];refine zco ?_;have:=zbT (ms:=a) (show(i:Int)+1<=(f:Int)-1 by omega);have:=hf.2;omega
  ·rw[List.getElem_append_right (by simpa using c)];simp only[List.length_replicate,getElem_map,getElem_range];have e2:(f:Int)+((i-(f-1):Nat):Int)=(i:Int)+1:=by omega
   rw[e2];refine yZ ?_;have:=zbT (ms:=a) (show(f:Int)<=(i:Int)+1 by omega);have:=hf.1;omega
theorem ziC(c s c' s':Nat->Int):∀(m j:Nat),HT.lexLt ((range' j m).flatMap fun(i:Nat)=>[-c i,s i]) ((range' j m).flatMap fun(i:Nat)=>[-c' i,s' i])=zC ((range' j m).map fun(i:Nat)=>some (c i,s i)) ((range' j m).map fun(i:Nat)=>some (c' i,s' i))
 | 0,j=>rfl
 | m+1,j=>by
   rw[List.range'_succ,List.flatMap_cons,List.flatMap_cons,map_cons,map_cons];show HT.lexLt (-c j::s j::_) (-c' j::s' j::_)=_;rw[HT.lexLt_cons,HT.lexLt_cons,zC,<-ziC c s c' s' m (j+1)];by_cases h1:c j=c' j
   ·rw[if_pos (by rw[h1])];by_cases h2:s j=s' j
    ·rw[if_pos h2,if_pos (by rw[h1,h2])];rfl
    ·rw[if_neg h2,if_neg (λz=>h2 (by injection z with z;exact(Prod.mk.inj z).2))];show _=(decide (c' j<c j) || (decide (c j=c' j) && decide (s j<s' j)));rw[decide_eq_false (show ¬c' j<c j by omega),decide_eq_true h1];rfl
   ·rw[if_neg (λz=>h1 (by omega)),if_neg (λz=>h1 (by injection z with z;exact(Prod.mk.inj z).1))];show _=(decide (c' j<c j) || (decide (c j=c' j) && decide (s j<s' j)));rw[decide_eq_false h1,Bool.false_and,Bool.or_false];by_cases h3:c' j<c j
    ·rw[decide_eq_true h3,decide_eq_true (by omega)]
    ·rw[decide_eq_false h3,decide_eq_false (by omega)]
theorem rep_add{α:Type}(m n:Nat)(x:α):replicate (m+n) x=replicate m x++replicate n x:=by simp
variable {b:List Int}{n:Nat}
theorem key_ahead{f g:Nat}(hf1:1<=f)(hg1:1<=g)(hf:isF a f)(hg:isF b g)(hfn:f<=n)(hgn:g<=n):HT.lexLt (key a n) (key b n)=zV a b n:=by
 obtain⟨m,rfl⟩:∃m,n=f+m:=⟨n-f,by omega⟩;obtain⟨k,hk⟩:∃k,f+m=g+k:=⟨f+m-g,by omega⟩;unfold zV;rw[zhy hf1 hf m,ziF hf1 hf];rw[hk,zhy hg1 hg k,ziF hg1 hg,HT.lexLt_cons];rcases Nat.lt_trichotomy f g with h | h | h
 ·rw[if_neg (by omega),decide_eq_true (show(f:Int)<g by omega)];obtain⟨d,hd⟩:∃d,g-1=(f-1)+(d+1):=⟨g-1-(f-1)-1,by omega⟩;rw[hd,rep_add,append_assoc,zd8,range_succ_eq_map,map_cons,List.replicate_succ,cons_append,zC,if_neg (by intro z;cases z)];rfl
 ·subst h;have:k=m:=by omega
  subst this;rw[if_pos rfl,zd8];have:=ziC (λi=>(cnt a ((f:Int)+i):Int)) (λi=>sm a ((f:Int)+i)) (λi=>(cnt b ((f:Int)+i):Int)) (λi=>sm b ((f:Int)+i)) (k+1) 0;rw[<-List.range_eq_range']at this;exact this
 ·rw[if_neg (by omega),decide_eq_false (show ¬(f:Int)<g by omega)];obtain⟨d,hd⟩:∃d,f-1=(g-1)+(d+1):=⟨f-1-(g-1)-1,by omega⟩;rw[hd,rep_add,append_assoc,zd8,range_succ_eq_map (n:=k),map_cons,List.replicate_succ,cons_append,zC,if_neg (by intro z;cases z)];rfl
theorem exF{a:List Int}(hlo:∀x∈a,1<=x):∀n:Nat,a.length<2*cnt a n->∃f:Nat,1<=f/\f<=n/\isF a f
 | 0,h=>by
   have:=zji (ms:=a) (n:=((0:Nat):Int)) λx hx=>by have:=hlo x hx;omega
   omega
 | n+1,h=>by
   by_cases c:a.length<2*cnt a n
   ·obtain⟨f,h1,h2,h3⟩:=exF hlo n c;exact⟨f,h1,by omega,h3⟩
   ·refine⟨n+1,by omega,le_refl _,h,?_⟩;have e:((n+1:Nat):Int)-1=(n:Int):=by omega
    rw[e];omega
theorem zkG(hne:a≠[])(h:∀x∈a,1<=x/\x<=n):∃f:Nat,1<=f/\f<=n/\isF a f :=
 exF (λx hx=>(h x hx).1) n (by
  rw[zhs λx hx=>(h x hx).2];have:=List.length_pos_iff.mpr hne;omega)
theorem sg_high{n:Int}(h:∀x∈a,x<=n)(hk:n<=k):sg a k=sg a n:=by
 have e:got a k=got a n:=by
  unfold got;exact filter_congr λx hx=>by
   have:=h x hx;rw[decide_eq_true (by omega),decide_eq_true this]
 unfold sg cnt sm;rw[e]
theorem ziy(a:List Int)(n:Nat):wm a (n+1)=wm a n++[sg a ((n:Int)+1)]:=by unfold wm;rw[range_succ,map_append];rfl
theorem zc9(a:List Int)(n:Nat):(wm a n).length=n:=by unfold wm;simp
theorem zfl:∀{xs ys:List Sg}{x y:Sg},xs.length=ys.length->(x=y\/xs≠ys)->zC (xs++[x]) (ys++[y])=zC xs ys
 | [],[],x,y,_,h=>by
   rcases h with h | h
   ·subst h;show(if x=x then false else olt x x)=false;rw[if_pos rfl]
   ·exact absurd rfl h
 | p::xs,q::ys,x,y,hl,h=>by
   rw[cons_append,cons_append,zC,zC];by_cases e:p=q
   ·subst e;rw[if_pos rfl,if_pos rfl];exact zfl (by simpa using hl) (h.imp id λz w=>z (by rw[w]))
   ·rw[if_neg e,if_neg e]
theorem ze7(h1:1<=n)(ha:∀x∈a,x<=n)(hb:∀x∈b,x<=n):∀k,zV a b (n+k)=zV a b n
 | 0=>rfl
 | k+1=>by
   rw[<-ze7 h1 ha hb k];show zC (wm a ((n+k)+1)) (wm b ((n+k)+1))=_;rw[ziy,ziy];refine zfl (by rw[zc9,zc9]) ?_;by_cases e:wm a (n+k)=wm b (n+k)
   ·left;have:(wm a (n+k))[n-1]? = (wm b (n+k))[n-1]? := by rw[e]
    unfold wm at this;rw[getElem?_map,getElem?_map,getElem?_range (by omega)]at this;have this:sg a (((n-1:Nat):Int)+1)=sg b (((n-1:Nat):Int)+1):=Option.some.inj this;have en:((n-1:Nat):Int)+1=(n:Int):=by omega
    rw[en]at this;rw[sg_high ha (by omega),sg_high hb (by omega)];exact this
   ·exact .inr e
theorem ahead_any{m:Nat}(h1:1<=n)(hm:1<=m)(ha:∀x∈a,x<=n/\x<=m)(hb:∀x∈b,x<=n/\x<=m):zV a b n=zV a b m:=by
 rcases Nat.le_total n m with h | h
 ·obtain⟨k,rfl⟩:=Nat.exists_eq_add_of_le h;exact(ze7 h1 (λx hx=>(ha x hx).1) (λx hx=>(hb x hx).1) k).symm
 ·obtain⟨k,rfl⟩:=Nat.exists_eq_add_of_le h;exact ze7 hm (λx hx=>(ha x hx).2) (λx hx=>(hb x hx).2) k
def word:Sg->Sg->Str
 | some p,some q=>if p.1=q.1 then "sum" else "count"
 | _,_=> "half"
def yT(a b:List Int)(n:Nat):Option (Nat×Str)->Prop
 | none=>∀k:Nat,1<=k->k<=n->sg a k=sg b k
 | some r=>1<=r.1/\r.1<=n/\(∀j:Nat,1<=j->j<r.1->sg a j=sg b j)/\sg a r.1≠sg b r.1/\r.2=word (sg a r.1) (sg b r.1)
theorem zaY{r r':Option (Nat×Str)}(h:yT a b n r)(h':yT a b n r'):r=r':=by
 cases r with
 | none =>
   cases r' with
   | none=>rfl
   | some q=>exact absurd (h q.1 h'.1 h'.2.1) h'.2.2.2.1
 | some p =>
   cases r' with
   | none=>exact absurd (h' p.1 h.1 h.2.1) h.2.2.2.1
   | some q =>
     obtain⟨k,w⟩:=p;obtain⟨j,v⟩:=q;obtain⟨a1,a2,a3,a4,a5⟩:=h;obtain⟨b1,b2,b3,b4,b5⟩:=h';dsimp only at a1 a2 a3 a4 a5 b1 b2 b3 b4 b5;have e:k=j:=by
      rcases Nat.lt_trichotomy k j with c | c | c
      ·exact absurd (b3 k a1 c) a4
      ·exact c
      ·exact absurd (a3 j b1 c) b4
     subst e;rw[a5,b5]
theorem zhk:∀{xs ys:List Sg}(k:Nat)(h1:k<xs.length)(h2:k<ys.length),(∀j,j<k->xs[j]? = ys[j]?)->xs[k]≠ys[k]->zC xs ys=olt xs[k] ys[k]
 | x::xs,y::ys,0,_,_,_,hne=>by rw[zC,if_neg (show ¬x=y from hne)];rfl
 | x::xs,y::ys,k+1,h1,h2,he,hne=>by
   have e:x=y:=by have:=he 0 (by omega);simpa using this
   rw[zC,if_pos e];exact zhk k (by simpa using h1) (by simpa using h2) (λj hj=>by have:=he (j+1) (by omega);simpa using this) (by simpa using hne)
theorem zdA:∀(xs:List Sg),zC xs xs=false
 | []=>rfl
 | x::xs=>by rw[zC,if_pos rfl];exact zdA xs
theorem zgV(a:List Int){k:Nat}(h:k<n):(wm a n)[k]? = some (sg a ((k:Int)+1)):=by
 unfold wm;rw[getElem?_map,getElem?_range h];rfl
theorem zkU(h:yT a b n none):zV a b n=false:=by
 have e:wm a n=wm b n:=by
  unfold wm;refine map_congr_left λi hi=>?_;have hi:=List.mem_range.mp hi;have:=h (i+1) (by omega) (by omega);have ei:((i+1:Nat):Int)=(i:Int)+1:=by omega
  rw[ei]at this;exact this
 unfold zV;rw[e];exact zdA _
theorem ze4{r:Nat×Str}(h:yT a b n (some r)):zV a b n=olt (sg a r.1) (sg b r.1):=by
 obtain⟨k,w⟩:=r;obtain⟨a1,a2,a3,a4,a5⟩:=h;dsimp only at a1 a2 a3 a4 a5 ⊢;obtain⟨j,rfl⟩:∃j,k=j+1:=⟨k-1,by omega⟩;have ej:((j+1:Nat):Int)=(j:Int)+1:=by omega
 have l1:j<(wm a n).length:=by rw[zc9];omega
 have l2:j<(wm b n).length:=by rw[zc9];omega
 have g1:(wm a n)[j]=sg a ((j+1:Nat):Int):=by
  have:=zgV a (n:=n) (k:=j) (by omega);rw[getElem?_eq_getElem l1]at this;rw[ej];exact Option.some.inj this
 have g2:(wm b n)[j]=sg b ((j+1:Nat):Int):=by
  have:=zgV b (n:=n) (k:=j) (by omega);rw[getElem?_eq_getElem l2]at this;rw[ej];exact Option.some.inj this
 unfold zV;rw[zhk j l1 l2 (λi hi=>?_) (by rw[g1,g2];exact a4),g1,g2];rw[zgV a (by omega),zgV b (by omega)];have:=a3 (i+1) (by omega) (by omega);have ei:((i+1:Nat):Int)=(i:Int)+1:=by omega
 rw[ei]at this;rw[this]
end M6
namespace L2
open PySem
end L2
namespace M6
open PySem L2 M3 M5
def zw(cs:List (List Int))(us:List Int):List Int:=us.map λc=>1+((us.filter λd=>zV (zl cs d) (zl cs c) us.length).length:Int)
variable {cs:List (List Int)}{us:List Int}{c:Int}
theorem yx(hp:∀d∈cs,d.Perm us)(hc:c∈us):∀x∈zl cs c,1<=x/\x<=us.length:=λx hx=>by
 unfold zl at hx;obtain⟨d,hd,rfl⟩:=List.mem_map.mp hx;have h:=hp d hd;have:d.idxOf c<d.length:=idxOf_lt_length_of_mem (h.mem_iff.mpr hc);have:=h.length_eq;omega
theorem zjH(h:1<=cs.length):zl cs c≠[]:=λe=>by
 have:=zX cs c;rw[e]at this;simp at this;omega
theorem key_cs{d:Int}(hp:∀d∈cs,d.Perm us)(h1:1<=cs.length)(hc:c∈us)(hd:d∈us):HT.lexLt (key (zl cs c) us.length) (key (zl cs d) us.length)=zV (zl cs c) (zl cs d) us.length:=by
 obtain⟨f,f1,f2,f3⟩:=zkG (zjH h1) (yx hp hc);obtain⟨g,g1,g2,g3⟩:=zkG (zjH h1) (yx hp hd);exact key_ahead f1 g1 f3 g3 f2 g2
theorem zbE(hp:∀d∈cs,d.Perm us)(h1:1<=cs.length):spots cs us=zw cs us:=by
 unfold spots zw zfm;rw[map_map];refine map_congr_left λc hc=>?_;show 1+(M5.zeZ (us.map λc=>key (zl cs c) us.length) (key (zl cs c) us.length):Int)=_;unfold M5.zeZ;rw[filter_map,length_map];congr 3;exact filter_congr λd hd=>key_cs hp h1 hd hc
theorem yu(cs:List (List Int))(us:List Int):(zw cs us).length=us.length:=by unfold zw;simp
def zbf(ms:List Int)(n:Nat):List (Int×Int):=(List.range n).map fun(i:Nat)=>((cnt ms ((i:Int)+1):Int),sm ms ((i:Int)+1))
theorem zgu(ms:List Int)(n:Nat):zbf ms (n+1)=zbf ms n++[((cnt ms ((n:Int)+1):Int),sm ms ((n:Int)+1))]:=by unfold zbf;rw[range_succ,map_append];rfl
theorem zdu(ms:List Int)(n:Nat):(zbf ms n).length=n:=by unfold zbf;simp
theorem word_symm(p q:Sg):word p q=word q p:=by
 cases p with
 | none=>cases q <;> rfl
 | some p=>cases q with
   | none=>rfl
   | some q =>
     show(if p.1=q.1 then("sum":Str)else("count":Str))=if q.1=p.1 then("sum":Str)else("count":Str)
     by_cases h:p.1=q.1
     ·rw[if_pos h,if_pos h.symm]
     ·rw[if_neg h,if_neg λz=>h z.symm]
theorem zjZ{a b:List Int}{n:Nat}{r:Option (Nat×Str)}(h:yT a b n r):yT b a n r:=by
 cases r with
 | none=>exact λk h1 h2=>(h k h1 h2).symm
 | some r=>exact⟨h.1,h.2.1,λj h1 h2=>(h.2.2.1 j h1 h2).symm,λz=>h.2.2.2.1 z.symm,by rw[word_symm];exact h.2.2.2.2⟩
end M6
namespace L2
open PySem
def Told(K:Frag)(H:Hp)(x:V):Option (Nat×Str)->Prop
 | none=>x=.non
 | some r=>∃l,x=.ref l/\SqT K H l [.int (r.1:Nat),.str r.2]
end L2
namespace M3
open PySem L2
theorem zkK{a b:List Int}(h:a.Perm b)(n:Int):cnt a n=cnt b n:=(h.filter _).length_eq
theorem zhP(a b:List Int)(n:Int):cnt (a++b) n=cnt a n+cnt b n:=by
 unfold cnt got;rw[filter_append,length_append]
theorem isF_perm{a b:List Int}(h:a.Perm b){f:Int}(hf:isF a f):isF b f:=by
 unfold isF at *;rw[<-zkK h,<-zkK h,<-h.length_eq];exact hf
theorem zk6{ns:List Int}(hs:ns.Pairwise (·<= ·))(hne:ns≠[]):isF ns (ns.getD (ns.length/2) 0):=by
 have hn:=List.length_pos_iff.mpr hne;have hk:ns.length/2<ns.length:=by omega
 generalize hK:ns.length/2=k at hk ⊢;have e:ns=ns.take k++ns.drop k:=(take_append_drop k ns).symm;have ed:ns.drop k=ns.getD k 0::ns.drop (k+1):=by rw[zeH hk];exact drop_eq_getElem_cons hk
 generalize ns.getD k 0=f at ed ⊢;have lt:(ns.take k).length=k:=by rw[length_take];omega
 rw[e]at hs;obtain⟨h1,h2,h3⟩:=List.pairwise_append.mp hs;rw[ed]at h2 h3;have h4:=List.pairwise_cons.mp h2;unfold isF;constructor
 ·have a1:cnt (ns.take k) f=k:=by rw[zhs λx hx=>h3 x hx f (mem_cons_self ..),lt]
  have a2:1<=cnt (ns.drop k) f:=by
   rw[ed];unfold cnt got;rw[filter_cons,if_pos (decide_eq_true (Int.le_refl f)),length_cons];omega
  have a3:cnt ns f=cnt (ns.take k) f+cnt (ns.drop k) f:=by rw[<-zhP,<-e]
  omega
 ·have a1:=zdf (ns.take k) (f-1);have a2:cnt (ns.drop k) (f-1)=0:=by
   refine zji λx hx=>?_;rw[ed]at hx;rcases List.mem_cons.mp hx with z | z
   ·omega
   ·have:=h4.1 x z;omega
  have a3:cnt ns (f-1)=cnt (ns.take k) (f-1)+cnt (ns.drop k) (f-1):=by rw[<-zhP,<-e]
  omega
end M3
namespace M6
open PySem L2 M3 M5
def zjP(a b:List Int)(f:Int):Option Int->Prop
 | none=>∀k,f<=k->cnt a k=cnt b k/\sm a k=sm b k
 | some n=>f<=n/\n<=24/\(∀j,f<=j->j<n->cnt a j=cnt b j/\sm a j=sm b j)/\¬(cnt a n=cnt b n/\sm a n=sm b n)
variable {a:List Int}{f:Int}
theorem zcS{j:Int}(hf:isF a f)(hj:j<f):sg a j=none:=by
 refine zco ?_;have:=zbT (ms:=a) (show j<=f-1 by omega);have:=hf.2;omega
theorem zc5{j:Int}(hf:isF a f)(hj:f<=j):sg a j=some ((cnt a j:Int),sm a j):=by
 refine yZ ?_;have:=zbT (ms:=a) hj;have:=hf.1;omega
variable {b:List Int}{g:Int}
theorem ziS(hf:isF a f)(hg:isF b g)(h:f<g)(h1:1<=f)(h2:f<=24):yT a b 24 (some (f.toNat,"half")):=by
 have e:((f.toNat:Nat):Int)=f:=by omega
 refine⟨by dsimp only;omega,by dsimp only;omega,λj j1 j2=>?_,?_,?_⟩
 ·dsimp only at j2;rw[zcS hf (by omega),zcS hg (by omega)]
 ·dsimp only;rw[e,zc5 hf (Int.le_refl _),zcS hg h];exact λz=>nomatch z
 ·dsimp only;rw[e,zc5 hf (Int.le_refl _),zcS hg h];rfl
theorem part_gt(hf:isF a f)(hg:isF b g)(h:g<f)(h1:1<=g)(h2:g<=24):yT a b 24 (some (g.toNat,"half")):=zjZ (ziS hg hf h h1 h2)
theorem ziB(hf:isF a f)(hg:isF b f)(h:zjP a b f none):yT a b 24 none:=λk k1 k2=>by
 by_cases c:(k:Int)<f
 ·rw[zcS hf c,zcS hg c]
 ·obtain⟨e1,e2⟩:=h k (by omega);rw[zc5 hf (by omega),zc5 hg (by omega),e1,e2]
theorem ziH{n:Int}(hf:isF a f)(hg:isF b f)(h1:1<=f)(h:zjP a b f (some n)):yT a b 24 (some (n.toNat,if(cnt a n:Int)=cnt b n then "sum" else "count")):=by
 obtain⟨a1,a2,a3,a4⟩:=h;have e:((n.toNat:Nat):Int)=n:=by omega
 refine⟨by dsimp only;omega,by dsimp only;omega,λj j1 j2=>?_,?_,?_⟩
 ·dsimp only at j2;by_cases c:(j:Int)<f
  ·rw[zcS hf c,zcS hg c]
  ·obtain⟨e1,e2⟩:=a3 j (by omega) (by omega);rw[zc5 hf (by omega),zc5 hg (by omega),e1,e2]
 ·dsimp only;rw[e,zc5 hf a1,zc5 hg a1];intro z;injection z with z
  injection z with z1 z2
  exact a4 ⟨by omega,z2⟩
 ·dsimp only;rw[e,zc5 hf a1,zc5 hg a1];rfl
theorem ahead_lt(hf:isF a f)(hg:isF b g)(h:f<g)(h1:1<=f)(h2:f<=24):zV a b 24=true:=by
 rw[ze4 (ziS hf hg h h1 h2)];dsimp only;have e:((f.toNat:Nat):Int)=f:=by omega
 rw[e,zc5 hf (Int.le_refl _),zcS hg h];rfl
theorem ahead_gt(hf:isF a f)(hg:isF b g)(h:g<f)(h1:1<=g)(h2:g<=24):zV a b 24=false:=by
 rw[ze4 (part_gt hf hg h h1 h2)];dsimp only;have e:((g.toNat:Nat):Int)=g:=by omega
 rw[e,zcS hf h];rfl
theorem ahead_at{n:Int}(hf:isF a f)(hg:isF b f)(h1:1<=f)(h:zjP a b f (some n)):zV a b 24=if(cnt a n:Int)=cnt b n then decide (sm a n<sm b n)else decide ((cnt b n:Int)<cnt a n):=by
 rw[ze4 (ziH hf hg h1 h)];dsimp only;have e:((n.toNat:Nat):Int)=n:=by have:=h.1;omega
 rw[e,zc5 hf h.1,zc5 hg h.1];show(decide ((cnt b n:Int)<cnt a n) || (decide ((cnt a n:Int)=cnt b n) && decide (sm a n<sm b n)))=_;by_cases c:(cnt a n:Int)=cnt b n
 ·rw[if_pos c,decide_eq_true c,decide_eq_false (show ¬(cnt b n:Int)<cnt a n by omega)];rfl
 ·rw[if_neg c,decide_eq_false c,Bool.false_and,Bool.or_false]
theorem unl_beyond{M:Int}(ha:∀x∈a,x<=M)(hb:∀x∈b,x<=M)(hM:f<=M)(h:∀j,f<=j->j<=M->cnt a j=cnt b j/\sm a j=sm b j):zjP a b f none:=λk hk=>by
 by_cases c:k<=M
 ·exact h k hk c
 ·have ea:got a k=got a M:=by
   unfold got;exact filter_congr λx hx=>by have:=ha x hx;rw[decide_eq_true (by omega),decide_eq_true this]
  have eb:got b k=got b M:=by
   unfold got;exact filter_congr λx hx=>by have:=hb x hx;rw[decide_eq_true (by omega),decide_eq_true this]
  have:=h M hM (Int.le_refl _);unfold cnt sm at *;rw[ea,eb];exact this
theorem places_24{cs:List (List Int)}{us:List Int}(hp:∀d∈cs,d.Perm us)(h1:1<=us.length)(h24:us.length<=24):zw cs us=us.map λc=>1+(((us.map (zl cs)).filter λr=>zV r (zl cs c) 24).length:Int):=by
 unfold zw;refine map_congr_left λc hc=>?_;rw[filter_map,length_map];congr 3;refine filter_congr λd hd=>?_;refine ahead_any h1 (by omega) (λx hx=>?_) (λx hx=>?_)
 ·have:=yx hp hd x hx;omega
 ·have:=yx hp hc x hx;omega
end M6
namespace L2
open PySem
variable {S:Sh}
theorem Sh.cardsIn_perm(ok:S.Ok):∀d∈S.cardsIn,d.Perm S.couples:=λd hd=>by
 obtain⟨j,hj,rfl⟩:=List.mem_map.mp hd;have h2:=(List.mem_filter.mp hj).2;cases e:S.card j with
 | none=>rw[e]at h2;cases h2
 | some c=>exact(ok.cd j c e).2
theorem Sh.cardsIn_len(S:Sh):S.cardsIn.length=S.handed.length:=by unfold Sh.cardsIn;simp
def Sh.cardsWo(S:Sh)(j:Str):List (List Int):=(S.handed.filter λi => !decide (i=j)).map λi=>(S.card i).getD []
theorem Sh.cardsWo_perm(ok:S.Ok)(j:Str):∀d∈S.cardsWo j,d.Perm S.couples:=λd hd=>by
 obtain⟨i,hi,rfl⟩:=List.mem_map.mp hd;exact Sh.cardsIn_perm ok _ (List.mem_map_of_mem (List.mem_filter.mp hi).1)
theorem Sh.row_some(ok:S.Ok)(j:Str):(!decide ((S.card j).getD []=[]))=(S.card j).isSome:=by
 cases e:S.card j with
 | none=>rfl
 | some c=>rw[show(some c).getD ([]:List Int)=c from rfl,decide_eq_false (ok.full e)];rfl
theorem Sh.cardsIn_rows(ok:S.Ok):S.cardsIn=S.rows.filter λd => !decide (d=[]):=by
 unfold Sh.cardsIn Sh.handed Sh.rows;rw[filter_map];congr 1;exact filter_congr λj _=>(Sh.row_some ok j).symm
theorem zde:∀{l:List Str},l.Nodup->∀{k:Nat}(hk:k<l.length),(l.filter λi => !decide (i=l[k]))=l.take k++l.drop (k+1)
 | a::l,nd,0,_=>by
   have h:=List.nodup_cons.mp nd;show((a::l).filter λi => !decide (i=a))=l;rw[filter_cons,if_neg (by rw[decide_eq_true rfl];decide),List.filter_eq_self];intro x hx;have:¬x=a:=λz=>h.1 (z ▸ hx);rw[decide_eq_false this];rfl
 | a::l,nd,k+1,hk=>by
   have h:=List.nodup_cons.mp nd;have hk':k<l.length:=by simpa using hk
   show((a::l).filter λi => !decide (i=l[k]))=a::(l.take k++l.drop (k+1));have:¬a=l[k]:=λz=>h.1 (z ▸ getElem_mem hk');rw[filter_cons,if_pos (by rw[decide_eq_false this];rfl),zde h.2 hk']
theorem Sh.cardsWo_rows(ok:S.Ok){k:Nat}(hk:k<S.panel.length):S.cardsWo (S.panel.getD k "")=(S.rows.take k++S.rows.drop (k+1)).filter λd => !decide (d=[]):=by
 have e:S.panel.getD k ""=S.panel[k]:=by rw[getD_eq_getElem?_getD,getElem?_eq_getElem hk];rfl
 unfold Sh.cardsWo Sh.handed Sh.rows;rw[e,filter_filter,<-map_take,<-map_drop,<-map_append,<-zde ok.pnd hk,filter_map,filter_filter];congr 1;refine filter_congr λj _=>?_;show((!decide (j=S.panel[k])) && (S.card j).isSome)=((!decide ((S.card j).getD []=[])) && (!decide (j=S.panel[k])));rw[Sh.row_some ok j,Bool.and_comm]
theorem Sh.handed_len(ok:S.Ok):S.handed.length=(S.rows.filter λd => !decide (d=[])).length:=by rw[<-Sh.cardsIn_rows ok,Sh.cardsIn_len]
theorem Sh.cardsWo_len{j:Str}(nd:S.panel.Nodup)(hj:j∈S.handed):(S.cardsWo j).length+1=S.handed.length:=by
 unfold Sh.cardsWo;rw[length_map];have hn:S.handed.Nodup:=nd.filter _;have e:(S.handed.filter λi => !decide (i=j))=S.handed.erase j:=by
  rw[hn.erase_eq_filter];refine filter_congr λx _=>?_;by_cases h:x=j
  ·simp[h]
  ·simp[h]
 rw[e,List.length_erase_of_mem hj];have:=length_pos_of_mem hj;omega
theorem zaF{K:Frag}{a:Addr}{ls:List Addr}{cs:List (List Int)}{c:St}{tc:TT}{te:TE}{H:Hp}{fin:List V->Hp->Prop}(hA:SqL K H a (ls.map V.ref))(hR:All2 (IL K H) ls cs)(hz:cs.length<=1000)
 (htc:∀(m:Addr)(d:List Int)(H':Hp)(Q:Bool->Hp->Prop),SqL K H' m (d.map V.int)->(∀H2,Same H' H2->Q (!decide (d=[])) H2)->tc (some (.ref m)::c) H' Q)
 (hte:∀(m:Addr)(H':Hp)(Q:VK),Q (.ref m) H'->te (some (.ref m)::c) H' Q)
 (hd:∀(ks:List Addr)(H':Hp),Same H H'->All2 (IL K H') ks (cs.filter λd => !decide (d=[]))->fin (ks.map V.ref) H'):zd1 (Itl K a) c tc te H fin:=by
 have hln:=zt;have hl:=hR.length;refine yV (xs:=ls.map V.ref) (λi ys H2=>∃ks:List Addr,ys=ks.map V.ref/\Same H H2/\All2 (IL K H2) ks ((cs.take i).filter λd => !decide (d=[]))) ⟨[],rfl,Same.refl _,.nil⟩ ?_ (by rw[length_map];omega) ?_ ?_
 ·rintro i ys H2 hi ⟨ks,rfl,s2,r2⟩;refine⟨s2.seq hA,?_⟩;have h3:=r2.length;have h4:=length_filter_le (λd:List Int => !decide (d=[])) (cs.take i);rw[length_take]at h4;rw[length_map];omega
 ·rintro i x ys H2 hx ⟨ks,rfl,s2,r2⟩;obtain⟨m,em,rfl⟩:=zah hx;obtain⟨d,ed,rd⟩:=hR.getL em;refine htc m d H2 _ (s2.seq rd) λH3 s3=>?_;have e:(cs.take (i+1)).filter (λd => !decide (d=[]))=(cs.take i).filter (λd => !decide (d=[]))++if(!decide (d=[]))=true then [d] else []:=by
   rw[take_succ,ed,filter_append];congr 1;show filter _ [d]=_;rw[filter_cons];rfl
  refine zhi (λhb=>?_) (λhb=>?_)
  ·refine hte m H3 _ ⟨ks++[m],by rw[map_append];rfl,s2.trans s3,?_⟩;rw[e,if_pos hb];exact(r2.imp λ_ _=>IL.stays K _ _ _ _ s3).snoc ((s2.trans s3).seq rd)
  ·refine⟨ks,rfl,s2.trans s3,?_⟩;rw[e,if_neg (by rw[hb];exact Bool.false_ne_true),append_nil];exact r2.imp λ_ _=>IL.stays K _ _ _ _ s3
 ·rintro ys H2 ⟨ks,rfl,s2,r2⟩;rw[length_map,hl,take_length]at r2;exact hd ks H2 s2 r2
variable {α β:Type}
theorem All2.takeN{R:α->β->Prop}{as:List α}{bs:List β}(h:All2 R as bs):∀k,All2 R (as.take k) (bs.take k):=by
 induction h with
 | nil=>intro k;rw[take_nil,take_nil];exact .nil
 | cons r _ ih =>
   intro k;cases k with
   | zero=>exact .nil
   | succ k=>exact .cons r (ih k)
theorem All2.dropN{R:α->β->Prop}{as:List α}{bs:List β}(h:All2 R as bs):∀k,All2 R (as.drop k) (bs.drop k):=by
 induction h with
 | nil=>intro k;rw[drop_nil,drop_nil];exact .nil
 | cons r h' ih =>
   intro k;cases k with
   | zero=>exact .cons r h'
   | succ k=>exact ih k
theorem All2.app{R:α->β->Prop}{as as':List α}{bs bs':List β}(h:All2 R as bs)(h2:All2 R as' bs'):All2 R (as++as') (bs++bs'):=by
 induction h with
 | nil=>exact h2
 | cons r _ ih=>exact .cons r ih
end L2
namespace M6
open PySem L2 M3 M5
theorem olt_irr:∀p:Sg,olt p p=false
 | none=>rfl
 | some p=>by show(decide (p.1<p.1) || (decide (p.1=p.1) && decide (p.2<p.2)))=false;simp
theorem olt_trn:∀{p q r:Sg},olt p q=true->olt q r=true->olt p r=true
 | none,_,_,h,_=>by cases h
 | some p,none,_,_,h=>by cases h
 | some p,some q,none,_,_=>rfl
 | some p,some q,some r,h1,h2=>by
   simp only[olt,Bool.or_eq_true,Bool.and_eq_true,decide_eq_true_eq]at h1 h2 ⊢;omega
theorem zgq:∀{xs ys zs:List Sg},zC xs ys=true->zC ys zs=true->zC xs zs=true
 | x::xs,y::ys,z::zs,h1,h2=>by
   rw[zC]at h1 h2 ⊢;by_cases e1:x=y
   ·rw[if_pos e1]at h1;by_cases e2:y=z
    ·rw[if_pos e2]at h2;rw[if_pos (e1.trans e2)];exact zgq h1 h2
    ·rw[if_neg e2]at h2;rw[e1,if_neg e2];exact h2
   ·rw[if_neg e1]at h1;by_cases e2:y=z
    ·rw[if_pos e2]at h2;rw[<-e2,if_neg e1];exact h1
    ·rw[if_neg e2]at h2;have h:=olt_trn h1 h2;rw[if_neg (λe=>by rw[e,olt_irr]at h;cases h)];exact h
 | [],_,_,h,_=>by simp[zC]at h
 | _::_,[],_,h,_=>by simp[zC]at h
 | _::_,_::_,[],_,h=>by simp[zC]at h
theorem ziu(a:List Int)(n:Nat):zV a a n=false:=zdA _
theorem zkE{a b c:List Int}{n:Nat}(h1:zV a b n=true)(h2:zV b c n=true):zV a c n=true:=zgq h1 h2
def zkF(cs:List (List Int))(us:List Int)(c:Int):Nat:=(us.filter λd=>zV (zl cs d) (zl cs c) us.length).length
variable {cs:List (List Int)}{us:List Int}
theorem places_at{i:Nat}(h:i<us.length):(zw cs us).getD i 0=1+(zkF cs us (us.getD i 0):Int):=by
 unfold zw zkF;rw[getD_eq_getElem?_getD,getElem?_map,getD_eq_getElem?_getD,getElem?_eq_getElem h];rfl
theorem zhK{cs:List (List Int)}{us:List Int}(n:Nat):∀{vs:List Int},vs≠[]->∃c∈vs,∀d∈vs,zV (zl cs d) (zl cs c) n=false
 | [c],_=>⟨c,List.mem_singleton.mpr rfl,λd hd=>by rw[List.mem_singleton.mp hd];exact ziu _ _⟩
 | c::v::vs,_=>by
   obtain⟨m,hm,hd⟩:=zhK (cs:=cs) (us:=us) n (vs:=v::vs) (by simp);cases h:zV (zl cs c) (zl cs m) n with
   | false =>
     refine⟨m,mem_cons_of_mem _ hm,λd h'=>?_⟩;rcases List.mem_cons.mp h' with e | e
     ·rw[e];exact h
     ·exact hd d e
   | true =>
     refine⟨c,mem_cons_self ..,λd h'=>?_⟩;rcases List.mem_cons.mp h' with e | e
     ·rw[e];exact ziu _ _
     ·cases h2:zV (zl cs d) (zl cs c) n with
      | false=>rfl
      | true=>have:=hd d e;rw[zkE h2 h]at this;cases this
theorem one_in(h:us≠[]):(1:Int)∈zw cs us:=by
 obtain⟨c,hc,hd⟩:=zhK (cs:=cs) (us:=us) us.length h;unfold zw;refine List.mem_map.mpr ⟨c,hc,?_⟩;rw[List.filter_eq_nil_iff.mpr λd h'=>by rw[hd d h'];exact Bool.false_ne_true];rfl
end M6
namespace L2
open PySem
end L2
namespace M6
open PySem L2 M3 M5
variable {cs:List (List Int)}{us:List Int}{c:Int}
end M6
namespace L2
open PySem
end L2
namespace M6
open PySem L2 M3 M5
theorem map_front{cs:List (List Int)}{us:List Int}:zw cs us=us.map λc=>1+(zkF cs us c:Int):=rfl
end M6
namespace L2
open PySem
end L2
namespace M6
open PySem L2 M3 M5
def zfu(a b:List Int)(n:Nat):Option (Nat×Str):=((List.range n).find? fun(i:Nat)=>decide (sg a ((i:Int)+1)≠sg b ((i:Int)+1))).map fun(i:Nat)=>(i+1,word (sg a ((i:Int)+1)) (sg b ((i:Int)+1)))
theorem zhC{p:Nat->Bool}:∀{n j i:Nat},(range' j n).find? p=some i->p i=true/\j<=i/\i<j+n/\∀k,j<=k->k<i->p k=false
 | 0,j,i,h=>by cases h
 | n+1,j,i,h=>by
   rw[List.range'_succ,find?_cons]at h;cases hp:p j with
   | true =>
     rw[hp]at h;have e:j=i:=Option.some.inj h;subst e;exact⟨hp,le_refl _,by omega,λk h1 h2=>by omega⟩
   | false =>
     rw[hp]at h;obtain⟨h1,h2,h3,h4⟩:=zhC h;refine⟨h1,by omega,by omega,λk k1 k2=>?_⟩;by_cases e:k=j
     ·subst e;exact hp
     ·exact h4 k (by omega) k2
theorem zcz(a b:List Int)(n:Nat):yT a b n (zfu a b n):=by
 unfold zfu;rw[List.range_eq_range'];cases h:(range' 0 n).find? fun(i:Nat)=>decide (sg a ((i:Int)+1)≠sg b ((i:Int)+1))with
 | none =>
   rw[List.find?_eq_none]at h;show yT a b n none;intro k h1 h2;have:=h (k-1) (by rw[List.mem_range'_1];omega);have e:((k-1:Nat):Int)+1=(k:Int):=by omega
   rw[e]at this;by_cases c:sg a k=sg b k
   ·exact c
   ·exact absurd (decide_eq_true c) this
 | some i =>
   obtain⟨h1,h2,h3,h4⟩:=zhC h;have e:((i+1:Nat):Int)=(i:Int)+1:=by omega
   show yT a b n (some (i+1,word (sg a ((i:Int)+1)) (sg b ((i:Int)+1))));refine⟨by show 1<=i+1;omega,by show i+1<=n;omega,λj j1 j2=>?_,?_,?_⟩
   ·have j2:j<i+1:=j2;have:=h4 (j-1) (by omega) (by omega);have ej:((j-1:Nat):Int)+1=(j:Int):=by omega
    rw[ej]at this;by_cases c:sg a j=sg b j
    ·exact c
    ·rw[decide_eq_true c]at this;cases this
   ·show sg a ((i+1:Nat):Int)≠sg b ((i+1:Nat):Int);rw[e];exact of_decide_eq_true h1
   ·show _=word (sg a ((i+1:Nat):Int)) (sg b ((i+1:Nat):Int));rw[e]
abbrev R4:=Int×Int×Int×Str
def nb(cs:List (List Int))(us:List Int)(p q:Int×Int):Option R4:=if p.1=q.1 then none else(zfu (zl cs p.2) (zl cs q.2) us.length).map λr=>(p.2,q.2,(r.1:Int),r.2)
def za8(cs:List (List Int))(us:List Int):List R4:=((rows (zw cs us) us).zip (rows (zw cs us) us).tail).filterMap λpq=>nb cs us pq.1 pq.2
def yG(cs:List (List Int))(us:List Int)(c:Int):Int:=1+((us.filter λd=>zV (zl cs d) (zl cs c) us.length).length:Int)
variable {cs:List (List Int)}{us:List Int}
theorem zfq{p:Int×Int}(h:p∈rows (zw cs us) us):p.2∈us/\p.1=yG cs us p.2:=by
 unfold rows at h;obtain⟨i,_,hi⟩:=List.mem_flatMap.mp h;have hz:=(List.mem_filter.mp hi).1;have e:(zw cs us).zip us=us.map λc=>(yG cs us c,c):=by
  show(us.map λc=>yG cs us c).zip us=_;rw[List.zip_map_left];have:us.zip us=us.map λc=>(c,c):=by
   induction us with
   | nil=>rfl
   | cons a us ih=>rw[List.zip_cons_cons,map_cons];congr 1;rw[List.zip_eq_zipWith,List.zipWith_self]
  rw[this,map_map];rfl
 rw[e]at hz;obtain⟨c,hc,rfl⟩:=List.mem_map.mp hz;exact⟨hc,rfl⟩
theorem zgX{c d:Int}(h:yG cs us c≠yG cs us d):zfu (zl cs c) (zl cs d) us.length≠none:=λe=>by
 have hp:=zcz (zl cs c) (zl cs d) us.length;rw[e]at hp;apply h;have es:wm (zl cs c) us.length=wm (zl cs d) us.length:=by
  unfold wm;refine map_congr_left λi hi=>?_;have hi:=List.mem_range.mp hi;have:=hp (i+1) (by omega) (by omega);have ei:((i+1:Nat):Int)=(i:Int)+1:=by omega
  rw[ei]at this;exact this
 unfold yG zV;rw[es]
end M6
namespace L2
open PySem
def F4(K:Frag)(H:Hp)(l:Addr)(p:M6.R4):Prop:=SqT K H l [.int p.1,.int p.2.1,.int p.2.2.1,.str p.2.2.2]
theorem F4.stays(K:Frag):Stays (F4 K):=λ_ _ _ _ s h=>s.seqT h
theorem F4.put{K:Frag}{H:Hp}{p:Addr}{ys:List V}{o:HO}{ls:List Addr}{ps:List M6.R4}(h:All2 (F4 K H) ls ps)(hp:H p=some (.lst ys)):All2 (F4 K (upd H p o)) ls ps:=h.imp λ_ _ r=>SqT.put r hp
end L2
namespace M9
open PySem L2 M3 M5
end M9
namespace M6
open PySem L2 M3 M5 M9
variable {cs:List (List Int)}{us:List Int}{c d f:Int}
end M6
namespace L2
open PySem
def upC(d:List Int)(i:Nat):List Int:=d.take (i-1)++[d.getD i 0,d.getD (i-1) 0]++d.drop (i+1)
variable {d:List Int}{i:Nat}
theorem upC_eq(h0:0<i)(hi:i<d.length):∃p q,p.length=i-1/\d=p++[d.getD (i-1) 0,d.getD i 0]++q/\upC d i=p++[d.getD i 0,d.getD (i-1) 0]++q:=by
 refine⟨d.take (i-1),d.drop (i+1),by rw[length_take];omega,?_,rfl⟩;have h1:i-1<d.length:=by omega
 have e1:d.getD (i-1) 0=d[i-1]:=by rw[getD_eq_getElem?_getD,getElem?_eq_getElem h1];rfl
 have e2:d.getD i 0=d[i]:=by rw[getD_eq_getElem?_getD,getElem?_eq_getElem hi];rfl
 rw[e1,e2,append_assoc]
 conv=>lhs;rw[<-take_append_drop (i-1) d]
 congr 1;rw[drop_eq_getElem_cons h1];show d[i-1]::d.drop (i-1+1)=d[i-1]::(d[i]::d.drop (i+1));congr 1;have:i-1+1=i:=by omega
 rw[this];exact drop_eq_getElem_cons hi
theorem zkd(h0:0<i)(hi:i<d.length):(upC d i).Perm d:=by
 obtain⟨p,q,_,e1,e2⟩:=upC_eq h0 hi;rw[e2]
 conv=>rhs;rw[e1]
 refine List.Perm.append_right _ (List.Perm.append_left _ ?_);exact List.Perm.swap _ _ _
theorem upC_at(h0:0<i)(hi:i<d.length):(upC d i)[i]? = some (d.getD (i-1) 0):=by
 obtain⟨p,q,hp,_,e2⟩:=upC_eq h0 hi;rw[e2,append_assoc,List.getElem?_append_right (by omega),hp,show i-(i-1)=1 by omega];rfl
def Sh.cardsUp(S:Sh)(j:Str)(d:List Int):List (List Int):=S.handed.map λi=>if i=j then d else(S.card i).getD []
theorem Sh.cardsUp_perm{S:Sh}(ok:S.Ok){j:Str}(h:d.Perm S.couples):∀e∈S.cardsUp j d,e.Perm S.couples:=λe he=>by
 obtain⟨i,hi,rfl⟩:=List.mem_map.mp he;by_cases c:i=j
 ·rw[if_pos c];exact h
 ·rw[if_neg c];exact Sh.cardsIn_perm ok _ (List.mem_map_of_mem hi)
theorem Sh.cardsUp_len(S:Sh)(j:Str)(d:List Int):(S.cardsUp j d).length=S.handed.length:=by unfold Sh.cardsUp;simp
def Sh.setc(S:Sh)(j:Str)(d:List Int):Sh:={ S with card:=λk=>if k=j then some d else S.card k }
theorem Sh.Ok.setc{S:Sh}(h:S.Ok){j:Str}(hj:j∈S.panel)(hd:d.Perm S.couples):(S.setc j d).Ok:=by
 refine⟨h.c1,h.c24,h.nd,h.rng,h.p1,h.p15,h.pnd,λk e z=>?_,h.t200⟩;have z:(if k=j then some d else S.card k)=some e:=z;by_cases ek:k=j
 ·rw[if_pos ek]at z;cases z;subst ek;exact⟨hj,hd⟩
 ·rw[if_neg ek]at z;exact h.cd k e z
theorem set_cut{α:Type}{l:List α}{k:Nat}(hk:k<l.length)(x:α):l.take k++[x]++l.drop (k+1)=l.set k x:=by
 rw[List.set_eq_take_append_cons_drop,if_pos hk,append_assoc];rfl
theorem Sh.cardsUp_rows{S:Sh}(ok:S.Ok){w:Nat}(hw:w<S.panel.length)(hd:d.Perm S.couples)(hs:(S.card (S.panel.getD w "")).isSome=true):S.cardsUp (S.panel.getD w "") d=(S.rows.take w++[d]++S.rows.drop (w+1)).filter λd => !decide (d=[]):=by
 have hj:S.panel.getD w "" ∈ S.panel:=zbb hw;rw[set_cut (by rw[S.rows_len];exact hw),<-Sh.rows_hand ok.pnd hw d];rw[show(S.hand (S.panel.getD w "") d).rows=(S.setc (S.panel.getD w "") d).rows from rfl,<-Sh.cardsIn_rows (ok.setc hj hd)];unfold Sh.cardsUp Sh.cardsIn;have e:(S.setc (S.panel.getD w "") d).handed=S.handed:=by
  unfold Sh.handed;refine filter_congr λi _=>?_;show(if i=S.panel.getD w "" then some d else S.card i).isSome=_;by_cases c:i=S.panel.getD w ""
  ·rw[if_pos c,c,hs];rfl
  ·rw[if_neg c]
 rw[e];refine map_congr_left λi _=>?_;show _=(if i=S.panel.getD w "" then some d else S.card i).getD [];by_cases c:i=S.panel.getD w ""
 ·rw[if_pos c,if_pos c];rfl
 ·rw[if_neg c,if_neg c]
end L2
namespace M6
open PySem L2 M3 M5
variable {cs cs':List (List Int)}{us:List Int}{c:Int}
theorem getD_idx{d:List Int}{e:Int}(h:e∈d):d.getD (d.idxOf e) 0=e:=by
 rw[zeH (idxOf_lt_length_of_mem h)];exact getElem_idxOf _
end M6
namespace L2
open PySem M6 M5
def Sh.more(S:Sh)(n:Nat):Sh:={ S with taken:=S.taken+n }
section
variable {S:Sh}{j:Str}{d:List Int}{k:Nat}
end
end L2
namespace M6
open PySem L2 M3 M5
section
variable {A B C:List Int}{c:Int}
end
end M6
namespace L2
open PySem
def zcr(ps us:List Int)(n:Nat):List Int:=((List.range n).filter λk=>decide (ps.getD k 0=1)).map λk=>us.getD k 0
theorem zbC(ps us:List Int)(n:Nat):zcr ps us (n+1)=zcr ps us n++if ps.getD n 0=1 then [us.getD n 0] else []:=by
 unfold zcr;rw[range_succ,filter_append,map_append];congr 1;by_cases h:ps.getD n 0=1
 ·rw[if_pos h,filter_cons,if_pos (by rw[decide_eq_true h])];rfl
 ·rw[if_neg h,filter_cons,if_neg (by rw[decide_eq_false h];decide)];rfl
theorem zee(ps us:List Int)(n:Nat):(zcr ps us n).length<=n:=by
 unfold zcr;rw[length_map];exact le_trans (length_filter_le _ _) (by rw[length_range];exact le_refl _)
def wO(cs:List (List Int))(us:List Int):List Int:=zcr (M6.zw cs us) us us.length
def Sh.decide(S:Sh):List Str:=S.handed.filter λj => !Decidable.decide (wO (S.cardsWo j) S.couples=wO S.cardsIn S.couples)
theorem Sh.cardsWo_le(S:Sh)(j:Str):(S.cardsWo j).length<=S.handed.length:=by
 unfold Sh.cardsWo;rw[length_map];exact length_filter_le _ _
theorem Sh.cardsWo_ge{S:Sh}(nd:S.panel.Nodup)(j:Str):S.handed.length<=(S.cardsWo j).length+1:=by
 by_cases hj:j∈S.handed
 ·exact le_of_eq (Sh.cardsWo_len nd hj).symm
 ·unfold Sh.cardsWo;rw[length_map,List.filter_eq_self.mpr]
  ·exact le_succ _
  ·intro x hx;have:¬x=j:=λz=>hj (z ▸ hx);rw[decide_eq_false this];rfl
end L2
namespace M6
open PySem L2 M3 M5
variable {cs:List (List Int)}{us:List Int}{c:Int}
end M6
namespace L2
open PySem
end L2
namespace M6
open PySem L2 M3 M5
theorem zip_fn(f:Int->Int):∀us:List Int,(us.map f).zip us=us.map λc=>(f c,c)
 | []=>rfl
 | c::us=>by rw[map_cons,List.zip_cons_cons,zip_fn f us];rfl
def blk(f:Int->Int)(us:List Int)(i:Nat):List (Int×Int):=(us.filter λc=>decide (f c=(i:Int)+1)).map λc=>(f c,c)
theorem rows_blk(f:Int->Int)(us:List Int):rows (us.map f) us=(List.range us.length).flatMap (blk f us):=by
 unfold rows blk;congr 1;funext i;rw[zip_fn,filter_map];rfl
variable {cs:List (List Int)}{us:List Int}{c:Int}
def plc(cs:List (List Int))(us:List Int)(c:Int):Int:=1+(zkF cs us c:Int)
theorem zkp(cs:List (List Int))(us:List Int):rows (zw cs us) us=(List.range us.length).flatMap (blk (plc cs us) us):=rows_blk _ _
end M6
namespace L2
open PySem
def zkb(cs:List (List Int))(us:List Int)(k:Nat):Bool := !decide (cs.getD k []=[]) && !decide (wO ((cs.take k++cs.drop (k+1)).filter λd => !decide (d=[])) us=wO (cs.filter λd => !decide (d=[])) us)
def zi5(ts:List Str)(cs:List (List Int))(us:List Int)(n:Nat):List Str:=((List.range n).filter (zkb cs us)).map λk=>ts.getD k ""
theorem zf8(ts:List Str)(cs:List (List Int))(us:List Int)(n:Nat):zi5 ts cs us (n+1)=zi5 ts cs us n++if zkb cs us n=true then [ts.getD n ""] else []:=by
 unfold zi5;rw[range_succ,filter_append,map_append];congr 1;by_cases h:zkb cs us n=true
 ·rw[if_pos h,filter_cons,if_pos h];rfl
 ·rw[if_neg h,filter_cons,if_neg h];rfl
theorem zkh(ts:List Str)(cs:List (List Int))(us:List Int)(n:Nat):(zi5 ts cs us n).length<=n:=by
 unfold zi5;rw[length_map];exact le_trans (length_filter_le _ _) (by rw[length_range];exact le_refl _)
theorem Sh.decide_rows{S:Sh}(ok:S.Ok):S.decide=zi5 S.panel S.rows S.couples S.panel.length:=by
 unfold Sh.decide Sh.handed zi5;rw[filter_filter]
 conv=>lhs;rw[<-zjE S.panel ""]
 rw[filter_map];congr 1;refine filter_congr λk hk=>?_;have hk:=List.mem_range.mp hk;show((!Decidable.decide (wO (S.cardsWo (S.panel.getD k "")) S.couples=wO S.cardsIn S.couples)) && (S.card (S.panel.getD k "")).isSome)=zkb S.rows S.couples k;unfold zkb;rw[Sh.cardsWo_rows ok hk,Sh.cardsIn_rows ok,S.rows_at hk,Sh.row_some ok,Bool.and_comm]
variable {K:Frag}{H H':Hp}
theorem SheetAt.sameN{p:Addr}{F:Addr->Prop}{S:Sh}(h:SheetAt K H p F S)(s:SameN H H'):∃F':Addr->Prop,(∀b,F' b->F b)/\SheetAt K H' p F' S:=by
 obtain⟨dx,a1,a2,a3,d,kvs,h⟩:=h;refine⟨λb=>F b/\∀ps,H b≠some (.tbl ps),λb z=>z.1,dx,a1,a2,a3,d,kvs,⟨⟨s.1 _ _ h.ip (λ_ z=>by cases z),s.1 _ _ h.i1 (λ_ z=>by cases z),s.1 _ _ h.i2 (λ_ z=>by cases z),s.1 _ _ h.i3 (λ_ z=>by cases z),s.1 _ _ h.i4 (λ_ z=>by cases z),h.kl,h.cn,λj c hc=>?_,⟨h.fp,λps z=>by rw[h.ip]at z;cases z⟩,⟨h.f1,λps z=>by rw[h.i1]at z;cases z⟩,⟨h.f2,λps z=>by rw[h.i2]at z;cases z⟩,⟨h.f3,λps z=>by rw[h.i3]at z;cases z⟩,⟨h.f4,λps z=>by rw[h.i4]at z;cases z⟩,h.n12,h.n32,λb hb=>?_⟩,h.ok⟩⟩
 ·obtain⟨l,x1,x2,x3,x4⟩:=h.cs j c hc;exact⟨l,x1,s.1 _ _ x2 (λ_ z=>by cases z),⟨x3,λps z=>by rw[x2]at z;cases z⟩,x4⟩
 ·cases e:H b with
  | none=>exact absurd e (h.fh b hb.1)
  | some u =>
    rw[s.1 b u e λps z=>hb.2 ps (by rw[e,z])];simp
variable {a:Addr}{xs:List V}
theorem SameN.lst(s:SameN H H')(e:H a=some (.lst xs)):H' a=some (.lst xs):=s.1 _ _ e λ_ z=>by cases z
theorem SameN.seq(s:SameN H H')(h:SqL K H a xs):SqL K H' a xs:=s.same.seq h.noT
variable {ls:List Addr}
theorem All2.sameN{cs:List (List Int)}(h:All2 (IL K H) ls cs)(s:SameN H H'):All2 (IL K H') ls cs:=h.imp λ_ _ (z:SqL K H _ _)=>(show SqL K H' _ _ from s.seq z)
theorem SameN.seqT(s:SameN H H')(h:SqT K H a xs):SqT K H' a xs:=by
 rcases h with(r | ⟨o,r⟩) | h
 ·exact .inl (.inl (s.1 _ _ r λ_ z=>by cases z))
 ·exact .inl (.inr ⟨o,s.1 _ _ r λ_ z=>by cases z⟩)
 ·exact .inr h
theorem TPl.sameN(s:SameN H H'){rs:List (Int×Int)}(h:All2 (TPl K H) ls rs):All2 (TPl K H') ls rs:=h.imp λ_ _ z=>s.seqT z
end L2
namespace M6
open PySem L2 M3 M5 M9
section
variable {φ:Sg->Sg}{cs cs':List (List Int)}{us:List Int}
end
theorem zjg(cs:List (List Int))(us:List Int):(za8 cs us).length<=us.length*us.length:=by
 have h1:=rows_len (zw cs us) us (yu cs us);have h2:=List.length_filterMap_le (λpq=>nb cs us pq.1 pq.2) ((rows (zw cs us) us).zip (rows (zw cs us) us).tail);rw[length_zip]at h2;unfold za8;omega
end M6
namespace M6
open PySem L2 M3 M5
section
variable {cs:List (List Int)}{us d:List Int}
end
end M6
namespace L2
open PySem
end L2
namespace M6
open PySem L2 M3 M5
def bar:Str:=Str.ofString "|"
def sl:Str:=Str.ofString "/"
def blank:Str:=Str.ofString " "
def zkw(p:Int×Int):Str:=tN p.1++sl++tN p.2
def zd0(ms:List Int)(n:Nat):List Str:=(zbf ms n).map zkw
def rowW(p c:Int)(ms:List Int)(n:Nat):List Str:=[tN p,tN c]++[bar]++ms.map tN++[bar]++zd0 ms n
def zjr(p c:Int)(ms:List Int)(n:Nat):Str:=Txt.join blank (rowW p c ms n)
theorem zk2{n:Int}(h:n.natAbs<=990):(tN n).length<=992:=by
 have:=len_str_of_int n;unfold tN;omega
theorem zir:∀{ms:List Int},(∀x∈ms,1<=x/\x<=24)->0<=ms.sum/\ms.sum<=24*ms.length
 | [],_=>by simp
 | x::ms,h=>by
   have h1:=h x (mem_cons_self ..);have h2:=zir (ms:=ms) λy hy=>h y (mem_cons_of_mem _ hy);simp only[List.sum_cons,length_cons];omega
variable {ms:List Int}
theorem zhN(h:∀x∈ms,1<=x/\x<=24)(n:Int):0<=sm ms n/\sm ms n<=24*ms.length:=by
 have h1:=zir (ms:=got ms n) λx hx=>h x (List.mem_filter.mp hx).1;have h2:=zdf ms n;unfold cnt at h2;unfold sm;omega
theorem ziR:sl.length=1:=by decide +kernel
theorem bar_len:bar.length=1:=by decide +kernel
theorem zin(ms:List Int)(n:Nat):zd0 ms (n+1)=zd0 ms n++[tN (cnt ms ((n:Int)+1))++sl++tN (sm ms ((n:Int)+1))]:=by
 unfold zd0;rw[zgu,map_append];rfl
theorem zfT(hl:ms.length<=15)(h:∀x∈ms,1<=x/\x<=24)(n:Int):(tN (cnt ms n)).length<=992/\(tN (sm ms n)).length<=992:=by
 have h1:=zdf ms n;have h2:=zhN h n;exact⟨zk2 (by omega),zk2 (by omega)⟩
theorem zjY(ms:List Int)(n:Nat):(zd0 ms n).length=n:=by unfold zd0;rw[length_map,zdu]
theorem zkV(hl:ms.length<=15)(h:∀x∈ms,1<=x/\x<=24)(n:Nat):∀w∈zd0 ms n,w.length<=2000:=λw hw=>by
 induction n with
 | zero=>unfold zd0 zbf at hw;simp at hw
 | succ n ih =>
   rw[zin]at hw;rcases List.mem_append.mp hw with z | z
   ·exact ih z
   ·rw[List.mem_singleton.mp z,y9,y9,ziR];have:=zfT hl h ((n:Int)+1);omega
theorem zg2(hl:ms.length<=15)(h:∀x∈ms,1<=x/\x<=24){p c:Int}(hp:p.natAbs<=990)(hc:c.natAbs<=1000)(n:Nat):∀w∈rowW p c ms n,w.length<=2000:=λw hw=>by
 unfold rowW at hw;simp only[mem_append,mem_cons,not_mem_nil,or_false,List.mem_map]at hw;have l1:=len_str_of_int p;have l2:=len_str_of_int c;rcases hw with((((rfl | rfl) | rfl) | ⟨x,hx,rfl⟩) | rfl) | hw
 ·unfold tN;omega
 ·unfold tN;omega
 ·rw[bar_len];omega
 ·have:=h x hx;have:=zk2 (n:=x) (by omega);omega
 ·rw[bar_len];omega
 ·exact zkV hl h n w hw
def zas(cs:List (List Int))(us:List Int):List Str:=(rows (zw cs us) us).map λp=>zjr p.1 p.2 (zl cs p.2) us.length
theorem emp_app(y:Str):Str.empty++y=y:=by
 refine PySem.Str.ext' ?_;show(#[]:Array Nat)++y.cps=y.cps;simp
end M6
namespace L2
open PySem
inductive WordOf:V->Str->Prop
 | int {i:Int}:i.natAbs<=100000->WordOf (.int i) (tN i)
 | str {y:Str}:WordOf (.str y) y
theorem zhO:∀{ns:List Int},(∀n∈ns,n.natAbs<=100000)->All2 WordOf (ns.map V.int) (ns.map tN)
 | [],_=>.nil
 | n::ns,h=>.cons (.int (h n (mem_cons_self ..))) (zhO λm hm=>h m (mem_cons_of_mem _ hm))
theorem zfa:∀(ts:List Str),All2 WordOf (ts.map V.str) ts
 | []=>.nil
 | t::ts=>.cons .str (zfa ts)
variable {fin:List V->Hp->Prop}
theorem ze6{K:Frag}{a:Addr}{ls:List Addr}{rs:List (Int×Int)}{f:Int×Int->Str}{c:St}{te:TE}{H:Hp}(hA:SqL K H a (ls.map V.ref))(hR:All2 (TPl K H) ls rs)(hz:rs.length<=1000)
 (hte:∀(p:Int×Int)(H':Hp)(Q:VK),p∈rs->Same H H'->(∀H2,Same H' H2->Q (.str (f p)) H2)->te (some (.int p.1)::some (.int p.2)::c) H' Q)
 (hd:∀(H':Hp),Same H H'->fin ((rs.map f).map V.str) H'):zf5 K (Itl K a) c tYes te H fin:=by
 have hln:=zt;have hl:=hR.length;refine zgA (xs:=ls.map V.ref) (λi ys H3=>Same H H3/\ys=((rs.take i).map f).map V.str) ⟨Same.refl _,rfl⟩ ?_ (by rw[length_map];omega) ?_ ?_
 ·rintro i ys H3 hi ⟨s3,rfl⟩;refine⟨s3.seq hA,?_⟩;rw[length_map,length_map,length_take];omega
 ·rintro i x ys H3 hx ⟨s3,rfl⟩;obtain⟨p,ep,rfl⟩:=zah hx;obtain⟨m,em,rm⟩:=hR.getL ep;refine⟨p,.int m.1,.int m.2,rfl,s3.seqT rm,hte m H3 _ (mem_of_getElem? em) s3 λH4 s4=>⟨s3.trans s4,?_⟩⟩;rw[take_succ,em,map_append,map_append];rfl
 ·rintro ys H3 ⟨s3,rfl⟩;rw[length_map,hl,take_length];exact hd H3 s3
theorem comp_strN{K:Frag}{a:Addr}{us:List Int}{f:Int->Str}{c:St}{te:TE}{H:Hp}(hA:SqL K H a (us.map V.int))(hz:us.length<=1000)
 (hte:∀(x:Int)(H':Hp)(Q:VK),x∈us->Same H H'->(∀(H2:Hp),Same H' H2->Q (.str (f x)) H2)->te (some (.int x)::c) H' Q)
 (hd:∀(H':Hp),Same H H'->fin ((us.map f).map V.str) H'):zd1 (Itl K a) c tYes te H fin:=by
 have hln:=zt;refine yb (xs:=us.map V.int) (λk ys H5=>ys=((us.take k).map f).map V.str/\Same H H5) ⟨rfl,Same.refl _⟩ ?_ (by rw[length_map];omega) ?_ ?_
 ·rintro k ys H5 hk ⟨rfl,s5⟩;refine⟨s5.seq hA,?_⟩;rw[length_map,length_map,length_take];omega
 ·rintro k x ys H5 hx ⟨rfl,s5⟩;obtain⟨hk,rfl⟩:=yF hx;refine hte _ H5 _ (wN hk) s5 λH2 s2=>⟨?_,s5.trans s2⟩;rw[yE hk,map_append,map_append];rfl
 ·rintro ys H5 ⟨rfl,s5⟩;rw[length_map,take_length];exact hd H5 s5
theorem LamS.put{P:Addr}{q:Str}{H:Hp}(h:LamS P q H){l:Addr}{xs:List V}{o:HO}(e:H l=some (.lst xs)):LamS P q (upd H l o):=by
 obtain⟨ps,e1,e2,e3⟩:=h;refine⟨ps,?_,e2,λpos cv hc=>?_⟩
 ·rw[zh (yc e1 e λz=>by cases z)];exact e1
 ·obtain⟨c',h1,h2⟩:=e3 pos cv hc;refine⟨c',h1,?_⟩;rw[zh (yc h2 e λz=>by cases z)];exact h2
end L2
namespace M6
open PySem L2 M3 M5
theorem rows_ne{cs:List (List Int)}{us:List Int}(h:us≠[]):rows (zw cs us) us≠[]:=λz=>by
 have h1:=one_in (cs:=cs) h;rw[map_front]at h1;obtain⟨c,hc,e⟩:=List.mem_map.mp h1;have:(plc cs us c,c)∈rows (zw cs us) us:=by
  rw[zkp];refine List.mem_flatMap.mpr ⟨0,List.mem_range.mpr (length_pos_of_mem hc),?_⟩;unfold blk;exact List.mem_map.mpr ⟨c,List.mem_filter.mpr ⟨hc,decide_eq_true (by unfold plc;rw[e];rfl)⟩,rfl⟩
 rw[z]at this;cases this
end M6
namespace L2
open PySem
def DeedN(G:Addr->Prop)(H:Hp)(G':Addr->Prop)(H':Hp):Prop:=∀b o,H b=some o->(∀ps,o ≠ .tbl ps)->¬G b->H' b=some o/\¬G' b
variable {G2:Addr->Prop}
theorem DeedN.trans{G G1:Addr->Prop}{H H1 H2:Hp}(a:DeedN G H G1 H1)(b:DeedN G1 H1 G2 H2):DeedN G H G2 H2:=λc o e n m=>b c o (a c o e n m).1 n (a c o e n m).2
theorem DeedN.same{G:Addr->Prop}{H H':Hp}(s:Same H H'):DeedN G H G H':=λb o e _ n=>⟨s b o e,n⟩
theorem DeedN.sameN{G:Addr->Prop}{H H':Hp}(s:SameN H H'):DeedN G H G H':=λb o e t n=>⟨s.1 b o e t,n⟩
def KB:HO->Prop
 | .lst _=>True
 | .ins _ _ _=>True
 | .dK _=>True
 | _=>False
theorem KB.tbl{o:HO}(h:KB o):∀ps,o ≠ .tbl ps:=λps z=>by rw[z]at h;exact h
theorem SheetAt.kinds{K:Frag}{H:Hp}{p:Addr}{F:Addr->Prop}{S:Sh}(h:SheetAt K H p F S):SheetAt K H p (λb=>F b/\∃o,H b=some o/\KB o) S:=by
 obtain⟨dx,a1,a2,a3,d,kvs,h⟩:=h;refine⟨dx,a1,a2,a3,d,kvs,⟨⟨h.ip,h.i1,h.i2,h.i3,h.i4,h.kl,h.cn,λj c hc=>?_,⟨h.fp,_,h.ip,trivial⟩,⟨h.f1,_,h.i1,trivial⟩,⟨h.f2,_,h.i2,trivial⟩,⟨h.f3,_,h.i3,trivial⟩,⟨h.f4,_,h.i4,trivial⟩,h.n12,h.n32,λb hb=>?_⟩,h.ok⟩⟩
 ·obtain⟨l,x1,x2,x3,x4⟩:=h.cs j c hc;exact⟨l,x1,x2,⟨x3,_,x2,trivial⟩,x4⟩
 ·obtain⟨_,o,e,_⟩:=hb;rw[e];simp
structure St7 (K:Frag) (H:Hp) (G:Addr->Prop) (S:Sh) (st n u g k x:Addr) (F:Addr->Prop) (ls:List Addr):Prop where
 sh:SheetAt K H x F S
 hst:H st=some (.lst [.ref n,.ref u,.ref g,.ref k,.ref x,.int S.taken,.bl S.shut])
 hn:H n=some (.lst (S.panel.map V.str))
 nn:¬G n
 hu:H u=some (.lst (S.couples.map V.int))
 hg:H g=some (.lst (S.struck.map V.int))
 hr:Rows F H k ls S.rows
 fst:¬F st
 fu:¬F u
 fg:¬F g
 ug:u≠g
 lg:∀l∈ls,l≠g/\l≠u
 gF:∀b,F b->G b
 gst:G st
 gu:G u
 gg:G g
 gk:G k
 gl:∀l∈ls,G l
 kd:∀b,G b->∃o,H b=some o/\KB o
variable {K:Frag}{H H':Hp}{G G':Addr->Prop}{S:Sh}{st n u g k x:Addr}{F:Addr->Prop}{ls:List Addr}
theorem St7.same(h:St7 K H G S st n u g k x F ls)(s:Same H H'):St7 K H' G S st n u g k x F ls :=
 ⟨h.sh.same s,s _ _ h.hst,s _ _ h.hn,h.nn,s _ _ h.hu,s _ _ h.hg,h.hr.same s,h.fst,h.fu,h.fg,h.ug,h.lg,h.gF,h.gst,h.gu,h.gg,h.gk,h.gl,λb z=>let ⟨o,e,t⟩:=h.kd b z;⟨o,s _ _ e,t⟩⟩
theorem St7.keep(h:St7 K H G S st n u g k x F ls)(s:∀b o,H b=some o->(∀ps,o ≠ .tbl ps)->G b->H' b=some o)(hn:H' n=some (.lst (S.panel.map V.str))):St7 K H' G S st n u g k x F ls:=by
 have put:∀{a:Addr}{xs:List V},G a->H a=some (.lst xs)->H' a=some (.lst xs):=λ{a xs} ga e=>s _ _ e (λ_ z=>by cases z) ga;refine⟨h.sh.off λb fb=>?_,put h.gst h.hst,hn,h.nn,put h.gu h.hu,put h.gg h.hg,⟨put h.gk h.hr.1,h.hr.2.1,h.hr.2.2.impM λl hl c z=>⟨put (h.gl l hl) z.1,z.2⟩⟩,h.fst,h.fu,h.fg,h.ug,h.lg,h.gF,h.gst,h.gu,h.gg,h.gk,h.gl,λb z=>?_⟩
 ·obtain⟨o,e,t⟩:=h.kd b (h.gF b fb);rw[e];exact s b o e t.tbl (h.gF b fb)
 ·obtain⟨o,e,t⟩:=h.kd b z;exact⟨o,s b o e t.tbl z,t⟩
theorem St7.sameN(h:St7 K H G S st n u g k x F ls)(s:SameN H H'):St7 K H' G S st n u g k x F ls:=h.keep (λb o e t _=>s.1 b o e t) (s.lst h.hn)
theorem St7.beside(h:St7 K H G2 S st n u g k x F ls)(hd:∀b,G2 b->¬G b)(hn:¬G n)(d:DeedN G H G' H'):St7 K H' G2 S st n u g k x F ls/\∀b,G2 b->¬G' b:=by
 refine⟨h.keep (λb o e t z=>(d b o e t (hd b z)).1) (d _ _ h.hn (λ_ z=>by cases z) hn).1,λb z=>?_⟩;obtain⟨o,e,t⟩:=h.kd b z;exact(d b o e t.tbl (hd b z)).2
theorem LamS.deed{P:Addr}{q:Str}(h:LamS P q H)(kd:∀b,G b->∃o,H b=some o/\KB o)(d:∀b o,H b=some o->¬G b->H' b=some o):LamS P q H':=by
 obtain⟨ps,e,t,c⟩:=h;have no:∀{b:Addr}{o:HO},H b=some o->¬KB o->¬G b:=λ{b o} e n z=>by
  obtain⟨o',e',t'⟩:=kd b z;rw[e]at e';cases e';exact n t'
 refine⟨ps,d _ _ e (no e λz=>z),t,λpos cv hc=>?_⟩;obtain⟨c',rfl,ec⟩:=c pos cv hc;exact⟨c',rfl,d _ _ ec (no ec λz=>z)⟩
end L2
namespace M15
open M14
def idx(key:Nat->Int)(n:Nat):List Nat:=(List.range n).flatMap fun(i:Nat)=>(List.range n).filter λk=>decide (key k=(i:Int)+1)
theorem zk4(key:Nat->Int)(n:Nat):(idx key n).Pairwise (R key):=by
 unfold idx;rw[List.pairwise_flatMap];refine⟨λi _=>?_,?_⟩
 ·rw[List.pairwise_filter];refine List.Pairwise.imp ?_ (pairwise_lt_range (n:=n));intro a b l ha hb;have ha:=of_decide_eq_true ha;have hb:=of_decide_eq_true hb;exact .inr ⟨by omega,l⟩
 ·refine List.Pairwise.imp ?_ (pairwise_lt_range (n:=n));intro i j l x hx y hy;have hx:=of_decide_eq_true (List.mem_filter.mp hx).2;have hy:=of_decide_eq_true (List.mem_filter.mp hy).2;exact .inl (by omega)
theorem idx_mem(key:Nat->Int)(n:Nat)(h:∀k,k<n->1<=key k/\key k<=n)(x:Nat):x∈idx key n↔x∈List.range n:=by
 unfold idx;rw[List.mem_flatMap];constructor
 ·rintro ⟨i,_,z⟩;exact(List.mem_filter.mp z).1
 ·intro z;have hx:=List.mem_range.mp z;have:=h x hx;exact⟨(key x-1).toNat,List.mem_range.mpr (by omega),List.mem_filter.mpr ⟨z,decide_eq_true (by omega)⟩⟩
variable {key:Nat->Int}
theorem R.asymm{a b:Nat}(h:R key a b)(k:R key b a):False:=by
 rcases h with h | h <;> rcases k with k | k <;> omega
theorem one{key:Nat->Int}:∀{l m:List Nat},l.Pairwise (R key)->m.Pairwise (R key)->(∀x,x∈l↔x∈m)->l=m
 | [],[],_,_,_=>rfl
 | [],b::m,_,_,h=>absurd ((h b).mpr (mem_cons_self ..)) (not_mem_nil)
 | a::l,[],_,_,h=>absurd ((h a).mp (mem_cons_self ..)) (not_mem_nil)
 | a::l,b::m,hl,hm,h=>by
   rw[List.pairwise_cons]at hl hm;have e:a=b:=by
    rcases List.mem_cons.mp ((h a).mp (mem_cons_self ..))with e | z
    ·exact e
    ·rcases List.mem_cons.mp ((h b).mpr (mem_cons_self ..))with e | y
     ·exact e.symm
     ·exact(R.asymm (hm.1 a z) (hl.1 b y)).elim
   subst e;refine congrArg _ (one hl.2 hm.2 λx=>?_);have nl:∀{l:List Nat},(∀y,y∈l->R key a y)->a∉l:=λq z=>R.asymm (q a z) (q a z);constructor
   ·intro z;rcases List.mem_cons.mp ((h x).mp (mem_cons_of_mem _ z))with e | y
    ·subst e;exact(nl hl.1 z).elim
    ·exact y
   ·intro z;rcases List.mem_cons.mp ((h x).mpr (mem_cons_of_mem _ z))with e | y
    ·subst e;exact(nl hm.1 z).elim
    ·exact y
variable {p:Array Nat}
theorem zkl{n:Nat}(h:I key n p n):p.toList.Pairwise (R key):=by
 rw[List.pairwise_iff_getElem];intro i j hi hj l;have hz:=h.1.size;have e:∀(k:Nat)(hk:k<p.toList.length),p.toList[k]=g p k:=λk hk=>by
  have hk':k<p.size:=by simpa using hk
  show _=p.getD k 0;simp[Array.getD,hk']
 rw[e i hi,e j hj];refine h.2 i j l ?_;rw[<-hz]
 simpa using hj
theorem is_idx{n:Nat}(h:I key n p n)(hk:∀k,k<n->1<=key k/\key k<=n):p.toList=idx key n:=by
 refine one (zkl h) (zk4 key n) λx=>?_;rw[idx_mem key n hk];have:=h.1.pm.toList.mem_iff (a:=x)
 simpa using this
theorem zip_get(ps us:List Int)(h:ps.length=us.length):(List.range us.length).map (λk=>(ps.getD k 0,us.getD k 0))=ps.zip us:=by
 refine ext_getElem (by simp[h]) λi h1 h2=>?_;have hi:i<us.length:=by simpa using h1
 have hp:i<ps.length:=by omega
 simp[hi,hp]
theorem rows_of{ps us:List Int}(hl:ps.length=us.length)(hk:∀k,k<us.length->1<=ps.getD k 0/\ps.getD k 0<=us.length)(h:I (λk=>ps.getD k 0) us.length p us.length):
 p.toList.map (λk=>(ps.getD k 0,us.getD k 0))=M5.rows ps us:=by
 rw[is_idx h hk];unfold idx M5.rows;rw[List.map_flatMap];congr 1;funext i;rw[<-zip_get ps us hl,filter_map];rfl
end M15
namespace L2
open PySem PySem.W
theorem Refs.noT{K:Frag}{H:Hp}{a:Addr}{cs:List (List Int)}(h:Refs K (IL K) H a cs):Refs K (IL K) (L2.noT H) a cs:=by
 obtain⟨ls,h1,h2⟩:=h;exact⟨ls,h1.noT,h2.imp λ_ _ r=>SqL.noT r⟩
theorem zkg{K:Frag}{H:Hp}{ts:List Addr}{ps us:List Int}(hl:ps.length=us.length)(pr:Prs H ts ((ps.map V.int).zip (us.map V.int))):∀(l:List Nat),(∀i∈l,i<us.length)->All2 (TPl K H) (l.map λi=>ts.getD i 0) (l.map λi=>(ps.getD i 0,us.getD i 0))
 | [],_=>.nil
 | i::l,h=>by
   have hi:=h i (mem_cons_self ..);have lt:ts.length=us.length:=by rw[pr.length,length_zip,length_map,length_map];omega
   refine .cons ?_ (zkg hl pr l λj hj=>h j (mem_cons_of_mem _ hj));have ht:ts[i]? = some (ts.getD i 0):=by rw[getD_eq_getElem?_getD,getElem?_eq_getElem (by omega)];rfl
   obtain⟨⟨pa,pb⟩,ep,e⟩:=pr.get i _ ht;rw[List.getElem?_zip_eq_some]at ep;obtain⟨e1,e2⟩:=ep;rw[getElem?_map,getElem?_eq_getElem (by omega)]at e1 e2;cases e1;cases e2;have h1:ps.getD i 0=ps[i]:=by rw[getD_eq_getElem?_getD,getElem?_eq_getElem (by omega)];rfl
   have h2:us.getD i 0=us[i]:=by rw[getD_eq_getElem?_getD,getElem?_eq_getElem (by omega)];rfl
   show SqT K H (ts.getD i 0) [.int (ps.getD i 0),.int (us.getD i 0)];rw[h1,h2];exact .inl (.inl e)
end L2
namespace M6
open M5
theorem zjd(xs:List Sg):zC xs xs=false:=by
 induction xs with
 | nil=>rfl
 | cons x xs ih=>rw[zC,if_pos rfl];exact ih
theorem zhx(a:List Int)(n:Nat):zV a a n=false:=zjd _
theorem ziq{α:Type}{p:α->Bool}:∀{l:List α}{x:α},x∈l->p x=false->(l.filter p).length<l.length
 | y::l,x,h,hp=>by
   rcases List.mem_cons.mp h with e | h
   ·subst e;rw[filter_cons_of_neg (by rw[hp];exact Bool.false_ne_true),length_cons];exact Nat.lt_succ_of_le (length_filter_le _ _)
   ·have:=ziq h hp;rw[filter_cons];split
    ·rw[length_cons,length_cons];omega
    ·rw[length_cons];omega
theorem zkP(cs:List (List Int))(us:List Int):∀k,k<us.length->1<=(zw cs us).getD k 0/\(zw cs us).getD k 0<=us.length:=λk hk=>by
 have e:(zw cs us).getD k 0=1+((us.filter λd=>zV (zl cs d) (zl cs us[k]) us.length).length:Int):=by
  unfold zw;rw[getD_eq_getElem?_getD,getElem?_map,getElem?_eq_getElem hk];rfl
 have:=ziq (p:=λd=>zV (zl cs d) (zl cs us[k]) us.length) (getElem_mem hk) (zhx _ _);rw[e];omega
end M6
namespace M6
open PySem L2 M3 M5
theorem olt_trans{x y z:Sg}(h:olt x y=true)(k:olt y z=true):olt x z=true:=by
 cases x with
 | none=>cases h
 | some p =>
   cases y with
   | none=>cases k
   | some q =>
     cases z with
     | none=>rfl
     | some r =>
       simp only[olt,Bool.or_eq_true,Bool.and_eq_true,decide_eq_true_eq]at h k ⊢;omega
theorem olt_ne{x y:Sg}(h:olt x y=true):x≠y:=λe=>by
 subst e;cases x with
 | none=>cases h
 | some p=>simp only[olt,Bool.or_eq_true,Bool.and_eq_true,decide_eq_true_eq]at h;omega
theorem olt_total{x y:Sg}(h:x≠y):olt x y=true\/olt y x=true:=by
 cases x with
 | none=>cases y with
   | none=>exact absurd rfl h
   | some q=>exact .inr rfl
 | some p=>cases y with
   | none=>exact .inl rfl
   | some q =>
     obtain⟨p1,p2⟩:=p;obtain⟨q1,q2⟩:=q;have:¬(p1=q1/\p2=q2):=λz=>h (by rw[z.1,z.2]);simp only[olt,Bool.or_eq_true,Bool.and_eq_true,decide_eq_true_eq];omega
theorem zeN:∀{xs ys zs:List Sg},zC xs ys=true->zC ys zs=true->zC xs zs=true
 | [],_,_,h,_=>by cases h
 | _::_,[],_,h,_=>by cases h
 | _::_,_::_,[],_,k=>by cases k
 | x::xs,y::ys,z::zs,h,k=>by
   rw[zC]at h k ⊢;by_cases c:x=y
   ·rw[if_pos c]at h;subst c;by_cases d:x=z
    ·rw[if_pos d]at k ⊢;exact zeN h k
    ·rw[if_neg d]at k ⊢;exact k
   ·rw[if_neg c]at h;by_cases d:y=z
    ·subst d;rw[if_neg c];exact h
    ·rw[if_neg d]at k;have:=olt_trans h k;rw[if_neg (olt_ne this)];exact this
theorem zeS:∀{xs ys:List Sg},xs.length=ys.length->xs≠ys->zC xs ys=true\/zC ys xs=true
 | [],[],_,h=>absurd rfl h
 | [],_::_,l,_=>by cases l
 | _::_,[],l,_=>by cases l
 | x::xs,y::ys,l,h=>by
   rw[zC,zC];by_cases c:x=y
   ·rw[if_pos c,if_pos c.symm];exact zeS (by simpa using l) λz=>h (by rw[c,z])
   ·rw[if_neg c,if_neg λz=>c z.symm];exact olt_total c
theorem zhj{α:Type}{p q:α->Bool}:∀{l:List α},(∀x∈l,p x=true->q x=true)->(l.filter p).length<=(l.filter q).length
 | [],_=>le_refl _
 | x::l,h=>by
   have ih:=zhj (p:=p) (q:=q) λy hy=>h y (mem_cons_of_mem _ hy);rw[filter_cons,filter_cons];cases hp:p x with
   | false =>
     cases hq:q x with
     | false=>exact ih
     | true=>exact Nat.le_succ_of_le ih
   | true =>
     rw[h x (mem_cons_self ..) hp];exact Nat.succ_le_succ ih
theorem zfv{α:Type}{p q:α->Bool}:∀{l:List α}{x:α},x∈l->p x=false->q x=true->(∀x∈l,p x=true->q x=true)->(l.filter p).length<(l.filter q).length
 | y::l,x,hx,hp,hq,h=>by
   have le:=zhj (p:=p) (q:=q) λy hy=>h y (mem_cons_of_mem _ hy);rw[filter_cons,filter_cons];rcases List.mem_cons.mp hx with e | hx
   ·subst e;rw[hp,hq];exact Nat.lt_succ_of_le le
   ·have ih:=zfv hx hp hq λy hy=>h y (mem_cons_of_mem _ hy);cases hp':p y with
    | false =>
      cases hq':q y with
      | false=>exact ih
      | true=>exact lt_succ_of_lt ih
    | true =>
      rw[h y (mem_cons_self ..) hp'];exact Nat.succ_lt_succ ih
variable {cs:List (List Int)}{us:List Int}{c d:Int}
theorem zkA(hc:c∈us)(h:zV (zl cs c) (zl cs d) us.length=true):yG cs us c<yG cs us d:=by
 unfold yG;have:=zfv (p:=λe=>zV (zl cs e) (zl cs c) us.length) (q:=λe=>zV (zl cs e) (zl cs d) us.length) hc (zhx _ _) h λx _ hx=>zeN hx h;omega
theorem place_eq(hc:c∈us)(hd:d∈us)(h:yG cs us c=yG cs us d):wm (zl cs c) us.length=wm (zl cs d) us.length:=by
 by_cases e:wm (zl cs c) us.length=wm (zl cs d) us.length
 ·exact e
 ·rcases zeS (by rw[zc9,zc9]) e with z | z
  ·have:=zkA (d:=d) hc z;omega
  ·have:=zkA (d:=c) hd z;omega
theorem ziJ{a:List Int}{n:Nat}(ha:∀x∈a,x<=n){k:Nat}(h:n<=k):sg a k=sg a n:=by
 have e:got a k=got a n:=by
  unfold got;exact filter_congr λx hx=>by have:=ha x hx;rw[decide_eq_true (by omega),decide_eq_true this]
 unfold sg cnt sm;rw[e]
variable {r:Option (Nat×Str)}
theorem zkj{a b:List Int}{n m:Nat}(ha:∀x∈a,x<=n)(hb:∀x∈b,x<=n)(h1:1<=n)(hm:n<=m)(h:yT a b m r):yT a b n r:=by
 cases r with
 | none=>exact λk k1 k2=>h k k1 (by omega)
 | some r =>
   refine⟨h.1,?_,h.2.2.1,h.2.2.2⟩;by_cases c:r.1<=n
   ·exact c
   ·refine absurd ?_ h.2.2.2.1;rw[ziJ ha (by omega),ziJ hb (by omega)];exact h.2.2.1 n h1 (by omega)
theorem nb_part(hp:∀d∈cs,d.Perm us)(h1:1<=us.length)(h24:us.length<=24)(hc:c∈us)(hd:d∈us)(h:yT (zl cs c) (zl cs d) 24 r):
 nb cs us (yG cs us c,c) (yG cs us d,d)=r.map λr=>(c,d,(r.1:Int),r.2):=by
 have h':=zkj (λx hx=>(yx hp hc x hx).2) (λx hx=>(yx hp hd x hx).2) h1 h24 h;have e:=zaY h' (zcz (zl cs c) (zl cs d) us.length);unfold nb;dsimp only;by_cases z:yG cs us c=yG cs us d
 ·rw[if_pos z];have es:=place_eq hc hd z;have:yT (zl cs c) (zl cs d) us.length none:=λk k1 k2=>by
   have:=congrArg (λl=>l[k-1]?) es;unfold wm at this;simp only[getElem?_map]at this;rw[getElem?_range (by omega)]at this;have ek:((k-1:Nat):Int)+1=(k:Int):=by omega
   simpa [ek] using this
  rw[zaY h' this];rfl
 ·rw[if_neg z,e]
end M6
set_option maxHeartbeats 4000000
namespace Pp
open PySem L2
def top(i:Nat):Stmt:=PySem.Challenge.pw_panelplace_k48_whole_two_sheets_apart.main.body.getD i (.Pass ⟨0,0,0,0⟩)
structure Txt (K:Frag) (mg:Str->Option Value):Prop where
 b_all:mg "all"=none
 b_bool:mg "bool"=none
 b_int:mg "int"=none
 b_isinstance:mg "isinstance"=none
 b_len:mg "len"=none
 b_list:mg "list"=none
 b_max:mg "max"=none
 b_min:mg "min"=none
 b_range:mg "range"=none
 b_set:mg "set"=none
 b_sorted:mg "sorted"=none
 b_str:mg "str"=none
 b_sum:mg "sum"=none
 b_tuple:mg "tuple"=none
 b_zip:mg "zip"=none
 c_MOST_COUPLES:∃t,mg "MOST_COUPLES"=some (.int 24 t)
 c_MOST_JUDGES:∃t,mg "MOST_JUDGES"=some (.int 15 t)
 c_MOST_NUMBER:∃t,mg "MOST_NUMBER"=some (.int 999 t)
 c_MOST_SIGNS:∃t,mg "MOST_SIGNS"=some (.int 8 t)
 c_MOST_CARDS:∃t,mg "MOST_CARDS"=some (.int 200 t)
 x_BadCouples:∃C,zc3 K "BadCouples" C/\mg "BadCouples"=some (.ref C)/\ExC K C
 x_BadJudges:∃C,zc3 K "BadJudges" C/\mg "BadJudges"=some (.ref C)/\ExC K C
 x_SheetSealed:∃C,zc3 K "SheetSealed" C/\mg "SheetSealed"=some (.ref C)/\ExC K C
 x_UnknownJudge:∃C,zc3 K "UnknownJudge" C/\mg "UnknownJudge"=some (.ref C)/\ExC K C
 x_BadCard:∃C,zc3 K "BadCard" C/\mg "BadCard"=some (.ref C)/\ExC K C
 x_TooManyCards:∃C,zc3 K "TooManyCards" C/\mg "TooManyCards"=some (.ref C)/\ExC K C
 x_UnknownCouple:∃C,zc3 K "UnknownCouple" C/\mg "UnknownCouple"=some (.ref C)/\ExC K C
 x_LastCouple:∃C,zc3 K "LastCouple" C/\mg "LastCouple"=some (.ref C)/\ExC K C
 x_NoCard:∃C,zc3 K "NoCard" C/\mg "NoCard"=some (.ref C)/\ExC K C
 x_AtTop:∃C,zc3 K "AtTop" C/\mg "AtTop"=some (.ref C)/\ExC K C
 cl_Sheet:Cls K (zH K "Sheet")
 n_Sheet_standing:NoAttr K (zH K "Sheet") "standing"
 n_Sheet_struck_so_far:NoAttr K (zH K "Sheet") "struck_so_far"
 n_Sheet_panel:NoAttr K (zH K "Sheet") "panel"
 n_Sheet_card_by_judge:NoAttr K (zH K "Sheet") "card_by_judge"
 n_Sheet_taken_so_far:NoAttr K (zH K "Sheet") "taken_so_far"
 n_Sheet_sealed:NoAttr K (zH K "Sheet") "sealed"
abbrev zcX:Stmt:=wg (top 32) 10
theorem zhb:FnScope ["self"] ["self"] (zf zcX):=scM
abbrev zaq:Stmt:=wg (top 32) 11
theorem ze8:FnScope ["self"] ["self"] (zf zaq):=scM
abbrev yO:Stmt:=wg (top 32) 12
theorem zck:FnScope ["self"] ["self"] (zf yO):=scM
abbrev yr:Stmt:=wg (top 32) 13
abbrev zK:List Str:=["self","judge"]
theorem za4:FnScope ["self","judge"] zK (zf yr):=scM
abbrev zbj:Stmt:=wg (top 32) 4
abbrev zy:List Str:=["self"]
theorem zfV:FnScope ["self"] zy (zf zbj):=scM
abbrev zb3:Stmt:=wg (top 32) 5
theorem zgF:FnScope ["self"] ["self"] (zf zb3):=scM
abbrev zbX:Stmt:=wg (top 32) 6
theorem zgN:FnScope ["self"] ["self"] (zf zbX):=scM
abbrev zar:Stmt:=wg (top 32) 7
abbrev zQ:List Str:=["self"]
theorem zgP:FnScope ["self"] zQ (zf zar):=scM
abbrev zdN:Stmt:=top 14
abbrev zaO:List Str:=["card","couples"]
theorem zic:FnScope ["card","couples"] zaO (zf zdN):=scM
abbrev zfW:Stmt:=top 15
abbrev zdU:List Str:=["card","couple"]
theorem zk3:FnScope ["card","couple"] zdU (zf zfW):=scM
abbrev wy:Stmt:=top 16
abbrev wl:List Str:=["card","couple"]
theorem zfs:FnScope ["card","couple"] wl (zf wy):=scM
abbrev zg7:Stmt:=top 17
abbrev zeE:List Str:=["card","couple"]
theorem zf9:FnScope ["card","couple","place","passed"] zeE (zf zg7):=scM
abbrev zcL:Stmt:=top 25
theorem zho:FnScope ["couple"] ["couple"] (zf zcL):=scM
abbrev zb8:Stmt:=top 27
theorem zgE:FnScope ["sign"] ["sign"] (zf zb8):=scM
abbrev zcP:Stmt:=top 28
abbrev yU:List Str:=["things","most"]
theorem zg4:FnScope ["things","most"] yU (zf zcP):=scM
abbrev zdz:Stmt:=top 29
theorem zii:FnScope ["things"] ["things"] (zf zdz):=scM
abbrev zcQ:Stmt:=top 34
theorem zhF:FnScope ["many"] ["many"] (zf zcQ):=scM
abbrev zdl:Stmt:=top 38
abbrev za6:List Str:=["marks","number"]
theorem zks:FnScope ["marks","number"] za6 (zf zdl):=scM
abbrev zep:Stmt:=top 67
abbrev yL:List Str:=["_law_found"]
theorem ziN:FnScope ["_law_found"] yL (zf zep):=scM
abbrev zhR:Stmt:=top 68
abbrev zeF:List Str:=["_law_script","_law_k"]
theorem sc_law_at:FnScope ["_law_script","_law_k"] zeF (zf zhR):=scM
abbrev zew:Stmt:=top 70
abbrev zat:List Str:=["_law_found","_law_due"]
theorem zfy:FnScope ["_law_found","_law_due","_law_k"] zat (zf zew):=scM
abbrev zfY:Stmt:=top 74
abbrev zb7:List Str:=["_law_cell","_law_place"]
theorem zhE:FnScope ["_law_cell","_law_place","_law_once"] zb7 (zf zfY):=scM
abbrev zaJ:Stmt:=top 75
abbrev zeq:List Str:=["_law_cell","_law_many","_law_gap"]
abbrev zao:List Str:=["_law_cell","_law_many"]
theorem zd6:FnScope zeq zao (zf zaJ):=scM
abbrev zbt:Stmt:=top 76
abbrev zeQ:List Str:=["_law_cell","_law_many","_law_letters","_law_size","_law_spot","_law_ends"]
abbrev zaI:List Str:=["_law_cell","_law_many"]
theorem wM:FnScope zeQ zaI (zf zbt):=scM
abbrev zcF:Stmt:=top 79
abbrev ww:List Str:=["_law_cards","_law_couple"]
theorem ziX:FnScope ["_law_cards","_law_couple"] ww (zf zcF):=scM
abbrev zeI:Stmt:=top 80
abbrev zgY:List Str:=["_law_marks_here","_law_last","_law_key_here","_law_number","_law_got"]
abbrev zdT:List Str:=["_law_marks_here","_law_last"]
theorem zdO:FnScope zgY zdT (zf zeI):=scM
abbrev ze2:Stmt:=top 82
abbrev za2:List Str:=["_law_spots_here","_law_couples_here"]
theorem zcw:FnScope ["_law_spots_here","_law_couples_here","_law_rows_here","_law_place","_law_k"] za2 (zf ze2):=scM
abbrev zcd:Stmt:=top 83
abbrev zex:List Str:=["_law_one","_law_other","_law_last","_law_number","_law_got","_law_had"]
abbrev zct:List Str:=["_law_one","_law_other","_law_last"]
theorem zcq:FnScope zex zct (zf zcd):=scM
abbrev zaH:Stmt:=top 86
abbrev zeb:List Str:=["_law_card_here","_law_couple"]
abbrev zal:List Str:=["_law_card_here","_law_couple"]
theorem zg9:FnScope zeb zal (zf zaH):=scM
abbrev zcG:Stmt:=top 87
abbrev zbs:List Str:=["_law_things"]
theorem ziP:FnScope ["_law_things"] zbs (zf zcG):=scM
abbrev zbO:Stmt:=top 88
abbrev zeR:List Str:=["_law_marks_here","_law_last","_law_steps","_law_number","_law_got"]
abbrev zaS:List Str:=["_law_marks_here","_law_last"]
theorem zaP:FnScope zeR zaS (zf zbO):=scM
abbrev zcn:Stmt:=top 92
abbrev zfL:List Str:=["_law_cards","_law_who","_law_k","_law_card_here","_law_up"]
abbrev zbJ:List Str:=["_law_cards","_law_who","_law_k"]
theorem zdS:FnScope zfL zbJ (zf zcn):=scM
abbrev zcA:Stmt:=top 96
abbrev zfS:List Str:=["_law_sheet","_law_couples_here","_law_names"]
abbrev zbw:List Str:=["_law_sheet","_law_couples_here","_law_names"]
theorem zjp:FnScope zfS zbw (zf zcA):=scM
abbrev zbk:Stmt:=wg (top 32) 1
abbrev wA:List Str:=["self","judge","card"]
theorem zf0:FnScope ["self","judge","card"] wA (zf zbk):=scM
abbrev zb2:Stmt:=wg (top 32) 2
abbrev wS:List Str:=["self","couple"]
theorem zdW:FnScope ["self","couple","judge"] wS (zf zb2):=scM
abbrev zdP:Stmt:=wg (top 32) 3
theorem zhZ:FnScope ["self"] ["self"] (zf zdP):=scM
abbrev zbn:Stmt:=wg (top 32) 9
abbrev yd:List Str:=["self","judge"]
theorem zgj:FnScope ["self","judge"] yd (zf zbn):=scM
abbrev zaw:Stmt:=top 23
theorem zgL:FnScope ["couples"] ["couples"] (zf zaw):=scM
abbrev zcp:Stmt:=top 26
theorem zjc:FnScope ["judge"] ["judge"] (zf zcp):=scM
abbrev zdd:Stmt:=top 35
abbrev wW:List Str:=["cards","couple"]
theorem zj0:FnScope ["cards","couple"] wW (zf zdd):=scM
abbrev zgl:Stmt:=top 36
abbrev wV:List Str:=["marks","number"]
theorem sc_granted:FnScope ["marks","number"] wV (zf zgl):=scM
abbrev zcW:Stmt:=top 37
abbrev yX:List Str:=["marks","number"]
theorem zhl:FnScope ["marks","number"] yX (zf zcW):=scM
abbrev zb0:Stmt:=top 39
theorem zgM:FnScope ["marks"] ["marks"] (zf zb0):=scM
abbrev wv:Stmt:=top 59
abbrev zz:List Str:=["sheet","least"]
theorem zdZ:FnScope ["sheet","least"] zz (zf wv):=scM
abbrev zfc:Stmt:=top 69
abbrev wZ:List Str:=["_law_found","_law_due"]
theorem zgx:FnScope ["_law_found","_law_due","_law_k"] wZ (zf zfc):=scM
abbrev zd5:Stmt:=top 72
abbrev zby:List Str:=["_law_found","_law_due"]
theorem zfx:FnScope ["_law_found","_law_due","_law_k"] zby (zf zd5):=scM
abbrev zd9:Stmt:=top 73
abbrev zbI:List Str:=["_law_found","_law_due"]
theorem zdr:FnScope ["_law_found","_law_due","_law_k","_law_j"] zbI (zf zd9):=scM
abbrev ze3:Stmt:=top 77
abbrev zcu:List Str:=["_law_cell","_law_couples_here","_law_style"]
theorem yk:FnScope ["_law_cell","_law_couples_here","_law_style","_law_pool","_law_turn","_law_left","_law_made","_law_k","_law_spot"] zcu (zf ze3):=scM
abbrev za9:Stmt:=top 81
abbrev zdB:List Str:=["_law_cards","_law_couples_here","_law_ranks"]
abbrev zaj:List Str:=["_law_cards","_law_couples_here"]
theorem zfz:FnScope zdB zaj (zf za9):=scM
abbrev zd2:Stmt:=top 84
abbrev zbx:List Str:=["_law_cards","_law_couples_here","_law_spots_here"]
theorem y8:FnScope ["_law_cards","_law_couples_here","_law_spots_here","_law_rows_here","_law_made","_law_k","_law_one","_law_other","_law_what"] zbx (zf zd2):=scM
abbrev ze0:Stmt:=top 89
abbrev zcD:List Str:=["_law_place","_law_couple","_law_cards","_law_last"]
theorem zgy:FnScope ["_law_place","_law_couple","_law_cards","_law_last","_law_marks_here"] zcD (zf ze0):=scM
abbrev zaN:Stmt:=wg (top 32) 8
abbrev yh:List Str:=["self"]
theorem zhn:FnScope ["self"] yh (zf zaN):=scM
abbrev zaL:Stmt:=top 24
theorem zhT:FnScope ["judges"] ["judges"] (zf zaL):=scM
abbrev zcI:Stmt:=top 40
abbrev zbD:List Str:=["marks","last"]
theorem zjn:FnScope ["marks","last"] zbD (zf zcI):=scM
abbrev zef:Stmt:=top 43
abbrev zam:List Str:=["one","other"]
theorem zfC:FnScope ["one","other","number"] zam (zf zef):=scM
abbrev wT:Stmt:=top 61
abbrev yS:List Str:=["sheet","judge"]
theorem zf6:FnScope ["sheet","judge"] yS (zf wT):=scM
abbrev zeC:Stmt:=top 71
abbrev zbA:List Str:=["_law_found","_law_due"]
theorem zfo:FnScope ["_law_found","_law_due","_law_k"] zbA (zf zeC):=scM
abbrev zev:Stmt:=top 78
abbrev zbM:List Str:=["_law_cell","_law_used","_law_couples_here","_law_style"]
theorem zi4:FnScope ["_law_cell","_law_used","_law_couples_here","_law_style"] zbM (zf zev):=scM
abbrev zbG:Stmt:=top 90
abbrev zeV:List Str:=["_law_cards","_law_couples_here","_law_spots_here"]
abbrev wE:List Str:=["_law_cards","_law_couples_here"]
theorem zeP:FnScope zeV wE (zf zbG):=scM
abbrev zdD:Stmt:=top 94
abbrev zaR:List Str:=["_law_state_here","_law_cell"]
theorem zcZ:FnScope ["_law_state_here","_law_cell","_law_number","_law_k"] zaR (zf zdD):=scM
abbrev zdH:Stmt:=wg (top 32) 0
abbrev zaU:List Str:=["self","couples","judges"]
theorem zib:FnScope ["self","couples","judges"] zaU (zf zdH):=scM
abbrev zfb:Stmt:=top 42
abbrev zcl:List Str:=["one","other"]
theorem zgs:FnScope ["one","other","number"] zcl (zf zfb):=scM
abbrev zdy:Stmt:=top 49
abbrev zaZ:List Str:=["one","other"]
theorem zeT:FnScope ["one","other","number"] zaZ (zf zdy):=scM
abbrev zb4:Stmt:=top 65
abbrev zeB:List Str:=["sheet","place","couple","marks","ladder","head","steps"]
abbrev za1:List Str:=["sheet","place","couple"]
theorem zba:FnScope zeB za1 (zf zb4):=scM
abbrev wC:Stmt:=top 85
abbrev zaK:List Str:=["_law_sheet","_law_names","_law_couples_here","_law_gone","_law_cards","_law_many","_law_shut","_law_into","_law_k","_law_count","_law_sealed"]
abbrev zaQ:List Str:=["_law_sheet","_law_names","_law_couples_here","_law_gone","_law_cards","_law_many","_law_shut"]
theorem wH:FnScope zaK zaQ (zf wC):=scM
abbrev wq:Stmt:=top 91
abbrev zbh:List Str:=["_law_names","_law_cards","_law_couples_here","_law_now","_law_made","_law_k","_law_rest"]
abbrev wP:List Str:=["_law_names","_law_cards","_law_couples_here"]
theorem wa:FnScope zbh wP (zf wq):=scM
abbrev zaX:Stmt:=top 45
abbrev zan:List Str:=["rows","own"]
theorem zg8:FnScope ["rows","own"] zan (zf zaX):=scM
abbrev zet:Stmt:=top 97
abbrev zbu:List Str:=["_law_state_here"]
theorem ziO:FnScope ["_law_state_here"] zbu (zf zet):=scM
abbrev za7:Stmt:=top 44
abbrev zdk:List Str:=["cards","couples","rows"]
abbrev yM:List Str:=["cards","couples"]
theorem zfk:FnScope zdk yM (zf za7):=scM
abbrev zhQ:Stmt:=top 52
theorem sc_places:FnScope ["sheet"] ["sheet"] (zf zhQ):=scM
abbrev ze9:Stmt:=top 56
abbrev zcy:List Str:=["sheet","judge"]
theorem zj6:FnScope ["sheet","judge"] zcy (zf ze9):=scM
abbrev zeJ:Stmt:=top 58
abbrev zhB:List Str:=["sheet","judge","couple","card","stepped","passed","cards"]
abbrev zdw:List Str:=["sheet","judge","couple"]
theorem zbS:FnScope zhB zdw (zf zeJ):=scM
abbrev zcH:Stmt:=top 60
abbrev zap:List Str:=["cards","couples"]
theorem zjB:FnScope ["cards","couples"] zap (zf zcH):=scM
abbrev zha:Stmt:=top 54
theorem sc_firsts:FnScope ["sheet"] ["sheet"] (zf zha):=scM
abbrev zd4:Stmt:=top 63
abbrev zbN:List Str:=["sheet","couple"]
theorem zfK:FnScope ["sheet","couple","all_places"] zbN (zf zd4):=scM
abbrev zdh:Stmt:=top 57
theorem zgC:FnScope ["sheet","now"] ["sheet"] (zf zdh):=scM
abbrev zaA:Stmt:=top 47
theorem zkc:FnScope ["places","couples"] ["places","couples"] (zf zaA):=scM
abbrev zdR:Stmt:=top 46
abbrev wD:List Str:=["cards","couples"]
theorem zig:FnScope ["cards","couples"] wD (zf zdR):=scM
abbrev zaT:Stmt:=top 50
abbrev zec:List Str:=["cards","couples","ranked","rows","one","other","parting"]
abbrev zaf:List Str:=["cards","couples"]
theorem yW:FnScope zec zaf (zf zaT):=scM
abbrev zfU:Stmt:=top 53
theorem zk1:FnScope ["sheet"] ["sheet"] (zf zfU):=scM
abbrev ze1:Stmt:=top 55
theorem zka:FnScope ["sheet"] ["sheet"] (zf ze1):=scM
abbrev zgU:Stmt:=top 64
theorem sc_table:FnScope ["sheet"] ["sheet"] (zf zgU):=scM
abbrev zaE:Stmt:=top 93
abbrev zcv:List Str:=["_law_sheet","_law_names","_law_couples_here","_law_cards","_law_who","_law_spot","_law_into","_law_spots_here","_law_rows_here","_law_lines","_law_pick","_law_rest","_law_k","_law_found"]
abbrev za5:List Str:=["_law_sheet","_law_names","_law_couples_here","_law_cards","_law_who","_law_spot"]
theorem yK:FnScope zcv za5 (zf zaE):=scM
abbrev zdE:Stmt:=top 95
abbrev zgw:List Str:=["_law_state_here","_law_cell","_law_style","_law_names","_law_cards","_law_who","_law_into","_law_card_here"]
abbrev zcx:List Str:=["_law_state_here","_law_cell","_law_style"]
theorem wX:FnScope zgw zcx (zf zdE):=scM
abbrev zeX:Stmt:=top 98
abbrev nn_law:List Str:=["_law_script","_law_numbers","_law_names","_law_handed","_law_states","_law_cell","_law_state_here"]
theorem zcM:FnScope nn_law ["_law_script"] (zf zeX):=scM
inductive zcf (K:Frag) (vs:List V) (H:Hp) (Q:VK) (E:XK):Prop
 | mk (p:Addr) (F:Addr->Prop) (S:Sh):vs=[.ref p]->SheetAt K H p F S->Q (.int S.taken) H->zcf K vs H Q E
section
variable {P:Program}{w:World}{K:Frag}{mg:Str->Option Value}{base:Heap}
variable {f:Addr}{fd:FuncData}
theorem zhh(F:Fun K "taken" "Sheet.taken" zcX f fd)(T:Txt K mg):FnOk P w K mg base CX0 1 f fd ["self"] (zcf K):=by
 refine F.ok zhb (λvs H Q E h=>?_) (λcdv A outer s H vs Q E hr h=>?_)
 ·obtain⟨p,F,S,rfl,_⟩:=h;rfl
 ·obtain⟨p,F,S,rfl,⟨dx,a1,a2,a3,d,kvs,h⟩,q⟩:=h;refine⟨_,(ze (zj (yN (pv 0) rfl))),?_⟩;exact⟨_,rfl,p,_,dx,_,_,rfl,h.ip,T.cl_Sheet,T.n_Sheet_taken_so_far,rfl,q⟩
inductive wU (K:Frag) (vs:List V) (H:Hp) (Q:VK) (E:XK):Prop
 | mk (p:Addr) (F:Addr->Prop) (S:Sh):vs=[.ref p]->SheetAt K H p F S->Q (.bl S.shut) H->wU K vs H Q E
theorem zff(F:Fun K "is_sealed" "Sheet.is_sealed" zaq f fd)(T:Txt K mg):FnOk P w K mg base CX0 1 f fd ["self"] (wU K):=by
 refine F.ok ze8 (λvs H Q E h=>?_) (λcdv A outer s H vs Q E hr h=>?_)
 ·obtain⟨p,F,S,rfl,_⟩:=h;rfl
 ·obtain⟨p,F,S,rfl,⟨dx,a1,a2,a3,d,kvs,h⟩,q⟩:=h;refine⟨_,(ze (zj (yN (pv 0) rfl))),?_⟩;exact⟨_,rfl,p,_,dx,_,_,rfl,h.ip,T.cl_Sheet,T.n_Sheet_sealed,rfl,q⟩
inductive zR (K:Frag) (vs:List V) (H:Hp) (Q:VK) (E:XK):Prop
 | mk (p:Addr) (F:Addr->Prop) (S:Sh):vs=[.ref p]->SheetAt K H p F S->((S.shut=true->∀C,zc3 K "SheetSealed" C->E (.ref C) none H))->((S.shut=false->Q .non H))->zR K vs H Q E
theorem zcj(F:Fun K "refuse_if_sealed" "Sheet.refuse_if_sealed" yO f fd)(T:Txt K mg):FnOk P w K mg base (CX1 P w) 1 f fd ["self"] (zR K):=by
 obtain⟨c_SheetSealed,n_SheetSealed,m_SheetSealed,x_SheetSealed⟩:=T.x_SheetSealed;refine F.okX zck (λvs H Q E h=>?_) (λX W cdv A outer s H vs Q E hX hW fl md hr h=>?_)
 ·obtain⟨p,F,S,rfl,_⟩:=h;rfl
 ·obtain⟨p,F,S,rfl,⟨dx,a1,a2,a3,d,kvs,h⟩,qE,q⟩:=h;subst hX;refine⟨_,(ze (zv (zF (yN (pv 0) rfl)) (ze (wJ rfl md rfl m_SheetSealed x_SheetSealed (za yg zb))) zq)),?_⟩;refine⟨_,rfl,p,_,dx,_,_,rfl,h.ip,T.cl_Sheet,T.n_Sheet_sealed,rfl,_,rfl,zhi (λhs=>?_) (λhs=>q hs)⟩;exact⟨(by show 1<=sizeLine;decide),by rw[hW];exact qE hs _ n_SheetSealed⟩
inductive zW (K:Frag) (vs:List V) (H:Hp) (Q:VK) (E:XK):Prop
 | mk (p:Addr) (F:Addr->Prop) (S:Sh) (j:Str):vs=[.ref p,.str j]->SheetAt K H p F S->((j∉S.panel->∀C,zc3 K "UnknownJudge" C->E (.ref C) none H))->((j∈S.panel->Q .non H))->zW K vs H Q E
theorem zbc(F:Fun K "refuse_unknown_judge" "Sheet.refuse_unknown_judge" yr f fd)(T:Txt K mg):FnOk P w K mg base (CX1 P w) 1 f fd zK (zW K):=by
 obtain⟨c_UnknownJudge,n_UnknownJudge,m_UnknownJudge,x_UnknownJudge⟩:=T.x_UnknownJudge;refine F.okX za4 (λvs H Q E h=>?_) (λX W cdv A outer s H vs Q E hX hW fl md hr h=>?_)
 ·obtain⟨p,F,S,j,rfl,_⟩:=h;rfl
 ·obtain⟨p,F,S,j,rfl,⟨dx,a1,a2,a3,d,kvs,h⟩,qE,q⟩:=h;subst hX;refine⟨_,(ze (zv (zm zbF (pv 1) (yN (pv 0) rfl) (by first | exact zp _ | rfl)) (ze (wJ rfl md rfl m_UnknownJudge x_UnknownJudge (za yg zb))) zq)),?_⟩;refine⟨_,rfl,_,rfl,p,_,dx,_,_,rfl,h.ip,T.cl_Sheet,T.n_Sheet_panel,rfl,_,_,rfl,.inl (SqL.of h.i3),rfl,flat_strs _,_,rfl,?_⟩;rw[inV_strs];refine yj (λhj=>?_) (λhj=>q hj);exact⟨(by show 1<=sizeLine;decide),by rw[hW];exact qE hj _ n_UnknownJudge⟩
inductive zD (K:Frag) (vs:List V) (H:Hp) (Q:VK) (E:XK):Prop
 | mk (p:Addr) (F:Addr->Prop) (S:Sh):vs=[.ref p]->SheetAt K H p F S->(∀(l:Addr)(H':Hp),Same H H'->H l=none->H' l=some (.lst (S.couples.map V.int))->Q (.ref l) H')->zD K vs H Q E
theorem zgm(F:Fun K "couples" "Sheet.couples" zbj f fd)(T:Txt K mg):FnOk P w K mg base CX0 1 f fd zy (zD K):=by
 refine F.ok zfV (λvs H Q E h=>?_) (λcdv A outer s H vs Q E hr h=>?_)
 ·obtain⟨p,F,S,rfl,_⟩:=h;rfl
 ·obtain⟨p,F,S,rfl,⟨dx,a1,a2,a3,d,kvs,h⟩,q⟩:=h;refine⟨_,(ze (zj (zM zO (by rfl) T.b_list boot_list (za (yN (pv 0) rfl) zb)))),?_⟩;exact⟨_,rfl,p,_,dx,_,_,rfl,h.ip,T.cl_Sheet,T.n_Sheet_standing,rfl,_,_,rfl,.inl (SqL.of h.i1),λl hl=>q l _ (Same.new hl) hl zd⟩
inductive zbi (K:Frag) (vs:List V) (H:Hp) (Q:VK) (E:XK):Prop
 | mk (p:Addr) (F:Addr->Prop) (S:Sh):vs=[.ref p]->SheetAt K H p F S->(∀(l:Addr)(H':Hp),Same H H'->H l=none->H' l=some (.lst (S.struck.map V.int))->Q (.ref l) H')->zbi K vs H Q E
theorem zgG(F:Fun K "struck" "Sheet.struck" zb3 f fd)(T:Txt K mg):FnOk P w K mg base CX0 1 f fd ["self"] (zbi K):=by
 refine F.ok zgF (λvs H Q E h=>?_) (λcdv A outer s H vs Q E hr h=>?_)
 ·obtain⟨p,F,S,rfl,_⟩:=h;rfl
 ·obtain⟨p,F,S,rfl,⟨dx,a1,a2,a3,d,kvs,h⟩,q⟩:=h;refine⟨_,(ze (zj (zM zO (by rfl) T.b_list boot_list (za (yN (pv 0) rfl) zb)))),?_⟩;exact⟨_,rfl,p,_,dx,_,_,rfl,h.ip,T.cl_Sheet,T.n_Sheet_struck_so_far,rfl,_,_,rfl,.inl (SqL.of h.i2),λl hl=>q l _ (Same.new hl) hl zd⟩
inductive zbg (K:Frag) (vs:List V) (H:Hp) (Q:VK) (E:XK):Prop
 | mk (p:Addr) (F:Addr->Prop) (S:Sh):vs=[.ref p]->SheetAt K H p F S->(∀(l:Addr)(H':Hp),Same H H'->H l=none->H' l=some (.lst (S.panel.map V.str))->Q (.ref l) H')->zbg K vs H Q E
theorem zgJ(F:Fun K "judges" "Sheet.judges" zbX f fd)(T:Txt K mg):FnOk P w K mg base CX0 1 f fd ["self"] (zbg K):=by
 refine F.ok zgN (λvs H Q E h=>?_) (λcdv A outer s H vs Q E hr h=>?_)
 ·obtain⟨p,F,S,rfl,_⟩:=h;rfl
 ·obtain⟨p,F,S,rfl,⟨dx,a1,a2,a3,d,kvs,h⟩,q⟩:=h;refine⟨_,(ze (zj (zM zO (by rfl) T.b_list boot_list (za (yN (pv 0) rfl) zb)))),?_⟩;exact⟨_,rfl,p,_,dx,_,_,rfl,h.ip,T.cl_Sheet,T.n_Sheet_panel,rfl,_,_,rfl,.inl (SqL.of h.i3),λl hl=>q l _ (Same.new hl) hl zd⟩
inductive zZ (K:Frag) (vs:List V) (H:Hp) (Q:VK) (E:XK):Prop
 | mk (p:Addr) (F:Addr->Prop) (S:Sh):vs=[.ref p]->ShapeAt K H p F S->S.panel.length<=15->(∀(l:Addr)(H':Hp),Same H H'->H l=none->H' l=some (.lst (S.handed.map V.str))->Q (.ref l) H')->zZ K vs H Q E
theorem zgS(F:Fun K "handed" "Sheet.handed" zar f fd)(T:Txt K mg):FnOk P w K mg base CX0 1 f fd zQ (zZ K):=by
 refine F.ok zgP (λvs H Q E h=>?_) (λcdv A outer s H vs Q E hr h=>?_)
 ·obtain⟨p,F,S,rfl,_⟩:=h;rfl
 ·obtain⟨p,F,S,rfl,⟨dx,a1,a2,a3,d,kvs,h⟩,h15,q⟩:=h;refine⟨_,(ze (zj (zL (show CompScope (zf zar) ["self"] "judge" ["self"] [0] _ from csM) rfl (zx (yN (pv 0) rfl)) (λ_ _ _ _ _=>(yC (pt_cmp (pc_din (ziw hr) (pv 0) (pe_fldK (K:=K) rfl (pv 1) rfl))))) (λ_ _ _ _ _=>(pv 0))))),?_⟩;have hln:=zt;refine⟨_,rfl,p,_,dx,_,_,rfl,h.ip,T.cl_Sheet,T.n_Sheet_panel,rfl,a3,rfl,⟨_,SqL.of h.i3⟩,?_⟩;refine yV (xs:=S.panel.map V.str) (λi ys H2=>H2=H/\ys=((S.panel.take i).filter λj=>(S.card j).isSome).map V.str) ⟨rfl,rfl⟩ ?_ (by rw[length_map];omega) ?_ ?_
  ·rintro i ys H2 hi ⟨rfl,rfl⟩;refine⟨SqL.of h.i3,?_⟩;rw[length_map];exact le_trans (length_filter_le _ _) (by rw[length_take];omega)
  ·rintro i x ys H2 hx ⟨rfl,rfl⟩;obtain⟨hi,rfl⟩:=zca hx;refine⟨_,rfl,_,rfl,p,_,dx,_,_,rfl,h.ip,T.cl_Sheet,T.n_Sheet_card_by_judge,rfl,d,_,rfl,DGet.k (k:=Sum.inr (S.panel.getD i "")) h.i4,_,rfl,?_⟩;have hv:(zaB kvs (Sum.inr (S.panel.getD i ""))).isSome=(S.card (S.panel.getD i "")).isSome:=by
    cases e:S.card (S.panel.getD i "")with
    | none=>rw[h.cn _ e];rfl
    | some c=>obtain⟨l,e1,_⟩:=h.cs _ _ e;rw[e1];rfl
   rw[hv];refine zhi (λhb=>?_) (λhb=>?_)
   ·refine⟨_,rfl,rfl,?_⟩;rw[yp hi,filter_append,filter_cons,if_pos hb,map_append];rfl
   ·refine⟨rfl,?_⟩;rw[yp hi,filter_append,filter_cons,if_neg (by rw[hb];exact Bool.false_ne_true)];simp
  ·rintro ys H2 ⟨rfl,rfl⟩ l hl;rw[length_map,take_length];exact q l _ (Same.new hl) hl zd
inductive zcY (K:Frag) (vs:List V) (H:Hp) (Q:VK) (E:XK):Prop
 | mk (a b:Addr) (ns ms:List Int):vs=[.ref a,.ref b]->SqL K H a (ns.map V.int)->SqL K H b (ms.map V.int)->ns.length<64->ms.length<64->(∀H',Same H H'->Q (.bl (decide (ns.Perm ms))) H')->zcY K vs H Q E
variable {ns ms:List Int}
theorem zko{ns' ms':List Int}(h1:ns'.Perm ns)(h2:ns'.Pairwise (·<= ·))(h3:ms'.Perm ms)(h4:ms'.Pairwise (·<= ·)):decide (ns'=ms')=decide (ns.Perm ms):=by
 by_cases h:ns.Perm ms
 ·rw[decide_eq_true h];exact decide_eq_true (List.Perm.eq_of_pairwise (λa b _ _ x y=>Int.le_antisymm x y) h2 h4 (h1.trans (h.trans h3.symm)))
 ·rw[decide_eq_false h];refine decide_eq_false λe=>h ?_;subst e;exact h1.symm.trans h3
theorem zh7(F:Fun K "whole_card" "whole_card" zdN f fd)(T:Txt K mg):FnOk P w K mg base CX0 1 f fd zaO (zcY K):=by
 refine F.ok zic (λvs H Q E h=>?_) (λcdv A outer s H vs Q E hr h=>?_)
 ·obtain⟨a,b,ns,ms,rfl,_⟩:=h;rfl
 ·obtain⟨a,b,ns,ms,rfl,hA,hB,hz1,hz2,q⟩:=h;refine⟨_,(ze (zj (zbL (zht hr.units0) (zB zek (by rfl) T.b_sorted PyProof.Rows.boot_sorted (za (pv 0) zb)) (zB zek (by rfl) T.b_sorted PyProof.Rows.boot_sorted (za (pv 1) zb)) (zp _)))),?_⟩;refine⟨_,rfl,a,ns,rfl,hA,hz1,λl1 ns' hl1 p1 w1=>?_⟩;refine⟨_,rfl,b,ms,rfl,(Same.new hl1).seq hB,hz2,λl2 ms' hl2 p2 w2=>?_⟩;refine⟨l1,l2,_,_,rfl,rfl,(Same.new hl2).seq SqL.new,SqL.new,zA _,zA _,?_⟩;rw[yH,zko p1 w1 p2 w2];exact q _ ((Same.new hl1).newT hl2)
inductive zfd (K:Frag) (vs:List V) (H:Hp) (Q:VK) (E:XK):Prop
 | mk (a:Addr) (ns:List Int) (c:Int):vs=[.ref a,.int c]->SqL K H a (ns.map V.int)->c∈ns->Q (.int ((ns.idxOf c:Nat)+1)) H->zfd K vs H Q E
theorem ok_mark_on(F:Fun K "mark_on" "mark_on" zfW f fd)(T:Txt K mg):FnOk P w K mg base CX0 1 f fd zdU (zfd K):=by
 refine F.ok zk3 (λvs H Q E h=>?_) (λcdv A outer s H vs Q E hr h=>?_)
 ·obtain⟨a,ns,c,rfl,_⟩:=h;rfl
 ·obtain⟨a,ns,c,rfl,hS,hc,q⟩:=h;refine⟨_,(ze (zj (zr yf (wF PySem.F.plainAttrs_list PySem.F.slot_list_index PySem.F.type_list_index zem (pv 0) (za (pv 1) zb)) zg))),?_⟩;refine⟨_,rfl,.inl ⟨rfl,_,hS⟩,_,rfl,a,_,_,rfl,rfl,hS,rfl,zA _,?_,_,_,rfl,rfl,?_⟩
  ·rw[zac,length_map];exact List.idxOf_lt_length_iff.mpr hc
  ·rw[zac];exact q
inductive zad (K:Frag) (vs:List V) (H:Hp) (Q:VK) (E:XK):Prop
 | mk (a:Addr) (ns:List Int) (c:Int):vs=[.ref a,.int c]->SqL K H a (ns.map V.int)->ns.length<=1000->(∀l H',Same H H'->H l=none->H' l=some (.lst ((ns.filter λo => !decide (o=c)).map V.int))->Q (.ref l) H')->zad K vs H Q E
theorem zft(F:Fun K "without_couple" "without_couple" wy f fd)(T:Txt K mg):FnOk P w K mg base CX0 1 f fd wl (zad K):=by
 refine F.ok zfs (λvs H Q E h=>?_) (λcdv A outer s H vs Q E hr h=>?_)
 ·obtain⟨a,ns,c,rfl,_⟩:=h;rfl
 ·obtain⟨a,ns,c,rfl,hS,hz,q⟩:=h;refine⟨_,(ze (zj (zL (show CompScope (zf wy) ["card","couple"] "other" ["couple"] [1] _ from csM) rfl (zx (pv 0)) (λ_ _ _ _ _=>(yC (zm yQ (pv 0) (pv 1) (zp _)))) (λ_ _ _ _ _=>(pv 0))))),?_⟩;refine⟨_,rfl,a,rfl,⟨_,hS⟩,?_⟩;refine yV (xs:=ns.map V.int) (λi ys H2=>H2=H/\ys=((ns.take i).filter λo => !decide (o=c)).map V.int) ⟨rfl,rfl⟩ ?_ (by rw[length_map];exact le_trans hz (le_trans (by decide) zt)) ?_ ?_
  ·rintro i ys H2 hi ⟨rfl,rfl⟩;refine⟨hS,?_⟩;rw[length_map];exact le_trans (length_filter_le _ _) (by rw[length_take];omega)
  ·rintro i x ys H2 hx ⟨rfl,rfl⟩;obtain⟨hi,rfl⟩:=yF hx;refine⟨_,rfl,_,rfl,rfl,_,rfl,yj (λhne=>?_) (λhe=>?_)⟩
   ·refine⟨_,rfl,rfl,?_⟩;have:¬ns.getD i 0=c:=λe=>hne (by rw[e]);rw[yE hi,filter_append,filter_cons_of_pos (by show(!decide (ns.getD i 0=c))=true;rw[decide_eq_false this];rfl),map_append];rfl
   ·refine⟨rfl,?_⟩;have:ns.getD i 0=c:=by injection he
    rw[yE hi,filter_append,filter_cons_of_neg (by show ¬(!decide (ns.getD i 0=c))=true;rw[decide_eq_true this];decide),map_append];simp
  ·rintro ys H2 ⟨rfl,rfl⟩ l hl;rw[length_map,take_length];exact q l _ (Same.new hl) hl zd
inductive zgn (K:Frag) (vs:List V) (H:Hp) (Q:VK) (E:XK):Prop
 | mk (a:Addr) (ns:List Int) (i:Nat):vs=[.ref a,.int (ns.getD i 0)]->SqL K H a (ns.map V.int)->ns.Nodup->i<ns.length->ns.length<=1000->((∀n∈ns,1<=n/\n<=999))->((i=0->∀C,zc3 K "AtTop" C->E (.ref C) none H))->((0<i->∀l H',Same H H'->H l=none->H' l=some (.lst ((ns.take (i-1)++[ns.getD i 0,ns.getD (i-1) 0]++ns.drop (i+1)).map V.int))->Q (.ref l) H'))->zgn K vs H Q E
theorem ok_one_up(F:Fun K "one_up" "one_up" zg7 f fd)(T:Txt K mg):FnOk P w K mg base (CX1 P w) 1 f fd zeE (zgn K):=by
 obtain⟨c_AtTop,n_AtTop,m_AtTop,x_AtTop⟩:=T.x_AtTop;refine F.okX zf9 (λvs H Q E h=>?_) (λX W cdv A outer s H vs Q E hX hW fl md hr h=>?_)
 ·obtain⟨a,ns,i,rfl,_⟩:=h;rfl
 ·obtain⟨a,ns,i,rfl,hS,hn,hi,hz,hrg,qE,qQ⟩:=h;subst hX;refine⟨_,(zc (zu (i:=2) zf9.nd rfl (Or.inl rfl) (wF PySem.F.plainAttrs_list PySem.F.slot_list_index PySem.F.type_list_index zem (pv 0) (za (pv 1) zb)))
   (zc (zv (zm zag (pv 2) zg (zp _)) (ze (wJ rfl md rfl m_AtTop x_AtTop (za (pe_fstr (zeL yg (zeL (zkX (pv 1)) (zeL yg pj_nil)))) zb))) zq)
   (zc (zu (i:=3) zf9.nd rfl (Or.inl rfl) (zo zk (pv 0) (zr zds (pv 2) zg) (λ_ _=>rfl)))
   (ze (zj (zr wd (zr wd (yw wj (pv 0) wf (yA (zr zds (pv 2) zg))) (zI (za (pv 1) (za (pv 3) zb)))) (yw wj (pv 0) (yA (zr yf (pv 2) zg)) wf))))))),?_⟩
  have hix:ns.idxOf (ns.getD i 0)=i:=by rw[zeH hi];exact hn.idxOf_getElem i hi
  have hl:=zt;have hlog:(ns.getD i 0).natAbs.log2<1920:=by
   have:=hrg _ (wN hi);exact(Nat.log2_lt (by omega)).mpr (lt_of_lt_of_le (show(ns.getD i 0).natAbs<2 ^ 10 by omega) (Nat.pow_le_pow_right (by decide) (by decide)))
  refine⟨_,rfl,.inl ⟨rfl,_,hS⟩,_,rfl,a,_,_,rfl,rfl,hS,rfl,zA _,by rw[zac,hix,length_map];exact hi,?_⟩;rw[zac,hix];refine⟨_,rfl,rfl,_,rfl,yB (λh0=>?_) (λh0=>?_)⟩
  ·have h0:i=0:=by injection h0 with h0;omega
   have hL:=PyProof.Rows.int_text_len_1921 hlog;have l1:(Str.empty++Str.ofString "couple ").length<=0+7:=ziT (by decide) (by decide);have l2:=ziT l1 hL;have l3:=ziT l2 (show(Str.ofString " is the first one on the card").length<=29 by decide);exact⟨_,rfl,le_trans l1 (by decide),_,rfl,.inl ⟨_,rfl,hlog,_,rfl,le_trans l2 (by decide),_,rfl,le_trans l3 (by decide),le_trans l3 (by decide),(by show 1<=sizeLine;decide),by rw[hW];exact qE h0 _ n_AtTop⟩⟩
  ·have h0:0<i:=Nat.pos_of_ne_zero λz=>h0 (by rw[z];rfl);refine⟨_,rfl,_,rfl,_,_,rfl,rfl,a,_,_,_,rfl,rfl,hS,zc6 (by omega) (by omega),?_⟩;refine⟨_,rfl,_,rfl,_,_,rfl,rfl,_,rfl,a,_,rfl,hS,λl1 hl1=>?_⟩;rw[zgh (by omega),show((i:Int)-1).toNat=i-1 by omega];refine⟨_,rfl,_,rfl,(by show 2<=sizeLine;decide),λl2 hl2=>?_⟩;have s1:=Same.new (o:=.lst ((ns.take (i-1)).map V.int)) hl1;have s2:=s1.newT (o:=.lst ([ns.getD i 0,ns.getD (i-1) 0].map V.int)) hl2;have n12:l1≠l2:=zn zd hl2;refine⟨l1,l2,_,[ns.getD i 0,ns.getD (i-1) 0].map V.int,rfl,rfl,by rw[zh n12];exact zd,zd,by simp only[length_map,length_take,length_cons,length_nil];omega,λl3 hl3=>?_⟩;rw[<-map_append];have s3:=s2.newT (o:=.lst ((ns.take (i-1)++[ns.getD i 0,ns.getD (i-1) 0]).map V.int)) hl3;refine⟨_,rfl,_,rfl,_,_,rfl,rfl,_,rfl,a,_,rfl,s3.seq hS,λl4 hl4=>?_⟩;rw[zeM (by omega),show((i:Int)+1).toNat=i+1 by omega];have s4:=s3.newT (o:=.lst ((ns.drop (i+1)).map V.int)) hl4;have n34:l3≠l4:=zn zd hl4;refine⟨l3,l4,_,_,rfl,rfl,by rw[zh n34];exact zd,zd,by simp only[length_map,length_append,length_take,length_drop,length_cons,length_nil];omega,λl5 hl5=>?_⟩;rw[<-map_append];exact qQ h0 l5 _ (s4.newT hl5) (s4.free hl5) zd
inductive zb6 (K:Frag) (vs:List V) (H:Hp) (Q:VK) (E:XK):Prop
 | mk (n:Int):vs=[.int n]->Q (.bl (decide (1<=n) && decide (n<=999))) H->zb6 K vs H Q E
theorem zhv(F:Fun K "good_number" "good_number" zcL f fd)(T:Txt K mg):FnOk P w K mg base CX0 1 f fd ["couple"] (zb6 K):=by
 refine F.ok zho (λvs H Q E h=>?_) (λcdv A outer s H vs Q E hr h=>?_)
 ·obtain⟨n,rfl,_⟩:=h;rfl
 ·obtain⟨n,rfl,q⟩:=h;refine⟨_,(ze (zj (zhM zfE zfE zg (pv 0) (zei T.c_MOST_NUMBER rfl)))),?_⟩;refine⟨_,rfl,_,_,rfl,rfl,_,rfl,yB (λh1=>?_) (λh1=>?_)⟩
  ·rw[decide_eq_true h1,Bool.true_and]at q;exact⟨_,_,rfl,rfl,q⟩
  ·rw[decide_eq_false h1,Bool.false_and]at q;exact q
inductive zbo (K:Frag) (vs:List V) (H:Hp) (Q:VK) (E:XK):Prop
 | mk (c:Nat):vs=[.str ⟨#[c]⟩]->Q (.bl (zeo c)) H->zbo K vs H Q E
theorem zgK(F:Fun K "small_letter" "small_letter" zb8 f fd)(T:Txt K mg):FnOk P w K mg base CX0 1 f fd ["sign"] (zbo K):=by
 refine F.ok zgE (λvs H Q E h=>?_) (λcdv A outer s H vs Q E hr h=>?_)
 ·obtain⟨c,rfl,_⟩:=h;rfl
 ·obtain⟨c,rfl,q⟩:=h;refine⟨_,(ze (zj (zhM zis zis yg (pv 0) yg))),?_⟩;unfold zeo at q;refine⟨_,rfl,_,_,rfl,rfl,_,rfl,?_⟩;rw[M2.le_a];refine yB (λh1=>?_) (λh1=>?_)
  ·rw[decide_eq_true h1,Bool.true_and]at q;refine⟨_,_,rfl,rfl,?_⟩;rw[M2.le_z];exact q
  ·rw[decide_eq_false h1,Bool.false_and]at q;exact q
inductive wp (K:Frag) (vs:List V) (H:Hp) (Q:VK) (E:XK):Prop
 | mk (x:V) (n:Nat) (m:Int):vs=[x,.int m]->LenV K x H n->Q (.bl (decide (1<=(n:Int)) && decide ((n:Int)<=m))) H->wp K vs H Q E
theorem zhm(F:Fun K "good_length" "good_length" zcP f fd)(T:Txt K mg):FnOk P w K mg base CX0 1 f fd yU (wp K):=by
 refine F.ok zg4 (λvs H Q E h=>?_) (λcdv A outer s H vs Q E hr h=>?_)
 ·obtain⟨x,n,m,rfl,_⟩:=h;rfl
 ·obtain⟨x,n,m,rfl,hx,q⟩:=h;refine⟨_,(ze (zj (zhM zfE zfE zg (zB call_len (by rfl) T.b_len PySem.boot_len (za (pv 0) zb)) (pv 1)))),?_⟩;refine⟨_,rfl,x,n,rfl,hx,_,_,rfl,rfl,_,rfl,yB (λh1=>?_) (λh1=>?_)⟩
  ·rw[decide_eq_true h1,Bool.true_and]at q;exact⟨_,rfl,_,_,rfl,rfl,q⟩
  ·rw[decide_eq_false h1,Bool.false_and]at q;exact q
inductive zaW (K:Frag) (vs:List V) (H:Hp) (Q:VK) (E:XK):Prop
 | mk (a:Addr):vs=[.ref a]->(((∃ns:List Int,SqL K H a (ns.map V.int)/\ns.length<4000/\∀H',Same H H'->Q (.bl (decide ns.Nodup)) H')\/∃ts:List Str,SqL K H a (ts.map V.str)/\ts.length<4000/\Q (.bl (decide ts.Nodup)) H))->zaW K vs H Q E
theorem zh8(F:Fun K "all_unlike" "all_unlike" zdz f fd)(T:Txt K mg):FnOk P w K mg base CX0 1 f fd ["things"] (zaW K):=by
 refine F.ok zii (λvs H Q E h=>?_) (λcdv A outer s H vs Q E hr h=>?_)
 ·obtain⟨a,rfl,_⟩:=h;rfl
 ·obtain⟨a,rfl,h⟩:=h;refine⟨_,(ze (zj (zbL zag (pe_both (zB call_len_set (by rfl) T.b_len PySem.boot_len (za (zM (zjb rfl) (by rfl) T.b_set boot_set (za (pv 0) zb)) zb)) (zkO rfl (by rfl) T.b_len (by rfl) T.b_set (pv 0))) (ya T.b_len (pv 0)) (zp _)))),?_⟩;rcases h with⟨ns,hS,hz,q⟩|⟨ts,hS,hz,q⟩
  ·refine .inl ⟨_,rfl,a,ns,rfl,hS,hz,λl hl=>?_⟩;refine⟨l,_,_,rfl,zd,_,rfl,a,_,rfl,.inl ((Same.new hl).seq hS),rfl,?_⟩;have e:decide (V.int ((PyProof.Rows.firstMet (λi=>ns.getD i 0) ns.length).length:Int)=V.int ((ns.map V.int).length:Int))=decide ns.Nodup:=by
    rw[length_map];by_cases h:ns.Nodup
    ·rw[decide_eq_true h,(zkz ns).mpr h];exact decide_eq_true rfl
    ·rw[decide_eq_false h];refine decide_eq_false λz=>h ((zkz ns).mp ?_);injection z with z
     exact Int.ofNat.inj z
   rw[e];exact q _ (Same.new hl)
  ·refine .inr ⟨_,rfl,a,ts,rfl,hS,hz,?_⟩;refine⟨_,rfl,a,_,rfl,.inl hS,rfl,?_⟩;have e:decide (V.int ((met (λi=>ts.getD i "") ts.length).length:Int)=V.int ((ts.map V.str).length:Int))=decide ts.Nodup:=by
    rw[length_map];by_cases h:ts.Nodup
    ·rw[decide_eq_true h,(zjT ts "").mpr h];exact decide_eq_true rfl
    ·rw[decide_eq_false h];refine decide_eq_false λz=>h ((zjT ts "").mp ?_);injection z with z
     exact Int.ofNat.inj z
   rw[e];exact q
inductive zbW (K:Frag) (vs:List V) (H:Hp) (Q:VK) (E:XK):Prop
 | mk (n:Int):vs=[.int n]->Q (.int (n/2+1)) H->zbW K vs H Q E
theorem zg3(F:Fun K "majority_of" "majority_of" zcQ f fd)(T:Txt K mg):FnOk P w K mg base CX0 1 f fd ["many"] (zbW K):=by
 refine F.ok zhF (λvs H Q E h=>?_) (λcdv A outer s H vs Q E hr h=>?_)
 ·obtain⟨n,rfl,_⟩:=h;rfl
 ·obtain⟨n,rfl,q⟩:=h;refine⟨_,(ze (zj (zr yf (zr wQ (pv 0) zg) zg))),?_⟩;exact⟨_,rfl,_,_,rfl,rfl,⟨by decide,by decide⟩,_,_,rfl,rfl,q⟩
inductive zcE (K:Frag) (vs:List V) (H:Hp) (Q:VK) (E:XK):Prop
 | mk (a:Addr) (ms:List Int) (n:Int):vs=[.ref a,.int n]->SqL K H a (ms.map V.int)->ms.length<=1000->(∀(l:Addr)(H':Hp),Same H H'->H l=none->H' l=some (.lst ((M3.got ms n).map V.int))->Q (.ref l) H')->zcE K vs H Q E
theorem zj5(F:Fun K "granting" "granting" zdl f fd)(T:Txt K mg):FnOk P w K mg base CX0 1 f fd za6 (zcE K):=by
 refine F.ok zks (λvs H Q E h=>?_) (λcdv A outer s H vs Q E hr h=>?_)
 ·obtain⟨a,ms,n,rfl,_⟩:=h;rfl
 ·obtain⟨a,ms,n,rfl,hS,hz,q⟩:=h;refine⟨_,(ze (zj (zL (show CompScope (zf zdl) ["marks","number"] "mark" ["number"] [1] _ from csM) rfl (zx (pv 0)) (λ_ _ _ _ _=>(yC (zm zfE (pv 0) (pv 1) (zp _)))) (λ_ _ _ _ _=>(pv 0))))),?_⟩;refine⟨_,rfl,a,rfl,⟨_,hS⟩,?_⟩;refine yV (xs:=ms.map V.int) (λi ys H2=>H2=H/\ys=(M3.got (ms.take i) n).map V.int) ⟨rfl,rfl⟩ ?_ (by rw[length_map];have:=zt;omega) ?_ ?_
  ·rintro i ys H2 hi ⟨rfl,rfl⟩;refine⟨hS,?_⟩;rw[length_map];have:=M3.zdf (ms.take i) n;unfold M3.cnt at this;rw[length_take]at this;omega
  ·rintro i x ys H2 hx ⟨rfl,rfl⟩;obtain⟨hi,rfl⟩:=yF hx;refine⟨_,rfl,_,rfl,_,_,rfl,rfl,_,rfl,yB (λh=>?_) (λh=>?_)⟩
   ·refine⟨_,rfl,rfl,?_⟩;rw[M3.zfD n hi,if_pos h,map_append];rfl
   ·refine⟨rfl,?_⟩;rw[M3.zfD n hi,if_neg h]
  ·rintro ys H2 ⟨rfl,rfl⟩ l hl;rw[length_map,take_length];exact q l _ (Same.new hl) hl zd
inductive y7 (K:Frag) (vs:List V) (H:Hp) (Q:VK) (E:XK):Prop
 | mk (x:_) (b1:_) (b2:_):vs=[x]->isInt x=some b1->isBool x=some b2->Q (.bl (b1 && !b2)) H->y7 K vs H Q E
theorem zjj(F:Fun K "_law_whole" "_law_whole" zep f fd)(T:Txt K mg):FnOk P w K mg base CX0 1 f fd yL (y7 K):=by
 refine F.ok ziN (λvs H Q E h=>?_) (λcdv A outer s H vs Q E hr h=>?_)
 ·obtain⟨x,b1,b2,rfl,_⟩:=h;rfl
 ·obtain⟨x,b1,b2,rfl,h1,h2,k⟩:=h;refine⟨_,(ze (zj (zdo (zB zi7 (by rfl) T.b_isinstance boot_isinstance (za (pv 0) (za (wz (v:=V.ty "int") rfl T.b_int boot_int rfl) zb))) (zhf (pe_not (zB zeY (by rfl) T.b_isinstance boot_isinstance (za (pv 0) (za (wz (v:=V.ty "bool") rfl T.b_bool boot_bool rfl) zb)))))))),?_⟩;refine⟨_,rfl,x,b1,rfl,h1,_,rfl,?_⟩;cases b1 with
  | false=>exact yl k
  | true=>exact zh5 ⟨_,rfl,x,b2,rfl,h2,_,rfl,k⟩
inductive zgb (K:Frag) (vs:List V) (H:Hp) (Q:VK) (E:XK):Prop
 | mk (a:Addr) (ns:List Int) (k:Int):vs=[.ref a,.int k]->SqL K H a (ns.map V.int)->0<=k->Q (.int (ns.getD k.toNat 0)) H->zgb K vs H Q E
theorem ok_law_at(F:Fun K "_law_at" "_law_at" zhR f fd)(T:Txt K mg):FnOk P w K mg base CX0 1 f fd zeF (zgb K):=by
 refine F.ok sc_law_at (λvs H Q E h=>?_) (λcdv A outer s H vs Q E hr h=>?_)
 ·obtain⟨a,ns,k,rfl,_⟩:=h;rfl
 ·obtain⟨a,ns,k,rfl,hS,h0,q⟩:=h;refine⟨_,(zc (zv (zm zfr (pv 1) (ya T.b_len (pv 0)) (zp _)) (ze (zj (zo zk (pv 0) (pv 1) (λ_ _=>rfl)))) zq)
   (ze (zj zg))),?_⟩
  refine⟨_,rfl,_,rfl,a,_,rfl,.inl hS,_,_,rfl,rfl,_,rfl,yB (λhk=>?_) (λhk=>?_)⟩
  ·rw[length_map]at hk;exact⟨_,rfl,_,rfl,a,_,k,_,rfl,rfl,hS,zc6 h0 hk,q⟩
  ·rw[length_map]at hk;show Q (.int 0) H;rw[getD_eq_getElem?_getD,List.getElem?_eq_none (by omega)]at q;exact q
inductive zbP (K:Frag) (vs:List V) (H:Hp) (Q:VK) (E:XK):Prop
 | mk (a b:Addr) (ts us:List Str):vs=[.ref a,.ref b]->SqL K H a (ts.map V.str)->SqL K H b (us.map V.str)->us.length<=1000000->Q (.bl (decide (ts=us))) H->zbP K vs H Q E
theorem texts_all{ts us:List Str}(hl:ts.length=us.length)(h:∀j,j<us.length->ts.getD j ""=us.getD j ""):ts=us:=by
 refine ext_getElem hl λj h1 h2=>?_;have:=h j h2
 rwa [getD_eq_getElem?_getD,getD_eq_getElem?_getD,getElem?_eq_getElem h1,getElem?_eq_getElem h2]at this
theorem zja(F:Fun K "_law_texts" "_law_texts" zew f fd)(T:Txt K mg):FnOk P w K mg base CX0 1 f fd zat (zbP K):=by
 refine F.ok zfy (λvs H Q E h=>?_) (λcdv A outer s H vs Q E hr h=>?_)
 ·obtain⟨a,b,ts,us,rfl,_⟩:=h;rfl
 ·obtain⟨a,b,ts,us,rfl,hA,hB,hz,q⟩:=h;refine⟨_,(zc (zv (PW.pt (zax (zJ (zF (zB wL (by rfl) T.b_isinstance boot_isinstance (za (pv 0) (za (wz (v:=V.ty "list") rfl T.b_list boot_list rfl) zb))))) (we (zm yQ (ya T.b_len (pv 0)) (ya T.b_len (pv 1)) (zp _))))) (ze (zj zY)) zq)
   (zc (yP PassesOwn.never rfl (yo rfl T.b_range (za (ya T.b_len (pv 1)) zb)) (zU (i:=2) zfy.nd rfl (Or.inl rfl))
     (ze (zv (PW.pt (zax (zJ (zF (zB zfj (by rfl) T.b_isinstance boot_isinstance (za (zo zk (pv 0) (pv 2) (λ_ _=>rfl)) (za (wz (v:=V.ty "str") rfl T.b_str boot_str rfl) zb))))) (we (zm yQ (zo zk (pv 0) (pv 2) (λ_ _=>rfl)) (zo zk (pv 1) (pv 2) (λ_ _=>rfl)) (zp _))))) (ze (zj zY)) zq)))
   (ze (zj zY)))),?_⟩
  refine⟨_,rfl,_,_,rfl,.yes hA,_,rfl,yl ?_⟩;refine⟨_,rfl,a,_,rfl,.inl hA,_,rfl,b,_,rfl,.inl hB,rfl,_,rfl,?_⟩;rw[length_map,length_map];refine yj (λhne=>?_) (λhe=>?_)
  ·show Q (.bl false) H;have:ts≠us:=λe=>hne (by rw[e]);rw[decide_eq_false this]at q;exact q
  ·have hl:ts.length=us.length:=by injection he with he;exact Int.ofNat.inj he
   refine⟨_,rfl,b,_,rfl,.inl hB,_,rfl,by omega,by rw[length_map];omega,?_⟩;rw[length_map];refine yi (λi σ H2=>∃v,σ=[some (.ref a),some (.ref b),v]/\H2=H/\∀j,j<i->ts.getD j ""=us.getD j "") ⟨_,rfl,rfl,λj hj=>by omega⟩ ?_ ?_
   ·rintro i σ H2 hi ⟨v,rfl,rfl,hj⟩;have hi':i<us.length:=by simpa using hi
    have e1:atI (ts.map V.str) (0+(i:Int))=some (.str (ts.getD i "")):=by rw[Int.zero_add];exact zN (zfw (by omega))
    have e2:atI (us.map V.str) (0+(i:Int))=some (.str (us.getD i "")):=by rw[Int.zero_add];exact zN (zfw hi')
    refine⟨_,rfl,_,rfl,a,_,_,_,rfl,rfl,hA,e1,_,_,rfl,rfl,_,rfl,yl ?_⟩;refine⟨_,rfl,_,rfl,a,_,_,_,rfl,rfl,hA,e1,_,rfl,_,rfl,b,_,_,_,rfl,rfl,hB,e2,rfl,_,rfl,yj (λhne=>?_) (λhe=>?_)⟩
    ·show Q (.bl false) _;have:ts≠us:=λe=>hne (by rw[e]);rw[decide_eq_false this]at q;exact q
    ·refine⟨_,rfl,rfl,λj hj'=>?_⟩;by_cases hji:j=i
     ·subst hji;injection he
     ·exact hj j (by omega)
   ·rintro σ H2 ⟨v,rfl,rfl,hj⟩;show Q (.bl true) _;have:ts=us:=texts_all hl λj h=>hj j (by simpa using h);rw[decide_eq_true this]at q;exact q
def mixZ(c p:Int):Int:=(c*48271%2147483647+p+1)*69621%2147483647
inductive zdQ (K:Frag) (vs:List V) (H:Hp) (Q:VK) (E:XK):Prop
 | mk (c:_) (p:_):vs=[.int c,.int p]->Q (.int (mixZ c p)) H->zdQ K vs H Q E
theorem zkR(F:Fun K "_law_mix" "_law_mix" zfY f fd)(T:Txt K mg):FnOk P w K mg base CX0 1 f fd zb7 (zdQ K):=by
 refine F.ok zhE (λvs H Q E h=>?_) (λcdv A outer s H vs Q E hr h=>?_)
 ·obtain⟨c,p,rfl,_⟩:=h;rfl
 ·obtain⟨c,p,rfl,q⟩:=h;refine⟨_,(zc (zu (i:=2) zhE.nd rfl (Or.inl rfl) (zr yq (zr zdc (pv 0) zg) zg))
   (ze (zj (zr yq (zr zdc (zr yf (zr yf (pv 2) (pv 1)) zg) zg) zg)))),?_⟩
  refine⟨_,rfl,_,_,rfl,rfl,.inr ⟨by decide,by decide⟩,_,_,rfl,rfl,(by show(0:Int)<2147483647;decide),?_⟩;exact⟨_,rfl,_,rfl,_,_,rfl,rfl,_,_,rfl,rfl,_,_,rfl,rfl,.inr ⟨by decide,by decide⟩,_,_,rfl,rfl,(by show(0:Int)<2147483647;decide),q⟩
inductive zci (K:Frag) (vs:List V) (H:Hp) (Q:VK) (E:XK):Prop
 | mk (c:_) (m:_):vs=[.int c,.int m]->0<=m->m<=1000->(∀l H',Same H H'->H l=none->H' l=some (.lst ((M1.couples c m.toNat).map V.int))->Q (.ref l) H')->zci K vs H Q E
theorem zg6(F:Fun K "_law_couples" "_law_couples" zaJ f fd)(T:Txt K mg):FnOk P w K mg base CX0 1 f fd zao (zci K):=by
 refine F.ok zd6 (λvs H Q E h=>?_) (λcdv A outer s H vs Q E hr h=>?_)
 ·obtain⟨c,m,rfl,_⟩:=h;rfl
 ·obtain⟨c,m,rfl,h0,h1,q⟩:=h;refine⟨_,(zc (zu (i:=2) zd6.nd rfl (Or.inr rfl) (zo zk (zI (za zg (za zg (za zg (za zg zb))))) (zr yq (pv 0) zg) (λ_ _=>rfl)))
   (ze (zj (zL (show CompScope (zf zaJ) zeq "_law_k" ["_law_cell","_law_gap"] [0,2] _ from csM) rfl (yo rfl T.b_range (za (pv 1) zb)) (λ_ _ _ _ _=>yz) (λ_ _ _ _ _=>(zr yf (zr yq (zr yf (zr wQ (pv 1) zg) (zr zdc (pv 0) (pv 2))) zg) zg)))))),?_⟩
  refine⟨by decide,λp hp=>?_⟩;have g4:0<=c%4/\c%4<4:=⟨Int.emod_nonneg _ (by decide),Int.emod_lt_of_pos _ (by decide)⟩;have eg:atI [V.int 1,V.int 7,V.int 500,V.int 998] (c%4)=some (.int (M1.gap c)):=by
   have h:c%4=0\/c%4=1\/c%4=2\/c%4=3:=by omega
   unfold M1.gap;rcases h with h | h | h | h <;> rw[h] <;> rfl
  refine⟨_,rfl,_,_,rfl,rfl,(by show(0:Int)<4;decide),p,_,_,_,rfl,rfl,SqL.new,eg,?_⟩;refine⟨_,rfl,m,rfl,by omega,by omega,?_⟩;refine zeD (λi ys H2=>H2=upd H p (.lst [V.int 1,V.int 7,V.int 500,V.int 998])/\ys=(M1.couples c i).map V.int) ⟨rfl,rfl⟩ ?_ (le_trans (by omega) zt) ?_ ?_
  ·rintro i ys H2 hi ⟨_,rfl⟩;rw[length_map,M1.zey];exact le_refl _
  ·rintro i ys H2 hi ⟨rfl,rfl⟩;refine⟨_,rfl,_,_,rfl,rfl,⟨by decide,by decide⟩,_,rfl,_,rfl,_,_,rfl,rfl,.inl ⟨by omega,by omega⟩,_,_,rfl,rfl,_,_,rfl,rfl,(by show(0:Int)<999;decide),_,_,rfl,rfl,rfl,?_⟩;rw[M1.zje,map_append,Int.zero_add];rfl
  ·rintro ys H2 ⟨rfl,rfl⟩ l hl;exact q l _ ((Same.new hp).newT hl) (Same.free (Same.new hp) hl) zd
inductive zcT (K:Frag) (vs:List V) (H:Hp) (Q:VK) (E:XK):Prop
 | mk (c m:Int):vs=[.int c,.int m]->0<=m->m<=15->(∀(l:Addr)(H':Hp)(ts:List Str),Same H H'->H l=none->H' l=some (.lst (ts.map V.str))->ts.length=m.toNat->ts.Nodup->(∀z∈ts,M2.zfn z=true)->Q (.ref l) H')->zcT K vs H Q E
theorem abc_at{i:Int}(h0:0<=i)(h1:i<26):atI abc.cps.toList i=some (97+i.toNat):=by
 have:∀k:Fin 26,abc.cps.toList[k.val]? = some (97+k.val):=by decide +kernel
 have:=zN (this ⟨i.toNat,by omega⟩)
 rwa [show((i.toNat:Nat):Int)=i by omega]at this
theorem zh6(F:Fun K "_law_judges" "_law_judges" zbt f fd)(T:Txt K mg):FnOk P w K mg base CX0 1 f fd zaI (zcT K):=by
 refine F.ok wM (λvs H Q E h=>?_) (λcdv A outer s H vs Q E hr h=>?_)
 ·obtain⟨c,m,rfl,_⟩:=h;rfl
 ·obtain⟨c,m,rfl,m0,m1,q⟩:=h;refine⟨_,(zc (zu (i:=2) wM.nd rfl (Or.inr rfl) yg)
   (zc (zu (i:=3) wM.nd rfl (Or.inl rfl) (zr yq (pv 0) zg))
   (zc (zu (i:=4) wM.nd rfl (Or.inl rfl) (zr yq (zr wQ (pv 0) zg) (zr yf (pv 3) zg)))
   (zc (zu (i:=5) wM.nd rfl (Or.inr rfl) (zI (za (yw sl_str yg wf (yA (pv 4))) (za (yw sl_str yg (yA (pv 4)) (yA (pv 3))) zb))))
   (ze (zj (zL (show CompScope (zf zbt) zeQ "_law_k" ["_law_cell","_law_letters","_law_ends"] [0,2,5] _ from csM) rfl (yo rfl T.b_range (za (pv 1) zb)) (λ_ _ _ _ _=>yz) (λ_ _ _ _ _=>(zr zdI (zr zdI (zo (zcg (K:=K) rfl) (pv 3) zg (λ_ _=>rfl)) (zo ix_str (pv 2) (zr yq (zr yf (zr wQ (pv 1) zg) (zr zdc zg (pv 0))) zg) (λ_ _=>rfl))) (zo (zcg (K:=K) rfl) (pv 3) zg (λ_ _=>rfl))))))))))),?_⟩
  have hln:=zt;have z0:0<=c%8:=Int.emod_nonneg _ (by decide);have z1:c%8<8:=Int.emod_lt_of_pos _ (by decide);refine⟨_,rfl,_,_,rfl,rfl,(by show(0:Int)<8;decide),?_⟩;dsimp only;generalize c%8=size at z0 z1 ⊢;have p0:0<=c/8%(size+1):=Int.emod_nonneg _ (by omega);have p1:c/8%(size+1)<size+1:=Int.emod_lt_of_pos _ (by omega);refine⟨_,rfl,_,_,rfl,rfl,⟨by decide,by decide⟩,_,rfl,_,_,rfl,rfl,_,_,rfl,rfl,(by show 0<size+1;omega),?_⟩;dsimp only;generalize c/8%(size+1)=spot at p0 p1 ⊢;have he:=M10.ends_ok ⟨size.toNat,by omega⟩ ⟨spot.toNat,by omega⟩ (by show spot.toNat<=size.toNat;omega);dsimp only at he;rw[show((spot.toNat:Nat):Int)=spot by omega,show((size.toNat:Nat):Int)=size by omega]at he;refine⟨_,rfl,_,rfl,_,rfl,(by show 7<=sizeLine;decide),_,rfl,_,rfl,_,rfl,_,rfl,_,rfl,(by show 7<=sizeLine;decide),(by show 2<=sizeLine;decide),λp3 hp3=>?_⟩;generalize PySem.Txt.slice "vwxyzab" none (some spot)=e0 at he ⊢;generalize PySem.Txt.slice "vwxyzab" (some spot) (some size)=e1 at he ⊢;obtain⟨hl,h0,h1⟩:=he;have s3:=Same.new (o:=.lst [.str e0,.str e1]) hp3;have q3:=SqL.new (K:=K) (H:=H) (l:=p3) (xs:=[.str e0,.str e1]);generalize hH3:upd H p3 _=H3 at s3 q3 ⊢;refine⟨_,rfl,m,rfl,by omega,by omega,?_⟩;refine zeD (λi ys H4=>H4=H3/\ys=(M10.zdC e0 e1 (c/64) i).map V.str) ⟨rfl,rfl⟩ ?_ (by omega) ?_ ?_
  ·rintro i ys H4 hi ⟨rfl,rfl⟩;rw[length_map,M10.zhp];omega
  ·rintro i ys H4 hi ⟨rfl,rfl⟩;have i0:=Int.emod_nonneg (c/64+11*(0+(i:Int))) (show(26:Int)≠0 by decide);have i1:=Int.emod_lt_of_pos (c/64+11*(0+(i:Int))) (show(0:Int)<26 by decide);refine⟨_,rfl,p3,_,_,_,rfl,rfl,q3,rfl,_,rfl,_,rfl,_,_,rfl,rfl,⟨by decide,by decide⟩,_,rfl,_,_,rfl,rfl,.inl ⟨by decide,by decide⟩,_,_,rfl,rfl,_,_,rfl,rfl,(by show(0:Int)<26;decide),abc,_,_,rfl,rfl,(by decide),abc_at i0 i1,_,_,rfl,rfl,(by show e0.length+1<=sizeLine;omega),_,rfl,p3,_,_,_,rfl,rfl,q3,rfl,_,_,rfl,rfl,(by rw[y9];show e0.length+1+e1.length<=sizeLine;omega),rfl,?_⟩;rw[M10.zjG,map_append,Int.zero_add];rfl
  ·rintro ys H4 ⟨rfl,rfl⟩ l hl';refine q l _ _ (s3.newT hl') (s3.free hl') zd (M10.zhp _ _ _ _) (M10.zjv _ _ _ (by omega)) λz hz=>?_;unfold M10.zdC at hz;obtain⟨k,_,rfl⟩:=List.mem_map.mp hz;exact M10.zkY _ _ hl h0 h1
inductive zau (K:Frag) (vs:List V) (H:Hp) (Q:VK) (E:XK):Prop
 | mk (a:Addr) (cs:List (List Int)) (c:Int):vs=[.ref a,.int c]->Refs K (IL K) H a cs->cs.length<=1000->((∀d∈cs,c∈d))->(∀(l:Addr)(H':Hp),Same H H'->H l=none->H' l=some (.lst ((M5.zl cs c).map V.int))->Q (.ref l) H')->zau K vs H Q E
theorem zi9(F:Fun K "_law_marks" "_law_marks" zcF f fd)(T:Txt K mg):FnOk P w K mg base CX0 1 f fd ww (zau K):=by
 refine F.ok ziX (λvs H Q E h=>?_) (λcdv A outer s H vs Q E hr h=>?_)
 ·obtain⟨a,cs,c,rfl,_⟩:=h;rfl
 ·obtain⟨a,cs,c,rfl,⟨ls,hS,hR⟩,hz,hm,q⟩:=h;refine⟨_,(ze (zj (zL (show CompScope (zf zcF) ["_law_cards","_law_couple"] "_law_card_here" ["_law_couple"] [1] _ from csM) rfl (zx (pv 0)) (λ_ _ _ _ _=>yz) (λ_ _ _ _ _=>(zr yf (pe_bmK (K:=K) rfl PySem.F.plainAttrs_list PySem.F.slot_list_index PySem.F.type_list_index (mt_indexK (K:=K) rfl) (pv 0) (za (pv 1) zb)) zg))))),?_⟩;have hl:=hR.length;refine⟨_,rfl,a,rfl,⟨_,hS⟩,?_⟩;refine yb (xs:=ls.map V.ref) (λi ys H2=>H2=H/\ys=(M5.zl (cs.take i) c).map V.int) ⟨rfl,rfl⟩ ?_ (by rw[length_map];have:=zt;omega) ?_ ?_
  ·rintro i ys H2 hi ⟨rfl,rfl⟩;refine⟨hS,?_⟩;rw[length_map,M5.zX,length_take];omega
  ·rintro i x ys H2 hx ⟨rfl,rfl⟩;obtain⟨l,el,rfl⟩:=zah hx;obtain⟨d,ed,rd⟩:=hR.getL el;have hmem:=hm d (mem_of_getElem? ed);refine⟨_,rfl,.inl ⟨rfl,_,rd⟩,_,rfl,l,_,_,rfl,rfl,rd,rfl,zA _,?_⟩;rw[zac,length_map];refine⟨idxOf_lt_length_of_mem hmem,_,_,rfl,rfl,rfl,?_⟩;rw[take_succ,ed];unfold M5.zl;rw[map_append,map_append];rfl
  ·rintro ys H2 ⟨rfl,rfl⟩ l hl';rw[length_map,hl,take_length];exact q l _ (Same.new hl') hl' zd
inductive zfi (K:Frag) (vs:List V) (H:Hp) (Q:VK) (E:XK):Prop
 | mk (a:Addr) (ms:List Int) (n:Int):vs=[.ref a,.int n]->SqL K H a (ms.map V.int)->ms.length<=1000->0<=n->n<=1000->(∀(l:Addr)(H':Hp),Same H H'->H l=none->H' l=some (.lst ((M5.key ms n.toNat).map V.int))->Q (.ref l) H')->zfi K vs H Q E
theorem eqL_nil(ns:List Int):eqL (ns.map V.int) []=decide (ns=[]):=by cases ns <;> rfl
theorem zkW(F:Fun K "_law_key" "_law_key" zeI f fd)(T:Txt K mg):FnOk P w K mg base CX0 1 f fd zdT (zfi K):=by
 refine F.ok zdO (λvs H Q E h=>?_) (λcdv A outer s H vs Q E hr h=>?_)
 ·obtain⟨a,ms,n,rfl,_⟩:=h;rfl
 ·obtain⟨a,ms,n,rfl,hS,hz,n0,n1,q⟩:=h;refine⟨_,(zc (zu (i:=2) zdO.nd rfl (Or.inl rfl) (zI zb))
   (zc (yP PassesOwn.never rfl (zaG rfl T.b_range (za zg (za (zr yf (pv 1) zg) zb))) (zU (i:=3) zdO.nd rfl (Or.inr rfl))
     (zc (y6 (i:=4) (show CompScope (zf zeI) zgY "_law_mark" ["_law_number"] [3] _ from csM) rfl zdO.nd rfl (Or.inl rfl) (zx (pv 0)) (λ_ _ _ _ _=>(yC (zm zfE (pv 0) (pv 1) (zp _)))) (λ_ _ _ _ _=>(pv 0)))
   (zc (zcK (zv (PW.pt (zbZ (zm (zht hr.units0) (pv 2) (zI zb) (zp _)) (zbv (zm zgp (zr zdc zg (ya T.b_len (pv 4))) (ya T.b_len (pv 0)) (zp _))))) (ze (zP (wF PySem.F.plainAttrs_list PySem.F.slot_list_append PySem.F.type_list_append yD (pv 2) (za (pv 3) zb)))) zq))
   (ze (zcK (zv (zm (zay hr.units0) (pv 2) (zI zb) (zp _)) (zc (zP (wF PySem.F.plainAttrs_list PySem.F.slot_list_append PySem.F.type_list_append yD (pv 2) (za (pe_un un_neg (ya T.b_len (pv 4))) zb)))
   (ze (zP (wF PySem.F.plainAttrs_list PySem.F.slot_list_append PySem.F.type_list_append yD (pv 2) (za (zB (zen rfl) (by rfl) T.b_sum boot_sum (za (pv 4) zb)) zb))))) zq))))))
   (ze (zj (pv 2))))),?_⟩
  have hln:=zt;refine⟨by decide,λp0 hp0=>?_⟩;refine⟨_,rfl,_,_,rfl,rfl,_,_,rfl,⟨by decide,by decide,by omega,by omega⟩,?_⟩;refine yi (λi σ H2=>∃(v3 v4:Option V),σ=[some (.ref a),some (.int n),some (.ref p0),v3,v4]/\Same H H2/\H2 p0=some (.lst ((M5.key ms i).map V.int))) ⟨_,_,rfl,Same.new hp0,zd⟩ ?_ ?_
  ·rintro i σ H2 hi ⟨v3,v4,rfl,s2,e2⟩;have hi:i<1000:=by omega
   have hkl:=M5.key_len ms i;have hS2:=s2.seq hS;refine⟨_,rfl,a,rfl,⟨_,hS2⟩,?_⟩;refine zfR (ms:=ms) (n:=1+(i:Int)) hS2 (by omega) (λx R h=>⟨_,rfl,_,rfl,_,_,rfl,rfl,_,rfl,h⟩) (λx R h=>⟨_,rfl,h⟩) ?_;intro l3 hl3;have en:(1:Int)+(i:Int)=(i:Int)+1:=by omega
   rw[en];have hgl:(M3.got ms ((i:Int)+1)).length<=ms.length:=M3.zdf ms _;have hkey:M5.key ms (i+1)=(λa:List Int=>if a=[] then [] else a++[-((M3.got ms ((i:Int)+1)).length:Int),(M3.got ms ((i:Int)+1)).sum]) (if M5.key ms i=[]/\ms.length<2*(M3.got ms ((i:Int)+1)).length then [(i:Int)+1] else M5.key ms i):=rfl;generalize M3.got ms ((i:Int)+1)=g at hgl hkey ⊢;generalize M5.key ms i=ks at hkl hkey e2 ⊢;generalize hH3:upd H2 l3 _=H3;have s3:Same H H3:=by rw[<-hH3];exact s2.newT hl3
   have n03:p0≠l3:=zn e2 hl3;have e3:H3 p0=some (.lst (ks.map V.int)):=by rw[<-hH3,zh n03];exact e2
   have t3:H3 l3=some (.lst (g.map V.int)):=by rw[<-hH3];exact zd
   have f3:H l3=none:=s2.free hl3;refine⟨λσ' H'=>σ'=[some (.ref a),some (.int n),some (.ref p0),some (.int ((i:Int)+1)),some (.ref l3)]/\Same H H'/\H' l3=some (.lst (g.map V.int))/\H' p0=some (.lst ((if ks=[]/\ms.length<2*g.length then [(i:Int)+1] else ks).map V.int)),?_,?_⟩
   ·refine⟨_,rfl,by decide,λp4 hp4=>?_⟩;have s4:=s3.newT (o:=.lst []) hp4;have n04:p0≠p4:=zn e3 hp4;have n34:l3≠p4:=zn t3 hp4;refine⟨p0,p4,_,_,rfl,rfl,SqL.of (by rw[zh n04];exact e3),SqL.new,zA _,rfl,_,rfl,?_⟩;rw[eqL_nil];refine yB (λhk=>?_) (λhk=>yl ⟨rfl,s4,by rw[zh n34];exact t3,by rw[zh n04,if_neg (λz=>hk z.1)];exact e3⟩);refine⟨_,rfl,l3,_,rfl,.inl (SqL.of (by rw[zh n34];exact t3)),_,_,rfl,rfl,.inl ⟨by decide,by decide⟩,_,rfl,a,_,rfl,.inl (s4.seq hS),_,_,rfl,rfl,_,rfl,?_⟩;rw[length_map,length_map];refine yB (λh2=>?_) (λh2=>⟨rfl,s4,by rw[zh n34];exact t3,by rw[zh n04,if_neg (λz=>h2 (by omega))];exact e3⟩);refine⟨_,rfl,.inl ⟨rfl,_,SqL.of (by rw[zh n04];exact e3)⟩,_,rfl,p0,_,_,rfl,rfl,(by rw[zh n04];exact e3),(by rw[length_map];omega),?_⟩;refine⟨rfl,s4.put hp0,by rw[zh (Ne.symm n03),zh n34];exact t3,?_⟩;rw[lst_app,if_pos ⟨hk,by omega⟩,hk];rfl
   rintro σ' H5 ⟨rfl,s5,t5,e5⟩;have hal:(if ks=[]/\ms.length<2*g.length then [(i:Int)+1] else ks).length<=1+2*i:=by
    split
    ·rw[length_cons,length_nil];omega
    ·exact hkl
   generalize (if ks=[]/\ms.length<2*g.length then [(i:Int)+1] else ks)=as at e5 hkey hal;refine⟨λσ' H'=>σ'=[some (.ref a),some (.int n),some (.ref p0),some (.int ((i:Int)+1)),some (.ref l3)]/\Same H H'/\H' p0=some (.lst ((if as=[] then [] else as++[-(g.length:Int),g.sum]).map V.int)),?_,?_⟩
   ·refine⟨_,rfl,by decide,λp4 hp4=>?_⟩;have s4:=s5.newT (o:=.lst []) hp4;have n04:p0≠p4:=zn e5 hp4;have n34:l3≠p4:=zn t5 hp4;refine⟨p0,p4,_,_,rfl,rfl,SqL.of (by rw[zh n04];exact e5),SqL.new,zA _,rfl,_,rfl,?_⟩;rw[eqL_nil];refine yj (λhk=>?_) (λhk=>⟨rfl,s4,by rw[zh n04,if_pos hk];rw[hk]at e5;exact e5⟩);refine⟨_,rfl,.inl ⟨rfl,_,SqL.of (by rw[zh n04];exact e5)⟩,_,rfl,l3,_,rfl,.inl (SqL.of (by rw[zh n34];exact t5)),_,rfl,p0,_,_,rfl,rfl,(by rw[zh n04];exact e5),(by rw[length_map];omega),?_⟩;rw[length_map];refine⟨_,rfl,.inl ⟨rfl,_,SqL.of zd⟩,_,rfl,l3,g,rfl,SqL.of (by rw[zh (Ne.symm n03),zh n34];exact t5),p0,_,_,rfl,rfl,zd,(by rw[length_append,length_map,length_cons,length_nil];omega),?_⟩;refine⟨rfl,(s4.put hp0).put hp0,?_⟩;rw[zd,if_neg hk,map_append,append_assoc];rfl
   rintro σ' H6 ⟨rfl,s6,e6⟩;exact⟨_,_,rfl,s6,by rw[hkey];exact e6⟩
  ·rintro σ H2 ⟨v3,v4,rfl,s2,e2⟩;have e:(n+1-1).toNat=n.toNat:=by omega
   rw[e]at e2;exact⟨_,rfl,q p0 _ s2 hp0 e2⟩
inductive zcB (K:Frag) (vs:List V) (H:Hp) (Q:VK) (E:XK):Prop
 | mk (a b:Addr) (ps us:List Int):vs=[.ref a,.ref b]->SqL K H a (ps.map V.int)->SqL K H b (us.map V.int)->ps.length=us.length->us.length<=500->(∀(l:Addr)(H':Hp)(ls:List Addr),Same H H'->H l=none->H' l=some (.lst (ls.map V.ref))->All2 (TPl K H') ls (M5.rows ps us)->Q (.ref l) H')->zcB K vs H Q E
theorem zkx{ps us:List Int}{j:Nat}(h1:j<ps.length)(h2:j<us.length):(ps.zip us).take (j+1)=(ps.zip us).take j++[(ps.getD j 0,us.getD j 0)]:=by
 have e:(ps.zip us)[j]? = some (ps.getD j 0,us.getD j 0):=by
  rw[getElem?_eq_getElem (by rw[length_zip];omega),List.getElem_zip,zeH h1,zeH h2]
 rw[take_succ,e];rfl
theorem zjQ(F:Fun K "_law_rows" "_law_rows" ze2 f fd)(T:Txt K mg):FnOk P w K mg base CX0 1 f fd za2 (zcB K):=by
 refine F.ok zcw (λvs H Q E h=>?_) (λcdv A outer s H vs Q E hr h=>?_)
 ·obtain⟨a,b,ps,us,rfl,_⟩:=h;rfl
 ·obtain⟨a,b,ps,us,rfl,hA,hB,hl,hz,q⟩:=h;refine⟨_,(zc (zu (i:=2) zcw.nd rfl (Or.inl rfl) (zI zb))
   (zc (yP PassesOwn.never rfl (zaG rfl T.b_range (za zg (za (zr yf (ya T.b_len (pv 1)) zg) zb))) (zU (i:=3) zcw.nd rfl (Or.inl rfl))
     (ze (yP PassesOwn.never rfl (yo rfl T.b_range (za (ya T.b_len (pv 1)) zb)) (zU (i:=4) zcw.nd rfl (Or.inl rfl))
     (ze (zv (zm zag (zo zk (pv 0) (pv 4) (λ_ _=>rfl)) (pv 3) (zp _)) (ze (zP (wF PySem.F.plainAttrs_list PySem.F.slot_list_append PySem.F.type_list_append yD (pv 2) (za (zb9 (za (pv 3) (za (zo zk (pv 1) (pv 4) (λ_ _=>rfl)) zb))) zb)))) zq)))))
   (ze (zj (pv 2))))),?_⟩
  have hln:=zt;let F:=fun(i:Nat)=>(ps.zip us).filter λp=>decide (p.1=(i:Int)+1);have hF:∀i,(F i).length<=us.length:=λi=>by
   have:=length_filter_le (λp=>decide (p.1=(i:Int)+1)) (ps.zip us);rw[length_zip]at this;show(filter _ _).length<=_;omega
  have hR:∀i,((List.range i).flatMap F).length<=i*us.length:=λi=>by
   induction i with
   | zero=>simp
   | succ i ih =>
     rw[range_succ,flatMap_append,length_append];have e:flatMap F [i]=F i:=by simp
     rw[e,Nat.succ_mul];have:=hF i;omega
  refine⟨by decide,λp0 hp0=>?_⟩;refine⟨_,rfl,b,_,rfl,.inl ((Same.new hp0).seq hB),_,_,rfl,rfl,_,_,rfl,⟨by decide,by decide,by rw[length_map];omega,by rw[length_map];omega⟩,?_⟩;refine yi (λi σ H2=>∃(v3 v4:Option V)(ls:List Addr),σ=[some (.ref a),some (.ref b),some (.ref p0),v3,v4]/\Same H H2/\H2 p0=some (.lst (ls.map V.ref))/\All2 (TPl K H2) ls ((List.range i).flatMap F)) ⟨_,_,[],rfl,Same.new hp0,zd,.nil⟩ ?_ ?_
  ·rintro i σ H2 hi ⟨v3,v4,ls,rfl,s2,e2,r2⟩;have hi:i<us.length:=by rw[length_map]at hi;omega
   have hri:=hR i;have hmul:i*us.length<=500*500:=mul_le_mul (by omega) hz;refine⟨_,rfl,b,_,rfl,.inl (s2.seq hB),_,rfl,by omega,by rw[length_map];omega,?_⟩;refine yi (λj σ H3=>∃(v4:Option V)(ls:List Addr),σ=[some (.ref a),some (.ref b),some (.ref p0),some (.int (1+(i:Int))),v4]/\Same H H3/\H3 p0=some (.lst (ls.map V.ref))/\All2 (TPl K H3) ls ((List.range i).flatMap F++(((ps.zip us).take j).filter λp=>decide (p.1=(i:Int)+1)))) ⟨_,ls,rfl,s2,e2,by rw[List.take_zero,filter_nil,append_nil];exact r2⟩ ?_ ?_
   ·rintro j σ H3 hj ⟨v4,ls,rfl,s3,e3,r3⟩;have hj:j<us.length:=by rw[length_map]at hj;omega
    have hjp:j<ps.length:=by omega
    have e1:atI (ps.map V.int) (0+(j:Int))=some (.int (ps.getD j 0)):=by rw[Int.zero_add];exact zN (wR hjp)
    have e4:atI (us.map V.int) (0+(j:Int))=some (.int (us.getD j 0)):=by rw[Int.zero_add];exact zN (wR hj)
    have hlen:=r3.length;rw[length_append]at hlen;have hfl:=length_filter_le (λp=>decide (p.1=(i:Int)+1)) ((ps.zip us).take j);rw[length_take]at hfl;refine⟨_,rfl,_,rfl,a,_,_,_,rfl,rfl,s3.seq hA,e1,_,rfl,rfl,_,rfl,yB (λh=>?_) (λh=>?_)⟩
    ·have h:ps.getD j 0=(i:Int)+1:=by injection h with h;omega
     refine⟨_,rfl,.inl ⟨rfl,_,SqL.of e3⟩,_,rfl,_,rfl,_,rfl,b,_,_,_,rfl,rfl,s3.seq hB,e4,(by show 2<=sizeLine;decide),λp5 hp5=>?_⟩;have n05:p0≠p5:=zn e3 hp5;refine⟨p0,_,_,rfl,rfl,(by rw[zh n05];exact e3),(by rw[length_map];omega),?_⟩;refine⟨_,ls++[p5],rfl,(s3.newT hp5).put hp0,zhc ls p5,?_⟩;rw[zkx hjp hj,filter_append,filter_cons_of_pos (by simpa using h),filter_nil,<-append_assoc];refine All2.snoc (TPl.put (r3.imp λ_ _=>TPl.stays K _ _ _ _ (Same.new hp5)) (by rw[zh n05];exact e3)) ?_;refine SqT.put (ys:=ls.map V.ref) ?_ (by rw[zh n05];exact e3);show SqT K _ p5 [.int (ps.getD j 0),.int (us.getD j 0)];rw[h,Int.add_comm];exact SqT.new
    ·have h:¬ps.getD j 0=(i:Int)+1:=λz=>h (by rw[z,Int.add_comm]);refine⟨_,ls,rfl,s3,e3,?_⟩;rw[zkx hjp hj,filter_append,filter_cons_of_neg (by simpa using h),filter_nil,append_nil];exact r3
   ·rintro σ H3 ⟨v4,ls,rfl,s3,e3,r3⟩;refine⟨_,_,ls,rfl,s3,e3,?_⟩;rw[range_succ,flatMap_append];have e:flatMap F [i]=F i:=by simp
    have et:(ps.zip us).take ((us.map V.int).length:Int).toNat=ps.zip us:=take_of_length_le (by rw[length_zip,length_map];omega);rw[et]at r3;rw[e];exact r3
  ·rintro σ H2 ⟨v3,v4,ls,rfl,s2,e2,r2⟩;have e:(((us.map V.int).length:Int)+1-1).toNat=us.length:=by rw[length_map];omega
   rw[e]at r2;exact⟨_,rfl,q p0 _ ls s2 hp0 e2 r2⟩
inductive zeu (K:Frag) (vs:List V) (H:Hp) (Q:VK) (E:XK):Prop
 | mk (a b:Addr) (ms us:List Int) (n:Nat):vs=[.ref a,.ref b,.int n]->SqL K H a (ms.map V.int)->SqL K H b (us.map V.int)->ms.length=us.length->ms.length<=1000->n<=1000->((M6.yT ms us n none->∀H',Same H H'->Q .non H'))->((∀r,M6.yT ms us n (some r)->∀(l:Addr)(H':Hp),Same H H'->SqT K H' l [.int (r.1:Nat),.str r.2]->Q (.ref l) H'))->zeu K vs H Q E
theorem zkC(F:Fun K "_law_part" "_law_part" zcd f fd)(T:Txt K mg):FnOk P w K mg base CX0 1 f fd zct (zeu K):=by
 refine F.ok zcq (λvs H Q E h=>?_) (λcdv A outer s H vs Q E hr h=>?_)
 ·obtain⟨a,b,ms,us,n,rfl,_⟩:=h;rfl
 ·obtain⟨a,b,ms,us,n,rfl,hA,hB,hl,hz,hn,qn,qs⟩:=h;refine⟨_,(zc (yP PassesOwn.never rfl (zaG rfl T.b_range (za zg (za (zr yf (pv 2) zg) zb))) (zU (i:=3) zcq.nd rfl (Or.inr rfl))
   (zc (y6 (i:=4) (show CompScope (zf zcd) zex "_law_mark" ["_law_number"] [3] _ from csM) rfl zcq.nd rfl (Or.inl rfl) (zx (pv 0)) (λ_ _ _ _ _=>(yC (zm zfE (pv 0) (pv 1) (zp _)))) (λ_ _ _ _ _=>(pv 0)))
   (zc (y6 (i:=5) (show CompScope (zf zcd) zex "_law_mark" ["_law_number"] [3] _ from csM) rfl zcq.nd rfl (Or.inl rfl) (zx (pv 1)) (λ_ _ _ _ _=>(yC (zm zfE (pv 0) (pv 1) (zp _)))) (λ_ _ _ _ _=>(pv 0)))
   (zc (zcK (zv (zm yQ (zbL zgp (zr zdc zg (ya T.b_len (pv 4))) (ya T.b_len (pv 0)) (zp _)) (zbL zgp (zr zdc zg (ya T.b_len (pv 5))) (ya T.b_len (pv 0)) (zp _)) (zp _)) (ze (zj (zb9 (za (pv 3) (za yg zb))))) zq))
   (zc (zcK (zv (PW.pt (zbZ (zm zgp (zr zdc zg (ya T.b_len (pv 4))) (ya T.b_len (pv 0)) (zp _)) (zbv (zm yQ (ya T.b_len (pv 4)) (ya T.b_len (pv 5)) (zp _))))) (ze (zj (zb9 (za (pv 3) (za yg zb))))) zq))
   (ze (zv (PW.pt (zbZ (zm zgp (zr zdc zg (ya T.b_len (pv 4))) (ya T.b_len (pv 0)) (zp _)) (zbv (zm yQ (zB (zen rfl) (by rfl) T.b_sum boot_sum (za (pv 4) zb)) (zB (zen rfl) (by rfl) T.b_sum boot_sum (za (pv 5) zb)) (zp _))))) (ze (zj (zb9 (za (pv 3) (za yg zb))))) zq)))))))
   (ze (zj zgk))),?_⟩
  have hln:=zt;refine⟨_,rfl,_,_,rfl,rfl,_,_,rfl,⟨by decide,by decide,by omega,by omega⟩,?_⟩;refine yi (λi σ H2=>∃(v3 v4 v5:Option V),σ=[some (.ref a),some (.ref b),some (.int n),v3,v4,v5]/\Same H H2/\∀j:Nat,1<=j->j<=i->M6.sg ms j=M6.sg us j) ⟨_,_,_,rfl,Same.refl _,λj h1 h2=>by omega⟩ ?_ ?_
  ·rintro i σ H2 hi ⟨v3,v4,v5,rfl,s2,hj⟩;have hi:i<n:=by omega
   refine⟨_,rfl,a,rfl,⟨_,s2.seq hA⟩,?_⟩;refine zfR (ms:=ms) (n:=1+(i:Int)) (s2.seq hA) (by omega) (λx R h=>⟨_,rfl,_,rfl,_,_,rfl,rfl,_,rfl,h⟩) (λx R h=>⟨_,rfl,h⟩) ?_;intro l3 hl3;have s3:=s2.newT (o:=.lst ((M3.got ms (1+(i:Int))).map V.int)) hl3;refine⟨_,rfl,b,rfl,⟨_,s3.seq hB⟩,?_⟩;refine zfR (ms:=us) (n:=1+(i:Int)) (s3.seq hB) (by omega) (λx R h=>⟨_,rfl,_,rfl,_,_,rfl,rfl,_,rfl,h⟩) (λx R h=>⟨_,rfl,h⟩) ?_;intro l4 hl4;have en:(1:Int)+(i:Int)=((i+1:Nat):Int):=by omega
   have n34:l3≠l4:=zn zd hl4;generalize hH4:upd (upd H2 l3 _) l4 _=H4;have s4:Same H H4:=by rw[<-hH4];exact s3.newT hl4
   have t3:H4 l3=some (.lst ((M3.got ms (1+(i:Int))).map V.int)):=by rw[<-hH4,zh n34];exact zd
   have t4:H4 l4=some (.lst ((M3.got us (1+(i:Int))).map V.int)):=by rw[<-hH4];exact zd
   rw[en]at t3 t4 ⊢;have c3:(M3.got ms ((i+1:Nat):Int)).length=M3.cnt ms ((i+1:Nat):Int):=rfl;have c4:(M3.got us ((i+1:Nat):Int)).length=M3.cnt us ((i+1:Nat):Int):=rfl;have m3:(M3.got ms ((i+1:Nat):Int)).sum=M3.sm ms ((i+1:Nat):Int):=rfl;have m4:(M3.got us ((i+1:Nat):Int)).sum=M3.sm us ((i+1:Nat):Int):=rfl;have told:∀(w:Str),M6.sg ms ((i+1:Nat):Int)≠M6.sg us ((i+1:Nat):Int)->w=M6.word (M6.sg ms ((i+1:Nat):Int)) (M6.sg us ((i+1:Nat):Int))->∀(H5:Hp),Same H H5->∀p,H5 p=none->Q (.ref p) (upd H5 p (.tup [.int ((i+1:Nat):Int),.str w])):=λw hne hw H5 s5 p hp =>
    qs (i+1,w) ⟨Nat.succ_le_succ (zero_le _),hi,λj h1 h2=>hj j h1 (Nat.le_of_lt_succ h2),hne,hw⟩ p _ (s5.newT hp) SqT.new
   generalize hk:((i+1:Nat):Int)=k at *;have q3:=SqL.of (K:=K) t3;have q4:=SqL.of (K:=K) t4;have g1:(M3.got ms k).length=M3.cnt ms k:=rfl;have g2:(M3.got us k).length=M3.cnt us k:=rfl;refine⟨λσ' H'=>σ'=[some (.ref a),some (.ref b),some (.int n),some (.int k),some (.ref l3),some (.ref l4)]/\H'=H4/\(us.length<2*M3.cnt us k↔ms.length<2*M3.cnt ms k),?_,?_⟩
   ·refine⟨_,rfl,l3,_,rfl,.inl q3,_,_,rfl,rfl,.inl ⟨by decide,by decide⟩,_,rfl,a,_,rfl,.inl (s4.seq hA),_,_,rfl,rfl,_,rfl,l4,_,rfl,.inl q4,_,_,rfl,rfl,.inl ⟨by decide,by decide⟩,_,rfl,a,_,rfl,.inl (s4.seq hA),_,_,rfl,rfl,rfl,_,rfl,?_⟩;rw[length_map,length_map,length_map,g1,g2];refine yj (λhne=>?_) (λhe=>?_)
    ·have hne2:¬(ms.length<2*M3.cnt ms k↔us.length<2*M3.cnt us k):=λz=>hne (by
      show V.bl (decide ((ms.length:Int)<2*(M3.cnt ms k:Int)))=V.bl (decide ((ms.length:Int)<2*(M3.cnt us k:Int)));rw[decide_eq_decide.mpr (show(ms.length:Int)<2*(M3.cnt ms k:Int)↔(ms.length:Int)<2*(M3.cnt us k:Int)by omega)])
     refine⟨_,rfl,(by show 2<=sizeLine;decide),told "half" (λz=>hne2 ?_) ?_ H4 s4⟩
     ·by_cases c1:ms.length<2*M3.cnt ms k
      ·by_cases c2:us.length<2*M3.cnt us k
       ·exact⟨λ_=>c2,λ_=>c1⟩
       ·rw[M6.yZ c1,M6.zco (by omega)]at z;cases z
      ·by_cases c2:us.length<2*M3.cnt us k
       ·rw[M6.zco (by omega),M6.yZ c2]at z;cases z
       ·exact⟨λz=>absurd z c1,λz=>absurd z c2⟩
     ·by_cases c1:ms.length<2*M3.cnt ms k
      ·by_cases c2:us.length<2*M3.cnt us k
       ·exact absurd ⟨λ_=>c2,λ_=>c1⟩ hne2
       ·rw[M6.yZ c1,M6.zco (by omega)];rfl
      ·rw[M6.zco (show 2*M3.cnt ms k<=ms.length by omega)];rfl
    ·refine⟨rfl,rfl,?_⟩;injection he with he
     have:=decide_eq_decide.mp he;omega
   rintro σ' H' ⟨rfl,rfl,hov⟩;refine⟨λσ' H''=>σ'=[some (.ref a),some (.ref b),some (.int n),some (.int k),some (.ref l3),some (.ref l4)]/\H''=H'/\(ms.length<2*M3.cnt ms k->M3.cnt ms k=M3.cnt us k),?_,?_⟩
   ·refine⟨_,rfl,l3,_,rfl,.inl q3,_,_,rfl,rfl,.inl ⟨by decide,by decide⟩,_,rfl,a,_,rfl,.inl (s4.seq hA),_,_,rfl,rfl,_,rfl,?_⟩;rw[length_map,length_map,g1];refine yB (λh1=>?_) (λh1=>yl ⟨rfl,rfl,λz=>absurd (show(ms.length:Int)<2*(M3.cnt ms k:Int)by omega) h1⟩);refine⟨_,rfl,l3,_,rfl,.inl q3,_,rfl,l4,_,rfl,.inl q4,rfl,_,rfl,?_⟩;rw[length_map,length_map,g1,g2];refine yj (λhne=>?_) (λhe=>⟨rfl,rfl,λ_=>by injection he with he;omega⟩);have c1:ms.length<2*M3.cnt ms k:=by omega
    have hne':¬M3.cnt ms k=M3.cnt us k:=λz=>hne (by rw[z]);refine⟨_,rfl,(by show 2<=sizeLine;decide),told "count" (λz=>hne' ?_) ?_ _ s4⟩
    ·rw[M6.yZ c1,M6.yZ (hov.mpr c1)]at z;injection z with z
     have:=(Prod.mk.inj z).1;omega
    ·rw[M6.yZ c1,M6.yZ (hov.mpr c1)];show _=if((M3.cnt ms k:Nat):Int)=(M3.cnt us k:Nat)then _ else _
     rw[if_neg (by omega)]
   rintro σ' H'' ⟨rfl,rfl,hcn⟩;refine⟨_,rfl,l3,_,rfl,.inl q3,_,_,rfl,rfl,.inl ⟨by decide,by decide⟩,_,rfl,a,_,rfl,.inl (s4.seq hA),_,_,rfl,rfl,_,rfl,?_⟩;rw[length_map,length_map,g1];have same:M6.sg ms k=M6.sg us k->∀j:Nat,1<=j->j<=i+1->M6.sg ms j=M6.sg us j:=λe j h1 h2=>by
    by_cases c:j<=i
    ·exact hj j h1 c
    ·have:j=i+1:=by omega
     subst this;rw[hk];exact e
   refine yB (λh1=>?_) (λh1=>yl ⟨_,_,_,rfl,s4,same ?_⟩)
   ·have c1:ms.length<2*M3.cnt ms k:=by omega
    refine⟨_,rfl,l3,_,rfl,q3,_,rfl,l4,_,rfl,q4,rfl,_,rfl,yj (λhne=>?_) (λhe=>⟨_,_,_,rfl,s4,same ?_⟩)⟩
    ·have hne':¬M3.sm ms k=M3.sm us k:=λz=>hne (by show V.int (M3.sm ms k)=V.int (M3.sm us k);rw[z]);refine⟨_,rfl,(by show 2<=sizeLine;decide),told "sum" (λz=>hne' ?_) ?_ _ s4⟩
     ·rw[M6.yZ c1,M6.yZ (hov.mpr c1)]at z;injection z with z
      exact(Prod.mk.inj z).2
     ·rw[M6.yZ c1,M6.yZ (hov.mpr c1)];show _=if((M3.cnt ms k:Nat):Int)=(M3.cnt us k:Nat)then _ else _
      rw[if_pos (by rw[hcn c1])]
    ·injection he with he
     have he:M3.sm ms k=M3.sm us k:=he;rw[M6.yZ c1,M6.yZ (hov.mpr c1),hcn c1,he]
   ·rw[M6.zco (by omega),M6.zco (by omega)]
  ·rintro σ H2 ⟨v3,v4,v5,rfl,s2,hj⟩;have e:((n:Int)+1-1).toNat=n:=by omega
   rw[e]at hj;exact qn (λk h1 h2=>hj k h1 h2) _ s2
inductive zcb (K:Frag) (vs:List V) (H:Hp) (Q:VK) (E:XK):Prop
 | mk (a:Addr) (ns:List Int) (c:Int):vs=[.ref a,.int c]->SqL K H a (ns.map V.int)->ns.length<=1000->(∀(l:Addr)(H':Hp),Same H H'->H l=none->H' l=some (.lst ((ns.filter λo => !decide (o=c)).map V.int))->Q (.ref l) H')->zcb K vs H Q E
theorem zgW(F:Fun K "_law_without" "_law_without" zaH f fd)(T:Txt K mg):FnOk P w K mg base CX0 1 f fd zal (zcb K):=by
 refine F.ok zg9 (λvs H Q E h=>?_) (λcdv A outer s H vs Q E hr h=>?_)
 ·obtain⟨a,ns,c,rfl,_⟩:=h;rfl
 ·obtain⟨a,ns,c,rfl,hS,hz,q⟩:=h;refine⟨_,(ze (zj (zL (show CompScope (zf zaH) zeb "_law_other" ["_law_couple"] [1] _ from csM) rfl (zx (pv 0)) (λ_ _ _ _ _=>(yC (zm yQ (pv 0) (pv 1) (zp _)))) (λ_ _ _ _ _=>(pv 0))))),?_⟩;refine⟨_,rfl,a,rfl,⟨_,hS⟩,?_⟩;refine yV (xs:=ns.map V.int) (λi ys H2=>H2=H/\ys=((ns.take i).filter λo => !decide (o=c)).map V.int) ⟨rfl,rfl⟩ ?_ (by rw[length_map];have:=zt;omega) ?_ ?_
  ·rintro i ys H2 hi ⟨rfl,rfl⟩;refine⟨hS,?_⟩;rw[length_map];have:=length_filter_le (λo => !decide (o=c)) (ns.take i);rw[length_take]at this;omega
  ·rintro i x ys H2 hx ⟨rfl,rfl⟩;obtain⟨hi,rfl⟩:=yF hx;refine⟨_,rfl,_,rfl,rfl,_,rfl,yj (λh=>?_) (λh=>?_)⟩
   ·have h:¬ns.getD i 0=c:=λz=>h (by rw[z]);refine⟨_,rfl,rfl,?_⟩;rw[yE hi,filter_append,filter_cons_of_pos (by simpa using h),map_append];rfl
   ·have h:ns.getD i 0=c:=by injection h
    refine⟨rfl,?_⟩;rw[yE hi,filter_append,filter_cons_of_neg (by simpa using h),filter_nil,append_nil]
  ·rintro ys H2 ⟨rfl,rfl⟩ l hl;rw[length_map,take_length];exact q l _ (Same.new hl) hl zd
inductive zdj (K:Frag) (vs:List V) (H:Hp) (Q:VK) (E:XK):Prop
 | mk (a:Addr) (xs:List V) (ws:List Str):vs=[.ref a]->SqL K H a xs->All2 WordOf xs ws->ws.length<=200->((∀w∈ws,w.length<=2000))->(∀H',Same H H'->Q (.str (Txt.join M6.blank ws)) H')->zdj K vs H Q E
theorem zjf(F:Fun K "_law_words" "_law_words" zcG f fd)(T:Txt K mg):FnOk P w K mg base CX0 1 f fd zbs (zdj K):=by
 refine F.ok ziP (λvs H Q E h=>?_) (λcdv A outer s H vs Q E hr h=>?_)
 ·obtain⟨a,xs,ws,rfl,_⟩:=h;rfl
 ·obtain⟨a,xs,ws,rfl,hA,hW,hl,hw,q⟩:=h;refine⟨_,(ze (zj (wF PySem.F.plainAttrs_str PySem.F.slot_str_join PySem.F.type_str_join ms_join yg (za (zL (show CompScope (zf zcG) ["_law_things"] "_law_thing" [] [] _ from csM) rfl (zx (pv 0)) (λ_ _ _ _ _=>yz) (λ_ _ _ _ _=>(zM zda (by rfl) T.b_str boot_str (za (pv 0) zb)))) zb)))),?_⟩;have hln:=zt;have hxl:=hW.length;refine⟨rfl,_,rfl,a,rfl,⟨_,hA⟩,?_⟩;refine yb (xs:=xs) (λi ys H2=>H2=H/\ys=(ws.take i).map V.str) ⟨rfl,rfl⟩ ?_ (by omega) ?_ ?_
  ·rintro i ys H2 hi ⟨rfl,rfl⟩;exact⟨hA,by rw[length_map,length_take];omega⟩
  ·rintro i x ys H2 hx ⟨rfl,rfl⟩;obtain⟨w,ew,rw'⟩:=hW.getL hx;have e:(ws.take (i+1)).map V.str=(ws.take i).map V.str++[.str w]:=by rw[take_succ,ew,map_append];rfl
   cases rw' with
   | int hb=>exact⟨_,rfl,.inl ⟨_,rfl,zeA hb,rfl,e.symm⟩⟩
   | str=>exact⟨_,rfl,.inr ⟨_,rfl,rfl,e.symm⟩⟩
  rintro ys H2 ⟨rfl,rfl⟩ l hl';rw[hxl,take_length];refine⟨_,l,ws,rfl,rfl,SqL.new,by decide +kernel,hl,hw,?_⟩;exact q _ (Same.new hl')
inductive zc2 (K:Frag) (vs:List V) (H:Hp) (Q:VK) (E:XK):Prop
 | mk (a:Addr) (ms:List Int) (n:Nat):vs=[.ref a,.int n]->SqL K H a (ms.map V.int)->ms.length<=15->((∀x∈ms,1<=x/\x<=24))->n<=24->(∀(l:Addr)(H':Hp),Same H H'->H l=none->H' l=some (.lst ((M6.zd0 ms n).map V.str))->Q (.ref l) H')->zc2 K vs H Q E
theorem zhW(F:Fun K "_law_ladder" "_law_ladder" zbO f fd)(T:Txt K mg):FnOk P w K mg base CX0 1 f fd zaS (zc2 K):=by
 refine F.ok zaP (λvs H Q E h=>?_) (λcdv A outer s H vs Q E hr h=>?_)
 ·obtain⟨a,ms,n,rfl,_⟩:=h;rfl
 ·obtain⟨a,ms,n,rfl,hA,hz,hx,hn,q⟩:=h;refine⟨_,(zc (zu (i:=2) zaP.nd rfl (Or.inl rfl) (zI zb))
   (zc (yP PassesOwn.never rfl (zaG rfl T.b_range (za zg (za (zr yf (pv 1) zg) zb))) (zU (i:=3) zaP.nd rfl (Or.inr rfl))
     (zc (y6 (i:=4) (show CompScope (zf zbO) zeR "_law_mark" ["_law_number"] [3] _ from csM) rfl zaP.nd rfl (Or.inl rfl) (zx (pv 0)) (λ_ _ _ _ _=>(yC (zm zfE (pv 0) (pv 1) (zp _)))) (λ_ _ _ _ _=>(pv 0)))
   (ze (zP (wF PySem.F.plainAttrs_list PySem.F.slot_list_append PySem.F.type_list_append yD (pv 2) (za (zr zdI (zr zdI (zM zda (by rfl) T.b_str boot_str (za (ya T.b_len (pv 4)) zb)) yg) (zM zda (by rfl) T.b_str boot_str (za (zB (zen rfl) (by rfl) T.b_sum boot_sum (za (pv 4) zb)) zb))) zb))))))
   (ze (zj (pv 2))))),?_⟩
  have hln:=zt;refine⟨(by show 0<=sizeLine;decide),λl hl=>?_⟩;have s1:=Same.new (o:=.lst []) hl;have e1:upd H l (.lst []) l=some (.lst ((M6.zd0 ms 0).map V.str)):=zd;generalize hH1:upd H l _=H1 at s1 e1 ⊢;refine⟨_,rfl,_,_,rfl,rfl,_,_,rfl,⟨by decide,by decide,by omega,by omega⟩,?_⟩;rw[show((n:Int)+1-1).toNat=n by omega];refine yi (λi σ H2=>∃v w,σ=[some (.ref a),some (.int n),some (.ref l),v,w]/\Same H H2/\H2 l=some (.lst ((M6.zd0 ms i).map V.str))) ⟨_,_,rfl,s1,e1⟩ ?_ ?_
  ·rintro i σ H2 hi ⟨v,w,rfl,s2,e2⟩;refine⟨_,rfl,a,rfl,⟨_,s2.seq hA⟩,?_⟩;refine zfR (ms:=ms) (n:=1+(i:Int)) (s2.seq hA) (by omega) (λx R h=>⟨_,rfl,_,rfl,_,_,rfl,rfl,_,rfl,h⟩) (λx R h=>⟨_,rfl,h⟩) ?_;intro l3 hl3;have s3:=s2.newT (o:=.lst ((M3.got ms (1+(i:Int))).map V.int)) hl3;have e3:=(Same.new (o:=.lst ((M3.got ms (1+(i:Int))).map V.int)) hl3) _ _ e2;have g3:SqL K (upd H2 l3 (.lst ((M3.got ms (1+(i:Int))).map V.int))) l3 ((M3.got ms (1+(i:Int))).map V.int):=SqL.new;generalize hH3:upd H2 l3 _=H3 at s3 e3 g3 ⊢;have hc:=M3.zdf ms (1+(i:Int));have hs:0<=M3.sm ms (1+(i:Int))/\M3.sm ms (1+(i:Int))<=24*ms.length:=M6.zhN hx _;have hsl:=M6.zfT hz hx (1+(i:Int));have hll:(M6.zd0 ms i).length=i:=by unfold M6.zd0;rw[length_map,M6.zdu]
   refine⟨_,rfl,.inl ⟨rfl,_,SqL.of e3⟩,_,rfl,l3,_,rfl,.inl g3,.inl ⟨_,rfl,?_,_,_,rfl,rfl,?_,_,rfl,l3,_,rfl,g3,.inl ⟨_,rfl,?_,_,_,rfl,rfl,?_,?_⟩⟩⟩
   ·rw[length_map];exact zeA (by show((M3.cnt ms (1+(i:Int)):Nat):Int).natAbs<=100000;omega)
   ·rw[length_map];show(tN ((M3.cnt ms (1+(i:Int)):Nat):Int)).length+M6.sl.length<=sizeLine;rw[M6.ziR];omega
   ·exact zeA (by show(M3.sm ms (1+(i:Int))).natAbs<=100000;omega)
   ·rw[length_map];show(tN ((M3.cnt ms (1+(i:Int)):Nat):Int)++M6.sl).length+(tN (M3.sm ms (1+(i:Int)))).length<=sizeLine;rw[y9,M6.ziR];omega
   ·rw[length_map];refine⟨l,_,_,rfl,rfl,e3,by rw[length_map,hll];omega,_,_,rfl,s3.put hl,?_⟩;rw[zd,M6.zin,map_append,show(i:Int)+1=1+(i:Int)by omega];rfl
  ·rintro σ H2 ⟨v,w,rfl,s2,e2⟩;exact⟨_,rfl,q l H2 s2 hl e2⟩
inductive zdq (K:Frag) (vs:List V) (H:Hp) (Q:VK) (E:XK):Prop
 | mk (a:Addr) (cs:List (List Int)) (w k:Nat):vs=[.ref a,.int w,.int k]->Refs K (IL K) H a cs->w<cs.length->cs.length<=500->0<k->k<(cs.getD w []).length->(cs.getD w []).length<=500->(∀(l:Addr)(H':Hp),Same H H'->H l=none->Refs K (IL K) H' l ((cs.take w++[upC (cs.getD w []) k]++cs.drop (w+1)).filter λd => !decide (d=[]))->Q (.ref l) H')->zdq K vs H Q E
theorem ziK(F:Fun K "_law_moved" "_law_moved" zcn f fd)(T:Txt K mg):FnOk P w K mg base CX0 1 f fd zbJ (zdq K):=by
 refine F.ok zdS (λvs H Q E h=>?_) (λcdv A outer s H vs Q E hr h=>?_)
 ·obtain⟨a,cs,w,k,rfl,_⟩:=h;rfl
 ·obtain⟨a,cs,w,k,rfl,⟨ls,hA,rA⟩,hw,hz,k0,hk,hkz,q⟩:=h;refine⟨_,(zc (zu (i:=3) zdS.nd rfl (Or.inl rfl) (zo zk (pv 0) (pv 1) (λ_ _=>rfl)))
   (zc (zu (i:=4) zdS.nd rfl (Or.inl rfl) (zr wd (zr wd (yw wj (pv 3) wf (yA (zr zds (pv 2) zg))) (zI (za (zo zk (pv 3) (pv 2) (λ_ _=>rfl)) (za (zo zk (pv 3) (zr zds (pv 2) zg) (λ_ _=>rfl)) zb)))) (yw wj (pv 3) (yA (zr yf (pv 2) zg)) wf)))
   (ze (zj (zL (show CompScope (zf zcn) zfL "_law_other" [] [] _ from csM) rfl (zx (zr wd (zr wd (yw wj (pv 0) wf (yA (pv 1))) (zI (za (pv 4) zb))) (yw wj (pv 0) (yA (zr yf (pv 1) zg)) wf))) (λ_ _ _ _ _=>(yC (zm (yI (K:=K) rfl hr.units0) (pv 0) (zI zb) (zp _)))) (λ_ _ _ _ _=>(pv 0))))))),?_⟩
  have hln:=zt;have hll:=rA.length;obtain⟨m,em,rm⟩:=rA.at (i:=w) hw [];have am:atI (ls.map V.ref) (w:Int)=some (.ref m):=zN (yR em);generalize hd:cs.getD w []=d at *;have rm:SqL K H m (d.map V.int):=rm;refine⟨_,rfl,_,rfl,a,_,_,_,rfl,rfl,hA,am,?_⟩;refine⟨_,rfl,_,rfl,_,_,rfl,rfl,_,rfl,m,_,rfl,rm,λl1 hl1=>?_⟩;rw[zgh (by omega),show((k:Int)-1).toNat=k-1 by omega];have s1:=Same.new (o:=.lst ((d.take (k-1)).map V.int)) hl1;have e1:upd H l1 (.lst ((d.take (k-1)).map V.int)) l1=some (.lst ((d.take (k-1)).map V.int)):=zd;generalize hH1:upd H l1 _=H1 at s1 e1 ⊢;refine⟨_,rfl,_,rfl,m,_,_,_,rfl,rfl,s1.seq rm,zc6 (by omega) (by omega),_,rfl,_,rfl,_,_,rfl,rfl,m,_,_,_,rfl,rfl,s1.seq rm,zc6 (by omega) (by omega),(by show 2<=sizeLine;decide),λl2 hl2=>?_⟩;rw[show((k:Int)).toNat=k by omega,show((k:Int)-1).toNat=k-1 by omega];have s2:=Same.new (o:=.lst ([d.getD k 0,d.getD (k-1) 0].map V.int)) hl2;refine⟨l1,l2,_,[d.getD k 0,d.getD (k-1) 0].map V.int,rfl,rfl,s2 _ _ e1,zd,by simp only[length_map,length_take,length_cons,length_nil];omega,λl3 hl3=>?_⟩;rw[<-map_append];have s3:=(s1.trans s2).newT (o:=.lst ((d.take (k-1)++[d.getD k 0,d.getD (k-1) 0]).map V.int)) hl3;have e3:=zd (H:=upd H1 l2 (.lst ([d.getD k 0,d.getD (k-1) 0].map V.int))) (a:=l3) (o:=.lst ((d.take (k-1)++[d.getD k 0,d.getD (k-1) 0]).map V.int));change Same H (upd (upd H1 l2 (.lst [.int (d.getD k 0),.int (d.getD (k-1) 0)])) l3 _)at s3;change upd (upd H1 l2 (.lst [.int (d.getD k 0),.int (d.getD (k-1) 0)])) l3 _ l3=_ at e3;generalize hH3:upd (upd H1 l2 _) l3 _=H3 at s3 e3 ⊢;refine⟨_,rfl,_,rfl,_,_,rfl,rfl,_,rfl,m,_,rfl,s3.seq rm,λl4 hl4=>?_⟩;rw[zeM (by omega),show((k:Int)+1).toNat=k+1 by omega];have s4:=Same.new (o:=.lst ((d.drop (k+1)).map V.int)) hl4;refine⟨l3,l4,_,_,rfl,rfl,s4 _ _ e3,zd,by simp only[length_map,length_append,length_take,length_drop,length_cons,length_nil];omega,λl5 hl5=>?_⟩;rw[<-map_append];have s5:=(s3.trans s4).newT (o:=.lst ((d.take (k-1)++[d.getD k 0,d.getD (k-1) 0]++d.drop (k+1)).map V.int)) hl5;have e5:=zd (H:=upd H3 l4 (.lst ((d.drop (k+1)).map V.int))) (a:=l5) (o:=.lst ((d.take (k-1)++[d.getD k 0,d.getD (k-1) 0]++d.drop (k+1)).map V.int));change _=some (HO.lst ((upC d k).map V.int))at e5;generalize hH5:upd (upd H3 l4 _) l5 _=H5 at s5 e5 ⊢;refine⟨_,rfl,_,rfl,_,rfl,a,_,rfl,s5.seq hA,λl6 hl6=>?_⟩;rw[zfF (by omega),show((w:Int)).toNat=w by omega];have s6:=Same.new (o:=.lst ((ls.map V.ref).take w)) hl6;have e6:upd H5 l6 (.lst ((ls.map V.ref).take w)) l6=some (.lst ((ls.map V.ref).take w)):=zd;generalize hH6:upd H5 l6 _=H6 at s6 e6 ⊢;refine⟨_,rfl,(by show 1<=sizeLine;decide),λl7 hl7=>?_⟩;have s7:=Same.new (o:=.lst [.ref l5]) hl7;refine⟨l6,l7,_,[.ref l5],rfl,rfl,s7 _ _ e6,zd,by rw[length_take,length_map];simp only[length_cons,length_nil];omega,λl8 hl8=>?_⟩;have s8:=(s6.trans s7).newT (o:=.lst ((ls.map V.ref).take w++[.ref l5])) hl8;have e8:=zd (H:=upd H6 l7 (.lst [.ref l5])) (a:=l8) (o:=.lst ((ls.map V.ref).take w++[.ref l5]));generalize hH8:upd (upd H6 l7 _) l8 _=H8 at s8 e8 ⊢;have t8:=s5.trans s8;refine⟨_,rfl,_,rfl,_,_,rfl,rfl,_,rfl,a,_,rfl,t8.seq hA,λl9 hl9=>?_⟩;rw[zfJ (by omega),show((w:Int)+1).toNat=w+1 by omega];have s9:=Same.new (o:=.lst ((ls.map V.ref).drop (w+1))) hl9;refine⟨l8,l9,_,_,rfl,rfl,s9 _ _ e8,zd,by simp only[length_map,length_append,length_take,length_drop,length_cons,length_nil];omega,λl10 hl10=>?_⟩;have ex:(ls.map V.ref).take w++[.ref l5]++(ls.map V.ref).drop (w+1)=(ls.take w++[l5]++ls.drop (w+1)).map V.ref:=by rw[map_append,map_append,map_take,map_drop];rfl
  rw[ex];have s10:=(s8.trans s9).newT (o:=.lst ((ls.take w++[l5]++ls.drop (w+1)).map V.ref)) hl10;have e10:=zd (H:=upd H8 l9 (.lst ((ls.map V.ref).drop (w+1)))) (a:=l10) (o:=.lst ((ls.take w++[l5]++ls.drop (w+1)).map V.ref));generalize hH10:upd (upd H8 l9 _) l10 _=H10 at s10 e10 ⊢;have t10:=s5.trans s10;have r10:All2 (IL K H10) (ls.take w++[l5]++ls.drop (w+1)) (cs.take w++[upC d k]++cs.drop (w+1)):=by
   have z:=rA.imp λ_ _=>IL.stays K _ _ _ _ t10;exact((z.takeN w).app (.cons (show IL K H10 l5 (upC d k)from SqL.of (s10 _ _ e5)) .nil)).app (z.dropN (w+1))
  refine⟨l10,rfl,⟨_,SqL.of e10⟩,?_⟩;refine zaF (SqL.of e10) r10 (by simp only[length_append,length_take,length_drop,length_cons,length_nil];omega) (λm d H' R hm h=>?_) (λm H' R h=>⟨_,rfl,h⟩) λks H13 s13 r13=>?_
  ·refine⟨_,rfl,(by show 0<=sizeLine;decide),λl13 hl13=>?_⟩;have s13:=Same.new (o:=.lst []) hl13;refine⟨m,l13,_,[],rfl,rfl,s13.seq hm,SqL.new,zA _,rfl,_,rfl,?_⟩;rw[show eqL (d.map V.int) []=decide (d=[])from yH _ []];exact h _ s13
  intro l14 hl14;have t13:=t10.trans s13;exact q l14 _ (t13.newT hl14) (t13.free hl14) ⟨ks,SqL.of zd,r13.imp λ_ _=>IL.stays K _ _ _ _ (Same.new hl14)⟩
inductive zdp (K:Frag) (vs:List V) (H:Hp) (Q:VK) (E:XK):Prop
 | mk (x c n:Addr) (F:Addr->Prop) (us:List Int) (ts:List Str):vs=[.ref x,.ref c,.ref n]->SheetAt K H x F (Sh.new us ts)->H c=some (.lst (us.map V.int))->H n=some (.lst (ts.map V.str))->¬F n->us.length<=24->ts.length<=15->(∀(H':Hp)(G F':Addr->Prop)(st u g k:Addr)(ls:List Addr),Same H H'->St7 K H' G (Sh.new us ts) st n u g k x F' ls->(∀b,G b->F b\/H b=none)->Q (.ref st) H')->zdp K vs H Q E
theorem ziY(F:Fun K "_law_state" "_law_state" zcA f fd)(T:Txt K mg):FnOk P w K mg base CX0 1 f fd zbw (zdp K):=by
 refine F.ok zjp (λvs H Q E h=>?_) (λcdv A outer s H vs Q E hr h=>?_)
 ·obtain⟨x,c,n,F,us,ts,rfl,_⟩:=h;rfl
 ·obtain⟨x,c,n,F,us,ts,rfl,hSh,hC,hN,nF,hul,htl,q⟩:=h;refine⟨_,(ze (zj (zI (za (pv 2) (za (zM zO (by rfl) T.b_list boot_list (za (pv 1) zb)) (za (zI zb) (za (zL (show CompScope (zf zcA) zfS "_law_name" [] [] _ from csM) rfl (zx (pv 2)) (λ_ _ _ _ _=>yz) (λ_ _ _ _ _=>(zI zb))) (za (pv 0) (za zg (za zY zb)))))))))),?_⟩;have hln:=zt;have hSh:=hSh.kinds;have nF:¬(F n/\∃o,H n=some o/\KB o):=λz=>nF z.1;have hF0:∀b,(F b/\∃o,H b=some o/\KB o)->F b/\∃o,H b=some o/\KB o:=λb z=>z;generalize hF':(λb=>F b/\∃o,H b=some o/\KB o)=F' at hSh;have hF1:∀b,F' b->F b/\∃o,H b=some o/\KB o:=λb z=>by rw[<-hF']at z;exact z
  have nF:¬F' n:=λz=>nF (hF1 n z);refine⟨_,rfl,_,rfl,c,_,rfl,.inl (SqL.of hC),λlu hlu=>?_⟩;have s1:=Same.new (o:=.lst (us.map V.int)) hlu;have e1:upd H lu (.lst (us.map V.int)) lu=some (.lst (us.map V.int)):=zd;have f1:¬F' lu:=hSh.apart hlu;generalize hH1:upd H lu _=H1 at s1 e1 ⊢;refine⟨(by show 0<=sizeLine;decide),λlg hlg=>?_⟩;have s2:=s1.newT (o:=.lst []) hlg;have e2:upd H1 lg (.lst []) lg=some (.lst []):=zd;have f2:¬F' lg:=(hSh.same s1).apart hlg;have u2:=(Same.new (o:=.lst []) hlg) _ _ e1;have ug:lu≠lg:=zn e1 hlg;generalize hH2:upd H1 lg _=H2 at s2 e2 u2 ⊢;refine⟨_,rfl,n,rfl,⟨_,SqL.of (s2 _ _ hN)⟩,?_⟩;refine yb (xs:=ts.map V.str) (λi ys H6=>∃ls:List Addr,ys=ls.map V.ref/\Same H2 H6/\All2 (λl c=>H6 l=some (.lst (c.map V.int))/\H2 l=none) ls ((List.range i).map λ_=>([]:List Int))) ⟨[],rfl,Same.refl _,.nil⟩ ?_ (by rw[length_map];omega) ?_ ?_
  ·rintro i ys H6 hi ⟨ls,rfl,s6,r6⟩;refine⟨SqL.of (s6 _ _ (s2 _ _ hN)),?_⟩;have:=r6.length;rw[length_map,length_range]at this;rw[length_map];omega
  ·rintro i y ys H6 hy ⟨ls,rfl,s6,r6⟩;refine⟨(by show 0<=sizeLine;decide),λl hl=>⟨ls++[l],by rw[map_append];rfl,s6.newT hl,?_⟩⟩;rw[range_succ,map_append];exact(r6.imp λ_ _ z=>⟨Same.new hl _ _ z.1,z.2⟩).snoc ⟨zd,s6.free hl⟩
  rintro ys H6 ⟨ls,rfl,s6,r6⟩ lk hlk;rw[length_map]at r6;have s7:=s6.newT (o:=.lst (ls.map V.ref)) hlk;have e7:upd H6 lk (.lst (ls.map V.ref)) lk=some (.lst (ls.map V.ref)):=zd;have r7:All2 (fun(l:Addr) (c:List Int)=>upd H6 lk (.lst (ls.map V.ref)) l=some (.lst (c.map V.int))/\H2 l=none) ls ((List.range ts.length).map λ_=>([]:List Int)):=r6.imp λ_ _ z=>⟨(Same.new hlk) _ _ z.1,z.2⟩;have f7:¬F' lk:=((hSh.same s2).same s6).apart hlk;generalize hH7:upd H6 lk _=H7 at s7 e7 r7 ⊢;refine⟨_,rfl,(by show 7<=sizeLine;decide),λst hst=>?_⟩;have s8:=s7.newT (o:=.lst [.ref n,.ref lu,.ref lg,.ref lk,.ref x,.int 0,.bl false]) hst;have t8:=s2.trans s8;have f8:¬F' st:=((hSh.same s2).same s7).apart hst;have erw:(Sh.new us ts).rows=(List.range ts.length).map λ_=>([]:List Int):=by
   show ts.map (λ_=>([]:List Int))=_;refine ext_getElem (by simp) λi h1 h2=>?_;simp
  rw[<-erw]at r7;have k8:=Same.new (o:=.lst [.ref n,.ref lu,.ref lg,.ref lk,.ref x,.int 0,.bl false]) hst;have hm:∀l∈ls,H2 l=none:=λl hl=>by
   obtain⟨_,z⟩:=r7.memL hl;exact z.2
  refine q _ (λb=>F' b\/b=st\/b=lu\/b=lg\/b=lk\/b∈ls) F' st lu lg lk ls t8 ⟨hSh.same t8,zd,t8 _ _ hN,?_,s8 _ _ u2,s8 _ _ e2,⟨k8 _ _ e7,f7,r7.imp λl c z=>⟨k8 _ _ z.1,λw=>(hSh.same s2).fh l w z.2⟩⟩,f8,f1,f2,ug,λl hl=>⟨λz=>?_,λz=>?_⟩,λb z=>.inl z,.inr (.inl rfl),.inr (.inr (.inl rfl)),.inr (.inr (.inr (.inl rfl))),.inr (.inr (.inr (.inr (.inl rfl)))),λl hl=>.inr (.inr (.inr (.inr (.inr hl)))),λb z=>?_⟩ (λb z=>?_)
  ·rintro (z | z | z | z | z | z)
   ·exact nF z
   ·exact zn (s7 _ _ (s2 _ _ hN)) hst z
   ·exact zn hN hlu z
   ·exact zn (s1 _ _ hN) hlg z
   ·exact zn (s6 _ _ (s2 _ _ hN)) hlk z
   ·have:=hm n z;rw[s2 _ _ hN]at this;cases this
  ·have:=hm l hl;rw[z,e2]at this;cases this
  ·have:=hm l hl;rw[z,u2]at this;cases this
  ·rcases z with z | rfl | rfl | rfl | rfl | z
   ·obtain⟨_,o,e,t⟩:=hF1 b z;exact⟨o,t8 _ _ e,t⟩
   ·exact⟨_,zd,trivial⟩
   ·exact⟨_,s8 _ _ u2,trivial⟩
   ·exact⟨_,s8 _ _ e2,trivial⟩
   ·exact⟨_,k8 _ _ e7,trivial⟩
   ·obtain⟨w,y⟩:=r7.memL z;exact⟨_,k8 _ _ y.1,trivial⟩
  ·rcases z with z | z | z | z | z | z
   ·exact .inl (hF1 b z).1
   ·exact .inr (by rw[z];exact(s2.trans s7).free hst)
   ·exact .inr (by rw[z];exact hlu)
   ·exact .inr (by rw[z];exact s1.free hlg)
   ·exact .inr (by rw[z];exact(s2.trans s6).free hlk)
   ·exact .inr (s2.free (hm b z))
inductive zaz (K:Frag) (vs:List V) (H:Hp) (Q:VK) (E:XK):Prop
 | mk (p:Addr) (F:Addr->Prop) (S:Sh) (j:Str) (a:Addr) (ns:List Int):vs=[.ref p,.str j,.ref a]->SheetAt K H p F S->SqL K H a (ns.map V.int)->ns.length<64->((∀c,S.refuse j ns=some c->∀C H',zc3 K c C->Same H H'->E (.ref C) none H'))->((S.refuse j ns=none->∀H' F',SheetAt K H' p F' (S.hand j ns)->Deed F H F' H'->Q .non H'))->zaz K vs H Q E
theorem zf3(F:Fun K "hand_in" "Sheet.hand_in" zbk f fd)(T:Txt K mg)(c0N:Can P w K mg base 1 "whole_card" zaO (zcY K))(c0n:CanMX P w K mg base 1 (zH K "Sheet") "refuse_if_sealed" ["self"] (zR K))(c0v:CanMX P w K mg base 1 (zH K "Sheet") "refuse_unknown_judge" zK (zW K)):FnOk P w K mg base (CX1 P w) 2 f fd wA (zaz K):=by
 obtain⟨c_BadCard,n_BadCard,m_BadCard,x_BadCard⟩:=T.x_BadCard;obtain⟨c_TooManyCards,n_TooManyCards,m_TooManyCards,x_TooManyCards⟩:=T.x_TooManyCards;refine F.okX zf0 (λvs H Q E h=>?_) (λX W cdv A outer s H vs Q E hX hW fl md hr h=>?_)
 ·obtain⟨p,F,S,j,a,ns,rfl,_⟩:=h;rfl
 ·obtain⟨p,F,S,j,a,ns,rfl,hSh,hA,hz,qE,q⟩:=h;obtain⟨dx,a1,a2,a3,d,kvs,h⟩:=id hSh;subst hX;refine⟨_,(zc (zP (zeK c0n T.cl_Sheet fl (hM hr) (pv 0)))
   (zc (zP (wG c0v T.cl_Sheet fl (hM hr) (pv 0) (za (pv 1) zb)))
   (zc (zv (zJ (zF (zi c0N (hM hr) rfl (za (pv 2) (za (yN (pv 0) rfl) zb))))) (ze (wJ rfl md rfl m_BadCard x_BadCard (za yg zb))) zq)
   (zc (zv (zm op_ge (yN (pv 0) rfl) (zei T.c_MOST_CARDS rfl) (zp _)) (ze (wJ rfl md rfl m_TooManyCards x_TooManyCards (za yg zb))) zq)
   (zc (ps_dput (ziw hr) (yN (pv 0) rfl) (pv 1) (zM zO (by rfl) T.b_list boot_list (za (pv 2) zb)) rfl)
   (ze (zdF (pv 0) (zr yf (yN (pv 0) rfl) zg) rfl))))))),?_⟩
  have hln:=zt;have h24:=h.ok.c24;refine⟨_,rfl,p,dx,_,rfl,h.ip,rfl,p,F,S,rfl,hSh,(λhs C hC=>?_),λhs=>?_⟩
  ·rw[hW];exact qE "SheetSealed" (by unfold Sh.refuse;rw[if_pos hs]) C _ hC (Same.refl _)
  refine⟨_,rfl,p,dx,_,rfl,h.ip,rfl,_,rfl,p,F,S,j,rfl,hSh,(λhj C hC=>?_),λhj=>?_⟩
  ·rw[hW];exact qE "UnknownJudge" (by unfold Sh.refuse;rw[if_neg (by rw[hs];exact Bool.false_ne_true),if_neg hj]) C _ hC (Same.refl _)
  refine⟨_,rfl,_,rfl,p,_,dx,_,_,rfl,h.ip,T.cl_Sheet,T.n_Sheet_standing,rfl,a,a1,ns,S.couples,rfl,hA,SqL.of h.i1,hz,by omega,λH2 s2=>⟨_,rfl,?_⟩⟩;refine yj (λhp=>?_) (λhp=>?_)
  ·refine⟨(by show 1<=sizeLine;decide),?_⟩;rw[hW];exact qE "BadCard" (by unfold Sh.refuse;rw[if_neg (by rw[hs];exact Bool.false_ne_true),if_pos hj,if_neg hp]) _ _ n_BadCard s2
  have ip:=s2 _ _ h.ip;have i1:=s2 _ _ h.i1;have i2:=s2 _ _ h.i2;have i3:=s2 _ _ h.i3;have i4:=s2 _ _ h.i4;refine⟨_,rfl,p,_,dx,_,_,rfl,ip,T.cl_Sheet,T.n_Sheet_taken_so_far,rfl,_,_,rfl,rfl,_,rfl,yB (λht=>?_) (λht=>?_)⟩
  ·refine⟨(by show 1<=sizeLine;decide),?_⟩;rw[hW];exact qE "TooManyCards" (by unfold Sh.refuse;rw[if_neg (by rw[hs];exact Bool.false_ne_true),if_pos hj,if_pos hp,if_pos (by omega)]) _ _ n_TooManyCards s2
  have hn:S.refuse j ns=none:=by unfold Sh.refuse;rw[if_neg (by rw[hs];exact Bool.false_ne_true),if_pos hj,if_pos hp,if_neg (by omega)]
  have hk:=h.kl;have ht2:=h.ok.t200;refine⟨_,rfl,a,_,rfl,.inl (s2.seq hA),λl hl=>?_⟩;have kp:∀b o,H2 b=some o->upd H2 l (.lst (ns.map V.int)) b=some o:=λb o e=>Same.new hl b o e;refine⟨_,rfl,p,_,dx,_,_,rfl,kp _ _ ip,T.cl_Sheet,T.n_Sheet_card_by_judge,rfl,_,rfl,d,_,rfl,DPut.k (k:=Sum.inr j) (kp _ _ i4) (by omega),?_⟩;have n1:a1≠p:=yc i1 ip (by intro z;cases z);have n2:a2≠p:=yc i2 ip (by intro z;cases z);have n3:a3≠p:=yc i3 ip (by intro z;cases z);have n4:d≠p:=yc i4 ip (by intro z;cases z);have m1:a1≠d:=yc i1 i4 (by intro z;cases z);have m2:a2≠d:=yc i2 i4 (by intro z;cases z);have m3:a3≠d:=yc i3 i4 (by intro z;cases z);have lp:l≠p:=λz=>by rw[z,ip]at hl;cases hl
  have ld:l≠d:=λz=>by rw[z,i4]at hl;cases hl
  have l2:l≠a2:=λz=>by rw[z,i2]at hl;cases hl
  have ip':upd (upd H2 l (.lst (ns.map V.int))) d (.dK (zcN kvs (Sum.inr j) (.ref l))) p=some (.ins (zH K "Sheet") dx (shF a1 a2 a3 d S)):=by rw[zh (Ne.symm n4)];exact kp _ _ ip
  refine⟨_,rfl,p,_,dx,_,_,rfl,ip',T.cl_Sheet,T.n_Sheet_taken_so_far,rfl,_,_,rfl,rfl,?_⟩;refine⟨_,rfl,p,_,dx,_,rfl,ip',T.cl_Sheet,T.n_Sheet_taken_so_far,(by show 6<1000;decide),?_⟩;have et:(V.int ((S.taken:Int)+1))=.int ((S.hand j ns).taken:Nat):=by show V.int _=V.int ((S.taken+1:Nat):Int);congr 1
  show _;dsimp only;rw[et,pf_taken a1 a2 a3 d S (S.hand j ns) rfl];obtain⟨ok',_⟩:=h.ok.hand hn;have up:∀b o,H2 b=some o->b≠p->b≠d->upd (upd (upd H2 l (.lst (ns.map V.int))) d (.dK (zcN kvs (Sum.inr j) (.ref l)))) p (.ins (zH K "Sheet") dx (shF a1 a2 a3 d (S.hand j ns))) b=some o:=λb o e nb nd=>by rw[zh nb,zh nd];exact kp b o e
  have el:upd (upd (upd H2 l (.lst (ns.map V.int))) d (.dK (zcN kvs (Sum.inr j) (.ref l)))) p (.ins (zH K "Sheet") dx (shF a1 a2 a3 d (S.hand j ns))) l=some (.lst (ns.map V.int)):=by rw[zh lp,zh ld];exact zd
  refine q hn _ (λb=>F b\/b=l) ⟨dx,a1,a2,a3,d,zcN kvs (Sum.inr j) (.ref l),⟨⟨zd,up _ _ i1 n1 m1,up _ _ i2 n2 m2,up _ _ i3 n3 m3,by rw[zh n4];exact zd,?_,λk hk'=>?_,λk c hc=>?_,.inl h.fp,.inl h.f1,.inl h.f2,.inl h.f3,.inl h.f4,h.n12,h.n32,λb hb=>?_⟩,ok'⟩⟩ λb o e n=>⟨up b o (s2 _ _ e) (λz=>n (z ▸ h.fp)) (λz=>n (z ▸ h.f4)),?_⟩
  ·have:=zd3 kvs (Sum.inr j) (.ref l);show _<=S.taken+1;omega
  ·have hk':(if k=j then some ns else S.card k)=none:=hk';rw[zfI];by_cases ek:k=j
   ·rw[if_pos ek]at hk';cases hk'
   ·rw[if_neg ek]at hk';rw[if_neg (λz=>ek (by injection z))];exact h.cn k hk'
  ·have hc:(if k=j then some ns else S.card k)=some c:=hc;rw[zfI];by_cases ek:k=j
   ·rw[if_pos ek]at hc;cases hc;rw[if_pos (by rw[ek])];exact⟨l,rfl,el,.inr rfl,l2⟩
   ·rw[if_neg ek]at hc;rw[if_neg (λz=>ek (by injection z))];obtain⟨l',x1,x2,x3,x4⟩:=h.cs k c hc;exact⟨l',x1,up _ _ (s2 _ _ x2) (yc x2 h.ip (by intro z;cases z)) (yc x2 h.i4 (by intro z;cases z)),.inl x3,x4⟩
  ·by_cases hbp:b=p
   ·rw[hbp,zd];exact λz=>nomatch z
   rw[zh hbp];by_cases hbd:b=d
   ·rw[hbd,zd];exact λz=>nomatch z
   rw[zh hbd];rcases hb with hb | hb
   ·have:=h.fh b hb;cases e:H b with
    | none=>exact absurd e this
    | some o=>rw[kp _ _ (s2 _ _ e)];exact λz=>nomatch z
   ·rw[hb,zd];exact λz=>nomatch z
  ·rintro (z | z)
   ·exact n z
   ·have:=s2 _ _ e;rw[z,hl]at this;cases this
inductive zbp (K:Frag) (vs:List V) (H:Hp) (Q:VK) (E:XK):Prop
 | mk (p:Addr) (F:Addr->Prop) (S:Sh) (c:Int):vs=[.ref p,.int c]->SheetAt K H p F S->((∀x,S.refuseS c=some x->∀C,zc3 K x C->E (.ref C) none H))->((S.refuseS c=none->∀H' F',SheetAt K H' p F' (S.strike c)->Deed F H F' H'->Q .non H'))->zbp K vs H Q E
theorem zgT(F:Fun K "strike" "Sheet.strike" zb2 f fd)(T:Txt K mg)(c0I:Can P w K mg base 1 "without_couple" wl (zad K))(c0a:CanM P w K mg base 1 (zH K "Sheet") "handed" zQ (zZ K))(c0n:CanMX P w K mg base 1 (zH K "Sheet") "refuse_if_sealed" ["self"] (zR K)):FnOk P w K mg base (CX1 P w) 2 f fd wS (zbp K):=by
 obtain⟨c_UnknownCouple,n_UnknownCouple,m_UnknownCouple,x_UnknownCouple⟩:=T.x_UnknownCouple;obtain⟨c_LastCouple,n_LastCouple,m_LastCouple,x_LastCouple⟩:=T.x_LastCouple;refine F.okX zdW (λvs H Q E h=>?_) (λX W cdv A outer s H vs Q E hX hW fl md hr h=>?_)
 ·obtain⟨p,F,S,c,rfl,_⟩:=h;rfl
 ·obtain⟨p,F,S,c,rfl,hSh,qE,q⟩:=h;obtain⟨dx,a1,a2,a3,d,kvs,h⟩:=id hSh;subst hX;refine⟨_,(zc (zP (zeK c0n T.cl_Sheet fl (hM hr) (pv 0)))
   (zc (zv (zm zbF (pv 1) (yN (pv 0) rfl) (by first | exact zp _ | rfl)) (ze (wJ rfl md rfl m_UnknownCouple x_UnknownCouple (za yg zb))) zq)
   (zc (zv (zm zag (ya T.b_len (yN (pv 0) rfl)) zg (zp _)) (ze (wJ rfl md rfl m_LastCouple x_LastCouple (za yg zb))) zq)
   (zc (zdF (pv 0) (zi c0I (hM hr) rfl (za (yN (pv 0) rfl) (za (pv 1) zb))) rfl)
   (zc (zP (wF PySem.F.plainAttrs_list PySem.F.slot_list_append PySem.F.type_list_append yD (yN (pv 0) rfl) (za (pv 1) zb)))
   (ze (yP PassesOwn.leaving rfl (zx (zE c0a T.cl_Sheet (hM hr) (pv 0))) (zU (i:=2) zdW.nd rfl (Or.inl rfl))
     (ze (ps_dput (ziw hr) (yN (pv 0) rfl) (pv 2) (zi c0I (hM hr) rfl (za (pe_dget (ziw hr) (yN (pv 0) rfl) (pv 2) (λ_ _=>rfl)) (za (pv 1) zb))) rfl))))))))),?_⟩
  have hln:=zt;have h24:=h.ok.c24;refine⟨_,rfl,p,dx,_,rfl,h.ip,rfl,p,F,S,rfl,hSh,(λhs C hC=>?_),λhs=>?_⟩
  ·rw[hW];exact qE "SheetSealed" (by unfold Sh.refuseS;rw[if_pos hs]) C hC
  have hs':¬S.shut=true:=by rw[hs];exact Bool.false_ne_true
  refine⟨_,rfl,_,rfl,p,_,dx,_,_,rfl,h.ip,T.cl_Sheet,T.n_Sheet_standing,rfl,a1,_,rfl,.inl (SqL.of h.i1),rfl,zA _,_,rfl,?_⟩;rw[zhq];refine yj (λhc=>?_) (λhc=>?_)
  ·refine⟨(by show 1<=sizeLine;decide),?_⟩;rw[hW];exact qE "UnknownCouple" (by unfold Sh.refuseS;rw[if_neg hs',if_neg hc]) _ n_UnknownCouple
  refine⟨_,rfl,p,_,dx,_,_,rfl,h.ip,T.cl_Sheet,T.n_Sheet_standing,rfl,a1,_,rfl,.inl (SqL.of h.i1),rfl,_,rfl,?_⟩;rw[length_map];refine yB (λh1=>?_) (λh1=>?_)
  ·refine⟨(by show 1<=sizeLine;decide),?_⟩;rw[hW];injection h1 with h1
   exact qE "LastCouple" (by unfold Sh.refuseS;rw[if_neg hs',if_pos hc,if_pos (by omega)]) _ n_LastCouple
  have h1:S.couples.length≠1:=λz=>h1 (by rw[z];rfl);have hn:S.refuseS c=none:=by unfold Sh.refuseS;rw[if_neg hs',if_pos hc,if_neg h1]
  refine⟨_,rfl,p,_,dx,_,_,rfl,h.ip,T.cl_Sheet,T.n_Sheet_standing,rfl,_,rfl,a1,S.couples,c,rfl,SqL.of h.i1,by omega,λb1 H2 s2 f2 e2=>?_⟩;have ip:=s2 _ _ h.ip;have i2:=s2 _ _ h.i2;have i3:=s2 _ _ h.i3;have i4:=s2 _ _ h.i4;refine⟨_,rfl,p,_,dx,_,rfl,ip,T.cl_Sheet,T.n_Sheet_standing,(by show 6<1000;decide),?_⟩;rw[zkk a1 a2 a3 d b1 S (S.strike c) rfl rfl];have n2:a2≠p:=yc i2 ip (by intro z;cases z);have n3:a3≠p:=yc i3 ip (by intro z;cases z);have n4:d≠p:=yc i4 ip (by intro z;cases z);have n1:b1≠p:=yc e2 ip (by intro z;cases z);have m2:a2≠d:=yc i2 i4 (by intro z;cases z);have b2:b1≠a2:=λz=>by rw[z,h.i2]at f2;cases f2
  have ni2:upd H2 p (.ins (zH K "Sheet") dx (shF b1 a2 a3 d (S.strike c))) a2=some (.lst (S.struck.map V.int)):=by rw[zh n2];exact i2
  refine⟨_,rfl,p,_,dx,_,_,rfl,zd,T.cl_Sheet,T.n_Sheet_struck_so_far,rfl,.inl ⟨rfl,_,SqL.of ni2⟩,_,rfl,a2,_,_,rfl,rfl,ni2,(by rw[length_map];omega),?_⟩;have up:∀b o,H2 b=some o->b≠p->b≠a2->upd (upd H2 p (.ins (zH K "Sheet") dx (shF b1 a2 a3 d (S.strike c)))) a2 (.lst (S.struck.map V.int++[V.int c])) b=some o:=λb o e nb nd=>by rw[zh nd,zh nb];exact e
  have up1:upd (upd H2 p (.ins (zH K "Sheet") dx (shF b1 a2 a3 d (S.strike c)))) a2 (.lst (S.struck.map V.int++[V.int c])) p=some (.ins (zH K "Sheet") dx (shF b1 a2 a3 d (S.strike c))):=by rw[zh (Ne.symm n2)];exact zd
  have up2:upd (upd H2 p (.ins (zH K "Sheet") dx (shF b1 a2 a3 d (S.strike c)))) a2 (.lst (S.struck.map V.int++[V.int c])) a2=some (.lst ((S.strike c).struck.map V.int)):=lst_app _ _;generalize hH3:upd (upd H2 p _) a2 _=H3 at up up1 up2 ⊢;have F3:∀b,(F b\/b=b1)->H3 b≠none:=λb hb=>by
   by_cases hbp:b=p
   ·rw[hbp,up1];exact λz=>nomatch z
   by_cases hba:b=a2
   ·rw[hba,up2];exact λz=>nomatch z
   rcases hb with hb | hb
   ·have:=h.fh b hb;cases e:H b with
    | none=>exact absurd e this
    | some o=>rw[up _ _ (s2 _ _ e) hbp hba];exact λz=>nomatch z
   ·rw[hb,up _ _ e2 n1 b2];exact λz=>nomatch z
  have D3:Deed F H (λb=>F b\/b=b1) H3:=λb o e n=>⟨up b o (s2 _ _ e) (λz=>n (z ▸ h.fp)) (λz=>n (z ▸ h.f2)),λz=>z.elim n λz=>by rw[z,f2]at e;cases e⟩;have hcs:∀j cd,S.card j=some cd->∃l,zaB kvs (Sum.inr j)=some (.ref l)/\H3 l=some (.lst (cd.map V.int))/\(F l\/l=b1)/\l≠a2:=λj cd e=>by
   obtain⟨l,x1,x2,x3,x4⟩:=h.cs j cd e;exact⟨l,x1,up _ _ (s2 _ _ x2) (yc x2 h.ip (by intro z;cases z)) x4,.inl x3,x4⟩
  obtain⟨ok',_⟩:=h.ok.strike hn;refine⟨_,rfl,p,dx,_,rfl,up1,rfl,p,(λb=>F b\/b=b1),⟨wo c S.couples,S.struck++[c],S.panel,S.card,S.taken,S.shut⟩,rfl,⟨dx,b1,a2,a3,d,kvs,⟨up1,up _ _ e2 n1 b2,up2,up _ _ i3 n3 h.n32,up _ _ i4 n4 (Ne.symm m2),h.kl,h.cn,hcs,.inl h.fp,.inr rfl,.inl h.f2,.inl h.f3,.inl h.f4,b2,h.n32,F3⟩⟩,h.ok.p15,λa H4 s4 f4 e4=>?_⟩;have hhl:S.handed.length<=15:=le_trans (length_filter_le _ _) h.ok.p15;refine⟨a,rfl,⟨_,SqL.of e4⟩,?_⟩;refine zfA (xs:=S.handed.map V.str) (λi σ H5=>∃(v:Option V)(kvs':List (Key×V)) (F':Addr->Prop),σ=[some (.ref p),some (.int c),v]/\H5 p=some (.ins (zH K "Sheet") dx (shF b1 a2 a3 d (S.strike c)))/\H5 b1=some (.lst ((wo c S.couples).map V.int))/\H5 a2=some (.lst ((S.strike c).struck.map V.int))/\H5 a3=some (.lst (S.panel.map V.str))/\H5 d=some (.dK kvs')/\H5 a=some (.lst (S.handed.map V.str)) /\
   kvs'.length<=S.taken/\(∀j,S.card j=none->zaB kvs' (Sum.inr j)=none)/\(∀j cd,S.card j=some cd->∃l,zaB kvs' (Sum.inr j)=some (.ref l)/\H5 l=some (.lst ((if j∈S.handed.take i then wo c cd else cd).map V.int))/\F' l/\l≠a2)/\(∀b,F b->F' b)/\F' b1/\(∀b,F' b->H5 b≠none)/\Deed F H F' H5)
   ⟨_,kvs,λb=>F b\/b=b1,rfl,s4 _ _ up1,s4 _ _ (up _ _ e2 n1 b2),s4 _ _ up2,s4 _ _ (up _ _ i3 n3 h.n32),s4 _ _ (up _ _ i4 n4 (Ne.symm m2)),e4,h.kl,h.cn,(λj cd e=>?_),(λb hb=>.inl hb),.inr rfl,(λb hb=>?_),λb o e n=>⟨s4 _ _ (D3 b o e n).1,(D3 b o e n).2⟩⟩ ?_ ?_ ?_
  ·obtain⟨l,x1,x2,x3,x4⟩:=hcs j cd e;exact⟨l,x1,by rw[if_neg (by rw[List.take_zero];exact not_mem_nil)];exact s4 _ _ x2,x3,x4⟩
  ·have:=F3 b hb;cases e:H3 b with
   | none=>exact absurd e this
   | some o=>rw[s4 _ _ e];exact λz=>nomatch z
  ·rintro i σ H5 hi ⟨v,kvs',F',rfl,w1,w2,w3,w4,w5,w6,_⟩;exact SqL.of w6
  ·rintro i x σ H5 hx ⟨v,kvs',F',rfl,w1,w2,w3,w4,w5,w6,w7,w8,w9,w10,w11,w12,w13⟩;obtain⟨hi,rfl⟩:=zca hx;have hm:=List.mem_filter.mp (show S.handed.getD i "" ∈ S.panel.filter λj=>(S.card j).isSome from zbb hi);generalize hj:S.handed.getD i ""=j at hm;cases e:S.card j with
   | none=>rw[e]at hm;exact absurd hm.2 Bool.false_ne_true
   | some cd =>
     have hnd:S.handed.Nodup:=h.ok.pnd.filter _;have hnt:j∉S.handed.take i:=λz=>by
      have e1:S.handed.take (i+1)=S.handed.take i++[j]:=by rw[yp hi,hj]
      have e2:(S.handed.take (i+1)).Nodup:=hnd.sublist (List.take_sublist _ _);rw[e1]at e2;exact(List.nodup_append.mp e2).2.2 j z j (List.mem_singleton.mpr rfl) rfl
     obtain⟨l,x1,x2,x3,x4⟩:=w9 j cd e;rw[if_neg hnt]at x2;have hcl:cd.length<=24:=by have:=(h.ok.cd j cd e).2.length_eq;omega
     refine⟨_,rfl,p,_,dx,_,_,rfl,w1,T.cl_Sheet,T.n_Sheet_card_by_judge,rfl,_,rfl,d,.ref l,rfl,x1 ▸ DGet.k (k:=Sum.inr j) w5,_,rfl,l,cd,c,rfl,SqL.of x2,by omega,λl' H6 s6 f6 e6=>?_⟩;refine⟨_,rfl,p,_,dx,_,_,rfl,s6 _ _ w1,T.cl_Sheet,T.n_Sheet_card_by_judge,rfl,_,rfl,d,_,rfl,DPut.k (k:=Sum.inr j) (s6 _ _ w5) (by have:=h.ok.t200;omega),?_⟩;have nd:∀b o,H6 b=some o->(∀k,o ≠ .dK k)->upd H6 d (.dK (zcN kvs' (Sum.inr j) (.ref l'))) b=some o:=λb o e n=>by rw[zh (yc e (s6 _ _ w5) (n _))];exact e
     have ld:l'≠d:=yc e6 (s6 _ _ w5) (by intro z;cases z);refine⟨_,zcN kvs' (Sum.inr j) (.ref l'),λb=>F' b\/b=l',rfl,nd _ _ (s6 _ _ w1) (λ_ z=>nomatch z),nd _ _ (s6 _ _ w2) (λ_ z=>nomatch z),nd _ _ (s6 _ _ w3) (λ_ z=>nomatch z),nd _ _ (s6 _ _ w4) (λ_ z=>nomatch z),zd,nd _ _ (s6 _ _ w6) (λ_ z=>nomatch z),by rw[putK_len x1];exact w7,λk hk=>?_,λk b hk=>?_,λb hb=>.inl (w10 b hb),.inl w11,λb hb=>?_,λb o e' n=>?_⟩
     ·rw[zfI,if_neg (λz=>by injection z with z;rw[z,e]at hk;cases hk)];exact w8 k hk
     ·rw[zfI,yp hi,hj];by_cases ek:k=j
      ·subst ek;rw[e]at hk;cases hk;rw[if_pos rfl];refine⟨l',rfl,?_,.inr rfl,λz=>by rw[z,w3]at f6;cases f6⟩;rw[if_pos (mem_append_right _ (List.mem_singleton.mpr rfl))];exact nd _ _ e6 (λ_ z=>nomatch z)
      ·rw[if_neg (λz=>ek (by injection z))];obtain⟨m,y1,y2,y3,y4⟩:=w9 k b hk;refine⟨m,y1,?_,.inl y3,y4⟩;have:(k∈S.handed.take i++[j])↔k∈S.handed.take i:=by
        rw[mem_append,List.mem_singleton];exact⟨λz=>z.elim id λw=>absurd w ek,.inl⟩
       simp only[this];exact nd _ _ (s6 _ _ y2) (λ_ z=>nomatch z)
     ·by_cases hbd:b=d
      ·rw[hbd,zd];exact λz=>nomatch z
      rw[zh hbd];rcases hb with hb | hb
      ·have:=w12 b hb;cases e7:H5 b with
       | none=>exact absurd e7 this
       | some o=>rw[s6 _ _ e7];exact λz=>nomatch z
      ·rw[hb,e6];exact λz=>nomatch z
     ·obtain⟨y1,y2⟩:=w13 b o e' n;refine⟨?_,λz=>z.elim y2 λw=>by rw[w,f6]at y1;cases y1⟩;have nbd:b≠d:=λz=>n (by rw[z];exact h.f4);rw[zh nbd];exact s6 _ _ y1
  ·rintro σ H5 ⟨v,kvs',F',rfl,w1,w2,w3,w4,w5,w6,w7,w8,w9,w10,w11,w12,w13⟩;rw[length_map,take_length]at w9;refine q hn H5 F' ⟨dx,b1,a2,a3,d,kvs',⟨⟨w1,w2,w3,w4,w5,w7,λj hj=>?_,λj b hj=>?_,w10 _ h.fp,w11,w10 _ h.f2,w10 _ h.f3,w10 _ h.f4,b2,h.n32,w12⟩,ok'⟩⟩ w13
   ·have hj:(S.card j).map (wo c)=none:=hj;exact w8 j (Option.map_eq_none_iff.mp hj)
   ·have hj:(S.card j).map (wo c)=some b:=hj;obtain⟨cd,e,rfl⟩:=Option.map_eq_some_iff.mp hj;obtain⟨l,x1,x2,x3,x4⟩:=w9 j cd e;refine⟨l,x1,?_,x3,x4⟩;have hin:j∈S.handed:=List.mem_filter.mpr ⟨(h.ok.cd j cd e).1,by rw[e];rfl⟩;rw[if_pos hin]at x2;exact x2
inductive zcJ (K:Frag) (vs:List V) (H:Hp) (Q:VK) (E:XK):Prop
 | mk (p:Addr) (F:Addr->Prop) (S:Sh):vs=[.ref p]->SheetAt K H p F S->((S.shut=true->∀C,zc3 K "SheetSealed" C->E (.ref C) none H))->((S.shut=false->∀H',SheetAt K H' p F S.close->Deed F H F H'->Q .non H'))->zcJ K vs H Q E
theorem zh9(F:Fun K "seal" "Sheet.seal" zdP f fd)(T:Txt K mg)(c0n:CanMX P w K mg base 1 (zH K "Sheet") "refuse_if_sealed" ["self"] (zR K)):FnOk P w K mg base (CX1 P w) 2 f fd ["self"] (zcJ K):=by
 refine F.okX zhZ (λvs H Q E h=>?_) (λX W cdv A outer s H vs Q E hX hW fl md hr h=>?_)
 ·obtain⟨p,F,S,rfl,_⟩:=h;rfl
 ·obtain⟨p,F,S,rfl,⟨dx,a1,a2,a3,d,kvs,h⟩,qE,q⟩:=h;subst hX;refine⟨_,(zc (zP (zeK c0n T.cl_Sheet fl (hM hr) (pv 0)))
   (ze (zdF (pv 0) zY rfl))),?_⟩
  refine⟨_,rfl,p,dx,_,rfl,h.ip,rfl,p,F,S,rfl,⟨dx,a1,a2,a3,d,kvs,h⟩,λhs C hC=>by rw[hW];exact qE hs C hC,λhs=>?_⟩;refine⟨_,rfl,p,_,dx,_,rfl,h.ip,T.cl_Sheet,T.n_Sheet_sealed,(by show 6<1000;decide),?_⟩;rw[show V.bl true=V.bl S.close.shut from rfl,pf_sealed a1 a2 a3 d S S.close rfl];have up:∀b o,H b=some o->b≠p->upd H p (.ins (zH K "Sheet") dx (shF a1 a2 a3 d S.close)) b=some o:=λb o e n=>by rw[zh n];exact e
  have n1:a1≠p:=yc h.i1 h.ip (by intro z;cases z);have n2:a2≠p:=yc h.i2 h.ip (by intro z;cases z);have n3:a3≠p:=yc h.i3 h.ip (by intro z;cases z);have n4:d≠p:=yc h.i4 h.ip (by intro z;cases z);refine q hs _ ⟨dx,a1,a2,a3,d,kvs,⟨⟨zd,up _ _ h.i1 n1,up _ _ h.i2 n2,up _ _ h.i3 n3,up _ _ h.i4 n4,h.kl,h.cn,λj c hc=>?_,h.fp,h.f1,h.f2,h.f3,h.f4,h.n12,h.n32,λb hb=>?_⟩,h.ok.close⟩⟩ λb o e n=>⟨up b o e λz=>n (z ▸ h.fp),n⟩
  ·obtain⟨l,x1,x2,x3,x4⟩:=h.cs j c hc;exact⟨l,x1,up _ _ x2 (yc x2 h.ip (by intro z;cases z)),x3,x4⟩
  ·by_cases hbp:b=p
   ·rw[hbp,zd];exact λz=>nomatch z
   ·rw[zh hbp];exact h.fh b hb
inductive ym (K:Frag) (vs:List V) (H:Hp) (Q:VK) (E:XK):Prop
 | mk (p:Addr) (F:Addr->Prop) (S:Sh) (j:Str):vs=[.ref p,.str j]->SheetAt K H p F S->((j∉S.panel->∀C,zc3 K "UnknownJudge" C->E (.ref C) none H))->((j∈S.panel->S.card j=none->∀C,zc3 K "NoCard" C->E (.ref C) none H))->((∀c,S.card j=some c->∀(l:Addr)(H':Hp),Same H H'->H l=none->H' l=some (.lst (c.map V.int))->Q (.ref l) H'))->ym K vs H Q E
theorem zfZ(F:Fun K "card_of" "Sheet.card_of" zbn f fd)(T:Txt K mg)(c0v:CanMX P w K mg base 1 (zH K "Sheet") "refuse_unknown_judge" zK (zW K)):FnOk P w K mg base (CX1 P w) 2 f fd yd (ym K):=by
 obtain⟨c_NoCard,n_NoCard,m_NoCard,x_NoCard⟩:=T.x_NoCard;refine F.okX zgj (λvs H Q E h=>?_) (λX W cdv A outer s H vs Q E hX hW fl md hr h=>?_)
 ·obtain⟨p,F,S,j,rfl,_⟩:=h;rfl
 ·obtain⟨p,F,S,j,rfl,⟨dx,a1,a2,a3,d,kvs,h⟩,qU,qN,q⟩:=h;subst hX;refine⟨_,(zc (zP (wG c0v T.cl_Sheet fl (hM hr) (pv 0) (za (pv 1) zb)))
   (zc (zv (pt_cmp (pc_dnotin (ziw hr) (pv 1) (yN (pv 0) rfl))) (ze (wJ rfl md rfl m_NoCard x_NoCard (za yg zb))) zq)
   (ze (zj (zM zO (by rfl) T.b_list boot_list (za (pe_dget (ziw hr) (yN (pv 0) rfl) (pv 1) (λ_ _=>rfl)) zb)))))),?_⟩
  refine⟨_,rfl,p,dx,_,rfl,h.ip,rfl,_,rfl,p,F,S,j,rfl,⟨dx,a1,a2,a3,d,kvs,h⟩,λhj C hC=>by rw[hW];exact qU hj C hC,λhj=>?_⟩;refine⟨_,rfl,_,rfl,p,_,dx,_,_,rfl,h.ip,T.cl_Sheet,T.n_Sheet_card_by_judge,rfl,d,_,rfl,DGet.k (k:=Sum.inr j) h.i4,_,rfl,?_⟩;cases e:S.card j with
  | none =>
    rw[h.cn _ e];exact⟨(by show 1<=sizeLine;decide),by rw[hW];exact qN hj e _ n_NoCard⟩
  | some c =>
    obtain⟨l,e1,e2,_⟩:=h.cs _ _ e;rw[e1];refine⟨_,rfl,p,_,dx,_,_,rfl,h.ip,T.cl_Sheet,T.n_Sheet_card_by_judge,rfl,_,rfl,d,.ref l,rfl,e1 ▸ DGet.k (k:=Sum.inr j) h.i4,l,_,rfl,.inl (SqL.of e2),λl' hl'=>?_⟩;exact q c e l' _ (Same.new hl') hl' zd
inductive zbq (K:Frag) (vs:List V) (H:Hp) (Q:VK) (E:XK):Prop
 | mk (a:Addr) (ns:List Int):vs=[.ref a]->SqL K H a (ns.map V.int)->ns.length<4000->(∀H',Same H H'->Q (.bl (M1.zc7 ns)) H')->zbq K vs H Q E
theorem zgH(F:Fun K "good_couples" "good_couples" zaw f fd)(T:Txt K mg)(c0O:Can P w K mg base 1 "good_number" ["couple"] (zb6 K))(c0o:Can P w K mg base 1 "good_length" yU (wp K))(c0w:Can P w K mg base 1 "all_unlike" ["things"] (zaW K)):FnOk P w K mg base CX0 2 f fd ["couples"] (zbq K):=by
 refine F.ok zgL (λvs H Q E h=>?_) (λcdv A outer s H vs Q E hr h=>?_)
 ·obtain⟨a,ns,rfl,_⟩:=h;rfl
 ·obtain⟨a,ns,rfl,hS,hz,q⟩:=h;refine⟨_,(ze (zj (zdo (zi c0o (hM hr) rfl (za (pv 0) (za (zei T.c_MOST_COUPLES rfl) zb))) (zdo (zi c0w (hM hr) rfl (za (pv 0) zb)) (zhf (zB (zhw rfl) (by rfl) T.b_all boot_all (za (zL (show CompScope (zf zaw) ["couples"] "couple" [] [] _ from csM) rfl (zx (pv 0)) (λ_ _ _ _ _=>yz) (λ_ _ _ _ _=>(zi c0O (hM hr) rfl (za (pv 0) zb)))) zb))))))),?_⟩;refine⟨_,rfl,_,_,_,rfl,.inl ⟨_,hS,rfl⟩,_,rfl,?_⟩;rw[length_map];unfold M1.zc7 at q;refine zhi (λh1=>?_) (λh1=>?_)
  ·rw[h1,Bool.true_and]at q;refine⟨_,rfl,a,rfl,.inl ⟨ns,hS,hz,λH1 s1=>⟨_,rfl,yB (λh2=>?_) (λh2=>?_)⟩⟩⟩
   ·rw[decide_eq_true h2,Bool.true_and]at q;have hS1:=s1.seq hS;refine⟨_,rfl,a,rfl,⟨_,hS1⟩,?_⟩;refine yb (xs:=ns.map V.int) (λi ys H2=>H2=H1/\ys=((ns.take i).map λn=>decide (1<=n) && decide (n<=999)).map V.bl) ⟨rfl,rfl⟩ ?_ (by rw[length_map];have:=zt;omega) ?_ ?_
    ·rintro i ys H2 hi ⟨rfl,rfl⟩;exact⟨hS1,by simp only[length_map,length_take];omega⟩
    ·rintro i x ys H2 hx ⟨rfl,rfl⟩;obtain⟨hi,rfl⟩:=yF hx;refine⟨_,rfl,_,rfl,rfl,?_⟩;rw[yE hi,map_append,map_append];rfl
    ·rintro ys H2 ⟨rfl,rfl⟩ l hl;rw[length_map,take_length];exact⟨l,_,rfl,SqL.new,q _ (s1.newT hl)⟩
   ·rw[decide_eq_false h2,Bool.false_and]at q;exact q _ s1
  ·rw[h1,Bool.false_and]at q;exact q _ (Same.refl _)
inductive zdJ (K:Frag) (vs:List V) (H:Hp) (Q:VK) (E:XK):Prop
 | mk (z:Str):vs=[.str z]->z.length<=1000->(∀H',Same H H'->Q (.bl (M2.zfn z)) H')->zdJ K vs H Q E
theorem zjx(F:Fun K "good_name" "good_name" zcp f fd)(T:Txt K mg)(c0P:Can P w K mg base 1 "small_letter" ["sign"] (zbo K))(c0o:Can P w K mg base 1 "good_length" yU (wp K)):FnOk P w K mg base CX0 2 f fd ["judge"] (zdJ K):=by
 refine F.ok zjc (λvs H Q E h=>?_) (λcdv A outer s H vs Q E hr h=>?_)
 ·obtain⟨z,rfl,_⟩:=h;rfl
 ·obtain⟨z,rfl,hz,q⟩:=h;refine⟨_,(ze (zj (zdo (zi c0o (hM hr) rfl (za (pv 0) (za (zei T.c_MOST_SIGNS rfl) zb))) (zhf (zB (zhw rfl) (by rfl) T.b_all boot_all (za (zL (show CompScope (zf zcp) ["judge"] "sign" [] [] _ from csM) rfl (pi_str (pv 0)) (λ_ _ _ _ _=>yz) (λ_ _ _ _ _=>(zi c0P (hM hr) rfl (za (pv 0) zb)))) zb)))))),?_⟩;have hl:=zt;refine⟨_,rfl,_,_,_,rfl,⟨by omega,rfl⟩,_,rfl,?_⟩;unfold M2.zfn at q;refine zhi (λh1=>?_) (λh1=>?_)
  ·rw[h1,Bool.true_and]at q;refine⟨_,rfl,z,rfl,?_⟩;refine comp_str0 (λi ys H2=>H2=H/\ys=((z.cps.toList.take i).map zeo).map V.bl) ⟨rfl,rfl⟩ ?_ (by omega) ?_ ?_
   ·rintro i ys H2 hi ⟨rfl,rfl⟩;simp only[length_map,length_take];omega
   ·rintro i d ys H2 hx ⟨rfl,rfl⟩;refine⟨_,rfl,d,rfl,rfl,?_⟩;rw[take_succ,hx,map_append,map_append];rfl
   ·rintro ys H2 ⟨rfl,rfl⟩ l hl;have e:z.cps.toList.take z.length=z.cps.toList:=take_of_length_le (by show z.cps.toList.length<=z.cps.size;rw[Array.length_toList];exact le_refl _);rw[e];exact⟨l,_,rfl,SqL.new,q _ (Same.new hl)⟩
  ·rw[h1,Bool.false_and]at q;exact q _ (Same.refl _)
inductive zbd (K:Frag) (vs:List V) (H:Hp) (Q:VK) (E:XK):Prop
 | mk (a:Addr) (cs:List (List Int)) (c:Int):vs=[.ref a,.int c]->Refs K (IL K) H a cs->cs.length<=1000->((∀d∈cs,c∈d))->(∀(l:Addr)(H':Hp),Same H H'->H l=none->H' l=some (.lst ((M5.zl cs c).map V.int))->Q (.ref l) H')->zbd K vs H Q E
theorem zku(F:Fun K "marks_of" "marks_of" zdd f fd)(T:Txt K mg)(c0Q:Can P w K mg base 1 "mark_on" zdU (zfd K)):FnOk P w K mg base CX0 2 f fd wW (zbd K):=by
 refine F.ok zj0 (λvs H Q E h=>?_) (λcdv A outer s H vs Q E hr h=>?_)
 ·obtain⟨a,cs,c,rfl,_⟩:=h;rfl
 ·obtain⟨a,cs,c,rfl,⟨ls,hS,hR⟩,hz,hc,q⟩:=h;refine⟨_,(ze (zj (zL (show CompScope (zf zdd) ["cards","couple"] "card" ["couple"] [1] _ from csM) rfl (zx (pv 0)) (λ_ _ _ _ _=>yz) (λ_ _ _ _ _=>(zi c0Q (hM hr) rfl (za (pv 0) (za (pv 1) zb))))))),?_⟩;have hlen:=hR.length;refine⟨_,rfl,a,rfl,⟨_,hS⟩,?_⟩;refine yb (xs:=ls.map V.ref) (λi ys H2=>H2=H/\ys=(M5.zl (cs.take i) c).map V.int) ⟨rfl,rfl⟩ ?_ (by rw[length_map];have:=zt;omega) ?_ ?_
  ·rintro i ys H2 hi ⟨rfl,rfl⟩;refine⟨hS,?_⟩;rw[length_map,M5.zX,length_take];omega
  ·rintro i x ys H2 hx ⟨rfl,rfl⟩;obtain⟨l,el,rfl⟩:=zah hx;obtain⟨d,ed,rd⟩:=hR.getL el;refine⟨_,rfl,_,rfl,l,d,c,rfl,rd,hc d (mem_of_getElem? ed),rfl,?_⟩;rw[take_succ,ed];unfold M5.zl;rw[map_append,map_append];rfl
  ·rintro ys H2 ⟨rfl,rfl⟩ l hl;rw[length_map,hlen,take_length];exact q l _ (Same.new hl) hl zd
inductive zaD (K:Frag) (vs:List V) (H:Hp) (Q:VK) (E:XK):Prop
 | mk (a:Addr) (ms:List Int) (n:Int):vs=[.ref a,.int n]->SqL K H a (ms.map V.int)->ms.length<=1000->(∀(H':Hp),Same H H'->Q (.int (M3.cnt ms n)) H')->zaD K vs H Q E
theorem zk5(F:Fun K "granted" "granted" zgl f fd)(T:Txt K mg)(c0x:Can P w K mg base 1 "granting" za6 (zcE K)):FnOk P w K mg base CX0 2 f fd wV (zaD K):=by
 refine F.ok sc_granted (λvs H Q E h=>?_) (λcdv A outer s H vs Q E hr h=>?_)
 ·obtain⟨a,ms,n,rfl,_⟩:=h;rfl
 ·obtain⟨a,ms,n,rfl,hS,hz,q⟩:=h;refine⟨_,(ze (zj (ya T.b_len (zi c0x (hM hr) rfl (za (pv 0) (za (pv 1) zb)))))),?_⟩;refine⟨_,rfl,_,rfl,a,ms,n,rfl,hS,hz,λl H1 s1 f1 e1=>?_⟩;refine⟨l,_,rfl,.inl (SqL.of e1),?_⟩;rw[length_map];exact q _ s1
inductive wu (K:Frag) (vs:List V) (H:Hp) (Q:VK) (E:XK):Prop
 | mk (a:Addr) (ms:List Int) (n:Int):vs=[.ref a,.int n]->SqL K H a (ms.map V.int)->ms.length<=1000->(∀(H':Hp),Same H H'->Q (.int (M3.sm ms n)) H')->wu K vs H Q E
theorem zhH(F:Fun K "granted_sum" "granted_sum" zcW f fd)(T:Txt K mg)(c0x:Can P w K mg base 1 "granting" za6 (zcE K)):FnOk P w K mg base CX0 2 f fd yX (wu K):=by
 refine F.ok zhl (λvs H Q E h=>?_) (λcdv A outer s H vs Q E hr h=>?_)
 ·obtain⟨a,ms,n,rfl,_⟩:=h;rfl
 ·obtain⟨a,ms,n,rfl,hS,hz,q⟩:=h;refine⟨_,(ze (zj (zB (zen rfl) (by rfl) T.b_sum boot_sum (za (zi c0x (hM hr) rfl (za (pv 0) (za (pv 1) zb))) zb)))),?_⟩;refine⟨_,rfl,_,rfl,a,ms,n,rfl,hS,hz,λl H1 s1 f1 e1=>?_⟩;exact⟨l,_,rfl,SqL.of e1,q _ s1⟩
inductive wb (K:Frag) (vs:List V) (H:Hp) (Q:VK) (E:XK):Prop
 | mk (a:Addr) (ms:List Int):vs=[.ref a]->SqL K H a (ms.map V.int)->ms≠[]->ms.length<=60->((∀x∈ms,1<=x/\x<=24))->(∀(H':Hp)(f:Int),Same H H'->M3.isF ms f->Q (.int f) H')->wb K vs H Q E
theorem zgI(F:Fun K "first_number" "first_number" zb0 f fd)(T:Txt K mg)(c0R:Can P w K mg base 1 "majority_of" ["many"] (zbW K)):FnOk P w K mg base CX0 2 f fd ["marks"] (wb K):=by
 refine F.ok zgM (λvs H Q E h=>?_) (λcdv A outer s H vs Q E hr h=>?_)
 ·obtain⟨a,ms,rfl,_⟩:=h;rfl
 ·obtain⟨a,ms,rfl,hS,hne,hz,hx,q⟩:=h;refine⟨_,(ze (zj (zo zk (zB zek (by rfl) T.b_sorted PyProof.Rows.boot_sorted (za (pv 0) zb)) (zr zds (zi c0R (hM hr) rfl (za (ya T.b_len (pv 0)) zb)) zg) (λ_ _=>rfl)))),?_⟩;refine⟨_,rfl,a,ms,rfl,hS,by omega,λl ns hl p w=>?_⟩;refine⟨_,rfl,a,_,rfl,.inl ((Same.new hl).seq hS),_,rfl,_,_,rfl,rfl,?_⟩;have hlen:=p.length_eq;have hn:=List.length_pos_iff.mpr hne;rw[length_map];refine⟨l,_,_,_,rfl,rfl,SqL.new,zc6 (by omega) (by omega),?_⟩;have e:(((ms.length:Nat):Int)/2+1-1).toNat=ns.length/2:=by omega
  rw[e];exact q _ _ (Same.new hl) (M3.isF_perm p (M3.zk6 w λz=>by rw[z]at hlen;simp at hlen;omega))
inductive zG (K:Frag) (vs:List V) (H:Hp) (Q:VK) (E:XK):Prop
 | mk (p:Addr) (F:Addr->Prop) (S:Sh) (n:Int):vs=[.ref p,.int n]->SheetAt K H p F S->n<=S.handed.length->(∀H',Same H H'->Q .non H')->zG K vs H Q E
theorem zdY(F:Fun K "refuse_fewer_cards" "refuse_fewer_cards" wv f fd)(T:Txt K mg)(c0a:CanM P w K mg base 1 (zH K "Sheet") "handed" zQ (zZ K)):FnOk P w K mg base CX0 2 f fd zz (zG K):=by
 refine F.ok zdZ (λvs H Q E h=>?_) (λcdv A outer s H vs Q E hr h=>?_)
 ·obtain⟨p,F,S,n,rfl,_⟩:=h;rfl
 ·obtain⟨p,F,S,n,rfl,hSh,hn,q⟩:=h;refine⟨_,(ze (zv (zm zfr (ya T.b_len (zE c0a T.cl_Sheet (hM hr) (pv 0))) (pv 1) (zp _)) (ze zhA) zq)),?_⟩;obtain⟨dx,b1,b2,b3,d,hip⟩:=hSh.ins;refine⟨_,rfl,p,dx,_,rfl,hip,rfl,p,F,S,rfl,hSh.shape,hSh.ok.p15,λl1 H1 s1 f1 e1=>?_⟩;refine⟨l1,_,rfl,.inl (SqL.of e1),_,rfl,_,_,rfl,rfl,_,rfl,yB (λh=>?_) (λ_=>q H1 s1)⟩;rw[length_map]at h;exact absurd h (by omega)
inductive za0 (K:Frag) (vs:List V) (H:Hp) (Q:VK) (E:XK):Prop
 | mk (a b:Addr) (ns ms:List Int):vs=[.ref a,.ref b]->SqL K H a (ns.map V.int)->SqL K H b (ms.map V.int)->ms.length<=1000000->Q (.bl (decide (ns=ms))) H->za0 K vs H Q E
theorem same_all(hl:ns.length=ms.length)(h:∀j,j<ms.length->ns.getD j 0=ms.getD j 0):ns=ms:=by
 refine ext_getElem hl λj h1 h2=>?_;have:=h j h2
 rwa [getD_eq_getElem?_getD,getD_eq_getElem?_getD,getElem?_eq_getElem h1,getElem?_eq_getElem h2]at this
theorem zjK(F:Fun K "_law_same" "_law_same" zfc f fd)(T:Txt K mg)(c0f:Can P w K mg base 1 "_law_whole" yL (y7 K)):FnOk P w K mg base CX0 2 f fd wZ (za0 K):=by
 refine F.ok zgx (λvs H Q E h=>?_) (λcdv A outer s H vs Q E hr h=>?_)
 ·obtain⟨a,b,ns,ms,rfl,_⟩:=h;rfl
 ·obtain⟨a,b,ns,ms,rfl,hA,hB,hz,q⟩:=h;refine⟨_,(zc (zv (PW.pt (zax (zJ (zF (zB wL (by rfl) T.b_isinstance boot_isinstance (za (pv 0) (za (wz (v:=V.ty "list") rfl T.b_list boot_list rfl) zb))))) (we (zm yQ (ya T.b_len (pv 0)) (ya T.b_len (pv 1)) (zp _))))) (ze (zj zY)) zq)
   (zc (yP PassesOwn.never rfl (yo rfl T.b_range (za (ya T.b_len (pv 1)) zb)) (zU (i:=2) zgx.nd rfl (Or.inl rfl))
     (ze (zv (PW.pt (zax (zJ (zF (zi c0f (hM hr) rfl (za (zo zk (pv 0) (pv 2) (λ_ _=>rfl)) zb)))) (we (zm yQ (zo zk (pv 0) (pv 2) (λ_ _=>rfl)) (zo zk (pv 1) (pv 2) (λ_ _=>rfl)) (zp _))))) (ze (zj zY)) zq)))
   (ze (zj zY)))),?_⟩
  refine⟨_,rfl,_,_,rfl,.yes hA,_,rfl,yl ?_⟩;refine⟨_,rfl,a,_,rfl,.inl hA,_,rfl,b,_,rfl,.inl hB,rfl,_,rfl,?_⟩;rw[length_map,length_map];refine yj (λhne=>?_) (λhe=>?_)
  ·show Q (.bl false) H;have:ns≠ms:=λe=>hne (by rw[e]);rw[decide_eq_false this]at q;exact q
  ·have hl:ns.length=ms.length:=by injection he with he;exact Int.ofNat.inj he
   refine⟨_,rfl,b,_,rfl,.inl hB,_,rfl,by omega,by rw[length_map];omega,?_⟩;rw[length_map];refine yi (λi σ H2=>∃v,σ=[some (.ref a),some (.ref b),v]/\H2=H/\∀j,j<i->ns.getD j 0=ms.getD j 0) ⟨_,rfl,rfl,λj hj=>by omega⟩ ?_ ?_
   ·rintro i σ H2 hi ⟨v,rfl,rfl,hj⟩;have hi':i<ms.length:=by simpa using hi
    have e1:atI (ns.map V.int) (0+(i:Int))=some (.int (ns.getD i 0)):=by rw[Int.zero_add];exact zN (wR (by omega))
    have e2:atI (ms.map V.int) (0+(i:Int))=some (.int (ms.getD i 0)):=by rw[Int.zero_add];exact zN (wR hi')
    refine⟨_,rfl,_,rfl,a,_,_,_,rfl,rfl,hA,e1,_,true,false,rfl,rfl,rfl,_,rfl,yl ?_⟩;refine⟨_,rfl,_,rfl,a,_,_,_,rfl,rfl,hA,e1,_,rfl,_,rfl,b,_,_,_,rfl,rfl,hB,e2,rfl,_,rfl,yj (λhne=>?_) (λhe=>?_)⟩
    ·show Q (.bl false) _;have:ns≠ms:=λe=>hne (by rw[e]);rw[decide_eq_false this]at q;exact q
    ·refine⟨_,rfl,rfl,λj hj'=>?_⟩;by_cases hji:j=i
     ·subst hji;injection he
     ·exact hj j (by omega)
   ·rintro σ H2 ⟨v,rfl,rfl,hj⟩;show Q (.bl true) _;have:ns=ms:=same_all hl λj h=>hj j (by simpa using h);rw[decide_eq_true this]at q;exact q
inductive zdt (K:Frag) (vs:List V) (H:Hp) (Q:VK) (E:XK):Prop
 | mk (a b:Addr) (ps:List (Int×Int)):vs=[.ref a,.ref b]->Refs K (TPl K) H a ps->Refs K (TPl K) H b ps->ps.length<=1000->Q (.bl true) H->zdt K vs H Q E
theorem zjC(F:Fun K "_law_pairs" "_law_pairs" zd5 f fd)(T:Txt K mg)(c0f:Can P w K mg base 1 "_law_whole" yL (y7 K)):FnOk P w K mg base CX0 2 f fd zby (zdt K):=by
 refine F.ok zfx (λvs H Q E h=>?_) (λcdv A outer s H vs Q E hr h=>?_)
 ·obtain⟨a,b,ps,rfl,_⟩:=h;rfl
 ·obtain⟨a,b,ps,rfl,⟨ls,hA,rA⟩,⟨ks,hB,rB⟩,hz,q⟩:=h;refine⟨_,(zc (zv (PW.pt (zax (zJ (zF (zB wL (by rfl) T.b_isinstance boot_isinstance (za (pv 0) (za (wz (v:=V.ty "list") rfl T.b_list boot_list rfl) zb))))) (we (zm yQ (ya T.b_len (pv 0)) (ya T.b_len (pv 1)) (zp _))))) (ze (zj zY)) zq)
   (zc (yP PassesOwn.never rfl (yo rfl T.b_range (za (ya T.b_len (pv 1)) zb)) (zU (i:=2) zfx.nd rfl (Or.inl rfl))
     (zc (zv (PW.pt (zax (zJ (zF (zB zbY (by rfl) T.b_isinstance boot_isinstance (za (zo zk (pv 0) (pv 2) (λ_ _=>rfl)) (za (wz (v:=V.ty "tuple") rfl T.b_tuple boot_tuple rfl) zb))))) (we (zm yQ (ya T.b_len (zo zk (pv 0) (pv 2) (λ_ _=>rfl))) zg (zp _))))) (ze (zj zY)) zq)
   (zc (zv (PW.pt (zax (zJ (zF (zi c0f (hM hr) rfl (za (zo yt (zo zk (pv 0) (pv 2) (λ_ _=>rfl)) zg (λ_ _=>rfl)) zb)))) (we (zJ (zF (zi c0f (hM hr) rfl (za (zo yt (zo zk (pv 0) (pv 2) (λ_ _=>rfl)) zg (λ_ _=>rfl)) zb))))))) (ze (zj zY)) zq)
   (ze (zv (PW.pt (zax (zm yQ (zo yt (zo zk (pv 0) (pv 2) (λ_ _=>rfl)) zg (λ_ _=>rfl)) (zo yt (zo zk (pv 1) (pv 2) (λ_ _=>rfl)) zg (λ_ _=>rfl)) (zp _)) (we (zm yQ (zo yt (zo zk (pv 0) (pv 2) (λ_ _=>rfl)) zg (λ_ _=>rfl)) (zo yt (zo zk (pv 1) (pv 2) (λ_ _=>rfl)) zg (λ_ _=>rfl)) (zp _))))) (ze (zj zY)) zq)))))
   (ze (zj zY)))),?_⟩
  have la:=rA.length;have lb:=rB.length;refine⟨_,rfl,_,_,rfl,.yes hA,_,rfl,yl ?_⟩;refine⟨_,rfl,a,_,rfl,.inl hA,_,rfl,b,_,rfl,.inl hB,rfl,_,rfl,?_⟩;rw[length_map,length_map];refine yj (λhne=>absurd (by rw[la,lb]) hne) (λhe=>?_);refine⟨_,rfl,b,_,rfl,.inl hB,_,rfl,by omega,by rw[length_map];omega,?_⟩;rw[length_map];refine yi (λi σ H2=>∃v,σ=[some (.ref a),some (.ref b),v]/\H2=H) ⟨_,rfl,rfl⟩ ?_ ?_
  ·rintro i σ H2 hi ⟨v,rfl,rfl⟩;have hi':i<ps.length:=by rw[<-lb];simpa using hi
   obtain⟨l,el,rl⟩:=rA.get (getElem?_eq_getElem hi');obtain⟨k,ek,rk⟩:=rB.get (getElem?_eq_getElem hi');generalize ps[i]=p at rl rk;have e1:atI (ls.map V.ref) (0+(i:Int))=some (.ref l):=by rw[Int.zero_add];exact zN (yR el)
   have e2:atI (ks.map V.ref) (0+(i:Int))=some (.ref k):=by rw[Int.zero_add];exact zN (yR ek)
   refine⟨_,rfl,_,rfl,a,_,_,_,rfl,rfl,hA,e1,_,_,rfl,.yes rl,_,rfl,yl ?_⟩;refine⟨_,rfl,_,rfl,a,_,_,_,rfl,rfl,hA,e1,l,_,rfl,.inr rl,rfl,_,rfl,yj (λh=>absurd rfl h) (λ_=>?_)⟩;refine⟨_,rfl,_,rfl,a,_,_,_,rfl,rfl,hA,e1,l,_,_,_,rfl,rfl,rl,rfl,_,true,false,rfl,rfl,rfl,_,rfl,yl ?_⟩;refine⟨_,rfl,_,rfl,a,_,_,_,rfl,rfl,hA,e1,l,_,_,_,rfl,rfl,rl,rfl,_,true,false,rfl,rfl,rfl,_,rfl,yl ?_⟩;refine⟨_,rfl,_,rfl,a,_,_,_,rfl,rfl,hA,e1,l,_,_,_,rfl,rfl,rl,rfl,_,rfl,_,rfl,b,_,_,_,rfl,rfl,hB,e2,k,_,_,_,rfl,rfl,rk,rfl,rfl,_,rfl,yj (λh=>absurd rfl h) (λ_=>?_)⟩;refine⟨_,rfl,_,rfl,a,_,_,_,rfl,rfl,hA,e1,l,_,_,_,rfl,rfl,rl,rfl,_,rfl,_,rfl,b,_,_,_,rfl,rfl,hB,e2,k,_,_,_,rfl,rfl,rk,rfl,rfl,_,rfl,yj (λh=>absurd rfl h) (λ_=>?_)⟩;exact⟨_,rfl,rfl⟩
  ·rintro σ H2 ⟨v,rfl,rfl⟩;exact q
inductive zdb (K:Frag) (vs:List V) (H:Hp) (Q:VK) (E:XK):Prop
 | mk (a b:Addr) (ps:List M6.R4):vs=[.ref a,.ref b]->Refs K (F4 K) H a ps->Refs K (F4 K) H b ps->ps.length<=1000->Q (.bl true) H->zdb K vs H Q E
theorem ziV(F:Fun K "_law_fours" "_law_fours" zd9 f fd)(T:Txt K mg)(c0f:Can P w K mg base 1 "_law_whole" yL (y7 K)):FnOk P w K mg base CX0 2 f fd zbI (zdb K):=by
 refine F.ok zdr (λvs H Q E h=>?_) (λcdv A outer s H vs Q E hr h=>?_)
 ·obtain⟨a,b,ps,rfl,_⟩:=h;rfl
 ·obtain⟨a,b,ps,rfl,⟨ls,hA,rA⟩,⟨ks,hB,rB⟩,hz,q⟩:=h;refine⟨_,(zc (zv (PW.pt (zax (zJ (zF (zB wL (by rfl) T.b_isinstance boot_isinstance (za (pv 0) (za (wz (v:=V.ty "list") rfl T.b_list boot_list rfl) zb))))) (we (zm yQ (ya T.b_len (pv 0)) (ya T.b_len (pv 1)) (zp _))))) (ze (zj zY)) zq)
   (zc (yP PassesOwn.never rfl (yo rfl T.b_range (za (ya T.b_len (pv 1)) zb)) (zU (i:=2) zdr.nd rfl (Or.inl rfl))
     (zc (zv (PW.pt (zax (zJ (zF (zB zbY (by rfl) T.b_isinstance boot_isinstance (za (zo zk (pv 0) (pv 2) (λ_ _=>rfl)) (za (wz (v:=V.ty "tuple") rfl T.b_tuple boot_tuple rfl) zb))))) (zax (zm yQ (ya T.b_len (zo zk (pv 0) (pv 2) (λ_ _=>rfl))) zg (zp _)) (we (zJ (zF (zB zfj (by rfl) T.b_isinstance boot_isinstance (za (zo yt (zo zk (pv 0) (pv 2) (λ_ _=>rfl)) zg (λ_ _=>rfl)) (za (wz (v:=V.ty "str") rfl T.b_str boot_str rfl) zb))))))))) (ze (zj zY)) zq)
   (zc (yP PassesOwn.never rfl (yo rfl T.b_range (za zg zb)) (zU (i:=3) zdr.nd rfl (Or.inl rfl))
     (ze (zv (PW.pt (zax (zJ (zF (zi c0f (hM hr) rfl (za (zo yt (zo zk (pv 0) (pv 2) (λ_ _=>rfl)) (pv 3) (λ_ _=>rfl)) zb)))) (we (zm yQ (zo yt (zo zk (pv 0) (pv 2) (λ_ _=>rfl)) (pv 3) (λ_ _=>rfl)) (zo yt (zo zk (pv 1) (pv 2) (λ_ _=>rfl)) (pv 3) (λ_ _=>rfl)) (zp _))))) (ze (zj zY)) zq)))
   (ze (zv (zm yQ (zo yt (zo zk (pv 0) (pv 2) (λ_ _=>rfl)) zg (λ_ _=>rfl)) (zo yt (zo zk (pv 1) (pv 2) (λ_ _=>rfl)) zg (λ_ _=>rfl)) (zp _)) (ze (zj zY)) zq)))))
   (ze (zj zY)))),?_⟩
  have la:=rA.length;have lb:=rB.length;refine⟨_,rfl,_,_,rfl,.yes hA,_,rfl,yl ?_⟩;refine⟨_,rfl,a,_,rfl,.inl hA,_,rfl,b,_,rfl,.inl hB,rfl,_,rfl,?_⟩;rw[length_map,length_map];refine yj (λhne=>absurd (by rw[la,lb]) hne) (λhe=>?_);refine⟨_,rfl,b,_,rfl,.inl hB,_,rfl,by omega,by rw[length_map];omega,?_⟩;rw[length_map];refine yi (λi σ H2=>∃v w,σ=[some (.ref a),some (.ref b),v,w]/\H2=H) ⟨_,_,rfl,rfl⟩ ?_ ?_
  ·rintro i σ H2 hi ⟨v,w,rfl,rfl⟩;have hi':i<ps.length:=by rw[<-lb];simpa using hi
   obtain⟨l,el,rl⟩:=rA.get (getElem?_eq_getElem hi');obtain⟨k,ek,rk⟩:=rB.get (getElem?_eq_getElem hi');generalize ps[i]=p at rl rk;have e1:atI (ls.map V.ref) (0+(i:Int))=some (.ref l):=by rw[Int.zero_add];exact zN (yR el)
   have e2:atI (ks.map V.ref) (0+(i:Int))=some (.ref k):=by rw[Int.zero_add];exact zN (yR ek)
   refine⟨_,rfl,_,rfl,a,_,_,_,rfl,rfl,hA,e1,_,_,rfl,.yes rl,_,rfl,yl ?_⟩;refine⟨_,rfl,_,rfl,a,_,_,_,rfl,rfl,hA,e1,l,_,rfl,.inr rl,rfl,_,rfl,yj (λh=>absurd rfl h) (λ_=>?_)⟩;refine⟨_,rfl,_,rfl,a,_,_,_,rfl,rfl,hA,e1,l,_,_,_,rfl,rfl,rl,rfl,_,_,rfl,rfl,_,rfl,yl ?_⟩;refine⟨_,rfl,by decide,by decide,yi (λj σ H3=>∃w,σ=[some (.ref a),some (.ref b),some (.int (0+(i:Int))),w]/\H3=H2) ⟨_,rfl,rfl⟩ ?_ ?_⟩
   ·rintro j σ H3 hj ⟨w,rfl,rfl⟩;have hj:j<3:=hj;obtain⟨z,ez⟩:∃z:Int,atI [V.int p.1,.int p.2.1,.int p.2.2.1,.str p.2.2.2] (0+(j:Int))=some (.int z):=by
     match j,hj with
     | 0,_=>exact⟨_,rfl⟩
     | 1,_=>exact⟨_,rfl⟩
     | 2,_=>exact⟨_,rfl⟩
    refine⟨_,rfl,_,rfl,a,_,_,_,rfl,rfl,hA,e1,_,rfl,l,_,_,_,rfl,rfl,rl,ez,_,true,false,rfl,rfl,rfl,_,rfl,yl ?_⟩;refine⟨_,rfl,_,rfl,a,_,_,_,rfl,rfl,hA,e1,_,rfl,l,_,_,_,rfl,rfl,rl,ez,_,rfl,_,rfl,b,_,_,_,rfl,rfl,hB,e2,_,rfl,k,_,_,_,rfl,rfl,rk,ez,rfl,_,rfl,yj (λh=>absurd rfl h) (λ_=>⟨_,rfl,rfl⟩)⟩
   ·rintro σ H3 ⟨w,rfl,rfl⟩;refine⟨_,rfl,_,rfl,a,_,_,_,rfl,rfl,hA,e1,l,_,_,_,rfl,rfl,rl,rfl,_,rfl,_,rfl,b,_,_,_,rfl,rfl,hB,e2,k,_,_,_,rfl,rfl,rk,rfl,rfl,_,rfl,yj (λh=>absurd rfl h) (λ_=>⟨_,_,rfl,rfl⟩)⟩
  ·rintro σ H2 ⟨v,w,rfl,rfl⟩;exact q
inductive zeh (K:Frag) (vs:List V) (H:Hp) (Q:VK) (E:XK):Prop
 | mk (c:Int) (a:Addr) (ns:List Int) (y:Int):vs=[.int c,.ref a,.int y]->SqL K H a (ns.map V.int)->ns≠[]->ns.length<=1000->(∀(l:Addr)(H':Hp)(ms:List Int),Same H H'->H l=none->H' l=some (.lst (ms.map V.int))->ms.Perm ns->Q (.ref l) H')->zeh K vs H Q E
theorem zkH(F:Fun K "_law_card" "_law_card" ze3 f fd)(T:Txt K mg)(c0r:Can P w K mg base 1 "_law_mix" zb7 (zdQ K)):FnOk P w K mg base CX0 2 f fd zcu (zeh K):=by
 refine F.ok yk (λvs H Q E h=>?_) (λcdv A outer s H vs Q E hr h=>?_)
 ·obtain⟨c,a,ns,y,rfl,_⟩:=h;rfl
 ·obtain⟨c,a,ns,y,rfl,hS,hne,hz,q⟩:=h;refine⟨_,(zc (zu (i:=3) yk.nd rfl (Or.inl rfl) (zM zO (by rfl) T.b_list boot_list (za (pv 1) zb)))
   (zc (zv (zm zag (pv 2) zg (zp _)) (zc (zu (i:=4) yk.nd rfl (Or.inl rfl) (zr yq (pv 0) (ya T.b_len (pv 1))))
   (zc (zu (i:=3) yk.nd rfl (Or.inl rfl) (zr wd (yw wj (pv 3) (yA (pv 4)) wf) (yw wj (pv 3) wf (yA (pv 4)))))
   (zc (zv (zm zag (zr yq (zr wQ (pv 0) (ya T.b_len (pv 1))) zg) zg (zp _)) (ze (zu (i:=3) yk.nd rfl (Or.inl rfl) (pe_rev (pv 3) (pe_un un_neg zg)))) zq)
   (ze (zj (pv 3)))))) zq)
   (zc (zu (i:=5) yk.nd rfl (Or.inl rfl) (pv 0))
   (zc (zv (zm zag (pv 2) zg (zp _)) (ze (zu (i:=5) yk.nd rfl (Or.inl rfl) (zi c0r (hM hr) rfl (za (pv 0) (za (ya T.b_len (pv 1)) zb))))) zq)
   (zc (zu (i:=6) yk.nd rfl (Or.inl rfl) (zI zb))
   (zc (yP PassesOwn.never rfl (yo rfl T.b_range (za (ya T.b_len (pv 1)) zb)) (zU (i:=7) yk.nd rfl (Or.inl rfl))
     (zc (zu (i:=8) yk.nd rfl (Or.inl rfl) (zr yq (pv 5) (ya T.b_len (pv 3))))
   (zc (zu (i:=5) yk.nd rfl (Or.inl rfl) (zr wQ (pv 5) (ya T.b_len (pv 3))))
   (zc (zP (wF PySem.F.plainAttrs_list PySem.F.slot_list_append PySem.F.type_list_append yD (pv 6) (za (wF PySem.F.plainAttrs_list PySem.F.slot_list_pop PySem.F.type_list_pop mt_popAt (pv 3) (za (pv 8) zb)) zb)))
   (ze (zv (zm zag (pv 2) zg (zp _)) (ze (zu (i:=5) yk.nd rfl (Or.inl rfl) (zi c0r (hM hr) rfl (za (zr yf (pv 5) (pv 8)) (za (pv 7) zb))))) zq))))))
   (ze (zj (pv 6))))))))),?_⟩
  have hpos:0<ns.length:=List.length_pos_iff.mpr hne;refine⟨_,rfl,a,_,rfl,.inl hS,λp0 hp0=>?_⟩;have s0:Same H (upd H p0 (.lst (ns.map V.int))):=Same.new hp0;refine⟨_,rfl,rfl,_,rfl,yB (λ_=>?_) (λ_=>?_)⟩
  ·
   have ht:0<=c%(ns.map V.int).length:=Int.emod_nonneg _ (by rw[length_map];omega);refine⟨_,rfl,_,rfl,a,_,rfl,.inl (s0.seq hS),_,_,rfl,rfl,(by show(0:Int)<(ns.map V.int).length;rw[length_map];omega),?_⟩;refine⟨_,rfl,_,rfl,_,rfl,p0,_,rfl,SqL.new,λp1 hp1=>?_⟩;rw[zeM ht];refine⟨_,rfl,_,rfl,_,rfl,p0,_,rfl,(Same.new hp1).seq SqL.new,λp2 hp2=>?_⟩;rw[zgh ht];have n21:p1≠p2:=zn zd hp2;refine⟨p1,p2,_,_,rfl,rfl,by rw[zh n21];exact zd,zd,?_,λp3 hp3=>?_⟩
   ·simp only[length_map,length_take,length_drop];have:=zt;omega
   rw[<-map_append];have f1:H p1=none:=s0.free hp1;have s1:=s0.newT (o:=.lst ((ns.drop (c%(ns.map V.int).length).toNat).map V.int)) hp1;have s2:=s1.newT (o:=.lst ((ns.take (c%(ns.map V.int).length).toNat).map V.int)) hp2;have s3:=s2.newT (o:=.lst ((ns.drop (c%(ns.map V.int).length).toNat++ns.take (c%(ns.map V.int).length).toNat).map V.int)) hp3;have pm:(ns.drop (c%(ns.map V.int).length).toNat++ns.take (c%(ns.map V.int).length).toNat).Perm ns:=by
    have:=List.perm_append_comm (l₁:=ns.drop (c%(ns.map V.int).length).toNat) (l₂:=ns.take (c%(ns.map V.int).length).toNat)
    rwa [take_append_drop]at this
   refine⟨_,rfl,_,rfl,a,_,rfl,.inl (s3.seq hS),_,_,rfl,rfl,⟨by rw[length_map];omega,by rw[length_map];omega⟩,_,_,rfl,rfl,(by show(0:Int)<2;decide),rfl,_,rfl,yB (λ_=>?_) (λ_=>?_)⟩
   ·refine⟨_,rfl,_,rfl,rfl,p3,_,rfl,SqL.new,λp4 hp4=>?_⟩;rw[<-List.map_reverse];exact⟨_,rfl,q p4 _ _ (s3.newT hp4) (s3.free hp4) zd ((List.reverse_perm _).trans pm)⟩
   ·exact⟨_,rfl,q p3 _ _ s3 (s2.free hp3) zd pm⟩
  ·
   refine⟨_,rfl,?_⟩;refine⟨_,rfl,rfl,_,rfl,yB (λ_=>?_) (λ_=>?_)⟩
   all_goals
    first
     | refine⟨by decide,λm0 hm0=>?_⟩
     | refine⟨_,rfl,_,rfl,a,_,rfl,.inl (s0.seq hS),_,_,rfl,?_⟩
       refine⟨by decide,λm0 hm0=>?_⟩
    have s1:=s0.newT (o:=.lst []) hm0;have fm:H m0=none:=s0.free hm0;have npm:p0≠m0:=zn zd hm0;refine⟨_,rfl,a,_,rfl,.inl (s1.seq hS),_,rfl,by omega,by rw[length_map];omega,?_⟩;rw[length_map];refine yi (λi σ H2=>∃(pool made:List Int)(left:Int)(v4 v7 v8:Option V),σ=[some (.int c),some (.ref a),some (.int y),some (.ref p0),v4,some (.int left),some (.ref m0),v7,v8]/\Same H H2/\H2 p0=some (.lst (pool.map V.int))/\H2 m0=some (.lst (made.map V.int))/\pool.length+i=ns.length/\(made++pool).Perm ns)
     ⟨ns,[],_,_,_,_,rfl,s1,by rw[zh npm];exact zd,zd,rfl,List.Perm.refl _⟩ ?_ ?_
    ·rintro i σ H2 hi ⟨pool,made,left,v4,v7,v8,rfl,s2,e1,e2,hlen,pm⟩;have hi':i<ns.length:=by simpa using hi
     have hpl:0<pool.length:=by omega
     have hr0:0<=left%((pool.map V.int).length:Int):=Int.emod_nonneg _ (by rw[length_map];omega);have hr1:left%((pool.map V.int).length:Int)<pool.length:=by
      have:=Int.emod_lt_of_pos left (b:=((pool.map V.int).length:Int)) (by rw[length_map];omega)
      rwa [length_map]at this ⊢
     have hsl:(left%((pool.map V.int).length:Int)).toNat<pool.length:=by omega
     have hix:seqIndex? (left%((pool.map V.int).length:Int)) (pool.map V.int).length=some (left%((pool.map V.int).length:Int)).toNat:=seqIx_ok hr0 (by rw[length_map]at hr1 ⊢;exact hr1);refine⟨_,rfl,_,rfl,p0,_,rfl,.inl (SqL.of e1),_,_,rfl,rfl,(by show(0:Int)<(pool.map V.int).length;rw[length_map];omega),?_⟩;refine⟨_,rfl,_,rfl,p0,_,rfl,.inl (SqL.of e1),_,_,rfl,rfl,⟨by rw[length_map];omega,by rw[length_map];omega⟩,?_⟩;refine⟨_,rfl,.inl ⟨rfl,_,SqL.of e2⟩,_,rfl,.inl ⟨rfl,_,SqL.of e1⟩,_,rfl,p0,_,_,_,_,rfl,rfl,e1,by omega,by omega,hix,wR hsl,?_⟩;generalize (left%((pool.map V.int).length:Int)).toNat=j at hsl;rw[zik];have s3:Same H (upd H2 p0 (.lst ((pool.eraseIdx j).map V.int))):=s2.put hp0;refine⟨m0,_,_,rfl,rfl,by rw[zh (Ne.symm npm)];exact e2,by rw[length_map];have:=pm.length_eq;rw[length_append]at this;have:=zt;omega,?_⟩;have s4:Same H (upd (upd H2 p0 (.lst ((pool.eraseIdx j).map V.int))) m0 (.lst ((made++[pool.getD j 0]).map V.int))):=s3.put fm;have pm2:(made++[pool.getD j 0]++pool.eraseIdx j).Perm ns:=by
      refine List.Perm.trans ?_ pm;rw[append_assoc];refine List.Perm.append_left _ ?_;have e:pool.getD j 0=pool[j]:=by rw[getD_eq_getElem?_getD,getElem?_eq_getElem hsl];rfl
      rw[e];exact zhJ pool j hsl
     have hl2:(pool.eraseIdx j).length+(i+1)=ns.length:=by rw[List.length_eraseIdx_of_lt hsl];omega
     have e1':upd (upd H2 p0 (.lst ((pool.eraseIdx j).map V.int))) m0 (.lst ((made++[pool.getD j 0]).map V.int)) p0=some (.lst ((pool.eraseIdx j).map V.int)):=by rw[zh npm];exact zd
     have eap:made.map V.int++[V.int (pool.getD j 0)]=(made++[pool.getD j 0]).map V.int:=by rw[map_append];rfl
     rw[eap];refine⟨_,rfl,rfl,_,rfl,yB (λ_=>?_) (λ_=>?_)⟩
     ·refine⟨_,rfl,_,rfl,_,_,rfl,rfl,_,rfl,_,_,rfl,?_⟩;exact⟨_,_,_,_,_,_,rfl,s4,e1',zd,hl2,pm2⟩
     ·exact⟨_,_,_,_,_,_,rfl,s4,e1',zd,hl2,pm2⟩
    ·rintro σ H2 ⟨pool,made,left,v4,v7,v8,rfl,s2,e1,e2,hlen,pm⟩;have hl0:(ns.length:Int).toNat=ns.length:=Int.toNat_natCast _;have hp:pool=[]:=List.eq_nil_of_length_eq_zero (by omega);subst hp;rw[append_nil]at pm;exact⟨_,rfl,q m0 _ _ s2 fm e2 pm⟩
inductive zbB (K:Frag) (vs:List V) (H:Hp) (Q:VK) (E:XK):Prop
 | mk (a b:Addr) (cs:List (List Int)) (us:List Int):vs=[.ref a,.ref b]->Refs K (IL K) H a cs->SqL K H b (us.map V.int)->cs.length<=500->us.length<=500->((∀u∈us,∀d∈cs,u∈d))->(∀(l:Addr)(H':Hp),Same H H'->H l=none->H' l=some (.lst ((M5.spots cs us).map V.int))->Q (.ref l) H')->zbB K vs H Q E
theorem zi3(F:Fun K "_law_spots" "_law_spots" za9 f fd)(T:Txt K mg)(c0l:Can P w K mg base 1 "_law_marks" ww (zau K))(c0S:Can P w K mg base 1 "_law_key" zdT (zfi K)):FnOk P w K mg base CX0 2 f fd zaj (zbB K):=by
 refine F.ok zfz (λvs H Q E h=>?_) (λcdv A outer s H vs Q E hr h=>?_)
 ·obtain⟨a,b,cs,us,rfl,_⟩:=h;rfl
 ·obtain⟨a,b,cs,us,rfl,hA,hB,hz,hu,hm,q⟩:=h;refine⟨_,(zc (zu (i:=2) zfz.nd rfl (Or.inr rfl) (zL (show CompScope (zf za9) zdB "_law_couple" ["_law_cards","_law_couples_here"] [0,1] _ from csM) rfl (zx (pv 1)) (λ_ _ _ _ _=>yz) (λ_ _ _ _ _=>(zi c0S (hM hr) rfl (za (zi c0l (hM hr) rfl (za (pv 1) (za (pv 0) zb))) (za (pLenK (K:=K) rfl T.b_len (pv 2)) zb))))))
   (ze (zj (pe_compC (show CompScopeC (zf za9) zdB "_law_mine" ["_law_ranks"] [2] _ from csMC) rfl (zx (pv 2)) (λ_ _ _ _ _ _=>yz) (λ_ _ _ _ _ _=>(zr yf zg (pLenK (K:=K) rfl T.b_len (zL (CompScope.under (show CompScope _ ["_law_mine","_law_ranks"] "_law_rank" ["_law_mine"] [0] _ from csM)) rfl (pi_listK (K:=K) rfl (pv 1)) (λ_ _ _ _ _=>(yC (zm (zj8 (K:=K) rfl hr.units0) (pv 0) (pv 1) (zp _)))) (λ_ _ _ _ _=>(pv 0)))))))))),?_⟩
  have hln:=zt;refine⟨_,rfl,b,rfl,⟨_,hB⟩,?_⟩;refine yb (xs:=us.map V.int) (λi ys H2=>Same H H2/\∃ls:List Addr,ys=ls.map V.ref/\All2 (IL K H2) ls ((us.take i).map λc=>M5.key (M5.zl cs c) us.length)) ⟨Same.refl _,[],rfl,.nil⟩ ?_ (by rw[length_map];omega) ?_ ?_
  ·rintro i ys H2 hi ⟨s2,ls,rfl,r⟩;refine⟨s2.seq hB,?_⟩;have:=r.length;rw[length_map,length_take]at this;rw[length_map];omega
  ·rintro i x ys H2 hx ⟨s2,ls,rfl,r⟩;obtain⟨hi,rfl⟩:=yF hx;refine⟨_,rfl,_,rfl,a,cs,_,rfl,hA.same (IL.stays K) s2,by omega,hm _ (wN hi),λl3 H3 s3 f3 e3=>?_⟩;have s03:=s2.trans s3;refine⟨_,rfl,b,_,rfl,.inl (s03.seq hB),l3,_,_,rfl,SqL.of e3,by rw[M5.zX];omega,by omega,by rw[length_map];omega,λl4 H4 s4 f4 e4=>?_⟩;have el:(((us.map V.int).length:Nat):Int).toNat=us.length:=by rw[length_map];omega
   rw[el]at e4;refine⟨s03.trans s4,ls++[l4],by rw[map_append];rfl,?_⟩;rw[yE hi,map_append];exact(r.imp λx y=>IL.stays K _ _ _ _ (s3.trans s4)).snoc (show IL K H4 l4 _ from SqL.of e4)
  rintro ys H2 ⟨s2,ls,rfl,r⟩ l5 hl5;rw[length_map,take_length]at r;generalize hH5:upd H2 l5 _=H5;have s5:Same H2 H5:=by rw[<-hH5];exact Same.new hl5
  have t5:H5 l5=some (.lst (ls.map V.ref)):=by rw[<-hH5];exact zd
  have r5:All2 (IL K H5) ls (M5.zfm cs us):=r.imp λx y=>IL.stays K _ _ _ _ s5;have lr:(M5.zfm cs us).length=us.length:=by unfold M5.zfm;rw[length_map]
  have ll:=r5.length;have hsp:M5.spots cs us=(M5.zfm cs us).map λm=>1+(M5.zeZ (M5.zfm cs us) m:Int):=rfl;rw[hsp]at q;generalize M5.zfm cs us=rs at r5 lr ll q;refine⟨_,rfl,l5,rfl,⟨_,SqL.of t5⟩,?_⟩;refine yb (xs:=ls.map V.ref) (λi ys H6=>Same H5 H6/\ys=((rs.take i).map λm=>1+(M5.zeZ rs m:Int)).map V.int) ⟨Same.refl _,rfl⟩ ?_ (by rw[length_map];omega) ?_ ?_
  ·rintro i ys H6 hi ⟨s6,rfl⟩;refine⟨s6.seq (SqL.of t5),?_⟩;rw[length_map,length_map,length_take];omega
  ·rintro i x ys H6 hx ⟨s6,rfl⟩;obtain⟨l,el,rfl⟩:=zah hx;obtain⟨m,em,rm⟩:=r5.getL el;have q6:SqL K H6 l5 (ls.map V.ref):=s6.seq (SqL.of t5);have m6:=IL.stays K _ _ _ _ s6 rm;refine⟨_,rfl,l5,rfl,⟨_,q6⟩,?_⟩;refine yV (xs:=ls.map V.ref) (λj zs H7=>H7=H6/\zs.length=((rs.take j).filter λr=>HT.lexLt r m).length) ⟨rfl,rfl⟩ ?_ (by rw[length_map];omega) ?_ ?_
   ·rintro j zs H7 hj ⟨rfl,e⟩;refine⟨q6,?_⟩;have:=length_filter_le (λr=>HT.lexLt r m) (rs.take j);rw[length_take]at this;omega
   ·rintro j y zs H7 hy ⟨rfl,e⟩;obtain⟨k,ek,rfl⟩:=zah hy;obtain⟨r',er,rr⟩:=r5.getL ek;have r6:=IL.stays K _ _ _ _ s6 rr;refine⟨_,rfl,_,rfl,k,l,_,_,rfl,rfl,r6,m6,_,rfl,zhi (λh=>?_) (λh=>?_)⟩
    ·refine⟨_,rfl,rfl,?_⟩;rw[take_succ,er,filter_append,length_append,length_append,e];show _+1=_+(filter (λr=>HT.lexLt r m) [r']).length;rw[filter_cons_of_pos (by simpa using h)];rfl
    ·refine⟨rfl,?_⟩;rw[take_succ,er,filter_append,length_append,e];show _=_+(filter (λr=>HT.lexLt r m) [r']).length;rw[filter_cons_of_neg (by simpa using h)];rfl
   rintro zs H7 ⟨rfl,e⟩ l8 hl8;rw[length_map,ll,take_length]at e;refine⟨l8,_,rfl,.inl SqL.new,_,_,rfl,rfl,s6.newT hl8,?_⟩;rw[e,take_succ,em,map_append,map_append];rfl
  ·rintro ys H6 ⟨s6,rfl⟩ l9 hl9;rw[length_map,ll,take_length];exact q l9 _ ((s2.trans (s5.trans s6)).newT hl9) ((s2.trans (s5.trans s6)).free hl9) zd
inductive zdg (K:Frag) (vs:List V) (H:Hp) (Q:VK) (E:XK):Prop
 | mk (a b c:Addr) (cs:List (List Int)) (us:List Int):vs=[.ref a,.ref b,.ref c]->Refs K (IL K) H a cs->SqL K H b (us.map V.int)->SqL K H c ((M6.zw cs us).map V.int)->cs.length<=500->us.length<=500->((∀u∈us,∀d∈cs,u∈d))->(∀(l:Addr)(H':Hp)(ls:List Addr),Same H H'->H l=none->H' l=some (.lst (ls.map V.ref))->All2 (F4 K H') ls (M6.za8 cs us)->Q (.ref l) H')->zdg K vs H Q E
theorem zjt(F:Fun K "_law_parts" "_law_parts" zd2 f fd)(T:Txt K mg)(c0l:Can P w K mg base 1 "_law_marks" ww (zau K))(c0s:Can P w K mg base 1 "_law_rows" za2 (zcB K))(c0T:Can P w K mg base 1 "_law_part" zct (zeu K)):FnOk P w K mg base CX0 2 f fd zbx (zdg K):=by
 refine F.ok y8 (λvs H Q E h=>?_) (λcdv A outer s H vs Q E hr h=>?_)
 ·obtain⟨a,b,c,cs,us,rfl,_⟩:=h;rfl
 ·obtain⟨a,b,c,cs,us,rfl,hA,hB,hC,hz,hu,hm,q⟩:=h;refine⟨_,(zc (zu (i:=3) y8.nd rfl (Or.inl rfl) (zi c0s (hM hr) rfl (za (pv 2) (za (pv 1) zb))))
   (zc (zu (i:=4) y8.nd rfl (Or.inl rfl) (zI zb))
   (zc (yP PassesOwn.never rfl (zaG rfl T.b_range (za zg (za (ya T.b_len (pv 3)) zb))) (zU (i:=5) y8.nd rfl (Or.inl rfl))
     (ze (zv (zm yQ (zo yt (zo zk (pv 3) (pv 5) (λ_ _=>rfl)) zg (λ_ _=>rfl)) (zo yt (zo zk (pv 3) (zr zds (pv 5) zg) (λ_ _=>rfl)) zg (λ_ _=>rfl)) (zp _)) (zc (zu (i:=6) y8.nd rfl (Or.inl rfl) (zo yt (zo zk (pv 3) (zr zds (pv 5) zg) (λ_ _=>rfl)) zg (λ_ _=>rfl)))
   (zc (zu (i:=7) y8.nd rfl (Or.inl rfl) (zo yt (zo zk (pv 3) (pv 5) (λ_ _=>rfl)) zg (λ_ _=>rfl)))
   (zc (zu (i:=8) y8.nd rfl (Or.inl rfl) (zi c0T (hM hr) rfl (za (zi c0l (hM hr) rfl (za (pv 0) (za (pv 6) zb))) (za (zi c0l (hM hr) rfl (za (pv 0) (za (pv 7) zb))) (za (ya T.b_len (pv 1)) zb)))))
   (ze (zP (wF PySem.F.plainAttrs_list PySem.F.slot_list_append PySem.F.type_list_append yD (pv 4) (za (zb9 (za (pv 6) (za (pv 7) (za (zo yt (pv 8) zg (λ_ _=>rfl)) (za (zo yt (pv 8) zg (λ_ _=>rfl)) zb))))) zb))))))) zq)))
   (ze (zj (pv 4)))))),?_⟩
  have hln:=zt;refine⟨_,rfl,_,rfl,c,b,_,us,rfl,hC,hB,M6.yu cs us,hu,λl1 H1 ls s1 f1 e1 r1=>?_⟩;have hrl:=M5.rows_len (M6.zw cs us) us (M6.yu cs us);have hmul:us.length*us.length<=500*500:=mul_le_mul hu hu;have hmem:=λp (hp:p∈M5.rows (M6.zw cs us) us)=>M6.zfq hp;unfold M6.za8 at q;generalize M5.rows (M6.zw cs us) us=rs at r1 hrl hmem q;have hl1:=r1.length;refine⟨by decide,λp2 hp2=>?_⟩;have s2:=Same.new (o:=.lst []) hp2;refine⟨_,rfl,l1,_,rfl,.inl (SqL.of (s2 _ _ e1)),_,_,rfl,⟨by decide,by decide,by rw[length_map];omega,by rw[length_map];omega⟩,?_⟩;refine yi (λi σ H2=>∃(v5 v6 v7 v8:Option V)(ms:List Addr),σ=[some (.ref a),some (.ref b),some (.ref c),some (.ref l1),some (.ref p2),v5,v6,v7,v8]/\Same H1 H2/\H2 p2=some (.lst (ms.map V.ref))/\All2 (F4 K H2) ms (((rs.zip rs.tail).take i).filterMap λpq=>M6.nb cs us pq.1 pq.2)) ⟨_,_,_,_,[],rfl,s2,zd,.nil⟩ ?_ ?_
  ·rintro i σ H2 hi ⟨v5,v6,v7,v8,ms,rfl,s12,e2,r2⟩;rw[length_map]at hi;have hi1:i+1<rs.length:=by omega
   have hi0:i<rs.length:=by omega
   have ez:(rs.zip rs.tail)[i]? = some (rs[i],rs[i+1]):=by
    rw[getElem?_eq_getElem (by rw[length_zip,length_tail];omega),List.getElem_zip,List.getElem_tail]
   obtain⟨la,ela,ra⟩:=r1.get (getElem?_eq_getElem hi0);obtain⟨lb,elb,rb⟩:=r1.get (getElem?_eq_getElem hi1);obtain⟨ma1,ma2⟩:=hmem _ (getElem_mem hi0);obtain⟨mb1,mb2⟩:=hmem _ (getElem_mem hi1);rw[take_succ,ez,List.filterMap_append];generalize rs[i]=pa at ra ma1 ma2 ⊢;generalize rs[i+1]=pb at rb mb1 mb2 ⊢;have q1:SqL K H2 l1 (ls.map V.ref):=SqL.of (s12 _ _ e1);have ta:=s12.seqT ra;have tb:=s12.seqT rb;have ea:atI (ls.map V.ref) (1+(i:Int)-1)=some (.ref la):=by
    have:(1:Int)+(i:Int)-1=(i:Int):=by omega
    rw[this];exact zN (yR ela)
   have eb:atI (ls.map V.ref) (1+(i:Int))=some (.ref lb):=by
    have:(1:Int)+(i:Int)=((i+1:Nat):Int):=by omega
    rw[this];exact zN (yR elb)
   refine⟨_,rfl,_,rfl,l1,_,_,_,rfl,rfl,q1,eb,lb,_,_,_,rfl,rfl,tb,rfl,_,rfl,_,rfl,_,_,rfl,rfl,l1,_,_,_,rfl,rfl,q1,ea,la,_,_,_,rfl,rfl,ta,rfl,rfl,_,rfl,yj (λhne=>?_) (λhe=>?_)⟩
   ·have hne:¬pa.1=pb.1:=λz=>hne (by rw[z]);refine⟨_,rfl,_,rfl,_,_,rfl,rfl,l1,_,_,_,rfl,rfl,q1,ea,la,_,_,_,rfl,rfl,ta,rfl,?_⟩;refine⟨_,rfl,_,rfl,l1,_,_,_,rfl,rfl,q1,eb,lb,_,_,_,rfl,rfl,tb,rfl,?_⟩;have s02:=s1.trans s12;refine⟨_,rfl,_,rfl,a,cs,_,rfl,hA.same (IL.stays K) s02,by omega,hm _ ma1,λl3 H3 s3 f3 e3=>?_⟩;have s03:=s02.trans s3;refine⟨_,rfl,_,rfl,a,cs,_,rfl,hA.same (IL.stays K) s03,by omega,hm _ mb1,λl4 H4 s4 f4 e4=>?_⟩;have s04:=s03.trans s4;refine⟨_,rfl,b,_,rfl,.inl (s04.seq hB),l3,l4,_,_,us.length,?_,SqL.of (s4 _ _ e3),SqL.of e4,by rw[M5.zX,M5.zX],by rw[M5.zX];omega,by omega,?_,?_⟩
    ·rw[length_map];rfl
    ·intro hn;have hp:=M6.zcz (M5.zl cs pa.2) (M5.zl cs pb.2) us.length;exact absurd (M6.zaY hp hn) (M6.zgX (by rw[<-ma2,<-mb2];exact hne))
    ·intro r hr l5 H5 s5 hT;have hp:=M6.zaY (M6.zcz (M5.zl cs pa.2) (M5.zl cs pb.2) us.length) hr;have s25:=s3.trans (s4.trans s5);have e25:=s25 _ _ e2;refine⟨_,rfl,.inl ⟨rfl,_,SqL.of e25⟩,_,rfl,_,rfl,_,rfl,l5,_,_,_,rfl,rfl,hT,rfl,_,rfl,l5,_,_,_,rfl,rfl,hT,rfl,(by show 4<=sizeLine;decide),λp6 hp6=>?_⟩;have s6:=Same.new (o:=.tup [.int pa.2,.int pb.2,.int (r.1:Nat),.str r.2]) hp6;have hl2:=r2.length;have hfl:=List.length_filterMap_le (λpq:(Int×Int)×(Int×Int)=>M6.nb cs us pq.1 pq.2) ((rs.zip rs.tail).take i);rw[length_take]at hfl;refine⟨p2,_,_,rfl,rfl,s6 _ _ e25,by rw[length_map];omega,?_⟩;refine⟨_,_,_,_,ms++[p6],rfl,(s12.trans (s25.trans s6)).put hp2,zhc ms p6,?_⟩;have en:M6.nb cs us pa pb=some (pa.2,pb.2,(r.1:Int),r.2):=by unfold M6.nb;rw[if_neg hne,hp];rfl
     have ef:filterMap (λpq:(Int×Int)×(Int×Int)=>M6.nb cs us pq.1 pq.2) (some (pa,pb)).toList=[(pa.2,pb.2,(r.1:Int),r.2)]:=by
      show filterMap _ [(pa,pb)]=_;rw[List.filterMap_cons_some (f:=λpq:(Int×Int)×(Int×Int)=>M6.nb cs us pq.1 pq.2) (a:=(pa,pb)) en,filterMap_nil]
     rw[ef];refine All2.snoc (F4.put (r2.imp λ_ _=>F4.stays K _ _ _ _ (s25.trans s6)) (s6 _ _ e25)) ?_;exact SqT.put (ys:=ms.map V.ref) SqT.new (s6 _ _ e25)
   ·have he:pb.1=pa.1:=by injection he
    have en:M6.nb cs us pa pb=none:=by unfold M6.nb;rw[if_pos he.symm]
    have ef:filterMap (λpq:(Int×Int)×(Int×Int)=>M6.nb cs us pq.1 pq.2) (some (pa,pb)).toList=[]:=by
     show filterMap _ [(pa,pb)]=_;rw[List.filterMap_cons_none (f:=λpq:(Int×Int)×(Int×Int)=>M6.nb cs us pq.1 pq.2) (a:=(pa,pb)) en,filterMap_nil]
    rw[ef,append_nil];exact⟨_,_,_,_,ms,rfl,s12,e2,r2⟩
  ·rintro σ H2 ⟨v5,v6,v7,v8,ms,rfl,s12,e2,r2⟩;have et:(rs.zip rs.tail).take ((((ls.map V.ref).length:Nat):Int)-1).toNat=rs.zip rs.tail:=take_of_length_le (by rw[length_zip,length_tail,length_map];omega);rw[et]at r2;exact⟨_,rfl,q p2 _ ms (s1.trans s12) (s1.free hp2) e2 r2⟩
inductive zed (K:Frag) (vs:List V) (H:Hp) (Q:VK) (E:XK):Prop
 | mk (p c:Int) (a:Addr) (cs:List (List Int)) (n:Nat):vs=[.int p,.int c,.ref a,.int n]->Refs K (IL K) H a cs->cs.length<=15->((∀d∈cs,c∈d))->((∀x∈M5.zl cs c,1<=x/\x<=24))->n<=24->p.natAbs<=990->c.natAbs<=1000->(∀H',Same H H'->Q (.str (M6.zjr p c (M5.zl cs c) n)) H')->zed K vs H Q E
theorem zke(F:Fun K "_law_line" "_law_line" ze0 f fd)(T:Txt K mg)(c0l:Can P w K mg base 1 "_law_marks" ww (zau K))(c0U:Can P w K mg base 1 "_law_words" zbs (zdj K))(c0V:Can P w K mg base 1 "_law_ladder" zaS (zc2 K)):FnOk P w K mg base CX0 2 f fd zcD (zed K):=by
 refine F.ok zgy (λvs H Q E h=>?_) (λcdv A outer s H vs Q E hr h=>?_)
 ·obtain⟨p,c,a,cs,n,rfl,_⟩:=h;rfl
 ·obtain⟨p,c,a,cs,n,rfl,hA,hz,hc,hx,hn,hp,hcc,q⟩:=h;refine⟨_,(zc (zu (i:=4) zgy.nd rfl (Or.inl rfl) (zi c0l (hM hr) rfl (za (pv 2) (za (pv 1) zb))))
   (ze (zj (zi c0U (hM hr) rfl (za (zr wd (zr wd (zr wd (zI (za (pv 0) (za (pv 1) (za yg zb)))) (pv 4)) (zI (za yg zb))) (zi c0V (hM hr) rfl (za (pv 4) (za (pv 3) zb)))) zb))))),?_⟩
  have hln:=zt;refine⟨_,rfl,_,rfl,a,cs,c,rfl,hA,by omega,hc,λl1 H1 s1 f1 e1=>?_⟩;have hml:=M5.zX cs c;generalize M5.zl cs c=ms at e1 hml hx q;refine⟨_,rfl,_,rfl,(by show 3<=sizeLine;decide),λl2 hl2=>?_⟩;have s2:=s1.newT (o:=.lst [.int p,.int c,.str M6.bar]) hl2;have e2:upd H1 l2 (.lst [.int p,.int c,.str M6.bar]) l2=some (.lst [.int p,.int c,.str M6.bar]):=zd;have e12:=(Same.new (o:=.lst [.int p,.int c,.str M6.bar]) hl2) _ _ e1;change Same H (upd H1 l2 (.lst [.int p,.int c,.str (Str.ofString "|")]))at s2;change upd H1 l2 (.lst [.int p,.int c,.str (Str.ofString "|")]) l2=_ at e2;change upd H1 l2 (.lst [.int p,.int c,.str (Str.ofString "|")]) l1=_ at e12;generalize hH2:upd H1 l2 _=H2 at s2 e2 e12 ⊢;refine⟨_,rfl,l2,l1,_,_,rfl,rfl,e2,e12,by rw[length_map];simp only[length_cons,length_nil];omega,λl3 hl3=>?_⟩;have s3:=s2.newT (o:=.lst ([.int p,.int c,.str M6.bar]++ms.map V.int)) hl3;have e3:upd H2 l3 (.lst ([.int p,.int c,.str M6.bar]++ms.map V.int)) l3=some (.lst ([.int p,.int c,.str M6.bar]++ms.map V.int)):=zd;have e13:=(Same.new (o:=.lst ([.int p,.int c,.str M6.bar]++ms.map V.int)) hl3) _ _ e12;generalize hH3:upd H2 l3 _=H3 at s3 e3 e13 ⊢;refine⟨(by show 1<=sizeLine;decide),λl4 hl4=>?_⟩;have s4:=Same.new (o:=.lst [.str M6.bar]) hl4;change Same H3 (upd H3 l4 (.lst [.str (Str.ofString "|")]))at s4;refine⟨l3,l4,_,[.str M6.bar],rfl,rfl,s4 _ _ e3,zd,by rw[length_append,length_map];simp only[length_cons,length_nil];omega,λl5 hl5=>?_⟩;have s5:=s4.newT (o:=.lst ([.int p,.int c,.str M6.bar]++ms.map V.int++[.str M6.bar])) hl5;have e5:upd (upd H3 l4 (.lst [.str (Str.ofString "|")])) l5 (.lst ([.int p,.int c,.str M6.bar]++ms.map V.int++[.str M6.bar])) l5=some (.lst ([.int p,.int c,.str M6.bar]++ms.map V.int++[.str M6.bar])):=zd;generalize hH5:upd (upd H3 l4 _) l5 _=H5 at s5 e5 ⊢;have t5:=s3.trans s5;refine⟨_,rfl,_,rfl,l1,ms,n,rfl,SqL.of (s5 _ _ e13),by omega,hx,hn,λl6 H6 s6 f6 e6=>?_⟩;have hlw:=M6.zjY ms n;refine⟨l5,l6,_,_,rfl,rfl,s6 _ _ e5,e6,by simp only[length_append,length_map,length_cons,length_nil];omega,λl7 hl7=>?_⟩;have s7:=(t5.trans s6).newT (o:=.lst ([.int p,.int c,.str M6.bar]++ms.map V.int++[.str M6.bar]++(M6.zd0 ms n).map V.str)) hl7;refine⟨l7,_,M6.rowW p c ms n,rfl,SqL.new,?_,?_,?_,λH' s'=>q H' (s7.trans s')⟩
  ·have hw1:All2 WordOf [.int p,.int c,.str M6.bar] ([tN p,tN c]++[M6.bar]):=.cons (.int (by omega)) (.cons (.int (by omega)) (.cons .str .nil));exact((hw1.append (zhO λx h=>by have:=hx x h;omega)).append (zfa [M6.bar])).append (zfa _)
  ·unfold M6.rowW;simp only[length_append,length_map,length_cons,length_nil];omega
  ·intro w hw;exact M6.zg2 (by omega) hx hp hcc n w hw
inductive yn (K:Frag) (vs:List V) (H:Hp) (Q:VK) (E:XK):Prop
 | mk (p:Addr) (F:Addr->Prop) (S:Sh):vs=[.ref p]->SheetAt K H p F S->(∀(l:Addr)(H':Hp)(ks:List Addr),Same H H'->H l=none->H' l=some (.lst (ks.map V.ref))->All2 (λk c=>H k=none/\H' k=some (.lst (c.map V.int))) ks S.cardsIn->Q (.ref l) H')->yn K vs H Q E
theorem zhS(F:Fun K "cards" "Sheet.cards" zaN f fd)(T:Txt K mg)(c0a:CanM P w K mg base 1 (zH K "Sheet") "handed" zQ (zZ K))(c0g:CanMX P w K mg base 2 (zH K "Sheet") "card_of" yd (ym K)):FnOk P w K mg base CX0 3 f fd yh (yn K):=by
 refine F.ok zhn (λvs H Q E h=>?_) (λcdv A outer s H vs Q E hr h=>?_)
 ·obtain⟨p,F,S,rfl,_⟩:=h;rfl
 ·obtain⟨p,F,S,rfl,hSh,q⟩:=h;refine⟨_,(ze (zj (zL (show CompScope (zf zaN) ["self"] "judge" ["self"] [0] _ from csM) rfl (zx (zE c0a T.cl_Sheet (hM hr) (pv 0))) (λ_ _ _ _ _=>yz) (λ_ _ _ _ _=>(wG c0g T.cl_Sheet zdX (hM hr) (pv 1) (za (pv 0) zb)))))),?_⟩;have hln:=zt;have h15:=hSh.ok.p15;have hip:∃dx fs,H p=some (.ins (zH K "Sheet") dx fs)/\fs.lookup ("handed":Str)=none/\fs.lookup ("card_of":Str)=none:=by
   obtain⟨dx,a1,a2,a3,d,kvs,h⟩:=hSh;exact⟨dx,_,h.ip,rfl,rfl⟩
  obtain⟨dx,fs,hip,fs1,fs2⟩:=hip;refine⟨_,rfl,p,dx,_,rfl,hip,fs1,p,F,S,rfl,hSh.shape,h15,λa H1 s1 f1 e1=>?_⟩;have hl2:S.handed.length<=15:=le_trans (length_filter_le _ _) h15;refine⟨a,rfl,⟨_,SqL.of e1⟩,?_⟩;refine yb (xs:=S.handed.map V.str) (λi ys H2=>∃ks:List Addr,ys=ks.map V.ref/\Same H1 H2/\All2 (λk c=>H k=none/\H2 k=some (.lst (c.map V.int))) ks ((S.handed.take i).map λj=>(S.card j).getD [])) ⟨[],rfl,Same.refl _,.nil⟩ ?_ (by rw[length_map];omega) ?_ ?_
  ·rintro i ys H2 hi ⟨ks,rfl,s2,r2⟩;refine⟨s2.seq (SqL.of e1),?_⟩;have:=r2.length;rw[length_map,length_take]at this;rw[length_map];omega
  ·rintro i x ys H2 hx ⟨ks,rfl,s2,r2⟩;obtain⟨hi,rfl⟩:=zca hx;have hm:=List.mem_filter.mp (show S.handed.getD i "" ∈ S.panel.filter λj=>(S.card j).isSome from zbb hi);have s12:=s1.trans s2;cases e:S.card (S.handed.getD i "")with
   | none=>rw[e]at hm;exact absurd hm.2 Bool.false_ne_true
   | some c =>
     refine⟨_,rfl,p,dx,_,rfl,s12 _ _ hip,fs2,_,rfl,p,F,S,_,rfl,hSh.same s12,λhj=>absurd hm.1 hj,(λ_ z=>by rw[e]at z;cases z),λc' e' l H3 s3 f3 e3=>?_⟩;rw[e]at e';cases e';refine⟨ks++[l],by rw[map_append];rfl,s2.trans s3,?_⟩;rw[yp hi,map_append];refine(r2.imp λ_ _ z=>⟨z.1,s3 _ _ z.2⟩).snoc ⟨s12.free f3,?_⟩;dsimp only;rw[e];exact e3
  ·rintro ys H2 ⟨ks,rfl,s2,r2⟩ l hl;rw[length_map,take_length]at r2;exact q l _ ks ((s1.trans s2).newT hl) ((s1.trans s2).free hl) zd (r2.imp λ_ _ z=>⟨z.1,Same.new hl _ _ z.2⟩)
inductive zb1 (K:Frag) (vs:List V) (H:Hp) (Q:VK) (E:XK):Prop
 | mk (a:Addr) (ts:List Str):vs=[.ref a]->SqL K H a (ts.map V.str)->ts.length<4000->((∀z∈ts,z.length<=1000))->(∀H',Same H H'->Q (.bl (M2.zel ts)) H')->zb1 K vs H Q E
theorem zhg(F:Fun K "good_judges" "good_judges" zaL f fd)(T:Txt K mg)(c0W:Can P w K mg base 2 "good_name" ["judge"] (zdJ K))(c0o:Can P w K mg base 1 "good_length" yU (wp K))(c0w:Can P w K mg base 1 "all_unlike" ["things"] (zaW K)):FnOk P w K mg base CX0 3 f fd ["judges"] (zb1 K):=by
 refine F.ok zhT (λvs H Q E h=>?_) (λcdv A outer s H vs Q E hr h=>?_)
 ·obtain⟨a,ts,rfl,_⟩:=h;rfl
 ·obtain⟨a,ts,rfl,hS,hz,ht,q⟩:=h;refine⟨_,(ze (zj (zdo (zi c0o (hM hr) rfl (za (pv 0) (za (zei T.c_MOST_JUDGES rfl) zb))) (zdo (zi c0w (hM hr) rfl (za (pv 0) zb)) (zhf (zB (zhw rfl) (by rfl) T.b_all boot_all (za (zL (show CompScope (zf zaL) ["judges"] "judge" [] [] _ from csM) rfl (zx (pv 0)) (λ_ _ _ _ _=>yz) (λ_ _ _ _ _=>(zi c0W (hM hr) rfl (za (pv 0) zb)))) zb))))))),?_⟩;refine⟨_,rfl,_,_,_,rfl,.inl ⟨_,hS,rfl⟩,_,rfl,?_⟩;rw[length_map];unfold M2.zel at q;refine zhi (λh1=>?_) (λh1=>?_)
  ·rw[h1,Bool.true_and]at q;refine⟨_,rfl,a,rfl,.inr ⟨ts,hS,hz,_,rfl,yB (λh2=>?_) (λh2=>?_)⟩⟩
   ·rw[decide_eq_true h2,Bool.true_and]at q;refine⟨_,rfl,a,rfl,⟨_,hS⟩,?_⟩;refine yb (xs:=ts.map V.str) (λi ys H2=>Same H H2/\ys=((ts.take i).map M2.zfn).map V.bl) ⟨Same.refl _,rfl⟩ ?_ (by rw[length_map];have:=zt;omega) ?_ ?_
    ·rintro i ys H2 hi ⟨s2,rfl⟩;exact⟨s2.seq hS,by simp only[length_map,length_take];omega⟩
    ·rintro i x ys H2 hx ⟨s2,rfl⟩;obtain⟨hi,rfl⟩:=zca hx;refine⟨_,rfl,_,rfl,ht _ (zbb hi),λH3 s3=>⟨s2.trans s3,?_⟩⟩;rw[yp hi,map_append,map_append];rfl
    ·rintro ys H2 ⟨s2,rfl⟩ l hl;rw[length_map,take_length];exact⟨l,_,rfl,SqL.new,q _ (s2.newT hl)⟩
   ·rw[decide_eq_false h2,Bool.false_and]at q;exact q _ (Same.refl _)
  ·rw[h1,Bool.false_and]at q;exact q _ (Same.refl _)
inductive zdx (K:Frag) (vs:List V) (H:Hp) (Q:VK) (E:XK):Prop
 | mk (a:Addr) (ms:List Int) (n:Int):vs=[.ref a,.int n]->SqL K H a (ms.map V.int)->ms.length<=1000->0<=n->n<=1000->(∀(l:Addr)(H':Hp)(ls:List Addr),Same H H'->H l=none->H' l=some (.lst (ls.map V.ref))->All2 (TPl K H') ls (M6.zbf ms n.toNat)->Q (.ref l) H')->zdx K vs H Q E
theorem zi0(F:Fun K "ladder_of" "ladder_of" zcI f fd)(T:Txt K mg)(c0b:Can P w K mg base 2 "granted" wV (zaD K))(c0k:Can P w K mg base 2 "granted_sum" yX (wu K)):FnOk P w K mg base CX0 3 f fd zbD (zdx K):=by
 refine F.ok zjn (λvs H Q E h=>?_) (λcdv A outer s H vs Q E hr h=>?_)
 ·obtain⟨a,ms,n,rfl,_⟩:=h;rfl
 ·obtain⟨a,ms,n,rfl,hS,hz,h0,h1,q⟩:=h;refine⟨_,(ze (zj (zL (show CompScope (zf zcI) ["marks","last"] "number" ["marks"] [0] _ from csM) rfl (zaG rfl T.b_range (za zg (za (zr yf (pv 1) zg) zb))) (λ_ _ _ _ _=>yz) (λ_ _ _ _ _=>(zb9 (za (zi c0b (hM hr) rfl (za (pv 1) (za (pv 0) zb))) (za (zi c0k (hM hr) rfl (za (pv 1) (za (pv 0) zb))) zb))))))),?_⟩;refine⟨_,rfl,_,_,rfl,rfl,_,_,rfl,⟨by omega,by omega,by omega,by omega⟩,?_⟩;have en:(n+1-1).toNat=n.toNat:=by omega
  rw[en];refine zeD (λi ys H2=>∃ks:List Addr,ys=ks.map V.ref/\Same H H2/\All2 (TPl K H2) ks (M6.zbf ms i)) ⟨[],rfl,Same.refl _,.nil⟩ ?_ (by have:=zt;omega) ?_ ?_
  ·rintro i ys H2 hi ⟨ks,rfl,s2,r2⟩;have:=r2.length;rw[M6.zdu]at this;rw[length_map];omega
  ·rintro i ys H2 hi ⟨ks,rfl,s2,r2⟩;refine⟨_,rfl,_,rfl,a,ms,_,rfl,s2.seq hS,hz,λH3 s3=>?_⟩;refine⟨_,rfl,_,rfl,a,ms,_,rfl,(s2.trans s3).seq hS,hz,λH4 s4=>?_⟩;refine⟨by show 2<=sizeLine;decide,λt ht=>?_⟩;have s5:=(s2.trans s3).trans s4;refine⟨ks++[t],by rw[map_append];rfl,s5.newT ht,?_⟩;rw[M6.zgu,Int.add_comm (i:Int) 1];exact(r2.imp λ_ _=>TPl.stays K _ _ _ _ ((s3.trans s4).newT ht)).snoc (show TPl K _ t _ from SqT.new)
  ·rintro ys H2 ⟨ks,rfl,s2,r2⟩ l hl;refine q l _ ks (s2.newT hl) ?_ zd (r2.imp λ_ _=>TPl.stays K _ _ _ _ (Same.new hl));cases e:H l with
   | none=>rfl
   | some u=>have:=s2 l u e;rw[hl]at this;cases this
def unlV:Option Int->V
 | none=>.non
 | some n=>.int n
inductive zbz (K:Frag) (vs:List V) (H:Hp) (Q:VK) (E:XK):Prop
 | mk (a b:Addr) (ms us:List Int) (f:Int):vs=[.ref a,.ref b]->SqL K H a (ms.map V.int)->SqL K H b (us.map V.int)->1<=ms.length->ms.length<=60->us.length<=60->((∀x∈ms,1<=x/\x<=24))->((∀x∈us,1<=x/\x<=24))->M3.isF ms f->M3.isF us f->(∀(r:Option Int)(H':Hp),Same H H'->M6.zjP ms us f r->Q (unlV r) H')->zbz K vs H Q E
theorem ziM(F:Fun K "unlike_at" "unlike_at" zef f fd)(T:Txt K mg)(c0b:Can P w K mg base 2 "granted" wV (zaD K))(c0k:Can P w K mg base 2 "granted_sum" yX (wu K))(c0c:Can P w K mg base 2 "first_number" ["marks"] (wb K)):FnOk P w K mg base CX0 3 f fd zam (zbz K):=by
 refine F.ok zfC (λvs H Q E h=>?_) (λcdv A outer s H vs Q E hr h=>?_)
 ·obtain⟨a,b,ms,us,f,rfl,_⟩:=h;rfl
 ·obtain⟨a,b,ms,us,f,rfl,hA,hB,h1,hz,hz2,hm,hu,fF,fG,q⟩:=h;refine⟨_,(zc (yP PassesOwn.never rfl (zaG rfl T.b_range (za (zi c0c (hM hr) rfl (za (pv 0) zb)) (za (zr yf (zB (zih rfl) (by rfl) T.b_max boot_max (za (zr op_catS (pv 0) (pv 1)) zb)) zg) zb))) (zU (i:=2) zfC.nd rfl (Or.inl rfl))
   (zc (zcK (zv (zm yQ (zi c0b (hM hr) rfl (za (pv 0) (za (pv 2) zb))) (zi c0b (hM hr) rfl (za (pv 1) (za (pv 2) zb))) (zp _)) (ze (zj (pv 2))) zq))
   (ze (zcK (zv (zm yQ (zi c0k (hM hr) rfl (za (pv 0) (za (pv 2) zb))) (zi c0k (hM hr) rfl (za (pv 1) (za (pv 2) zb))) (zp _)) (ze (zj (pv 2))) zq)))))
   (ze (zj zgk))),?_⟩
  have hln:=zt;have hne:ms≠[]:=by intro z;rw[z]at h1;simp at h1
  refine⟨_,rfl,a,ms,rfl,hA,hne,hz,hm,λH1 f' s1 hf'=>?_⟩;have ef:=M3.zch hf' fF;subst ef;refine⟨_,rfl,_,rfl,a,b,_,_,rfl,rfl,s1.seq hA,s1.seq hB,(by rw[length_map,length_map];omega),λl hl=>?_⟩;rw[<-map_append];refine⟨l,ms++us,rfl,SqL.new,(by rw[length_append];omega),λM hM hMx=>?_⟩;have hMr:1<=M/\M<=24:=by
   rcases List.mem_append.mp hM with z | z
   ·exact hm M z
   ·exact hu M z
  have hma:∀x∈ms,x<=M:=λx hx=>hMx x (mem_append_left _ hx);have hub:∀x∈us,x<=M:=λx hx=>hMx x (mem_append_right _ hx);have hfr:=M3.zc8 hf' 1 M λx hx=>⟨(hm x hx).1,hma x hx⟩;refine⟨_,_,rfl,rfl,_,_,rfl,⟨by omega,by omega,by omega,by omega⟩,?_⟩;generalize hH2:upd H1 l _=H2;have s2:Same H H2:=by rw[<-hH2];exact s1.newT hl
  refine yi (λi σ H3=>∃v,σ=[some (.ref a),some (.ref b),v]/\Same H H3/\∀j,f'<=j->j<f'+i->M3.cnt ms j=M3.cnt us j/\M3.sm ms j=M3.sm us j) ⟨_,rfl,s2,λj j1 j2=>by omega⟩ ?_ ?_
  ·rintro i σ H3 hi ⟨v,rfl,s3,hj⟩;refine⟨λσ' H'=>σ'=[some (.ref a),some (.ref b),some (.int (f'+i))]/\Same H H'/\M3.cnt ms (f'+i)=M3.cnt us (f'+i),?_,?_⟩
   ·refine⟨_,rfl,_,rfl,a,ms,_,rfl,s3.seq hA,by omega,λH4 s4=>?_⟩;refine⟨_,rfl,_,rfl,b,us,_,rfl,(s3.trans s4).seq hB,by omega,λH5 s5=>?_⟩;refine⟨rfl,_,rfl,yj (λhne=>?_) (λhe=>?_)⟩
    ·refine⟨_,rfl,q (some (f'+i)) _ ((s3.trans s4).trans s5) ⟨by omega,by omega,hj,λz=>hne (by rw[z.1])⟩⟩
    ·refine⟨rfl,(s3.trans s4).trans s5,?_⟩;injection he with he
     omega
   ·rintro σ' H' ⟨rfl,s4,hcnt⟩;refine⟨λσ' H'=>σ'=[some (.ref a),some (.ref b),some (.int (f'+i))]/\Same H H'/\M3.sm ms (f'+i)=M3.sm us (f'+i),?_,?_⟩
    ·refine⟨_,rfl,_,rfl,a,ms,_,rfl,s4.seq hA,by omega,λH5 s5=>?_⟩;refine⟨_,rfl,_,rfl,b,us,_,rfl,(s4.trans s5).seq hB,by omega,λH6 s6=>?_⟩;refine⟨rfl,_,rfl,yj (λhne=>?_) (λhe=>?_)⟩
     ·refine⟨_,rfl,q (some (f'+i)) _ ((s4.trans s5).trans s6) ⟨by omega,by omega,hj,λz=>hne (by rw[z.2])⟩⟩
     ·refine⟨rfl,(s4.trans s5).trans s6,?_⟩;injection he with he
    ·rintro σ' H'' ⟨rfl,s5,hsm⟩;refine⟨_,rfl,s5,λj j1 j2=>?_⟩;by_cases c:j<f'+i
     ·exact hj j j1 c
     ·have:j=f'+i:=by omega
      subst this;exact⟨hcnt,hsm⟩
  ·rintro σ H3 ⟨v,rfl,s3,hj⟩;exact q none _ s3 (M6.unl_beyond hma hub hfr.2 λj j1 j2=>hj j j1 (by omega))
inductive wx (K:Frag) (vs:List V) (H:Hp) (Q:VK) (E:XK):Prop
 | mk (p:Addr) (F:Addr->Prop) (S:Sh) (j:Str):vs=[.ref p,.str j]->SheetAt K H p F S->(∀(l:Addr)(H':Hp)(ks:List Addr),Same H H'->H l=none->H' l=some (.lst (ks.map V.ref))->All2 (IL K H') ks (S.cardsWo j)->Q (.ref l) H')->wx K vs H Q E
theorem zga(F:Fun K "cards_without" "cards_without" wT f fd)(T:Txt K mg)(c0a:CanM P w K mg base 1 (zH K "Sheet") "handed" zQ (zZ K))(c0g:CanMX P w K mg base 2 (zH K "Sheet") "card_of" yd (ym K)):FnOk P w K mg base CX0 3 f fd yS (wx K):=by
 refine F.ok zf6 (λvs H Q E h=>?_) (λcdv A outer s H vs Q E hr h=>?_)
 ·obtain⟨p,F,S,j,rfl,_⟩:=h;rfl
 ·obtain⟨p,F,S,j,rfl,hSh,q⟩:=h;refine⟨_,(ze (zj (zL (show CompScope (zf wT) ["sheet","judge"] "other" ["sheet","judge"] [0,1] _ from csM) rfl (zx (zE c0a T.cl_Sheet (hM hr) (pv 0))) (λ_ _ _ _ _=>(yC (zm yQ (pv 0) (pv 2) (zp _)))) (λ_ _ _ _ _=>(wG c0g T.cl_Sheet zdX (hM hr) (pv 1) (za (pv 0) zb)))))),?_⟩;have hln:=zt;have h15:=hSh.ok.p15;obtain⟨dx,b1,b2,b3,d,hip⟩:=hSh.ins;refine⟨_,rfl,p,dx,_,rfl,hip,rfl,p,F,S,rfl,hSh.shape,h15,λa H1 s1 f1 e1=>?_⟩;have hl2:S.handed.length<=15:=le_trans (length_filter_le _ _) h15;refine⟨a,rfl,⟨_,SqL.of e1⟩,?_⟩;refine yV (xs:=S.handed.map V.str) (λi ys H2=>∃ks:List Addr,ys=ks.map V.ref/\Same H1 H2/\All2 (IL K H2) ks (((S.handed.take i).filter λi => !decide (i=j)).map λi=>(S.card i).getD [])) ⟨[],rfl,Same.refl _,.nil⟩ ?_ (by rw[length_map];omega) ?_ ?_
  ·rintro i ys H2 hi ⟨ks,rfl,s2,r2⟩;refine⟨s2.seq (SqL.of e1),?_⟩;have h3:=r2.length;have h4:=length_filter_le (λi => !decide (i=j)) (S.handed.take i);rw[length_map]at h3;rw[length_take]at h4;rw[length_map];omega
  ·rintro i x ys H2 hx ⟨ks,rfl,s2,r2⟩;obtain⟨hi,rfl⟩:=zca hx;have hm:=List.mem_filter.mp (show S.handed.getD i "" ∈ S.panel.filter λj=>(S.card j).isSome from zbb hi);have s12:=s1.trans s2;refine⟨_,rfl,_,rfl,rfl,_,rfl,yj (λhne=>?_) (λhe=>?_)⟩
   ·have hne:¬S.handed.getD i ""=j:=λz=>hne (by rw[z]);cases e:S.card (S.handed.getD i "")with
    | none=>rw[e]at hm;exact absurd hm.2 Bool.false_ne_true
    | some c =>
      refine⟨_,rfl,p,dx,_,rfl,s12 _ _ hip,rfl,_,rfl,p,F,S,_,rfl,hSh.same s12,λhj=>absurd hm.1 hj,(λ_ z=>by rw[e]at z;cases z),λc' e' l H3 s3 f3 e3=>?_⟩;rw[e]at e';cases e';refine⟨ks++[l],by rw[map_append];rfl,s2.trans s3,?_⟩;rw[yp hi,filter_append,filter_cons,if_pos (by rw[decide_eq_false hne];rfl),map_append];refine(r2.imp λ_ _=>IL.stays K _ _ _ _ s3).snoc ?_;show IL K H3 l ((S.card (S.handed.getD i "")).getD []);rw[e];exact SqL.of e3
   ·have he:S.handed.getD i ""=j:=by injection he
    refine⟨ks,rfl,s2,?_⟩;rw[yp hi,filter_append,filter_cons,if_neg (by rw[decide_eq_true he];decide),filter_nil,append_nil];exact r2
  ·rintro ys H2 ⟨ks,rfl,s2,r2⟩ l hl;rw[length_map,take_length]at r2;have s12:=s1.trans s2;exact q l _ ks (s12.newT hl) (s12.free hl) zd (r2.imp λ_ _=>IL.stays K _ _ _ _ (Same.new hl))
inductive zdG (K:Frag) (vs:List V) (H:Hp) (Q:VK) (E:XK):Prop
 | mk (a b:Addr) (cs:List (List Int)):vs=[.ref a,.ref b]->Refs K (IL K) H a cs->Refs K (IL K) H b cs->cs.length<=1000->((∀d∈cs,d.length<=1000))->Q (.bl true) H->zdG K vs H Q E
theorem zjD(F:Fun K "_law_lists" "_law_lists" zeC f fd)(T:Txt K mg)(c0h:Can P w K mg base 2 "_law_same" wZ (za0 K)):FnOk P w K mg base CX0 3 f fd zbA (zdG K):=by
 refine F.ok zfo (λvs H Q E h=>?_) (λcdv A outer s H vs Q E hr h=>?_)
 ·obtain⟨a,b,cs,rfl,_⟩:=h;rfl
 ·obtain⟨a,b,cs,rfl,⟨ls,hA,rA⟩,⟨ks,hB,rB⟩,hz,hd,q⟩:=h;refine⟨_,(zc (zv (PW.pt (zax (zJ (zF (zB wL (by rfl) T.b_isinstance boot_isinstance (za (pv 0) (za (wz (v:=V.ty "list") rfl T.b_list boot_list rfl) zb))))) (we (zm yQ (ya T.b_len (pv 0)) (ya T.b_len (pv 1)) (zp _))))) (ze (zj zY)) zq)
   (zc (yP PassesOwn.never rfl (yo rfl T.b_range (za (ya T.b_len (pv 1)) zb)) (zU (i:=2) zfo.nd rfl (Or.inl rfl))
     (ze (zv (zJ (zF (zi c0h (hM hr) rfl (za (zo zk (pv 0) (pv 2) (λ_ _=>rfl)) (za (zo zk (pv 1) (pv 2) (λ_ _=>rfl)) zb))))) (ze (zj zY)) zq)))
   (ze (zj zY)))),?_⟩
  have la:=rA.length;have lb:=rB.length;refine⟨_,rfl,_,_,rfl,.yes hA,_,rfl,yl ?_⟩;refine⟨_,rfl,a,_,rfl,.inl hA,_,rfl,b,_,rfl,.inl hB,rfl,_,rfl,?_⟩;rw[length_map,length_map];refine yj (λhne=>absurd (by rw[la,lb]) hne) (λhe=>?_);refine⟨_,rfl,b,_,rfl,.inl hB,_,rfl,by omega,by rw[length_map];omega,?_⟩;rw[length_map];refine yi (λi σ H2=>∃v,σ=[some (.ref a),some (.ref b),v]/\H2=H) ⟨_,rfl,rfl⟩ ?_ ?_
  ·rintro i σ H2 hi ⟨v,rfl,rfl⟩;have hi':i<cs.length:=by rw[<-lb];simpa using hi
   obtain⟨l,el,rl⟩:=rA.get (getElem?_eq_getElem hi');obtain⟨k,ek,rk⟩:=rB.get (getElem?_eq_getElem hi');have e1:atI (ls.map V.ref) (0+(i:Int))=some (.ref l):=by rw[Int.zero_add];exact zN (yR el)
   have e2:atI (ks.map V.ref) (0+(i:Int))=some (.ref k):=by rw[Int.zero_add];exact zN (yR ek)
   refine⟨_,rfl,_,rfl,a,_,_,_,rfl,rfl,hA,e1,_,rfl,_,rfl,b,_,_,_,rfl,rfl,hB,e2,l,k,_,_,rfl,rl,rk,by have:=hd _ (getElem_mem hi');omega,?_⟩;rw[decide_eq_true rfl];exact⟨_,rfl,yl ⟨_,rfl,rfl⟩⟩
  ·rintro σ H2 ⟨v,rfl,rfl⟩;exact q
inductive zdm (K:Frag) (vs:List V) (H:Hp) (Q:VK) (E:XK):Prop
 | mk (c u:Int) (a:Addr) (ns:List Int) (y:Int):vs=[.int c,.int u,.ref a,.int y]->1<=u->u<=1000000->SqL K H a (ns.map V.int)->ns≠[]->ns.length<=1000->(∀(l:Addr)(H':Hp)(ms:List Int),Same H H'->H l=none->H' l=some (.lst (ms.map V.int))->ms.Perm ns->Q (.ref l) H')->zdm K vs H Q E
theorem zjs(F:Fun K "_law_dealt" "_law_dealt" zev f fd)(T:Txt K mg)(c0r:Can P w K mg base 1 "_law_mix" zb7 (zdQ K))(c0y:Can P w K mg base 2 "_law_card" zcu (zeh K)):FnOk P w K mg base CX0 3 f fd zbM (zdm K):=by
 refine F.ok zi4 (λvs H Q E h=>?_) (λcdv A outer s H vs Q E hr h=>?_)
 ·obtain⟨c,u,a,ns,y,rfl,_⟩:=h;rfl
 ·obtain⟨c,u,a,ns,y,rfl,u0,u1,hS,hne,hz,q⟩:=h;refine⟨_,(zc (zv (zm zag (pv 3) zg (zp _)) (ze (zj (zi c0y (hM hr) rfl (za (pv 0) (za (pv 2) (za zg zb)))))) zq)
   (zc (zv (zm zag (pv 3) zg (zp _)) (ze (zj (zi c0y (hM hr) rfl (za (zi c0r (hM hr) rfl (za (pv 0) (za zg zb))) (za (pv 2) (za zg zb)))))) zq)
   (ze (zj (zi c0y (hM hr) rfl (za (zr wQ (pv 0) (pv 1)) (za (pv 2) (za (pv 3) zb)))))))),?_⟩
  refine⟨_,rfl,rfl,_,rfl,yB (λ_=>?_) (λ_=>?_)⟩
  ·exact⟨_,rfl,_,rfl,_,a,ns,_,rfl,hS,hne,hz,q⟩
  refine⟨_,rfl,rfl,_,rfl,yB (λ_=>?_) (λ_=>?_)⟩
  ·exact⟨_,rfl,_,_,rfl,_,rfl,_,a,ns,_,rfl,hS,hne,hz,q⟩
  ·exact⟨_,rfl,_,rfl,_,_,rfl,rfl,⟨by omega,by omega⟩,_,rfl,_,rfl,_,a,ns,_,rfl,hS,hne,hz,q⟩
inductive zaM (K:Frag) (vs:List V) (H:Hp) (Q:VK) (E:XK):Prop
 | mk (a b:Addr) (cs:List (List Int)) (us:List Int):vs=[.ref a,.ref b]->Refs K (IL K) H a cs->SqL K H b (us.map V.int)->((∀d∈cs,d.Perm us))->1<=cs.length->cs.length<=500->us.length<=500->(∀(l:Addr)(H':Hp),Same H H'->H l=none->H' l=some (.lst ((wO cs us).map V.int))->Q (.ref l) H')->zaM K vs H Q E
theorem zia(F:Fun K "_law_firsts" "_law_firsts" zbG f fd)(T:Txt K mg)(c0p:Can P w K mg base 2 "_law_spots" zaj (zbB K)):FnOk P w K mg base CX0 3 f fd wE (zaM K):=by
 refine F.ok zeP (λvs H Q E h=>?_) (λcdv A outer s H vs Q E hr h=>?_)
 ·obtain⟨a,b,cs,us,rfl,_⟩:=h;rfl
 ·obtain⟨a,b,cs,us,rfl,hA,hB,hp,c1,c15,u24,q⟩:=h;refine⟨_,(zc (zu (i:=2) zeP.nd rfl (Or.inr rfl) (zi c0p (hM hr) rfl (za (pv 0) (za (pv 1) zb))))
   (ze (zj (zL (show CompScope (zf zbG) zeV "_law_k" ["_law_couples_here","_law_spots_here"] [1,2] _ from csM) rfl (yo rfl T.b_range (za (ya T.b_len (pv 1)) zb)) (λ_ _ _ _ _=>(yC (zm zag (zo (zcg (K:=K) rfl) (pv 2) (pv 0) (λ_ _=>rfl)) zg (zp _)))) (λ_ _ _ _ _=>(zo (zcg (K:=K) rfl) (pv 1) (pv 0) (λ_ _=>rfl))))))),?_⟩
  have hln:=zt;refine⟨_,rfl,_,rfl,a,b,cs,us,rfl,hA,hB,c15,u24,λu hu d hd=>(hp d hd).mem_iff.mpr hu,λl1 H1 s1 f1 e1=>?_⟩;rw[M6.zbE hp c1]at e1;have hpl:=M6.yu cs us;refine⟨_,rfl,b,_,rfl,.inl (s1.seq hB),_,rfl,by omega,by rw[length_map];omega,?_⟩;rw[length_map,show((us.length:Nat):Int).toNat=us.length by omega];refine zfg (λi zs H2=>Same H1 H2/\zs=(zcr (M6.zw cs us) us i).map V.int) ⟨Same.refl _,rfl⟩ ?_ (by omega) ?_ ?_
  ·rintro i zs H2 hi ⟨s2,rfl⟩;rw[length_map];exact zee _ _ _
  ·rintro i zs H2 hi ⟨s2,rfl⟩;refine⟨_,rfl,_,rfl,l1,_,_,_,rfl,rfl,SqL.of (s2 _ _ e1),(by rw[Int.zero_add];exact zN (wR (by omega))),rfl,_,rfl,yB (λhe=>?_) (λhne=>?_)⟩
   ·have he:(M6.zw cs us).getD i 0=1:=by injection he
    refine⟨_,rfl,_,rfl,b,_,_,_,rfl,rfl,(s1.trans s2).seq hB,(by rw[Int.zero_add];exact zN (wR hi)),s2,?_⟩;rw[zbC,if_pos he,map_append];rfl
   ·have hne:¬(M6.zw cs us).getD i 0=1:=λz=>hne (by rw[z]);refine⟨s2,?_⟩;rw[zbC,if_neg hne,append_nil]
  ·rintro zs H2 ⟨s2,rfl⟩ l hl;have t2:=s1.trans s2;exact q l _ (t2.newT hl) (t2.free hl) zd
inductive zcU (K:Frag) (vs:List V) (H:Hp) (Q:VK) (E:XK):Prop
 | mk (G:Addr->Prop) (S:Sh) (st n u g k x:Addr) (F:Addr->Prop) (ls:List Addr) (cell:Int):vs=[.ref st,.int cell]->St7 K H G S st n u g k x F ls->S.shut=false->2<=S.couples.length->(∀(H':Hp)(G' F':Addr->Prop)(ls':List Addr)(c:Int),St7 K H' G' (S.strike c) st n u g k x F' ls'->Deed G H G' H'->Q .non H')->zcU K vs H Q E
variable {a:Addr}{H:Hp}
theorem st_ints{st n:Addr}{r:List V}{w:List Int}(e:H a=some (.lst (w.map V.int)))(hst:H st=some (.lst (.ref n::r))):a≠st:=yc e hst λz=>by
 injection z with z
 cases w with
 | nil=>cases z
 | cons x w=>simp at z
theorem st_refs{st n u g k x:Addr}{i:Int}{b:Bool}{ls:List Addr}(e:H a=some (.lst (ls.map V.ref)))(hst:H st=some (.lst [.ref n,.ref u,.ref g,.ref k,.ref x,.int i,.bl b])):a≠st:=yc e hst λz=>by
 injection z with z
 have z5:=congrArg (λl=>l[5]?) z;simp only[getElem?_map]at z5;cases h:ls[5]? with
 | none=>rw[h]at z5;cases z5
 | some l=>rw[h]at z5;cases z5
variable {rs:List (List Int)}
theorem set_step(f:List Int->List Int){i:Nat}(hi:i<rs.length):((rs.take i).map f++rs.drop i).set i (f (rs.getD i []))=(rs.take (i+1)).map f++rs.drop (i+1):=by
 have hl:((rs.take i).map f).length=i:=by rw[length_map,length_take];omega
 have e:rs.getD i []=rs[i]:=by rw[getD_eq_getElem?_getD,getElem?_eq_getElem hi];rfl
 rw[List.set_append_right _ _ (by omega),hl,Nat.sub_self,drop_eq_getElem_cons hi,List.set_cons_zero,e,take_succ,getElem?_eq_getElem hi,map_append,append_assoc];rfl
theorem get_step(f:List Int->List Int){i:Nat}(hi:i<rs.length):((rs.take i).map f++rs.drop i)[i]? = some (rs.getD i []):=by
 have hl:((rs.take i).map f).length=i:=by rw[length_map,length_take];omega
 rw[List.getElem?_append_right (by omega),hl,Nat.sub_self,List.getElem?_drop,Nat.add_zero,getD_eq_getElem?_getD,getElem?_eq_getElem hi];rfl
theorem zie(F:Fun K "_law_strike" "_law_strike" zdD f fd)(T:Txt K mg)(c0X:Can P w K mg base 1 "_law_without" zal (zcb K))(c0Y:CanMX P w K mg base 2 (zH K "Sheet") "strike" wS (zbp K)):FnOk P w K mg base CX0 3 f fd zaR (zcU K):=by
 refine F.ok zcZ (λvs H Q E h=>?_) (λcdv A outer s H vs Q E hr h=>?_)
 ·obtain⟨G,S,st,n,u,g,k,x,F,ls,cell,rfl,_⟩:=h;rfl
 ·obtain⟨G,S,st,n,u,g,k,x,F,ls,cell,rfl,hT,hs,h2,q⟩:=h;refine⟨_,(zc (zu (i:=2) zcZ.nd rfl (Or.inl rfl) (zo zk (zo zk (pv 0) zg (λ_ _=>rfl)) (zr yq (pv 1) (ya T.b_len (zo zk (pv 0) zg (λ_ _=>rfl)))) (λ_ _=>rfl)))
   (zc (zP (wG c0Y T.cl_Sheet zdX (hM hr) (zo zk (pv 0) zg (λ_ _=>rfl)) (za (pv 2) zb)))
   (zc (zP (wF PySem.F.plainAttrs_list PySem.F.slot_list_append PySem.F.type_list_append yD (zo zk (pv 0) zg (λ_ _=>rfl)) (za (pv 2) zb)))
   (zc (zP (wF PySem.F.plainAttrs_list PySem.F.slot_list_remove PySem.F.type_list_remove mt_remove (zo zk (pv 0) zg (λ_ _=>rfl)) (za (pv 2) zb)))
   (ze (yP PassesOwn.never rfl (yo rfl T.b_range (za (ya T.b_len (zo zk (pv 0) zg (λ_ _=>rfl))) zb)) (zU (i:=3) zcZ.nd rfl (Or.inl rfl))
     (ze (ziQ (zi c0X (hM hr) rfl (za (zo zk (zo zk (pv 0) zg (λ_ _=>rfl)) (pv 3) (λ_ _=>rfl)) (za (pv 2) zb))) (zjm (zo zk (pv 0) zg (λ_ _=>rfl)) (pv 3) zfM))))))))),?_⟩
  have hln:=zt;have ok:=hT.sh.ok;have c24:=ok.c24;have p15:=ok.p15;have p1:=ok.p1;have hlen:=hT.hr.len;rw[S.rows_len]at hlen;have hls:ls≠[]:=λz=>by rw[z]at hlen;simp at hlen;omega
  have q0:=Int.emod_nonneg cell (b:=(S.couples.length:Int)) (by omega);have q1:=Int.emod_lt_of_pos cell (b:=(S.couples.length:Int)) (by omega);refine⟨_,rfl,st,_,_,_,rfl,rfl,SqL.of hT.hst,rfl,_,rfl,_,rfl,st,_,_,_,rfl,rfl,SqL.of hT.hst,rfl,u,_,rfl,.inl (SqL.of hT.hu),?_⟩;rw[length_map];refine⟨_,_,rfl,rfl,(by show(0:Int)<S.couples.length;omega),u,_,_,_,rfl,rfl,SqL.of hT.hu,zc6 q0 (by omega),?_⟩;have hc:=wN (ns:=S.couples) (i:=(cell%(S.couples.length:Int)).toNat) (by omega);generalize S.couples.getD (cell%(S.couples.length:Int)).toNat 0=c at hc ⊢;have hrs:S.refuseS c=none:=by
   unfold Sh.refuseS;rw[hs,if_neg (by decide),if_pos hc,if_neg (by omega)]
  obtain⟨dx,b1,b2,b3,dd,hip⟩:=hT.sh.ins;refine⟨_,rfl,st,_,_,_,rfl,rfl,SqL.of hT.hst,rfl,x,dx,_,rfl,hip,rfl,_,rfl,x,F,S,c,rfl,hT.sh,λz hz=>(by rw[hrs]at hz;cases hz),λ_ H1 F0 h0 d0=>?_⟩;obtain⟨F1,h1,d1,kd1⟩:∃F1:Addr->Prop,SheetAt K H1 x F1 (S.strike c)/\Deed F H F1 H1/\∀b,F1 b->∃o,H1 b=some o/\KB o:=⟨_,h0.kinds,λb o e n=>⟨(d0 b o e n).1,λz=>(d0 b o e n).2 z.1⟩,λb z=>z.2⟩;have st1:=d1 _ _ hT.hst hT.fst;have u1:=d1 _ _ hT.hu hT.fu;have g1:=d1 _ _ hT.hg hT.fg;have r1:=hT.hr.deed d1;have n1:=d1 _ _ hT.hn (λz=>hT.nn (hT.gF _ z));have stg:st≠g:=(st_ints g1.1 st1.1).symm;have kg:k≠g:=(yc g1.1 r1.1 (zdM hls)).symm;refine⟨_,rfl,st,_,_,_,rfl,rfl,SqL.of st1.1,rfl,.inl ⟨rfl,_,SqL.of g1.1⟩,_,rfl,g,_,_,rfl,rfl,g1.1,by rw[length_map];omega,?_⟩;have st2:upd H1 g (.lst (S.struck.map V.int++[V.int c])) st=some (.lst [.ref n,.ref u,.ref g,.ref k,.ref x,.int S.taken,.bl S.shut]):=by rw[zh stg];exact st1.1
  have u2:upd H1 g (.lst (S.struck.map V.int++[V.int c])) u=some (.lst (S.couples.map V.int)):=by rw[zh hT.ug];exact u1.1
  have g2:upd H1 g (.lst (S.struck.map V.int++[V.int c])) g=some (.lst ((S.struck++[c]).map V.int)):=by rw[zd,map_append];rfl
  have h2':=h1.put (o:=.lst (S.struck.map V.int++[V.int c])) g1.2;have r2:=r1.put (o:=.lst (S.struck.map V.int++[V.int c])) ⟨kg,λl hl=>(hT.lg l hl).1⟩;have out2:∀b o,H b=some o->¬G b->upd H1 g (.lst (S.struck.map V.int++[V.int c])) b=some o/\¬F1 b:=λb o e nb=>by
   obtain⟨z1,z2⟩:=d1 b o e (λw=>nb (hT.gF b w));exact⟨by rw[zh (fun(w:b=g)=>nb (by rw[w];exact hT.gg))];exact z1,z2⟩
  have kd2:∀b,F1 b->∃o,upd H1 g (.lst (S.struck.map V.int++[V.int c])) b=some o/\KB o:=λb z=>by
   rw[zh (fun(w:b=g)=>g1.2 (by rw[<-w];exact z))];exact kd1 b z
  generalize hH2:upd H1 g _=H2 at st2 u2 g2 h2' r2 out2 kd2 ⊢;refine⟨_,rfl,st,_,_,_,rfl,rfl,SqL.of st2,rfl,.inl ⟨rfl,_,SqL.of u2⟩,_,rfl,u,S.couples,c,rfl,rfl,u2,ok.nd,hc,?_⟩;have stu:st≠u:=(st_ints u2 st2).symm;have ku:k≠u:=(yc u2 r2.1 (zdM hls)).symm;have st3:upd H2 u (.lst ((wo c S.couples).map V.int)) st=some (.lst [.ref n,.ref u,.ref g,.ref k,.ref x,.int S.taken,.bl S.shut]):=by rw[zh stu];exact st2
  have u3:upd H2 u (.lst ((wo c S.couples).map V.int)) u=some (.lst ((wo c S.couples).map V.int)):=zd;have g3:upd H2 u (.lst ((wo c S.couples).map V.int)) g=some (.lst ((S.struck++[c]).map V.int)):=by rw[zh hT.ug.symm];exact g2
  have h3:=h2'.put (o:=.lst ((wo c S.couples).map V.int)) u1.2;have r3:=r2.put (o:=.lst ((wo c S.couples).map V.int)) ⟨ku,λl hl=>(hT.lg l hl).2⟩;have out3:∀b o,H b=some o->¬G b->upd H2 u (.lst ((wo c S.couples).map V.int)) b=some o/\¬F1 b:=λb o e nb=>⟨by rw[zh (fun(w:b=u)=>nb (by rw[w];exact hT.gu))];exact(out2 b o e nb).1,(out2 b o e nb).2⟩;have kd3:∀b,F1 b->∃o,upd H2 u (.lst ((wo c S.couples).map V.int)) b=some o/\KB o:=λb z=>by
   rw[zh (fun(w:b=u)=>u1.2 (by rw[<-w];exact z))];exact kd2 b z
  have e33:HO.lst ((S.couples.filter λo => !decide (o=c)).map V.int)=.lst ((wo c S.couples).map V.int):=rfl;rw[e33];generalize hH3:upd H2 u _=H3 at st3 u3 g3 h3 r3 out3 kd3 ⊢;have hrl:S.rows.length=S.panel.length:=S.rows_len;refine⟨_,rfl,st,_,_,_,rfl,rfl,SqL.of st3,rfl,k,_,rfl,.inl (SqL.of r3.1),_,rfl,by omega,by rw[length_map];omega,?_⟩;rw[length_map,show((ls.length:Nat):Int).toNat=ls.length by omega];refine yi (λi σ H4=>∃(v:Option V)(ls':List Addr),σ=[some (.ref st),some (.int cell),some (.int c),v]/\SheetAt K H4 x F1 (S.strike c)/\H4 st=some (.lst [.ref n,.ref u,.ref g,.ref k,.ref x,.int S.taken,.bl S.shut])/\H4 u=some (.lst ((wo c S.couples).map V.int))/\H4 g=some (.lst ((S.struck++[c]).map V.int))/\H4 k=some (.lst (ls'.map V.ref))/\All2 (λl d=>H4 l=some (.lst (d.map V.int))/\¬F1 l/\l≠g/\l≠u/\(∀o,H l=some o->G l)) ls' ((S.rows.take i).map (wo c)++S.rows.drop i)/\(∀b o,H b=some o->¬G b->H4 b=some o/\¬F1 b)/\∀b,F1 b->∃o,H4 b=some o/\KB o) ⟨_,ls,rfl,h3,st3,u3,g3,r3.1,?_,out3,kd3⟩ ?_ ?_
  ·show All2 _ ls (map (wo c) []++S.rows);exact r3.2.2.impM λl hl d z=>⟨z.1,z.2,(hT.lg l hl).1,(hT.lg l hl).2,λ_ _=>hT.gl l hl⟩
  ·rintro i σ H4 hi ⟨v,ls',rfl,i1,i2,i3,i4,i5,i6,i7,i8⟩;have hi2:i<S.rows.length:=by omega
   have hl6:=i6.length;have hl7:((S.rows.take i).map (wo c)++S.rows.drop i).length=S.rows.length:=by rw[length_append,length_map,length_take,length_drop];omega
   have hls':ls'≠[]:=λz=>by rw[z]at hl6;simp at hl6;omega
   obtain⟨l,el,rl⟩:=i6.get (get_step (wo c) hi2);have hdl:(S.rows.getD i []).length<=24:=Sh.rows_le ok (by rw[getD_eq_getElem?_getD,getElem?_eq_getElem hi2];exact getElem_mem _);rw[Int.zero_add];refine⟨_,rfl,st,_,_,_,rfl,rfl,SqL.of i2,rfl,_,rfl,k,_,_,_,rfl,rfl,SqL.of i5,zN (yR el),_,rfl,l,_,c,rfl,SqL.of rl.1,by omega,λlv H5 s5 f5 e5=>?_⟩;have e5:H5 lv=some (.lst ((wo c (S.rows.getD i [])).map V.int)):=e5;refine⟨_,rfl,st,_,_,_,rfl,rfl,SqL.of (s5 _ _ i2),rfl,_,rfl,k,_,_,i,rfl,rfl,s5 _ _ i5,ixN_ok (by omega) (by rw[length_map];show i<ls'.length;omega),?_⟩;have nk:∀{b:Addr}{w:List Int},H5 b=some (.lst (w.map V.int))->b≠k:=λ{b w} z=>yc z (s5 _ _ i5) (zdM hls');have nst:st≠k:=(st_refs (s5 _ _ i5) (s5 _ _ i2)).symm;have fv:¬F1 lv:=i1.apart f5;have hH0:∀o,H lv=some o->G lv:=λo e=>by
    by_cases hg:G lv
    ·exact hg
    ·rw[(i7 lv o e hg).1]at f5;cases f5
   refine⟨_,ls'.set i lv,rfl,(i1.same s5).put ?_,by rw[zh nst];exact s5 _ _ i2,by rw[zh (nk (s5 _ _ i3))];exact s5 _ _ i3,by rw[zh (nk (s5 _ _ i4))];exact s5 _ _ i4,by rw[zd,map_set],?_,λb o e nb=>⟨by rw[zh (fun(w:b=k)=>nb (by rw[w];exact hT.gk))];exact s5 _ _ (i7 b o e nb).1,(i7 b o e nb).2⟩,λb z=>by
    rw[zh (fun(w:b=k)=>r3.2.1 (by rw[<-w];exact z))];obtain⟨o,e,t⟩:=i8 b z;exact⟨o,s5 _ _ e,t⟩⟩
   ·exact r3.2.1
   ·rw[<-set_step (wo c) hi2];refine All2.set (i6.imp λl d z=>⟨by rw[zh (nk (s5 _ _ z.1))];exact s5 _ _ z.1,z.2⟩) ⟨by rw[zh (nk e5)];exact e5,fv,(λz=>by rw[z,i4]at f5;cases f5),(λz=>by rw[z,i3]at f5;cases f5),hH0⟩ i
  ·rintro σ H4 ⟨v,ls',rfl,i1,i2,i3,i4,i5,i6,i7,i8⟩;rw[show ls.length=S.rows.length by omega,take_length,List.drop_length,append_nil]at i6;have hlast:=i6;refine q H4 (λb=>F1 b\/b=st\/b=u\/b=g\/b=k\/b∈ls') F1 ls' c ⟨i1,i2,(i7 _ _ hT.hn hT.nn).1,?_,i3,i4,⟨i5,r3.2.1,by rw[Sh.rows_strike];exact i6.imp λl d z=>⟨z.1,z.2.1⟩⟩,st1.2,u1.2,g1.2,hT.ug,λl hl=>?_,λb z=>.inl z,.inr (.inl rfl),.inr (.inr (.inl rfl)),.inr (.inr (.inr (.inl rfl))),.inr (.inr (.inr (.inr (.inl rfl)))),λl hl=>.inr (.inr (.inr (.inr (.inr hl)))),λb z=>?_⟩ (λb o e nb=>⟨(i7 b o e nb).1,?_⟩)
   ·rintro (z | z | z | z | z | z)
    ·exact n1.2 z
    ·exact hT.nn (by rw[z];exact hT.gst)
    ·exact hT.nn (by rw[z];exact hT.gu)
    ·exact hT.nn (by rw[z];exact hT.gg)
    ·exact hT.nn (by rw[z];exact hT.gk)
    ·obtain⟨d,w⟩:=i6.memL z;exact hT.nn (w.2.2.2.2 _ hT.hn)
   ·obtain⟨d,w⟩:=i6.memL hl;exact⟨w.2.2.1,w.2.2.2.1⟩
   ·rcases z with z | rfl | rfl | rfl | rfl | z
    ·exact i8 b z
    ·exact⟨_,i2,trivial⟩
    ·exact⟨_,i3,trivial⟩
    ·exact⟨_,i4,trivial⟩
    ·exact⟨_,i5,trivial⟩
    ·obtain⟨d,w⟩:=i6.memL z;exact⟨_,w.1,trivial⟩
   ·rintro (z | z | z | z | z | z)
    ·exact(i7 b o e nb).2 z
    ·exact nb (by rw[z];exact hT.gst)
    ·exact nb (by rw[z];exact hT.gu)
    ·exact nb (by rw[z];exact hT.gg)
    ·exact nb (by rw[z];exact hT.gk)
    ·obtain⟨d,w⟩:=i6.memL z;exact nb (w.2.2.2.2 _ e)
inductive zc0 (K:Frag) (vs:List V) (H:Hp) (Q:VK) (E:XK):Prop
 | mk (x dx a b:Addr) (us:List Int) (ts:List Str):vs=[.ref x,.ref a,.ref b]->H x=some (.ins (zH K "Sheet") dx [])->SqL K H a (us.map V.int)->us.length<4000->SqL K H b (ts.map V.str)->ts.length<4000->((∀z∈ts,z.length<=1000))->((M1.zc7 us=false->∀C H',zc3 K "BadCouples" C->Same H H'->E (.ref C) none H'))->((M1.zc7 us=true->M2.zel ts=false->∀C H',zc3 K "BadJudges" C->Same H H'->E (.ref C) none H'))->((M1.zc7 us=true->M2.zel ts=true->∀H' F,SheetAt K H' x F (Sh.new us ts)->(∀b o,H b=some o->b≠x->H' b=some o/\¬F b)->Q .non H'))->zc0 K vs H Q E
theorem zif(F:Fun K "__init__" "Sheet.__init__" zdH f fd)(T:Txt K mg)(c0Z:Can P w K mg base 2 "good_couples" ["couples"] (zbq K))(c00:Can P w K mg base 3 "good_judges" ["judges"] (zb1 K)):FnOk P w K mg base (CX1 P w) 4 f fd zaU (zc0 K):=by
 obtain⟨c_BadCouples,n_BadCouples,m_BadCouples,x_BadCouples⟩:=T.x_BadCouples;obtain⟨c_BadJudges,n_BadJudges,m_BadJudges,x_BadJudges⟩:=T.x_BadJudges;refine F.okX zib (λvs H Q E h=>?_) (λX W cdv A outer s H vs Q E hX hW fl md hr h=>?_)
 ·obtain⟨x,dx,a,b,us,ts,rfl,_⟩:=h;rfl
 ·obtain⟨x,dx,a,b,us,ts,rfl,hx,hA,hzA,hB,hzB,hzz,qC,qJ,q⟩:=h;subst hX;refine⟨_,(zc (zv (zJ (zF (zi c0Z (hM hr) rfl (za (pv 1) zb)))) (ze (wJ rfl md rfl m_BadCouples x_BadCouples (za yg zb))) zq)
   (zc (zv (zJ (zF (zi c00 (hM hr) rfl (za (pv 2) zb)))) (ze (wJ rfl md rfl m_BadJudges x_BadJudges (za yg zb))) zq)
   (zc (zdF (pv 0) (zM zO (by rfl) T.b_list boot_list (za (pv 1) zb)) rfl)
   (zc (zdF (pv 0) (zI zb) rfl)
   (zc (zdF (pv 0) (zM zO (by rfl) T.b_list boot_list (za (pv 2) zb)) rfl)
   (zc (zdF (pv 0) pe_dnewK rfl)
   (zc (zdF (pv 0) zg rfl)
   (ze (zdF (pv 0) zY rfl))))))))),?_⟩
  refine⟨_,rfl,a,us,rfl,hA,hzA,λH1 s1=>⟨_,rfl,?_⟩⟩;cases hg:M1.zc7 us with
  | false=>exact⟨(by show 1<=sizeLine;decide),by rw[hW];exact qC hg _ _ n_BadCouples s1⟩
  | true =>
    refine⟨_,rfl,b,ts,rfl,s1.seq hB,hzB,hzz,λH2 s2=>⟨_,rfl,?_⟩⟩;have s12:=s1.trans s2;cases hj:M2.zel ts with
    | false=>exact⟨(by show 1<=sizeLine;decide),by rw[hW];exact qJ hg hj _ _ n_BadJudges s12⟩
    | true =>
      have x2:=s12 _ _ hx;have k2:∀c o,H c=some o->c≠x->H2 c=some o:=λc o e _=>s12 c o e;refine⟨_,rfl,a,_,rfl,.inl (s12.seq hA),λl1 hl1=>?_⟩;have f1:=s12.free hl1;obtain⟨x3,e1,n1,k3⟩:=zfQ (o:=.lst (us.map V.int)) (u:=.ins (zH K "Sheet") dx [("standing",.ref l1)]) x2 hl1;refine⟨_,rfl,x,_,dx,_,rfl,(by rw[zh (zn x2 hl1)];exact x2),T.cl_Sheet,T.n_Sheet_standing,(by decide),?_⟩;rw[pf1];generalize hH3:upd (upd H2 l1 _) x _=H3 at x3 e1 k3 ⊢;refine⟨(by show 0<=sizeLine;decide),λl2 hl2=>?_⟩;obtain⟨x4,e2,n2,k4⟩:=zfQ (o:=.lst []) (u:=.ins (zH K "Sheet") dx [("standing",.ref l1),("struck_so_far",.ref l2)]) x3 hl2;refine⟨_,rfl,x,_,dx,_,rfl,(by rw[zh (zn x3 hl2)];exact x3),T.cl_Sheet,T.n_Sheet_struck_so_far,(by show 1<1000;decide),?_⟩;rw[pf2];generalize hH4:upd (upd H3 l2 _) x _=H4 at x4 e2 k4 ⊢;have k24:∀c o,H c=some o->c≠x->H4 c=some o:=λc o e n=>k4 c o (k3 c o (k2 c o e n) n) n;have hB4:SqL K H4 b (ts.map V.str):=by
       rcases hB with(e | ⟨o,e⟩) | e
       ·exact .inl (.inl (k24 _ _ e (yc e hx (by intro z;cases z))))
       ·exact .inl (.inr ⟨o,k24 _ _ e (yc e hx (by intro z;cases z))⟩)
       ·exact .inr e
      refine⟨_,rfl,b,_,rfl,.inl hB4,λl3 hl3=>?_⟩;obtain⟨x5,e3,n3,k5⟩:=zfQ (o:=.lst (ts.map V.str)) (u:=.ins (zH K "Sheet") dx [("standing",.ref l1),("struck_so_far",.ref l2),("panel",.ref l3)]) x4 hl3;refine⟨_,rfl,x,_,dx,_,rfl,(by rw[zh (zn x4 hl3)];exact x4),T.cl_Sheet,T.n_Sheet_panel,(by show 2<1000;decide),?_⟩;rw[pf3];generalize hH5:upd (upd H4 l3 _) x _=H5 at x5 e3 k5 ⊢;intro d hd;obtain⟨x6,e4,n4,k6⟩:=zfQ (o:=.dK []) (u:=.ins (zH K "Sheet") dx [("standing",.ref l1),("struck_so_far",.ref l2),("panel",.ref l3),("card_by_judge",.ref d)]) x5 hd;refine⟨_,rfl,x,_,dx,_,rfl,(by rw[zh (zn x5 hd)];exact x5),T.cl_Sheet,T.n_Sheet_card_by_judge,(by show 3<1000;decide),?_⟩;rw[pf4];generalize hH6:upd (upd H5 d _) x _=H6 at x6 e4 k6 ⊢;refine⟨_,rfl,x,_,dx,_,rfl,x6,T.cl_Sheet,T.n_Sheet_taken_so_far,(by show 4<1000;decide),?_⟩;rw[pf5];refine⟨_,rfl,x,_,dx,_,rfl,zd,T.cl_Sheet,T.n_Sheet_sealed,(by show 5<1000;decide),?_⟩;rw[pf6,upd_upd];have keep:∀c o,H6 c=some o->c≠x->upd H6 x (.ins (zH K "Sheet") dx (shF l1 l2 l3 d (Sh.new us ts))) c=some o:=λc o e n=>by rw[zh n];exact e
      have g1:H6 l1=some (.lst (us.map V.int)):=k6 _ _ (k5 _ _ (k4 _ _ e1 n1) n1) n1;have g2:H6 l2=some (.lst []):=k6 _ _ (k5 _ _ e2 n2) n2;have g3:H6 l3=some (.lst (ts.map V.str)):=k6 _ _ e3 n3;refine q hg hj (upd H6 x (.ins (zH K "Sheet") dx (shF l1 l2 l3 d (Sh.new us ts)))) (λc=>c=x\/c=l1\/c=l2\/c=l3\/c=d) ⟨dx,l1,l2,l3,d,[],?_⟩ λc o e n=>⟨?_,?_⟩
      ·refine⟨⟨zd,keep _ _ g1 n1,keep _ _ g2 n2,keep _ _ g3 n3,keep _ _ e4 n4,zero_le _,λ_ _=>rfl,(λ_ _ z=>nomatch z),.inl rfl,.inr (.inl rfl),.inr (.inr (.inl rfl)),.inr (.inr (.inr (.inl rfl))),.inr (.inr (.inr (.inr rfl))),?_,?_,?_⟩,Sh.Ok.new hg hj⟩
       ·exact zn e1 hl2
       ·exact λz=>zn (k4 _ _ (show H3 l1=_ from e1) n1) hl3 (by rw[z]at hl3;rw[e2]at hl3;cases hl3)
       ·rintro c (rfl | rfl | rfl | rfl | rfl)
        ·rw[zd];exact λz=>nomatch z
        ·rw[keep _ _ g1 n1];exact λz=>nomatch z
        ·rw[keep _ _ g2 n2];exact λz=>nomatch z
        ·rw[keep _ _ g3 n3];exact λz=>nomatch z
        ·rw[keep _ _ e4 n4];exact λz=>nomatch z
      ·exact keep _ _ (k6 _ _ (k5 _ _ (k24 _ _ e n) n) n) n
      ·have e2':=k2 _ _ e n;have e3':=k3 _ _ e2' n;have e4':=k4 _ _ e3' n;have e5':=k5 _ _ e4' n;rintro (z | z | z | z | z)
       ·exact n z
       ·rw[z,hl1]at e2';cases e2'
       ·rw[z,hl2]at e3';cases e3'
       ·rw[z,hl3]at e4';cases e4'
       ·rw[z,hd]at e5';cases e5'
inductive zej (K:Frag) (vs:List V) (H:Hp) (Q:VK) (E:XK):Prop
 | mk (a b:Addr) (ms us:List Int):vs=[.ref a,.ref b]->SqL K H a (ms.map V.int)->SqL K H b (us.map V.int)->ms.length=us.length->1<=ms.length->ms.length<=60->((∀x∈ms,1<=x/\x<=24))->((∀x∈us,1<=x/\x<=24))->(∀H',Same H H'->Q (.bl (M6.zV ms us 24)) H')->zej K vs H Q E
theorem zkL(F:Fun K "is_ahead" "is_ahead" zfb f fd)(T:Txt K mg)(c0b:Can P w K mg base 2 "granted" wV (zaD K))(c0k:Can P w K mg base 2 "granted_sum" yX (wu K))(c0c:Can P w K mg base 2 "first_number" ["marks"] (wb K))(c0z:Can P w K mg base 3 "unlike_at" zam (zbz K)):FnOk P w K mg base CX0 4 f fd zcl (zej K):=by
 refine F.ok zgs (λvs H Q E h=>?_) (λcdv A outer s H vs Q E hr h=>?_)
 ·obtain⟨a,b,ms,us,rfl,_⟩:=h;rfl
 ·obtain⟨a,b,ms,us,rfl,hA,hB,hl,h1,hz,hm,hu,q⟩:=h;refine⟨_,(zc (zv (zm yQ (zi c0c (hM hr) rfl (za (pv 0) zb)) (zi c0c (hM hr) rfl (za (pv 1) zb)) (zp _)) (ze (zj (zbL zfr (zi c0c (hM hr) rfl (za (pv 0) zb)) (zi c0c (hM hr) rfl (za (pv 1) zb)) (zp _)))) zq)
   (zc (zu (i:=2) zgs.nd rfl (Or.inl rfl) (zi c0z (hM hr) rfl (za (pv 0) (za (pv 1) zb))))
   (zc (zv (zm op_isN (pv 2) zgk (zp _)) (ze (zj zY)) zq)
   (zc (zv (zm yQ (zi c0b (hM hr) rfl (za (pv 0) (za (pv 2) zb))) (zi c0b (hM hr) rfl (za (pv 1) (za (pv 2) zb))) (zp _)) (ze (zj (zbL zgp (zi c0b (hM hr) rfl (za (pv 0) (za (pv 2) zb))) (zi c0b (hM hr) rfl (za (pv 1) (za (pv 2) zb))) (zp _)))) zq)
   (ze (zj (zbL zfr (zi c0k (hM hr) rfl (za (pv 0) (za (pv 2) zb))) (zi c0k (hM hr) rfl (za (pv 1) (za (pv 2) zb))) (zp _)))))))),?_⟩
  have hne:ms≠[]:=by intro z;rw[z]at h1;simp at h1
  have hne2:us≠[]:=by intro z;rw[z]at hl;have:ms.length=0:=hl;omega
  refine⟨_,rfl,a,ms,rfl,hA,hne,hz,hm,λH1 f s1 hf=>?_⟩;refine⟨_,rfl,b,us,rfl,s1.seq hB,hne2,by omega,hu,λH2 g s2 hg=>?_⟩;have fr:=M3.zc8 hf 1 24 hm;have gr:=M3.zc8 hg 1 24 hu;have t2:=s1.trans s2;refine⟨rfl,_,rfl,yj (λhfg=>?_) (λhfg=>?_)⟩
  ·refine⟨_,rfl,a,ms,rfl,t2.seq hA,hne,hz,hm,λH3 f' s3 hf'=>?_⟩;have t3:=t2.trans s3;refine⟨_,rfl,b,us,rfl,t3.seq hB,hne2,by omega,hu,λH4 g' s4 hg'=>?_⟩;have ef:=M3.zch hf' hf;have eg:=M3.zch hg' hg;subst ef eg;refine⟨_,_,rfl,rfl,?_⟩;have hfg:f'≠g':=λz=>hfg (by rw[z]);have e:decide (f'<g')=M6.zV ms us 24:=by
    by_cases c:f'<g'
    ·rw[decide_eq_true c,M6.ahead_lt hf' hg' c fr.1 fr.2]
    ·rw[decide_eq_false c,M6.ahead_gt hf' hg' (by omega) gr.1 gr.2]
   show Q (.bl (decide (f'<g'))) H4;rw[e];exact q _ (t3.trans s4)
  ·injection hfg with hfg
   subst hfg;refine⟨_,rfl,_,rfl,a,b,ms,us,f,rfl,t2.seq hA,t2.seq hB,h1,hz,by omega,hm,hu,hf,hg,λr H3 s3 hr'=>?_⟩;have t3:=t2.trans s3;cases r with
   | none =>
     refine⟨_,rfl,rfl,_,rfl,yB (λ_=>?_) (λz=>absurd rfl z)⟩;rw[M6.zkU (M6.ziB hf hg hr')]at q;exact q _ t3
   | some n =>
     refine⟨_,rfl,rfl,_,rfl,yB (λz=>nomatch z) (λ_=>?_)⟩;rw[M6.ahead_at hf hg fr.1 hr']at q;refine⟨_,rfl,_,rfl,a,ms,_,rfl,t3.seq hA,by omega,λH4 s4=>?_⟩;refine⟨_,rfl,_,rfl,b,us,_,rfl,(t3.trans s4).seq hB,by omega,λH5 s5=>?_⟩;have t5:=(t3.trans s4).trans s5;refine⟨rfl,_,rfl,yj (λhc=>?_) (λhc=>?_)⟩
     ·rw[if_neg λz=>hc (by rw[z])]at q;refine⟨_,rfl,_,rfl,a,ms,_,rfl,t5.seq hA,by omega,λH6 s6=>?_⟩;refine⟨_,rfl,_,rfl,b,us,_,rfl,(t5.trans s6).seq hB,by omega,λH7 s7=>?_⟩;exact⟨_,_,rfl,rfl,q _ ((t5.trans s6).trans s7)⟩
     ·injection hc with hc
      rw[if_pos hc]at q;refine⟨_,rfl,_,rfl,a,ms,_,rfl,t5.seq hA,by omega,λH6 s6=>?_⟩;refine⟨_,rfl,_,rfl,b,us,_,rfl,(t5.trans s6).seq hB,by omega,λH7 s7=>?_⟩;exact⟨_,_,rfl,rfl,q _ ((t5.trans s6).trans s7)⟩
inductive zcO (K:Frag) (vs:List V) (H:Hp) (Q:VK) (E:XK):Prop
 | mk (a b:Addr) (ms us:List Int):vs=[.ref a,.ref b]->SqL K H a (ms.map V.int)->SqL K H b (us.map V.int)->ms.length=us.length->1<=ms.length->ms.length<=60->((∀x∈ms,1<=x/\x<=24))->((∀x∈us,1<=x/\x<=24))->(∀r,M6.yT ms us 24 r->∀(x:V)(H':Hp),Same H H'->Told K H' x r->Q x H')->zcO K vs H Q E
theorem zid(F:Fun K "parting_of" "parting_of" zdy f fd)(T:Txt K mg)(c0b:Can P w K mg base 2 "granted" wV (zaD K))(c0c:Can P w K mg base 2 "first_number" ["marks"] (wb K))(c0z:Can P w K mg base 3 "unlike_at" zam (zbz K)):FnOk P w K mg base CX0 4 f fd zaZ (zcO K):=by
 refine F.ok zeT (λvs H Q E h=>?_) (λcdv A outer s H vs Q E hr h=>?_)
 ·obtain⟨a,b,ms,us,rfl,_⟩:=h;rfl
 ·obtain⟨a,b,ms,us,rfl,hA,hB,hl,h1,hz,hm,hu,q⟩:=h;refine⟨_,(zc (zv (zm yQ (zi c0c (hM hr) rfl (za (pv 0) zb)) (zi c0c (hM hr) rfl (za (pv 1) zb)) (zp _)) (ze (zj (zb9 (za (zB (call_min2 rfl) (by rfl) T.b_min boot_min (za (zi c0c (hM hr) rfl (za (pv 0) zb)) (za (zi c0c (hM hr) rfl (za (pv 1) zb)) zb))) (za yg zb))))) zq)
   (zc (zu (i:=2) zeT.nd rfl (Or.inl rfl) (zi c0z (hM hr) rfl (za (pv 0) (za (pv 1) zb))))
   (zc (zv (zm op_isN (pv 2) zgk (zp _)) (ze (zj zgk)) zq)
   (zc (zv (zm yQ (zi c0b (hM hr) rfl (za (pv 0) (za (pv 2) zb))) (zi c0b (hM hr) rfl (za (pv 1) (za (pv 2) zb))) (zp _)) (ze (zj (zb9 (za (pv 2) (za yg zb))))) zq)
   (ze (zj (zb9 (za (pv 2) (za yg zb))))))))),?_⟩
  have hne:ms≠[]:=by intro z;rw[z]at h1;simp at h1
  have hne2:us≠[]:=by intro z;rw[z]at hl;have:ms.length=0:=hl;omega
  refine⟨_,rfl,a,ms,rfl,hA,hne,hz,hm,λH1 f s1 hf=>?_⟩;refine⟨_,rfl,b,us,rfl,s1.seq hB,hne2,by omega,hu,λH2 g s2 hg=>?_⟩;have fr:=M3.zc8 hf 1 24 hm;have gr:=M3.zc8 hg 1 24 hu;have t2:=s1.trans s2;refine⟨rfl,_,rfl,yj (λhfg=>?_) (λhfg=>?_)⟩
  ·refine⟨_,rfl,a,ms,rfl,t2.seq hA,hne,hz,hm,λH3 f' s3 hf'=>?_⟩;have t3:=t2.trans s3;refine⟨_,rfl,b,us,rfl,t3.seq hB,hne2,by omega,hu,λH4 g' s4 hg'=>?_⟩;have ef:=M3.zch hf' hf;have eg:=M3.zch hg' hg;subst ef eg;refine⟨_,_,rfl,(by show 2<=sizeLine;decide),λt ht=>?_⟩;have hfg:f'≠g':=λz=>hfg (by rw[z]);by_cases c:g'<f'
   ·rw[if_pos c];refine q (some (g'.toNat,"half")) (M6.part_gt hf' hg' c gr.1 gr.2) _ _ ((t3.trans s4).newT ht) ⟨t,rfl,?_⟩;have e:((g'.toNat:Nat):Int)=g':=by omega
    dsimp only;rw[e];exact SqT.new
   ·rw[if_neg c];refine q (some (f'.toNat,"half")) (M6.ziS hf' hg' (by omega) fr.1 fr.2) _ _ ((t3.trans s4).newT ht) ⟨t,rfl,?_⟩;have e:((f'.toNat:Nat):Int)=f':=by omega
    dsimp only;rw[e];exact SqT.new
  ·injection hfg with hfg
   subst hfg;refine⟨_,rfl,_,rfl,a,b,ms,us,f,rfl,t2.seq hA,t2.seq hB,h1,hz,by omega,hm,hu,hf,hg,λr H3 s3 hr'=>?_⟩;have t3:=t2.trans s3;cases r with
   | none =>
     refine⟨_,rfl,rfl,_,rfl,yB (λ_=>?_) (λz=>absurd rfl z)⟩;exact q none (M6.ziB hf hg hr') _ _ t3 rfl
   | some n =>
     refine⟨_,rfl,rfl,_,rfl,yB (λz=>nomatch z) (λ_=>?_)⟩;have hp:=M6.ziH hf hg fr.1 hr';have e:((n.toNat:Nat):Int)=n:=by have:=hr'.1;omega
     refine⟨_,rfl,_,rfl,a,ms,_,rfl,t3.seq hA,by omega,λH4 s4=>?_⟩;refine⟨_,rfl,_,rfl,b,us,_,rfl,(t3.trans s4).seq hB,by omega,λH5 s5=>?_⟩;have t5:=(t3.trans s4).trans s5;refine⟨rfl,_,rfl,yj (λhc=>?_) (λhc=>?_)⟩
     ·rw[if_neg λz=>hc (by rw[z])]at hp;refine⟨_,rfl,(by show 2<=sizeLine;decide),λt ht=>?_⟩;refine q _ hp _ _ (t5.newT ht) ⟨t,rfl,?_⟩;dsimp only;rw[e];exact SqT.new
     ·injection hc with hc
      rw[if_pos hc]at hp;refine⟨_,rfl,(by show 2<=sizeLine;decide),λt ht=>?_⟩;refine q _ hp _ _ (t5.newT ht) ⟨t,rfl,?_⟩;dsimp only;rw[e];exact SqT.new
inductive zcm (K:Frag) (vs:List V) (H:Hp) (Q:VK) (E:XK):Prop
 | mk (x:Addr) (F:Addr->Prop) (S:Sh) (p c:Int):vs=[.ref x,.int p,.int c]->SheetAt K H x F S->c∈S.couples->p.natAbs<=990->(∀H',Same H H'->Q (.str (M6.zjr p c (M5.zl S.cardsIn c) S.couples.length)) H')->zcm K vs H Q E
theorem zjO(F:Fun K "row_text" "row_text" zb4 f fd)(T:Txt K mg)(c0m:Can P w K mg base 2 "marks_of" wW (zbd K))(c01:Can P w K mg base 3 "ladder_of" zbD (zdx K))(c0:CanM P w K mg base 1 (zH K "Sheet") "couples" zy (zD K))(c0d:CanM P w K mg base 3 (zH K "Sheet") "cards" yh (yn K)):FnOk P w K mg base CX0 4 f fd za1 (zcm K):=by
 refine F.ok zba (λvs H Q E h=>?_) (λcdv A outer s H vs Q E hr h=>?_)
 ·obtain⟨x,F,S,p,c,rfl,_⟩:=h;rfl
 ·obtain⟨x,F,S,p,c,rfl,hSh,hc,hp,q⟩:=h;refine⟨_,(zc (zu (i:=3) zba.nd rfl (Or.inl rfl) (zi c0m (hM hr) rfl (za (zE c0d T.cl_Sheet (hM hr) (pv 0)) (za (pv 2) zb))))
   (zc (zu (i:=4) zba.nd rfl (Or.inl rfl) (zi c01 (hM hr) rfl (za (pv 3) (za (ya T.b_len (zE c0 T.cl_Sheet (hM hr) (pv 0))) zb))))
   (zc (zu (i:=5) zba.nd rfl (Or.inl rfl) (zI (za (zM zda (by rfl) T.b_str boot_str (za (pv 1) zb)) (za (zM zda (by rfl) T.b_str boot_str (za (pv 2) zb)) zb))))
   (zc (zd7 (i:=6) (show CompScope2 (zf zb4) zeB "many" "total" [] [] _ from csM2) rfl zba.nd rfl (Or.inl rfl) (zx (pv 4)) (λ_ _ _ _ _=>yz) (λ_ _ _ _ _=>(pe_fstr (zeL (zkX (pv 0)) (zeL yg (zeL (zkX (pv 1)) pj_nil))))))
   (ze (zj (wF PySem.F.plainAttrs_str PySem.F.slot_str_join PySem.F.type_str_join ms_join yg (za (zr wd (zr wd (zr wd (zr wd (pv 5) (zI (za yg zb))) (zL (show CompScope (zf zb4) zeB "mark" [] [] _ from csM) rfl (zx (pv 3)) (λ_ _ _ _ _=>yz) (λ_ _ _ _ _=>(zM zda (by rfl) T.b_str boot_str (za (pv 0) zb))))) (zI (za yg zb))) (pv 6)) zb)))))))),?_⟩
  have hln:=zt;have ok:=hSh.ok;have h15:S.handed.length<=15:=le_trans (length_filter_le _ _) ok.p15;have hil:=Sh.cardsIn_len S;have hip:=Sh.cardsIn_perm ok;have c24:=ok.c24;have hcr:=ok.rng c hc;obtain⟨dx,b1,b2,b3,d,hi⟩:=hSh.ins;refine⟨_,rfl,x,dx,_,rfl,hi,rfl,x,F,S,rfl,hSh,λl1 H1 ks s1 f1 e1 r1=>?_⟩;refine⟨_,rfl,l1,S.cardsIn,c,rfl,⟨ks,SqL.of e1,r1.imp λ_ _ z=>SqL.of z.2⟩,by omega,λd hd=>(hip d hd).mem_iff.mpr hc,λl2 H2 s2 f2 e2=>?_⟩;have hx:∀y∈M5.zl S.cardsIn c,1<=y/\y<=24:=λy hy=>by have:=M6.yx hip hc y hy;omega
  have hml:=M5.zX S.cardsIn c;generalize M5.zl S.cardsIn c=ms at e2 hml hx q;have t2:=s1.trans s2;refine⟨_,rfl,_,rfl,x,dx,_,rfl,t2 _ _ hi,rfl,x,F,S,rfl,hSh.same t2,λl3 H3 s3 f3 e3=>?_⟩;refine⟨l3,_,rfl,.inl (SqL.of e3),?_⟩;rw[length_map];refine⟨l2,ms,_,rfl,SqL.of (s3 _ _ e2),by omega,by omega,by omega,λl4 H4 ls s4 f4 e4 r4=>?_⟩;rw[show((S.couples.length:Nat):Int).toNat=S.couples.length by omega]at r4;have t4:=(t2.trans s3).trans s4;refine⟨_,rfl,.inl ⟨_,rfl,zeA (by omega),_,rfl,.inl ⟨_,rfl,zeA (by omega),(by show 2<=sizeLine;decide),λl5 hl5=>?_⟩⟩⟩;have s5:=Same.new (o:=.lst ([tN p,tN c].map V.str)) hl5;have e5:upd H4 l5 (.lst ([tN p,tN c].map V.str)) l5=some (.lst ([tN p,tN c].map V.str)):=zd;change Same H4 (upd H4 l5 (.lst [.str (Str.ofString (toString p)),.str (Str.ofString (toString c))]))at s5;change upd H4 l5 (.lst [.str (Str.ofString (toString p)),.str (Str.ofString (toString c))]) l5=_ at e5;generalize hH5:upd H4 l5 _=H5 at s5 e5 ⊢;have e45:=s5 _ _ e4;have r45:=r4.imp λ_ _=>TPl.stays K _ _ _ _ s5;refine⟨_,rfl,l4,rfl,⟨_,SqL.of e45⟩,?_⟩;refine ze6 (f:=M6.zkw) (SqL.of e45) r45 (by rw[M6.zdu];omega) (λpr H' R hpr s' h=>?_) λH6 s6=>?_
  ·obtain⟨k,hk,rfl⟩:=List.mem_map.mp hpr;have hcn:=M3.zdf ms ((k:Int)+1);have hsm:=M6.zhN hx ((k:Int)+1);have hsl:=M6.zfT (by omega) hx ((k:Int)+1);dsimp only at h ⊢;refine⟨_,rfl,.inl ⟨_,rfl,zeA (by omega),_,rfl,?_,_,rfl,?_,_,rfl,.inl ⟨_,rfl,zeA (by omega),_,rfl,?_,?_,?_⟩⟩⟩
   all_goals unfold tN at hsl
   all_goals have l0:Str.empty.length=0:=rfl
   all_goals have l1:(Str.ofString "/").length=1:=M6.ziR
   ·rw[y9];omega
   ·rw[y9,y9];omega
   ·rw[y9,y9,y9];omega
   ·rw[y9,y9,y9];omega
   ·rw[M6.emp_app];exact h H' (Same.refl _)
  intro l6 hl6;have s7:=(s5.trans s6).newT (o:=.lst ((M6.zd0 ms S.couples.length).map V.str)) hl6;have e7:upd H6 l6 (.lst ((M6.zd0 ms S.couples.length).map V.str)) l6=some (.lst ((M6.zd0 ms S.couples.length).map V.str)):=zd;have e57:=(s6.newT (o:=.lst ((M6.zd0 ms S.couples.length).map V.str)) hl6) _ _ e5;change Same H4 (upd H6 l6 (.lst (((M6.zbf ms S.couples.length).map M6.zkw).map V.str)))at s7;change upd H6 l6 (.lst (((M6.zbf ms S.couples.length).map M6.zkw).map V.str)) l6=_ at e7;change upd H6 l6 (.lst (((M6.zbf ms S.couples.length).map M6.zkw).map V.str)) l5=_ at e57;generalize hH7:upd H6 l6 _=H7 at s7 e7 e57 ⊢;have m7:H7 l2=some (.lst (ms.map V.int)):=s7 _ _ (s4 _ _ (s3 _ _ e2));refine⟨rfl,_,rfl,(by show 1<=sizeLine;decide),λl7 hl7=>?_⟩;have s8:=Same.new (o:=.lst [.str M6.bar]) hl7;change Same H7 (upd H7 l7 (.lst [.str (Str.ofString "|")]))at s8;refine⟨l5,l7,_,[.str M6.bar],rfl,rfl,s8 _ _ e57,zd,(by show 3<=sizeLine;decide),λl8 hl8=>?_⟩;have s9:=s8.newT (o:=.lst (([tN p,tN c]++[M6.bar]).map V.str)) hl8;have e9:upd (upd H7 l7 (.lst [.str (Str.ofString "|")])) l8 (.lst (([tN p,tN c]++[M6.bar]).map V.str)) l8=some (.lst (([tN p,tN c]++[M6.bar]).map V.str)):=zd;change Same H7 (upd (upd H7 l7 (.lst [.str (Str.ofString "|")])) l8 (.lst ([tN p,tN c].map V.str++[.str M6.bar])))at s9;change upd (upd H7 l7 (.lst [.str (Str.ofString "|")])) l8 (.lst ([tN p,tN c].map V.str++[.str M6.bar])) l8=_ at e9;generalize hH9:upd (upd H7 l7 _) l8 _=H9 at s9 e9 ⊢;have m9:=s9 _ _ m7;refine⟨_,rfl,l2,rfl,⟨_,SqL.of m9⟩,?_⟩;refine comp_strN (f:=tN) (SqL.of m9) (by omega) (λy H' R hy s' h=>⟨_,rfl,.inl ⟨_,rfl,zeA (by have:=hx y hy;omega),h H' (Same.refl _)⟩⟩) λH10 s10=>?_;intro l9 hl9;have s11:=s10.newT (o:=.lst ((ms.map tN).map V.str)) hl9;refine⟨l8,l9,_,_,rfl,rfl,s11 _ _ e9,zd,by rw[length_map,length_map,length_map];simp only[length_append,length_cons,length_nil];omega,λl10 hl10=>?_⟩;rw[<-map_append];have s12:=s11.newT (o:=.lst (([tN p,tN c]++[M6.bar]++ms.map tN).map V.str)) hl10;have e12:upd (upd H10 l9 (.lst ((ms.map tN).map V.str))) l10 (.lst (([tN p,tN c]++[M6.bar]++ms.map tN).map V.str)) l10=some (.lst (([tN p,tN c]++[M6.bar]++ms.map tN).map V.str)):=zd;generalize hH12:upd (upd H10 l9 _) l10 _=H12 at s12 e12 ⊢;refine⟨(by show 1<=sizeLine;decide),λl11 hl11=>?_⟩;have s13:=Same.new (o:=.lst [.str M6.bar]) hl11;change Same H12 (upd H12 l11 (.lst [.str (Str.ofString "|")]))at s13;refine⟨l10,l11,_,[.str M6.bar],rfl,rfl,s13 _ _ e12,zd,by rw[length_map];simp only[length_append,length_map,length_cons,length_nil];omega,λl12 hl12=>?_⟩;rw[show([tN p,tN c]++[M6.bar]++ms.map tN).map V.str++[V.str M6.bar]=([tN p,tN c]++[M6.bar]++ms.map tN++[M6.bar]).map V.str by rw[map_append (l₂:=[M6.bar])];rfl];have s14:=s13.newT (o:=.lst (([tN p,tN c]++[M6.bar]++ms.map tN++[M6.bar]).map V.str)) hl12;have e14:upd (upd H12 l11 (.lst [.str (Str.ofString "|")])) l12 (.lst (([tN p,tN c]++[M6.bar]++ms.map tN++[M6.bar]).map V.str)) l12=some (.lst (([tN p,tN c]++[M6.bar]++ms.map tN++[M6.bar]).map V.str)):=zd;generalize hH14:upd (upd H12 l11 _) l12 _=H14 at s14 e14 ⊢;have hlw:=M6.zjY ms S.couples.length;refine⟨_,rfl,l12,l6,_,_,rfl,rfl,e14,s14 _ _ (s12 _ _ (s9 _ _ e7)),by simp only[length_append,length_map,length_cons,length_nil];omega,λl13 hl13=>?_⟩;rw[<-map_append];refine⟨_,l13,M6.rowW p c ms S.couples.length,rfl,rfl,SqL.new,by decide +kernel,?_,M6.zg2 (by omega) hx hp (by omega) _,?_⟩
  ·unfold M6.rowW;simp only[length_append,length_map,length_cons,length_nil];omega
  ·exact q _ ((((((t4.trans s7).trans s9).trans s12).trans s14)).newT hl13)
inductive zcV (K:Frag) (vs:List V) (H:Hp) (Q:VK) (E:XK):Prop
 | mk (p:Addr) (F:Addr->Prop) (S:Sh) (a1 a2 a3 a4:Addr):vs=[.ref p,.ref a1,.ref a2,.ref a3,.ref a4,.int S.taken,.bl S.shut]->SheetAt K H p F S->SqL K H a1 (S.panel.map V.str)->SqL K H a2 (S.couples.map V.int)->SqL K H a3 (S.struck.map V.int)->Refs K (IL K) H a4 S.rows->(∀H',Same H H'->Q (.bl true) H')->zcV K vs H Q E
theorem zhY(F:Fun K "_law_stands" "_law_stands" wC f fd)(T:Txt K mg)(c0f:Can P w K mg base 1 "_law_whole" yL (y7 K))(c0h:Can P w K mg base 2 "_law_same" wZ (za0 K))(c0q:Can P w K mg base 1 "_law_texts" zat (zbP K))(c02:Can P w K mg base 3 "_law_lists" zbA (zdG K))(c0:CanM P w K mg base 1 (zH K "Sheet") "couples" zy (zD K))(c03:CanM P w K mg base 1 (zH K "Sheet") "struck" ["self"] (zbi K))(c04:CanM P w K mg base 1 (zH K "Sheet") "judges" ["self"] (zbg K))(c0a:CanM P w K mg base 1 (zH K "Sheet") "handed" zQ (zZ K))(c0d:CanM P w K mg base 3 (zH K "Sheet") "cards" yh (yn K))(c0g:CanMX P w K mg base 2 (zH K "Sheet") "card_of" yd (ym K))(c05:CanM P w K mg base 1 (zH K "Sheet") "taken" ["self"] (zcf K))(c06:CanM P w K mg base 1 (zH K "Sheet") "is_sealed" ["self"] (wU K)):FnOk P w K mg base CX0 4 f fd zaQ (zcV K):=by
 refine F.ok wH (λvs H Q E h=>?_) (λcdv A outer s H vs Q E hr h=>?_)
 ·obtain⟨p,F,S,a1,a2,a3,a4,rfl,_⟩:=h;rfl
 ·obtain⟨p,F,S,a1,a2,a3,a4,rfl,hSh,hA1,hA2,hA3,⟨ls,hA4,hR⟩,q⟩:=h;refine⟨_,(zc (zv (PW.pt (zax (zJ (zF (zi c0h (hM hr) rfl (za (zE c0 T.cl_Sheet (hM hr) (pv 0)) (za (pv 2) zb))))) (we (zJ (zF (zi c0h (hM hr) rfl (za (zE c03 T.cl_Sheet (hM hr) (pv 0)) (za (pv 3) zb)))))))) (ze (zj zY)) zq)
   (zc (y6 (i:=7) (show CompScope (zf wC) zaK "_law_k" ["_law_cards"] [4] _ from csM) rfl wH.nd rfl (Or.inl rfl) (yo rfl T.b_range (za (ya T.b_len (pv 1)) zb)) (λ_ _ _ _ _=>(yC (zm (yI (K:=K) rfl hr.units0) (zo (zcg (K:=K) rfl) (pv 1) (pv 0) (λ_ _=>rfl)) (zI zb) (zp _)))) (λ_ _ _ _ _=>(pv 0)))
   (zc (zv (PW.pt (zax (zJ (zF (zi c0q (hM hr) rfl (za (zE c04 T.cl_Sheet (hM hr) (pv 0)) (za (pv 1) zb))))) (we (zJ (zF (zi c0q (hM hr) rfl (za (zE c0a T.cl_Sheet (hM hr) (pv 0)) (za (zL (show CompScope (zf wC) zaK "_law_k" ["_law_names"] [1] _ from csM) rfl (zx (pv 7)) (λ_ _ _ _ _=>yz) (λ_ _ _ _ _=>(zo (zcg (K:=K) rfl) (pv 1) (pv 0) (λ_ _=>rfl)))) zb)))))))) (ze (zj zY)) zq)
   (zc (zv (zJ (zF (zi c02 (hM hr) rfl (za (zE c0d T.cl_Sheet (hM hr) (pv 0)) (za (zL (show CompScope (zf wC) zaK "_law_k" ["_law_cards"] [4] _ from csM) rfl (zx (pv 7)) (λ_ _ _ _ _=>yz) (λ_ _ _ _ _=>(zo (zcg (K:=K) rfl) (pv 1) (pv 0) (λ_ _=>rfl)))) zb))))) (ze (zj zY)) zq)
   (zc (yP PassesOwn.never rfl (zx (pv 7)) (zU (i:=8) wH.nd rfl (Or.inl rfl))
     (ze (zv (zJ (zF (zi c0h (hM hr) rfl (za (wG c0g T.cl_Sheet zdX (hM hr) (pv 0) (za (zo zk (pv 1) (pv 8) (λ_ _=>rfl)) zb)) (za (zo zk (pv 4) (pv 8) (λ_ _=>rfl)) zb))))) (ze (zj zY)) zq)))
   (zc (zu (i:=9) wH.nd rfl (Or.inl rfl) (zE c05 T.cl_Sheet (hM hr) (pv 0)))
   (zc (zu (i:=10) wH.nd rfl (Or.inl rfl) (zE c06 T.cl_Sheet (hM hr) (pv 0)))
   (ze (zj (zdo (zi c0f (hM hr) rfl (za (pv 9) zb)) (zdo (zbL zag (pv 9) (pv 5) (zp _)) (zdo (zB zeY (by rfl) T.b_isinstance boot_isinstance (za (pv 10) (za (wz (v:=V.ty "bool") rfl T.b_bool boot_bool rfl) zb))) (zhf (zbL zag (pv 10) (pv 6) (zp _))))))))))))))),?_⟩
  have hln:=zt;have ok:=hSh.ok;have c24:=ok.c24;have p15:=ok.p15;obtain⟨dx,b1,b2,b3,d,hip⟩:=hSh.ins;have hrl:=S.rows_len;have hll:=hR.length;refine⟨_,rfl,p,dx,_,rfl,hip,rfl,p,F,S,rfl,hSh,λl1 H1 s1 f1 e1=>?_⟩;refine⟨_,rfl,l1,a2,S.couples,S.couples,rfl,SqL.of e1,s1.seq hA2,by omega,?_⟩;rw[decide_eq_true rfl];refine⟨_,rfl,yl ?_⟩;refine⟨_,rfl,p,dx,_,rfl,s1 _ _ hip,rfl,p,F,S,rfl,hSh.same s1,λl2 H2 s2 f2 e2=>?_⟩;have t2:=s1.trans s2;refine⟨_,rfl,l2,a3,S.struck,S.struck,rfl,SqL.of e2,t2.seq hA3,by omega,?_⟩;rw[decide_eq_true rfl];refine⟨_,rfl,yl ?_⟩;refine⟨_,rfl,a1,_,rfl,.inl (t2.seq hA1),_,rfl,by omega,by rw[length_map];omega,?_⟩;rw[length_map,show((S.panel.length:Nat):Int).toNat=S.panel.length by omega];refine zfg (λi ys H3=>Same H2 H3/\ys=(((List.range i).filter λk => !decide (S.rows.getD k []=[])).map fun(k:Nat)=>(k:Int)).map V.int) ⟨Same.refl _,rfl⟩ ?_ (by omega) ?_ ?_
  ·rintro i ys H3 hi ⟨s3,rfl⟩;rw[length_map,length_map];exact le_trans (length_filter_le _ _) (by rw[length_range];exact le_refl _)
  ·rintro i ys H3 hi ⟨s3,rfl⟩;have t3:=t2.trans s3;obtain⟨m,em,rm⟩:=hR.at (i:=i) (by omega) [];refine⟨_,rfl,_,rfl,a4,_,_,_,rfl,rfl,t3.seq hA4,zhG (by omega) (by rw[show((0:Int)+(i:Int)).toNat=i by omega];exact yR em),(by show 0<=sizeLine;decide),λl3 hl3=>?_⟩;refine⟨m,l3,_,[],rfl,rfl,(t3.newT hl3).seq rm,SqL.new,zA _,rfl,_,rfl,?_⟩;rw[show eqL ((S.rows.getD i []).map V.int) []=decide (S.rows.getD i []=[])from yH _ []];refine yj (λhb=>?_) (λhb=>?_)
   ·refine⟨_,rfl,s3.newT hl3,?_⟩;rw[zgZ,if_neg hb,map_append,show(0:Int)+(i:Int)=(i:Int)by omega];rfl
   ·refine⟨s3.newT hl3,?_⟩;rw[zgZ,if_pos hb,append_nil]
  ·rintro ys H3 ⟨s3,rfl⟩ l3 hl3;rw[show(((List.range S.panel.length).filter λk => !decide (S.rows.getD k []=[])).map fun(k:Nat)=>(k:Int))=zeU S.rows by unfold zeU;rw[hrl]];have hin:=@zgi S.rows;have hil:=intoK_len S.rows;have n1:=Sh.into_names ok;have n2:=Sh.into_cards ok;have n3:=@Sh.into_one S ok;generalize zeU S.rows=is at hin hil n1 n2 n3 ⊢;generalize hH4:upd H3 l3 _=H4;have s4:Same H2 H4:=by rw[<-hH4];exact s3.newT hl3
   have e3:H4 l3=some (.lst (is.map V.int)):=by rw[<-hH4];exact zd
   have t4:=t2.trans s4;refine⟨_,rfl,p,dx,_,rfl,t4 _ _ hip,rfl,p,F,S,rfl,hSh.same t4,λl5 H5 s5 f5 e5=>?_⟩;have t5:=t4.trans s5;refine⟨_,rfl,l5,a1,S.panel,S.panel,rfl,SqL.of e5,t5.seq hA1,by omega,?_⟩;rw[decide_eq_true rfl];refine⟨_,rfl,yl ?_⟩;refine⟨_,rfl,p,dx,_,rfl,t5 _ _ hip,rfl,p,F,S,rfl,(hSh.same t5).shape,p15,λl6 H6 s6 f6 e6=>?_⟩;have t6:=t5.trans s6;have i6:=SqL.of (K:=K) (s6 _ _ (s5 _ _ e3));refine⟨_,rfl,l3,rfl,⟨_,i6⟩,?_⟩;refine yb (xs:=is.map V.int) (λi ys H7=>H7=H6/\ys=((is.take i).map λx=>S.panel.getD x.toNat "").map V.str) ⟨rfl,rfl⟩ ?_ (by rw[length_map];omega) ?_ ?_
   ·rintro i ys H7 hi ⟨rfl,rfl⟩;refine⟨i6,?_⟩;rw[length_map,length_map,length_take];omega
   ·rintro i x ys H7 hx ⟨rfl,rfl⟩;obtain⟨hi,rfl⟩:=yF hx;have hx:=hin (wN hi);refine⟨_,rfl,_,rfl,a1,_,_,_,rfl,rfl,t6.seq hA1,zfB hx.1 (by omega),rfl,?_⟩;rw[yE hi,map_append,map_append];rfl
   rintro ys H7 ⟨rfl,rfl⟩ l7 hl7;rw[length_map,take_length,n1];generalize hH8:upd H7 l7 _=H8;have s8:Same H7 H8:=by rw[<-hH8];exact Same.new hl7
   have e8:H8 l7=some (.lst (S.handed.map V.str)):=by rw[<-hH8];exact zd
   have hhl:S.handed.length<=15:=le_trans (length_filter_le _ _) p15;refine⟨l6,l7,S.handed,S.handed,rfl,SqL.of (s8 _ _ e6),SqL.of e8,by omega,?_⟩;rw[decide_eq_true rfl];refine⟨_,rfl,yl ?_⟩;have t8:=t6.trans s8;refine⟨_,rfl,p,dx,_,rfl,t8 _ _ hip,rfl,p,F,S,rfl,hSh.same t8,λl9 H9 ks s9 f9 e9 r9=>?_⟩;have t9:=t8.trans s9;have i9:=(s8.trans s9).seq i6;refine⟨_,rfl,l3,rfl,⟨_,i9⟩,?_⟩;have at9:∀x∈is,∃m,ls[x.toNat]? = some m/\IL K H m (S.rows.getD x.toNat []):=λx hx=>hR.at (hin hx).2.1 [];refine yb (xs:=is.map V.int) (λi ys H10=>H10=H9/\∃ms:List Addr,ys=ms.map V.ref/\All2 (IL K H) ms ((is.take i).map λx=>S.rows.getD x.toNat [])) ⟨rfl,[],rfl,.nil⟩ ?_ (by rw[length_map];omega) ?_ ?_
   ·rintro i ys H10 hi ⟨rfl,ms,rfl,r10⟩;refine⟨i9,?_⟩;have:=r10.length;rw[length_map,length_take]at this;rw[length_map];omega
   ·rintro i x ys H10 hx ⟨rfl,ms,rfl,r10⟩;obtain⟨hi,rfl⟩:=yF hx;have hx:=hin (wN hi);obtain⟨m,em,rm⟩:=at9 _ (wN hi);refine⟨_,rfl,_,rfl,a4,_,_,_,rfl,rfl,t9.seq hA4,zhG hx.1 (yR em),rfl,ms++[m],by rw[map_append];rfl,?_⟩;rw[yE hi,map_append];exact r10.snoc rm
   rintro ys H10 ⟨rfl,ms,rfl,r10⟩ l10 hl10;rw[length_map,take_length,n2]at r10;have s11:=Same.new (o:=.lst (ms.map V.ref)) hl10;have hcl:S.cardsIn.length<=15:=by unfold Sh.cardsIn;rw[length_map];exact hhl
   refine⟨l9,l10,S.cardsIn,rfl,⟨ks,SqL.of (s11 _ _ e9),r9.imp λ_ _ z=>SqL.of (s11 _ _ z.2)⟩,⟨ms,SqL.new,r10.imp λ_ _=>IL.stays K _ _ _ _ (t9.trans s11)⟩,by omega,λc hc=>?_,?_⟩
   ·unfold Sh.cardsIn at hc;obtain⟨j,hj,rfl⟩:=List.mem_map.mp hc;cases e:S.card j with
    | none=>exact zero_le _
    | some c =>
      have:=(ok.cd j c e).2.length_eq;show c.length<=1000;omega
   refine⟨_,rfl,yl ?_⟩;generalize hH11:upd H10 l10 _=H11 at s11;have t11:=t9.trans s11;have i11:=s11.seq i9;refine⟨_,rfl,l3,rfl,⟨_,i11⟩,?_⟩;refine zfA (xs:=is.map V.int) (λi σ H12=>∃v,σ=[some (.ref p),some (.ref a1),some (.ref a2),some (.ref a3),some (.ref a4),some (.int S.taken),some (.bl S.shut),some (.ref l3),v,none,none]/\Same H11 H12) ⟨_,rfl,Same.refl _⟩ ?_ ?_ ?_
   ·rintro i σ H12 hi ⟨v,rfl,s12⟩;exact s12.seq i11
   ·rintro i x σ H12 hx ⟨v,rfl,s12⟩;obtain⟨hi,rfl⟩:=yF hx;have hx:=hin (wN hi);have hone:=n3 (wN hi);obtain⟨m,em,rm⟩:=at9 _ (wN hi);have t12:=t11.trans s12;refine⟨_,rfl,p,dx,_,rfl,t12 _ _ hip,rfl,_,rfl,_,rfl,a1,_,_,_,rfl,rfl,t12.seq hA1,zfB hx.1 (by omega),p,F,S,_,rfl,hSh.same t12,(λz=>absurd (ok.cd _ _ hone).1 z),(λ_ z=>by rw[hone]at z;cases z),λc hc l13 H13 s13 f13 e13=>?_⟩;rw[hone]at hc;cases hc;have t13:=t12.trans s13;have hcl:(S.rows.getD (is.getD i 0).toNat []).length<=24:=by have:=(ok.cd _ _ hone).2.length_eq;omega
    refine⟨_,rfl,_,rfl,a4,_,_,_,rfl,rfl,t13.seq hA4,zhG hx.1 (yR em),l13,m,_,_,rfl,SqL.of e13,t13.seq rm,by omega,?_⟩;rw[decide_eq_true rfl];exact⟨_,rfl,yl ⟨_,rfl,s12.trans s13⟩⟩
   rintro σ H12 ⟨v,rfl,s12⟩;have t12:=t11.trans s12;refine⟨_,rfl,p,dx,_,rfl,t12 _ _ hip,rfl,p,F,S,rfl,hSh.same t12,?_⟩;refine⟨_,rfl,p,dx,_,rfl,t12 _ _ hip,rfl,p,F,S,rfl,hSh.same t12,?_⟩;refine⟨_,rfl,.int S.taken,true,false,rfl,rfl,rfl,_,rfl,zh5 ?_⟩;refine⟨_,rfl,_,rfl,rfl,_,rfl,?_⟩;rw[decide_eq_true rfl];refine zh5 ⟨_,rfl,.bl S.shut,true,rfl,rfl,_,rfl,zh5 ?_⟩;refine⟨_,rfl,_,rfl,rfl,?_⟩;rw[decide_eq_true rfl];exact q _ t12
inductive zbl (K:Frag) (vs:List V) (H:Hp) (Q:VK) (E:XK):Prop
 | mk (a b c:Addr) (ts:List Str) (cs:List (List Int)) (us:List Int):vs=[.ref a,.ref b,.ref c]->SqL K H a (ts.map V.str)->Refs K (IL K) H b cs->SqL K H c (us.map V.int)->cs.length=ts.length->ts.length<=500->us.length<=500->((∀d∈cs,d=[]\/d.Perm us))->(2<=(cs.filter λd => !decide (d=[])).length)->(∀(l:Addr)(H':Hp),Same H H'->H l=none->H' l=some (.lst ((zi5 ts cs us ts.length).map V.str))->Q (.ref l) H')->zbl K vs H Q E
theorem zkv{cs:List (List Int)}{k:Nat}(hk:k<cs.length):(cs.filter λd => !decide (d=[])).length<=((cs.take k++cs.drop (k+1)).filter λd => !decide (d=[])).length+1:=by
 conv=>lhs;rw[<-take_append_drop k cs,drop_eq_getElem_cons hk,filter_append,length_append,filter_cons]
 rw[filter_append,length_append];split
 ·rw[length_cons];omega
 ·omega
theorem zgO(F:Fun K "_law_deciding" "_law_deciding" wq f fd)(T:Txt K mg)(c0t:Can P w K mg base 3 "_law_firsts" wE (zaM K)):FnOk P w K mg base CX0 4 f fd wP (zbl K):=by
 refine F.ok wa (λvs H Q E h=>?_) (λcdv A outer s H vs Q E hr h=>?_)
 ·obtain⟨a,b,c,ts,cs,us,rfl,_⟩:=h;rfl
 ·obtain⟨a,b,c,ts,cs,us,rfl,hA,⟨ls,hB,rB⟩,hC,hcl,hz,huz,hcd,h2,q⟩:=h;refine⟨_,(zc (zu (i:=3) wa.nd rfl (Or.inl rfl) (zi c0t (hM hr) rfl (za (zL (show CompScope (zf wq) zbh "_law_card_here" [] [] _ from csM) rfl (zx (pv 1)) (λ_ _ _ _ _=>(yC (zm (yI (K:=K) rfl hr.units0) (pv 0) (zI zb) (zp _)))) (λ_ _ _ _ _=>(pv 0))) (za (pv 2) zb))))
   (zc (zu (i:=4) wa.nd rfl (Or.inl rfl) (zI zb))
   (zc (yP PassesOwn.never rfl (yo rfl T.b_range (za (ya T.b_len (pv 0)) zb)) (zU (i:=5) wa.nd rfl (Or.inl rfl))
     (zc (y6 (i:=6) (show CompScope (zf wq) zbh "_law_card_here" [] [] _ from csM) rfl wa.nd rfl (Or.inl rfl) (zx (zr wd (yw wj (pv 1) wf (yA (pv 5))) (yw wj (pv 1) (yA (zr yf (pv 5) zg)) wf))) (λ_ _ _ _ _=>(yC (zm (yI (K:=K) rfl hr.units0) (pv 0) (zI zb) (zp _)))) (λ_ _ _ _ _=>(pv 0)))
   (ze (zv (PW.pt (zbZ (zm (zay hr.units0) (zo zk (pv 1) (pv 5) (λ_ _=>rfl)) (zI zb) (zp _)) (zbv (zm (zay hr.units0) (zi c0t (hM hr) rfl (za (pv 6) (za (pv 2) zb))) (pv 3) (zp _))))) (ze (zP (wF PySem.F.plainAttrs_list PySem.F.slot_list_append PySem.F.type_list_append yD (pv 4) (za (zo zk (pv 0) (pv 5) (λ_ _=>rfl)) zb)))) zq))))
   (ze (zj (pv 4)))))),?_⟩
  have hln:=zt;have hll:=rB.length;have hpc:∀ds:List (List Int),(∀d∈ds,d∈cs)->∀d∈ds.filter (λd => !decide (d=[])),d.Perm us:=λds hs d hd=>by
   have h:=List.mem_filter.mp hd;refine(hcd d (hs d h.1)).resolve_left λz=>?_;have h2:=h.2;rw[decide_eq_true z]at h2;exact absurd h2 (by decide)
  refine⟨_,rfl,b,rfl,⟨_,hB⟩,?_⟩;refine zaF hB rB (by omega) (λm d H' R hm h=>?_) (λm H' R h=>⟨_,rfl,h⟩) λks H1 s1 r1=>?_
  ·refine⟨_,rfl,(by show 0<=sizeLine;decide),λl13 hl13=>?_⟩;have s13:=Same.new (o:=.lst []) hl13;refine⟨m,l13,_,[],rfl,rfl,s13.seq hm,SqL.new,zA _,rfl,_,rfl,?_⟩;rw[show eqL (d.map V.int) []=decide (d=[])from yH _ []];exact h _ s13
  intro l1 hl1;have s2:=Same.new (o:=.lst (ks.map V.ref)) hl1;have t2:=s1.trans s2;refine⟨_,rfl,l1,c,_,us,rfl,⟨ks,SqL.new,r1.imp λ_ _=>IL.stays K _ _ _ _ s2⟩,t2.seq hC,hpc cs λ_ h=>h,by omega,le_trans (length_filter_le _ _) (by omega),huz,λl3 H3 s3 f3 e3=>?_⟩;have t3:=t2.trans s3;refine⟨(by show 0<=sizeLine;decide),λp0 hp0=>?_⟩;have t3':=t3.newT (o:=.lst []) hp0;refine⟨_,rfl,a,_,rfl,.inl (t3'.seq hA),_,rfl,by omega,by rw[length_map];omega,?_⟩;rw[length_map,show((ts.length:Nat):Int).toNat=ts.length by omega];refine yi (λi σ H4=>∃(v5 v6:Option V),σ=[some (.ref a),some (.ref b),some (.ref c),some (.ref l3),some (.ref p0),v5,v6]/\Same H3 H4/\H4 p0=some (.lst ((zi5 ts cs us i).map V.str))) ⟨_,_,rfl,Same.new hp0,zd⟩ ?_ ?_
  ·rintro i σ H4 hi ⟨v5,v6,rfl,s4,e4⟩;have t4:=t3.trans s4;rw[show(0:Int)+(i:Int)=(i:Int)by omega];refine⟨_,rfl,_,rfl,_,rfl,b,_,rfl,t4.seq hB,λl10 hl10=>?_⟩;rw[zfF (by omega),show((i:Int)).toNat=i by omega];have s10:=Same.new (o:=.lst ((ls.map V.ref).take i)) hl10;refine⟨_,rfl,_,rfl,_,_,rfl,rfl,_,rfl,b,_,rfl,(t4.trans s10).seq hB,λl11 hl11=>?_⟩;rw[zfJ (by omega),show((i:Int)+1).toNat=i+1 by omega];have s11:=Same.new (o:=.lst ((ls.map V.ref).drop (i+1))) hl11;have e10:=s11 _ _ (zd (H:=H4) (a:=l10) (o:=.lst ((ls.map V.ref).take i)));refine⟨l10,l11,_,_,rfl,rfl,e10,zd,by rw[length_take,length_drop,length_map];omega,λl12 hl12=>?_⟩;rw[<-map_take,<-map_drop,<-map_append]at *;have s12:=(s10.trans s11).newT (o:=.lst ((ls.take i++ls.drop (i+1)).map V.ref)) hl12;have e12:upd (upd (upd H4 l10 (.lst ((ls.take i).map V.ref))) l11 (.lst ((ls.drop (i+1)).map V.ref))) l12 (.lst ((ls.take i++ls.drop (i+1)).map V.ref)) l12=some (.lst ((ls.take i++ls.drop (i+1)).map V.ref)):=zd;generalize hH12:upd (upd (upd H4 l10 _) l11 _) l12 _=H12 at s12 e12 ⊢;have t12:=t4.trans s12;have r12:All2 (IL K H12) (ls.take i++ls.drop (i+1)) (cs.take i++cs.drop (i+1)):=by
    have z:=rB.imp λ_ _=>IL.stays K _ _ _ _ t12;exact(z.takeN i).app (z.dropN (i+1))
   refine⟨l12,rfl,⟨_,SqL.of e12⟩,?_⟩;refine zaF (SqL.of e12) r12 (by rw[length_append,length_take,length_drop];omega) (λm d H' R hm h=>?_) (λm H' R h=>⟨_,rfl,h⟩) λks H13 s13 r13=>?_
   ·refine⟨_,rfl,(by show 0<=sizeLine;decide),λl13 hl13=>?_⟩;have s13:=Same.new (o:=.lst []) hl13;refine⟨m,l13,_,[],rfl,rfl,s13.seq hm,SqL.new,zA _,rfl,_,rfl,?_⟩;rw[show eqL (d.map V.int) []=decide (d=[])from yH _ []];exact h _ s13
   intro l14 hl14;have s14:=Same.new (o:=.lst (ks.map V.ref)) hl14;have e14:upd H13 l14 (.lst (ks.map V.ref)) l14=some (.lst (ks.map V.ref)):=zd;have r14:=r13.imp λ_ _=>IL.stays K _ _ _ _ s14;generalize hH14:upd H13 l14 _=H14 at s14 e14 r14 ⊢;have t14:=(s12.trans s13).trans s14;obtain⟨m,em,rm⟩:=rB.at (i:=i) (by omega) [];have rm:SqL K H m ((cs.getD i []).map V.int):=rm;have u14:=t4.trans t14;refine⟨_,rfl,_,rfl,b,_,_,_,rfl,rfl,u14.seq hB,zN (yR em),(by show 0<=sizeLine;decide),λl15 hl15=>?_⟩;have s15:=Same.new (o:=.lst []) hl15;refine⟨m,l15,_,[],rfl,rfl,(u14.trans s15).seq rm,SqL.new,zA _,rfl,_,rfl,?_⟩;rw[show eqL ((cs.getD i []).map V.int) []=decide (cs.getD i []=[])from yH _ []];generalize hH15:upd H14 l15 _=H15 at s15 ⊢;have t15:=t14.trans s15;refine yj (λhne=>?_) (λhe=>?_)
   ·have hf:=zkv (cs:=cs) (k:=i) (by omega);have hsub:∀d∈cs.take i++cs.drop (i+1),d∈cs:=λd hd=>by
     rcases List.mem_append.mp hd with h | h
     ·exact List.mem_of_mem_take h
     ·exact List.mem_of_mem_drop h
    have hle:=length_filter_le (λd:List Int => !decide (d=[])) (cs.take i++cs.drop (i+1));rw[length_append,length_take,length_drop]at hle;refine⟨_,rfl,_,rfl,l14,c,_,us,rfl,⟨ks,SqL.of (s15 _ _ e14),r14.imp λ_ _=>IL.stays K _ _ _ _ s15⟩,(t4.trans t15).seq hC,hpc _ hsub,by omega,by omega,huz,λl16 H16 s16 f16 e16=>?_⟩;have t16:=t15.trans s16;refine⟨_,rfl,l16,l3,_,_,rfl,rfl,SqL.of e16,SqL.of ((s4.trans t16) _ _ e3),zA _,zA _,_,rfl,?_⟩;rw[yH];refine yj (λhb=>?_) (λhb=>?_)
    ·have ats:atI (ts.map V.str) (i:Int)=some (.str (ts.getD i "")):=by
      have:=zfB (ts:=ts) (i:=(i:Int)) (by omega) (by omega);rw[show((i:Int)).toNat=i by omega]at this;exact this
     refine⟨_,rfl,.inl ⟨rfl,_,SqL.of (t16 _ _ e4)⟩,_,rfl,_,rfl,a,_,_,_,rfl,rfl,(t4.trans t16).seq hA,ats,p0,_,_,rfl,rfl,t16 _ _ e4,?_,_,_,rfl,(s4.trans t16).put hp0,?_⟩
     ·have:=zkh ts cs us i;rw[length_map];omega
     ·rw[zd,zf8,if_pos (by unfold zkb;rw[decide_eq_false hne,decide_eq_false hb];rfl),map_append];rfl
    ·refine⟨_,_,rfl,s4.trans t16,?_⟩;rw[zf8,if_neg (by unfold zkb;rw[decide_eq_true hb];simp),append_nil];exact t16 _ _ e4
   ·refine⟨_,_,rfl,s4.trans t15,?_⟩;rw[zf8,if_neg (by unfold zkb;rw[decide_eq_true he];simp),append_nil];exact t15 _ _ e4
  ·rintro σ H4 ⟨v5,v6,rfl,s4,e4⟩;exact⟨_,rfl,q p0 H4 (t3.trans s4) (t3.free hp0) e4⟩
inductive zcc (K:Frag) (vs:List V) (H:Hp) (Q:VK) (E:XK):Prop
 | mk (a b:Addr) (rs:List (List Int)) (ms:List Int):vs=[.ref a,.ref b]->Refs K (IL K) H a rs->SqL K H b (ms.map V.int)->((∀r∈rs,r.length=ms.length/\∀x∈r,1<=x/\x<=24))->((∀x∈ms,1<=x/\x<=24))->1<=ms.length->ms.length<=60->rs.length<=1000->(∀H',Same H H'->Q (.int (1+((rs.filter λr=>M6.zV r ms 24).length:Int))) H')->zcc K vs H Q E
theorem zhr(F:Fun K "place_among" "place_among" zaX f fd)(T:Txt K mg)(c07:Can P w K mg base 4 "is_ahead" zcl (zej K)):FnOk P w K mg base CX0 5 f fd zan (zcc K):=by
 refine F.ok zg8 (λvs H Q E h=>?_) (λcdv A outer s H vs Q E hr h=>?_)
 ·obtain⟨a,b,rs,ms,rfl,_⟩:=h;rfl
 ·obtain⟨a,b,rs,ms,rfl,⟨ls,hS,hR⟩,hB,hrs,hm,h1,hz,hzr,q⟩:=h;refine⟨_,(ze (zj (zr yf zg (ya T.b_len (zL (show CompScope (zf zaX) ["rows","own"] "marks" ["own"] [1] _ from csM) rfl (zx (pv 0)) (λ_ _ _ _ _=>(yC (zF (zi c07 (hM hr) rfl (za (pv 0) (za (pv 1) zb)))))) (λ_ _ _ _ _=>(pv 0))))))),?_⟩;have hlen:=hR.length;refine⟨_,rfl,a,rfl,⟨_,hS⟩,?_⟩;refine yV (xs:=ls.map V.ref) (λi ys H2=>Same H H2/\ys.length=((rs.take i).filter λr=>M6.zV r ms 24).length) ⟨Same.refl _,rfl⟩ ?_ (by rw[length_map];have:=zt;omega) ?_ ?_
  ·rintro i ys H2 hi ⟨s2,e2⟩;refine⟨s2.seq hS,?_⟩;rw[e2];have:=length_filter_le (λr=>M6.zV r ms 24) (rs.take i);rw[length_take]at this;omega
  ·rintro i x ys H2 hx ⟨s2,e2⟩;obtain⟨l,el,rfl⟩:=zah hx;obtain⟨d,ed,rd⟩:=hR.getL el;have hd:=hrs d (mem_of_getElem? ed);refine⟨_,rfl,_,rfl,l,b,d,ms,rfl,s2.seq rd,s2.seq hB,hd.1,by omega,by omega,hd.2,hm,λH3 s3=>⟨_,rfl,zhi (λhb=>?_) (λhb=>?_)⟩⟩
   ·refine⟨_,rfl,s2.trans s3,?_⟩;rw[take_succ,ed,filter_append,length_append,length_append,e2];show _=_+(filter (λr=>M6.zV r ms 24) [d]).length;rw[filter_cons,if_pos hb];rfl
   ·refine⟨s2.trans s3,?_⟩;rw[take_succ,ed,filter_append,length_append,e2];show _=_+(filter (λr=>M6.zV r ms 24) [d]).length;rw[filter_cons,if_neg (by rw[hb];exact Bool.false_ne_true)];rfl
  ·rintro ys H2 ⟨s2,e2⟩ l hl;rw[length_map,hlen,take_length]at e2;refine⟨l,_,rfl,.inl SqL.new,_,_,rfl,rfl,?_⟩;rw[e2];exact q _ (s2.newT hl)
inductive zdK (K:Frag) (vs:List V) (H:Hp) (Q:VK) (E:XK):Prop
 | mk (G:Addr->Prop) (S:Sh) (st n u g k x:Addr) (F:Addr->Prop) (ls:List Addr):vs=[.ref st]->St7 K H G S st n u g k x F ls->(∀H',Same H H'->Q (.bl true) H')->zdK K vs H Q E
theorem zi1(F:Fun K "_law_right" "_law_right" zet f fd)(T:Txt K mg)(c08:Can P w K mg base 4 "_law_stands" zaQ (zcV K)):FnOk P w K mg base CX0 5 f fd zbu (zdK K):=by
 refine F.ok ziO (λvs H Q E h=>?_) (λcdv A outer s H vs Q E hr h=>?_)
 ·obtain⟨G,S,st,n,u,g,k,x,F,ls,rfl,_⟩:=h;rfl
 ·obtain⟨G,S,st,n,u,g,k,x,F,ls,rfl,hT,q⟩:=h;refine⟨_,(ze (zj (zi c08 (hM hr) rfl (za (zo zk (pv 0) zg (λ_ _=>rfl)) (za (zo zk (pv 0) zg (λ_ _=>rfl)) (za (zo zk (pv 0) zg (λ_ _=>rfl)) (za (zo zk (pv 0) zg (λ_ _=>rfl)) (za (zo zk (pv 0) zg (λ_ _=>rfl)) (za (zo zk (pv 0) zg (λ_ _=>rfl)) (za (zo zk (pv 0) zg (λ_ _=>rfl)) zb)))))))))),?_⟩;have h:=SqL.of (K:=K) hT.hst;exact⟨_,rfl,st,_,_,_,rfl,rfl,h,rfl,_,rfl,st,_,_,_,rfl,rfl,h,rfl,_,rfl,st,_,_,_,rfl,rfl,h,rfl,_,rfl,st,_,_,_,rfl,rfl,h,rfl,_,rfl,st,_,_,_,rfl,rfl,h,rfl,_,rfl,st,_,_,_,rfl,rfl,h,rfl,_,rfl,st,_,_,_,rfl,rfl,h,rfl,x,F,S,n,u,g,k,rfl,hT.sh,SqL.of hT.hn,SqL.of hT.hu,SqL.of hT.hg,hT.hr.refs K,q⟩
inductive yY (K:Frag) (vs:List V) (H:Hp) (Q:VK) (E:XK):Prop
 | mk (a b:Addr) (cs:List (List Int)) (us:List Int):vs=[.ref a,.ref b]->Refs K (IL K) H a cs->SqL K H b (us.map V.int)->us.Nodup->((∀d∈cs,d.Perm us))->1<=cs.length->cs.length<=15->1<=us.length->us.length<=24->(∀(l:Addr)(H':Hp),Same H H'->H l=none->H' l=some (.lst ((M6.zw cs us).map V.int))->Q (.ref l) H')->yY K vs H Q E
theorem zjz(F:Fun K "places_of" "places_of" za7 f fd)(T:Txt K mg)(c0m:Can P w K mg base 2 "marks_of" wW (zbd K))(c09:Can P w K mg base 5 "place_among" zan (zcc K)):FnOk P w K mg base CX0 6 f fd yM (yY K):=by
 refine F.ok zfk (λvs H Q E h=>?_) (λcdv A outer s H vs Q E hr h=>?_)
 ·obtain⟨a,b,cs,us,rfl,_⟩:=h;rfl
 ·obtain⟨a,b,cs,us,rfl,hC,hU,hnd,hp,c1,c2,u1,u2,q⟩:=h;refine⟨_,(zc (zu (i:=2) zfk.nd rfl (Or.inr rfl) (zL (show CompScope (zf za7) zdk "couple" ["cards"] [0] _ from csM) rfl (zx (pv 1)) (λ_ _ _ _ _=>yz) (λ_ _ _ _ _=>(zi c0m (hM hr) rfl (za (pv 1) (za (pv 0) zb))))))
   (ze (zj (zL (show CompScope (zf za7) zdk "own" ["rows"] [2] _ from csM) rfl (zx (pv 2)) (λ_ _ _ _ _=>yz) (λ_ _ _ _ _=>(zi c09 (hM hr) rfl (za (pv 1) (za (pv 0) zb)))))))),?_⟩
  have hln:=zt;refine⟨_,rfl,b,rfl,⟨_,hU⟩,?_⟩;refine yb (xs:=us.map V.int) (λi ys H2=>∃ks:List Addr,ys=ks.map V.ref/\Same H H2/\All2 (IL K H2) ks ((us.take i).map (M5.zl cs))) ⟨[],rfl,Same.refl _,.nil⟩ ?_ (by rw[length_map];omega) ?_ ?_
  ·rintro i ys H2 hi ⟨ks,rfl,s2,r2⟩;refine⟨s2.seq hU,?_⟩;have:=r2.length;rw[length_map,length_take]at this;rw[length_map];omega
  ·rintro i x ys H2 hx ⟨ks,rfl,s2,r2⟩;obtain⟨hi,rfl⟩:=yF hx;refine⟨_,rfl,_,rfl,a,cs,_,rfl,hC.same (IL.stays K) s2,by omega,λd hd=>(hp d hd).mem_iff.mpr (wN hi),λl H3 s3 f3 e3=>?_⟩;refine⟨ks++[l],by rw[map_append];rfl,s2.trans s3,?_⟩;rw[yE hi,map_append];exact(r2.imp λ_ _=>IL.stays K _ _ _ _ s3).snoc (show IL K _ l _ from SqL.of e3)
  ·rintro ys H2 ⟨ks,rfl,s2,r2⟩ l hl;rw[length_map,take_length]at r2;generalize hH3:upd H2 l _=H3;have s23:Same H2 H3:=by rw[<-hH3];exact Same.new hl
   have e3:H3 l=some (.lst (ks.map V.ref)):=by rw[<-hH3];exact zd
   have r3:=r2.imp λ_ _=>IL.stays K _ _ _ _ s23;have s3:=s2.trans s23;have hk:=r3.length;rw[length_map]at hk;refine⟨_,rfl,l,rfl,⟨_,SqL.of e3⟩,?_⟩;refine yb (xs:=ks.map V.ref) (λi ys H4=>Same H3 H4/\ys=((us.take i).map λc=>1+(((us.map (M5.zl cs)).filter λr=>M6.zV r (M5.zl cs c) 24).length:Int)).map V.int) ⟨Same.refl _,rfl⟩ ?_ (by rw[length_map];omega) ?_ ?_
   ·rintro i ys H4 hi ⟨s4,rfl⟩;refine⟨s4.seq (SqL.of e3),?_⟩;rw[length_map,length_map,length_take];omega
   ·rintro i x ys H4 hx ⟨s4,rfl⟩;obtain⟨p,ep,rfl⟩:=zah hx;obtain⟨m,em,rm⟩:=r3.getL ep;rw[getElem?_map]at em;cases eu:us[i]? with
    | none=>rw[eu]at em;cases em
    | some c =>
      rw[eu]at em;cases em;have hc:=mem_of_getElem? eu;have rng:∀d∈us,(M5.zl cs d).length=cs.length/\∀x∈M5.zl cs d,1<=x/\x<=24:=λd hd=>⟨M5.zX cs d,λx hx=>by have:=M6.yx hp hd x hx;omega⟩;refine⟨_,rfl,_,rfl,l,p,us.map (M5.zl cs),M5.zl cs c,rfl,⟨ks,s4.seq (SqL.of e3),r3.imp λ_ _=>IL.stays K _ _ _ _ s4⟩,s4.seq rm,λr hr=>?_,(rng c hc).2,by rw[(rng c hc).1];exact c1,by rw[(rng c hc).1];omega,by rw[length_map];omega,λH5 s5=>⟨s4.trans s5,?_⟩⟩
      ·obtain⟨d,hd,rfl⟩:=List.mem_map.mp hr;exact⟨by rw[(rng d hd).1,(rng c hc).1],(rng d hd).2⟩
      ·rw[take_succ,eu,map_append,map_append];rfl
   ·rintro ys H4 ⟨s4,rfl⟩ p hp';rw[length_map,hk,take_length];have st:=s3.trans s4;refine q p _ (st.newT hp') ?_ ?_
    ·cases e:H p with
     | none=>rfl
     | some u=>have:=st p u e;rw[hp']at this;cases this
    ·rw[M6.places_24 hp u1 u2];exact zd
inductive zc4 (K:Frag) (vs:List V) (H:Hp) (Q:VK) (E:XK):Prop
 | mk (p:Addr) (F:Addr->Prop) (S:Sh):vs=[.ref p]->SheetAt K H p F S->1<=S.handed.length->(∀(l:Addr)(H':Hp),Same H H'->H l=none->H' l=some (.lst ((M6.zw S.cardsIn S.couples).map V.int))->Q (.ref l) H')->zc4 K vs H Q E
theorem ok_places(F:Fun K "places" "places" zhQ f fd)(T:Txt K mg)(c0j:Can P w K mg base 6 "places_of" yM (yY K))(c0e:Can P w K mg base 2 "refuse_fewer_cards" zz (zG K))(c0:CanM P w K mg base 1 (zH K "Sheet") "couples" zy (zD K))(c0d:CanM P w K mg base 3 (zH K "Sheet") "cards" yh (yn K)):FnOk P w K mg base CX0 7 f fd ["sheet"] (zc4 K):=by
 refine F.ok sc_places (λvs H Q E h=>?_) (λcdv A outer s H vs Q E hr h=>?_)
 ·obtain⟨p,F,S,rfl,_⟩:=h;rfl
 ·obtain⟨p,F,S,rfl,hSh,h1,q⟩:=h;refine⟨_,(zc (zP (zi c0e (hM hr) rfl (za (pv 0) (za zg zb))))
   (ze (zj (zi c0j (hM hr) rfl (za (zE c0d T.cl_Sheet (hM hr) (pv 0)) (za (zE c0 T.cl_Sheet (hM hr) (pv 0)) zb)))))),?_⟩
  have ok:=hSh.ok;have h15:S.handed.length<=15:=le_trans (length_filter_le _ _) ok.p15;have c24:=ok.c24;obtain⟨dx,b1,b2,b3,d,hip⟩:=hSh.ins;refine⟨_,rfl,p,F,S,1,rfl,hSh,by omega,λH1 s1=>?_⟩;refine⟨_,rfl,p,dx,_,rfl,s1 _ _ hip,rfl,p,F,S,rfl,hSh.same s1,λl2 H2 ls s2 f2 e2 r2=>?_⟩;have t2:=s1.trans s2;refine⟨_,rfl,p,dx,_,rfl,t2 _ _ hip,rfl,p,F,S,rfl,hSh.same t2,λl3 H3 s3 f3 e3=>?_⟩;have t3:=t2.trans s3;refine⟨l2,l3,S.cardsIn,S.couples,rfl,⟨ls,SqL.of (s3 _ _ e2),r2.imp λ_ _ z=>SqL.of (s3 _ _ z.2)⟩,SqL.of e3,ok.nd,Sh.cardsIn_perm ok,by rw[Sh.cardsIn_len];exact h1,by rw[Sh.cardsIn_len];exact h15,ok.c1,by omega,λl4 H4 s4 f4 e4=>?_⟩;exact q l4 H4 (t3.trans s4) (t3.free f4) e4
inductive zea (K:Frag) (vs:List V) (H:Hp) (Q:VK) (E:XK):Prop
 | mk (p:Addr) (F:Addr->Prop) (S:Sh) (j:Str):vs=[.ref p,.str j]->SheetAt K H p F S->j∈S.handed->2<=S.handed.length->(∀(l:Addr)(H':Hp),Same H H'->H l=none->H' l=some (.lst ((M6.zw (S.cardsWo j) S.couples).map V.int))->Q (.ref l) H')->zea K vs H Q E
theorem zjV(F:Fun K "left_out" "left_out" ze9 f fd)(T:Txt K mg)(c0j:Can P w K mg base 6 "places_of" yM (yY K))(c0e:Can P w K mg base 2 "refuse_fewer_cards" zz (zG K))(c0A:Can P w K mg base 3 "cards_without" yS (wx K))(c0:CanM P w K mg base 1 (zH K "Sheet") "couples" zy (zD K))(c0g:CanMX P w K mg base 2 (zH K "Sheet") "card_of" yd (ym K)):FnOk P w K mg base CX0 7 f fd zcy (zea K):=by
 refine F.ok zj6 (λvs H Q E h=>?_) (λcdv A outer s H vs Q E hr h=>?_)
 ·obtain⟨p,F,S,j,rfl,_⟩:=h;rfl
 ·obtain⟨p,F,S,j,rfl,hSh,hj,h2,q⟩:=h;refine⟨_,(zc (zP (wG c0g T.cl_Sheet zdX (hM hr) (pv 0) (za (pv 1) zb)))
   (zc (zP (zi c0e (hM hr) rfl (za (pv 0) (za zg zb))))
   (ze (zj (zi c0j (hM hr) rfl (za (zi c0A (hM hr) rfl (za (pv 0) (za (pv 1) zb))) (za (zE c0 T.cl_Sheet (hM hr) (pv 0)) zb))))))),?_⟩
  have hln:=zt;have ok:=hSh.ok;have h15:=ok.p15;have c24:=ok.c24;obtain⟨dx,b1,b2,b3,d,hip⟩:=hSh.ins;have hm:=List.mem_filter.mp hj;cases e:S.card j with
  | none=>rw[e]at hm;exact absurd hm.2 Bool.false_ne_true
  | some c =>
    refine⟨_,rfl,p,dx,_,rfl,hip,rfl,_,rfl,p,F,S,j,rfl,hSh,λhn=>absurd hm.1 hn,(λ_ z=>by rw[e]at z;cases z),λc' e' l1 H1 s1 f1 e1=>?_⟩;refine⟨_,rfl,p,F,S,2,rfl,hSh.same s1,by omega,λH2 s2=>?_⟩;have t2:=s1.trans s2;refine⟨_,rfl,_,rfl,p,F,S,j,rfl,hSh.same t2,λl3 H3 ks s3 f3 e3 r3=>?_⟩;have t3:=t2.trans s3;refine⟨_,rfl,p,dx,_,rfl,t3 _ _ hip,rfl,p,F,S,rfl,hSh.same t3,λl4 H4 s4 f4 e4=>?_⟩;have t4:=t3.trans s4;have hwl:=Sh.cardsWo_len ok.pnd hj;have hl2:S.handed.length<=15:=le_trans (length_filter_le _ _) h15;refine⟨l3,l4,S.cardsWo j,S.couples,rfl,⟨ks,SqL.of (s4 _ _ e3),r3.imp λ_ _=>IL.stays K _ _ _ _ s4⟩,SqL.of e4,ok.nd,Sh.cardsWo_perm ok j,by omega,by omega,ok.c1,by omega,λl5 H5 s5 f5 e5=>?_⟩;exact q l5 H5 (t4.trans s5) (t4.free f5) e5
inductive ze5 (K:Frag) (vs:List V) (H:Hp) (Q:VK) (E:XK):Prop
 | mk (p:Addr) (F:Addr->Prop) (S:Sh) (j:Str) (d:List Int) (i:Nat):vs=[.ref p,.str j,.int (d.getD i 0)]->SheetAt K H p F S->S.card j=some d->0<i->i<d.length->(∀(t l:Addr)(H':Hp),Same H H'->H t=none->H l=none->H' t=some (.tup [.int (d.getD (i-1) 0),.ref l])->H' l=some (.lst ((M6.zw (S.cardsUp j (upC d i)) S.couples).map V.int))->Q (.ref t) H')->ze5 K vs H Q E
theorem ok_step_up(F:Fun K "step_up" "step_up" zeJ f fd)(T:Txt K mg)(c1a:CanX P w K mg base 1 "one_up" zeE (zgn K))(c0j:Can P w K mg base 6 "places_of" yM (yY K))(c0:CanM P w K mg base 1 (zH K "Sheet") "couples" zy (zD K))(c0a:CanM P w K mg base 1 (zH K "Sheet") "handed" zQ (zZ K))(c0g:CanMX P w K mg base 2 (zH K "Sheet") "card_of" yd (ym K)):FnOk P w K mg base CX0 7 f fd zdw (ze5 K):=by
 refine F.ok zbS (λvs H Q E h=>?_) (λcdv A outer s H vs Q E hr h=>?_)
 ·obtain⟨p,F,S,j,d,i,rfl,_⟩:=h;rfl
 ·obtain⟨p,F,S,j,d,i,rfl,hSh,hd,h0,hi,q⟩:=h;refine⟨_,(zc (zu (i:=3) zbS.nd rfl (Or.inl rfl) (wG c0g T.cl_Sheet zdX (hM hr) (pv 0) (za (pv 1) zb)))
   (zc (zv (zm zbF (pv 2) (zE c0 T.cl_Sheet (hM hr) (pv 0)) (by first | exact zp _ | rfl)) (ze zhA) zq)
   (zc (zu (i:=4) zbS.nd rfl (Or.inr rfl) (pe_ownX c1a zdX (hM hr) rfl (za (pv 3) (za (pv 2) zb))))
   (zc (zu (i:=5) zbS.nd rfl (Or.inl rfl) (zo zk (pv 4) (wF PySem.F.plainAttrs_list PySem.F.slot_list_index PySem.F.type_list_index zem (pv 3) (za (pv 2) zb)) (λ_ _=>rfl)))
   (zc (y6 (i:=6) (show CompScope (zf zeJ) zhB "other" ["sheet","judge","stepped"] [0,1,4] _ from csM) rfl zbS.nd rfl (Or.inl rfl) (zx (zE c0a T.cl_Sheet (hM hr) (pv 0))) (λ_ _ _ _ _=>yz) (λ_ _ _ _ _=>(pe_ifExp (zm zag (pv 0) (pv 2) (zp _)) (pv 3) (wG c0g T.cl_Sheet zdX (hM hr) (pv 1) (za (pv 0) zb)))))
   (ze (zj (zb9 (za (pv 5) (za (zi c0j (hM hr) rfl (za (pv 6) (za (zE c0 T.cl_Sheet (hM hr) (pv 0)) zb))) zb)))))))))),?_⟩
  have hln:=zt;have ok:=hSh.ok;have h15:=ok.p15;have c24:=ok.c24;obtain⟨hjp,hdp⟩:=ok.cd j d hd;have hdl:=hdp.length_eq;have hdn:d.Nodup:=hdp.nodup_iff.mpr ok.nd;obtain⟨dx,b1,b2,b3,dd,hip⟩:=hSh.ins;refine⟨_,rfl,p,dx,_,rfl,hip,rfl,_,rfl,p,F,S,j,rfl,hSh,λhn=>absurd hjp hn,(λ_ z=>by rw[hd]at z;cases z),λd' e' l1 H1 s1 f1 e1=>?_⟩;rw[hd]at e';cases e';refine⟨_,rfl,_,rfl,p,dx,_,rfl,s1 _ _ hip,rfl,p,F,S,rfl,hSh.same s1,λl2 H2 s2 f2 e2=>?_⟩;have hcm:d.getD i 0∈S.couples:=hdp.mem_iff.mp (wN hi);refine⟨l2,_,rfl,.inl (SqL.of e2),rfl,zA _,_,rfl,iteNo ?_ ?_⟩
  ·show(!inV (.int (d.getD i 0)) (S.couples.map V.int))=false;rw[zhq,decide_eq_true hcm];rfl
  have t2:=s1.trans s2;refine⟨_,rfl,_,rfl,l1,d,i,rfl,SqL.of (s2 _ _ e1),hdn,hi,by omega,λn hn=>ok.rng n (hdp.mem_iff.mp hn),λz=>absurd z (by omega),λ_ l3 H3 s3 f3 e3=>?_⟩;have t3:=t2.trans s3;have e1':=s3 _ _ (s2 _ _ e1);have hix:d.idxOf (d.getD i 0)=i:=by
   have:d.getD i 0=d[i]:=by rw[getD_eq_getElem?_getD,getElem?_eq_getElem hi];rfl
   rw[this];exact hdn.idxOf_getElem i hi
  refine⟨_,rfl,_,rfl,.inl ⟨rfl,_,SqL.of e1'⟩,_,rfl,l1,_,_,rfl,rfl,SqL.of e1',rfl,zA _,?_,l3,_,_,.int (d.getD (i-1) 0),rfl,rfl,SqL.of e3,?_,?_⟩
  ·rw[zac,length_map,hix];exact hi
  ·rw[zac,hix];refine zN ?_;rw[getElem?_map,show d.take (i-1)++[d.getD i 0,d.getD (i-1) 0]++d.drop (i+1)=upC d i from rfl,upC_at h0 hi];rfl
  refine⟨_,rfl,p,dx,_,rfl,t3 _ _ hip,rfl,p,F,S,rfl,(hSh.same t3).shape,h15,λl4 H4 s4 f4 e4=>?_⟩;have hl2:S.handed.length<=15:=le_trans (length_filter_le _ _) h15;have e3':H4 l3=some (.lst ((upC d i).map V.int)):=s4 _ _ e3;have t4:=t3.trans s4;refine⟨l4,rfl,⟨_,SqL.of e4⟩,?_⟩;refine yb (xs:=S.handed.map V.str) (λk ys H5=>∃ks:List Addr,ys=ks.map V.ref/\Same H4 H5/\All2 (IL K H5) ks ((S.handed.take k).map λi'=>if i'=j then upC d i else(S.card i').getD [])) ⟨[],rfl,Same.refl _,.nil⟩ ?_ (by rw[length_map];omega) ?_ ?_
  ·rintro k ys H5 hk ⟨ks,rfl,s5,r5⟩;refine⟨s5.seq (SqL.of e4),?_⟩;have:=r5.length;rw[length_map,length_take]at this;rw[length_map];omega
  ·rintro k x ys H5 hx ⟨ks,rfl,s5,r5⟩;obtain⟨hk,rfl⟩:=zca hx;have hm:=List.mem_filter.mp (show S.handed.getD k "" ∈ S.panel.filter λj=>(S.card j).isSome from zbb hk);have t5:=t4.trans s5;refine⟨_,rfl,_,rfl,rfl,_,rfl,yB (λhe=>?_) (λhne=>?_)⟩
   ·have he:S.handed.getD k ""=j:=by injection he
    refine⟨_,rfl,ks++[l3],by rw[map_append];rfl,s5,?_⟩;rw[yp hk,map_append];refine r5.snoc ?_;show IL K H5 l3 (if S.handed.getD k ""=j then upC d i else _);rw[if_pos he];exact SqL.of (s5 _ _ e3')
   ·have hne:¬S.handed.getD k ""=j:=λz=>hne (by rw[z]);cases e:S.card (S.handed.getD k "")with
    | none=>rw[e]at hm;exact absurd hm.2 Bool.false_ne_true
    | some c =>
      refine⟨_,rfl,p,dx,_,rfl,t5 _ _ hip,rfl,_,rfl,p,F,S,_,rfl,hSh.same t5,λhj=>absurd hm.1 hj,(λ_ z=>by rw[e]at z;cases z),λc' e' l6 H6 s6 f6 e6=>?_⟩;rw[e]at e';cases e';refine⟨ks++[l6],by rw[map_append];rfl,s5.trans s6,?_⟩;rw[yp hk,map_append];refine(r5.imp λ_ _=>IL.stays K _ _ _ _ s6).snoc ?_;show IL K H6 l6 (if S.handed.getD k ""=j then upC d i else(S.card (S.handed.getD k "")).getD []);rw[if_neg hne,e];exact SqL.of e6
  ·rintro ys H5 ⟨ks,rfl,s5,r5⟩ l7 hl7;rw[length_map,take_length]at r5;have s7:=s5.newT (o:=.lst (ks.map V.ref)) hl7;have e7:upd H5 l7 (.lst (ks.map V.ref)) l7=some (.lst (ks.map V.ref)):=zd;have r7:=r5.imp λ_ _=>IL.stays K _ _ _ _ (Same.new (o:=.lst (ks.map V.ref)) hl7);generalize hH7:upd H5 l7 _=H7 at s7 e7 r7 ⊢;have t7:=t4.trans s7;refine⟨_,rfl,_,rfl,_,rfl,p,dx,_,rfl,t7 _ _ hip,rfl,p,F,S,rfl,hSh.same t7,λl8 H8 s8 f8 e8=>?_⟩;have t8:=t7.trans s8;have hjh:1<=S.handed.length:=length_pos_of_mem (List.mem_filter.mpr ⟨hjp,by rw[hd];rfl⟩);refine⟨l7,l8,S.cardsUp j (upC d i),S.couples,rfl,⟨ks,SqL.of (s8 _ _ e7),r7.imp λ_ _=>IL.stays K _ _ _ _ s8⟩,SqL.of e8,ok.nd,Sh.cardsUp_perm ok ((zkd h0 hi).trans hdp),by rw[Sh.cardsUp_len];exact hjh,by rw[Sh.cardsUp_len];exact hl2,ok.c1,by omega,λl9 H9 s9 f9 e9=>⟨(by show 2<=sizeLine;decide),λt hT=>?_⟩⟩;have t9:=t8.trans s9;exact q t l9 _ (t9.newT hT) (t9.free hT) (t8.free f9) zd ((Same.new hT) _ _ e9)
inductive zbK (K:Frag) (vs:List V) (H:Hp) (Q:VK) (E:XK):Prop
 | mk (a b:Addr) (cs:List (List Int)) (us:List Int):vs=[.ref a,.ref b]->Refs K (IL K) H a cs->SqL K H b (us.map V.int)->us.Nodup->((∀d∈cs,d.Perm us))->1<=cs.length->cs.length<=15->1<=us.length->us.length<=24->(∀(l:Addr)(H':Hp),Same H H'->H l=none->H' l=some (.lst ((wO cs us).map V.int))->Q (.ref l) H')->zbK K vs H Q E
theorem zjw(F:Fun K "firsts_of" "firsts_of" zcH f fd)(T:Txt K mg)(c0j:Can P w K mg base 6 "places_of" yM (yY K)):FnOk P w K mg base CX0 7 f fd zap (zbK K):=by
 refine F.ok zjB (λvs H Q E h=>?_) (λcdv A outer s H vs Q E hr h=>?_)
 ·obtain⟨a,b,cs,us,rfl,_⟩:=h;rfl
 ·obtain⟨a,b,cs,us,rfl,hA,hB,nd,hp,c1,c15,u1,u24,q⟩:=h;refine⟨_,(ze (zj (zjI (show CompScope2 (zf zcH) ["cards","couples"] "place" "couple" [] [] _ from csM2) rfl (pi_zip rfl T.b_zip (za (zi c0j (hM hr) rfl (za (pv 0) (za (pv 1) zb))) (za (pv 1) zb))) (λ_ _ _ _ _=>(yC (zm zag (pv 0) zg (zp _)))) (λ_ _ _ _ _=>(pv 1))))),?_⟩;have hln:=zt;refine⟨_,rfl,_,rfl,a,b,cs,us,rfl,hA,hB,nd,hp,c1,c15,u1,u24,λl1 H1 s1 f1 e1=>?_⟩;have hpl:=M6.yu cs us;refine⟨_,rfl,l1,b,_,_,rfl,SqL.of e1,s1.seq hB,?_⟩;refine comp2_zip (xs:=(M6.zw cs us).map V.int) (ys:=us.map V.int) (λi zs H2=>Same H1 H2/\zs=(zcr (M6.zw cs us) us i).map V.int) ⟨Same.refl _,rfl⟩ ?_ (by rw[length_map,length_map];omega) ?_ ?_
  ·rintro i zs H2 hi ⟨s2,rfl⟩;refine⟨SqL.of (s2 _ _ e1),(s1.trans s2).seq hB,?_⟩;rw[length_map];exact zee _ _ _
  ·rintro i x y t zs H2 hx hy ht ⟨s2,rfl⟩;obtain⟨hi,rfl⟩:=yF hx;obtain⟨hi2,rfl⟩:=yF hy;refine⟨_,rfl,rfl,_,rfl,yB (λhe=>?_) (λhne=>?_)⟩
   ·have he:(M6.zw cs us).getD i 0=1:=by injection he
    refine⟨_,rfl,s2.newT ht,?_⟩;rw[zbC,if_pos he,map_append];rfl
   ·have hne:¬(M6.zw cs us).getD i 0=1:=λz=>hne (by rw[z]);refine⟨s2.newT ht,?_⟩;rw[zbC,if_neg hne,append_nil]
  ·rintro zs H2 ⟨s2,rfl⟩ l hl;rw[length_map,length_map,hpl,Nat.min_self]at *;have t2:=s1.trans s2;exact q l _ (t2.newT hl) (t2.free hl) zd
inductive zeG (K:Frag) (vs:List V) (H:Hp) (Q:VK) (E:XK):Prop
 | mk (p:Addr) (F:Addr->Prop) (S:Sh):vs=[.ref p]->SheetAt K H p F S->1<=S.handed.length->(∀(l:Addr)(H':Hp),Same H H'->H l=none->H' l=some (.lst ((wO S.cardsIn S.couples).map V.int))->Q (.ref l) H')->zeG K vs H Q E
theorem ok_firsts(F:Fun K "firsts" "firsts" zha f fd)(T:Txt K mg)(c0e:Can P w K mg base 2 "refuse_fewer_cards" zz (zG K))(c0B:Can P w K mg base 7 "firsts_of" zap (zbK K))(c0:CanM P w K mg base 1 (zH K "Sheet") "couples" zy (zD K))(c0d:CanM P w K mg base 3 (zH K "Sheet") "cards" yh (yn K)):FnOk P w K mg base CX0 8 f fd ["sheet"] (zeG K):=by
 refine F.ok sc_firsts (λvs H Q E h=>?_) (λcdv A outer s H vs Q E hr h=>?_)
 ·obtain⟨p,F,S,rfl,_⟩:=h;rfl
 ·obtain⟨p,F,S,rfl,hSh,h1,q⟩:=h;refine⟨_,(zc (zP (zi c0e (hM hr) rfl (za (pv 0) (za zg zb))))
   (ze (zj (zi c0B (hM hr) rfl (za (zE c0d T.cl_Sheet (hM hr) (pv 0)) (za (zE c0 T.cl_Sheet (hM hr) (pv 0)) zb)))))),?_⟩
  have ok:=hSh.ok;have h15:S.handed.length<=15:=le_trans (length_filter_le _ _) ok.p15;have c24:=ok.c24;obtain⟨dx,b1,b2,b3,d,hip⟩:=hSh.ins;refine⟨_,rfl,p,F,S,1,rfl,hSh,by omega,λH1 s1=>?_⟩;refine⟨_,rfl,p,dx,_,rfl,s1 _ _ hip,rfl,p,F,S,rfl,hSh.same s1,λl2 H2 ls s2 f2 e2 r2=>?_⟩;have t2:=s1.trans s2;refine⟨_,rfl,p,dx,_,rfl,t2 _ _ hip,rfl,p,F,S,rfl,hSh.same t2,λl3 H3 s3 f3 e3=>?_⟩;have t3:=t2.trans s3;refine⟨l2,l3,S.cardsIn,S.couples,rfl,⟨ls,SqL.of (s3 _ _ e2),r2.imp λ_ _ z=>SqL.of (s3 _ _ z.2)⟩,SqL.of e3,ok.nd,Sh.cardsIn_perm ok,by rw[Sh.cardsIn_len];exact h1,by rw[Sh.cardsIn_len];exact h15,ok.c1,by omega,λl4 H4 s4 f4 e4=>?_⟩;exact q l4 H4 (t3.trans s4) (t3.free f4) e4
inductive zdn (K:Frag) (vs:List V) (H:Hp) (Q:VK) (E:XK):Prop
 | mk (x:Addr) (F:Addr->Prop) (S:Sh) (c:Int):vs=[.ref x,.int c]->SheetAt K H x F S->1<=S.handed.length->c∈S.couples->(∀H',Same H H'->Q (.str (M6.zjr (M6.plc S.cardsIn S.couples c) c (M5.zl S.cardsIn c) S.couples.length)) H')->zdn K vs H Q E
theorem zjh(F:Fun K "table_row" "table_row" zd4 f fd)(T:Txt K mg)(c0u:Can P w K mg base 7 "places" ["sheet"] (zc4 K))(c0C:Can P w K mg base 4 "row_text" za1 (zcm K))(c0:CanM P w K mg base 1 (zH K "Sheet") "couples" zy (zD K)):FnOk P w K mg base CX0 8 f fd zbN (zdn K):=by
 refine F.ok zfK (λvs H Q E h=>?_) (λcdv A outer s H vs Q E hr h=>?_)
 ·obtain⟨x,F,S,c,rfl,_⟩:=h;rfl
 ·obtain⟨x,F,S,c,rfl,hSh,h1,hc,q⟩:=h;refine⟨_,(zc (zu (i:=2) zfK.nd rfl (Or.inl rfl) (zi c0u (hM hr) rfl (za (pv 0) zb)))
   (zc (zv (zm zbF (pv 1) (zE c0 T.cl_Sheet (hM hr) (pv 0)) (by first | exact zp _ | rfl)) (ze zhA) zq)
   (ze (zj (zi c0C (hM hr) rfl (za (pv 0) (za (zo zk (pv 2) (wF PySem.F.plainAttrs_list PySem.F.slot_list_index PySem.F.type_list_index zem (zE c0 T.cl_Sheet (hM hr) (pv 0)) (za (pv 1) zb)) (λ_ _=>rfl)) (za (pv 1) zb)))))))),?_⟩
  have hln:=zt;have ok:=hSh.ok;have c24:=ok.c24;obtain⟨dx,b1,b2,b3,d,hi⟩:=hSh.ins;refine⟨_,rfl,x,F,S,rfl,hSh,h1,λl1 H1 s1 f1 e1=>?_⟩;refine⟨_,rfl,_,rfl,x,dx,_,rfl,s1 _ _ hi,rfl,x,F,S,rfl,hSh.same s1,λl2 H2 s2 f2 e2=>?_⟩;refine⟨l2,_,rfl,.inl (SqL.of e2),rfl,zA _,_,rfl,iteNo ?_ ?_⟩
  ·show(!inV (.int c) (S.couples.map V.int))=false;rw[zhq,decide_eq_true hc];rfl
  have t2:=s1.trans s2;have hix:=idxOf_lt_length_of_mem hc;refine⟨_,rfl,_,rfl,_,rfl,x,dx,_,rfl,t2 _ _ hi,rfl,x,F,S,rfl,hSh.same t2,λl3 H3 s3 f3 e3=>?_⟩;refine⟨.inl ⟨rfl,_,SqL.of e3⟩,_,rfl,l3,_,_,rfl,rfl,SqL.of e3,rfl,zA _,(by rw[zac,length_map];exact hix),?_⟩;rw[zac];have hat:atI ((M6.zw S.cardsIn S.couples).map V.int) (S.couples.idxOf c:Int)=some (.int (M6.plc S.cardsIn S.couples c)):=by
   have:=zN (wR (ns:=M6.zw S.cardsIn S.couples) (i:=S.couples.idxOf c) (by rw[M6.yu];exact hix));rw[M6.places_at hix,M6.getD_idx hc]at this;exact this
  have hb:(M6.plc S.cardsIn S.couples c).natAbs<=990:=by
   unfold M6.plc M6.zkF;have:=length_filter_le (λd=>M6.zV (M5.zl S.cardsIn d) (M5.zl S.cardsIn c) S.couples.length) S.couples;omega
  have t3:=t2.trans s3;refine⟨l1,_,_,_,rfl,rfl,SqL.of (s3 _ _ (s2 _ _ e1)),hat,_,rfl,x,F,S,_,c,rfl,hSh.same t3,hc,hb,λH4 s4=>q H4 (t3.trans s4)⟩
inductive zes (K:Frag) (vs:List V) (H:Hp) (Q:VK) (E:XK):Prop
 | mk (p:Addr) (F:Addr->Prop) (S:Sh):vs=[.ref p]->SheetAt K H p F S->2<=S.handed.length->(∀(l:Addr)(H':Hp),Same H H'->H l=none->H' l=some (.lst (S.decide.map V.str))->Q (.ref l) H')->zes K vs H Q E
theorem zjR(F:Fun K "deciders" "deciders" zdh f fd)(T:Txt K mg)(c0D:Can P w K mg base 8 "firsts" ["sheet"] (zeG K))(c0e:Can P w K mg base 2 "refuse_fewer_cards" zz (zG K))(c0B:Can P w K mg base 7 "firsts_of" zap (zbK K))(c0A:Can P w K mg base 3 "cards_without" yS (wx K))(c0:CanM P w K mg base 1 (zH K "Sheet") "couples" zy (zD K))(c0a:CanM P w K mg base 1 (zH K "Sheet") "handed" zQ (zZ K)):FnOk P w K mg base CX0 9 f fd ["sheet"] (zes K):=by
 refine F.ok zgC (λvs H Q E h=>?_) (λcdv A outer s H vs Q E hr h=>?_)
 ·obtain⟨p,F,S,rfl,_⟩:=h;rfl
 ·obtain⟨p,F,S,rfl,hSh,h2,q⟩:=h;refine⟨_,(zc (zP (zi c0e (hM hr) rfl (za (pv 0) (za zg zb))))
   (zc (zu (i:=1) zgC.nd rfl (Or.inr rfl) (zi c0D (hM hr) rfl (za (pv 0) zb)))
   (ze (zj (zL (show CompScope (zf zdh) ["sheet","now"] "judge" ["sheet","now"] [0,1] _ from csM) rfl (zx (zE c0a T.cl_Sheet (hM hr) (pv 0))) (λ_ _ _ _ _=>(yC (zm (yI (K:=K) rfl hr.units0) (zi c0B (hM hr) rfl (za (zi c0A (hM hr) rfl (za (pv 1) (za (pv 0) zb))) (za (zE c0 T.cl_Sheet (hM hr) (pv 1)) zb))) (pv 2) (zp _)))) (λ_ _ _ _ _=>(pv 0))))))),?_⟩
  have hln:=zt;have ok:=hSh.ok;have h15:S.handed.length<=15:=le_trans (length_filter_le _ _) ok.p15;have c24:=ok.c24;obtain⟨dx,b1,b2,b3,d,hip⟩:=hSh.ins;refine⟨_,rfl,p,F,S,2,rfl,hSh,by omega,λH1 s1=>?_⟩;refine⟨_,rfl,p,F,S,rfl,hSh.same s1,by omega,λl2 H2 s2 f2 e2=>?_⟩;have t2:=s1.trans s2;refine⟨_,rfl,p,dx,_,rfl,t2 _ _ hip,rfl,p,F,S,rfl,(hSh.same t2).shape,ok.p15,λl3 H3 s3 f3 e3=>?_⟩;have t3:=t2.trans s3;refine⟨l3,rfl,⟨_,SqL.of e3⟩,?_⟩;refine yV (xs:=S.handed.map V.str) (λi ys H4=>Same H3 H4/\ys=((S.handed.take i).filter λj => !Decidable.decide (wO (S.cardsWo j) S.couples=wO S.cardsIn S.couples)).map V.str) ⟨Same.refl _,rfl⟩ ?_ (by rw[length_map];omega) ?_ ?_
  ·rintro i ys H4 hi ⟨s4,rfl⟩;refine⟨s4.seq (SqL.of e3),?_⟩;rw[length_map];exact le_trans (length_filter_le _ _) (by rw[length_take];omega)
  ·rintro i x ys H4 hx ⟨s4,rfl⟩;obtain⟨hi,rfl⟩:=zca hx;have t4:=t3.trans s4;refine⟨_,rfl,_,rfl,p,F,S,_,rfl,hSh.same t4,λl5 H5 ks s5 f5 e5 r5=>?_⟩;have t5:=t4.trans s5;refine⟨_,rfl,p,dx,_,rfl,t5 _ _ hip,rfl,p,F,S,rfl,hSh.same t5,λl6 H6 s6 f6 e6=>?_⟩;have g1:=Sh.cardsWo_ge ok.pnd (S.handed.getD i "");have g2:=Sh.cardsWo_le S (S.handed.getD i "");refine⟨l5,l6,_,S.couples,rfl,⟨ks,SqL.of (s6 _ _ e5),r5.imp λ_ _=>IL.stays K _ _ _ _ s6⟩,SqL.of e6,ok.nd,Sh.cardsWo_perm ok _,by omega,by omega,ok.c1,by omega,λl7 H7 s7 f7 e7=>?_⟩;have u7:=((s4.trans s5).trans s6).trans s7;refine⟨_,rfl,l7,l2,_,_,rfl,rfl,SqL.of e7,SqL.of ((s3.trans u7) _ _ e2),zA _,zA _,_,rfl,?_⟩;rw[yH];refine yj (λhne=>?_) (λhe=>?_)
   ·refine⟨_,rfl,u7,?_⟩;rw[yp hi,filter_append,filter_cons,if_pos (by rw[decide_eq_false hne];rfl),map_append];rfl
   ·refine⟨u7,?_⟩;rw[yp hi,filter_append,filter_cons,if_neg (by rw[decide_eq_true he];decide),filter_nil,append_nil]
  ·rintro ys H4 ⟨s4,rfl⟩ l hl;rw[length_map,take_length]at *;have t4:=t3.trans s4;exact q l _ (t4.newT hl) (t4.free hl) zd
inductive zcs (K:Frag) (vs:List V) (H:Hp) (Q:VK) (E:XK):Prop
 | mk (a b:Addr) (ps us:List Int):vs=[.ref a,.ref b]->SqL K H a (ps.map V.int)->SqL K H b (us.map V.int)->ps.length=us.length->((∀k,k<us.length->1<=ps.getD k 0/\ps.getD k 0<=us.length))->1<=us.length->us.length<=24->LamS (zab K "by_place") zce H->(∀(l:Addr)(H':Hp)(ls:List Addr),SameN H H'->LamS (zab K "by_place") zce H'->H l=none->H' l=some (.lst (ls.map V.ref))->All2 (TPl K H') ls (M5.rows ps us)->Q (.ref l) H')->zcs K vs H Q E
theorem zjF(F:Fun K "by_place" "by_place" zaA f fd)(T:Txt K mg)(L:Lam K "by_place" f)(B:zfP mg base)(c0u:Can P w K mg base 7 "places" ["sheet"] (zc4 K)):FnOk P w K mg base CX0 11 f fd ["places","couples"] (zcs K):=by
 refine F.okC L zkc (λvs H Q E h=>?_) (λc A outer s H vs Q E hC hr h=>?_)
 ·obtain⟨a,b,ps,us,rfl,_⟩:=h;rfl
 ·obtain⟨a,b,ps,us,rfl,hA,hB,hl,hk,u1,u2,hT,q⟩:=h;refine⟨_,(ze (zj (pe_sortz2 rfl (hM hr) (by rfl) T.b_sorted (by rfl) T.b_zip rfl hC B ⟨rfl,rfl,rfl,by decide,rfl,by decide +kernel,by decide +kernel⟩ rfl (by decide) (by decide) rfl rfl (λ_ _ _ _ _ _=>rfl) (za (pv 0) (za (pv 1) zb))))),?_⟩;refine⟨_,rfl,_,rfl,a,b,ps,us.map V.int,rfl,hA,hB,by rw[length_map];exact hl,by omega,by omega,hT,λH2 ts l p sn ls pr hn hi=>?_⟩;rw[hl]at hi;have hm:∀i∈p.toList,i<us.length:=λi h=>by
   rw[M15.is_idx hi hk]at h;exact List.mem_range.mp ((M15.idx_mem _ _ hk i).mp h)
  have rr:=zkg (K:=K) hl pr p.toList hm;rw[M15.rows_of hl hk hi]at rr;refine q l _ (p.toList.map λi=>ts.getD i 0) (sn.trans (Same.new hn).toN) (ls.same (Same.new hn)) (sn.free hn) ?_ (rr.imp λ_ _=>TPl.stays K _ _ _ _ (Same.new hn));rw[map_map];exact zd
inductive zaV (K:Frag) (vs:List V) (H:Hp) (Q:VK) (E:XK):Prop
 | mk (a b:Addr) (cs:List (List Int)) (us:List Int):vs=[.ref a,.ref b]->Refs K (IL K) H a cs->SqL K H b (us.map V.int)->us.Nodup->((∀d∈cs,d.Perm us))->1<=cs.length->cs.length<=15->1<=us.length->us.length<=24->LamS (zab K "by_place") zce H->(∀(l:Addr)(H':Hp)(ls:List Addr),SameN H H'->LamS (zab K "by_place") zce H'->H l=none->H' l=some (.lst (ls.map V.ref))->All2 (TPl K H') ls (M5.rows (M6.zw cs us) us)->Q (.ref l) H')->zaV K vs H Q E
theorem zh3(F:Fun K "ranking_of" "ranking_of" zdR f fd)(T:Txt K mg)(c0j:Can P w K mg base 6 "places_of" yM (yY K))(c1b:Can P w K mg base 11 "by_place" ["places","couples"] (zcs K)):FnOk P w K mg base CX0 12 f fd wD (zaV K):=by
 refine F.ok zig (λvs H Q E h=>?_) (λcdv A outer s H vs Q E hr h=>?_)
 ·obtain⟨a,b,cs,us,rfl,_⟩:=h;rfl
 ·obtain⟨a,b,cs,us,rfl,hC,hU,hnd,hp,c1,c2,u1,u2,hT,q⟩:=h;refine⟨_,(ze (zj (zi c1b (hM hr) rfl (za (zi c0j (hM hr) rfl (za (pv 0) (za (pv 1) zb))) (za (pv 1) zb))))),?_⟩;refine⟨_,rfl,_,rfl,a,b,cs,us,rfl,hC,hU,hnd,hp,c1,c2,u1,u2,λl1 H1 s1 f1 e1=>?_⟩;refine⟨_,rfl,l1,b,M6.zw cs us,us,rfl,SqL.of e1,s1.seq hU,M6.yu cs us,M6.zkP cs us,u1,u2,hT.same s1,λl H' ls s2 z2 f2 e2 r2=>?_⟩;exact q l H' ls (s1.toN.trans s2) z2 (s1.toN.free f2) e2 r2
inductive zbU (K:Frag) (vs:List V) (H:Hp) (Q:VK) (E:XK):Prop
 | mk (a b:Addr) (cs:List (List Int)) (us:List Int):vs=[.ref a,.ref b]->Refs K (IL K) H a cs->SqL K H b (us.map V.int)->us.Nodup->((∀d∈cs,d.Perm us))->1<=cs.length->cs.length<=15->1<=us.length->us.length<=24->LamS (zab K "by_place") zce H->(∀(l:Addr)(H':Hp)(ls:List Addr),SameN H H'->LamS (zab K "by_place") zce H'->H l=none->H' l=some (.lst (ls.map V.ref))->All2 (F4 K H') ls (M6.za8 cs us)->Q (.ref l) H')->zbU K vs H Q E
theorem zg1(F:Fun K "partings_of" "partings_of" zaT f fd)(T:Txt K mg)(c0m:Can P w K mg base 2 "marks_of" wW (zbd K))(c0E:Can P w K mg base 12 "ranking_of" wD (zaV K))(c1c:Can P w K mg base 4 "parting_of" zaZ (zcO K)):FnOk P w K mg base CX0 13 f fd zaf (zbU K):=by
 refine F.ok yW (λvs H Q E h=>?_) (λcdv A outer s H vs Q E hr h=>?_)
 ·obtain⟨a,b,cs,us,rfl,_⟩:=h;rfl
 ·obtain⟨a,b,cs,us,rfl,hC,hU,hnd,hp,c1,c2,u1,u2,hT,q⟩:=h;refine⟨_,(zc (zd7 (i:=2) (show CompScope2 (zf zaT) zec "place" "couple" [] [] _ from csM2) rfl yW.nd rfl (Or.inl rfl) (zx (zi c0E (hM hr) rfl (za (pv 0) (za (pv 1) zb)))) (λ_ _ _ _ _=>yz) (λ_ _ _ _ _=>(pv 1)))
   (zc (zu (i:=3) yW.nd rfl (Or.inl rfl) (zI zb))
   (zc (yP PassesOwn.never rfl (pi_zip rfl T.b_zip (za (pv 2) (za (yw wj (pv 2) (yA zg) wf) zb))) (pg_tup rfl (zfG (zU (i:=4) yW.nd rfl (Or.inl rfl)) (zfG (zU (i:=5) yW.nd rfl (Or.inl rfl)) pgs_nil)))
     (zc (zu (i:=6) yW.nd rfl (Or.inl rfl) (zi c1c (hM hr) rfl (za (zi c0m (hM hr) rfl (za (pv 0) (za (pv 4) zb))) (za (zi c0m (hM hr) rfl (za (pv 0) (za (pv 5) zb))) zb))))
   (ze (zv (zm op_notN (pv 6) zgk (zp _)) (ze (zP (wF PySem.F.plainAttrs_list PySem.F.slot_list_append PySem.F.type_list_append yD (pv 3) (za (zb9 (za (pv 4) (za (pv 5) (za (zo yt (pv 6) zg (λ_ _=>rfl)) (za (zo yt (pv 6) zg (λ_ _=>rfl)) zb))))) zb)))) zq))))
   (ze (zj (pv 3)))))),?_⟩
  have hln:=zt;refine⟨_,rfl,_,rfl,a,b,cs,us,rfl,hC,hU,hnd,hp,c1,c2,u1,u2,hT,λl1 H1 ls s1 z1 f1 e1 r1=>?_⟩;refine⟨l1,rfl,⟨_,SqL.of e1⟩,?_⟩;have t1:=s1.same;have hC1:=hC.noT;have hmem:=λp (hp:p∈M5.rows (M6.zw cs us) us)=>M6.zfq hp;have hrl:=M5.rows_len (M6.zw cs us) us (M6.yu cs us);have hmul:us.length*us.length<=24*24:=mul_le_mul u2 u2;unfold M6.za8 at q;generalize M5.rows (M6.zw cs us) us=rs at r1 hrl hmem q;have hl1:=r1.length;refine zgA (xs:=ls.map V.ref) (λi ys H2=>Same H1 H2/\ys=((rs.take i).map λp=>p.2).map V.int) ⟨Same.refl _,rfl⟩ ?_ (by rw[length_map];omega) ?_ ?_
  ·rintro i ys H2 hi ⟨s2,rfl⟩;refine⟨s2.seq (SqL.of e1),?_⟩;rw[length_map,length_map,length_take];omega
  ·rintro i x ys H2 hx ⟨s2,rfl⟩;obtain⟨p,ep,rfl⟩:=zah hx;obtain⟨m,em,rm⟩:=r1.getL ep;refine⟨p,_,_,rfl,s2.seqT rm,_,rfl,s2,?_⟩;rw[take_succ,em,map_append,map_append];rfl
  ·rintro ys H2 ⟨s2,rfl⟩ l2 hl2;rw[length_map,hl1,take_length];generalize hH3:upd H2 l2 _=H3;have s23:Same H2 H3:=by rw[<-hH3];exact Same.new hl2
   have e3:H3 l2=some (.lst ((rs.map λp=>p.2).map V.int)):=by rw[<-hH3];exact zd
   have s13:=s2.trans s23;refine⟨by decide,λp4 hp4=>?_⟩;have e4:(upd H3 p4 (.lst [])) l2=some (.lst ((rs.map λp=>p.2).map V.int)):=(Same.new hp4) _ _ e3;refine⟨_,rfl,_,rfl,_,rfl,l2,_,rfl,SqL.of e4,λl5 hl5=>?_⟩;rw[zeM (by decide)];have s4:=Same.new (o:=.lst []) hp4;have s5:=Same.new (o:=.lst (((rs.map λp=>p.2).drop (1:Int).toNat).map V.int)) hl5;have n45:p4≠l5:=zn zd hl5;have e6:upd (upd H3 p4 (.lst [])) l5 (.lst (((rs.map λp=>p.2).drop (1:Int).toNat).map V.int)) p4=some (.lst (([]:List Addr).map V.ref)):=by rw[zh n45];exact zd
   have e5:upd (upd H3 p4 (.lst [])) l5 (.lst (((rs.map λp=>p.2).drop (1:Int).toNat).map V.int)) l5=some (.lst (((rs.map λp=>p.2).drop 1).map V.int)):=zd;have s36:=s4.trans s5;generalize hH6:upd (upd H3 p4 (.lst [])) l5 _=H6 at e6 e5 s36 ⊢;have hf5:H3 l5=none:=s4.free hl5;refine⟨l2,l5,_,_,rfl,SqL.of (s36 _ _ e3),SqL.of e5,?_⟩;refine for_zip (xs:=(rs.map λp=>p.2).map V.int) (ys:=((rs.map λp=>p.2).drop 1).map V.int) (λi σ H7=>∃(v4 v5 v6:Option V)(ms:List Addr),σ=[some (.ref a),some (.ref b),some (.ref l2),some (.ref p4),v4,v5,v6]/\Same H3 H7/\H7 l5=some (.lst (((rs.map λp=>p.2).drop 1).map V.int))/\H7 p4=some (.lst (ms.map V.ref))/\All2 (F4 K H7) ms (((rs.zip rs.tail).take i).filterMap λpq=>M6.nb cs us pq.1 pq.2)) ⟨_,_,_,[],rfl,s36,e5,e6,.nil⟩ ?_ ?_ ?_
   ·rintro i σ H7 hi ⟨v4,v5,v6,ms,rfl,s7,f5,f4,r7⟩;exact⟨SqL.of (s7 _ _ e3),SqL.of f5⟩
   ·rintro i x y t σ H7 hx hy hn ⟨v4,v5,v6,ms,rfl,s7,f5,f4,r7⟩;rw[getElem?_map,getElem?_map]at hx;rw[getElem?_map,List.getElem?_drop,getElem?_map,Nat.add_comm]at hy;cases ea:rs[i]? with
    | none=>rw[ea]at hx;cases hx
    | some pa =>
      cases eb:rs[i+1]? with
      | none=>rw[eb]at hy;cases hy
      | some pb =>
        rw[ea]at hx;rw[eb]at hy;cases hx;cases hy;have ez:(rs.zip rs.tail)[i]? = some (pa,pb):=by rw[List.getElem?_zip_eq_some];exact⟨ea,by rw[List.getElem?_tail];exact eb⟩
        obtain⟨ma1,ma2⟩:=hmem _ (mem_of_getElem? ea);obtain⟨mb1,mb2⟩:=hmem _ (mem_of_getElem? eb);have s8:=Same.new (o:=.tup [.int pa.2,.int pb.2]) hn;refine⟨t,_,rfl,SqT.new,rfl,_,_,rfl,_,_,rfl,rfl,?_⟩;have t8:=((t1.trans (s2.trans s23)).trans s7).trans s8;have f48:=s8 _ _ f4;have f58:=s8 _ _ f5;have r8:=r7.imp λ_ _=>F4.stays K _ _ _ _ s8;have s38:=s7.trans s8;generalize hH8:upd H7 t _=H8 at s8 t8 f48 f58 r8 s38 ⊢;refine⟨_,rfl,_,rfl,a,cs,_,rfl,hC1.same (IL.stays K) t8,by omega,λd hd=>(hp d hd).mem_iff.mpr ma1,λl9 H9 s9 f9 e9=>?_⟩;refine⟨_,rfl,_,rfl,a,cs,_,rfl,hC1.same (IL.stays K) (t8.trans s9),by omega,λd hd=>(hp d hd).mem_iff.mpr mb1,λl10 H10 s10 f10 e10=>?_⟩;have rng:∀d∈us,∀x∈M5.zl cs d,1<=x/\x<=24:=λd hd x hx=>by have:=M6.yx hp hd x hx;omega
        refine⟨l9,l10,_,_,rfl,SqL.of (s10 _ _ e9),SqL.of e10,by rw[M5.zX,M5.zX],by rw[M5.zX];omega,by rw[M5.zX];omega,rng _ ma1,rng _ mb1,λr hr v H11 s11 told=>?_⟩;have hnb:=M6.nb_part hp u1 u2 ma1 mb1 hr;rw[<-ma2,<-mb2]at hnb;have s811:=s9.trans (s10.trans s11);have f4':=s811 _ _ f48;have f5':=s811 _ _ f58;have r11:=r8.imp λ_ _=>F4.stays K _ _ _ _ s811;have s311:=s38.trans s811;cases r with
        | none =>
          have told:v=.non:=told;subst told;have ef:filterMap (λpq:(Int×Int)×(Int×Int)=>M6.nb cs us pq.1 pq.2) (some (pa,pb)).toList=[]:=by
           show filterMap _ [(pa,pb)]=_;rw[List.filterMap_cons_none (f:=λpq:(Int×Int)×(Int×Int)=>M6.nb cs us pq.1 pq.2) (a:=(pa,pb)) hnb,filterMap_nil]
          refine⟨_,rfl,rfl,_,rfl,iteNS rfl ?_⟩;refine⟨_,_,_,ms,rfl,s311,f5',f4',?_⟩;rw[take_succ,ez,List.filterMap_append,ef,append_nil];exact r11
        | some r =>
          obtain⟨l12,rfl,hT12⟩:=told;have ef:filterMap (λpq:(Int×Int)×(Int×Int)=>M6.nb cs us pq.1 pq.2) (some (pa,pb)).toList=[(pa.2,pb.2,(r.1:Int),r.2)]:=by
           show filterMap _ [(pa,pb)]=_;rw[List.filterMap_cons_some (f:=λpq:(Int×Int)×(Int×Int)=>M6.nb cs us pq.1 pq.2) (a:=(pa,pb)) hnb,filterMap_nil]
          refine⟨_,rfl,rfl,_,rfl,yj (λ_=>?_) (λz=>by cases z)⟩;refine⟨_,rfl,.inl ⟨rfl,_,SqL.of f4'⟩,_,rfl,_,rfl,_,rfl,l12,_,_,_,rfl,rfl,hT12,rfl,_,rfl,l12,_,_,_,rfl,rfl,hT12,rfl,(by show 4<=sizeLine;decide),λp13 hp13=>?_⟩;have s13:=Same.new (o:=.tup [.int pa.2,.int pb.2,.int (r.1:Nat),.str r.2]) hp13;have hl2:=r7.length;have hfl:=List.length_filterMap_le (λpq:(Int×Int)×(Int×Int)=>M6.nb cs us pq.1 pq.2) ((rs.zip rs.tail).take i);rw[length_take,length_zip]at hfl;refine⟨p4,_,_,rfl,rfl,s13 _ _ f4',by rw[length_map];omega,?_⟩;refine⟨_,_,_,ms++[p13],rfl,(s311.trans s13).put hp4,by rw[zh (Ne.symm n45)];exact s13 _ _ f5',zhc ms p13,?_⟩;rw[take_succ,ez,List.filterMap_append,ef];refine All2.snoc (F4.put (r11.imp λ_ _=>F4.stays K _ _ _ _ s13) (s13 _ _ f4')) ?_;exact SqT.put (ys:=ms.map V.ref) SqT.new (s13 _ _ f4')
   ·rintro σ H7 ⟨v4,v5,v6,ms,rfl,s7,f5,f4,r7⟩;rw[length_map,length_map,length_map,length_drop,length_map,take_of_length_le (by rw[length_zip,length_tail];omega)]at r7;refine⟨_,rfl,q p4 H7 ms ?_ (z1.same (s13.trans s7)) ?_ f4 r7⟩
    ·exact s1.trans (Same.toN (s13.trans s7))
    ·exact s1.free (s13.free hp4)
inductive zdL (K:Frag) (vs:List V) (H:Hp) (Q:VK) (E:XK):Prop
 | mk (p:Addr) (F:Addr->Prop) (S:Sh):vs=[.ref p]->SheetAt K H p F S->1<=S.handed.length->LamS (zab K "by_place") zce H->(∀(l:Addr)(H':Hp)(ls:List Addr),SameN H H'->LamS (zab K "by_place") zce H'->H l=none->H' l=some (.lst (ls.map V.ref))->All2 (TPl K H') ls (M5.rows (M6.zw S.cardsIn S.couples) S.couples)->Q (.ref l) H')->zdL K vs H Q E
theorem ok_ranking(F:Fun K "ranking" "ranking" zfU f fd)(T:Txt K mg)(c0E:Can P w K mg base 12 "ranking_of" wD (zaV K))(c0e:Can P w K mg base 2 "refuse_fewer_cards" zz (zG K))(c0:CanM P w K mg base 1 (zH K "Sheet") "couples" zy (zD K))(c0d:CanM P w K mg base 3 (zH K "Sheet") "cards" yh (yn K)):FnOk P w K mg base CX0 13 f fd ["sheet"] (zdL K):=by
 refine F.ok zk1 (λvs H Q E h=>?_) (λcdv A outer s H vs Q E hr h=>?_)
 ·obtain⟨p,F,S,rfl,_⟩:=h;rfl
 ·obtain⟨p,F,S,rfl,hSh,h1,hT,q⟩:=h;refine⟨_,(zc (zP (zi c0e (hM hr) rfl (za (pv 0) (za zg zb))))
   (ze (zj (zi c0E (hM hr) rfl (za (zE c0d T.cl_Sheet (hM hr) (pv 0)) (za (zE c0 T.cl_Sheet (hM hr) (pv 0)) zb)))))),?_⟩
  have ok:=hSh.ok;have h15:S.handed.length<=15:=le_trans (length_filter_le _ _) ok.p15;have c24:=ok.c24;obtain⟨dx,b1,b2,b3,d,hip⟩:=hSh.ins;refine⟨_,rfl,p,F,S,1,rfl,hSh,by omega,λH1 s1=>?_⟩;refine⟨_,rfl,p,dx,_,rfl,s1 _ _ hip,rfl,p,F,S,rfl,hSh.same s1,λl2 H2 ls s2 f2 e2 r2=>?_⟩;have t2:=s1.trans s2;refine⟨_,rfl,p,dx,_,rfl,t2 _ _ hip,rfl,p,F,S,rfl,hSh.same t2,λl3 H3 s3 f3 e3=>?_⟩;have t3:=t2.trans s3;refine⟨l2,l3,S.cardsIn,S.couples,rfl,⟨ls,SqL.of (s3 _ _ e2),r2.imp λ_ _ z=>SqL.of (s3 _ _ z.2)⟩,SqL.of e3,ok.nd,Sh.cardsIn_perm ok,by rw[Sh.cardsIn_len];exact h1,by rw[Sh.cardsIn_len];exact h15,ok.c1,by omega,hT.same t3,λl4 H4 ls4 s4 z4 f4 e4 r4=>?_⟩;exact q l4 H4 ls4 (t3.toN.trans s4) z4 (t3.free f4) e4 r4
inductive zer (K:Frag) (vs:List V) (H:Hp) (Q:VK) (E:XK):Prop
 | mk (p:Addr) (F:Addr->Prop) (S:Sh):vs=[.ref p]->SheetAt K H p F S->1<=S.handed.length->LamS (zab K "by_place") zce H->(∀(l:Addr)(H':Hp)(ls:List Addr),SameN H H'->LamS (zab K "by_place") zce H'->H l=none->H' l=some (.lst (ls.map V.ref))->All2 (F4 K H') ls (M6.za8 S.cardsIn S.couples)->Q (.ref l) H')->zer K vs H Q E
theorem zkq(F:Fun K "partings" "partings" ze1 f fd)(T:Txt K mg)(c1d:Can P w K mg base 13 "partings_of" zaf (zbU K))(c0e:Can P w K mg base 2 "refuse_fewer_cards" zz (zG K))(c0:CanM P w K mg base 1 (zH K "Sheet") "couples" zy (zD K))(c0d:CanM P w K mg base 3 (zH K "Sheet") "cards" yh (yn K)):FnOk P w K mg base CX0 14 f fd ["sheet"] (zer K):=by
 refine F.ok zka (λvs H Q E h=>?_) (λcdv A outer s H vs Q E hr h=>?_)
 ·obtain⟨p,F,S,rfl,_⟩:=h;rfl
 ·obtain⟨p,F,S,rfl,hSh,h1,hT,q⟩:=h;refine⟨_,(zc (zP (zi c0e (hM hr) rfl (za (pv 0) (za zg zb))))
   (ze (zj (zi c1d (hM hr) rfl (za (zE c0d T.cl_Sheet (hM hr) (pv 0)) (za (zE c0 T.cl_Sheet (hM hr) (pv 0)) zb)))))),?_⟩
  have ok:=hSh.ok;have h15:S.handed.length<=15:=le_trans (length_filter_le _ _) ok.p15;have c24:=ok.c24;obtain⟨dx,b1,b2,b3,d,hip⟩:=hSh.ins;refine⟨_,rfl,p,F,S,1,rfl,hSh,by omega,λH1 s1=>?_⟩;refine⟨_,rfl,p,dx,_,rfl,s1 _ _ hip,rfl,p,F,S,rfl,hSh.same s1,λl2 H2 ls s2 f2 e2 r2=>?_⟩;have t2:=s1.trans s2;refine⟨_,rfl,p,dx,_,rfl,t2 _ _ hip,rfl,p,F,S,rfl,hSh.same t2,λl3 H3 s3 f3 e3=>?_⟩;have t3:=t2.trans s3;refine⟨l2,l3,S.cardsIn,S.couples,rfl,⟨ls,SqL.of (s3 _ _ e2),r2.imp λ_ _ z=>SqL.of (s3 _ _ z.2)⟩,SqL.of e3,ok.nd,Sh.cardsIn_perm ok,by rw[Sh.cardsIn_len];exact h1,by rw[Sh.cardsIn_len];exact h15,ok.c1,by omega,hT.same t3,λl4 H4 ls4 s4 z4 f4 e4 r4=>?_⟩;exact q l4 H4 ls4 (t3.toN.trans s4) z4 (t3.free f4) e4 r4
inductive zhe (K:Frag) (vs:List V) (H:Hp) (Q:VK) (E:XK):Prop
 | mk (x:Addr) (F:Addr->Prop) (S:Sh):vs=[.ref x]->SheetAt K H x F S->1<=S.handed.length->LamS (zab K "by_place") zce H->(∀(l:Addr)(H':Hp),SameN H H'->LamS (zab K "by_place") zce H'->H l=none->H' l=some (.lst ((M6.zas S.cardsIn S.couples).map V.str))->Q (.ref l) H')->zhe K vs H Q E
theorem ok_table(F:Fun K "table" "table" zgU f fd)(T:Txt K mg)(c0F:Can P w K mg base 13 "ranking" ["sheet"] (zdL K))(c0C:Can P w K mg base 4 "row_text" za1 (zcm K)):FnOk P w K mg base CX0 14 f fd ["sheet"] (zhe K):=by
 refine F.ok sc_table (λvs H Q E h=>?_) (λcdv A outer s H vs Q E hr h=>?_)
 ·obtain⟨x,F,S,rfl,_⟩:=h;rfl
 ·obtain⟨x,F,S,rfl,hSh,h1,hL,q⟩:=h;refine⟨_,(ze (zj (zjI (show CompScope2 (zf zgU) ["sheet"] "place" "couple" ["sheet"] [0] _ from csM2) rfl (zx (zi c0F (hM hr) rfl (za (pv 0) zb))) (λ_ _ _ _ _=>yz) (λ_ _ _ _ _=>(zi c0C (hM hr) rfl (za (pv 2) (za (pv 0) (za (pv 1) zb)))))))),?_⟩;have hln:=zt;have ok:=hSh.ok;have c24:=ok.c24;refine⟨_,rfl,x,F,S,rfl,hSh,h1,hL,λl1 H1 ls s1 z1 f1 e1 r1=>?_⟩;obtain⟨F1,hF1,g1⟩:=hSh.sameN s1;have hrl:=M5.rows_len (M6.zw S.cardsIn S.couples) S.couples (M6.yu _ _);have hmul:S.couples.length*S.couples.length<=24*24:=mul_le_mul (by omega) (by omega);refine⟨l1,rfl,⟨_,SqL.of e1⟩,?_⟩;refine ze6 (f:=λp=>M6.zjr p.1 p.2 (M5.zl S.cardsIn p.2) S.couples.length) (SqL.of e1) r1 (by omega) (λp H' R hp s' h=>?_) λH2 s2=>?_
  ·obtain⟨m1,m2⟩:=M6.zfq hp;have hb:p.1.natAbs<=990:=by
    rw[m2];unfold M6.yG;have:=length_filter_le (λd=>M6.zV (M5.zl S.cardsIn d) (M5.zl S.cardsIn p.2) S.couples.length) S.couples;omega
   exact⟨_,rfl,_,rfl,_,rfl,x,F1,S,p.1,p.2,rfl,g1.same s',m1,hb,λH2 s2=>h H2 s2⟩
  ·intro l2 hl2;exact q l2 _ (s1.trans (s2.newT hl2).toN) (z1.same (s2.newT hl2)) (s1.free (s2.free hl2)) zd
inductive zcC (K:Frag) (vs:List V) (H:Hp) (Q:VK) (E:XK):Prop
 | mk (x n u k:Addr) (F:Addr->Prop) (S:Sh) (kl:List Addr) (who:Nat) (sp:Int):vs=[.ref x,.ref n,.ref u,.ref k,.int who,.int sp]->SheetAt K H x F S->H n=some (.lst (S.panel.map V.str))->H u=some (.lst (S.couples.map V.int))->H k=some (.lst (kl.map V.ref))->(All2 (λl c=>H l=some (.lst (c.map V.int))) kl S.rows)->who<S.panel.length->1<=S.handed.length->LamS (zab K "by_place") zce H->(∀H',SameN H H'->LamS (zab K "by_place") zce H'->Q (.bl true) H')->zcC K vs H Q E
theorem zkm(F:Fun K "_law_told" "_law_told" zaE f fd)(T:Txt K mg)(c0u:Can P w K mg base 7 "places" ["sheet"] (zc4 K))(c0F:Can P w K mg base 13 "ranking" ["sheet"] (zdL K))(c0D:Can P w K mg base 8 "firsts" ["sheet"] (zeG K))(c1e:Can P w K mg base 14 "partings" ["sheet"] (zer K))(c1f:Can P w K mg base 7 "left_out" zcy (zea K))(c1g:Can P w K mg base 9 "deciders" ["sheet"] (zes K))(c1h:Can P w K mg base 7 "step_up" zdw (ze5 K))(c1i:Can P w K mg base 8 "table_row" zbN (zdn K))(c1j:Can P w K mg base 14 "table" ["sheet"] (zhe K))(c0f:Can P w K mg base 1 "_law_whole" yL (y7 K))(c0h:Can P w K mg base 2 "_law_same" wZ (za0 K))(c0q:Can P w K mg base 1 "_law_texts" zat (zbP K))(c1k:Can P w K mg base 2 "_law_pairs" zby (zdt K))(c1l:Can P w K mg base 2 "_law_fours" zbI (zdb K))(c0p:Can P w K mg base 2 "_law_spots" zaj (zbB K))(c0s:Can P w K mg base 1 "_law_rows" za2 (zcB K))(c1m:Can P w K mg base 2 "_law_parts" zbx (zdg K))(c1n:Can P w K mg base 2 "_law_line" zcD (zed K))(c0t:Can P w K mg base 3 "_law_firsts" wE (zaM K))(c1o:Can P w K mg base 4 "_law_deciding" wP (zbl K))(c1p:Can P w K mg base 1 "_law_moved" zbJ (zdq K)):FnOk P w K mg base CX0 15 f fd za5 (zcC K):=by
 refine F.ok yK (λvs H Q E h=>?_) (λcdv A outer s H vs Q E hr h=>?_)
 ·obtain⟨x,n,u,k,F,S,kl,who,sp,rfl,_⟩:=h;rfl
 ·obtain⟨x,n,u,k,F,S,kl,who,sp,rfl,hSh,hN,hU,hK,rK,hw,hh1,hL,q⟩:=h;refine⟨_,(zc (zu (i:=6) yK.nd rfl (Or.inr rfl) (zL (show CompScope (zf zaE) zcv "_law_card_here" [] [] _ from csM) rfl (zx (pv 3)) (λ_ _ _ _ _=>(yC (zm (yI (K:=K) rfl hr.units0) (pv 0) (zI zb) (zp _)))) (λ_ _ _ _ _=>(pv 0))))
   (zc (zu (i:=7) yK.nd rfl (Or.inl rfl) (zi c0p (hM hr) rfl (za (pv 6) (za (pv 2) zb))))
   (zc (zv (PW.pt (zax (zJ (zF (zi c0h (hM hr) rfl (za (zi c0u (hM hr) rfl (za (pv 0) zb)) (za (pv 7) zb))))) (we (zJ (zF (zi c1k (hM hr) rfl (za (zi c0F (hM hr) rfl (za (pv 0) zb)) (za (zi c0s (hM hr) rfl (za (pv 7) (za (pv 2) zb))) zb)))))))) (ze (zj zY)) zq)
   (zc (zv (zJ (zF (zi c1l (hM hr) rfl (za (zi c1e (hM hr) rfl (za (pv 0) zb)) (za (zi c1m (hM hr) rfl (za (pv 6) (za (pv 2) (za (pv 7) zb)))) zb))))) (ze (zj zY)) zq)
   (zc (zv (zJ (zF (zi c0h (hM hr) rfl (za (zi c0D (hM hr) rfl (za (pv 0) zb)) (za (zi c0t (hM hr) rfl (za (pv 6) (za (pv 2) zb))) zb))))) (ze (zj zY)) zq)
   (zc (zcK (zv (zm zfr (ya T.b_len (pv 2)) zg (zp _)) (zc (zu (i:=8) yK.nd rfl (Or.inl rfl) (zi c0s (hM hr) rfl (za (pv 7) (za (pv 2) zb))))
   (zc (zd7 (i:=9) (show CompScope2 (zf zaE) zcv "_law_place" "_law_couple" ["_law_couples_here","_law_into"] [2,6] _ from csM2) rfl yK.nd rfl (Or.inl rfl) (zx (pv 8)) (λ_ _ _ _ _=>yz) (λ_ _ _ _ _=>(zi c1n (hM hr) rfl (za (pv 0) (za (pv 1) (za (pv 3) (za (pLenK (K:=K) rfl T.b_len (pv 2)) zb)))))))
   (zc (zu (i:=10) yK.nd rfl (Or.inl rfl) (zr yq (pv 5) (ya T.b_len (pv 8))))
   (ze (zv (zJ (zF (zi c0q (hM hr) rfl (za (zr wd (zi c1j (hM hr) rfl (za (pv 0) zb)) (zI (za (zi c1i (hM hr) rfl (za (pv 0) (za (zo yt (zo zk (pv 8) (pv 10) (λ_ _=>rfl)) zg (λ_ _=>rfl)) zb))) zb))) (za (zr wd (pv 9) (zI (za (zo zk (pv 9) (pv 10) (λ_ _=>rfl)) zb))) zb))))) (ze (zj zY)) zq))))) zq))
   (zc (zcK (zv (PW.pt (zbZ (zm zfr zg (ya T.b_len (pv 6)) (zp _)) (zbv (zm zfr (ya T.b_len (pv 6)) zg (zp _))))) (ze (zv (zJ (zF (zi c0q (hM hr) rfl (za (zi c1g (hM hr) rfl (za (pv 0) zb)) (za (zi c1o (hM hr) rfl (za (pv 1) (za (pv 3) (za (pv 2) zb)))) zb))))) (ze (zj zY)) zq)) zq))
   (zc (zcK (zv (PW.pt (zbZ (zm zgp (ya T.b_len (pv 6)) zg (zp _)) (zbv (zm (zay hr.units0) (zo zk (pv 3) (pv 4) (λ_ _=>rfl)) (zI zb) (zp _))))) (zc (y6 (i:=11) (show CompScope (zf zaE) zcv "_law_card_here" [] [] _ from csM) rfl yK.nd rfl (Or.inl rfl) (zx (zr wd (yw wj (pv 3) wf (yA (pv 4))) (yw wj (pv 3) (yA (zr yf (pv 4) zg)) wf))) (λ_ _ _ _ _=>(yC (zm (yI (K:=K) rfl hr.units0) (pv 0) (zI zb) (zp _)))) (λ_ _ _ _ _=>(pv 0)))
   (ze (zv (zJ (zF (zi c0h (hM hr) rfl (za (zi c1f (hM hr) rfl (za (pv 0) (za (zo zk (pv 1) (pv 4) (λ_ _=>rfl)) zb))) (za (zi c0p (hM hr) rfl (za (pv 11) (za (pv 2) zb))) zb))))) (ze (zj zY)) zq))) zq))
   (zc (zv (zm zfr (ya T.b_len (zo zk (pv 3) (pv 4) (λ_ _=>rfl))) zg (zp _)) (ze (zj zY)) zq)
   (zc (zu (i:=12) yK.nd rfl (Or.inl rfl) (zr yf zg (zr yq (pv 5) (zr zds (ya T.b_len (pv 2)) zg))))
   (zc (zu (i:=13) yK.nd rfl (Or.inl rfl) (zi c1h (hM hr) rfl (za (pv 0) (za (zo zk (pv 1) (pv 4) (λ_ _=>rfl)) (za (zo zk (zo zk (pv 3) (pv 4) (λ_ _=>rfl)) (pv 12) (λ_ _=>rfl)) zb)))))
   (zc (zv (PW.pt (zax (zJ (zF (zB zbY (by rfl) T.b_isinstance boot_isinstance (za (pv 13) (za (wz (v:=V.ty "tuple") rfl T.b_tuple boot_tuple rfl) zb))))) (we (zm yQ (ya T.b_len (pv 13)) zg (zp _))))) (ze (zj zY)) zq)
   (zc (zv (PW.pt (zax (zJ (zF (zi c0f (hM hr) rfl (za (zo yt (pv 13) zg (λ_ _=>rfl)) zb)))) (we (zm yQ (zo yt (pv 13) zg (λ_ _=>rfl)) (zo zk (zo zk (pv 3) (pv 4) (λ_ _=>rfl)) (zr zds (pv 12) zg) (λ_ _=>rfl)) (zp _))))) (ze (zj zY)) zq)
   (ze (zj (zi c0h (hM hr) rfl (za (zo yt (pv 13) zg (λ_ _=>rfl)) (za (zi c0p (hM hr) rfl (za (zi c1p (hM hr) rfl (za (pv 3) (za (pv 4) (za (pv 12) zb)))) (za (pv 2) zb))) zb)))))))))))))))))),?_⟩
  have hln:=zt;have ok:=hSh.ok;have c24:=ok.c24;have c1:=ok.c1;have hin:=Sh.cardsIn_rows ok;have hip:=Sh.cardsIn_perm ok;have hil:=Sh.cardsIn_len S;have hhl:=Sh.handed_len ok;have h15:S.handed.length<=15:=le_trans (length_filter_le _ _) ok.p15;have hrl7:=rK.length;have hrw:=Sh.rows_len S;have p15:=ok.p15;have hone:∀i,i<S.panel.length->S.rows.getD i []≠[]->S.card (S.panel.getD i "")=some (S.rows.getD i []):=λi hi hne=>by
   have e:=S.rows_at hi;cases hc:S.card (S.panel.getD i "")with
   | none=>rw[hc]at e;exact absurd e hne
   | some d=>rw[hc]at e;rw[e];rfl
  have hcd:∀d∈S.rows,d=[]\/d.Perm S.couples:=λd hd=>by
   obtain⟨j,_,rfl⟩:=List.mem_map.mp hd;cases e:S.card j with
   | none=>exact .inl rfl
   | some c=>exact .inr (ok.cd j c e).2
  refine⟨_,rfl,k,rfl,⟨_,SqL.of hK⟩,?_⟩;refine zaF (SqL.of hK) (rK.imp λ_ _ z=>SqL.of z) (by omega) (λm d H' Q hm h=>?_) (λm H' Q h=>⟨_,rfl,h⟩) λks H8 s8 r8=>?_
  ·refine⟨_,rfl,(by show 0<=sizeLine;decide),λl13 hl13=>?_⟩;have s13:=Same.new (o:=.lst []) hl13;refine⟨m,l13,_,[],rfl,rfl,s13.seq hm,SqL.new,zA _,rfl,_,rfl,?_⟩;rw[show eqL (d.map V.int) []=decide (d=[])from yH _ []];exact h _ s13
  rw[<-hin]at r8;intro li hli;have s9:=s8.newT (o:=.lst (ks.map V.ref)) hli;have e9:upd H8 li (.lst (ks.map V.ref)) li=some (.lst (ks.map V.ref)):=zd;have r9:=r8.imp λ_ _=>IL.stays K _ _ _ _ (Same.new (o:=.lst (ks.map V.ref)) hli);generalize hH9':upd H8 li _=H9' at s9 e9 r9 ⊢;have hkl:ks.length=S.handed.length:=by rw[r8.length,hil]
  have hall:∀u∈S.couples,∀d∈S.cardsIn,u∈d:=λu hu d hd=>(hip d hd).mem_iff.mpr hu;generalize hvs:S.couples=vs at hU hip hall c1 c24 hcd;have hvn:vs.Nodup:=by rw[<-hvs];exact ok.nd
  have hvr:∀c∈vs,1<=c/\c<=999:=by rw[<-hvs];exact ok.rng
  refine⟨_,rfl,_,rfl,li,u,S.cardsIn,vs,rfl,⟨ks,SqL.of e9,r9⟩,SqL.of (s9 _ _ hU),by omega,by omega,hall,λlsp H9 s10 f10 e10=>?_⟩;rw[M6.zbE hip (by omega)]at e10;have hpl:=M6.yu S.cardsIn vs;have t9:=s9.trans s10;have e99:=s10 _ _ e9;have r99:=r9.imp λ_ _=>IL.stays K _ _ _ _ s10;have U9:=t9 _ _ hU;have N9:=t9 _ _ hN;have K9:=t9 _ _ hK;have rK9:=rK.imp fun(l:Addr) (c:List Int) (z:H l=some (.lst (c.map V.int)))=>t9 _ _ z;have L9:=hL.same t9;have g9:=hSh.same t9;clear s9 e9 r9 s10 f10 s8 r8 hH9';have hrl:=M5.rows_len (M6.zw S.cardsIn vs) vs hpl;have hmul:vs.length*vs.length<=24*24:=mul_le_mul (by omega) (by omega);refine⟨_,rfl,x,F,S,rfl,g9,hh1,λl1 H10 s1 f1 e1=>?_⟩;rw[hvs]at e1;refine⟨_,rfl,l1,lsp,_,_,rfl,SqL.of e1,SqL.of (s1 _ _ e10),by omega,?_⟩;rw[decide_eq_true rfl];refine⟨_,rfl,yl ?_⟩;refine⟨_,rfl,x,F,S,rfl,g9.same s1,hh1,L9.same s1,λl2 H11 k2 s2 z2 f2 e2 r2=>?_⟩;rw[hvs]at r2;obtain⟨F11,_,g11⟩:=(g9.same s1).sameN s2;have t11:SameN H9 H11:=s1.toN.trans s2;refine⟨_,rfl,_,rfl,lsp,u,_,vs,rfl,SqL.of (t11.lst e10),SqL.of (t11.lst U9),hpl,by omega,λl3 H12 k3 s3 f3 e3 r3=>?_⟩;refine⟨l2,l3,_,rfl,⟨k2,SqL.of (s3 _ _ e2),r2.imp λ_ _=>TPl.stays K _ _ _ _ s3⟩,⟨k3,SqL.of e3,r3⟩,by omega,?_⟩;refine⟨_,rfl,yl ?_⟩;refine⟨_,rfl,x,F11,S,rfl,g11.same s3,hh1,z2.same s3,λl4 H13 k4 s4 z4 f4 e4 r4=>?_⟩;rw[hvs]at r4;obtain⟨F13,_,g13⟩:=(g11.same s3).sameN s4;have t13:=(t11.trans s3.toN).trans s4;have rc13:All2 (IL K H13) ks S.cardsIn:=r99.sameN t13;refine⟨_,rfl,_,rfl,_,rfl,li,u,lsp,S.cardsIn,vs,rfl,⟨ks,SqL.of (t13.lst e99),rc13⟩,SqL.of (t13.lst U9),SqL.of (t13.lst e10),by omega,by omega,hall,λl5 H14 k5 s5 f5 e5 r5=>?_⟩;have hpp:=M6.zjg S.cardsIn vs;refine⟨l4,l5,_,rfl,⟨k4,SqL.of (s5 _ _ e4),r4.imp λ_ _=>F4.stays K _ _ _ _ s5⟩,⟨k5,SqL.of e5,r5⟩,by omega,?_⟩;refine⟨_,rfl,yl ?_⟩;have t14:=t13.trans s5.toN;refine⟨_,rfl,x,F13,S,rfl,g13.same s5,hh1,λl6 H15 s6 f6 e6=>?_⟩;rw[hvs]at e6;have t15:=t14.trans s6.toN;have rc15:All2 (IL K H15) ks S.cardsIn:=r99.sameN t15;refine⟨_,rfl,_,rfl,li,u,S.cardsIn,vs,rfl,⟨ks,SqL.of (t15.lst e99),rc15⟩,SqL.of (t15.lst U9),hip,by omega,by omega,by omega,λl7 H16 s7 f7 e7=>?_⟩;have hfl:(wO S.cardsIn vs).length<=24:=le_trans (zee _ _ _) (by omega);refine⟨l6,l7,_,_,rfl,SqL.of (s7 _ _ e6),SqL.of e7,by omega,?_⟩;rw[decide_eq_true rfl];refine⟨_,rfl,yl ?_⟩;have t16:=t15.trans s7.toN;have g16:=(g13.same s5).same (s6.trans s7);have z16:=(z4.same s5).same (s6.trans s7);clear e1 e2 r2 e3 r3 e4 r4 e5 r5 e6 e7 f1 f2 f3 f4 f5 f6 f7;refine⟨λσ' H'=>∃(v8 v9 v10:Option V)(F':Addr->Prop),σ'=[some (.ref x),some (.ref n),some (.ref u),some (.ref k),some (.int who),some (.int sp),some (.ref li),some (.ref lsp),v8,v9,v10,none,none,none]/\SameN H9 H'/\LamS (zab K "by_place") zce H'/\SheetAt K H' x F' S,?_,?_⟩
  ·refine⟨_,rfl,u,_,rfl,.inl (SqL.of (t16.lst U9)),_,_,rfl,rfl,_,rfl,yB (λ_=>?_) (λ_=>⟨_,_,_,F13,rfl,t16,z16,g16⟩)⟩;refine⟨_,rfl,_,rfl,lsp,u,_,vs,rfl,SqL.of (t16.lst e10),SqL.of (t16.lst U9),hpl,by omega,λlr H17 kr s8 f8 e8 r8=>?_⟩;have hrm:=λp (hp:p∈M5.rows (M6.zw S.cardsIn vs) vs)=>M6.zfq hp;have hrne:M5.rows (M6.zw S.cardsIn vs) vs≠[]:=M6.rows_ne (by intro z;rw[z]at c1;simp at c1);have hTd:M6.zas S.cardsIn vs=(M5.rows (M6.zw S.cardsIn vs) vs).map λp=>M6.zjr p.1 p.2 (M5.zl S.cardsIn p.2) vs.length:=rfl;generalize M5.rows (M6.zw S.cardsIn vs) vs=rs at r8 hrl hrm hrne hTd;have hrs1:0<rs.length:=List.length_pos_iff.mpr hrne;have hpb:∀p∈rs,p.1.natAbs<=990:=λp hp=>by
    rw[(hrm p hp).2];unfold M6.yG;have:=length_filter_le (λd=>M6.zV (M5.zl S.cardsIn d) (M5.zl S.cardsIn p.2) vs.length) vs;omega
   have t17:=t16.trans s8.toN;have i17:=t17.lst e99;have U17:=t17.lst U9;have rc17:All2 (IL K H17) ks S.cardsIn:=r99.sameN t17;refine⟨_,rfl,lr,rfl,⟨_,SqL.of e8⟩,?_⟩;refine ze6 (f:=λp=>M6.zjr p.1 p.2 (M5.zl S.cardsIn p.2) vs.length) (SqL.of e8) r8 (by omega) (λp H' R hp s' h=>?_) λH18 s9=>?_
   ·obtain⟨m1,m2⟩:=hrm p hp;have hcr:=hvr _ m1;refine⟨_,rfl,_,rfl,_,rfl,_,rfl,u,_,rfl,.inl (SqL.of (s' _ _ U17)),?_⟩;rw[length_map];exact⟨p.1,p.2,li,S.cardsIn,vs.length,rfl,⟨ks,SqL.of (s' _ _ i17),rc17.imp λ_ _=>IL.stays K _ _ _ _ s'⟩,by omega,hall _ m1,λy hy=>(by have:=M6.yx hip m1 y hy;omega),by omega,hpb p hp,by omega,λH2 s2=>h H2 s2⟩
   rw[<-hTd];intro ln hln';have s10:=s9.newT (o:=.lst ((M6.zas S.cardsIn vs).map V.str)) hln';have e10':upd H18 ln (.lst ((M6.zas S.cardsIn vs).map V.str)) ln=some (.lst ((M6.zas S.cardsIn vs).map V.str)):=zd;generalize hH19:upd H18 ln _=H19 at s10 e10' ⊢;have hTl:(M6.zas S.cardsIn vs).length=rs.length:=by rw[hTd,length_map]
   have e8':=s10 _ _ e8;have r8':=r8.imp λ_ _=>TPl.stays K _ _ _ _ s10;have hkr:=r8.length;refine⟨_,rfl,_,rfl,lr,_,rfl,.inl (SqL.of e8'),?_⟩;rw[length_map,hkr];refine⟨_,_,rfl,rfl,(by show(0:Int)<rs.length;omega),?_⟩;dsimp only;have q0:=Int.emod_nonneg sp (b:=(rs.length:Int)) (by omega);have q1:=Int.emod_lt_of_pos sp (b:=(rs.length:Int)) (by omega);generalize sp%(rs.length:Int)=pk at q0 q1 ⊢;obtain⟨pk,rfl⟩:=Int.eq_ofNat_of_zero_le q0;have hpk:pk<rs.length:=by omega
   have t19:=s8.trans s10;refine⟨_,rfl,x,F13,S,rfl,g16.same t19,hh1,z16.same t19,λlt H20 s11 z20 f11 e11=>?_⟩;rw[hvs]at e11;obtain⟨F20,_,g20⟩:=(g16.same t19).sameN s11;have rr20:=TPl.sameN s11 r8';obtain⟨t,et,rt⟩:=rr20.get (getElem?_eq_getElem hpk);have at1:atI (kr.map V.ref) (pk:Int)=some (.ref t):=zN (yR et);obtain⟨m1,m2⟩:=hrm _ (getElem_mem hpk);have atd:atI ((M6.zas S.cardsIn vs).map V.str) (pk:Int)=some (.str (M6.zjr (rs[pk]).1 (rs[pk]).2 (M5.zl S.cardsIn (rs[pk]).2) vs.length)):=by
    refine zN ?_;rw[hTd,map_map,getElem?_map,getElem?_eq_getElem hpk];rfl
   generalize rs[pk]=pr at rt m1 m2 atd;have rt:SqT K H20 t [.int pr.1,.int pr.2]:=rt;refine⟨_,rfl,_,rfl,_,rfl,lr,_,_,_,rfl,rfl,SqL.of (s11.lst e8'),at1,t,_,_,_,rfl,rfl,rt,rfl,x,F20,S,pr.2,rfl,g20,hh1,by rw[hvs];exact m1,λH21 s12=>?_⟩;rw[hvs];have e:M6.plc S.cardsIn vs pr.2=pr.1:=m2.symm;rw[e];generalize M6.zjr pr.1 pr.2 (M5.zl S.cardsIn pr.2) vs.length=tx at atd ⊢;refine⟨(by show 1<=sizeLine;decide),λla hla=>?_⟩;have s13:=Same.new (o:=.lst [.str tx]) hla;refine⟨lt,la,_,[.str tx],rfl,rfl,s13 _ _ (s12 _ _ e11),zd,by rw[length_map,hTl];simp only[length_cons,length_nil];omega,λlb hlb=>?_⟩;have s14:=(s12.trans s13).newT (o:=.lst ((M6.zas S.cardsIn vs).map V.str++[.str tx])) hlb;have eb:upd (upd H21 la (.lst [.str tx])) lb (.lst ((M6.zas S.cardsIn vs).map V.str++[.str tx])) lb=some (.lst ((M6.zas S.cardsIn vs++[tx]).map V.str)):=by rw[zd,map_append];rfl
   generalize hH22:upd (upd H21 la _) lb _=H22 at s14 eb ⊢;have n22:H22 ln=some (.lst ((M6.zas S.cardsIn vs).map V.str)):=s14 _ _ (s11.lst e10');refine⟨_,rfl,_,rfl,_,rfl,ln,_,_,_,rfl,rfl,SqL.of n22,atd,(by show 1<=sizeLine;decide),λlc hlc=>?_⟩;have s15:=Same.new (o:=.lst [.str tx]) hlc;refine⟨ln,lc,_,[.str tx],rfl,rfl,s15 _ _ n22,zd,by rw[length_map,hTl];simp only[length_cons,length_nil];omega,λld hld=>?_⟩;have s16:=s15.newT (o:=.lst ((M6.zas S.cardsIn vs).map V.str++[.str tx])) hld;have ed:upd (upd H22 lc (.lst [.str tx])) ld (.lst ((M6.zas S.cardsIn vs).map V.str++[.str tx])) ld=some (.lst ((M6.zas S.cardsIn vs++[tx]).map V.str)):=by rw[zd,map_append];rfl
   generalize hH23:upd (upd H22 lc _) ld _=H23 at s16 ed ⊢;refine⟨lb,ld,_,_,rfl,SqL.of (s16 _ _ eb),SqL.of ed,by rw[length_append,hTl];simp only[length_cons,length_nil];omega,?_⟩;rw[decide_eq_true rfl];have t23:=s14.trans s16;exact⟨_,rfl,yl ⟨_,_,_,F20,rfl,((t16.trans t19.toN).trans s11).trans t23.toN,z20.same t23,g20.same t23⟩⟩
  clear t16 g16 z16 t15 t14 t13 t11 rc13 rc15 g13 g11;rintro σ' H17 ⟨v8,v9,v10,F17,rfl,t17,z17,g17⟩;refine⟨λσ' H'=>∃(F':Addr->Prop),σ'=[some (.ref x),some (.ref n),some (.ref u),some (.ref k),some (.int who),some (.int sp),some (.ref li),some (.ref lsp),v8,v9,v10,none,none,none]/\SameN H9 H'/\LamS (zab K "by_place") zce H'/\SheetAt K H' x F' S,?_,?_⟩
  ·refine⟨_,rfl,li,_,rfl,.inl (SqL.of (t17.lst e99)),_,_,rfl,rfl,_,rfl,yB (λh2=>?_) (λ_=>yl ⟨F17,rfl,t17,z17,g17⟩)⟩;rw[length_map,hkl]at h2;refine⟨_,rfl,li,_,rfl,.inl (SqL.of (t17.lst e99)),_,_,rfl,rfl,_,rfl,yB (λ_=>?_) (λ_=>⟨F17,rfl,t17,z17,g17⟩)⟩;refine⟨_,rfl,x,F17,S,rfl,g17,by omega,λl8 H18 s8 f8 e8=>?_⟩;have t18:=t17.trans s8.toN;have rk18:All2 (IL K H18) kl S.rows:=rK9.imp fun(l:Addr) (c:List Int) (z:H9 l=some (.lst (c.map V.int)))=>(show SqL K H18 l _ from SqL.of (t18.lst z));refine⟨_,rfl,_,rfl,_,rfl,n,k,u,S.panel,S.rows,vs,rfl,SqL.of (t18.lst N9),⟨kl,SqL.of (t18.lst K9),rk18⟩,SqL.of (t18.lst U9),hrw,by omega,by omega,hcd,by rw[<-hhl];omega,λl9 H19 s9 f9 e9=>?_⟩;have hdr:=Sh.decide_rows ok;rw[hvs]at hdr;rw[hdr]at e8;have hdl:=zkh S.panel S.rows vs S.panel.length;refine⟨l8,l9,_,_,rfl,SqL.of (s9 _ _ e8),SqL.of e9,by omega,?_⟩;rw[decide_eq_true rfl];exact⟨_,rfl,yl ⟨F17,rfl,t18.trans s9.toN,(z17.same s8).same s9,(g17.same s8).same s9⟩⟩
  clear t17 z17 g17;rintro σ' H18 ⟨F18,rfl,t18,z18,g18⟩;obtain⟨m,em,rm⟩:=rK9.at (i:=who) (by omega) [];have am:atI (kl.map V.ref) (who:Int)=some (.ref m):=zN (yR em);have ats:atI (S.panel.map V.str) (who:Int)=some (.str (S.panel.getD who "")):=by
   have:=zfB (ts:=S.panel) (i:=(who:Int)) (by omega) (by omega);rw[show((who:Int)).toNat=who by omega]at this;exact this
  generalize hd:S.rows.getD who []=d at rm;have hdone:d≠[]->S.card (S.panel.getD who "")=some d:=λhne=>by rw[<-hd]at hne ⊢;exact hone who hw hne
  refine⟨λσ' H'=>∃(v11:Option V)(F':Addr->Prop),σ'=[some (.ref x),some (.ref n),some (.ref u),some (.ref k),some (.int who),some (.int sp),some (.ref li),some (.ref lsp),v8,v9,v10,v11,none,none]/\SameN H9 H'/\LamS (zab K "by_place") zce H'/\SheetAt K H' x F' S,?_,?_⟩
  ·refine⟨_,rfl,li,_,rfl,.inl (SqL.of (t18.lst e99)),_,_,rfl,rfl,_,rfl,yB (λh2=>?_) (λ_=>yl ⟨_,F18,rfl,t18,z18,g18⟩)⟩;rw[length_map,hkl]at h2;refine⟨_,rfl,_,rfl,k,_,_,_,rfl,rfl,SqL.of (t18.lst K9),am,(by show 0<=sizeLine;decide),λl9 hl9=>?_⟩;have s9:=Same.new (o:=.lst []) hl9;refine⟨m,l9,_,[],rfl,rfl,SqL.of (s9 _ _ (t18.lst rm)),SqL.new,zA _,rfl,_,rfl,?_⟩;rw[show eqL (d.map V.int) []=decide (d=[])from yH _ []];generalize hH19:upd H18 l9 _=H19 at s9 ⊢;have t19:=t18.trans s9.toN;refine yj (λhne=>?_) (λ_=>⟨_,F18,rfl,t19,z18.same s9,g18.same s9⟩);have K19:=t19.lst K9;refine⟨_,rfl,_,rfl,_,rfl,k,_,rfl,SqL.of K19,λl10 hl10=>?_⟩;rw[zfF (by omega),show((who:Int)).toNat=who by omega,<-map_take];have s10:=Same.new (o:=.lst ((kl.take who).map V.ref)) hl10;refine⟨_,rfl,_,rfl,_,_,rfl,rfl,_,rfl,k,_,rfl,SqL.of (s10 _ _ K19),λl11 hl11=>?_⟩;rw[zfJ (by omega),show((who:Int)+1).toNat=who+1 by omega,<-map_drop];have s11:=Same.new (o:=.lst ((kl.drop (who+1)).map V.ref)) hl11;refine⟨l10,l11,_,_,rfl,rfl,s11 _ _ zd,zd,by rw[length_map,length_map,length_take,length_drop];omega,λl12 hl12=>?_⟩;rw[<-map_append];have s12:=(s10.trans s11).newT (o:=.lst ((kl.take who++kl.drop (who+1)).map V.ref)) hl12;have e12:=zd (H:=upd (upd H19 l10 (.lst ((kl.take who).map V.ref))) l11 (.lst ((kl.drop (who+1)).map V.ref))) (a:=l12) (o:=.lst ((kl.take who++kl.drop (who+1)).map V.ref));generalize hH12:upd (upd (upd H19 l10 _) l11 _) l12 _=H20 at s12 e12 ⊢;have t20:=t19.trans s12.toN;have r12:All2 (IL K H20) (kl.take who++kl.drop (who+1)) (S.rows.take who++S.rows.drop (who+1)):=by
    have z:=rK9.imp fun(l:Addr) (c:List Int) (w:H9 l=some (.lst (c.map V.int)))=>(show IL K H20 l c from SqL.of (t20.lst w));exact(z.takeN who).app (z.dropN (who+1))
   refine⟨l12,rfl,⟨_,SqL.of e12⟩,?_⟩;refine zaF (SqL.of e12) r12 (by rw[length_append,length_take,length_drop];omega) (λm d H' R hm h=>?_) (λm H' R h=>⟨_,rfl,h⟩) λk13 H21 s13 r13=>?_
   ·refine⟨_,rfl,(by show 0<=sizeLine;decide),λl13 hl13=>?_⟩;have s13:=Same.new (o:=.lst []) hl13;refine⟨m,l13,_,[],rfl,rfl,s13.seq hm,SqL.new,zA _,rfl,_,rfl,?_⟩;rw[show eqL (d.map V.int) []=decide (d=[])from yH _ []];exact h _ s13
   rw[<-Sh.cardsWo_rows ok hw]at r13;intro l14 hl14;have s14:=s13.newT (o:=.lst (k13.map V.ref)) hl14;have e14:upd H21 l14 (.lst (k13.map V.ref)) l14=some (.lst (k13.map V.ref)):=zd;have r14:=r13.imp λ_ _=>IL.stays K _ _ _ _ (Same.new (o:=.lst (k13.map V.ref)) hl14);generalize hH22:upd H21 l14 _=H22 at s14 e14 r14 ⊢;have t22:=t20.trans s14.toN;have g22:=(g18.same s9).same (s12.trans s14);have z22:=(z18.same s9).same (s12.trans s14);have hjh:S.panel.getD who "" ∈ S.handed:=List.mem_filter.mpr ⟨zbb hw,by rw[hdone hne];rfl⟩;have hwp:=Sh.cardsWo_perm ok (S.panel.getD who "");rw[hvs]at hwp;have hwl:=Sh.cardsWo_len ok.pnd hjh;refine⟨_,rfl,_,rfl,_,rfl,n,_,_,_,rfl,rfl,SqL.of (t22.lst N9),ats,x,F18,S,_,rfl,g22,hjh,by omega,λl15 H23 s15 f15 e15=>?_⟩;rw[hvs]at e15;have t23:=t22.trans s15.toN;refine⟨_,rfl,_,rfl,l14,u,_,vs,rfl,⟨k13,SqL.of (s15 _ _ e14),r14.imp λ_ _=>IL.stays K _ _ _ _ s15⟩,SqL.of (t23.lst U9),by omega,by omega,λy hy d hd=>(hwp d hd).mem_iff.mpr hy,λl16 H24 s16 f16 e16=>?_⟩;rw[M6.zbE hwp (by omega)]at e16;refine⟨l15,l16,_,_,rfl,SqL.of (s16 _ _ e15),SqL.of e16,by rw[M6.yu];omega,?_⟩;rw[decide_eq_true rfl];exact⟨_,rfl,yl ⟨_,F18,rfl,t23.trans s16.toN,(z22.same s15).same s16,(g22.same s15).same s16⟩⟩
  clear t18 z18 g18;rintro σ' H19 ⟨v11,F19,rfl,t19,z19,g19⟩;refine⟨_,rfl,_,rfl,k,_,_,_,rfl,rfl,SqL.of (t19.lst K9),am,m,_,rfl,.inl (SqL.of (t19.lst rm)),_,_,rfl,rfl,_,rfl,yB (λ_=>q H19 (t9.toN.trans t19) z19) (λh2=>?_)⟩;rw[length_map]at h2;have hdne:d≠[]:=by intro z;rw[z]at h2;simp at h2
  have hcw:=hdone hdne;have hdp:d.Perm vs:=by rw[<-hvs];exact(ok.cd _ _ hcw).2
  have hdl:=hdp.length_eq;have q0:=Int.emod_nonneg sp (b:=(vs.length:Int)-1) (by omega);have q1:=Int.emod_lt_of_pos sp (b:=(vs.length:Int)-1) (by omega);refine⟨_,rfl,_,rfl,u,_,rfl,.inl (SqL.of (t19.lst U9)),?_⟩;rw[length_map];refine⟨_,_,rfl,rfl,_,_,rfl,rfl,(by show(0:Int)<(vs.length:Int)-1;omega),_,_,rfl,rfl,?_⟩;dsimp only;generalize hkk:1+sp%((vs.length:Int)-1)=kk;obtain⟨kk,rfl⟩:=Int.eq_ofNat_of_zero_le (show 0<=kk by omega);have k0:0<kk:=by omega
  have k1:kk<d.length:=by omega
  have atk:atI (d.map V.int) (kk:Int)=some (.int (d.getD kk 0)):=zN (wR k1);have atk1:atI (d.map V.int) ((kk:Int)-1)=some (.int (d.getD (kk-1) 0)):=by
   rw[show(kk:Int)-1=((kk-1:Nat):Int)by omega];exact zN (wR (by omega))
  refine⟨_,rfl,_,rfl,_,rfl,n,_,_,_,rfl,rfl,SqL.of (t19.lst N9),ats,_,rfl,_,rfl,k,_,_,_,rfl,rfl,SqL.of (t19.lst K9),am,_,rfl,m,_,_,_,rfl,rfl,SqL.of (t19.lst rm),atk,x,F19,S,_,d,kk,rfl,g19,hcw,k0,k1,λt l H20 s20 ft fl et el=>?_⟩;have t20:=t19.trans s20.toN;have qt:SqT K H20 t [.int (d.getD (kk-1) 0),.ref l]:=.inl (.inl et);refine⟨_,rfl,_,_,rfl,.yes qt,_,rfl,yl ?_⟩;refine⟨_,rfl,t,_,rfl,.inr qt,rfl,_,rfl,iteNS rfl ?_⟩;refine⟨_,rfl,t,_,_,_,rfl,rfl,qt,rfl,_,true,false,rfl,rfl,rfl,_,rfl,yl ?_⟩;refine⟨_,rfl,t,_,_,_,rfl,rfl,qt,rfl,_,rfl,_,rfl,k,_,_,_,rfl,rfl,SqL.of (t20.lst K9),am,_,rfl,_,_,rfl,rfl,m,_,_,_,rfl,rfl,SqL.of (t20.lst rm),atk1,rfl,_,rfl,iteNS rfl ?_⟩;have rk20:All2 (IL K H20) kl S.rows:=rK9.imp fun(l:Addr) (c:List Int) (z:H9 l=some (.lst (c.map V.int)))=>(show SqL K H20 l _ from SqL.of (t20.lst z));refine⟨_,rfl,t,_,_,_,rfl,rfl,qt,rfl,_,rfl,_,rfl,_,rfl,k,S.rows,who,kk,rfl,⟨kl,SqL.of (t20.lst K9),rk20⟩,by omega,by omega,k0,by rw[hd];exact k1,by rw[hd];omega,λl12 H12 s12 f12 r12=>?_⟩;rw[hd]at r12;have hup:(upC d kk).Perm S.couples:=by rw[hvs];exact(zkd k0 k1).trans hdp
  have hcu:=Sh.cardsUp_rows ok (w:=who) hw hup (by rw[hcw];rfl);rw[<-hcu]at r12;have hwp:=Sh.cardsUp_perm (j:=S.panel.getD who "") ok hup;have hwl:=Sh.cardsUp_len S (S.panel.getD who "") (upC d kk);rw[hvs]at hwp el;have t12:=t20.trans s12.toN;refine⟨_,rfl,l12,u,_,vs,rfl,r12,SqL.of (t12.lst U9),by omega,by omega,λy hy d hd=>(hwp d hd).mem_iff.mpr hy,λl13 H13 s13 f13 e13=>?_⟩;rw[M6.zbE hwp (by omega)]at e13;refine⟨l,l13,_,_,rfl,SqL.of (s13 _ _ (s12 _ _ el)),SqL.of e13,by rw[M6.yu];omega,?_⟩;rw[decide_eq_true rfl];have t13:=s20.trans (s12.trans s13);exact q H13 ((t9.toN.trans t19).trans t13.toN) (z19.same t13)
theorem share48{P G:Prop}(hG:P->G)(h:P):G:=hG h
inductive zez (K:Frag) (vs:List V) (H:Hp) (Q:VK) (E:XK):Prop
 | mk (G:Addr->Prop) (S:Sh) (st n u g k x:Addr) (F:Addr->Prop) (ls:List Addr) (cell y:Int):vs=[.ref st,.int cell,.int y]->St7 K H G S st n u g k x F ls->S.taken<200->LamS (zab K "by_place") zce H->(∀(H':Hp)(G':Addr->Prop)(S':Sh)(F':Addr->Prop)(ls':List Addr),St7 K H' G' S' st n u g k x F' ls'->S'.panel=S.panel->S'.taken<=S.taken+1->DeedN G H G' H'->LamS (zab K "by_place") zce H'->Q (.bl true) H')->zez K vs H Q E
theorem zjX(F:Fun K "_law_deed" "_law_deed" zdE f fd)(T:Txt K mg)(c1q:Can P w K mg base 3 "_law_dealt" zbM (zdm K))(c0G:Can P w K mg base 15 "_law_told" za5 (zcC K))(c1r:Can P w K mg base 3 "_law_strike" zaR (zcU K))(c1s:CanMX P w K mg base 2 (zH K "Sheet") "hand_in" wA (zaz K))(c1t:CanMX P w K mg base 2 (zH K "Sheet") "seal" ["self"] (zcJ K)):FnOk P w K mg base CX0 16 f fd zcx (zez K):=by
 refine F.ok wX (λvs H Q E h=>?_) (λcdv A outer s H vs Q E hr h=>?_)
 ·obtain⟨G,S,st,n,u,g,k,x,F,ls,cell,y,rfl,_⟩:=h;rfl
 ·obtain⟨G,S,st,n,u,g,k,x,F,ls,cell,y,rfl,hT,ht,hL,q⟩:=h;refine⟨_,(zc (zu (i:=3) wX.nd rfl (Or.inl rfl) (zo zk (pv 0) zg (λ_ _=>rfl)))
   (zc (zu (i:=4) wX.nd rfl (Or.inl rfl) (zo zk (pv 0) zg (λ_ _=>rfl)))
   (zc (zu (i:=5) wX.nd rfl (Or.inl rfl) (zr yq (zr wQ (pv 1) zg) (ya T.b_len (pv 3))))
   (zc (y6 (i:=6) (show CompScope (zf zdE) zgw "_law_card_here" [] [] _ from csM) rfl wX.nd rfl (Or.inl rfl) (zx (pv 4)) (λ_ _ _ _ _=>(yC (zm (yI (K:=K) rfl hr.units0) (pv 0) (zI zb) (zp _)))) (λ_ _ _ _ _=>(pv 0)))
   (zc (zv (PW.pt (zbZ (zm zfr (zr yq (pv 1) zg) zg (zp _)) (zbv (zJ (zF (zo zk (pv 0) zg (λ_ _=>rfl))))))) (zc (zu (i:=7) wX.nd rfl (Or.inl rfl) (zi c1q (hM hr) rfl (za (pv 1) (za zg (za (zo zk (pv 0) zg (λ_ _=>rfl)) (za (pv 2) zb))))))
   (zc (zP (wG c1s T.cl_Sheet zdX (hM hr) (zo zk (pv 0) zg (λ_ _=>rfl)) (za (zo zk (pv 3) (pv 5) (λ_ _=>rfl)) (za (zM zO (by rfl) T.b_list boot_list (za (pv 7) zb)) zb))))
   (zc (ziQ (pv 7) (zjm (pv 4) (pv 5) zfM))
   (ze (ziQ (zr yf (zo zk (pv 0) zg (λ_ _=>rfl)) zg) (zjm (pv 0) zg zfM)))))) (ze (zv (PW.pt (zbZ (zm zag (zr yq (pv 1) zg) zg (zp _)) (zbZ (zJ (zF (zo zk (pv 0) zg (λ_ _=>rfl)))) (zbv (zm zgp (ya T.b_len (zo zk (pv 0) zg (λ_ _=>rfl))) zg (zp _)))))) (ze (zP (zi c1r (hM hr) rfl (za (pv 0) (za (zr wQ (pv 1) zg) zb))))) (ze (zv (PW.pt (zbZ (zm zag (zr yq (pv 1) zg) zg (zp _)) (zbZ (zm zag (zr yq (zr wQ (pv 1) zg) zg) zg (zp _)) (zbv (zJ (zF (zo zk (pv 0) zg (λ_ _=>rfl)))))))) (zc (zP (zeK c1t T.cl_Sheet zdX (hM hr) (zo zk (pv 0) zg (λ_ _=>rfl))))
   (ze (ziQ zY (zjm (pv 0) zg zfM)))) (ze (zv (zm (zgr hr.units0) (pv 6) (zI zb) (zp _)) (ze (zj (zi c0G (hM hr) rfl (za (zo zk (pv 0) zg (λ_ _=>rfl)) (za (pv 3) (za (zo zk (pv 0) zg (λ_ _=>rfl)) (za (pv 4) (za (pv 5) (za (zr wQ (pv 1) zg) zb))))))))) zq)))))))
   (ze (zj zY))))))),?_⟩
  have hln:=zt;have ok:=hT.sh.ok;have c1:=ok.c1;have c24:=ok.c24;have p1:=ok.p1;have p15:=ok.p15;have hlen:=hT.hr.len;rw[S.rows_len]at hlen;have hls:ls≠[]:=λz=>by rw[z]at hlen;simp at hlen;omega
  have hrl15:S.rows.length<=15:=by rw[S.rows_len];exact p15
  refine⟨_,rfl,st,_,_,_,rfl,rfl,SqL.of hT.hst,rfl,?_⟩;refine⟨_,rfl,st,_,_,_,rfl,rfl,SqL.of hT.hst,rfl,?_⟩;refine⟨_,rfl,_,_,rfl,rfl,⟨by decide,by decide⟩,_,rfl,n,_,rfl,.inl (SqL.of hT.hn),?_⟩;rw[length_map];refine⟨_,_,rfl,rfl,(by show(0:Int)<S.panel.length;omega),?_⟩;dsimp only;have w0:=Int.emod_nonneg (cell/8) (b:=(S.panel.length:Int)) (by omega);have w1:=Int.emod_lt_of_pos (cell/8) (b:=(S.panel.length:Int)) (by omega);obtain⟨who,hwh,hwho⟩:∃who:Nat,cell/8%(S.panel.length:Int)=(who:Int)/\who<S.panel.length:=⟨(cell/8%(S.panel.length:Int)).toNat,by omega,by omega⟩;rw[hwh];refine⟨_,rfl,k,rfl,⟨_,SqL.of hT.hr.1⟩,?_⟩;refine zaF (SqL.of hT.hr.1) (hT.hr.2.2.imp λ_ _ z=>SqL.of z.1) (by omega) (λm d H' Q hm h=>?_) (λm H' Q h=>⟨_,rfl,h⟩) λks H1 s1 r1=>?_
  ·refine⟨_,rfl,(by show 0<=sizeLine;decide),λl6 hl6=>?_⟩;have s6:=Same.new (o:=.lst []) hl6;refine⟨m,l6,_,[],rfl,rfl,s6.seq hm,SqL.new,zA _,rfl,_,rfl,?_⟩;rw[show eqL (d.map V.int) []=decide (d=[])from yH _ []];exact h _ s6
  intro li hli;have s2:=s1.newT (o:=.lst (ks.map V.ref)) hli;have e2:upd H1 li (.lst (ks.map V.ref)) li=some (.lst (ks.map V.ref)):=zd;have hkl:ks.length=S.handed.length:=by rw[r1.length,Sh.handed_len ok]
  generalize hH2:upd H1 li _=H2 at s2 e2 ⊢;have T2:=hT.same s2;have L2':=hL.same s2;have x0:=Int.emod_nonneg cell (b:=8) (by decide);have x1:=Int.emod_lt_of_pos cell (b:=8) (by decide);have stay:∀H',Same H2 H'->Q (.bl true) H':=λH' s'=>q H' G S F ls (T2.same s') rfl (by omega) (DeedN.same (s2.trans s')) (L2'.same s');have f1:cell%8<5->cell%8≠5:=λ_=>by omega
  have f2:cell%8<5->cell%8≠6:=λ_=>by omega
  have f3:cell%8=5->cell%8≠6:=λ_=>by omega
  have hsf:(!S.shut)=true->S.shut=false:=λz=>by simpa using z
  have hlen2:((S.couples.map V.int).length:Int) > 1->2<=S.couples.length:=λz=>by rw[length_map]at z;omega
  have ml64:∀{ms:List Int},ms.length=S.couples.length->ms.length<64:=λz=>by omega
  have hu1000:S.couples.length<=1000:=by omega
  have hcne:S.couples≠[]:=λz=>by rw[z]at c1;simp at c1
  have hk0:(0:Int)<=(who:Int):=by omega
  have hkl2:((who:Int)).toNat<(ls.map V.ref).length:=by rw[length_map];omega
  apply share48
  ·intro told;refine⟨_,rfl,_,_,rfl,rfl,(by show(0:Int)<8;decide),_,_,rfl,rfl,_,rfl,yB (λh5=>?_) (λh5=>yl ?_)⟩
   ·refine⟨_,rfl,st,_,_,_,rfl,rfl,SqL.of T2.hst,rfl,_,rfl,zhi (λhs=>?_) (λhs=>?_)⟩
    ·clear told;have hs':=hsf hs;have hj:=zbb (ts:=S.panel) hwho;refine⟨_,rfl,_,rfl,st,_,_,_,rfl,rfl,SqL.of T2.hst,rfl,_,rfl,cell,32,u,S.couples,y,rfl,by decide,by decide,SqL.of T2.hu,hcne,hu1000,λlk H3 ms s3 f3 e3 hp3=>?_⟩;have T3:=T2.same s3;have hml:=hp3.length_eq;have fk:¬F lk:=T2.sh.apart f3;obtain⟨dx,b1,b2,b3,dd,hip⟩:=T3.sh.ins;refine⟨_,rfl,st,_,_,_,rfl,rfl,SqL.of T3.hst,rfl,x,dx,_,rfl,hip,rfl,_,rfl,_,rfl,n,_,_,_,rfl,rfl,SqL.of T3.hn,zN (zfw hwho),_,rfl,lk,_,rfl,.inl (SqL.of e3),λlh hlh=>?_⟩;have s4:=Same.new (o:=.lst (ms.map V.int)) hlh;have e4:upd H3 lh (.lst (ms.map V.int)) lh=some (.lst (ms.map V.int)):=zd;generalize hH4:upd H3 lh _=H4 at s4 e4 ⊢;have T4:=T3.same s4;have hre:S.refuse (S.panel.getD who "") ms=none:=by
      unfold Sh.refuse;rw[hs',if_neg Bool.false_ne_true,if_pos hj,if_pos hp3,if_neg (Nat.not_le.mpr ht)]
     refine⟨x,F,S,_,lh,ms,rfl,T4.sh,SqL.of e4,ml64 hml,λc hc=>(by rw[hre]at hc;cases hc),λ_ H5 F0 h5 d5=>?_⟩;obtain⟨F1,h1,d1,kd1⟩:∃F1:Addr->Prop,SheetAt K H5 x F1 (S.hand (S.panel.getD who "") ms)/\Deed F H4 F1 H5/\∀b,F1 b->∃o,H5 b=some o/\KB o:=⟨_,h5.kinds,λb o e n=>⟨(d5 b o e n).1,λz=>(d5 b o e n).2 z.1⟩,λb z=>z.2⟩;have st5:=d1 _ _ T4.hst T4.fst;have u5:=d1 _ _ T4.hu T4.fu;have g5:=d1 _ _ T4.hg T4.fg;have r5:=T4.hr.deed d1;have k5:=d1 _ _ (s4 _ _ e3) fk;have ni:∀{H0:Hp}{b:Addr}{w:List Int},H0 b=some (.lst (w.map V.int))->H0 st=some (.lst [V.ref n,.ref u,.ref g,.ref k,.ref x,.int S.taken,.bl S.shut])->b≠st:=λ{H0 b w} z1 z2=>yc z1 z2 λz=>by
      injection z with z
      cases w with
      | nil=>cases z
      | cons x w=>simp at z
     have nk:k≠st:=yc r5.1 st5.1 λz=>by
      injection z with z
      have z5:=congrArg (λl=>l[5]?) z;simp only[getElem?_map]at z5;cases h:ls[5]? with
      | none=>rw[h]at z5;cases z5
      | some l=>rw[h]at z5;cases z5
     refine⟨_,rfl,_,rfl,_,rfl,k,_,_,who,rfl,rfl,r5.1,ixN_ok hk0 hkl2,?_⟩;have hrw:(S.hand (S.panel.getD who "") ms).rows=S.rows.set who ms:=Sh.rows_hand (S:=S) ok.pnd (k:=who) hwho ms;have r6:=r5.set hls k5.1 k5.2 who;rw[<-hrw]at r6;have h6:=h1.put (o:=.lst ((ls.map V.ref).set who (.ref lk))) r5.2.1;have st6:upd H5 k (.lst ((ls.map V.ref).set who (.ref lk))) st=some (.lst [V.ref n,.ref u,.ref g,.ref k,.ref x,.int S.taken,.bl S.shut]):=by rw[zh nk.symm];exact st5.1
     have u6:upd H5 k (.lst ((ls.map V.ref).set who (.ref lk))) u=some (.lst (S.couples.map V.int)):=by rw[zh (yc u5.1 r5.1 (zdM hls))];exact u5.1
     have g6:upd H5 k (.lst ((ls.map V.ref).set who (.ref lk))) g=some (.lst (S.struck.map V.int)):=by rw[zh (yc g5.1 r5.1 (zdM hls))];exact g5.1
     have kd6:∀b,F1 b->∃o,upd H5 k (.lst ((ls.map V.ref).set who (.ref lk))) b=some o/\KB o:=λb z=>by
      rw[zh (fun(w:b=k)=>r5.2.1 (by rw[<-w];exact z))];exact kd1 b z
     have out6:∀b o,H2 b=some o->¬G b->upd H5 k (.lst ((ls.map V.ref).set who (.ref lk))) b=some o/\¬F1 b:=λb o e nb=>by
      obtain⟨y1,y2⟩:=d1 b o (s4 _ _ (s3 _ _ e)) (λz=>nb (T2.gF b z));exact⟨by rw[zh (fun(w:b=k)=>nb (by rw[w];exact T2.gk))];exact y1,y2⟩
     generalize hH6:upd H5 k _=H6 at r6 h6 st6 u6 g6 kd6 out6 ⊢;refine⟨_,rfl,st,_,_,_,rfl,rfl,SqL.of st6,rfl,_,_,rfl,rfl,_,rfl,st,_,_,5,rfl,rfl,st6,rfl,?_⟩;have lsk:∀l∈ls.set who lk,G l\/l=lk:=λl hl=>by
      rcases List.mem_or_eq_of_mem_set hl with hl | rfl
      ·exact .inl (T2.gl l hl)
      ·exact .inr rfl
     have keep:∀b o,H2 b=some o->¬G b->upd H6 st (.lst (List.set [V.ref n,.ref u,.ref g,.ref k,.ref x,.int S.taken,.bl S.shut] 5 (.int ((S.taken:Int)+1)))) b=some o/\¬(F1 b\/b=st\/b=u\/b=g\/b=k\/b∈ls.set who lk):=λb o e nb=>by
      obtain⟨y1,y2⟩:=out6 b o e nb;refine⟨by rw[zh (fun(w:b=st)=>nb (by rw[w];exact T2.gst))];exact y1,?_⟩;rintro (z | z | z | z | z | z)
      ·exact y2 z
      ·exact nb (by rw[z];exact T2.gst)
      ·exact nb (by rw[z];exact T2.gu)
      ·exact nb (by rw[z];exact T2.gg)
      ·exact nb (by rw[z];exact T2.gk)
      ·rcases lsk b z with w | w
       ·exact nb w
       ·rw[w,f3]at e;cases e
     have hup:upd H6 st (.lst (List.set [V.ref n,.ref u,.ref g,.ref k,.ref x,.int S.taken,.bl S.shut] 5 (.int ((S.taken:Int)+1)))) st=some (.lst (List.set [V.ref n,.ref u,.ref g,.ref k,.ref x,.int S.taken,.bl S.shut] 5 (.int ((S.taken:Int)+1)))):=zd;refine q _ (λb=>F1 b\/b=st\/b=u\/b=g\/b=k\/b∈ls.set who lk) (S.hand (S.panel.getD who "") ms) F1 (ls.set who lk) ⟨h6.put st5.2,hup,(keep _ _ T2.hn T2.nn).1,(keep _ _ T2.hn T2.nn).2,by rw[zh (ni u6 st6)];exact u6,by rw[zh (ni g6 st6)];exact g6,r6.put ⟨nk,λl hl=>by obtain⟨w,z⟩:=r6.2.2.memL hl;exact ni z.1 st6⟩,st5.2,u5.2,g5.2,T2.ug,λl hl=>?_,λb z=>.inl z,.inr (.inl rfl),.inr (.inr (.inl rfl)),.inr (.inr (.inr (.inl rfl))),.inr (.inr (.inr (.inr (.inl rfl)))),λl hl=>.inr (.inr (.inr (.inr (.inr hl)))),λb z=>?_⟩ rfl (le_refl _) (λb o e t nb=>keep b o (s2 _ _ e) nb) (L2'.deed T2.kd λb o e nb=>(keep b o e nb).1)
     ·rcases List.mem_or_eq_of_mem_set hl with hl | rfl
      ·exact T2.lg l hl
      ·exact⟨(λz=>by rw[z,T2.hg]at f3;cases f3),(λz=>by rw[z,T2.hu]at f3;cases f3)⟩
     ·by_cases hb:b=st
      ·rw[hb];exact⟨_,hup,trivial⟩
      ·rw[zh hb];rcases z with z | rfl | rfl | rfl | rfl | z
       ·exact kd6 b z
       ·exact absurd rfl hb
       ·exact⟨_,u6,trivial⟩
       ·exact⟨_,g6,trivial⟩
       ·exact⟨_,r6.1,trivial⟩
       ·obtain⟨w,y⟩:=r6.2.2.memL z;exact⟨_,y.1,trivial⟩
    ·refine⟨_,rfl,_,_,rfl,rfl,(by show(0:Int)<8;decide),rfl,_,rfl,yB (λw=>absurd (V.int.inj w) (f1 h5)) (λ_=>yl ?_)⟩;exact⟨_,rfl,_,_,rfl,rfl,(by show(0:Int)<8;decide),rfl,_,rfl,yB (λw=>absurd (V.int.inj w) (f2 h5)) (λ_=>yl told)⟩
   ·refine⟨_,rfl,_,_,rfl,rfl,(by show(0:Int)<8;decide),rfl,_,rfl,yB (λh6=>?_) (λh6=>yl ?_)⟩
    ·have h6:cell%8=5:=V.int.inj h6;refine⟨_,rfl,st,_,_,_,rfl,rfl,SqL.of T2.hst,rfl,_,rfl,zhi (λhs=>?_) (λhs=>yl ?_)⟩
     ·refine⟨_,rfl,st,_,_,_,rfl,rfl,SqL.of T2.hst,rfl,u,_,rfl,.inl (SqL.of T2.hu),_,_,rfl,rfl,_,rfl,yB (λh1=>?_) (λh1=>?_)⟩
      ·exact⟨_,rfl,_,rfl,_,_,rfl,rfl,⟨by decide,by decide⟩,G,S,st,n,u,g,k,x,F,ls,_,rfl,T2,hsf hs,hlen2 h1,λH4 G4 F4 ls4 c4 T4 d4=>q H4 G4 (S.strike c4) F4 ls4 T4 rfl (le_succ _) (λb o e t nb=>d4 b o (s2 _ _ e) nb) (L2'.deed T2.kd λb o e nb=>(d4 b o e nb).1)⟩
      ·exact⟨_,rfl,_,_,rfl,rfl,(by show(0:Int)<8;decide),rfl,_,rfl,yB (λw=>absurd (V.int.inj w) (f3 h6)) (λ_=>yl told)⟩
     ·exact⟨_,rfl,_,_,rfl,rfl,(by show(0:Int)<8;decide),rfl,_,rfl,yB (λw=>absurd (V.int.inj w) (f3 h6)) (λ_=>yl told)⟩
    ·refine⟨_,rfl,_,_,rfl,rfl,(by show(0:Int)<8;decide),rfl,_,rfl,yB (λh7=>?_) (λ_=>yl told)⟩;refine⟨_,rfl,_,_,rfl,rfl,⟨by decide,by decide⟩,_,_,rfl,rfl,(by show(0:Int)<8;decide),rfl,_,rfl,yB (λh8=>?_) (λ_=>yl told)⟩;refine⟨_,rfl,st,_,_,_,rfl,rfl,SqL.of T2.hst,rfl,_,rfl,zhi (λhs=>?_) (λhs=>told)⟩;obtain⟨dx,b1,b2,b3,dd,hip⟩:=T2.sh.ins;refine⟨_,rfl,st,_,_,_,rfl,rfl,SqL.of T2.hst,rfl,x,dx,_,rfl,hip,rfl,x,F,S,rfl,T2.sh,(λz=>by rw[hsf hs]at z;cases z),λ_ H4 h4 d4=>?_⟩;obtain⟨F1,h1,d1,kd1⟩:∃F1:Addr->Prop,SheetAt K H4 x F1 S.close/\Deed F H2 F1 H4/\∀b,F1 b->∃o,H4 b=some o/\KB o:=⟨_,h4.kinds,λb o e n=>⟨(d4 b o e n).1,λz=>(d4 b o e n).2 z.1⟩,λb z=>z.2⟩;have st4:=d1 _ _ T2.hst T2.fst;have u4:=d1 _ _ T2.hu T2.fu;have g4:=d1 _ _ T2.hg T2.fg;have r4:=T2.hr.deed d1;have n4:=d1 _ _ T2.hn (λz=>T2.nn (T2.gF _ z));refine⟨_,rfl,st,_,_,6,rfl,rfl,st4.1,rfl,?_⟩;have ni:∀{b:Addr}{w:List Int},H4 b=some (.lst (w.map V.int))->b≠st:=λ{b w} z=>yc z st4.1 λz=>by
      injection z with z
      cases w with
      | nil=>cases z
      | cons x w=>simp at z
     have nk:k≠st:=yc r4.1 st4.1 λz=>by
      injection z with z
      have z5:=congrArg (λl=>l[5]?) z;simp only[getElem?_map]at z5;cases h:ls[5]? with
      | none=>rw[h]at z5;cases z5
      | some l=>rw[h]at z5;cases z5
     have gsub:∀b,(F1 b\/b=st\/b=u\/b=g\/b=k\/b∈ls)->F1 b\/G b:=λb z=>by
      rcases z with z | rfl | rfl | rfl | rfl | z
      ·exact .inl z
      ·exact .inr T2.gst
      ·exact .inr T2.gu
      ·exact .inr T2.gg
      ·exact .inr T2.gk
      ·exact .inr (T2.gl b z)
     have keep:∀b o,H2 b=some o->¬G b->upd H4 st (.lst (List.set [V.ref n,.ref u,.ref g,.ref k,.ref x,.int S.taken,.bl S.shut] 6 (.bl true))) b=some o/\¬(F1 b\/b=st\/b=u\/b=g\/b=k\/b∈ls):=λb o e nb=>by
      obtain⟨y1,y2⟩:=d1 b o e (λz=>nb (T2.gF b z));refine⟨by rw[zh (fun(w:b=st)=>nb (by rw[w];exact T2.gst))];exact y1,λz=>?_⟩;rcases gsub b z with z | z
      ·exact y2 z
      ·exact nb z
     refine q _ (λb=>F1 b\/b=st\/b=u\/b=g\/b=k\/b∈ls) S.close F1 ls ⟨h1.put st4.2,zd,(keep _ _ T2.hn T2.nn).1,(keep _ _ T2.hn T2.nn).2,by rw[zh (ni u4.1)];exact u4.1,by rw[zh (ni g4.1)];exact g4.1,r4.put ⟨nk,λl hl=>by obtain⟨w,z⟩:=r4.2.2.memL hl;exact ni z.1⟩,st4.2,u4.2,g4.2,T2.ug,T2.lg,λb z=>.inl z,.inr (.inl rfl),.inr (.inr (.inl rfl)),.inr (.inr (.inr (.inl rfl))),.inr (.inr (.inr (.inr (.inl rfl)))),λl hl=>.inr (.inr (.inr (.inr (.inr hl)))),λb z=>?_⟩ rfl (le_succ _) (λb o e t nb=>keep b o (s2 _ _ e) nb) (L2'.deed T2.kd λb o e nb=>(keep b o e nb).1);by_cases hb:b=st
     ·rw[hb];have hup:upd H4 st (.lst (List.set [V.ref n,.ref u,.ref g,.ref k,.ref x,.int S.taken,.bl S.shut] 6 (.bl true))) st=some (.lst (List.set [V.ref n,.ref u,.ref g,.ref k,.ref x,.int S.taken,.bl S.shut] 6 (.bl true))):=zd;exact⟨_,hup,trivial⟩
     ·rw[zh hb];rcases z with z | rfl | rfl | rfl | rfl | z
      ·exact kd1 b z
      ·exact absurd rfl hb
      ·exact⟨_,u4.1,trivial⟩
      ·exact⟨_,g4.1,trivial⟩
      ·exact⟨_,r4.1,trivial⟩
      ·obtain⟨w,y⟩:=r4.2.2.memL z;exact⟨_,y.1,trivial⟩
  ·refine⟨_,rfl,(by show 0<=sizeLine;decide),λl3 hl3=>?_⟩;have s3:=Same.new (o:=.lst []) hl3;refine⟨li,l3,_,rfl,rfl,SqL.of (s3 _ _ e2),SqL.new,_,rfl,?_⟩;rw[length_map,hkl];generalize hH3:upd H2 l3 _=H3 at s3 ⊢;have T3:=T2.same s3;refine yj (λh1=>?_) (λ_=>stay _ s3);refine⟨_,rfl,st,_,_,_,rfl,rfl,SqL.of T3.hst,rfl,_,rfl,_,rfl,st,_,_,_,rfl,rfl,SqL.of T3.hst,rfl,_,rfl,_,rfl,_,rfl,_,_,rfl,rfl,⟨by decide,by decide⟩,x,n,u,k,F,S,ls,who,_,rfl,T3.sh,T3.hn,T3.hu,T3.hr.1,T3.hr.2.2.imp λ_ _ z=>z.1,hwho,by omega,L2'.same s3,λH4 s4 z4=>?_⟩;exact q H4 G S F ls (T3.sameN s4) rfl (by omega) (DeedN.trans (DeedN.same (s2.trans s3)) (DeedN.sameN s4)) z4
variable {H':Hp}
theorem za3{K:Frag}{F F':Addr->Prop}{xs:List V}(h:LQ K F H a xs)(d:DeedN F H F' H'):LQ K F' H' a xs:=by
 rcases h with⟨r | ⟨o,r⟩,n⟩ | h
 ·have:=d a _ r (λ_ z=>by cases z) n;exact .inl ⟨.inl this.1,this.2⟩
 ·have:=d a _ r (λ_ z=>by cases z) n;exact .inl ⟨.inr ⟨o,this.1⟩,this.2⟩
 ·exact .inr h
variable {G0 G1 G':Addr->Prop}
theorem deed_both(d:DeedN G0 H G' H'):DeedN (λb=>G0 b\/G1 b) H (λb=>G' b\/G1 b) H':=λb o e t n=>⟨(d b o e t λz=>n (.inl z)).1,λz=>z.elim (d b o e t λz=>n (.inl z)).2 λz=>n (.inr z)⟩
theorem deed_both'(d:DeedN G1 H G' H'):DeedN (λb=>G0 b\/G1 b) H (λb=>G0 b\/G' b) H':=λb o e t n=>⟨(d b o e t λz=>n (.inr z)).1,λz=>z.elim (λz=>n (.inl z)) (d b o e t λz=>n (.inr z)).2⟩
inductive zg0 (K:Frag) (vs:List V) (H:Hp) (Q:VK) (E:XK):Prop
 | mk (a:Addr) (ns:List Int):vs=[.ref a]->SqL K H a (ns.map V.int)->ns.length<=63->H (zab K "by_place")=some (.tbl #[])->(∀H',Q (.bl true) H')->zg0 K vs H Q E
theorem ok_law(F:Fun K "law" "law" zeX f fd)(T:Txt K mg)(c0i:Can P w K mg base 1 "_law_at" zeF (zgb K))(c0J:Can P w K mg base 1 "_law_couples" zao (zci K))(c0K:Can P w K mg base 1 "_law_judges" zaI (zcT K))(c0G:Can P w K mg base 15 "_law_told" za5 (zcC K))(c1u:Can P w K mg base 16 "_law_deed" zcx (zez K))(c0L:Can P w K mg base 1 "_law_state" zbw (zdp K))(c0H:Can P w K mg base 5 "_law_right" zbu (zdK K))(c0M:CanK P w K mg base 4 "Sheet" (zH K "Sheet") zaU (zc0 K)):FnOk P w K mg base CX0 17 f fd ["_law_script"] (zg0 K):=by
 refine F.ok zcM (λvs H Q E h=>?_) (λcdv A outer s H vs Q E hr h=>?_)
 ·obtain⟨a,ns,rfl,_⟩:=h;rfl
 ·obtain⟨a,ns,rfl,hS,hz,hT,q⟩:=h;refine⟨_,(zc (zu (i:=1) zcM.nd rfl (Or.inl rfl) (zi c0J (hM hr) rfl (za (zi c0i (hM hr) rfl (za (pv 0) (za zg zb))) (za (zr yf zg (zr yq (zi c0i (hM hr) rfl (za (pv 0) (za zg zb))) zg)) zb))))
   (zc (zu (i:=2) zcM.nd rfl (Or.inl rfl) (zi c0K (hM hr) rfl (za (zi c0i (hM hr) rfl (za (pv 0) (za zg zb))) (za (zr yf zg (zr yq (zi c0i (hM hr) rfl (za (pv 0) (za zg zb))) zg)) zb))))
   (zc (zu (i:=3) zcM.nd rfl (Or.inl rfl) (zI (za (zM zO (by rfl) T.b_list boot_list (za (pv 1) zb)) (za (zM zO (by rfl) T.b_list boot_list (za (pv 2) zb)) zb))))
   (zc (zu (i:=4) zcM.nd rfl (Or.inl rfl) (zI (za (zi c0L (hM hr) rfl (za (zky c0M zdX (hM hr) rfl (za (zo zk (pv 3) zg (λ_ _=>rfl)) (za (zo zk (pv 3) zg (λ_ _=>rfl)) zb))) (za (pv 1) (za (pv 2) zb)))) zb)))
   (zc (zcK (zv (zm zag (zr yq (zi c0i (hM hr) rfl (za (pv 0) (za zg zb))) zg) zg (zp _)) (zc (zu (i:=1) zcM.nd rfl (Or.inl rfl) (zi c0J (hM hr) rfl (za (zi c0i (hM hr) rfl (za (pv 0) (za zg zb))) (za (zr yf zg (zr yq (zi c0i (hM hr) rfl (za (pv 0) (za zg zb))) zg)) zb))))
   (zc (zu (i:=2) zcM.nd rfl (Or.inl rfl) (zi c0K (hM hr) rfl (za (zi c0i (hM hr) rfl (za (pv 0) (za zg zb))) (za (zr yf zg (zr yq (zi c0i (hM hr) rfl (za (pv 0) (za zg zb))) zg)) zb))))
   (ze (zu (i:=3) zcM.nd rfl (Or.inl rfl) (zI (za (zM zO (by rfl) T.b_list boot_list (za (pv 1) zb)) (za (zM zO (by rfl) T.b_list boot_list (za (pv 2) zb)) zb))))))) zq))
   (zc (zP (wF PySem.F.plainAttrs_list PySem.F.slot_list_append PySem.F.type_list_append yD (pv 4) (za (zi c0L (hM hr) rfl (za (zky c0M zdX (hM hr) rfl (za (zo zk (pv 3) zg (λ_ _=>rfl)) (za (zo zk (pv 3) zg (λ_ _=>rfl)) zb))) (za (pv 1) (za (pv 2) zb)))) zb)))
   (zc (yP PassesOwn.never rfl (zx (yw wj (pv 0) (yA zg) (yA zg))) (zU (i:=5) zcM.nd rfl (Or.inl rfl))
     (zc (zv (zJ (zF (zi c1u (hM hr) rfl (za (zo zk (pv 4) (zr yq (pv 5) zg) (λ_ _=>rfl)) (za (zr wQ (pv 5) zg) (za (zr yq (zi c0i (hM hr) rfl (za (pv 0) (za zg zb))) zg) zb)))))) (ze (zj zY)) zq)
   (ze (zv (PW.pt (zax (zJ (zF (zi c0H (hM hr) rfl (za (zo zk (pv 4) zg (λ_ _=>rfl)) zb)))) (we (zJ (zF (zi c0H (hM hr) rfl (za (zo zk (pv 4) zg (λ_ _=>rfl)) zb))))))) (ze (zj zY)) zq))))
   (zc (yP PassesOwn.never rfl (zx (pv 4)) (zU (i:=6) zcM.nd rfl (Or.inl rfl))
     (zc (zv (zJ (zF (zi c0H (hM hr) rfl (za (pv 6) zb)))) (ze (zj zY)) zq)
   (ze (zv (zm (zgr hr.units0) (zL (show CompScope (zf zeX) nn_law "_law_card_here" [] [] _ from csM) rfl (zx (zo zk (pv 6) zg (λ_ _=>rfl))) (λ_ _ _ _ _=>(yC (zm (yI (K:=K) rfl hr.units0) (pv 0) (zI zb) (zp _)))) (λ_ _ _ _ _=>(pv 0))) (zI zb) (zp _)) (ze (zv (zJ (zF (zi c0G (hM hr) rfl (za (zo zk (pv 6) zg (λ_ _=>rfl)) (za (zo zk (pv 6) zg (λ_ _=>rfl)) (za (zo zk (pv 6) zg (λ_ _=>rfl)) (za (zo zk (pv 6) zg (λ_ _=>rfl)) (za zg (za zg zb))))))))) (ze (zj zY)) zq)) zq))))
   (ze (zj zY)))))))))),?_⟩
  have hln:=zt;refine⟨_,rfl,a,ns,1,rfl,hS,by decide,_,rfl,a,ns,0,rfl,hS,by decide,_,_,rfl,rfl,(by show(0:Int)<5;decide),_,_,rfl,rfl,?_⟩;dsimp only;have m0a:=Int.emod_nonneg (ns.getD (0:Int).toNat 0) (b:=5) (by decide);have m1a:=Int.emod_lt_of_pos (ns.getD (0:Int).toNat 0) (b:=5) (by decide);refine⟨_,_,rfl,by omega,by omega,λl1a H1a s1a f1a e1a=>?_⟩;generalize husa:M1.couples _ _=usa at e1a;have hula:usa.length=(1+ns.getD (0:Int).toNat 0%5).toNat:=by rw[<-husa,M1.zey]
  have hula:1<=usa.length/\usa.length<=5:=by omega
  have hgca:M1.zc7 usa=true:=(M1.ziD usa).mpr ⟨by omega,by rw[<-husa];exact M1.zeO (by omega),λx hx=>by rw[<-husa]at hx;exact M1.zeW hx⟩;refine⟨_,rfl,a,ns,3,rfl,s1a.seq hS,by decide,_,rfl,a,ns,2,rfl,s1a.seq hS,by decide,_,_,rfl,rfl,(by show(0:Int)<4;decide),_,_,rfl,rfl,?_⟩;dsimp only;have j0a:=Int.emod_nonneg (ns.getD (2:Int).toNat 0) (b:=4) (by decide);have j1a:=Int.emod_lt_of_pos (ns.getD (2:Int).toNat 0) (b:=4) (by decide);refine⟨_,_,rfl,by omega,by omega,λl2a H2a tsa s2a f2a e2a htla htna htga=>?_⟩;have htla:1<=tsa.length/\tsa.length<=4:=by omega
  have hgja:M2.zel tsa=true:=(M2.zf7 tsa).mpr ⟨by omega,htna,λz hz=>(M2.zbR z).mp (htga z hz)⟩;have c2a:=s2a _ _ e1a;refine⟨_,rfl,l1a,_,rfl,.inl (SqL.of c2a),λlaa hlaa=>?_⟩;have s3a:=Same.new (o:=.lst (usa.map V.int)) hlaa;have e3a:upd H2a laa (.lst (usa.map V.int)) laa=some (.lst (usa.map V.int)):=zd;generalize hH3a:upd H2a laa _=H3a at s3a e3a ⊢;refine⟨_,rfl,l2a,_,rfl,.inl (SqL.of (s3a _ _ e2a)),λlba hlba=>?_⟩;have s4a:=Same.new (o:=.lst (tsa.map V.str)) hlba;have e4a:upd H3a lba (.lst (tsa.map V.str)) lba=some (.lst (tsa.map V.str)):=zd;generalize hH4a:upd H3a lba _=H4a at s4a e4a ⊢;refine⟨(by show 2<=sizeLine;decide),λlha hlha=>?_⟩;have s5a:=Same.new (o:=.lst [.ref laa,.ref lba]) hlha;have e5a:upd H4a lha (.lst [.ref laa,.ref lba]) lha=some (.lst [.ref laa,.ref lba]):=zd;generalize hH5a:upd H4a lha _=H5a at s5a e5a ⊢;have k5a:=(s3a.trans s4a).trans s5a;have t5a:=(s1a.trans s2a).trans k5a;have E5a:H5a l1a=some (.lst (usa.map V.int))/\H5a l2a=some (.lst (tsa.map V.str))/\H5a laa=some (.lst (usa.map V.int))/\H5a lba=some (.lst (tsa.map V.str)):=⟨k5a _ _ c2a,k5a _ _ e2a,s5a _ _ (s4a _ _ e3a),s5a _ _ e4a⟩;refine⟨_,rfl,lha,_,_,_,rfl,rfl,SqL.of e5a,rfl,_,rfl,lha,_,_,_,rfl,rfl,SqL.of e5a,rfl,?_⟩;intro x0 dx0 hx0 hdx0 hxd0;have sx0:=(Same.new (o:=.own x0) hdx0).newT (o:=.ins (zH K "Sheet") dx0 []) (l:=x0) (by rw[zh (Ne.symm hxd0)];exact hx0);refine⟨x0,dx0,laa,lba,usa,tsa,rfl,zd,SqL.of (sx0 _ _ E5a.2.2.1),by omega,SqL.of (sx0 _ _ E5a.2.2.2),by omega,λz hz=>?_,λz=>?_,λ_ z=>?_,λ_ _ H60 F60 hSh0 hkeep0=>⟨rfl,?_⟩⟩
  ·have:=((M2.zbR z).mp (htga z hz)).1;omega
  ·rw[hgca]at z;cases z
  ·rw[hgja]at z;cases z
  have kp0:Deed (λ_=>False) H5a F60 H60:=λb o e _=>hkeep0 b o (sx0 _ _ e) (zn e hx0);have s60:Same H5a H60:=λb o e=>(kp0 b o e (λz=>z)).1;refine⟨_,rfl,_,rfl,x0,l1a,l2a,F60,usa,tsa,rfl,hSh0,s60 _ _ E5a.1,s60 _ _ E5a.2.1,(kp0 _ _ E5a.2.1 (λz=>z)).2,by omega,by omega,λH70 G0 F0 st0 u0 g0 k0 ls0 s70 T0 gf0=>?_⟩;have D0:Deed (λ_=>False) H5a G0 H70:=λb o e n=>⟨s70 _ _ (s60 _ _ e),λz=>(gf0 b z).elim (kp0 b o e n).2 λw=>by rw[s60 _ _ e]at w;cases w⟩;have t70:=s60.trans s70;refine⟨(by show 1<=sizeLine;decide),λlst hlst=>?_⟩;have s8:=Same.new (o:=.lst [.ref st0]) hlst;have e8:upd H70 lst (.lst [.ref st0]) lst=some (.lst [.ref st0]):=zd;generalize hH8:upd H70 lst _=H8 at s8 e8 ⊢;have free0:∀b,H70 b=none->¬G0 b:=λb e z=>by obtain⟨o,e',_⟩:=T0.kd b z;rw[e]at e';cases e'
  have n8:¬G0 lst:=free0 _ hlst;have T08:=T0.same s8;have t08:Same H5a H8:=t70.trans s8;have tb8:=t08 _ _ (t5a _ _ hT);have a7:LQ K G0 H70 a (ns.map V.int):=(SqL.none (t5a.seq hS)).deed D0;have a8:=a7.same s8;refine⟨λσ H'=>∃(us:List Int)(ts:List Str)(l1 l2 lh la lb:Addr),σ=[some (.ref a),some (.ref l1),some (.ref l2),some (.ref lh),some (.ref lst),none,none]/\Same H8 H'/\(H' l1=some (.lst (us.map V.int))/\H' l2=some (.lst (ts.map V.str))/\H' la=some (.lst (us.map V.int))/\H' lb=some (.lst (ts.map V.str)))/\H' lh=some (.lst [.ref la,.ref lb])/\¬G0 l2/\M1.zc7 us=true/\M2.zel ts=true/\(1<=us.length/\us.length<=5)/\(1<=ts.length/\ts.length<=4)/\∀z∈ts,M2.zfn z=true,?_,?_⟩
  ·refine⟨_,rfl,a,ns,4,rfl,a8.sq,by decide,_,_,rfl,rfl,(by show(0:Int)<2;decide),rfl,_,rfl,yB (λ_=>?_) (λ_=>⟨usa,tsa,l1a,l2a,lha,laa,lba,rfl,Same.refl _,⟨t08 _ _ E5a.1,t08 _ _ E5a.2.1,t08 _ _ E5a.2.2.1,t08 _ _ E5a.2.2.2⟩,t08 _ _ e5a,(D0 _ _ E5a.2.1 (λz=>z)).2,hgca,hgja,hula,htla,htga⟩)⟩;refine⟨_,rfl,a,ns,6,rfl,a8.sq,by decide,_,rfl,a,ns,5,rfl,a8.sq,by decide,_,_,rfl,rfl,(by show(0:Int)<5;decide),_,_,rfl,rfl,?_⟩;dsimp only;have m0b:=Int.emod_nonneg (ns.getD (5:Int).toNat 0) (b:=5) (by decide);have m1b:=Int.emod_lt_of_pos (ns.getD (5:Int).toNat 0) (b:=5) (by decide);refine⟨_,_,rfl,by omega,by omega,λl1b H1b s1b f1b e1b=>?_⟩;generalize husb:M1.couples _ _=usb at e1b;have hulb:usb.length=(1+ns.getD (5:Int).toNat 0%5).toNat:=by rw[<-husb,M1.zey]
   have hulb:1<=usb.length/\usb.length<=5:=by omega
   have hgcb:M1.zc7 usb=true:=(M1.ziD usb).mpr ⟨by omega,by rw[<-husb];exact M1.zeO (by omega),λx hx=>by rw[<-husb]at hx;exact M1.zeW hx⟩;refine⟨_,rfl,a,ns,8,rfl,s1b.seq a8.sq,by decide,_,rfl,a,ns,7,rfl,s1b.seq a8.sq,by decide,_,_,rfl,rfl,(by show(0:Int)<4;decide),_,_,rfl,rfl,?_⟩;dsimp only;have j0b:=Int.emod_nonneg (ns.getD (7:Int).toNat 0) (b:=4) (by decide);have j1b:=Int.emod_lt_of_pos (ns.getD (7:Int).toNat 0) (b:=4) (by decide);refine⟨_,_,rfl,by omega,by omega,λl2b H2b tsb s2b f2b e2b htlb htnb htgb=>?_⟩;have htlb:1<=tsb.length/\tsb.length<=4:=by omega
   have hgjb:M2.zel tsb=true:=(M2.zf7 tsb).mpr ⟨by omega,htnb,λz hz=>(M2.zbR z).mp (htgb z hz)⟩;have c2b:=s2b _ _ e1b;refine⟨_,rfl,l1b,_,rfl,.inl (SqL.of c2b),λlab hlab=>?_⟩;have s3b:=Same.new (o:=.lst (usb.map V.int)) hlab;have e3b:upd H2b lab (.lst (usb.map V.int)) lab=some (.lst (usb.map V.int)):=zd;generalize hH3b:upd H2b lab _=H3b at s3b e3b ⊢;refine⟨_,rfl,l2b,_,rfl,.inl (SqL.of (s3b _ _ e2b)),λlbb hlbb=>?_⟩;have s4b:=Same.new (o:=.lst (tsb.map V.str)) hlbb;have e4b:upd H3b lbb (.lst (tsb.map V.str)) lbb=some (.lst (tsb.map V.str)):=zd;generalize hH4b:upd H3b lbb _=H4b at s4b e4b ⊢;refine⟨(by show 2<=sizeLine;decide),λlhb hlhb=>?_⟩;have s5b:=Same.new (o:=.lst [.ref lab,.ref lbb]) hlhb;have e5b:upd H4b lhb (.lst [.ref lab,.ref lbb]) lhb=some (.lst [.ref lab,.ref lbb]):=zd;generalize hH5b:upd H4b lhb _=H5b at s5b e5b ⊢;have k5b:=(s3b.trans s4b).trans s5b;have t5b:=(s1b.trans s2b).trans k5b;have E5b:H5b l1b=some (.lst (usb.map V.int))/\H5b l2b=some (.lst (tsb.map V.str))/\H5b lab=some (.lst (usb.map V.int))/\H5b lbb=some (.lst (tsb.map V.str)):=⟨k5b _ _ c2b,k5b _ _ e2b,s5b _ _ (s4b _ _ e3b),s5b _ _ e4b⟩;exact⟨usb,tsb,l1b,l2b,lhb,lab,lbb,rfl,t5b,E5b,e5b,free0 _ (s8.free (s1b.free f2b)),hgcb,hgjb,hulb,htlb,htgb⟩
  rintro σ' H9 ⟨us,ts,l1,l2,lh,la,lb,rfl,s9,E9,e9,n9,hgc,hgj,hul,htl,htg⟩;have T09:=T08.same s9;have l9:=s9 _ _ e8;have free9:∀b,H9 b=none->¬G0 b:=λb e z=>by obtain⟨o,e',_⟩:=T09.kd b z;rw[e]at e';cases e'
  refine⟨_,rfl,.inl ⟨rfl,_,SqL.of l9⟩,_,rfl,lh,_,_,_,rfl,rfl,SqL.of e9,rfl,_,rfl,lh,_,_,_,rfl,rfl,SqL.of e9,rfl,?_⟩;intro x1 dx1 hx1 hdx1 hxd1;have sx1:=(Same.new (o:=.own x1) hdx1).newT (o:=.ins (zH K "Sheet") dx1 []) (l:=x1) (by rw[zh (Ne.symm hxd1)];exact hx1);refine⟨x1,dx1,la,lb,us,ts,rfl,zd,SqL.of (sx1 _ _ E9.2.2.1),by omega,SqL.of (sx1 _ _ E9.2.2.2),by omega,λz hz=>?_,λz=>?_,λ_ z=>?_,λ_ _ H61 F61 hSh1 hkeep1=>⟨rfl,?_⟩⟩
  ·have:=((M2.zbR z).mp (htg z hz)).1;omega
  ·rw[hgc]at z;cases z
  ·rw[hgj]at z;cases z
  have kp1:Deed (λ_=>False) H9 F61 H61:=λb o e _=>hkeep1 b o (sx1 _ _ e) (zn e hx1);have s61:Same H9 H61:=λb o e=>(kp1 b o e (λz=>z)).1;refine⟨_,rfl,_,rfl,x1,l1,l2,F61,us,ts,rfl,hSh1,s61 _ _ E9.1,s61 _ _ E9.2.1,(kp1 _ _ E9.2.1 (λz=>z)).2,by omega,by omega,λH71 G1 F1 st1 u1 g1 k1 ls1 s71 T1 gf1=>?_⟩;have D1:Deed (λ_=>False) H9 G1 H71:=λb o e n=>⟨s71 _ _ (s61 _ _ e),λz=>(gf1 b z).elim (kp1 b o e n).2 λw=>by rw[s61 _ _ e]at w;cases w⟩;have t71:=s61.trans s71;have T0A:=T09.same t71;have lA:=t71 _ _ l9;refine⟨lst,_,_,rfl,rfl,lA,(by show 1<sizeLine;decide),?_⟩;have nA1:¬G1 lst:=(D1 _ _ l9 (λz=>z)).2;have dis:∀b,G0 b->¬G1 b:=λb z=>by obtain⟨o,e,_⟩:=T09.kd b z;exact(D1 b o e (λz=>z)).2
  have n01:¬G1 l2a:=(D1 _ _ (s9 _ _ (t08 _ _ E5a.2.1)) (λz=>z)).2;have np:∀{b:Addr}{zs:List Str},H71 b=some (.lst (zs.map V.str))->zs≠[]->b≠lst:=λ{b zs} z hz=>yc z lA λw=>by
   injection w with w
   cases zs with
   | nil=>exact hz rfl
   | cons y zs=>cases w
  have hts0:tsa≠[]:=by intro z;rw[z]at htla;simp at htla
  have hts1:ts≠[]:=by intro z;rw[z]at htl;simp at htl
  have e10:upd H71 lst (.lst ([V.ref st0]++[.ref st1])) lst=some (.lst [.ref st0,.ref st1]):=zd;have T0B:St7 K (upd H71 lst (.lst ([V.ref st0]++[.ref st1]))) G0 (Sh.new usa tsa) st0 l2a u0 g0 k0 x0 F0 ls0:=T0A.keep (λb o e _ z=>by rw[zh (fun(w:b=lst)=>n8 (by rw[<-w];exact z))];exact e) (by rw[zh (np T0A.hn hts0)];exact T0A.hn);have T1B:St7 K (upd H71 lst (.lst ([V.ref st0]++[.ref st1]))) G1 (Sh.new us ts) st1 l2 u1 g1 k1 x1 F1 ls1:=T1.keep (λb o e _ z=>by rw[zh (fun(w:b=lst)=>nA1 (by rw[<-w];exact z))];exact e) (by rw[zh (np T1.hn hts1)];exact T1.hn);have LB:LamS (zab K "by_place") zce (upd H71 lst (.lst ([V.ref st0]++[.ref st1]))):=(LamS.new (q:=zce) (t71 _ _ (s9 _ _ tb8))).put lA;have aB:LQ K (λb=>G0 b\/G1 b) (upd H71 lst (.lst ([V.ref st0]++[.ref st1]))) a (ns.map V.int):=by
   have go:∀{o:HO},H70 a=some o->¬G0 a->upd H71 lst (.lst ([V.ref st0]++[.ref st1])) a=some o/\¬(G0 a\/G1 a):=λ{o} r m=>⟨by rw[zh (zn r hlst)];exact t71 _ _ (s9 _ _ (s8 _ _ r)),λz=>z.elim m (D1 _ _ (s9 _ _ (s8 _ _ r)) (λz=>z)).2⟩;rcases a7 with⟨r | ⟨o,r⟩,m⟩ | h
   ·exact .inl ⟨.inl (go r m).1,(go r m).2⟩
   ·exact .inl ⟨.inr ⟨o,(go r m).1⟩,(go r m).2⟩
   ·exact .inr h
  generalize hHB:upd H71 lst _=HB at e10 T0B T1B LB aB ⊢;obtain⟨zs,ez,hzl,_⟩:=cut_ints ns 10 50 (by decide);refine⟨_,rfl,_,rfl,_,rfl,a,_,rfl,aB.sq,λlz hlz=>?_⟩;rw[show zf4 (ns.map V.int) (some 10) (some 50)=zs.map V.int from ez];have sC:=Same.new (o:=.lst (zs.map V.int)) hlz;have eC:upd HB lz (.lst (zs.map V.int)) lz=some (.lst (zs.map V.int)):=zd;have nC0:¬G0 lz:=λz=>by obtain⟨o,e,_⟩:=T0B.kd _ z;rw[hlz]at e;cases e
  have nC1:¬G1 lz:=λz=>by obtain⟨o,e,_⟩:=T1B.kd _ z;rw[hlz]at e;cases e
  generalize hHC:upd HB lz _=HC at sC eC ⊢;refine⟨lz,rfl,⟨_,SqL.of eC⟩,?_⟩;refine zfA (xs:=zs.map V.int) (λi σ H'=>∃(v:Option V)(G0 G1:Addr->Prop)(S0 S1:Sh)(F0 F1:Addr->Prop)(ls0 ls1:List Addr),σ=[some (.ref a),some (.ref l1),some (.ref l2),some (.ref lh),some (.ref lst),v,none]/\St7 K H' G0 S0 st0 l2a u0 g0 k0 x0 F0 ls0/\St7 K H' G1 S1 st1 l2 u1 g1 k1 x1 F1 ls1/\(∀b,G0 b->¬G1 b)/\¬G0 l2/\¬G1 l2a/\S0.taken<=i/\S1.taken<=i/\LQ K (λb=>G0 b\/G1 b) H' a (ns.map V.int)/\LQ K (λb=>G0 b\/G1 b) H' lst [.ref st0,.ref st1]/\(H' lz=some (.lst (zs.map V.int))/\¬(G0 lz\/G1 lz))/\LamS (zab K "by_place") zce H') ⟨none,G0,G1,_,_,F0,F1,ls0,ls1,rfl,T0B.same sC,T1B.same sC,dis,n9,n01,le_refl _,le_refl _,aB.same sC,LQ.of (sC _ _ e10) (λz=>z.elim n8 nA1),⟨eC,λz=>z.elim nC0 nC1⟩,LB.same sC⟩ ?_ ?_ ?_
  ·rintro i σ H1 hi ⟨v,G0,G1,S0,S1,F0,F1,ls0,ls1,rfl,i0,i1,i2,i3,i4,i5,i6,i7,i8,i9,i10⟩;exact SqL.of i9.1
  ·rintro i y σ H1 hy ⟨v,G0,G1,S0,S1,F0,F1,ls0,ls1,rfl,i0,i1,i2,i3,i4,i5,i6,i7,i8,i9,i10⟩;obtain⟨hi,rfl⟩:=yF hy;generalize zs.getD i 0=cell;have hc2:cell%2=0\/cell%2=1:=by omega
   rcases hc2 with hc | hc
   ·refine⟨_,rfl,_,rfl,_,_,rfl,rfl,(by show(0:Int)<2;decide),lst,_,_,_,rfl,rfl,i8.sq,(by show atI _ (cell%2)=_;rw[hc];rfl),_,rfl,_,_,rfl,rfl,⟨by decide,by decide⟩,_,rfl,a,ns,9,rfl,i7.sq,by decide,_,_,rfl,rfl,(by show(0:Int)<4;decide),G0,S0,st0,l2a,u0,g0,k0,x0,F0,ls0,_,_,rfl,i0,by omega,i10,λH2 G' S' F' ls' T' hp ht d L'=>⟨_,rfl,yl ?_⟩⟩;obtain⟨Tb,dj⟩:=i1.beside (λb z w=>i2 b w z) i3 d;have dU:=deed_both (G1:=G1) d;have i3':=(d _ _ i1.hn (λ_ z=>by cases z) i3).2;refine⟨_,rfl,lst,_,_,_,rfl,rfl,(za3 i8 dU).sq,rfl,G',S',st0,l2a,u0,g0,k0,x0,F',ls',rfl,T',λH3 s3=>⟨_,rfl,yl ?_⟩⟩;refine⟨_,rfl,lst,_,_,_,rfl,rfl,((za3 i8 dU).same s3).sq,rfl,G1,S1,st1,l2,u1,g1,k1,x1,F1,ls1,rfl,Tb.same s3,λH4 s4=>⟨_,rfl,yl ?_⟩⟩;have t4:=s3.trans s4;exact⟨_,G',G1,S',S1,F',F1,ls',ls1,rfl,T'.same t4,Tb.same t4,λb z w=>dj b w z,i3',i4,by omega,by omega,(za3 i7 dU).same t4,(za3 i8 dU).same t4,⟨t4 _ _ (dU _ _ i9.1 (λ_ z=>by cases z) i9.2).1,(dU _ _ i9.1 (λ_ z=>by cases z) i9.2).2⟩,L'.same t4⟩
   ·refine⟨_,rfl,_,rfl,_,_,rfl,rfl,(by show(0:Int)<2;decide),lst,_,_,_,rfl,rfl,i8.sq,(by show atI _ (cell%2)=_;rw[hc];rfl),_,rfl,_,_,rfl,rfl,⟨by decide,by decide⟩,_,rfl,a,ns,9,rfl,i7.sq,by decide,_,_,rfl,rfl,(by show(0:Int)<4;decide),G1,S1,st1,l2,u1,g1,k1,x1,F1,ls1,_,_,rfl,i1,by omega,i10,λH2 G' S' F' ls' T' hp ht d L'=>⟨_,rfl,yl ?_⟩⟩;obtain⟨Tb,dj⟩:=i0.beside i2 i4 d;have dU:=deed_both' (G0:=G0) d;have i4':=(d _ _ i0.hn (λ_ z=>by cases z) i4).2;refine⟨_,rfl,lst,_,_,_,rfl,rfl,(za3 i8 dU).sq,rfl,G0,S0,st0,l2a,u0,g0,k0,x0,F0,ls0,rfl,Tb,λH3 s3=>⟨_,rfl,yl ?_⟩⟩;refine⟨_,rfl,lst,_,_,_,rfl,rfl,((za3 i8 dU).same s3).sq,rfl,G',S',st1,l2,u1,g1,k1,x1,F',ls',rfl,T'.same s3,λH4 s4=>⟨_,rfl,yl ?_⟩⟩;have t4:=s3.trans s4;exact⟨_,G0,G',S0,S',F0,F',ls0,ls',rfl,Tb.same t4,T'.same t4,dj,i3,i4',by omega,by omega,(za3 i7 dU).same t4,(za3 i8 dU).same t4,⟨t4 _ _ (dU _ _ i9.1 (λ_ z=>by cases z) i9.2).1,(dU _ _ i9.1 (λ_ z=>by cases z) i9.2).2⟩,L'.same t4⟩
  rintro σ H1 ⟨v,G0,G1,S0,S1,F0,F1,ls0,ls1,rfl,i0,i1,i2,i3,i4,i5,i6,i7,i8,i9,i10⟩;refine⟨_,rfl,lst,rfl,⟨_,i8.sq⟩,?_⟩;refine zfA (xs:=[.ref st0,.ref st1]) (λi σ H'=>∃w:Option V,σ=[some (.ref a),some (.ref l1),some (.ref l2),some (.ref lh),some (.ref lst),v,w]/\SameN H1 H'/\LamS (zab K "by_place") zce H') ⟨none,rfl,(Same.refl _).toN,i10⟩ ?_ ?_ ?_
  ·rintro i σ H2 hi ⟨w,rfl,s2,_⟩;exact s2.seq i8.sq
  ·rintro i ev σ H2 hev ⟨w,rfl,s2,L2⟩;have hev:=mem_of_getElem? hev;obtain⟨st,n,u,g,k,x,G,S,F,ls,rfl,T⟩:∃(st n u g k x:Addr)(G:Addr->Prop)(S:Sh)(F:Addr->Prop)(ls:List Addr),ev=.ref st/\St7 K H2 G S st n u g k x F ls:=by
    simp only[mem_cons,not_mem_nil,or_false]at hev;rcases hev with h | h
    ·exact⟨st0,_,_,_,_,_,_,_,_,_,h,i0.sameN s2⟩
    ·exact⟨st1,_,_,_,_,_,_,_,_,_,h,i1.sameN s2⟩
   refine⟨_,rfl,G,S,st,n,u,g,k,x,F,ls,rfl,T,λH3 s3=>⟨_,rfl,yl ?_⟩⟩;have T3:=T.same s3;have ok:=T3.sh.ok;have p1:=ok.p1;have p15:=ok.p15;have hlen:=T3.hr.len;rw[S.rows_len]at hlen;have hrl15:S.rows.length<=15:=by rw[S.rows_len];exact p15
   refine⟨_,rfl,st,_,_,_,rfl,rfl,SqL.of T3.hst,rfl,k,rfl,⟨_,SqL.of T3.hr.1⟩,?_⟩;refine zaF (SqL.of T3.hr.1) (T3.hr.2.2.imp λ_ _ z=>SqL.of z.1) (by omega) (λm d H' Q hm h=>?_) (λm H' Q h=>⟨_,rfl,h⟩) λks H4 s4 r4=>?_
   ·refine⟨_,rfl,(by show 0<=sizeLine;decide),λl6 hl6=>?_⟩;have s6:=Same.new (o:=.lst []) hl6;refine⟨m,l6,_,[],rfl,rfl,s6.seq hm,SqL.new,zA _,rfl,_,rfl,?_⟩;rw[show eqL (d.map V.int) []=decide (d=[])from yH _ []];exact h _ s6
   intro li hli;have s5:=s4.newT (o:=.lst (ks.map V.ref)) hli;have e5:upd H4 li (.lst (ks.map V.ref)) li=some (.lst (ks.map V.ref)):=zd;have hkl:ks.length=S.handed.length:=by rw[r4.length,Sh.handed_len ok]
   generalize hH5:upd H4 li _=H5 at s5 e5 ⊢;refine⟨(by show 0<=sizeLine;decide),λl6 hl6=>?_⟩;have s6:=Same.new (o:=.lst []) hl6;refine⟨li,l6,_,rfl,rfl,SqL.of (s6 _ _ e5),SqL.new,_,rfl,?_⟩;rw[length_map,hkl];generalize hH6:upd H5 l6 _=H6 at s6 ⊢;have T6:=T3.same (s5.trans s6);have L6:=L2.same ((s3.trans s5).trans s6);have u6:SameN H1 H6:=s2.trans ((s3.trans s5).trans s6).toN;refine yj (λh1=>?_) (λ_=>⟨_,rfl,u6,L6⟩);exact⟨_,rfl,st,_,_,_,rfl,rfl,SqL.of T6.hst,rfl,_,rfl,st,_,_,_,rfl,rfl,SqL.of T6.hst,rfl,_,rfl,st,_,_,_,rfl,rfl,SqL.of T6.hst,rfl,_,rfl,st,_,_,_,rfl,rfl,SqL.of T6.hst,rfl,x,n,u,k,F,S,ls,0,0,rfl,T6.sh,T6.hn,T6.hu,T6.hr.1,T6.hr.2.2.imp λ_ _ z=>z.1,by omega,by omega,L6,λH7 s7 L7=>⟨_,rfl,yl ⟨_,rfl,u6.trans s7,L7⟩⟩⟩
  ·rintro σ H2 ⟨w,rfl,_⟩;exact q _
variable {l:PySem.W.OpenLaw}
theorem all_mk{w:World}{K:Frag}{h:Heap}{mg:Str->Option Value}{fa f84 f76 oC_Sheet:Addr}(X:K.In h)(G:h.Ns mainGlobals mg)(hfa:mg "law"=some (.ref fa))
 {oc76 kV76 dc76 pm76 cd76 ct76 oc84 kV84 dc84 pm84 cd84 ct84:Value} {od76 an76 od84 an84:Option Addr} {sl76 sl84:Array (Option Value)}
 (oa_Sheet:nsIn K mainGlobals "Sheet"=some (some (.ref oC_Sheet)))
 (a0:DM K oC_Sheet "taken" "Sheet.taken" zcX ["self"])
 (a1:DM K oC_Sheet "is_sealed" "Sheet.is_sealed" zaq ["self"])
 (a2:DM K oC_Sheet "refuse_if_sealed" "Sheet.refuse_if_sealed" yO ["self"])
 (a3:DM K oC_Sheet "refuse_unknown_judge" "Sheet.refuse_unknown_judge" yr zK)
 (a4:DM K oC_Sheet "couples" "Sheet.couples" zbj zy)
 (a5:DM K oC_Sheet "struck" "Sheet.struck" zb3 ["self"])
 (a6:DM K oC_Sheet "judges" "Sheet.judges" zbX ["self"])
 (a7:DM K oC_Sheet "handed" "Sheet.handed" zar zQ)
 (a8:DF K "whole_card" zdN zaO)
 (a9:DF K "mark_on" zfW zdU)
 (a10:DF K "without_couple" wy wl)
 (a11:DF K "one_up" zg7 zeE)
 (a12:DF K "good_number" zcL ["couple"])
 (a13:DF K "small_letter" zb8 ["sign"])
 (a14:DF K "good_length" zcP yU)
 (a15:DF K "all_unlike" zdz ["things"])
 (a16:DF K "majority_of" zcQ ["many"])
 (a17:DF K "granting" zdl za6)
 (a18:DF K "_law_whole" zep yL)
 (a19:DF K "_law_at" zhR zeF)
 (a20:DF K "_law_texts" zew zat)
 (a21:DF K "_law_mix" zfY zb7)
 (a22:DF K "_law_couples" zaJ zao)
 (a23:DF K "_law_judges" zbt zaI)
 (a24:DF K "_law_marks" zcF ww)
 (a25:DF K "_law_key" zeI zdT)
 (a26:DF K "_law_rows" ze2 za2)
 (a27:DF K "_law_part" zcd zct)
 (a28:DF K "_law_without" zaH zal)
 (a29:DF K "_law_words" zcG zbs)
 (a30:DF K "_law_ladder" zbO zaS)
 (a31:DF K "_law_moved" zcn zbJ)
 (a32:DF K "_law_state" zcA zbw)
 (a33:DM K oC_Sheet "hand_in" "Sheet.hand_in" zbk wA)
 (a34:DM K oC_Sheet "strike" "Sheet.strike" zb2 wS)
 (a35:DM K oC_Sheet "seal" "Sheet.seal" zdP ["self"])
 (a36:DM K oC_Sheet "card_of" "Sheet.card_of" zbn yd)
 (a37:DF K "good_couples" zaw ["couples"])
 (a38:DF K "good_name" zcp ["judge"])
 (a39:DF K "marks_of" zdd wW)
 (a40:DF K "granted" zgl wV)
 (a41:DF K "granted_sum" zcW yX)
 (a42:DF K "first_number" zb0 ["marks"])
 (a43:DF K "refuse_fewer_cards" wv zz)
 (a44:DF K "_law_same" zfc wZ)
 (a45:DF K "_law_pairs" zd5 zby)
 (a46:DF K "_law_fours" zd9 zbI)
 (a47:DF K "_law_card" ze3 zcu)
 (a48:DF K "_law_spots" za9 zaj)
 (a49:DF K "_law_parts" zd2 zbx)
 (a50:DF K "_law_line" ze0 zcD)
 (a51:DM K oC_Sheet "cards" "Sheet.cards" zaN yh)
 (a52:DF K "good_judges" zaL ["judges"])
 (a53:DF K "ladder_of" zcI zbD)
 (a54:DF K "unlike_at" zef zam)
 (a55:DF K "cards_without" wT yS)
 (a56:DF K "_law_lists" zeC zbA)
 (a57:DF K "_law_dealt" zev zbM)
 (a58:DF K "_law_firsts" zbG wE)
 (a59:DF K "_law_strike" zdD zaR)
 (a60:DM K oC_Sheet "__init__" "Sheet.__init__" zdH zaU)
 (a61:DF K "is_ahead" zfb zcl)
 (a62:DF K "parting_of" zdy zaZ)
 (a63:DF K "row_text" zb4 za1)
 (a64:DF K "_law_stands" wC zaQ)
 (a65:DF K "_law_deciding" wq wP)
 (a66:DF K "place_among" zaX zan)
 (a67:DF K "_law_right" zet zbu)
 (a68:DF K "places_of" za7 yM)
 (a69:DF K "places" zhQ ["sheet"])
 (a70:DF K "left_out" ze9 zcy)
 (a71:DF K "step_up" zeJ zdw)
 (a72:DF K "firsts_of" zcH zap)
 (a73:DF K "firsts" zha ["sheet"])
 (a74:DF K "table_row" zd4 zbN)
 (a75:DF K "deciders" zdh ["sheet"])
 (a76:nsIn K mainGlobals "by_place"=some (some (.ref f76))) (l76:K.lookup f76=some ⟨oc76,od76,.func (fnOf "by_place" "by_place" (zav zaA) (wk zaA) (zf zaA) .none kV76 dc76 pm76 an76 cd76 ct76),sl76⟩) (c76:codeIn K cd76 "by_place"=true) (k76:keepIn K (.ref f76)=true)
 {lc lP:Addr} {lo:Value} {ld:Option Addr} {ls:Array (Option Value)} {lvs:Array Value} (qe:cd76=.ref lc) (qk:K.lookup lc=some ⟨lo,ld,.fields lvs,ls⟩) (qv:lvs[11]? = some (.ref lP)) (qh:PySem.W.codeHdIn K lc lP=true) (qn:K.lookup lP=none)
 (a77:DF K "ranking_of" zdR wD)
 (a78:DF K "partings_of" zaT zaf)
 (a79:DF K "ranking" zfU ["sheet"])
 (a80:DF K "partings" ze1 ["sheet"])
 (a81:DF K "table" zgU ["sheet"])
 (a82:DF K "_law_told" zaE za5)
 (a83:DF K "_law_deed" zdE zcx)
 (a84:nsIn K mainGlobals "law"=some (some (.ref f84))) (l84:K.lookup f84=some ⟨oc84,od84,.func (fnOf "law" "law" (zav zeX) (wk zeX) (zf zeX) .none kV84 dc84 pm84 an84 cd84 ct84),sl84⟩) (c84:codeIn K cd84 "law"=true) (k84:keepIn K (.ref f84)=true)
 (z0:nsIn K mainGlobals "all"=some none)
 (z1:nsIn K mainGlobals "bool"=some none)
 (z2:nsIn K mainGlobals "int"=some none)
 (z3:nsIn K mainGlobals "isinstance"=some none)
 (z4:nsIn K mainGlobals "len"=some none)
 (z5:nsIn K mainGlobals "list"=some none)
 (z6:nsIn K mainGlobals "max"=some none)
 (z7:nsIn K mainGlobals "min"=some none)
 (z8:nsIn K mainGlobals "range"=some none)
 (z9:nsIn K mainGlobals "set"=some none)
 (z10:nsIn K mainGlobals "sorted"=some none)
 (z11:nsIn K mainGlobals "str"=some none)
 (z12:nsIn K mainGlobals "sum"=some none)
 (z13:nsIn K mainGlobals "tuple"=some none)
 (z14:nsIn K mainGlobals "zip"=some none)
 {t0:Tok} (y0:nsIn K mainGlobals "MOST_COUPLES"=some (some (.int 24 t0)))
 {t1:Tok} (y1:nsIn K mainGlobals "MOST_JUDGES"=some (some (.int 15 t1)))
 {t2:Tok} (y2:nsIn K mainGlobals "MOST_NUMBER"=some (some (.int 999 t2)))
 {t3:Tok} (y3:nsIn K mainGlobals "MOST_SIGNS"=some (some (.int 8 t3)))
 {t4:Tok} (y4:nsIn K mainGlobals "MOST_CARDS"=some (some (.int 200 t4)))
 {xc1:Addr} (xa1:nsIn K mainGlobals "BadCouples"=some (some (.ref xc1)))
 {xc2:Addr} (xa2:nsIn K mainGlobals "BadJudges"=some (some (.ref xc2)))
 {xc3:Addr} (xa3:nsIn K mainGlobals "SheetSealed"=some (some (.ref xc3)))
 {xc4:Addr} (xa4:nsIn K mainGlobals "UnknownJudge"=some (some (.ref xc4)))
 {xc5:Addr} (xa5:nsIn K mainGlobals "BadCard"=some (some (.ref xc5)))
 {xc6:Addr} (xa6:nsIn K mainGlobals "TooManyCards"=some (some (.ref xc6)))
 {xc7:Addr} (xa7:nsIn K mainGlobals "UnknownCouple"=some (some (.ref xc7)))
 {xc8:Addr} (xa8:nsIn K mainGlobals "LastCouple"=some (some (.ref xc8)))
 {xc9:Addr} (xa9:nsIn K mainGlobals "NoCard"=some (some (.ref xc9)))
 {xc11:Addr} (xa11:nsIn K mainGlobals "AtTop"=some (some (.ref xc11)))
 (xe1:excIn K xc1 bmV "ValueError.__new__"=true)
 (xe2:excIn K xc2 bmV "ValueError.__new__"=true)
 (xe3:excIn K xc3 bmV "ValueError.__new__"=true)
 (xe4:excIn K xc4 bmV "ValueError.__new__"=true)
 (xe5:excIn K xc5 bmV "ValueError.__new__"=true)
 (xe6:excIn K xc6 bmV "ValueError.__new__"=true)
 (xe7:excIn K xc7 bmV "ValueError.__new__"=true)
 (xe8:excIn K xc8 bmV "ValueError.__new__"=true)
 (xe9:excIn K xc9 bmV "ValueError.__new__"=true)
 (xe11:excIn K xc11 bmV "ValueError.__new__"=true)
 (opg_Sheet:plainGet K oC_Sheet Str.empty=true)
 (ohd_Sheet:hasDictIn K oC_Sheet=true)
 (opo_Sheet:plainOver K oC_Sheet=true)
 (osa_Sheet:findIn K (.ref oC_Sheet) "__setattr__"=some (some (.builtin "object.__setattr__")))
 (omk_Sheet:makesIn K oC_Sheet=true)
 (okc_Sheet:keepIn K (.ref oC_Sheet)=true)
 (on_Sheet_standing:findIn K (.ref oC_Sheet) "standing"=some none)
 (on_Sheet_struck_so_far:findIn K (.ref oC_Sheet) "struck_so_far"=some none)
 (on_Sheet_panel:findIn K (.ref oC_Sheet) "panel"=some none)
 (on_Sheet_card_by_judge:findIn K (.ref oC_Sheet) "card_by_judge"=some none)
 (on_Sheet_taken_so_far:findIn K (.ref oC_Sheet) "taken_so_far"=some none)
 (on_Sheet_sealed:findIn K (.ref oC_Sheet) "sealed"=some none)
 : LamK K "by_place"/\∃fd:FuncData,(∀(s:Shared)(v:Value),BindsTo s fd ⟨[v],[]⟩ [("_law_script",v)])/\∀base:Heap,K.In base->base.Ns mainGlobals mg->zfP mg base->FnOk l.prog w K mg base CX0 17 fa fd ["_law_script"] (zg0 K):=by
 obtain⟨L76,LK⟩:=lam_mk a76 l76 qe qk qv qh qn;have e:=hfa.symm.trans (mg_of X G a84);cases e;have oc_Sheet:=clsA_of oa_Sheet;have T:Txt K mg:=⟨mg_none_of X G z0,mg_none_of X G z1,mg_none_of X G z2,mg_none_of X G z3,mg_none_of X G z4,mg_none_of X G z5,mg_none_of X G z6,mg_none_of X G z7,mg_none_of X G z8,mg_none_of X G z9,mg_none_of X G z10,mg_none_of X G z11,mg_none_of X G z12,mg_none_of X G z13,mg_none_of X G z14,⟨_,mg_of X G y0⟩,⟨_,mg_of X G y1⟩,⟨_,mg_of X G y2⟩,⟨_,mg_of X G y3⟩,⟨_,mg_of X G y4⟩,⟨xc1,xa1,mg_of X G xa1,xe1⟩,⟨xc2,xa2,mg_of X G xa2,xe2⟩,⟨xc3,xa3,mg_of X G xa3,xe3⟩,⟨xc4,xa4,mg_of X G xa4,xe4⟩,⟨xc5,xa5,mg_of X G xa5,xe5⟩,⟨xc6,xa6,mg_of X G xa6,xe6⟩,⟨xc7,xa7,mg_of X G xa7,xe7⟩,⟨xc8,xa8,mg_of X G xa8,xe8⟩,⟨xc9,xa9,mg_of X G xa9,xe9⟩,⟨xc11,xa11,mg_of X G xa11,xe11⟩,oc_Sheet ▸ ⟨opg_Sheet,ohd_Sheet,opo_Sheet,osa_Sheet⟩,oc_Sheet ▸ on_Sheet_standing,oc_Sheet ▸ on_Sheet_struck_so_far,oc_Sheet ▸ on_Sheet_panel,oc_Sheet ▸ on_Sheet_card_by_judge,oc_Sheet ▸ on_Sheet_taken_so_far,oc_Sheet ▸ on_Sheet_sealed⟩;have F76:=zgf (st:=zaA) l76 c76 k76;have b76:=F76.binds (ps:=["places","couples"]) λ_ _ _ _ _ _=>onS λ_=>onS λ_=>on0 rfl;have F84:=zgf (st:=zeX) l84 c84 k84;have b84:=F84.binds (ps:=["_law_script"]) λ_ _ _ _ _ _=>onS λ_=>on0 rfl;refine⟨LK,fnOf "law" "law" (zav zeX) (wk zeX) (zf zeX) .none kV84 dc84 pm84 an84 cd84 ct84,λs v=>.of_eq rfl,λbase _ _ B=>?_⟩;have C0:=canM l.prog w base oc_Sheet a0 λF=>zhh F T;have C1:=canM l.prog w base oc_Sheet a1 λF=>zff F T;have C2:=zit l.prog w base oc_Sheet a2 λF=>zcj F T;have C3:=zit l.prog w base oc_Sheet a3 λF=>zbc F T;have C4:=canM l.prog w base oc_Sheet a4 λF=>zgm F T;have C5:=canM l.prog w base oc_Sheet a5 λF=>zgG F T;have C6:=canM l.prog w base oc_Sheet a6 λF=>zgJ F T;have C7:=canM l.prog w base oc_Sheet a7 λF=>zgS F T;have C8:=zS l.prog w base X G a8 λF=>zh7 F T;have C9:=zS l.prog w base X G a9 λF=>ok_mark_on F T;have C10:=zS l.prog w base X G a10 λF=>zft F T;have C11:=canFX l.prog w base X G a11 λF=>ok_one_up F T;have C12:=zS l.prog w base X G a12 λF=>zhv F T;have C13:=zS l.prog w base X G a13 λF=>zgK F T;have C14:=zS l.prog w base X G a14 λF=>zhm F T;have C15:=zS l.prog w base X G a15 λF=>zh8 F T;have C16:=zS l.prog w base X G a16 λF=>zg3 F T;have C17:=zS l.prog w base X G a17 λF=>zj5 F T;have C18:=zS l.prog w base X G a18 λF=>zjj F T;have C19:=zS l.prog w base X G a19 λF=>ok_law_at F T;have C20:=zS l.prog w base X G a20 λF=>zja F T;have C21:=zS l.prog w base X G a21 λF=>zkR F T;have C22:=zS l.prog w base X G a22 λF=>zg6 F T;have C23:=zS l.prog w base X G a23 λF=>zh6 F T;have C24:=zS l.prog w base X G a24 λF=>zi9 F T;have C25:=zS l.prog w base X G a25 λF=>zkW F T;have C26:=zS l.prog w base X G a26 λF=>zjQ F T;have C27:=zS l.prog w base X G a27 λF=>zkC F T;have C28:=zS l.prog w base X G a28 λF=>zgW F T;have C29:=zS l.prog w base X G a29 λF=>zjf F T;have C30:=zS l.prog w base X G a30 λF=>zhW F T;have C31:=zS l.prog w base X G a31 λF=>ziK F T;have C32:=zS l.prog w base X G a32 λF=>ziY F T;have C33:=zit l.prog w base oc_Sheet a33 λF=>zf3 F T C8 C2 C3;have C34:=zit l.prog w base oc_Sheet a34 λF=>zgT F T C10 C7 C2;have C35:=zit l.prog w base oc_Sheet a35 λF=>zh9 F T C2;have C36:=zit l.prog w base oc_Sheet a36 λF=>zfZ F T C3;have C37:=zS l.prog w base X G a37 λF=>zgH F T C12 C14 C15;have C38:=zS l.prog w base X G a38 λF=>zjx F T C13 C14;have C39:=zS l.prog w base X G a39 λF=>zku F T C9;have C40:=zS l.prog w base X G a40 λF=>zk5 F T C17;have C41:=zS l.prog w base X G a41 λF=>zhH F T C17;have C42:=zS l.prog w base X G a42 λF=>zgI F T C16;have C43:=zS l.prog w base X G a43 λF=>zdY F T C7;have C44:=zS l.prog w base X G a44 λF=>zjK F T C18;have C45:=zS l.prog w base X G a45 λF=>zjC F T C18;have C46:=zS l.prog w base X G a46 λF=>ziV F T C18;have C47:=zS l.prog w base X G a47 λF=>zkH F T C21;have C48:=zS l.prog w base X G a48 λF=>zi3 F T C24 C25;have C49:=zS l.prog w base X G a49 λF=>zjt F T C24 C26 C27;have C50:=zS l.prog w base X G a50 λF=>zke F T C24 C29 C30;have C51:=canM l.prog w base oc_Sheet a51 λF=>zhS F T C7 C36;have C52:=zS l.prog w base X G a52 λF=>zhg F T C38 C14 C15;have C53:=zS l.prog w base X G a53 λF=>zi0 F T C40 C41;have C54:=zS l.prog w base X G a54 λF=>ziM F T C40 C41 C42;have C55:=zS l.prog w base X G a55 λF=>zga F T C7 C36;have C56:=zS l.prog w base X G a56 λF=>zjD F T C44;have C57:=zS l.prog w base X G a57 λF=>zjs F T C21 C47;have C58:=zS l.prog w base X G a58 λF=>zia F T C48;have C59:=zS l.prog w base X G a59 λF=>zie F T C28 C34;have C60:=canK l.prog w base oc_Sheet X G oa_Sheet omk_Sheet okc_Sheet a60 λF=>zif F T C37 C52;have C61:=zS l.prog w base X G a61 λF=>zkL F T C40 C41 C42 C54;have C62:=zS l.prog w base X G a62 λF=>zid F T C40 C42 C54;have C63:=zS l.prog w base X G a63 λF=>zjO F T C39 C53 C4 C51;have C64:=zS l.prog w base X G a64 λF=>zhY F T C18 C44 C20 C56 C4 C5 C6 C7 C51 C36 C0 C1;have C65:=zS l.prog w base X G a65 λF=>zgO F T C58;have C66:=zS l.prog w base X G a66 λF=>zhr F T C61;have C67:=zS l.prog w base X G a67 λF=>zi1 F T C64;have C68:=zS l.prog w base X G a68 λF=>zjz F T C39 C66;have C69:=zS l.prog w base X G a69 λF=>ok_places F T C68 C43 C4 C51;have C70:=zS l.prog w base X G a70 λF=>zjV F T C68 C43 C55 C4 C36;have C71:=zS l.prog w base X G a71 λF=>ok_step_up F T C11 C68 C4 C7 C36;have C72:=zS l.prog w base X G a72 λF=>zjw F T C68;have C73:=zS l.prog w base X G a73 λF=>ok_firsts F T C43 C72 C4 C51;have C74:=zS l.prog w base X G a74 λF=>zjh F T C69 C63 C4;have C75:=zS l.prog w base X G a75 λF=>zjR F T C73 C43 C72 C55 C4 C7;have C76:Can l.prog w K mg base 11 "by_place" ["places","couples"] (zcs K):=Can.of F76 (zjF F76 T L76 B C69) (mg_of X G a76) b76;have C77:=zS l.prog w base X G a77 λF=>zh3 F T C68 C76;have C78:=zS l.prog w base X G a78 λF=>zg1 F T C39 C77 C62;have C79:=zS l.prog w base X G a79 λF=>ok_ranking F T C77 C43 C4 C51;have C80:=zS l.prog w base X G a80 λF=>zkq F T C78 C43 C4 C51;have C81:=zS l.prog w base X G a81 λF=>ok_table F T C79 C63;have C82:=zS l.prog w base X G a82 λF=>zkm F T C69 C79 C73 C80 C70 C75 C71 C74 C81 C18 C44 C20 C45 C46 C48 C26 C49 C50 C58 C65 C31;have C83:=zS l.prog w base X G a83 λF=>zjX F T C57 C82 C59 C33 C35;exact ok_law F84 T C19 C22 C23 C82 C83 C32 C67 C60
theorem walk{q:Program}{loose:List Str}{XP:(Str->Option Value)->Heap->Prop}{YP:World->Heap->Prop}{d:DefRec}{K:Params->Frag}(hn:l.most=some 63)(hdf:d.params.defaults=[])
 (hY:∀(w:World)(h:Heap),YP w h->(K w.params).In h)
 (hrec:∃dd,(PyProof.Rows.recsOf q).find? (λe=>e.name==("by_place":Str))=some dd)
 (F:∀(w:World)(mg:Str->Option Value)(fa:Addr)(h:Heap),(K w.params).In h->h.Ns mainGlobals mg->mg d.name=some (.ref fa) ->
   LamK (K w.params) "by_place"/\∃fd:FuncData,(∀(s:Shared)(u:Value),BindsTo s fd ⟨[u],[]⟩ [("_law_script",u)])/\∀base:Heap,(K w.params).In base->base.Ns mainGlobals mg->zfP mg base->FnOk l.prog w (K w.params) mg base CX0 17 fa fd ["_law_script"] (zg0 (K w.params))) :
 PySem.W.WalkO q loose XP YP l.row.toRowW d [] (λf vs=>PySem.call f vs) :=
 L2.walk_ofT (n:=63) (k:=17) (x:= "_law_script") (y:= "by_place") (CX:=λ_=>CX0) (sp:=λw=>zg0 (K w.params)) hn (by decide) hdf ⟨rfl,by decide,by decide⟩ hrec hY F (λ_ _ a ns hl hT hS=>⟨a,ns,rfl,hS,hl,hT,λ_=>rfl⟩) λ_ _ _ _ _ z=>z
end
end Pp
namespace PySem.W.Fast
def tw9456530487596675881:=0
def tw4571409451645802113:=0
def tw6815170762110021712:=0
def tw10896384452202396434:=0
def tw16316467602316817437:=0
def tw2151024208672348156:=0
def tw7431568533838861062:=0
def tw17264185029700924111:=0
def tw7357966501370217122:=0
def tw10223604759667643436:=0
def tw9192588624178883849:=0
def tw10307097675507481051:=0
def tw17283129992043971660:=0
def tw7449190957196387603:=0
def tw8724280137435057371:=0
def tw14993763087948218070:=0
def tw266788621667087158:=0
def tw4026271544330531260:=0
def tw12011651211853957105:=0
def tw15744511795881311632:=0
def tw14390423122696421539:=0
def tw13224041944954578779:=0
def tw13679342959238903327:=0
def tw7605568730217207066:=0
def tw6212079028710590693:=0
def tw6741987677119072762:=0
def tw15035367233220636546:=0
def tw2406186802724363303:=0
def tw1202712428136445739:=0
def tw13501247606446751735:=0
def tw12645835015544176837:=0
def tw6767136617466455489:=0
def tw11593152160290927527:=0
def tw17708303664423911689:=0
def tw2485130389972252940:=0
def tw13248189905851326381:=0
def tw7514575168236523131:=0
def tw11728036022480875661:=0
def tw16308853431949209676:=0
def tw1047788068620764437:=0
def tw15747933751716388993:=0
def tw14784740720109058939:=0
def tw2663641773067048614:=0
def tw5555518594223313494:=0
def tw17193478384967537054:=0
def tw4132950873600099143:=0
def tw103282479725459646:=0
def tw1428610360334433890:=0
def tw11139545020468740361:=0
def tw7500950726397503121:=0
def tw1880233273645280344:=0
def tw6927707062050829919:=0
def tw3954176626839076099:=0
def tw222153591081491617:=0
def tw5929143830273461184:=0
def tw13322507101511961707:=0
def tw6740900837258722432:=0
def tw12122145287956184347:=0
def tw7833302217829133886:=0
def tw3118957603871032929:=0
def tw10245235579529746114:=0
def tw14697442454613887536:=0
def tw16007080160186713311:=0
def tw3397742712745571250:=0
def tw6597669053971909705:=0
def tw8940236530913004879:=0
def tw15601817466763000590:=0
def tw1630008374363062108:=0
def tw11541158624302208160:=0
def tw13552286826876228627:=0
def tw3121328210491240172:=0
def tw17481097203783484893:=0
def tw12256352229626204311:=0
def tw608233477439094541:=0
def tw2432375619827562158:=0
def tw3311500498144825622:=0
def tw18175141463275463924:=0
def tw11804751740238879818:=0
def tw465480318200627359:=0
def tw14015543021187934247:=0
def tw13653423625699953746:=0
def tw6118118744754833044:=0
def tw17884803236221472749:=0
def tw10513262034962733945:=0
def tw1627089187309829912:=0
def tw5411472346597181982:=0
def tw5113773152734577760:=0
def tw17044197351175661555:=0
def tw387677377300799860:=0
def tw9282473040833309156:=0
def tw2078585057730018252:=0
def tw5751741374063281822:=0
def tw4258602864087070535:=0
def tw9291205355073505678:=0
def tw14998506513419487121:=0
def tw3268554258764890767:=0
def tw5515144731814586691:=0
def tw3894798022504192778:=0
def tw8065086618388319158:=0
def tw10484916141230475710:=0
def tw16122006309265489631:=0
def tw12535127419956053169:=0
def tw18242481352387636478:=0
def tw14838038033733866800:=0
def tw17127939206978927177:=0
def tw12675339441238176577:=0
def tw11499890070220558243:=0
def tw6874847063476641450:=0
def tw4420061609556819257:=0
def tw9607575995078585667:=0
def tw17832361346078537116:=0
def tw1140224619921163268:=0
def tw9107469658185466175:=0
def tw11925070373588284916:=0
def tw12601304028877490527:=0
def tw17501800354660155571:=0
def tw17330027304061557981:=0
def tw9770950918307417292:=0
def tw10396548805893614137:=0
def tw16258095425543813637:=0
def tw12576076092934265071:=0
def tw15388198504896876454:=0
def tw11527040502303478619:=0
def tw16556114316535548614:=0
def tw15945667418818254175:=0
def tw11555403697143894302:=0
def tw13025903489154758722:=0
def tw17681171115442842906:=0
def tw8930505371200980440:=0
def tw2775687360211327413:=0
def tw15348703693359016739:=0
def tw12095927013592103057:=0
def tw17399635199841023661:=0
def tw15536315240304088987:=0
def tw17470806558082175940:=0
def tw9542074121138250147:=0
def tw16891877375355266998:=0
def tw1150554073572877927:=0
def tw8744479821158938851:=0
def tw2998711491465655670:=0
def tw1235788748178943202:=0
def tw11596776620578378249:=0
def tw17055341684909363733:=0
def tw5026782579671723489:=0
def tw13704030640635798450:=0
def tw14215913497497056785:=0
def tw1601606206970568237:=0
def tw6425716738277200149:=0
def tw9094807788166236666:=0
def tw15543330456558397198:=0
def tw4138408041659861875:=0
def tw13390879992855469362:=0
def tw643676070952053915:=0
def tw8003521099007878327:=0
def tw15361524982800624922:=0
def tw7189288215792076362:=0
def tw9105031082068166619:=0
def tw17765636624732873311:=0
def tw15283456656971804677:=0
def tw2007182235274323902:=0
def tw12825041149390278922:=0
def tw4168997010049774097:=0
def tw7627511169233938710:=0
def tw15344413053338339676:=0
def tw16937336314218697309:=0
def tw17349239017883331487:=0
def tw7932455577555052398:=0
def tw146802070645753571:=0
def tw12538966648488316927:=0
def tw12811495586548214939:=0
def tw3092748912932645682:=0
def tw17257967408783141395:=0
def tw5781639058375203027:=0
def tw10795119441036068430:=0
def tw11337375439129475040:=0
def tw16699723265267999517:=0
def tw8270736219633781937:=0
def tw7025184978130165213:=0
def tw13843982310010742828:=0
def tw14430983609855635839:=0
def tw1230744894490413820:=0
def tw7456412558740472189:=0
def tw4032816998771342503:=0
def tw4851843046965074006:=0
def tw3271968783508668865:=0
def tw16870177275252524460:=0
def tw5232323877323478292:=0
def tw7675173148419126260:=0
def tw12651140204611839007:=0
def tw4082516413891522367:=0
def tw4675290259254631985:=0
def tw3574223329307849333:=0
def tw13964551774917509952:=0
def tw6834832106694205784:=0
def tw17477271386552572728:=0
def tw6045768747697642218:=0
def tw15185168301448766855:=0
def tw546731911672243583:=0
def tw5323789812706439149:=0
def tw3480245762779119019:=0
def tw18069741740112110781:=0
def tw320708129417752294:=0
def tw5523216055066119754:=0
def tw16336670745771947753:=0
def tw15661878566064582614:=0
def tw13999042111100393152:=0
def tw15668246150755984862:=0
def tw17138118123763637747:=0
def tw15193330137875922574:=0
def tw3446527835676291933:=0
def tw16388017525821657061:=0
def tw368244188443101912:=0
def tw8434904336390922823:=0
def tw17030644571902567975:=0
def tw3839628563117315776:=0
def tw12897769076811636547:=0
def tw7676101215512243965:=0
def tw1410777193286202127:=0
def tw5404734256677061061:=0
def tw17215710636836906363:=0
def tw10230202616709736538:=0
def tw10134043860510800726:=0
def tw612054489306699659:=0
def tw12688792514912889568:=0
def tw10098850489678821650:=0
def tw8924476053316616357:=0
def tw10702991828364828371:=0
def tw1701732541346964974:=0
def tw3307093922642262358:=0
def tw3133115875559915069:=0
def tw7845729997755776276:=0
def tw15891881969831571334:=0
def tw16237116155885812414:=0
def tw13532177342642728708:=0
def tw8024210556690934638:=0
def tw14142657227602210647:=0
def tw10184194292462302399:=0
def tw14112919291678539283:=0
def tw2933604525101392103:=0
def tw9993580702863015203:=0
def tw10825294234759466193:=0
def tw8300852390697999710:=0
def tw9223480686898679388:=0
def tw10744723465130454677:=0
def tw16329864872716664710:=0
def tw3547901926319507885:=0
def tw6247592967673566873:=0
def tw9980897367863595935:=0
def tw10191383590947768002:=0
def tw16290600143956085527:=0
def tw16631459438395659682:=0
def tw469681824366712642:=0
def tw6440951148559430775:=0
def tw15576105214999182660:=0
def tw14032715803448542059:=0
def tw15482157435923974900:=0
def tw14970723849185660523:=0
def tw7300471951005506556:=0
def tw15426832651325861777:=0
def tw4384583989250865650:=0
def tw2464814977118166853:=0
def tw3050708639197287819:=0
def tw338206016446133158:=0
def tw3891310199728379570:=0
def tw16765687583339722683:=0
def tw17237860152971808773:=0
def tw12243618926148978404:=0
def tw18097234015676668627:=0
def tw16140603147429081484:=0
def tw17192747447976245314:=0
def tw9013277153493867604:=0
def tw6161389194109778802:=0
def tw6629186319846067070:=0
def tw8511173521098337734:=0
def tw6496326536983275954:=0
def tw11809280916256942391:=0
def tw6013761163782801596:=0
def tw15129193576725581900:=0
def tw6802371538167487484:=0
def tw10081667217019566192:=0
def tw14942950899038140001:=0
def tw6614532721696669665:=0
def tw2689549762877822024:=0
def tw6328625264230648047:=0
def tw17759319850817237216:=0
def tw13689054847861477701:=0
def tw3238360881515096241:=0
def tw4554611506373182364:=0
def tw499072231519173621:=0
def tw10327923013803251381:=0
def tw15171528769463277058:=0
def tw1581333518233018658:=0
def tw11496569826010604172:=0
def tw10361130843833633496:=0
def tw7945354796530009704:=0
def tw10874348088110352187:=0
def tw16091016155217848435:=0
def tw17034660192778192893:=0
def tw17391381208823213389:=0
def tw9580420318299402136:=0
def tw10700744756608760804:=0
def tw3432273053461861979:=0
def tw2249688911362077568:=0
def tw18300943928885328380:=0
def tw13569426037264813794:=0
def tw620895454426366044:=0
def tw3208390982864733780:=0
def tw7383871476097400477:=0
def tw17494097398671973704:=0
def tw14494087656465373246:=0
def tw15203169891269956515:=0
def tw14358605526512163841:=0
def tw9401576144193999533:=0
def tw1384133241064066432:=0
def tw6147873435270095556:=0
def tw12338237716844425636:=0
def tw9198016499192552844:=0
def tw113951352697780459:=0
def tw15657704382276980952:=0
def tw5150481414026626623:=0
def tw13242984598941005461:=0
def tw5231704802859922882:=0
def tw16882308786399298903:=0
def tw16150172660637785032:=0
def tw11492119083301865265:=0
def tw8746852980592810463:=0
def tw8608055999018736619:=0
def tw6282794689187035416:=0
def tw2052257387245645267:=0
def tw5766331507341208672:=0
def tw14312672755048221369:=0
def tw12358492069767258191:=0
def tw2256050192876701178:=0
def tw1960042963819907996:=0
def tw8009106998722577109:=0
def tw3494232638537131695:=0
def tw14030795189460934887:=0
def tw227795776528778380:=0
def tw10883823807133149186:=0
def tw5463211246150899037:=0
def tw11266004810837593317:=0
def tw16877945870280824093:=0
def tw5503230587181200346:=0
def tw6617200506477210390:=0
def tw12982742211204961396:=0
def tw13962348144776278125:=0
def tw18015499438046703468:=0
def tw11364212558820404726:=0
def tw17119211259674376613:=0
def tw14178018685940746475:=0
def tw5385673218908379635:=0
def tw2646678100616285847:=0
def tw17979656833650409800:=0
def tw13373754240861090626:=0
def tw5342038144428767980:=0
def tw16849468627880900225:=0
def tw417704447666667671:=0
def tw2533563180245953045:=0
def tw2179648841720539510:=0
def tw14027050721387228728:=0
def tw6431424714090250752:=0
def tw7784421243106285825:=0
def tw18214700691157276257:=0
def tw10880020244624615766:=0
def tw14097050649134739942:=0
def tw13600714456175657319:=0
def tw12682004410675793228:=0
def tw4811315985447305250:=0
def tw18171220630387311971:=0
def tw11039481779616477831:=0
def tw15577376341846847196:=0
def tw268652334703003605:=0
def tw11517374514819269302:=0
def tw6656855575915513773:=0
def tw7902319135251501488:=0
def tw15313158459543735629:=0
def tw10299935755167232207:=0
def tw15004370331008485457:=0
def tw18307120957343425511:=0
def tw10562927520115401196:=0
def tw14596855441457300759:=0
def tw3151698151889432947:=0
def tw10787209133350749448:=0
def tw12136272995150082103:=0
def tw2609467092450926643:=0
def tw3891385217821500258:=0
def tw7866796578039251762:=0
def tw9677779077271449193:=0
def tw4367192233626984028:=0
def tw6158311191494157858:=0
def tw6081989250377377292:=0
def tw3611543203398646128:=0
def tw16133402539006314480:=0
def tw16550366636971158122:=0
def tw11460977023672025482:=0
def tw14930127138293211426:=0
def tw3193267831828940698:=0
def tw3150195848324850785:=0
def tw14132034330939879934:=0
def tw5335003336363065998:=0
def tw8902295879088651116:=0
def tw8597286707303354836:=0
def tw15171177269614725055:=0
def tw4539759922555724098:=0
def tw63262634773779217:=0
def tw13169133365252154795:=0
def tw16579147550408506213:=0
def tw9044291038066165246:=0
def tw12755440846679379223:=0
def tw7479261542639026225:=0
def tw5081981841527519074:=0
def tw5183122126880223253:=0
def tw14891308780327149996:=0
def tw17757758806861269092:=0
def tw3038925713766807554:=0
def tw10909961497690376525:=0
def tw15305713943450441201:=0
def tw1646497304559396640:=0
def tw5882039021240104044:=0
def tw15276802261339096475:=0
def tw7940354905804898619:=0
def tw12938224185797078937:=0
def tw15271204137202629382:=0
def tw9641887991086331638:=0
def tw691883986488997955:=0
def tw16218077631493657652:=0
def tw11216709272591925676:=0
def tw17117826009882495927:=0
def tw14439028198221673458:=0
def tw4569065057173223954:=0
def tw3726974605001479630:=0
def tw7101327637865837938:=0
def tw16224887006786940122:=0
def tw11798570956788866617:=0
def tw9388585953942248461:=0
def tw15598566522951541663:=0
def tw13475630212962173777:=0
def tw18256795947492992864:=0
def tw204280311634231979:=0
def tw1765676115121799113:=0
def tw8601285191328733565:=0
def tw18196135207463579141:=0
def tw7991005181274721618:=0
def tw5466567660945536312:=0
def tw16639103779995020023:=0
def tw1500490978508704628:=0
def tw17048940509910468868:=0
def tw668363255701616897:=0
def tw9018539003518344044:=0
def tw14503641423977176899:=0
def tw4329051062965407412:=0
def tw9603591047064846906:=0
def tw15226692873141893578:=0
def tw16754520278524751148:=0
def tw13839993727789657287:=0
def tw10476497237262509487:=0
def tw11985183416460817722:=0
def tw10869748981027799093:=0
def tw11580985091987526746:=0
def tw3198982599211461145:=0
def tw12892085023073215067:=0
def tw2429039189884622250:=0
def tw3008651127782134824:=0
def tw16324836092658034820:=0
def tw11146432583060673652:=0
def tw6783624506087115821:=0
def tw8577169717435905962:=0
def tw9201209967130238192:=0
def tw17534538078235087591:=0
def tw8002135196030723361:=0
def tw9855477919247431489:=0
def tw16955282895662587577:=0
def tw3730280072274021260:=0
def tw4292593277940146305:=0
def tw13682439370374701771:=0
def tw16825225678089207752:=0
def tw13524026090223032214:=0
def tw16680541458702716661:=0
def tw5074406453478282130:=0
def tw16018499608274831578:=0
def tw17203871807554969648:=0
def tw2951840228470733815:=0
def tw6988489399259439142:=0
def tw16768074686881121958:=0
def tw11493499637661015678:=0
def tw6287471557939594302:=0
def tw8248735780148490269:=0
def tw5859904562932092169:=0
def tw2712967992570792737:=0
def tw7973786066398170369:=0
def tw10910112627979707753:=0
def tw480421389473788014:=0
def tw6724368427378703137:=0
def tw5080593327908074659:=0
def tw5387185655863068457:=0
def tw13903691524885101626:=0
def tw12907562299787105201:=0
def tw2157101349042843864:=0
def tw15708991706983008700:=0
def tw16952804514478439141:=0
def tw16009048379619056173:=0
def tw6203681504646065126:=0
def tw11846453233466550733:=0
def tw1382979789591412252:=0
def tw16535064766584359862:=0
def tw11547544318506191832:=0
def tw18081426469862621734:=0
def tw14130157456193668399:=0
def tw5821158456451059471:=0
def tw10623220858514055047:=0
def tw3500449086025183395:=0
def tw14159361906533368359:=0
def tw9525609618106337226:=0
end PySem.W.Fast
open PySem PySem.W PyProof.Rows
set_option maxRecDepth 100000 in
set_option maxHeartbeats 0 in
theorem PySem.Challenge.cw_panelplace_k48_whole_two_sheets_apart_holds : PySem.Challenge.rw_panelplace_k48_whole_two_sheets_apart.Holds := by
 w_on;o_law;k_head;(case hw=>w_witness2)
 k_fill
 refine Pp.walk (l:=PySem.Challenge.rw_panelplace_k48_whole_two_sheets_apart) rfl rfl (λw h Y=>PySem.W.km_in_of Y) ⟨_,rfl⟩ ?F
 case F =>
  intro w mg fa h KX G hmg
  refine' Pp.all_mk KX G hmg ?oa_Sheet ?a0 ?a1 ?a2 ?a3 ?a4 ?a5 ?a6 ?a7 ?a8 ?a9 ?a10 ?a11 ?a12 ?a13 ?a14 ?a15 ?a16 ?a17 ?a18 ?a19 ?a20 ?a21 ?a22 ?a23 ?a24 ?a25 ?a26 ?a27 ?a28 ?a29 ?a30 ?a31 ?a32 ?a33 ?a34 ?a35 ?a36 ?a37 ?a38 ?a39 ?a40 ?a41 ?a42 ?a43 ?a44 ?a45 ?a46 ?a47 ?a48 ?a49 ?a50 ?a51 ?a52 ?a53 ?a54 ?a55 ?a56 ?a57 ?a58 ?a59 ?a60 ?a61 ?a62 ?a63 ?a64 ?a65 ?a66 ?a67 ?a68 ?a69 ?a70 ?a71 ?a72 ?a73 ?a74 ?a75 ?a76 ?l76 ?c76 ?k76 ?qe ?qk ?qv ?qh ?qn ?a77 ?a78 ?a79 ?a80 ?a81 ?a82 ?a83 ?a84 ?l84 ?c84 ?k84 ?z0 ?z1 ?z2 ?z3 ?z4 ?z5 ?z6 ?z7 ?z8 ?z9 ?z10 ?z11 ?z12 ?z13 ?z14 ?y0 ?y1 ?y2 ?y3 ?y4 ?xa1 ?xa2 ?xa3 ?xa4 ?xa5 ?xa6 ?xa7 ?xa8 ?xa9 ?xa11 ?xe1 ?xe2 ?xe3 ?xe4 ?xe5 ?xe6 ?xe7 ?xe8 ?xe9 ?xe11 ?opg_Sheet ?ohd_Sheet ?opo_Sheet ?osa_Sheet ?omk_Sheet ?okc_Sheet ?on_Sheet_standing ?on_Sheet_struck_so_far ?on_Sheet_panel ?on_Sheet_card_by_judge ?on_Sheet_taken_so_far ?on_Sheet_sealed
  case oa_Sheet=>k_is
  (case a0|a1|a2|a4|a5|a6|a7|a35|a51=>exact L2.dm (by k_is) (by k_is) (by k_is) (by k_is) (by k_is) (λ_ _ _ _ _ _=>L2.onS λ_=>L2.on0 rfl))
  (case a3|a34|a36=>exact L2.dm (by k_is) (by k_is) (by k_is) (by k_is) (by k_is) (λ_ _ _ _ _ _=>L2.onS λ_=>L2.onS λ_=>L2.on0 rfl))
  (case a8|a9|a10|a11|a14|a17|a19|a20|a21|a22|a23|a24|a25|a26|a28|a30|a39|a40|a41|a43|a44|a45|a46|a48|a53|a54|a55|a56|a58|a59|a61|a62|a66|a68|a70|a72|a74|a77|a78=>exact L2.df (by k_is) (by k_is) (by k_is) (by k_is) (λ_ _ _ _ _ _=>L2.onS λ_=>L2.onS λ_=>L2.on0 rfl))
  (case a12|a13|a15|a16|a18|a29|a37|a38|a42|a52|a67|a69|a73|a75|a79|a80|a81=>exact L2.df (by k_is) (by k_is) (by k_is) (by k_is) (λ_ _ _ _ _ _=>L2.onS λ_=>L2.on0 rfl))
  (case a27|a31|a32|a47|a49|a63|a65|a71|a83=>exact L2.df (by k_is) (by k_is) (by k_is) (by k_is) (λ_ _ _ _ _ _=>L2.onS λ_=>L2.onS λ_=>L2.onS λ_=>L2.on0 rfl))
  (case a33|a60=>exact L2.dm (by k_is) (by k_is) (by k_is) (by k_is) (by k_is) (λ_ _ _ _ _ _=>L2.onS λ_=>L2.onS λ_=>L2.onS λ_=>L2.on0 rfl))
  (case a50|a57=>exact L2.df (by k_is) (by k_is) (by k_is) (by k_is) (λ_ _ _ _ _ _=>L2.onS λ_=>L2.onS λ_=>L2.onS λ_=>L2.onS λ_=>L2.on0 rfl))
  (case a64=>exact L2.df (by k_is) (by k_is) (by k_is) (by k_is) (λ_ _ _ _ _ _=>L2.onS λ_=>L2.onS λ_=>L2.onS λ_=>L2.onS λ_=>L2.onS λ_=>L2.onS λ_=>L2.onS λ_=>L2.on0 rfl))
  (case a82=>exact L2.df (by k_is) (by k_is) (by k_is) (by k_is) (λ_ _ _ _ _ _=>L2.onS λ_=>L2.onS λ_=>L2.onS λ_=>L2.onS λ_=>L2.onS λ_=>L2.onS λ_=>L2.on0 rfl))
  (case a76|l76|c76|k76=>k_is)
  (case qe=>exact rfl)
  case qk=>k_is
  (case qv=>exact rfl)
  (case qh|qn=>kernel_rfl)
  (case a84|l84|c84|k84|z0|z1|z2|z3|z4|z5|z6|z7|z8|z9|z10|z11|z12|z13|z14|y0|y1|y2|y3|y4|xa1|xa2|xa3|xa4|xa5|xa6|xa7|xa8|xa9|xa11=>k_is)
  (case xe1|xe2|xe3|xe4|xe5|xe6|xe7|xe8|xe9|xe11=>kernel_rfl)
  (case opg_Sheet|ohd_Sheet|opo_Sheet|osa_Sheet|omk_Sheet|okc_Sheet|on_Sheet_standing|on_Sheet_struck_so_far|on_Sheet_panel|on_Sheet_card_by_judge|on_Sheet_taken_so_far|on_Sheet_sealed=>k_is)
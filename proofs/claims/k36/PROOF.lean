import PyProof.Rows.All
import Wide.All
import OpenK.AllK
import Wide.FinOn
import Lean
import PyProof.EqAt
import PyProof.EqKinds
import PyProof.TupleCall
import PyProof.ListRange
import KE.KSortAsk
import KE.KSortKey
import KE.KSortTup
import KE.KItemsList
import KE.KLam
import KE.KNestM
import PyProof.Rows.StrLen
import PyProof.Rows.Range3
import PyProof.CallStr
import PyProof.StrBlockL
import PyProof.MeetsStr
import PyProof.Rows.StrDigits
import PySem.Challenge.RW_panelplace_k36_whole_cards_as_they_stand
open PySem.W (Frag InstAt callWith_K callWith_K0 cellsFrom_some codeIn emptyDict excIn fnOf handedIn hasDictIn hideAll hideAll_get instObj isFn keepIn kitCls kitOne lookIn makesIn methodCall_KW methodObj mg_none_of mg_of nsIn of_hideAll plainGet plainGet_of plainOver takerIn typeIn)
open List (all_cons all_eq_true all_map any_cons append_assoc append_nil cons_append cons_lt_cons_iff countP_cons drop_eq_getElem_cons drop_nil drop_of_length_le ext_getElem filter filterMap filterMap_nil filter_append filter_congr filter_cons filter_cons_of_neg filter_cons_of_pos filter_filter filter_map filter_nil find?_cons findIdx_cons flatMap flatMap_append foldl_cons forIn_cons forIn_nil forIn_toArray getD_eq_getElem?_getD getElem?_eq_getElem getElem?_map getElem?_range getElem_idxOf getElem_inj getElem_map getElem_mem getElem_range getElem_toArray idxOf_lt_length_of_mem length_append length_cons length_drop length_filter_le length_map length_nil length_pos_of_mem length_range length_singleton length_tail length_take length_zip lookup_cons map map_append map_congr_left map_cons map_drop map_map map_nil map_reverse map_set map_take mem_append mem_append_left mem_append_right mem_cons mem_cons_of_mem mem_cons_self mem_of_getElem? mem_singleton nodup_append not_mem_nil of_mem_zip pairwise_lt_range push_toArray range' range_succ range_succ_eq_map replicate reverse_perm size_toArray take_append_drop take_length take_nil take_of_length_le take_succ)
open PyProof.Rows (boot_all boot_bool boot_int boot_isinstance boot_list boot_max boot_min boot_set boot_str boot_sum boot_tuple callWith_builtin1 callWith_type1 len_str_of_int)
open Nat (le_add_right le_of_eq le_of_lt le_refl le_succ le_trans lt_irrefl lt_of_lt_of_le lt_succ_of_lt lt_succ_self lt_trans mul_le_mul ne_of_gt ne_of_lt zero_le)
open PySem.Heap (FlyingW SameBut get?_push_of_some get?_push_size get?_update_other lt_size size_push size_update)
noncomputable section
set_option Elab.async false
set_option linter.all false
set_option maxRecDepth 100000
namespace L2
open PySem PySem.Spec PyProof.Rows
abbrev Key:=Sum Int Str
def Bc:Key->Value->Bool
 | .inl k,v=>Value.isInt k v
 | .inr x,v=>Value.isStrOf x v
def Jb(w:World):Key->Int
 | .inl k=>hashInt k
 | .inr x=>hashStr w x
theorem yR:∀{k:Key}{v:Value},Bc k v=true->(∃i t,k=Sum.inl i/\v=Value.int i t)\/(∃x t,k=Sum.inr x/\v=Value.str x t)
 | .inl i,v,h=>by
   obtain⟨t,e⟩:=Value.isInt_shape (k:=i) (v:=v) h;exact .inl ⟨i,t,rfl,e⟩
 | .inr x,v,h=>by
   obtain⟨t,e⟩:=Value.isStrOf_shape (x:=x) (v:=v) h;exact .inr ⟨x,t,rfl,e⟩
theorem kB(i:Int)(t:Tok):Bc (.inl i) (.int i t)=true:=by simp[Bc,Value.isInt]
theorem kC(x:Str)(t:Tok):Bc (.inr x) (.str x t)=true:=by simp[Bc,Value.isStrOf]
theorem xm(a b:Int):decide ((Sum.inl a:Key)=Sum.inl b)=(a==b):=by
 by_cases e:a=b
 ·subst e;simp
 ·have h:¬(Sum.inl a:Key)=Sum.inl b:=λq=>e (Sum.inl.inj q);rw[decide_eq_false h];exact(beq_eq_false_iff_ne.mpr e).symm
theorem xn(a b:Str):decide ((Sum.inr a:Key)=Sum.inr b)=decide (a=b):=by
 by_cases e:a=b
 ·subst e;simp
 ·have h:¬(Sum.inr a:Key)=Sum.inr b:=λq=>e (Sum.inr.inj q);rw[decide_eq_false h,decide_eq_false e]
theorem xo(a:Int)(b:Str):decide ((Sum.inl a:Key)=Sum.inr b)=false:=decide_eq_false (λq=>nomatch q)
theorem xp(a:Str)(b:Int):decide ((Sum.inr a:Key)=Sum.inl b)=false:=decide_eq_false (λq=>nomatch q)
def wM(prog:Program)(w:World):PySem.KeyKind prog w Key where
 is:=Bc
 hash:=Jb w
 inj:=λv a b ha hb=>by
  rcases yR ha with⟨i,t,rfl,rfl⟩|⟨x,t,rfl,rfl⟩
  ·rcases yR hb with⟨j,u,rfl,e⟩|⟨y,u,rfl,e⟩
   ·injection e with e1 _;rw[e1]
   ·exact nomatch e
  ·rcases yR hb with⟨j,u,rfl,e⟩|⟨y,u,rfl,e⟩
   ·exact nomatch e
   ·injection e with e1 _;rw[e1]
 byValue:=λk v h=>by
  rcases yR h with⟨i,t,rfl,rfl⟩|⟨x,t,rfl,rfl⟩ <;> rfl
 pyHash:=λhv h=>by
  rcases yR hv with⟨i,t,rfl,rfl⟩|⟨x,t,rfl,rfl⟩
  ·exact wpAny_pyHash_int h
  ·exact wpAny_pyHash_str h
 eqBool:=λhu hv h=>by
  rcases yR hu with⟨i,t,rfl,rfl⟩|⟨x,t,rfl,rfl⟩
  ·rcases yR hv with⟨j,u,rfl,rfl⟩|⟨y,u,rfl,rfl⟩
   ·rw[xm]at h;exact wpAny_eqBool_int h
   ·rw[xo]at h;exact SeqAt.EqAt.int_str i t y u _ _ _ _ h
  ·rcases yR hv with⟨j,u,rfl,rfl⟩|⟨y,u,rfl,rfl⟩
   ·rw[xp]at h;exact SeqAt.EqAt.str_int x t j u _ _ _ _ h
   ·rw[xn]at h;exact wpAny_eqBool_str h
 «strs» := λk x t v h=>by
  rcases yR h with⟨i,u,rfl,e⟩|⟨y,u,rfl,e⟩
  ·exact nomatch e
  ·injection e with e1 _
   subst e1;cases v <;> rfl
theorem TU(prog:Program)(w:World)(i:Int)(t:Tok):(wM prog w).is (.inl i) (.int i t)=true:=kB i t
theorem TV(prog:Program)(w:World)(x:Str)(t:Tok):(wM prog w).is (.inr x) (.str x t)=true:=kC x t
inductive V where
 | bo | bl (b:Bool) | int (i:Int) | str (x:Str) | iF (b:Array UInt8) | B8 (b:UInt64) | ref (a:Addr) | ty (n:String)
 deriving DecidableEq
def RelV:V->Value->Prop
 | .bo,u=>u=Value.none
 | .bl b,u=>u=Value.bool b
 | .int i,u=>∃t,u=Value.int i t
 | .str x,u=>∃t,u=Value.str x t
 | .iF b,u=>∃t,u=Value.bytes b t
 | .B8 b,u=>∃t,u=Value.float b t
 | .ref a,u=>u=Value.ref a
 | .ty n,u=>u=Value.type n
abbrev Vals:List V->List Value->Prop:=Paired RelV
variable {us:List Value}
theorem Vals.length{xs:List V}(r:Vals xs us):xs.length=us.length:=Paired.length r
theorem Vals.get:∀{xs:List V}{us:List Value}{i:Nat}{x:V},Vals xs us->xs[i]? = some x->∃u,us[i]? = some u/\RelV x u
 | _,_,_,_,.nil,e=>by simp at e
 | _,_,0,_,.cons r _,e=>by simp at e;subst e;exact⟨_,rfl,r⟩
 | _,_,i+1,x,.cons _ t,e=>by
   obtain⟨u,h1,h2⟩:=Vals.get (i:=i) (x:=x) t (by simpa using e);exact⟨u,by simpa using h1,h2⟩
variable {u:Value}
theorem Vals.set{x:V}(r:RelV x u):∀{xs:List V}{us:List Value}(i:Nat),Vals xs us->Vals (xs.set i x) (us.set i u)
 | _,_,_,.nil=>.nil
 | _,_,0,.cons _ t=>.cons r t
 | _,_,i+1,.cons q t=>.cons q (Vals.set r i t)
theorem Vals.append:∀{xs ys:List V}{us ws:List Value},Vals xs us->Vals ys ws->Vals (xs++ys) (us++ws)
 | _,_,_,_,.nil,s=>s
 | _,_,_,_,.cons r t,s=>.cons r (Vals.append t s)
theorem Vals.take:∀{xs:List V}{us:List Value}(n:Nat),Vals xs us->Vals (xs.take n) (us.take n)
 | _,_,0,_=>.nil
 | _,_,_+1,.nil=>.nil
 | _,_,n+1,.cons r t=>.cons r (Vals.take n t)
theorem Vals.drop:∀{xs:List V}{us:List Value}(n:Nat),Vals xs us->Vals (xs.drop n) (us.drop n)
 | _,_,0,r=>r
 | _,_,_+1,.nil=>.nil
 | _,_,n+1,.cons _ t=>Vals.drop n t
def cX:Option V->Option Value->Prop
 | some v,some u=>RelV v u
 | none,none=>True
 | _,_=>False
def KV{κ:Type}:List (κ×V)->List (κ×Value)->Prop:=Paired fun(p:κ×V) (q:κ×Value)=>p.1=q.1/\RelV p.2 q.2
def kV:Key->V
 | .inl i=>.int i
 | .inr x=>.str x
inductive HO where
  | lst (xs:List V)
  | tup (xs:List V)
  | dK (aw:List (Key×V)) | dT (aw:List (List Key×V))
  | set (S:Int->Bool) (n:Nat)
  | ins (C dx:Addr) (fs:List (Str×V))
  | own (x:Addr)
  | xd (fs:List (Str×V))
  | met (f x:Addr)
  | fH (lo hi:Int)
  | kD (o:Obj) (u:HO)
  | bW (ps:Array Value)
  | ext (φ:Heap->Prop)
abbrev Hp:=Addr->Option HO
def upd(H:Hp)(a:Addr)(o:HO):Hp:=λb=>if b=a then some o else H b
variable {H:Hp}{a:Addr}{o:HO}
theorem zc:upd H a o a=some o:=by unfold upd;rw[if_pos rfl]
variable {b:Addr}
theorem zh(h:b≠a):upd H a o b=H b:=by unfold upd;rw[if_neg h]
theorem sE{u:HO}:upd (upd H a o) a u=upd H a u:=by
 funext b;unfold upd;split <;> rfl
theorem yV{u:HO}(h:H a=some o)(h':H b=some u)(d:o≠u):a≠b:=by
 intro e;subst e;rw[h]at h';exact d (Option.some.inj h')
theorem zj(h:H a=some o)(h':H b=none):a≠b:=by
 intro e;subst e;rw[h]at h';cases h'
section
variable (P:Program)(w:World)
def aX(H:Hp)(h:Heap)(a:Addr):HO->Prop
 | .lst xs=>xs.length<=sizeLine/\∃(au:List Value)(n:Nat),Vals xs au/\h.get? a=some { cls:=.type "list",data:=.seq au.toArray n }
 | .tup xs=>xs.length<=sizeLine/\∃au:List Value,Vals xs au/\IsTup h a au.toArray
 | .dK aw=>aw.length<=sizeLine/\(a==sysModules)=false/\∃vs,KV aw vs/\h.DictOf (wM P w) a vs
 | .dT aw=>aw.length<=sizeLine/\(a==sysModules)=false/\∃xs:List (List Key×Addr×Value),
    Paired (fun(p:List Key×V) (q:List Key×Addr×Value)=>p.1=q.1/\H q.2.1=some (.tup (p.1.map kV))/\RelV p.2 q.2.2) aw xs /\
    ∃o es ep,h.get? a=some o/\o.ExactDict/\o.data=.dict es ep/\es.toList=xs.map (entryOfKey (tupleKind (wM P w)))/\(xs.map (·.1)).Nodup
 | .set S n=>h.SetOf (intKind P w) a S n
 | .ins C dx fs=>H dx=some (.own a)/\fs.length<=1000/\dx≠a/\h.get? a=some (instObj C dx) /\
    ∃mA,h.Ns1 dx mA/\(∀f,cX (fs.lookup f) (mA f))/\PySem.Within mA (fs.map (·.1))
 | .own _=>∃o,h.get? a=some o
 | .xd fs=>∃mA,h.Ns1 a mA/\∀f,cX (fs.lookup f) (mA f)
 | .fH lo hi=>∃t u v,h.get? a=some { cls:=.type "range",data:=.fields #[.int lo t,.int hi u,.int 1 v] }
 | .kD o u=>h.get? a=some o/\aX H h a u
 | .bW ps=>h.get? a=some { cls:=.none,data:=.fields ps }
 | .met f x=>h.get? a=some (methodObj (.ref f) (.ref x))
 | .ext φ=>φ h/\(∃o,h.get? a=some o)/\∀h1 h2:Heap,φ h1->(∀o,h1.get? a=some o->h2.get? a=some o)->φ h2
def cE(H:Hp)(h:Heap):Prop:=∀a o,H a=some o->aX P w H h a o
end
section
variable {P:Program}{w:World}{H H':Hp}{h h':Heap}{a:Addr}{o:HO}
theorem aX.lt(x:aX P w H h a o):a<h.objs.size:=by
 cases o with
 | lst xs=>obtain⟨_,_,_,_,e⟩:=x;exact lt_size e
 | tup xs=>obtain⟨_,_,_,p⟩:=x;exact p.lt
 | dK aw=>obtain⟨_,_,_,_,o,_,_,e,_⟩:=x;exact lt_size e
 | dT aw=>obtain⟨_,_,_,_,o,_,_,e,_⟩:=x;exact lt_size e
 | set S n=>obtain⟨o,_,_,_,e,_⟩:=x;exact lt_size e
 | ins C dx fs=>obtain⟨_,_,_,e,_⟩:=x;exact lt_size e
 | own y=>obtain⟨_,e⟩:=x;exact lt_size e
 | xd fs=>obtain⟨_,⟨_,_,_,e,_⟩,_⟩:=x;exact lt_size e
 | fH lo hi=>obtain⟨_,_,_,e⟩:=x;exact lt_size e
 | kD ob u=>obtain⟨e,_⟩:=x;exact lt_size e
 | bW ps=>exact lt_size (show h.get? a=some _ from x)
 | met f y=>exact lt_size (show h.get? a=some _ from x)
 | ext φ=>obtain⟨_,⟨_,e⟩,_⟩:=x;exact lt_size e
theorem Paired.xq{α β:Type}{F G:α->β->Prop}:∀{l₁:List α}{l₂:List β},Paired F l₁ l₂->(∀a b,F a b->G a b)->Paired G l₁ l₂
 | _,_,.nil,_=>.nil
 | _,_,.cons r t,f=>.cons (f _ _ r) (Paired.xq t f)
theorem aX.bQ(x:aX P w H h a o)(k:∀b u,(b=a\/H b=some (.own a))->h.get? b=some u->h'.get? b=some u)
 (ho:∀b,H b=some (.own a)->H' b=some (.own a)) (ht:∀b xs,H b=some (.tup xs)->H' b=some (.tup xs)):aX P w H' h' a o:=by
 induction o with
 | lst xs=>obtain⟨z,au,n,r,e⟩:=x;exact⟨z,au,n,r,k _ _ (.inl rfl) e⟩
 | tup xs=>obtain⟨z,au,r,ob,e,c⟩:=x;exact⟨z,au,r,ob,k _ _ (.inl rfl) e,c⟩
 | dK aw=>obtain⟨z,y,vs,r,ob,es,ep,e,c⟩:=x;exact⟨z,y,vs,r,ob,es,ep,k _ _ (.inl rfl) e,c⟩
 | dT aw =>
   obtain⟨z,y,xs,r,ob,es,ep,e,c⟩:=x;exact⟨z,y,xs,Paired.xq r λp q z=>⟨z.1,ht _ _ z.2.1,z.2.2⟩,ob,es,ep,k _ _ (.inl rfl) e,c⟩
 | set S n=>obtain⟨ob,es,ep,t,e,c⟩:=x;exact⟨ob,es,ep,t,k _ _ (.inl rfl) e,c⟩
 | ins C dx fs =>
   obtain⟨d,z,ne,e,mA,⟨od,es,ep,e2,c⟩,r⟩:=x;exact⟨ho _ d,z,ne,k _ _ (.inl rfl) e,mA,⟨od,es,ep,k _ _ (.inr d) e2,c⟩,r⟩
 | own y=>obtain⟨ob,e⟩:=x;exact⟨ob,k _ _ (.inl rfl) e⟩
 | xd fs=>obtain⟨mA,⟨od,es,ep,e,c⟩,r⟩:=x;exact⟨mA,⟨od,es,ep,k _ _ (.inl rfl) e,c⟩,r⟩
 | fH lo hi=>obtain⟨t,u,v,e⟩:=x;exact⟨t,u,v,k _ _ (.inl rfl) e⟩
 | kD ob u ih=>obtain⟨e,q⟩:=x;exact⟨k _ _ (.inl rfl) e,ih q⟩
 | bW ps =>
   have e:h.get? a=some { cls:=.none,data:=.fields ps }:=x;show h'.get? a=some { cls:=.none,data:=.fields ps };exact k a _ (.inl rfl) e
 | met f y =>
   have e:h.get? a=some (methodObj (.ref f) (.ref y)):=x;show h'.get? a=some (methodObj (.ref f) (.ref y));exact k a _ (.inl rfl) e
 | ext φ=>obtain⟨p,⟨o,e⟩,st⟩:=x;exact⟨st _ _ p λo q=>k _ _ (.inl rfl) q,⟨o,k _ _ (.inl rfl) e⟩,st⟩
theorem cE.lt(x:cE P w H h)(e:H a=some o):a<h.objs.size:=(x a o e).lt
theorem cE.fresh(x:cE P w H h)(e:h.objs.size<=a):H a=none:=by
 cases q:H a with
 | none=>rfl
 | some u=>exact absurd (lt_of_lt_of_le (x.lt q) e) (lt_irrefl _)
theorem cE.kept(x:cE P w H h)(k:∀b u,h.get? b=some u->h'.get? b=some u):cE P w H h':=λa o e =>
 (x a o e).bQ (λb u _ q=>k b u q) (λ_ q=>q) λ_ _ q=>q
theorem cE.laid(x:cE P w H h)(k:∀b u,h.get? b=some u->h'.get? b=some u)(hp:h.objs.size<=a)(new:aX P w (upd H a o) h' a o):cE P w (upd H a o) h':=λb u e=>by
 have hn:=x.fresh hp;by_cases hb:b=a
 ·subst hb;rw[zc]at e;cases e;exact new
 ·rw[zh hb]at e;exact(x b u e).bQ (λc v _ q=>k c v q) (λc q=>by rw[zh (zj q hn)];exact q) λc xs q=>by rw[zh (zj q hn)];exact q
end
def Rd(H:Hp)(a:Addr)(u:HO):Prop:=H a=some u\/∃o,H a=some (.kD o u)
theorem Rd.of{u:HO}(h:H a=some u):Rd H a u:=.inl h
variable {P:Program}{w:World}{h:Heap}
theorem Rd.ok{u:HO}(r:Rd H a u)(x:cE P w H h):aX P w H h a u:=by
 rcases r with r | ⟨o,r⟩
 ·exact x a u r
 ·obtain⟨_,q⟩:=x a _ r;exact q
def B9:Option HO->Prop
 | some (.lst _)=>True
 | some (.dK _)=>True
 | some (.dT _)=>True
 | some (.set _ _)=>True
 | some (.ins _ _ _)=>True
 | some (.ext _)=>True
 | _=>False
section
variable {P:Program}{w:World}{H:Hp}{h h':Heap}{x e:Addr}{o':HO}
theorem cE.write(ok:cE P w H h)(mu:B9 (H x))(he:e=x\/H e=some (.own x))(k:∀b u,b≠e->h.get? b=some u->h'.get? b=some u)(Bd:∃u,h'.get? e=some u)
 (new:aX P w (upd H x o') h' x o'):cE P w (upd H x o') h':=λb u q=>by
 have Ca:∀c y,H c=some (.own y)->c≠x:=λc y r z=>by subst z;rw[r]at mu;exact mu
 have Jc:∀c xs,H c=some (.tup xs)->c≠x:=λc xs r z=>by subst z;rw[r]at mu;exact mu
 by_cases hb:b=x
 ·subst hb;rw[zc]at q;cases q;exact new
 ·rw[zh hb]at q;by_cases xr:b=e
  ·have q':H b=some (.own x):=by
    rcases he with z | z
    ·exact absurd (xr.trans z) hb
    ·rw[xr];exact z
   rw[q]at q';cases q';obtain⟨v,hv⟩:=Bd;exact⟨v,by rw[xr];exact hv⟩
  ·refine(ok b u q).bQ (λc v hc r=>k c v ?_ r) (λc r=>by rw[zh (Ca c b r)];exact r) λc xs r=>by rw[zh (Jc c xs r)];exact r
   rcases hc with rfl | hc
   ·exact xr
   ·rintro rfl;rcases he with z | z
    ·exact Ca c b hc z
    ·rw[hc]at z;cases z;exact hb rfl
end
structure Un (fs ex:List Addr) (H H':Hp) (h h':Heap):Prop where
 keep:∀b o,h.get? b=some o->H b=none->b∉fs->b∉ex->h'.get? b=some o
 slot:∀b o,h.get? b=some o->H b=none->b∈fs->b∉ex->∃sl,h'.get? b=some { o with slots:=sl }
 free:∀b o,h.get? b=some o->H b=none->b∉ex->H' b=none
 there:∀b o,h.get? b=some o->b∉ex->∃o',h'.get? b=some o'
 bH:∀b xs,H b=some (.tup xs)->H' b=some (.tup xs)
 bB:∀b o u,H b=some (.kD o u)->H' b=some (.kD o u)
 bM:∀b ps,H b=some (.bW ps)->∃more,H' b=some (.bW (ps++more))
section
variable {fs TX ex ex':List Addr}{H H1 H2:Hp}{h h1 h2 h':Heap}{a x e:Addr}{o:HO}
theorem Un.any(u:Un fs ex H H1 h h1){b:Addr}{ob:Obj}(q:h.get? b=some ob)(n:H b=none)(hx:b∉ex):∃sl,h1.get? b=some { ob with slots:=sl }:=by
 by_cases hb:b∈fs
 ·exact u.slot b ob q n hb hx
 ·exact⟨ob.slots,u.keep b ob q n hb hx⟩
theorem Un.trans(a:Un fs ex H H1 h h1)(b:Un fs ex H1 H2 h1 h2):Un fs ex H H2 h h2 where
 keep:=λc ob q n hc hx=>b.keep c ob (a.keep c ob q n hc hx) (a.free c ob q n hx) hc hx
 slot:=λc ob q n hc hx=>by
  obtain⟨sl,e1⟩:=a.slot c ob q n hc hx;obtain⟨Jd,e2⟩:=b.slot c _ e1 (a.free c ob q n hx) hc hx;exact⟨Jd,e2⟩
 free:=λc ob q n hx=>by
  obtain⟨o',e1⟩:=a.there c ob q hx;exact b.free c o' e1 (a.free c ob q n hx) hx
 there:=λc ob q hx=>by
  obtain⟨o',e1⟩:=a.there c ob q hx;exact b.there c o' e1 hx
 bH:=λc xs q=>b.bH c xs (a.bH c xs q)
 bB:=λc ob xs q=>b.bB c ob xs (a.bB c ob xs q)
 bM:=λc ps q=>by
  obtain⟨m1,e1⟩:=a.bM c ps q;obtain⟨m2,e2⟩:=b.bM c _ e1;exact⟨m1++m2,by rw[e2,Array.append_assoc]⟩
theorem Un.kept(k:∀b u,h.get? b=some u->h'.get? b=some u):Un fs ex H H h h' :=
 ⟨λb ob q _ _ _=>k b ob q,λb ob q _ _ _=>⟨ob.slots,k b ob q⟩,λ_ _ _ n _=>n,λb ob q _=>⟨ob,k b ob q⟩,λ_ _ q=>q,λ_ _ _ q=>q,λ_ ps q=>⟨#[],by rw[q];simp⟩⟩
theorem Un.refl:Un fs ex H H h h:=Un.kept λ_ _ q=>q
theorem Un.laid(k:∀b u,h.get? b=some u->h'.get? b=some u)(hp:h.objs.size<=a)(hn:H a=none):Un fs ex H (upd H a o) h h' where
 keep:=λb u q _ _ _=>k b u q
 slot:=λb u q _ _ _=>⟨u.slots,k b u q⟩
 free:=λb u q n _=>by rw[zh (ne_of_lt (lt_of_lt_of_le (lt_size q) hp))];exact n
 there:=λb u q _=>⟨u,k b u q⟩
 bH:=λb xs q=>by rw[zh (zj q hn)];exact q
 bB:=λb u xs q=>by rw[zh (zj q hn)];exact q
 bM:=λb ps q=>⟨#[],by rw[zh (zj q hn),q];simp⟩
theorem Un.write(mu:B9 (H x))(he:e=x\/H e=some (.own x))(k:∀b u,b≠e->h.get? b=some u->h'.get? b=some u)(Bd:∃u,h'.get? e=some u):Un fs ex H (upd H x o) h h':=by
 have hx:∀b,H b=none->b≠x:=λb n z=>by subst z;rw[n]at mu;exact mu
 have hb:∀b,H b=none->b≠e:=λb n z=>by
  subst z;rcases he with r | r
  ·exact hx b n r
  ·rw[n]at r;cases r
 have hm:∀b u,H b=some u->¬B9 (some u)->b≠x:=λb u q nm z=>by subst z;rw[q]at mu;exact nm mu
 refine⟨λb u q n _ _=>k b u (hb b n) q,λb u q n _ _=>⟨u.slots,k b u (hb b n) q⟩,λb u q n _=>by rw[zh (hx b n)];exact n,λb u q _=>?_,
  λb xs q=>by rw[zh (hm b _ q λz=>z)];exact q,λb u xs q=>by rw[zh (hm b _ q λz=>z)];exact q,λb ps q=>⟨#[],by rw[zh (hm b _ q λz=>z),q];simp⟩⟩
 by_cases xr:b=e
 ·subst xr;exact Bd
 ·exact⟨u,k b u xr q⟩
end
def Fs(h:Heap)(H:Hp):List Addr:=(List.range h.objs.size).filter λa=>(H a).isSome
def rE(h:Heap)(H:Hp):Heap:=hideAll h (Fs h H)
theorem kE(h:Heap)(H:Hp):(rE h H).objs.size=h.objs.size:=PySem.W.hideAll_size _ _
theorem ny{o:Obj}(e:h.get? b=some o)(n:H b=none):(rE h H).get? b=some o :=
 hideAll_get _ e λhm=>by
  have q:(H b).isSome=true:=(List.mem_filter.mp hm).2;rw[n]at q;simp at q
theorem sF{o:Obj}(e:(rE h H).get? b=some o):h.get? b=some o/\H b=none:=by
 have e':h.get? b=some o:=of_hideAll (Fs h H) e;refine⟨e',?_⟩;cases q:H b with
 | none=>rfl
 | some x =>
   have hm:b∈Fs h H:=List.mem_filter.mpr ⟨List.mem_range.mpr (lt_size e'),by simp[q]⟩;have z:(rE h H).get? b=none:=PySem.W.hideAll_none (Fs h H) hm;rw[z]at e;cases e
def sG(g h:Heap)(L:Addr):List (Addr×Obj):=(List.range h.objs.size).filterMap λa=>if a=L\/(g.get? a).isSome=true then none else(h.get? a).map λo=>(a,o)
def gR(g h:Heap)(L d:Addr):List (Addr×Obj):=(sG g h L).filter λp=>decide (p.1≠d)
structure Mod (K:Frag) (mg:Str->Option Value) (base:Heap):Prop where
 uS:K.In base
 glob:base.Ns mainGlobals mg
 blt:∃mb,base.Ns builtinsNs mb/\∀x:Str,x≠"__name__"->mb x=bootBuiltins x
 nolimit:base.NoLimit
structure Cx where
 prog:Program
 w:World
 K:Frag
 mg:Str->Option Value
 base:Heap
 A:Around
 N:List Str
 s₀:Shared
 H₀:Hp
 env:Env
 outer:List Env
 stack:List Env
 ex:List Addr
 fn:Str->Bool
 calm:Bool
 pn:List (Addr×Obj)
 xe:Value->Shared->Prop
def cf(l:List Env):List Addr:=l.filterMap (·.frame)
abbrev Cx.fs(X:Cx):List Addr:=cf X.outer
def Be(sc:Scope)(x:Str):Prop:=sc.names.lookup x=some .local\/sc.names.lookup x=some .cell\/sc.names.lookup x=some .free
def Loc(sc:Scope)(x:Str):Prop:=sc.names.lookup x=some .local\/sc.names.lookup x=some .cell
def Look(env:Env)(h:Heap)(m:Str->Option Value)(x:Str)(u:Value):Prop :=
 (env.kindOf x=some .local/\m x=some u)\/((env.kindOf x=some .cell\/env.kindOf x=some .free)/\∃c,env.cells.lookup x=some c/\h.IsCell c (some u))
structure Cx.Ok (X:Cx):Prop where
 mod:Mod X.K X.mg X.base
 kind:X.env.scope.kind=.function
 glob:X.env.globals=mainGlobals
 blt:X.env.builtins=builtinsNs
 above:X.s₀.heap.objs.size<=X.env.locals
 inj:∀x y c,X.env.cells.lookup x=some c->X.env.cells.lookup y=some c->x=y
 has:∀x,(X.env.kindOf x=some .cell\/X.env.kindOf x=some .free)->∃c,X.env.cells.lookup x=some c
 nz:∀x c,X.fn x=true->X.env.cells.lookup x=some c->X.s₀.heap.objs.size<=c
 hd:X.calm=true->X.A.handled=none
 frames:X.A.frames=some X.stack
 rF:X.stack=X.outer\/(X.stack=X.env::X.outer/\X.env.frame=some X.env.locals)
 jz:∀b∈X.ex,b≠X.env.locals/\∀x c,X.env.cells.lookup x=some c->c≠b
 bs:∀b o,X.base.get? b=some o->X.s₀.heap.get? b=some o/\X.H₀ b=none
 fV:X.base.objs.size<=X.s₀.heap.objs.size
 dB:∀b o,X.base.get? b=some o->b∉X.ex
 dC:∀b∈X.ex,b∉X.fs
 bX:X.s₀.heap.FunFrames X.base X.outer
 jA:∀b∈X.fs,X.H₀ b=none
structure Inv (X:Cx) (pins:List (Addr×Obj)) (σ:List (Option V)) (H:Hp) (s:Shared):Prop where
 ok:X.Ok
 os:s.os=X.s₀.os
 bare:AllBare s.gens
 base:Un X.fs X.ex X.H₀ H X.s₀.heap s.heap
 loc:∃m,s.heap.Ns X.env.locals m/\∀(i:Nat)(x:Str)(v:V),X.N[i]? = some x->σ[i]? = some (some v)->Be X.env.scope x->∃u,RelV v u/\Look X.env s.heap m x u
 cell:∀x c,X.env.cells.lookup x=some c->∃v,s.heap.IsCell c v
 free:H X.env.locals=none
 bz:∀x c,X.env.cells.lookup x=some c->H c=none
 pin:∀p∈X.pn++pins,s.heap.get? p.1=some p.2/\H p.1=none/\p.1≠X.env.locals/\p.1∉X.fs/\∀v,p.2.data ≠ .cell v
 aC:cE X.prog X.w H s.heap
 len:σ.length=X.N.length
section
variable {X:Cx}{pins:List (Addr×Obj)}{σ:List (Option V)}{H H':Hp}{s:Shared}{h':Heap}
theorem Cx.Ok.Je(ok:X.Ok){b:Addr}{o:Obj}(e:X.base.get? b=some o):b∉X.fs:=λhb=>by
 have:=(ok.bX.mem hb).1;rw[e]at this;cases this
theorem Inv.bs(I:Inv X pins σ H s):∀b o,X.base.get? b=some o->s.heap.get? b=some o/\H b=none:=λb o e =>
 ⟨I.base.keep b o (I.ok.bs b o e).1 (I.ok.bs b o e).2 (I.ok.Je e) (I.ok.dB b o e),I.base.free b o (I.ok.bs b o e).1 (I.ok.bs b o e).2 (I.ok.dB b o e)⟩
theorem Inv.bk(I:Inv X pins σ H s):∀b o,X.base.get? b=some o->s.heap.get? b=some o:=λb o e=>(I.bs b o e).1
theorem Inv.mod(I:Inv X pins σ H s):Mod X.K X.mg X.base:=I.ok.mod
theorem Inv.gd(I:Inv X pins σ H s):X.K.In s.heap:=I.ok.mod.uS.keeps I.bk
theorem Inv.lt(I:Inv X pins σ H s):X.env.locals<s.heap.objs.size:=let ⟨_,hn,_⟩:=I.loc;hn.lt
theorem Inv.sz(I:Inv X pins σ H s):X.s₀.heap.objs.size<=s.heap.objs.size:=le_trans I.ok.above (le_of_lt I.lt)
theorem Inv.Cb(I:Inv X pins σ H s){a:Addr}(h:s.heap.objs.size<=a):a∉X.fs:=λhb=>by
 obtain⟨_,o,ho,_⟩:=I.ok.bX.mem hb;exact absurd (lt_of_lt_of_le (lt_size ho) (le_trans I.sz h)) (lt_irrefl _)
theorem Inv.sH(I:Inv X pins σ H s):∀x c,X.env.cells.lookup x=some c->c≠X.env.locals:=λx c e z=>by
 obtain⟨v,o,ho,hd⟩:=I.cell x c e;obtain⟨m,⟨o',es,ep,dD,Ft,_⟩,_⟩:=I.loc;rw[z,dD]at ho;cases ho;rw[Ft]at hd;cases hd
theorem Inv.bX(I:Inv X pins σ H s):s.heap.FunFrames X.base X.outer:=by
 have all:∀(l:List Env),(∀b∈cf l,b∈X.fs)->X.s₀.heap.FunFrames X.base l->s.heap.FunFrames X.base l:=by
  intro l
  induction l with
  | nil=>intro _ _;trivial
  | cons env r ih =>
    intro hs hl;obtain⟨hk,⟨L,o,hf,hn,ho,hd⟩,hr⟩:=hl;have hL:L∈X.fs:=hs L (by unfold cf;rw[List.filterMap_cons,hf];exact mem_cons_self);obtain⟨sl,e⟩:=I.base.slot L o ho (I.ok.jA L hL) hL λz=>I.ok.dC L z hL;exact⟨hk,⟨L,_,hf,hn,e,hd⟩,ih (λb hb=>hs b (by unfold cf;rw[List.filterMap_cons,hf];exact mem_cons_of_mem _ hb)) hr⟩
 exact all X.outer (λ_ hb=>hb) I.ok.bX
theorem Inv.stack(I:Inv X pins σ H s):s.heap.FunFrames X.base X.stack:=by
 rcases I.ok.rF with e | ⟨e,hf⟩
 ·rw[e];exact I.bX
 ·rw[e];obtain⟨m,hn,_⟩:=I.loc;refine .cons (by rw[I.ok.kind];decide) hf hn ?_ I.bX;exact Heap.get?_none_of_le (le_trans I.ok.fV I.ok.above)
theorem Inv.eM(I:Inv X pins σ H s):∀b∈cf X.stack,b∈X.env.locals::X.fs:=λb hb=>by
 rcases I.ok.rF with e | ⟨e,hf⟩
 ·rw[e]at hb;exact mem_cons_of_mem _ hb
 ·rw[e]at hb;unfold cf at hb;rw[List.filterMap_cons,hf]at hb;exact hb
theorem Inv.cU(I:Inv X pins σ H s):∀b∈cf X.stack,H b=none:=λb hb=>by
 rcases List.mem_cons.mp (I.eM b hb)with e | hb
 ·rw[e];exact I.free
 ·obtain⟨_,o,ho,_⟩:=I.ok.bX.mem hb;exact I.base.free b o ho (I.ok.jA b hb) λz=>I.ok.dC b z hb
variable {g':Array GenState}{t':Nat}{ch:List Addr}
theorem Inv.step{d':Drawn}(I:Inv X pins σ H s)
 (rG:∀b∈ch,(b∈X.ex\/X.s₀.heap.objs.size<=b)/\b≠X.env.locals/\(∀x c,X.env.cells.lookup x=some c->c≠b)/\∀p∈X.pn++pins,p.1≠b)
 (keep:∀b o,b≠X.env.locals->b∉X.fs->b∉ch->s.heap.get? b=some o->H b=none->h'.get? b=some o)
 (slot:∀b o,b≠X.env.locals->b∈X.fs->b∉ch->s.heap.get? b=some o->H b=none->∃sl,h'.get? b=some { o with slots:=sl }) (free:∀b o,b∉ch->s.heap.get? b=some o->H b=none->H' b=none)
 (there:∀b o,b∉ch->s.heap.get? b=some o->∃o',h'.get? b=some o')
 (bH:∀b xs,H b=some (.tup xs)->H' b=some (.tup xs)) (bB:∀b o u,H b=some (.kD o u)->H' b=some (.kD o u)) (bM:∀b ps,H b=some (.bW ps)->∃more,H' b=some (.bW (ps++more)))
 (ns:∀m,s.heap.Ns X.env.locals m->h'.Ns X.env.locals m) (aC:cE X.prog X.w H' h') (hg:AllBare g') :
 Inv X pins σ H' { s with heap:=h',gens:=g',drawn:=d',toks:=t' }:=by
 have Pt:∀b o,X.s₀.heap.get? b=some o->b≠X.env.locals:=λb o e=>ne_of_lt (lt_of_lt_of_le (lt_size e) I.ok.above);have Fu:∀b o,X.s₀.heap.get? b=some o->b∉X.ex->b∉ch:=λb o e hx hb=>by
  rcases (rG b hb).1 with z | z
  ·exact hx z
  ·exact absurd (lt_of_lt_of_le (lt_size e) z) (lt_irrefl _)
 have cellK:∀x c,X.env.cells.lookup x=some c->∀v,s.heap.IsCell c v->h'.IsCell c v:=λx c e v ⟨o,ho,hd⟩=>by
  have Cc:c∉ch:=λz=>(rG c z).2.2.1 x c e rfl;by_cases hc:c∈X.fs
  ·obtain⟨sl,q⟩:=slot c o (I.sH x c e) hc Cc ho (I.bz x c e);exact⟨_,q,hd⟩
  ·exact⟨o,keep c o (I.sH x c e) hc Cc ho (I.bz x c e),hd⟩
 refine⟨I.ok,I.os,hg,⟨λb o e n hb hx=>?_,λb o e n hb hx=>?_,λb o e n hx=>?_,λb o e hx=>?_,λb xs e=>bH b xs (I.base.bH b xs e),λb o xs e=>bB b o xs (I.base.bB b o xs e),λb ps e=>?_⟩,?_,λx c e=>?_,?_,λx c e=>?_,λp hp=>?_,aC,I.len⟩
 ·exact keep b o (Pt b o e) hb (Fu b o e hx) (I.base.keep b o e n hb hx) (I.base.free b o e n hx)
 ·obtain⟨sl,e1⟩:=I.base.slot b o e n hb hx;obtain⟨Jd,e2⟩:=slot b _ (Pt b o e) hb (Fu b o e hx) e1 (I.base.free b o e n hx);exact⟨Jd,e2⟩
 ·obtain⟨o',e1⟩:=I.base.there b o e hx;exact free b o' (Fu b o e hx) e1 (I.base.free b o e n hx)
 ·obtain⟨o',e1⟩:=I.base.there b o e hx;exact there b o' (Fu b o e hx) e1
 ·obtain⟨m1,e1⟩:=I.base.bM b ps e;obtain⟨m2,e2⟩:=bM b _ e1;exact⟨m1++m2,by rw[e2,Array.append_assoc]⟩
 ·obtain⟨m,hn,hl⟩:=I.loc;refine⟨m,ns m hn,λi x v e1 e2 e3=>?_⟩;obtain⟨u,r,l⟩:=hl i x v e1 e2 e3;refine⟨u,r,?_⟩;rcases l with l | ⟨k,c,e,z⟩
  ·exact .inl l
  ·exact .inr ⟨k,c,e,cellK x c e _ z⟩
 ·obtain⟨v,z⟩:=I.cell x c e;exact⟨v,cellK x c e v z⟩
 ·obtain⟨m,⟨o,_,_,ho,_⟩,_⟩:=I.loc;exact free _ o (λz=>(rG _ z).2.1 rfl) ho I.free
 ·obtain⟨v,o,ho,hd⟩:=I.cell x c e;exact free c o (λz=>(rG c z).2.2.1 x c e rfl) ho (I.bz x c e)
 ·obtain⟨e,n,ne,nf,d⟩:=I.pin p hp;have Cc:p.1∉ch:=λz=>(rG p.1 z).2.2.2 p hp rfl;exact⟨keep p.1 p.2 ne nf Cc e n,free p.1 p.2 Cc e n,ne,nf,d⟩
theorem Inv.un(I:Inv X pins σ H s)(u:Un X.fs [] H H' s.heap h')(aC:cE X.prog X.w H' h'):Inv X pins σ H' { s with heap:=h',toks:=t' }:=by
 obtain⟨m,⟨o,es,ep,ho,r⟩,_⟩:=id I.loc;obtain⟨sl,hL⟩:=u.any ho I.free (by simp);exact I.step (g':=s.gens) (d':=s.drawn) (ch:=[]) (λ_ z=>nomatch z) (λb o _ hb _ e n=>u.keep b o e n hb (by simp)) (λb o _ hb _ e n=>u.slot b o e n hb (by simp)) (λb o _ e n=>u.free b o e n (by simp)) (λb o _ e=>u.there b o e (by simp)) u.bH u.bB u.bM (λm' hm=>by
  obtain⟨o',Cd,Jf,dD,r'⟩:=hm;rw[ho]at dD;cases dD;exact⟨_,Cd,Jf,hL,r'⟩) aC I.bare
theorem Inv.call{d':Drawn}(I:Inv X pins σ H s)(u:Un (cf X.stack) ch H H' s.heap h')(aC:cE X.prog X.w H' h')(hg:AllBare g')
 (rG:∀b∈ch,(b∈X.ex\/X.s₀.heap.objs.size<=b)/\b≠X.env.locals/\(∀x c,X.env.cells.lookup x=some c->c≠b)/\∀p∈X.pn++pins,p.1≠b) :
 Inv X pins σ H' { s with heap:=h',gens:=g',drawn:=d',toks:=t' }:=by
 obtain⟨m,⟨o,es,ep,ho,r⟩,_⟩:=id I.loc;obtain⟨sl,hL⟩:=u.any ho I.free λz=>(rG _ z).2.1 rfl;exact I.step (ch:=ch) rG (λb o hL hb hc e n=>u.keep b o e n (λz=>(List.mem_cons.mp (I.eM b z)).elim hL hb) hc) (λb o _ _ hc e n=>u.any e n hc) (λb o hc e n=>u.free b o e n hc) (λb o hc e=>u.there b o e hc) u.bH u.bB u.bM (λm' hm=>by
  obtain⟨o',Cd,Jf,dD,r'⟩:=hm;rw[ho]at dD;cases dD;exact⟨_,Cd,Jf,hL,r'⟩) aC hg
theorem Inv.turned{it:Addr}(I:Inv X pins σ H s)(k:∀b o,b≠it->s.heap.get? b=some o->h'.get? b=some o)(hn:H it=none)(hL:it≠X.env.locals)
 (h1:it∈X.ex\/X.s₀.heap.objs.size<=it) (h2:∀x c,X.env.cells.lookup x=some c->c≠it) (h3:∀p∈X.pn++pins,p.1≠it):Inv X pins σ H { s with heap:=h',toks:=t' }:=by
 have jB:∀b u,H b=some u->b≠it:=λb u e z=>by rw[z,hn]at e;cases e
 refine I.step (g':=s.gens) (d':=s.drawn) (ch:=[it]) (λb hb=>?_) (λb o _ _ hc e _=>k b o (λz=>hc (by simp[z])) e) (λb o _ _ hc e _=>⟨o.slots,k b o (λz=>hc (by simp[z])) e⟩) (λ_ _ _ _ n=>n)
  (λb o hc e=>⟨o,k b o (λz=>hc (by simp[z])) e⟩) (λ_ _ e=>e) (λ_ _ _ e=>e) (λb ps e=>⟨#[],by rw[e];simp⟩) (λm hm=>?_) (λb u e=>?_) I.bare
 ·have e:b=it:=by simpa using hb
  subst e;exact⟨h1,hL,h2,h3⟩
 ·obtain⟨o,es,ep,ho,r⟩:=hm;exact⟨o,es,ep,k _ o (Ne.symm hL) ho,r⟩
 ·refine(I.aC b u e).bQ (λc v hc q=>k c v ?_ q) (λ_ q=>q) λ_ _ q=>q;rcases hc with z | z
  ·rw[z];exact jB b u e
  ·exact jB c _ z
theorem Inv.tok(I:Inv X pins σ H s)(t:Nat):Inv X pins σ H { s with toks:=t }:=I.un (h':=s.heap) (t':=t) Un.refl I.aC
theorem Inv.kept(I:Inv X pins σ H s)(k:∀b u,s.heap.get? b=some u->h'.get? b=some u):Inv X pins σ H { s with heap:=h',toks:=t' }:=I.un (Un.kept k) (I.aC.kept k)
theorem Inv.laid{a:Addr}{o:HO}(I:Inv X pins σ H s)(k:∀b u,s.heap.get? b=some u->h'.get? b=some u)(hp:s.heap.objs.size<=a)(new:aX X.prog X.w (upd H a o) h' a o):
 Inv X pins σ (upd H a o) { s with heap:=h',toks:=t' }:=I.un (Un.laid k hp (I.aC.fresh hp)) (I.aC.laid k hp new)
theorem Inv.write{x e:Addr}{o:HO}(I:Inv X pins σ H s)(mu:B9 (H x))(he:e=x\/H e=some (.own x))(k:∀b u,b≠e->s.heap.get? b=some u->h'.get? b=some u)(Bd:∃u,h'.get? e=some u)
 (new:aX X.prog X.w (upd H x o) h' x o):Inv X pins σ (upd H x o) { s with heap:=h',toks:=t' }:=I.un (Un.write mu he k Bd) (I.aC.write mu he k Bd new)
theorem Inv.bG{pins':List (Addr×Obj)}(I:Inv X pins σ H s)(h:∀p∈pins',s.heap.get? p.1=some p.2/\H p.1=none/\p.1≠X.env.locals/\p.1∉X.fs/\∀v,p.2.data ≠ .cell v):Inv X pins' σ H s :=
 ⟨I.ok,I.os,I.bare,I.base,I.loc,I.cell,I.free,I.bz,λp hp=>(List.mem_append.mp hp).elim (λz=>I.pin p (mem_append_left _ z)) (h p),I.aC,I.len⟩
variable {i:Nat}{x:Str}
theorem Jg{N:List Str}(hN:N.Nodup){j:Nat}(a:N[i]? = some x)(b:N[j]? = some x):i=j:=by
 obtain⟨h1,e1⟩:=List.getElem?_eq_some_iff.mp a;obtain⟨h2,e2⟩:=List.getElem?_eq_some_iff.mp b;exact(getElem_inj hN).mp (e1.trans e2.symm)
variable {E:Value->Shared->Prop}{Q:Unit->Shared->Prop}
theorem Jh{M:Model}{A:Around}{v:V}{u:Value}(I:Inv X pins σ H s)(hN:X.N.Nodup)(hi:X.N[i]? = some x)(hx:Loc X.env.scope x)(r:RelV v u)
 (h:∀s',Inv X pins (σ.set i (some v)) H s'->(∃a,SameBut a s.heap s'.heap/\(a=X.env.locals\/X.env.cells.lookup x=some a))->Q () s') (hf:X.fn x=true\/X.env.scope.names.lookup x=some .local:=by first | exact .inl rfl | exact .inr rfl | assumption):wpAny M A (storeName X.env x u) Q E s:=by
 obtain⟨m,hn,hl⟩:=id I.loc;have iG:(X.env.scope.kind == .class || (X.env.scope.kind == .module && X.env.locals != X.env.globals))=false:=by rw[I.ok.kind];rfl
 have Pu:i<σ.length:=by rw[I.len];exact(List.getElem?_eq_some_iff.mp hi).1
 have sH:=I.sH;have tracked:∀{a:Addr}{h':Heap},(∃o,s.heap.get? a=some o/\H a=none)->SameBut a s.heap h'->cE X.prog X.w H h':=λ{a h'} ha hs b ob e=>by
  obtain⟨_,_,uT⟩:=ha;refine(I.aC b ob e).bQ (λc w' hc q=>(hs.2 c ?_).trans q) (λ_ q=>q) λ_ _ q=>q;rintro rfl;rcases hc with rfl | hc
  ·rw[uT]at e;cases e
  ·rw[uT]at hc;cases hc
 rcases hx with hk | hk
 ·refine wpAny_storeName_local hk hn (λh' Bf hs=>?_) iG;obtain⟨oL,_,_,Pw,_⟩:=id hn;refine h _ ⟨I.ok,I.os,I.bare,⟨λb o e n hb hx=>?_,λb o e n hb hx=>?_,I.base.free,λb o e hx=>?_,I.base.bH,I.base.bB,I.base.bM⟩,⟨_,Bf,λj y v' e1 e2 e3=>?_⟩,λy c e=>?_,I.free,I.bz,λp hp=>?_,tracked ⟨oL,Pw,I.free⟩ hs,by simpa using I.len⟩ ⟨_,hs,.inl rfl⟩
  ·exact(hs.2 b (ne_of_lt (lt_of_lt_of_le (lt_size e) I.ok.above))).trans (I.base.keep b o e n hb hx)
  ·obtain⟨sl,e1⟩:=I.base.slot b o e n hb hx;exact⟨sl,(hs.2 b (ne_of_lt (lt_of_lt_of_le (lt_size e) I.ok.above))).trans e1⟩
  ·obtain⟨o',e1⟩:=I.base.there b o e hx;exact⟨o',(hs.2 b (ne_of_lt (lt_of_lt_of_le (lt_size e) I.ok.above))).trans e1⟩
  ·by_cases hj:j=i
   ·subst hj;rw[hi]at e1;cases e1;rw[List.getElem?_set_self Pu]at e2;cases e2;exact⟨u,r,.inl ⟨hk,by simp⟩⟩
   ·rw[List.getElem?_set_ne (Ne.symm hj)]at e2;obtain⟨u',r',q⟩:=hl j y v' e1 e2 e3;refine⟨u',r',?_⟩;rcases q with⟨k,e⟩|⟨k,c,e,z⟩
    ·refine .inl ⟨k,?_⟩;have:y≠x:=λe=>hj (Jg hN e1 (e ▸ hi));simp[this,e]
    ·exact .inr ⟨k,c,e,z.sameBut hs (sH y c e)⟩
  ·obtain⟨w',z⟩:=I.cell y c e;exact⟨w',z.sameBut hs (sH y c e)⟩
  ·obtain⟨e,n,ne,nf,d⟩:=I.pin p hp;exact⟨(hs.2 p.1 ne).trans e,n,ne,nf,d⟩
 ·have Fv:X.fn x=true:=by
   rcases hf with z | z
   ·exact z
   ·rw[z]at hk;cases hk
  obtain⟨c,hc⟩:=I.ok.has x (.inl hk);obtain⟨w',z⟩:=I.cell x c hc;refine wpAny_storeName_cell I.ok.kind hk hc z (λh' jC hs=>?_);obtain⟨oc,Px,Ji⟩:=id z;refine h { s with heap:=h' } ⟨I.ok,I.os,I.bare,⟨λb o e n hb hx=>?_,λb o e n hb hx=>?_,I.base.free,λb o e hx=>?_,I.base.bH,I.base.bB,I.base.bM⟩,⟨m,hn.sameBut hs (Ne.symm (sH x c hc)),λj y v' e1 e2 e3=>?_⟩,λy c' e=>?_,I.free,I.bz,λp hp=>?_,tracked ⟨oc,Px,I.bz x c hc⟩ hs,by simpa using I.len⟩ ⟨c,hs,.inr hc⟩
  ·exact(hs.2 b (ne_of_lt (lt_of_lt_of_le (lt_size e) (I.ok.nz x c Fv hc)))).trans (I.base.keep b o e n hb hx)
  ·obtain⟨sl,e1⟩:=I.base.slot b o e n hb hx;exact⟨sl,(hs.2 b (ne_of_lt (lt_of_lt_of_le (lt_size e) (I.ok.nz x c Fv hc)))).trans e1⟩
  ·obtain⟨o',e1⟩:=I.base.there b o e hx;exact⟨o',(hs.2 b (ne_of_lt (lt_of_lt_of_le (lt_size e) (I.ok.nz x c Fv hc)))).trans e1⟩
  ·by_cases hj:j=i
   ·subst hj;rw[hi]at e1;cases e1;rw[List.getElem?_set_self Pu]at e2;cases e2;exact⟨u,r,.inr ⟨.inl hk,c,hc,jC⟩⟩
   ·rw[List.getElem?_set_ne (Ne.symm hj)]at e2;obtain⟨u',r',q⟩:=hl j y v' e1 e2 e3;refine⟨u',r',?_⟩;rcases q with q | ⟨k,c',e,z'⟩
    ·exact .inl q
    ·refine .inr ⟨k,c',e,z'.sameBut hs ?_⟩;rintro rfl;exact hj (Jg hN e1 (I.ok.inj _ _ _ e hc ▸ hi))
  ·by_cases nA:c'=c
   ·subst nA;exact⟨_,jC⟩
   ·obtain⟨w2,z2⟩:=I.cell y c' e;exact⟨w2,z2.sameBut hs nA⟩
  ·obtain⟨e,n,ne,nf,d⟩:=I.pin p hp;refine⟨(hs.2 p.1 ?_).trans e,n,ne,nf,d⟩;intro q;rw[q,Px]at e;have q':oc=p.2:=Option.some.inj e;exact d w' (by rw[<-q'];exact Ji)
theorem Jj{M:Model}{A:Around}{v:V}{u:Value}(I:Inv X pins σ H s)(hN:X.N.Nodup)(hi:X.N[i]? = some x)(hx:Loc X.env.scope x)(r:RelV v u)
 (h:∀s',Inv X pins (σ.set i (some v)) H s'->Q () s') (hf:X.fn x=true\/X.env.scope.names.lookup x=some .local:=by first | exact .inl rfl | exact .inr rfl | assumption):wpAny M A (storeName X.env x u) Q E s :=
 Jh I hN hi hx r (λs' I' _=>h s' I') hf
theorem Inv.jD{s':Shared}(I:Inv X pins σ H s)(ho:s'.os=s.os)(u:Un (cf X.stack) ch H H' s.heap s'.heap)(aC:cE X.prog X.w H' s'.heap)(hg:AllBare s'.gens)
 (rG:∀b∈ch,(b∈X.ex\/X.s₀.heap.objs.size<=b)/\b≠X.env.locals/\(∀x c,X.env.cells.lookup x=some c->c≠b)/\∀p∈X.pn++pins,p.1≠b):Inv X pins σ H' s':=by
 obtain⟨h',g',d',t',o'⟩:=s';have e:o'=s.os:=ho;subst e;exact I.call (g':=g') (t':=t') (d':=d') u aC hg rG
end
abbrev XK:=Value->Option Addr->Hp->Prop
abbrev St:=List (Option V)
abbrev VK:=V->Hp->Prop
abbrev TE:=St->Hp->VK->Prop
abbrev TT:=St->Hp->(Bool->Hp->Prop)->Prop
abbrev TA:=St->Hp->(List V->Hp->Prop)->Prop
structure Ends where
 nx:St->Hp->Prop
 rt:VK
 bk:St->Hp->Prop:=λ_ _=>False
 ct:St->Hp->Prop:=λ_ _=>False
abbrev TS:=Ends->St->Hp->Prop
def EP(X:Cx)(pins:List (Addr×Obj))(σ:St)(Q:VK)(u:Value)(s':Shared):Prop:=∃v H',Inv X pins σ H' s'/\RelV v u/\Q v H'
def TP(X:Cx)(pins:List (Addr×Obj))(σ:St)(Q:Bool->Hp->Prop)(b:Bool)(s':Shared):Prop:=∃H',Inv X pins σ H' s'/\Q b H'
def AP(X:Cx)(pins:List (Addr×Obj))(σ:St)(Q:List V->Hp->Prop)(us:List Value)(s':Shared):Prop:=∃vs H',Inv X pins σ H' s'/\Vals vs us/\Q vs H'
def SP(X:Cx)(pins:List (Addr×Obj))(D:Ends)(f:Flow)(s':Shared):Prop :=
 match f with
 | .next=>∃σ' H',Inv X pins σ' H' s'/\D.nx σ' H'
 | .brk=>∃σ' H',Inv X pins σ' H' s'/\D.bk σ' H'
 | .cont=>∃σ' H',Inv X pins σ' H' s'/\D.ct σ' H'
 | .ret u=>∃v σ' H',Inv X pins σ' H' s'/\RelV v u/\D.rt v H'
def PE(X:Cx)(e:Expr)(t:TE):Prop :=
 ∀(pins:List (Addr×Obj)) (s:Shared) (σ:St) (H:Hp) (Q:VK),Inv X pins σ H s->t σ H Q->wpAny (model X.prog X.w) X.A (eval e X.env) (EP X pins σ Q) X.xe s
def PT(X:Cx)(e:Expr)(t:TT):Prop :=
 ∀(pins:List (Addr×Obj)) (s:Shared) (σ:St) (H:Hp) (Q:Bool->Hp->Prop),Inv X pins σ H s->t σ H Q->wpAny (model X.prog X.w) X.A (isTrue e X.env (eval e X.env)) (TP X pins σ Q) X.xe s
def PW(X:Cx)(e:Expr)(t:TT):Prop :=
 ∀(whole:Sem Value)(pins:List (Addr×Obj)) (s:Shared) (σ:St) (H:Hp) (Q:Bool->Hp->Prop),Inv X pins σ H s->t σ H Q->wpAny (model X.prog X.w) X.A (isTrue e X.env whole) (TP X pins σ Q) X.xe s
variable {X:Cx}
theorem PW.pt{e:Expr}{t:TT}(h:PW X e t):PT X e t:=h _
def PA(X:Cx)(es:List Expr)(t:TA):Prop :=
 ∀(pos:Pos)(pins:List (Addr×Obj)) (s:Shared) (σ:St) (H:Hp) (Q:List V->Hp->Prop),Inv X pins σ H s->t σ H Q->wpAny (model X.prog X.w) X.A (spliced (backTo pos (starEach es X.env))) (AP X pins σ Q) X.xe s
def PS(X:Cx)(st:Stmt)(t:TS):Prop :=
 ∀(pins:List (Addr×Obj)) (s:Shared) (σ:St) (H:Hp) (D:Ends),Inv X pins σ H s->t D σ H->wpAny (model X.prog X.w) X.A (exec st X.env) (SP X pins D) X.xe s
def iu(X:Cx)(st:List Stmt)(t:TS):Prop :=
 ∀(pins:List (Addr×Obj)) (s:Shared) (σ:St) (H:Hp) (D:Ends),Inv X pins σ H s->t D σ H->wpAny (model X.prog X.w) X.A (execs st X.env) (SP X pins D) X.xe s
variable {A:Around}{E:Value->Shared->Prop}{s:Shared}
theorem aF{α:Type}{t:Sem α}{Q Q':α->Shared->Prop}{M:Model}(h:wpAny M A t Q E s)(hQ:∀a s,Q a s->Q' a s):wpAny M A t Q' E s:=wpAny_mono h hQ λ_ _ x=>x
section
variable {X:Cx}
variable {pins:List (Addr×Obj)}{s:Shared}
theorem bin{a b:Expr}{ta tb:TE}(ha:PE X a ta)(hb:PE X b tb){σ:St}{H:Hp}{R:V->V->Hp->Prop}(I:Inv X pins σ H s)(h:ta σ H λx H1=>tb σ H1 λy H2=>R x y H2)
 {α:Type} {Q:α->Shared->Prop} {f:Value->Value->Sem α}
 (hf:∀v u s2 x y H2,Inv X pins σ H2 s2->RelV x v->RelV y u->R x y H2->wpAny (model X.prog X.w) X.A (f v u) Q X.xe s2) :
 wpAny (model X.prog X.w) X.A (eval a X.env) (λv s₁=>wpAny (model X.prog X.w) X.A (eval b X.env) (λu s₂=>wpAny (model X.prog X.w) X.A (f v u) Q X.xe s₂) X.xe s₁) X.xe s:=by
 refine aF (ha pins s σ H _ I h) λv s1 ⟨x,H1,I1,r1,q1⟩=>?_;refine aF (hb pins s1 σ H1 _ I1 q1) λu s2 ⟨y,H2,I2,r2,q2⟩=>?_;exact hf v u s2 x y H2 I2 r1 r2 q2
inductive uU (i:Nat) (σ:St) (H:Hp) (Q:VK):Prop
 | mk (v:_):σ[i]? = some (some v)->Q v H->uU i σ H Q
def Ce(i:Nat):TE:=λσ H Q=>uU i σ H Q
def tC(v:V):TE:=λ_ H Q=>Q v H
variable {x:Str}
theorem nD{i:Nat}{pos:Pos}(hN:X.N[i]? = some x)(hv:Be X.env.scope x)(hd:(x==("__debug__":Str))=false:=by decide)(di:(x==("__classdict__":Str))=false:=by decide):PE X (.Name x pos) (Ce i):=by
 intro pins s σ H Q I h;obtain⟨v,e,h⟩:=h;obtain⟨m,hn,hl⟩:=I.loc;obtain⟨u,r,l⟩:=hl i x v hN e hv;have fin:EP X pins σ Q u s:=⟨v,H,I,r,h⟩;rcases l with⟨hk,hm⟩|⟨hk,c,hc,dP⟩
 ·exact wpAny_Name (wpAny_loadName_local I.ok.kind hk hn hm fin) hd
 ·rcases hk with hk | hk
  ·exact wpAny_Name (wpAny_loadName_cell I.ok.kind hk hc dP fin) hd
  ·exact wpAny_Name (wpAny_loadName_free I.ok.kind hk hc dP fin di) hd
theorem zg{i j pos}:PE X (.Constant (.int i) j pos) (tC (.int i)):=λ_ _ _ H _ I h=>wpAny_Constant_int ⟨.int i,H,I.tok _,⟨_,rfl⟩,h⟩
theorem yf{b j pos}:PE X (.Constant (.bool b) j pos) (tC (.bl b)):=λ_ _ _ H _ I h=>Constant_bool ⟨.bl b,H,I,rfl,h⟩
theorem Bg{j pos}:PE X (.Constant .none j pos) (tC .bo):=λ_ _ _ H _ I h=>Constant_none ⟨.bo,H,I,rfl,h⟩
theorem ye{x j pos}:PE X (.Constant (.str x) j pos) (tC (.str x)):=λ_ _ _ H _ I h=>Calls.Constant_str ⟨.str x,H,I.tok _,⟨_,rfl⟩,h⟩
def Gl(X:Cx)(x:Str):Prop:=X.env.kindOf x=some .globalImplicit
variable {E Q:Value->Shared->Prop}{u:Value}
theorem Bh{σ:St}{H:Hp}{pos:Pos}(I:Inv X pins σ H s)(hg:Gl X x)(hm:X.mg x=some u)(h:Q u s)
 (hd:(x==("__debug__":Str))=false:=by decide):wpAny (model X.prog X.w) X.A (eval (.Name x pos) X.env) Q E s :=
 Calls.Name_function_global I.ok.kind hg (Calls.loadGlobal_global (by rw[I.ok.glob];exact I.mod.glob.keeps I.bk) hm h) hd
theorem rH{σ:St}{H:Hp}{pos:Pos}(I:Inv X pins σ H s)(hg:Gl X x)(hm:X.mg x=none)(hv:bootBuiltins x=some u)(h:Q u s)
 (hn:x≠"__name__":=by decide) (hd:(x==("__debug__":Str))=false:=by decide):wpAny (model X.prog X.w) X.A (eval (.Name x pos) X.env) Q E s:=by
 obtain⟨mb,h1,h2⟩:=I.mod.blt;exact Calls.Name_function_global I.ok.kind hg (Calls.loadGlobal_builtin (by rw[I.ok.glob];exact I.mod.glob.keeps I.bk) hm (by rw[I.ok.blt];exact h1.keeps I.bk) ((h2 x hn).trans hv) h) hd
theorem jE{v:V}{pos:Pos}(hg:Gl X x)(hm:X.mg x=some u)(r:RelV v u)(hd:(x==("__debug__":Str))=false:=by decide):PE X (.Name x pos) (tC v) :=
 λ_ _ _ H _ I h=>Bh I hg hm ⟨v,H,I,r,h⟩ hd
theorem mP{v:V}{pos:Pos}(hg:Gl X x)(hm:X.mg x=none)(hv:bootBuiltins x=some u)(r:RelV v u)(hn:x≠"__name__":=by decide)(hd:(x==("__debug__":Str))=false:=by decide):PE X (.Name x pos) (tC v) :=
 λ_ _ _ H _ I h=>rH I hg hm hv ⟨v,H,I,r,h⟩ hn hd
variable {a b:Expr}{ta tb:TE}{pos:Pos}
def PC(X:Cx)(op:CmpOp)(a b:Expr)(t:TE):Prop :=
 ∀(pins:List (Addr×Obj)) (s:Shared) (σ:St) (H:Hp) (Q:VK),Inv X pins σ H s->t σ H Q ->
  wpAny (model X.prog X.w) X.A (eval a X.env) (λv s₁=>wpAny (model X.prog X.w) X.A (eval b X.env) (λu s₂=>wpAny (model X.prog X.w) X.A (compareOp op v u) (EP X pins σ Q) X.xe s₂) X.xe s₁) X.xe s
inductive Py (x:V) (H1:Hp) (Q:Bool->Hp->Prop):Prop
 | mk (c:_):x=.bl c->Q c H1->Py x H1 Q
def tB(t:TE):TT:=λσ H Q=>t σ H λx H1=>Py x H1 Q
theorem nE{op:CmpOp}{t:TE}(h:PC X op a b t)(h1:behindInMarks op b=false:=by first | exact Cf _ (by decide) (by decide) | rfl):PT X (.Compare a [op] [b] pos) (tB t):=by
 intro pins s σ H Q I hw;refine wpAny_isTrue_Compare1 (aF (h pins s σ H _ I hw) λv s1 h1=>aF h1 λu s2 h2=>aF h2 λc s3 ⟨x,H1,I1,r1,q1⟩=>?_) h1;obtain⟨d,rfl,q⟩:=q1;cases r1;exact wpAny_truthy_bool ⟨H1,I1,q⟩
theorem zQ{e:Expr}{t:TE}(h:PE X e t)(he:∀whole,isTrue e X.env whole=(do let v <-whole;standAt e.pos;holding [v] (truthy v)):=by intro _;rfl):PT X e (tB t):=by
 intro pins s σ H Q I hw;refine isTrue_plain (aF (h pins s σ H _ I hw) λv s1 ⟨x,H1,I1,r1,q1⟩=>?_) (he _);obtain⟨d,rfl,q⟩:=q1;cases r1;exact wpAny_truthy_bool ⟨H1,I1,q⟩
variable {tA Fw:TT}{gR:List Expr}
def Jk(t u:TT):TT:=λσ H Q=>t σ H λc H1=>if c=true then u σ H1 Q else Q false H1
def TY(t u:TT):TT:=λσ H Q=>t σ H λc H1=>if c=true then Q true H1 else u σ H1 Q
def Jl(t:TT):TT:=λσ H Q=>t σ H λc H1=>Q (!c) H1
theorem sI(ha:PT X a tA):PW X (.BoolOp .And [a] pos) tA:=by
 intro wh pins s σ H Q I h;refine isTrue_and (aF (ha pins s σ H Q I h) λc s1 e=>?_);cases c with
 | true=>exact isTrue_and_nil e
 | false=>exact e
theorem wR(ha:PT X a tA):PW X (.BoolOp .Or [a] pos) tA:=by
 intro wh pins s σ H Q I h;refine isTrue_or (aF (ha pins s σ H Q I h) λc s1 e=>?_);cases c with
 | false=>exact isTrue_or_nil e
 | true=>exact e
theorem sJ(ha:PT X a tA)(hb:PW X (.BoolOp .And (b::gR) pos) Fw):PW X (.BoolOp .And (a::b::gR) pos) (Jk tA Fw):=by
 intro wh pins s σ H Q I h;refine isTrue_and (aF (ha pins s σ H _ I h) λc s1 ⟨H1,I1,q1⟩=>?_);cases c with
 | true=>exact hb wh pins s1 σ H1 Q I1 q1
 | false=>exact⟨H1,I1,q1⟩
theorem gS(ha:PT X a tA)(hb:PW X (.BoolOp .Or (b::gR) pos) Fw):PW X (.BoolOp .Or (a::b::gR) pos) (TY tA Fw):=by
 intro wh pins s σ H Q I h;refine isTrue_or (aF (ha pins s σ H _ I h) λc s1 ⟨H1,I1,q1⟩=>?_);cases c with
 | true=>exact⟨H1,I1,q1⟩
 | false=>exact hb wh pins s1 σ H1 Q I1 q1
theorem zV(ha:PT X a tA):PT X (.UnaryOp .Not a pos) (Jl tA):=by
 intro pins s σ H Q I h;exact isTrue_not (ha pins s σ H (λc H1=>Q (!c) H1) I h)
inductive nF (tb:TE) (σ:St) (x:V) (H1:Hp) (Q:VK):Prop
 | mk (c:_):x=.bl c->(if c=true then tb σ H1 Q else Q (.bl false) H1)->nF tb σ x H1 Q
def Cg(ta tb:TE):TE:=λσ H Q=>ta σ H λx H1=>nF tb σ x H1 Q
inductive nH (x:V) (H1:Hp) (Q:VK):Prop
 | mk (c:_):x=.bl c->Q (.bl (!c)) H1->nH x H1 Q
def Ci(ta:TE):TE:=λσ H Q=>ta σ H λx H1=>nH x H1 Q
theorem Fx{op}{t:TE}(h:PE X a t):PE X (.BoolOp op [a] pos) t:=λpins s σ H Q I hw=>BoolOp_one (h pins s σ H Q I hw)
theorem Bi(ha:PE X a ta)(hb:PE X (.BoolOp .And (b::gR) pos) tb):PE X (.BoolOp .And (a::b::gR) pos) (Cg ta tb):=by
 intro pins s σ H Q I h;refine BoolOp_and (aF (ha pins s σ H _ I h) λv s1 ⟨x,H1,I1,r1,q1⟩=>?_);obtain⟨c,rfl,q1⟩:=q1;cases r1;refine wpAny_truthy_bool ?_;cases c with
 | true=>exact hb pins s1 σ H1 Q I1 q1
 | false=>exact⟨.bl false,H1,I1,rfl,q1⟩
theorem xt(ha:PE X a ta):PE X (.UnaryOp .Not a pos) (Ci ta):=by
 intro pins s σ H Q I h;refine UnaryOp_ (aF (ha pins s σ H _ I h) λv s1 ⟨x,H1,I1,r1,q1⟩=>?_);obtain⟨c,rfl,q1⟩:=q1;cases r1;exact not_of (wpAny_truthy_bool ⟨.bl (!c),H1,I1,rfl,q1⟩)
def TZ(t:TT)(ta tb:TE):TE:=λσ H Q=>t σ H λc H1=>if c=true then ta σ H1 Q else tb σ H1 Q
theorem nI{c:Expr}(hc:PT X c tA)(ha:PE X a ta)(hb:PE X b tb):PE X (.IfExp c a b pos) (TZ tA ta tb):=by
 intro pins s σ H Q I h;refine wpAny_IfExp (aF (hc pins s σ H _ I h) λd s1 ⟨H1,I1,q1⟩=>?_);cases d with
 | true=>exact ha pins s1 σ H1 Q I1 q1
 | false=>exact hb pins s1 σ H1 Q I1 q1
end
def ag(K:Frag)(H:Hp)(a:Addr)(xs:List V):Prop :=
 Rd H a (.lst xs) \/
  ∃(o:Obj)(au:Array Value)(n:Nat),K.lookup a=some o/\o.cls=.type "list"/\o.dict=none/\o.data=.seq au n/\au.size<=sizeLine/\Vals xs au.toList
def bN(K:Frag)(H:Hp)(a:Addr)(xs:List V):Prop :=
 Rd H a (.tup xs) \/
  ∃(o:Obj)(au:Array Value)(n:Nat),K.lookup a=some o/\o.cls=.type "tuple"/\o.data=.seq au n/\au.size<=sizeLine/\Vals xs au.toList
def Jm:Value->Option V
 | .none=>some .bo
 | .bool b=>some (.bl b)
 | .int i _=>some (.int i)
 | .str x _=>some (.str x)
 | .bytes b _=>some (.iF b)
 | .float b _=>some (.B8 b)
 | .ref a=>some (.ref a)
 | .type n=>some (.ty n)
 | _=>none
theorem RelV.abs{x:V}(r:RelV x u):Jm u=some x:=by
 cases x with
 | bo=>cases r;rfl
 | bl _=>cases r;rfl
 | int _=>obtain⟨t,rfl⟩:=r;rfl
 | str _=>obtain⟨t,rfl⟩:=r;rfl
 | iF _=>obtain⟨t,rfl⟩:=r;rfl
 | B8 _=>obtain⟨t,rfl⟩:=r;rfl
 | ref _=>cases r;rfl
 | ty _=>cases r;rfl
theorem RelV.inj{x y:V}(r:RelV x u)(q:RelV y u):x=y:=Option.some.inj (r.abs.symm.trans q.abs)
theorem Vals.inj:∀{xs ys:List V}{us:List Value},Vals xs us->Vals ys us->xs=ys
 | _,_,_,.nil,.nil=>rfl
 | _,_,_,.cons r t,.cons r' t'=>by rw[r.inj r',Vals.inj t t']
section
variable {X:Cx}{pins:List (Addr×Obj)}{σ:St}{H:Hp}{s:Shared}{a:Addr}{xs ys:List V}
theorem ag.of{K:Frag}(h:H a=some (.lst xs)):ag K H a xs:=.inl (.inl h)
theorem bN.of{K:Frag}(h:H a=some (.tup xs)):bN K H a xs:=.inl (.inl h)
theorem Inv.list(I:Inv X pins σ H s)(h:ag X.K H a xs):∃au:List Value,Vals xs au/\PlainL s.heap a au.toArray/\xs.length<=sizeLine:=by
 rcases h with h | ⟨o,au,n,hk,hc,hd,hs,hz,r⟩
 ·obtain⟨z,au,n,r,e⟩:=h.ok I.aC;exact⟨au,r,⟨_,n,e,rfl,rfl,rfl⟩,z⟩
 ·refine⟨au.toList,r,⟨o,n,I.gd a o hk,hc,hd,by simpa using hs⟩,?_⟩;have e:=r.length;simp only[Array.length_toList]at e;omega
theorem Inv.tuple(I:Inv X pins σ H s)(h:bN X.K H a xs):∃au:List Value,Vals xs au/\IsTup s.heap a au.toArray/\xs.length<=sizeLine:=by
 rcases h with h | ⟨o,au,n,hk,hc,hs,hz,r⟩
 ·obtain⟨z,au,r,p⟩:=h.ok I.aC;exact⟨au,r,p,z⟩
 ·refine⟨au.toList,r,⟨o,I.gd a o hk,hc,n,by simpa using hs⟩,?_⟩;have e:=r.length;simp only[Array.length_toList]at e;omega
theorem Inv.eN(I:Inv X pins σ H s)(h:ag X.K H a xs)(h':ag X.K H a ys):xs=ys:=by
 obtain⟨au,r,⟨o,n,e,_,_,d⟩,_⟩:=I.list h;obtain⟨its',r',⟨o',n',e',_,_,d'⟩,_⟩:=I.list h';rw[e]at e';cases e';rw[d]at d';injection d' with d1 _
 have:au=its':=by simpa using congrArg Array.toList d1
 subst this;exact r.inj r'
end
abbrev Cx.fI(X:Cx)(E:Value->Shared->Prop):Cx:={ X with xe:=E }
abbrev Cx.Bj(X:Cx):Cx:=X.fI λ_ _=>False
theorem Cx.Ok.fI(ok:X.Ok)(E:Value->Shared->Prop):(X.fI E).Ok :=
 ⟨ok.mod,ok.kind,ok.glob,ok.blt,ok.above,ok.inj,ok.has,ok.nz,ok.hd,ok.frames,ok.rF,ok.jz,ok.bs,ok.fV,ok.dB,ok.dC,ok.bX,ok.jA⟩
theorem Cx.Ok.cK(ok:(X.fI E).Ok):X.Ok :=
 ⟨ok.mod,ok.kind,ok.glob,ok.blt,ok.above,ok.inj,ok.has,ok.nz,ok.hd,ok.frames,ok.rF,ok.jz,ok.bs,ok.fV,ok.dB,ok.dC,ok.bX,ok.jA⟩
section
variable {X:Cx}{pins:List (Addr×Obj)}{σ:St}{H:Hp}{s:Shared}{E:Value->Shared->Prop}
theorem Inv.fI(I:Inv X pins σ H s)(E:Value->Shared->Prop):Inv (X.fI E) pins σ H s:=⟨I.ok.fI E,I.os,I.bare,I.base,I.loc,I.cell,I.free,I.bz,I.pin,I.aC,I.len⟩
theorem Inv.cK(I:Inv (X.fI E) pins σ H s):Inv X pins σ H s:=⟨I.ok.cK,I.os,I.bare,I.base,I.loc,I.cell,I.free,I.bz,I.pin,I.aC,I.len⟩
theorem SP.cK{D:Ends}{f:Flow}{s':Shared}(h:SP (X.fI E) pins D f s'):SP X pins D f s':=by
 cases f with
 | next=>obtain⟨σ',H',I,q⟩:=h;exact⟨σ',H',I.cK,q⟩
 | brk=>obtain⟨σ',H',I,q⟩:=h;exact⟨σ',H',I.cK,q⟩
 | cont=>obtain⟨σ',H',I,q⟩:=h;exact⟨σ',H',I.cK,q⟩
 | ret u=>obtain⟨v,σ',H',I,r,q⟩:=h;exact⟨v,σ',H',I.cK,r,q⟩
theorem iu.Bj{st:List Stmt}{t:TS}(h:iu X.Bj st t):iu X st t:=λpins s σ H D I hw =>
 wpAny_mono (h pins s σ H D (I.fI _) hw) (λ_ _ q=>q.cK) λ_ _ z=>False.elim z
end
section
variable {X:Cx}{st:Stmt}{gR:List Stmt}{t u:TS}{e:Expr}{te:TE}{pos:Pos}
def Cj:TS:=λD σ H=>D.nx σ H
def Jn(t u:TS):TS:=λD σ H=>t { D with nx:=u D } σ H
theorem zp:iu X [] Cj:=λ_ _ σ H _ I h=>wpAny_execs_nil ⟨σ,H,I,h⟩
theorem zd(h1:PS X st t)(h2:iu X gR u):iu X (st::gR) (Jn t u):=by
 intro pins s σ H D I h;refine wpAny_execs_cons (aF (h1 pins s σ H { D with nx:=u D } I h) λf s1 q=>?_);cases f with
 | next =>
   obtain⟨σ',H',I',q⟩:=q;exact h2 pins s1 σ' H' D I' q
 | ret v=>exact q
 | brk=>exact q
 | cont=>exact q
theorem ze(h1:PS X st t):iu X [st] t:=by
 intro pins s σ H D I h;refine wpAny_execs_cons (aF (h1 pins s σ H D I h) λf s1 q=>?_);cases f with
 | next=>exact wpAny_execs_nil q
 | ret v=>exact q
 | brk=>exact q
 | cont=>exact q
theorem Inv.quiet{pins:List (Addr×Obj)}{σ:St}{H:Hp}{s:Shared}(I:Inv X pins σ H s):interactive X.env=false:=by simp[interactive,I.ok.kind]
def Ck(te:TE):TS:=λD σ H=>te σ H λ_ H1=>D.nx σ H1
theorem zI(he:PE X e te)(hs:swapsWith e none pos.line X.env=pure false:=by rfl):PS X (.Expr e pos) (Ck te):=by
 intro pins s σ H D I h;exact wpAny_Expr_any (aF (he pins s σ H _ I h) λv s1 ⟨x,H1,I1,r1,q1⟩=>⟨σ,H1,I1,q1⟩) I.quiet hs
def Jo(te:TE):TS:=λD σ H=>te σ H D.rt
theorem zk(he:PE X e te):PS X (.Return (some e) pos) (Jo te):=by
 intro pins s σ H D I h;exact wpAny_Return_some (aF (he pins s σ H _ I h) λv s1 ⟨x,H1,I1,r1,q1⟩=>⟨x,σ,H1,I1,r1,q1⟩)
def Jp(c:TT)(t u:TS):TS:=λD σ H=>c σ H λb H1=>if b=true then t D σ H1 else u D σ H1
theorem zv{c:Expr}{a b:List Stmt}{tc:TT}(hc:PT X c tc)(ha:iu X a t)(hb:iu X b u):PS X (.If c a b pos) (Jp tc t u):=by
 intro pins s σ H D I h;refine wpAny_If (aF (hc pins s σ H _ I h) λd s1 ⟨H1,I1,q1⟩=>?_);cases d with
 | true=>exact ha pins s1 σ H1 D I1 q1
 | false=>exact hb pins s1 σ H1 D I1 q1
def xu:TS:=λ_ _ _=>False
theorem Jq:PS X st xu:=λ_ _ _ _ _ _ h=>h.elim
end
abbrev TG:=V->St->Hp->(St->Hp->Prop)->Prop
abbrev xw:=List V->St->Hp->(St->Hp->Prop)->Prop
def PG(X:Cx)(target:Expr)(t:TG):Prop :=
 ∀(pins:List (Addr×Obj)) (s:Shared) (σ:St) (H:Hp) (v:V) (u:Value) (Q:St->Hp->Prop),Inv X pins σ H s->RelV v u->t v σ H Q ->
  wpAny (model X.prog X.w) X.A (assign target X.env u) (λ_ s'=>∃σ' H',Inv X pins σ' H' s'/\Q σ' H') X.xe s
def Fy(X:Cx)(ts:List Expr)(t:xw):Prop :=
 ∀(pins:List (Addr×Obj)) (s:Shared) (σ:St) (H:Hp) (vs:List V) (us:List Value) (Q:St->Hp->Prop),Inv X pins σ H s->Vals vs us->t vs σ H Q ->
  wpAny (model X.prog X.w) X.A (assignInOrder ((assignEach ts X.env).map (·.2)) us) (λ_ s'=>∃σ' H',Inv X pins σ' H' s'/\Q σ' H') X.xe s
abbrev xx:=V->V->V->Hp->(Hp->Prop)->Prop
def Cm(X:Cx)(t:xx):Prop :=
 ∀(pins:List (Addr×Obj)) (s:Shared) (σ:St) (H:Hp) (o i v:V) (ov iv u:Value) (Q:Hp->Prop),Inv X pins σ H s->RelV o ov->RelV i iv->RelV v u->t o i v H Q ->
  wpAny (model X.prog X.w) X.A (setItem ov iv u) (λ_ s'=>∃H',Inv X pins σ H' s'/\Q H') X.xe s
section
variable {X:Cx}{pos:Pos}
def uV(i:Nat):TG:=λv σ H Q=>Q (σ.set i (some v)) H
theorem zN{i:Nat}{x:Str}(hN:X.N.Nodup)(hi:X.N[i]? = some x)(hx:Loc X.env.scope x)(hf:X.fn x=true\/X.env.scope.names.lookup x=some .local:=by first | exact .inl rfl | exact .inr rfl | assumption):PG X (.Name x pos) (uV i):=by
 intro pins s σ H v u Q I r h;exact wpAny_assign_Name (Jj I hN hi hx r (λs' I'=>⟨_,H,I',h⟩) hf)
def Cn:xw:=λvs σ H Q=>vs=[]/\Q σ H
def nJ(t:TG)(u:xw):xw:=λvs σ H Q=>∃v r,vs=v::r/\t v σ H λσ' H'=>u r σ' H' Q
theorem jF:Fy X [] Cn:=by
 intro pins s σ H vs us Q I r h;obtain⟨e,h⟩:=h;subst e;cases r;exact assignInOrder_nil ⟨σ,H,I,h⟩
variable {e:Expr}{es:List Expr}
theorem FA{t:TG}{u:xw}(h1:PG X e t)(h2:Fy X es u)
 (hs:(assignEach (e::es) X.env).map (·.2)=assign e X.env::(assignEach es X.env).map (·.2):=by rfl):Fy X (e::es) (nJ t u):=by
 intro pins s σ H vs us Q I r h;obtain⟨v,vr,e1,h⟩:=h;subst e1;cases r with
 | cons r rr =>
   rw[hs];refine assignInOrder_cons (aF (h1 pins s σ H _ _ _ I r h) λ_ s1 ⟨σ1,H1,I1,q1⟩=>?_);exact h2 pins s1 σ1 H1 _ _ Q I1 rr q1
def Co(K:Frag)(n:Nat)(t:xw):TG:=λv σ H Q=>∃a xs,v=.ref a/\bN K H a xs/\xs.length=n/\t xs σ H Q
theorem nK{k:Nat}{t:xw}{n:Nat}(hc:X.calm=true)(h:Fy X es t)
 (hn:(assignEach es X.env).length=n:=by rfl) (iH:(assignEach es X.env).findIdx? (·.1)=none:=by rfl):PG X (.Tuple es k pos) (Co X.K n t):=by
 intro pins s σ H v u Q I r hw;obtain⟨a,xs,e1,hq,hl,hw⟩:=hw;subst e1;cases r;obtain⟨au,rv,ht,hz⟩:=I.tuple hq;refine assign_Tuple_tuple (I.ok.hd hc) ht (by simp[hn,<-hl,rv.length]) iH λh' hx=>?_;have I1:Inv X pins σ H { s with heap:=h' }:=I.kept (t':=s.toks) λb o e=>hx b o (ne_of_lt (lt_size e)) e;exact h pins _ σ H xs _ Q I1 (by simpa using rv) hw
def Jr(to ti:TE)(t:xx):TG:=λv σ H Q=>to σ H λo H1=>ti σ H1 λi H2=>t o i v H2 λH3=>Q σ H3
theorem iI{o i:Expr}{to ti:TE}{t:xx}(ho:PE X o to)(hi:PE X i ti)(hs:Cm X t)
 (ha:∀v,assign (.Subscript o i pos) X.env v=(do
   let ov <-holding [v] (eval o X.env);let iv <-holding [v,ov] (eval i X.env)
   standAt pos
   holding [v,ov,iv] (setItem ov iv v)
   release [v,ov,iv] []):=by intro _;rfl):PG X (.Subscript o i pos) (Jr to ti t):=by
 intro pins s σ H v u Q I r h;rw[ha];refine wpAny_bind (wpAny_holding (aF (ho pins s σ H _ I h) λov s1 ⟨x,H1,I1,r1,q1⟩=>?_));refine wpAny_bind (wpAny_holding (aF (hi pins s1 σ H1 _ I1 q1) λiv s2 ⟨y,H2,I2,r2,q2⟩=>?_));refine wpAny_bind (wpAny_standAt (wpAny_bind (wpAny_holding (aF (hs pins s2 σ H2 x y v ov iv u _ I2 r1 r2 r q2) λ_ s3 ⟨H3,I3,q3⟩=>?_))));exact wpAny_release ⟨σ,H3,I3,q3⟩
def sL(te:TE)(g:TG):TS:=λD σ H=>te σ H λx H1=>g x σ H1 D.nx
theorem Js{tg:Expr}{te:TE}{g:TG}(he:PE X e te)(hg:PG X tg g)(hs:swapsWithSole [tg] e pos.line X.env=pure false:=by rfl)(hw:swappedStores [tg] e X.env=pure none:=by rfl)
 (h1:(assignEach [tg] X.env).map (·.2)=[assign tg X.env]:=by rfl):PS X (.Assign [tg] e pos) (sL te g):=by
 intro pins s σ H D I h;refine wpAny_Assign_stores (aF (he pins s σ H _ I h) λv s1 ⟨x,H1,I1,r1,q1⟩=>?_) hs hw;rw[h1];exact aF (hg pins s1 σ H1 x v _ I1 r1 q1) λ_ s2 q=>q
theorem zr{i:Nat}{x:Str}{te:TE}{pos':Pos}(hN:X.N.Nodup)(hi:X.N[i]? = some x)(hx:Loc X.env.scope x)(he:PE X e te)(hs:swapsWith e (some (.Name x pos')) pos.line X.env=pure false:=by rfl)(hf:X.fn x=true\/X.env.scope.names.lookup x=some .local:=by first | exact .inl rfl | exact .inr rfl | assumption):
 PS X (.Assign [.Name x pos'] e pos) (sL te (uV i)):=by
 intro pins s σ H D I h;refine wpAny_Assign_Name (aF (he pins s σ H _ I h) λv s1 ⟨y,H1,I1,r1,q1⟩=>?_) hs;exact Jj I1 hN hi hx r1 (λs2 I2=>⟨_,H1,I2,q1⟩) hf
end
structure It where
 go:Nat->Hp->Prop
 xy:Nat->Hp->V->Hp->Prop
 stop:Nat->Hp->Prop
def wT(X:Cx)(pins:List (Addr×Obj))(H:Hp)(b:Addr):Prop :=
 H b=none/\b≠X.env.locals/\b∉X.fs/\(b∈X.ex\/X.s₀.heap.objs.size<=b)/\(∀x c,X.env.cells.lookup x=some c->c≠b)/\∀p∈X.pn++pins,p.1≠b
theorem Inv.eO{pins:List (Addr×Obj)}{σ:St}{H':Hp}(I:Inv X pins σ H s)(hb:s.heap.objs.size<=b)(hn:H' b=none):wT X pins H' b:=by
 refine⟨hn,ne_of_gt (lt_of_lt_of_le I.lt hb),I.Cb hb,.inr (le_trans I.sz hb),λx c e z=>?_,λp hp z=>?_⟩
 ·obtain⟨v,q⟩:=I.cell x c e;exact absurd (lt_of_lt_of_le q.lt (by rw[z];exact hb)) (lt_irrefl _)
 ·exact absurd (lt_of_lt_of_le (lt_size (I.pin p hp).1) (by rw[z];exact hb)) (lt_irrefl _)
structure Turn (P:Program) (w:World) (K:Frag) (tg:Expr) (J:It) (fp:List Addr) (it:Addr) (tn:Nat->Heap->Prop):Prop where
 mem:it∈fp
 obj:∀i h,tn i h->∀b∈fp,∃o,h.get? b=some o/\∀v,o.data ≠ .cell v
 keep:∀i h h',tn i h->(∀b∈fp,∀o,h.get? b=some o->h'.get? b=some o)->tn i h'
 item:∀(X:Cx),X.prog=P->X.w=w->X.K=K->X.calm=true->∀(i:Nat)(pins:List (Addr×Obj)) (s:Shared) (σ:St) (H:Hp) (E:Value->Shared->Prop),Inv X pins σ H s->(∀b∈fp,wT X pins H b)->tn i s.heap->J.go i H ->
  wpAny (model P w) X.A (pyNext (.ref it)) (λr s1=>∃u,r=some u /\
   wpAny (model P w) X.A (letOwnedTupleGo tg (.ref it) u) (λ_ s2=>∃x H',Inv X pins σ H' s2/\RelV x u/\J.xy i H x H'/\tn (i+1) s2.heap/\∀b∈fp,H' b=none) E s1) E s
 done:∀(X:Cx),X.prog=P->X.w=w->X.K=K->X.calm=true->∀(i:Nat)(pins:List (Addr×Obj)) (s:Shared) (σ:St) (H:Hp) (E:Value->Shared->Prop),Inv X pins σ H s->(∀b∈fp,wT X pins H b)->tn i s.heap->J.stop i H ->
  wpAny (model P w) X.A (pyNext (.ref it)) (λr s1=>r=none/\Inv X pins σ H s1) E s
 self:∀(A:Around)(i:Nat)(s:Shared)(Q:Value->Shared->Prop)(E:Value->Shared->Prop),tn i s.heap->Q (.ref it) s->wpAny (model P w) A (pyIter (.ref it)) Q E s
abbrev TI:=St->Hp->(It->Hp->Prop)->Prop
def Pz(X:Cx)(pins:List (Addr×Obj))(σ:St)(tg:Expr)(R:It->Hp->Prop)(xA:Value)(s2:Shared):Prop :=
 ∃(it:Addr)(fp:List Addr)(tn:Nat->Heap->Prop)(J:It)(H':Hp),xA=.ref it/\Inv X pins σ H' s2/\Turn X.prog X.w X.K tg J fp it tn/\tn 0 s2.heap/\(∀b∈fp,wT X pins H' b)/\R J H'
def PI(X:Cx)(tg iter:Expr)(wi:TI):Prop :=
 ∀(pins:List (Addr×Obj)) (s:Shared) (σ:St) (H:Hp) (R:It->Hp->Prop),Inv X pins σ H s->wi σ H R ->
  wpAny (model X.prog X.w) X.A (eval iter X.env) (λv s1=>wpAny (model X.prog X.w) X.A (pyIter v) (Pz X pins σ tg R) X.xe s1) X.xe s
variable {tg:Expr}
theorem nM{M:Model}{it:Addr}{o:Obj}{n:String}{vs:Array Value}{Q:Unit->Shared->Prop}(ho:s.heap.get? it=some o)(hc:o.cls=.type n)(hd:o.data=.fields vs)
 (hn : ["enumerate","zip","dict_itemiterator","dict_reverseitemiterator","odict_iterator","itertools.zip_longest","itertools.pairwise"].contains n=false) (hQ:Q () s):wpAny M A (letOwnedTupleGo tg (.ref it) u) Q E s:=by
 unfold letOwnedTupleGo;cases tg <;> first
  | exact wpAny_pure hQ
  | (cases u <;> first
      | exact wpAny_pure hQ
      | (refine wpAny_bind (wpAny_load ho ?_)
         rw[hc,hd];show wpAny M A (if(["enumerate","zip","dict_itemiterator","dict_reverseitemiterator","odict_iterator","itertools.zip_longest","itertools.pairwise"].contains n && vs[0]? == some (rawInt _))=true then _ else _) Q E s;rw[if_neg (by intro h;rw[hn,Bool.false_and]at h;cases h)];exact wpAny_pure hQ))
def kF(K:Frag)(a:Addr):It :=
 ⟨λi H=>∃xs x,ag K H a xs/\xs[i]? = some x,λi H x H'=>H'=H/\∀xs,ag K H a xs->xs[i]? = some x,λi H=>∃xs,ag K H a xs/\xs.length<=i⟩
def sM(lo:Int)(n:Nat):It:=⟨λi _=>i<n,λi H x H'=>H'=H/\x=.int (lo+i),λi _=>n<=i⟩
variable {K:Frag}
theorem kG(a it:Addr):Turn P w K tg (kF K a) [it] it (λi h=>h.IsListIter it a i) where
 mem:=by simp
 obj:=λi h st b hb=>by
  have e:b=it:=by simpa using hb
  subst e;obtain⟨o,e,c,d⟩:=st;exact⟨o,e,λv z=>by rw[d]at z;cases z⟩
 keep:=λi h h' st k=>st.at λo e=>k it (by simp) o e
 item:=by
  intro X hP hw hK hc i pins s σ H E I hf st hg;subst hP hw hK;obtain⟨xs,x,hq,hx⟩:=hg;obtain⟨au,rv,p,hz⟩:=I.list hq;obtain⟨u,hu,ru⟩:=rv.get hx;obtain⟨f0,f1,f2,f3,f4,f5⟩:=hf it (by simp);refine wpAny_pyNext_list_item st p.isList (x:=u) (by simpa using hu) λh' gT sb=>?_;have I1:Inv X pins σ H { s with heap:=h' }:=I.turned (t':=s.toks) (λb o hb e=>(sb.2 b hb).trans e) f0 f1 f3 f4 f5;obtain⟨o,e,c,d⟩:=id gT;exact⟨u,rfl,nM (s:={ s with heap:=h' }) e c d (by decide) ⟨x,H,I1,ru,⟨rfl,λys hy=>by rw[I.eN hy hq];exact hx⟩,gT,λb hb=>(hf b hb).1⟩⟩
 done:=by
  intro X hP hw hK hc i pins s σ H E I hf st hg;subst hP hw hK;obtain⟨xs,hq,hx⟩:=hg;obtain⟨au,rv,p,hz⟩:=I.list hq;obtain⟨f0,f1,f2,f3,f4,f5⟩:=hf it (by simp);have hl:=rv.length;exact wpAny_pyNext_list_end (I.ok.hd hc) st p.isList (by simp;omega) λh' eb=>⟨rfl,I.turned (t':=s.toks) (λb o hb e=>eb b o hb e) f0 f1 f3 f4 f5⟩
 self:=λ_ _ _ _ _ st h=>wpAny_pyIter_listiter st h
theorem iJ(it:Addr)(lo:Int)(n:Nat):Turn P w K tg (sM lo n) [it] it (λi h=>IsRangeIter h it (lo+(i:Nat)*1) ((n:Int)-(i:Nat)) 1) where
 mem:=by simp
 obj:=λi h st b hb=>by
  have e:b=it:=by simpa using hb
  subst e;exact⟨_,st,λv z=>by
   have z':Data.fields _=Data.cell v:=z;cases z'⟩
 keep:=λi h h' st k=>k it (by simp) _ st
 item:=by
  intro X hP hw hK hc i pins s σ H E I hf st hg;subst hP hw hK;obtain⟨f0,f1,f2,f3,f4,f5⟩:=hf it (by simp);have W:=Walks.range (prog:=X.prog) (w:=X.w) (I.ok.hd hc) it lo 1 n;refine W.item i s _ _ hg st λv h' tk hv gT kk=>?_;obtain⟨t,rfl⟩:=hv;have I1:Inv X pins σ H { s with heap:=h',toks:=tk }:=I.turned (λb o hb e=>kk b o (by simpa using hb) e) f0 f1 f3 f4 f5;refine⟨_,rfl,nM (s:={ s with heap:=h',toks:=tk }) (n:= "range_iterator") gT rfl rfl (by decide) ⟨.int (lo+i),H,I1,⟨t,?_⟩,⟨rfl,rfl⟩,gT,λb hb=>(hf b hb).1⟩⟩;rw[Int.mul_one]
 done:=by
  intro X hP hw hK hc i pins s σ H E I hf st hg;subst hP hw hK;obtain⟨f0,f1,f2,f3,f4,f5⟩:=hf it (by simp);exact wpAny_pyNext_range_end (I.ok.hd hc) st (by have:n<=i:=hg;omega) λh' eb=>⟨rfl,I.turned (t':=s.toks) (λb o hb e=>eb b o hb e) f0 f1 f3 f4 f5⟩
 self:=λ_ _ _ _ _ st h=>wpAny_pyIter_rangeiter st h
section
variable {X:Cx}{tg:Expr}
inductive nN (K:Frag) (x:V) (H1:Hp) (R:It->Hp->Prop):Prop
 | mk (a:_):x=.ref a->((∃xs,ag K H1 a xs))->R (kF K a) H1->nN K x H1 R
def uW(K:Frag)(tl:TE):TI:=λσ H R=>tl σ H λx H1=>nN K x H1 R
theorem zx{l:Expr}{tl:TE}(hl:PE X l tl):PI X tg l (uW X.K tl):=by
 intro pins s σ H R I h;refine aF (hl pins s σ H _ I h) λv s1 ⟨x,H1,I1,r1,q1⟩=>?_;obtain⟨a,e,⟨xs,hq⟩,q⟩:=q1;subst e;cases r1;obtain⟨au,rv,p,hz⟩:=I1.list hq;refine wpAny_pyIter_list p.isList ?_;refine⟨s1.heap.objs.size,[s1.heap.objs.size],_,_,H1,rfl,I1.kept (t':=s1.toks) λb o e=>get?_push_of_some _ e,kG a _,⟨_,get?_push_size _ rfl,rfl,rfl⟩,λb hb=>?_,q⟩;have e:b=s1.heap.objs.size:=by simpa using hb
 subst e;exact I1.eO (le_refl _) (I1.aC.fresh (le_refl _))
variable {pins:List (Addr×Obj)}{s:Shared}
theorem PB{σ:St}{H:Hp}{R:It->Hp->Prop}{E:Value->Shared->Prop}{lo hi:Int}{t u v:Tok}{tk:Nat}(I:Inv X pins σ H s)(h1 : -(2 ^ 62)<=lo)(h2:lo<2 ^ 62)(h3 : -(2 ^ 62)<=hi)(h4:hi<2 ^ 62)
 (q:R (sM lo (hi-lo).toNat) H):wpAny (model X.prog X.w) X.A (pyIter (.ref s.heap.objs.size)) (Pz X pins σ tg R) E { s with heap:=s.heap.push { cls:=.type "range",data:=.fields #[.int lo t,.int hi u,.int 1 v] },toks:=tk }:=by
 refine wpAny_pyIter_range (IsRange.new ..) (small_one h1 h2 h3 h4) ?_;have I1:Inv X pins σ H { s with heap:=s.heap.push { cls:=.type "range",data:=.fields #[.int lo t,.int hi u,.int 1 v] },toks:=tk }:=I.kept λb o e=>get?_push_of_some _ e;refine⟨(s.heap.push { cls:=.type "range",data:=.fields #[.int lo t,.int hi u,.int 1 v] }).objs.size,[(s.heap.push { cls:=.type "range",data:=.fields #[.int lo t,.int hi u,.int 1 v] }).objs.size],_,_,H,rfl,
  I1.kept (t':=tk) λb o e=>get?_push_of_some _ e,iJ _ lo (hi-lo).toNat,?_,λb hb=>?_,q⟩
 ·have e1:lo+((0:Nat):Int)*1=lo:=by simp
  have e2:(((hi-lo).toNat:Nat):Int)-((0:Nat):Int)=Builtin.Range.rangeSize lo hi 1:=by rw[rangeSize_one];split <;> omega
  show IsRangeIter _ _ (lo+((0:Nat):Int)*1) ((((hi-lo).toNat:Nat):Int)-((0:Nat):Int)) 1;rw[e1,e2];exact get?_push_size _ rfl
 ·have e:b=(s.heap.push { cls:=.type "range",data:=.fields #[.int lo t,.int hi u,.int 1 v] }).objs.size:=by simpa using hb
  subst e;exact I1.eO (le_refl _) (I1.aC.fresh (le_refl _))
inductive nQ (vs:List V) (H1:Hp) (R:It->Hp->Prop):Prop
 | mk (j:Int):vs=[.int j] -> -(2 ^ 62)<=j->j<2 ^ 62->R (sM 0 j.toNat) H1->nQ vs H1 R
def Cp(ta:TA):TI:=λσ H R=>ta σ H λvs H1=>nQ vs H1 R
inductive nR (vs:List V) (H1:Hp) (R:It->Hp->Prop):Prop
 | mk (i j:Int):vs=[.int i,.int j]->(-(2 ^ 62)<=i/\i<2 ^ 62 /\ -(2 ^ 62)<=j/\j<2 ^ 62)->R (sM i (j-i).toNat) H1->nR vs H1 R
def Cq(ta:TA):TI:=λσ H R=>ta σ H λvs H1=>nR vs H1 R
variable {pos:Pos}
theorem yy{a:Expr}{ta:TA}{p:Pos}(hg:Gl X "range")(hm:X.mg "range"=none)(ha:PA X [a] ta)(hs:starEach [a] X.env=[(false,eval a X.env)]:=by rfl):PI X tg (.Call (.Name "range" p) [a] [] pos) (Cp ta):=by
 intro pins s σ H R I h;refine Call_ (rH I hg hm boot_range (callWith_type1 (aF (ha pos pins s σ H _ I h) λus s1 ⟨vs,H1,I1,r1,q1⟩=>?_) hs rfl));obtain⟨j,e,q1,q2,q⟩:=q1;subst e;cases r1 with
 | cons r rr =>
   cases rr;obtain⟨t,rfl⟩:=r;exact call_range_1 (PB I1 (by omega) (by omega) q1 q2 (by simpa using q))
theorem xB{a b:Expr}{ta:TA}{p:Pos}(hg:Gl X "range")(hm:X.mg "range"=none)(ha:PA X [a,b] ta)(hs:starEach [a,b] X.env=[(false,eval a X.env),(false,eval b X.env)]:=by rfl)(kH:starEach [b] X.env=[(false,eval b X.env)]:=by rfl):
 PI X tg (.Call (.Name "range" p) [a,b] [] pos) (Cq ta):=by
 intro pins s σ H R I h;refine Call_ (rH I hg hm boot_range (callWith_type1 (aF (ha pos pins s σ H _ I h) λus s1 ⟨vs,H1,I1,r1,q1⟩=>?_) (by rw[hs,kH]) (by rw[kH];rfl)));obtain⟨i,j,e,⟨q1,q2,q3,q4⟩,q⟩:=q1;subst e;cases r1 with
 | cons r rr =>
   cases rr with
   | cons r' rr =>
     cases rr;obtain⟨t,rfl⟩:=r;obtain⟨t',rfl⟩:=r';exact call_range_2 (PB I1 q1 q2 q3 q4 q)
def Jt(wi:TI)(g:TG)(tb:TS):TS:=λD σ H=>wi σ H λJ H1=>∃W:Nat->Nat->St->Hp->Prop,(∃m,W 0 m σ H1)/\∀i m σ H,W i m σ H ->
 (J.stop i H/\D.nx σ H)\/(J.go i H/\∃N:St->Hp->Prop,(∀σ' H',N σ' H'->∃m',m'<m/\W (i+1) m' σ' H')/\∀x H',J.xy i H x H'->g x σ H' λσ2 H2=>tb { D with nx:=N,ct:=N,bk:=D.nx } σ2 H2)
def FC(fp:List Addr)(h:Heap):List (Addr×Obj):=fp.filterMap λb=>(h.get? b).map λo=>(b,o)
variable {fp:List Addr}
theorem yJ{h:Heap}{b:Addr}{o:Obj}(hb:b∈fp)(e:h.get? b=some o):(b,o)∈FC fp h:=List.mem_filterMap.mpr ⟨b,hb,by rw[e];rfl⟩
theorem kI{h:Heap}{p:Addr×Obj}(hp:p∈FC fp h):p.1∈fp/\h.get? p.1=some p.2:=by
 obtain⟨b,hb,e⟩:=List.mem_filterMap.mp hp;cases q:h.get? b with
 | none=>rw[q]at e;cases e
 | some o =>
   rw[q]at e;have e':(b,o)=p:=Option.some.inj e;subst e';exact⟨hb,q⟩
theorem Inv.pinned{σ:St}{H:Hp}(I:Inv X pins σ H s)(hf:∀b∈fp,wT X pins H b)(ho:∀b∈fp,∃o,s.heap.get? b=some o/\∀v,o.data ≠ .cell v):Inv X (pins++FC fp s.heap) σ H s :=
 I.bG λp hp=>(List.mem_append.mp hp).elim (λz=>I.pin p (mem_append_right _ z)) λz=>by
  obtain⟨hb,e⟩:=kI z;obtain⟨f0,f1,f2,_⟩:=hf p.1 hb;obtain⟨o,e',d⟩:=ho p.1 hb;rw[e]at e';cases e';exact⟨e,f0,f1,f2,d⟩
theorem Inv.bt{pl:List (Addr×Obj)}{σ:St}{H:Hp}(I:Inv X (pins++pl) σ H s):Inv X pins σ H s:=I.bG λp hp=>I.pin p (mem_append_right _ (mem_append_left _ hp))
theorem yB{iter:Expr}{body:List Stmt}{wi:TI}{g:TG}{tb:TS}(hp:PassesOwn (model X.prog X.w) X.A X.env X.xe)(hc:X.calm=true)(hi:PI X tg iter wi)(hg:PG X tg g)(hb:iu X body tb)
 (hs:∀x,foldedSetIterable iter X.env x=pure x:=by intro _;rfl):PS X (.For tg iter body [] pos) (Jt wi g tb):=by
 intro pins s σ H D I h;refine wpAny_For (aF (hi pins s σ H _ I h) λv s1 h1=>aF h1 λxA s2 h2=>?_) hs;obtain⟨it,fp,tn,J,H2,e,I2,T,fW,f2,W,⟨m0,w0⟩,turn⟩:=h2;subst e;have c9:∀{H':Hp},(∀b∈fp,H' b=none)->∀b∈fp,wT X pins H' b:=λhn b hb=>⟨hn b hb,(f2 b hb).2⟩;refine codeAny_forLoop_any (λn s'=>∃i σ' H',Inv X pins σ' H' s'/\tn i s'.heap/\(∀b∈fp,H' b=none)/\W i n σ' H') ?_ m0 ⟨0,σ,H2,I2,fW,λb hb=>(f2 b hb).1,w0⟩;rintro n s3 ⟨i,σ3,H3,I3,kJ,nS,w3⟩;rcases turn i n σ3 H3 w3 with⟨stop,qn⟩|⟨go,N,hN,step⟩
 ·refine wpAny_passesOwn hp (aF (T.done X rfl rfl rfl hc i pins s3 σ3 H3 X.xe I3 (c9 nS) kJ stop) λr s4 ⟨hr,I4⟩=>?_);subst hr;exact wpAny_execs_nil ⟨σ3,H3,I4,qn⟩
 ·refine wpAny_passesOwn hp (aF (T.item X rfl rfl rfl hc i pins s3 σ3 H3 X.xe I3 (c9 nS) kJ go) λr s4 ⟨u,hr,h4⟩=>?_);subst hr;refine wpAny_passesOwn hp (aF h4 λ_ s5 ⟨x,H5,I5,r5,y5,gH,xE⟩=>?_);have xF:=I5.pinned (c9 xE) (T.obj _ _ gH);refine wpAny_passesOwn hp (aF (hg _ s5 σ3 H5 x u _ xF r5 (step x H5 y5)) λ_ s6 ⟨σ6,H6,I6,q6⟩=>?_);refine wpAny_passesOwn hp (aF (hb _ s6 σ6 H6 _ I6 q6) λf s7 q7=>?_);have again:∀{σ7:St}{H7:Hp},Inv X (pins++FC fp s5.heap) σ7 H7 s7->N σ7 H7->∃m,m<n/\∃i σ' H',Inv X pins σ' H' s7/\tn i s7.heap/\(∀b∈fp,H' b=none)/\W i m σ' H':=λ{σ7 H7} I7 n7=>by
   obtain⟨m',hm,w7⟩:=hN σ7 H7 n7;refine⟨m',hm,i+1,σ7,H7,I7.bt,T.keep _ _ _ gH λb hb o e=>(I7.pin (b,o) (mem_append_right _ (mem_append_right _ (yJ hb e)))).1,λb hb=>?_,w7⟩;obtain⟨o,e,d⟩:=T.obj _ _ gH b hb;exact(I7.pin (b,o) (mem_append_right _ (mem_append_right _ (yJ hb e)))).2.1
  cases f with
  | next=>obtain⟨σ7,H7,I7,n7⟩:=q7;exact again I7 n7
  | cont=>obtain⟨σ7,H7,I7,n7⟩:=q7;exact again I7 n7
  | brk=>obtain⟨σ7,H7,I7,q7⟩:=q7;exact⟨σ7,H7,I7.bt,q7⟩
  | ret v=>obtain⟨x7,σ7,H7,I7,r7,q7⟩:=q7;exact⟨x7,σ7,H7,I7.bt,r7,q7⟩
end
theorem uX{xs:List V}{g:TG}{tb:TS}{D:Ends}{σ:St}(Pv:Nat->St->Hp->Prop)(h0:Pv 0 σ H)(hl:∀i σ H,i<=xs.length->Pv i σ H->ag K H a xs)
 (hs:∀i x σ H,xs[i]? = some x->Pv i σ H->g x σ H λσ2 H2=>tb { D with nx:=Pv (i+1),ct:=Pv (i+1),bk:=D.nx } σ2 H2) (hd:∀σ H,Pv xs.length σ H->D.nx σ H) :
 ∃W:Nat->Nat->St->Hp->Prop,(∃m,W 0 m σ H)/\∀i m σ H,W i m σ H ->
  ((kF K a).stop i H/\D.nx σ H)\/((kF K a).go i H/\∃N:St->Hp->Prop,(∀σ' H',N σ' H'->∃m',m'<m/\W (i+1) m' σ' H')/\∀x H',(kF K a).xy i H x H'->g x σ H' λσ2 H2=>tb { D with nx:=N,ct:=N,bk:=D.nx } σ2 H2):=by
 refine⟨λi m σ H=>m=xs.length-i/\i<=xs.length/\Pv i σ H,⟨xs.length,by simp,zero_le _,h0⟩,?_⟩;rintro i m σ H ⟨rfl,hi,p⟩;have q:=hl i σ H hi p;by_cases bI:i<xs.length
 ·refine .inr ⟨⟨xs,xs[i],q,by simp[bI]⟩,Pv (i+1),λσ' H' p'=>⟨xs.length-(i+1),by omega,rfl,bI,p'⟩,λx H' y=>?_⟩;obtain⟨e,y⟩:=y;subst e;exact hs i x σ _ (y xs q) p
 ·have e:i=xs.length:=by omega
  subst e;exact .inl ⟨⟨xs,q,le_refl _⟩,hd σ H p⟩
theorem yj{lo:Int}{n:Nat}{g:TG}{tb:TS}{D:Ends}{σ:St}(Pv:Nat->St->Hp->Prop)(h0:Pv 0 σ H)
 (hs:∀i σ H,i<n->Pv i σ H->g (.int (lo+i)) σ H λσ2 H2=>tb { D with nx:=Pv (i+1),ct:=Pv (i+1),bk:=D.nx } σ2 H2) (hd:∀σ H,Pv n σ H->D.nx σ H) :
 ∃W:Nat->Nat->St->Hp->Prop,(∃m,W 0 m σ H)/\∀i m σ H,W i m σ H ->
  ((sM lo n).stop i H/\D.nx σ H)\/((sM lo n).go i H/\∃N:St->Hp->Prop,(∀σ' H',N σ' H'->∃m',m'<m/\W (i+1) m' σ' H')/\∀x H',(sM lo n).xy i H x H'->g x σ H' λσ2 H2=>tb { D with nx:=N,ct:=N,bk:=D.nx } σ2 H2):=by
 refine⟨λi m σ H=>m=n-i/\i<=n/\Pv i σ H,⟨n,by simp,zero_le _,h0⟩,?_⟩;rintro i m σ H ⟨rfl,hi,p⟩;by_cases bI:i<n
 ·refine .inr ⟨bI,Pv (i+1),λσ' H' p'=>⟨n-(i+1),by omega,rfl,bI,p'⟩,λx H' y=>?_⟩;obtain⟨e,y⟩:=y;subst e y;exact hs i σ _ bI p
 ·have e:i=n:=by omega
  subst e;exact .inl ⟨le_refl _,hd σ H p⟩
abbrev R2:=V->V->Hp->VK->Prop
def cV(X:Cx)(f:Value->Value->Sem Value)(r:R2):Prop :=
 ∀(pins:List (Addr×Obj)) (s:Shared) (σ:St) (H:Hp) (x y:V) (v u:Value) (Q:VK),Inv X pins σ H s->RelV x v->RelV y u->r x y H Q ->
  wpAny (model X.prog X.w) X.A (f v u) (EP X pins σ Q) X.xe s
def Ju(X:Cx)(f:Value->Sem Value)(r:V->Hp->VK->Prop):Prop :=
 ∀(pins:List (Addr×Obj)) (s:Shared) (σ:St) (H:Hp) (x:V) (v:Value) (Q:VK),Inv X pins σ H s->RelV x v->r x H Q ->
  wpAny (model X.prog X.w) X.A (f v) (EP X pins σ Q) X.xe s
def wX(X:Cx)(f:Value)(r:List V->Hp->VK->Prop):Prop :=
 ∀(pins:List (Addr×Obj)) (s:Shared) (σ:St) (H:Hp) (xs:List V) (us:List Value) (Q:VK),Inv X pins σ H s->Vals xs us->r xs H Q ->
  wpAny (model X.prog X.w) X.A (call f us) (EP X pins σ Q) X.xe s
def FD(r:R2)(ta tb:TE):TE:=λσ H Q=>ta σ H λx H1=>tb σ H1 λy H2=>r x y H2 Q
def T8(r:V->Hp->VK->Prop)(ta:TE):TE:=λσ H Q=>ta σ H λx H1=>r x H1 Q
inductive PD (C:Int->Int->Prop) (g:Int->Int->V) (x y:V) (H:Hp) (Q:VK):Prop
 | mk (i:_) (j:_):x=.int i->y=.int j->C i j->Q (g i j) H->PD C g x y H Q
def rI(C:Int->Int->Prop)(g:Int->Int->V):R2:=λx y H Q=>PD C g x y H Q
inductive Cr (g:Int->Int->V) (x y:V) (H:Hp) (Q:VK):Prop
 | mk (i:_) (j:_):x=.int i->y=.int j->Q (g i j) H->Cr g x y H Q
def uY(g:Int->Int->V):R2:=λx y H Q=>Cr g x y H Q
inductive PF (g:Int->V) (x:V) (H:Hp) (Q:VK):Prop
 | mk (i:_):x=.int i->Q (g i) H->PF g x H Q
def rU(g:Int->V):V->Hp->VK->Prop:=λx H Q=>PF g x H Q
section
variable {X:Cx}{a b c:Expr}{ta tb tc:TE}{pos:Pos}
variable {f:Value->Value->Sem Value}
theorem xG(ha:PE X a ta)(hb:PE X b tb){pins:List (Addr×Obj)}{s:Shared}{σ:St}{H:Hp}{R:V->V->Hp->Prop}(I:Inv X pins σ H s)
 (h:ta σ H λx H1=>tb σ H1 λy H2=>R x y H2) {Q:Value->Shared->Prop} 
 (hf:∀v u s2 x y H2,Inv X pins σ H2 s2->RelV x v->RelV y u->R x y H2->wpAny (model X.prog X.w) X.A (f v u) Q X.xe s2) :
 wpAny (model X.prog X.w) X.A (eval a X.env) (λv s₁=>wpAny (model X.prog X.w) X.A (eval b X.env) (λu s₂=>wpAny (model X.prog X.w) X.A (f v u) Q X.xe s₂) X.xe s₁) X.xe s:=by
 refine aF (ha pins s σ H _ I h) λv s1 ⟨x,H1,I1,r1,q1⟩=>?_;refine aF (hb pins s1 σ H1 _ I1 q1) λu s2 ⟨y,H2,I2,r2,q2⟩=>?_;exact hf v u s2 x y H2 I2 r1 r2 q2
theorem zo{op:Operator}{r:R2}(ho:cV X (binaryOp op) r)(ha:PE X a ta)(hb:PE X b tb):PE X (.BinOp a op b pos) (FD r ta tb):=by
 intro pins s σ H Q I h;exact wpAny_BinOp (xG ha hb I h λv u s2 x y H2 I2 rx ry q=>ho pins s2 σ H2 x y v u Q I2 rx ry q)
theorem xH{op:UnaryOp}{r:V->Hp->VK->Prop}(ho:Ju X (unaryOp op) r)(ha:PE X a ta):PE X (.UnaryOp op a pos) (T8 r ta):=by
 intro pins s σ H Q I h;exact UnaryOp_ (aF (ha pins s σ H _ I h) λv s1 ⟨x,H1,I1,r1,q1⟩=>ho pins s1 σ H1 x v Q I1 r1 q1)
variable {g:Int->Int->Int}
theorem FE{C:Int->Int->Prop}
 (rule:∀(i j:Int)(t u:Tok)(s:Shared)(Q:Value->Shared->Prop)(E:Value->Shared->Prop),C i j->Q (.int (g i j) s.toks) { s with toks:=s.toks+1 }->wpAny (model X.prog X.w) X.A (f (.int i t) (.int j u)) Q E s) :
 cV X f (rI C λi j=>.int (g i j)):=by
 intro pins s σ H x y v u Q I rx ry h;obtain⟨i,j,rfl,rfl,hc,q⟩:=h;obtain⟨t,rfl⟩:=rx;obtain⟨t',rfl⟩:=ry;exact rule i j t t' s _ _ hc ⟨.int (g i j),H,I.tok _,⟨_,rfl⟩,q⟩
theorem Cs
 (rule:∀(i j:Int)(t u:Tok)(s:Shared)(Q:Value->Shared->Prop)(E:Value->Shared->Prop),Q (.int (g i j) s.toks) { s with toks:=s.toks+1 }->wpAny (model X.prog X.w) X.A (f (.int i t) (.int j u)) Q E s) :
 cV X f (uY λi j=>.int (g i j)):=by
 intro pins s σ H x y v u Q I rx ry h;obtain⟨i,j,rfl,rfl,q⟩:=h;obtain⟨t,rfl⟩:=rx;obtain⟨t',rfl⟩:=ry;exact rule i j t t' s _ _ ⟨.int (g i j),H,I.tok _,⟨_,rfl⟩,q⟩
theorem sN{g:Int->Int->Bool}
 (rule:∀(i j:Int)(t u:Tok)(s:Shared)(Q:Value->Shared->Prop)(E:Value->Shared->Prop),Q (.bool (g i j)) s->wpAny (model X.prog X.w) X.A (f (.int i t) (.int j u)) Q E s) :
 cV X f (uY λi j=>.bl (g i j)):=by
 intro pins s σ H x y v u Q I rx ry h;obtain⟨i,j,rfl,rfl,q⟩:=h;obtain⟨t,rfl⟩:=rx;obtain⟨t',rfl⟩:=ry;exact rule i j t t' s _ _ ⟨.bl (g i j),H,I,rfl,q⟩
def Jv(i j:Int):Prop:=0<j/\j<1073741824
def Jw(i j:Int):Prop:=0<=j/\j<=1000000/\i.natAbs<2 ^ 64
def xI(i j:Int):Prop:=(-(2 ^ 64)<i/\i<2 ^ 64)\/(-(2 ^ 64)<j/\j<2 ^ 64)
theorem xI.ok{i j:Int}(h:xI i j):IntMulOk i j:=by
 rcases h with⟨h1,h2⟩|⟨h1,h2⟩
 ·exact .of_left (intBits_le_64 h1 h2)
 ·exact .of_right (intBits_le_64 h1 h2)
theorem zR:cV X (binaryOp .Add) (uY λi j=>.int (i+j)):=Cs λ_ _ _ _ _ _ _ q=>add_int q
theorem nT:cV X (binaryOp .Sub) (uY λi j=>.int (i-j)):=Cs λ_ _ _ _ _ _ _ q=>sub_int q
theorem rJ:cV X (binaryOp .Mult) (rI xI λi j=>.int (i*j)):=FE λ_ _ _ _ _ _ _ hc q=>mul_int q hc.ok
theorem yM:cV X (binaryOp .FloorDiv) (rI Jv λi j=>.int (i/j)):=FE λi j _ _ _ _ _ hc q=>by
 have h1:(0:Int)<j:=hc.1;have h2:j<1073741824:=hc.2;exact floordiv_int (by omega) (by rw[Int.fdiv_eq_ediv_of_nonneg i (by omega)];exact q) (.inl (PyProof.noPylong_small (by omega)))
theorem yc:cV X (binaryOp .Mod) (rI (λ_ j=>0<j) λi j=>.int (i%j)):=FE λi j _ _ _ _ _ hc q=>by
 have h1:(0:Int)<j:=hc;exact mod_int' (by omega) (by rw[Int.fmod_eq_emod_of_nonneg i (by omega)];exact q)
theorem xJ:cV X (binaryOp .Pow) (rI Jw λi j=>.int (i ^ j.toNat)):=FE λ_ _ _ _ _ _ _ hc q=>pow_int_small hc.1 hc.2.1 hc.2.2 q
theorem Ua{f:Value->Sem Value}{g:Int->Int}
 (rule:∀(i:Int)(t:Tok)(s:Shared)(Q:Value->Shared->Prop)(E:Value->Shared->Prop),Q (.int (g i) s.toks) { s with toks:=s.toks+1 }->wpAny (model X.prog X.w) X.A (f (.int i t)) Q E s) :
 Ju X f (rU λi=>.int (g i)):=by
 intro pins s σ H x v Q I rx h;obtain⟨i,rfl,q⟩:=h;obtain⟨t,rfl⟩:=rx;exact rule i t s _ _ ⟨.int (g i),H,I.tok _,⟨_,rfl⟩,q⟩
theorem xK:Ju X (unaryOp .USub) (rU λi=>.int (-i)):=Ua λ_ _ _ _ _ q=>neg_int q
end
def Ct:V->V->Bool
 | .bo,.bo=>true | .bo,.int _=>true | .int _,.bo=>true | .bo,.bl _=>true | .bl _,.bo=>true | .bo,.str _=>true | .str _,.bo=>true
 | .int _,.int _=>true | .bl _,.bl _=>true | .str _,.str _=>true | .iF _,.iF _=>true
 | .int _,.str _=>true | .str _,.int _=>true | .bl _,.str _=>true | .str _,.bl _=>true
 | _,_=>false
def Ub:R2:=λx y H Q=>Ct x y=true/\Q (.bl (decide (x=y))) H
def Uc:R2:=λx y H Q=>Ct x y=true/\Q (.bl (!decide (x=y))) H
theorem jG{i j:Int}:decide (V.int i=V.int j)=(i==j):=by
 rw[Bool.eq_iff_iff];simp
theorem nU{i j:Bool}:decide (V.bl i=V.bl j)=(i==j):=by
 rw[Bool.eq_iff_iff];simp
theorem jH{i j:Str}:decide (V.str i=V.str j)=(i==j):=by
 rw[Bool.eq_iff_iff];simp
theorem jI{i j:Array UInt8}:decide (V.iF i=V.iF j)=(i.toList==j.toList):=by
 rw[Bool.eq_iff_iff];cases i;cases j;simp
section
variable {X:Cx}{a b c:Expr}{ta tb tc:TE}{pos:Pos}
theorem zW{pins:List (Addr×Obj)}{σ:St}{H:Hp}{s:Shared}{Q:VK}{k k':Bool}(I:Inv X pins σ H s)(q:Q (.bl k) H)(e:k=k'):EP X pins σ Q (.bool k') s:=by
 subst e;exact⟨.bl k,H,I,rfl,q⟩
theorem wl:cV X (compareOp .Eq) Ub:=by
 intro pins s σ H x y v u Q I rx ry h;obtain⟨hs,q⟩:=h;cases x with
 | bo =>
   cases rx;cases y with
   | bo=>cases ry;exact PySem.EqNone.eq_none_none (zW I q (by simp))
   | bl j=>cases ry;exact PySem.EqNone.eq_none_bool (zW I q (by simp))
   | int j=>obtain⟨t',rfl⟩:=ry;exact PySem.EqNone.eq_none_int (zW I q (by simp))
   | str j=>obtain⟨t',rfl⟩:=ry;exact PySem.EqNone.eq_none_str (zW I q (by simp))
   | _=>exact absurd (show false=true from hs) Bool.false_ne_true
 | bl i =>
   cases rx;cases y with
   | bo=>cases ry;exact PySem.EqNone.eq_bool_none (zW I q (by simp))
   | bl j=>cases ry;exact eq_bool (zW I q nU)
   | str j=>obtain⟨t',rfl⟩:=ry;exact PySem.EqMixed.eq_bool_str (zW I q (by simp))
   | _=>exact absurd (show false=true from hs) Bool.false_ne_true
 | int i =>
   obtain⟨t,rfl⟩:=rx;cases y with
   | bo=>cases ry;exact PySem.EqNone.eq_int_none (zW I q (by simp))
   | int j=>obtain⟨t',rfl⟩:=ry;exact eq_int (zW I q jG)
   | str j=>obtain⟨t',rfl⟩:=ry;exact PySem.EqMixed.eq_int_str (zW I q (by simp))
   | _=>exact absurd (show false=true from hs) Bool.false_ne_true
 | str i =>
   obtain⟨t,rfl⟩:=rx;cases y with
   | bo=>cases ry;exact PySem.EqNone.eq_str_none (zW I q (by simp))
   | bl j=>cases ry;exact PySem.EqMixed.eq_str_bool (zW I q (by simp))
   | int j=>obtain⟨t',rfl⟩:=ry;exact PySem.EqMixed.eq_str_int (zW I q (by simp))
   | str j=>obtain⟨t',rfl⟩:=ry;exact eq_str (zW I q jH)
   | _=>exact absurd (show false=true from hs) Bool.false_ne_true
 | iF i =>
   obtain⟨t,rfl⟩:=rx;cases y with
   | iF j=>obtain⟨t',rfl⟩:=ry;exact PySem.W.eq_bytes (zW I q jI)
   | _=>exact absurd (show false=true from hs) Bool.false_ne_true
 | _=>cases y <;> exact absurd (show false=true from hs) Bool.false_ne_true
theorem yQ:cV X (compareOp .NotEq) Uc:=by
 intro pins s σ H x y v u Q I rx ry h;obtain⟨hs,q⟩:=h;cases x with
 | bo =>
   cases rx;cases y with
   | bo=>cases ry;exact PySem.EqNone.ne_none_none (zW I q (by simp))
   | bl j=>cases ry;exact PySem.EqNone.ne_none_bool (zW I q (by simp))
   | int j=>obtain⟨t',rfl⟩:=ry;exact PySem.EqNone.ne_none_int (zW I q (by simp))
   | str j=>obtain⟨t',rfl⟩:=ry;exact PySem.EqNone.ne_none_str (zW I q (by simp))
   | _=>exact absurd (show false=true from hs) Bool.false_ne_true
 | bl i =>
   cases rx;cases y with
   | bo=>cases ry;exact PySem.EqNone.ne_bool_none (zW I q (by simp))
   | bl j=>cases ry;exact ne_bool (zW I q (congrArg not nU))
   | str j=>obtain⟨t',rfl⟩:=ry;exact PySem.EqMixed.ne_bool_str (zW I q (by simp))
   | _=>exact absurd (show false=true from hs) Bool.false_ne_true
 | int i =>
   obtain⟨t,rfl⟩:=rx;cases y with
   | bo=>cases ry;exact PySem.EqNone.ne_int_none (zW I q (by simp))
   | int j=>obtain⟨t',rfl⟩:=ry;exact ne_int (zW I q (congrArg not jG))
   | str j=>obtain⟨t',rfl⟩:=ry;exact PySem.EqMixed.ne_int_str (zW I q (by simp))
   | _=>exact absurd (show false=true from hs) Bool.false_ne_true
 | str i =>
   obtain⟨t,rfl⟩:=rx;cases y with
   | bo=>cases ry;exact PySem.EqNone.ne_str_none (zW I q (by simp))
   | bl j=>cases ry;exact PySem.EqMixed.ne_str_bool (zW I q (by simp))
   | int j=>obtain⟨t',rfl⟩:=ry;exact PySem.EqMixed.ne_str_int (zW I q (by simp))
   | str j=>obtain⟨t',rfl⟩:=ry;exact ne_str (zW I q (congrArg not jH))
   | _=>exact absurd (show false=true from hs) Bool.false_ne_true
 | iF i =>
   obtain⟨t,rfl⟩:=rx;cases y with
   | iF j=>obtain⟨t',rfl⟩:=ry;exact PySem.W.ne_bytes (zW I q (congrArg not jI))
   | _=>exact absurd (show false=true from hs) Bool.false_ne_true
 | _=>cases y <;> exact absurd (show false=true from hs) Bool.false_ne_true
theorem nV:cV X (compareOp .Lt) (uY λi j=>.bl (decide (i<j))):=sN λ_ _ _ _ _ _ _ q=>lt_int q
theorem sO:cV X (compareOp .LtE) (uY λi j=>.bl (decide (i<=j))):=sN λ_ _ _ _ _ _ _ q=>le_int q
theorem uZ:cV X (compareOp .Gt) (uY λi j=>.bl (decide (j<i))):=sN λ_ _ _ _ _ _ _ q=>gt_int q
theorem Cu:cV X (compareOp .GtE) (uY λi j=>.bl (decide (j<=i))):=sN λ_ _ _ _ _ _ _ q=>ge_int q
theorem nW:cV X (compareOp .Is) (λx y H Q=>y=.bo/\Q (.bl (decide (x=.bo))) H):=by
 intro pins s σ H x y v u Q I rx ry h;obtain⟨rfl,q⟩:=h;cases ry;refine is_none_gen (zW I q ?_);cases x <;> first
  | (cases rx;rfl)
  | (obtain⟨t,rfl⟩:=rx;rfl)
theorem sQ:cV X (compareOp .IsNot) (λx y H Q=>y=.bo/\Q (.bl (!decide (x=.bo))) H):=by
 intro pins s σ H x y v u Q I rx ry h;obtain⟨rfl,q⟩:=h;cases ry;refine isnot_none_gen (zW I q ?_);cases x <;> first
  | (cases rx;rfl)
  | (obtain⟨t,rfl⟩:=rx;rfl)
variable {op:CmpOp}
theorem zn(b:Expr)(h:op ≠ .In:=by decide)(h2:op ≠ .NotIn:=by decide):behindInMarks op b=false:=by
 have e1:(op==CmpOp.In)=false:=by cases op <;> first | rfl | exact absurd rfl h
 have e2:(op==CmpOp.NotIn)=false:=by cases op <;> first | rfl | exact absurd rfl h2
 cases b <;> simp[behindInMarks,e1,e2]
theorem u4{r:R2}(ho:cV X (compareOp op) r)(ha:PE X a ta)(hb:PE X b tb)(hm:behindInMarks op b=false):PE X (.Compare a [op] [b] pos) (FD r ta tb):=by
 intro pins s σ H Q I h;exact wpAny_Compare1 (xG ha hb I h λv u s2 x y H2 I2 rx ry q=>ho pins s2 σ H2 x y v u Q I2 rx ry q) hm
inductive nY (x:V) (H':Hp) (Q:Bool->Hp->Prop):Prop
 | mk (k:_):x=.bl k->Q k H'->nY x H' Q
def Cv(t:TE):TT:=λσ H Q=>t σ H λx H'=>nY x H' Q
theorem zl{r:R2}(ho:cV X (compareOp op) r)(ha:PE X a ta)(hb:PE X b tb)(hm:behindInMarks op b=false):PT X (.Compare a [op] [b] pos) (Cv (FD r ta tb)):=by
 intro pins s σ H Q I h;refine wpAny_isTrue_Compare1 (aF (ha pins s σ H _ I h) λv s1 ⟨x,H1,I1,r1,q1⟩=>aF (hb pins s1 σ H1 _ I1 q1) λu s2 ⟨y,H2,I2,r2,q2⟩ =>
  aF (ho pins s2 σ H2 x y v u _ I2 r1 r2 q2) λc s3 ⟨z,H3,I3,r3,k,e,q3⟩=>?_) hm
 subst e;cases r3;exact wpAny_truthy_bool ⟨H3,I3,q3⟩
def xM(r r':R2)(ta tb tc:TE):TE:=λσ H Q=>ta σ H λx H1=>tb σ H1 λy H2=>r x y H2 λz H3=>∃k,z=.bl k /\
 (if k=true then tc σ H3 λw' H4=>r' y w' H4 Q else Q (.bl false) H3)
theorem Jx{Jy:CmpOp}{r r':R2}(ho:cV X (compareOp op) r)(dD:cV X (compareOp Jy) r')(ha:PE X a ta)(hb:PE X b tb)(hc:PE X c tc)
 (hm:lastMarks [op,Jy] [b,c]=false:=by with_unfolding_all rfl):PE X (.Compare a [op,Jy] [b,c] pos) (xM r r' ta tb tc):=by
 intro pins s σ H Q I h;refine Compare_chain (aF (ha pins s σ H _ I h) λv s1 ⟨x,H1,I1,r1,q1⟩=>chain_link (aF (hb pins s1 σ H1 _ I1 q1) λu s2 ⟨y,H2,I2,r2,q2⟩ =>
  aF (ho pins s2 σ H2 x y v u _ I2 r1 r2 q2) λd s3 ⟨z,H3,I3,r3,k,e,q3⟩=>?_)) hm
 subst e;cases r3;refine wpAny_truthy_bool ?_;cases k with
 | false=>exact ite_ff ⟨.bl false,H3,I3,rfl,q3⟩
 | true=>exact ite_tt (chain_last (aF (hc pins s3 σ H3 _ I3 q3) λw' s4 ⟨z',H4,I4,r4,q4⟩=>dD pins s4 σ H4 y z' u w' Q I4 r2 r4 q4))
theorem Bk:(sizeLine:Nat)<2 ^ 63:=by rw[sizeLine_eq];decide
inductive dQ (x y:V) (H:Hp) (Q:VK):Prop
 | mk (i:_) (j:_):x=.str i->y=.str j->i.length+j.length<=sizeLine->Q (.str (i++j)) H->dQ x y H Q
theorem FF:cV X (binaryOp .Add) dQ:=by
 intro pins s σ H x y v u Q I rx ry h;obtain⟨i,j,rfl,rfl,hz,q⟩:=h;obtain⟨t,rfl⟩:=rx;obtain⟨t',rfl⟩:=ry;exact add_str (λt' tk=>⟨.str (i++j),H,I.tok _,⟨_,rfl⟩,q⟩) hz
variable {us:List Value}
theorem vals1{x:V}(r:Vals [x] us):∃u,us=[u]/\RelV x u:=by
 cases r with
 | cons r1 r2=>cases r2;exact⟨_,rfl,r1⟩
theorem vals2{x y:V}(r:Vals [x,y] us):∃u w',us=[u,w']/\RelV x u/\RelV y w':=by
 cases r with
 | cons r1 r2 =>
   cases r2 with
   | cons r3 r4=>cases r4;exact⟨_,_,rfl,r1,r3⟩
inductive eQ (xs:List V) (H:Hp) (Q:VK):Prop
 | mk (i:_) (j:_):xs=[.int i,.int j]->(Q (.int (if j<i then j else i)) H)->eQ xs H Q
theorem kK(hc:X.calm=true):wX X (.builtin "min") eQ:=by
 intro pins s σ H xs us Q I r h;obtain⟨i,j,rfl,q⟩:=h;obtain⟨u,w',rfl,⟨t,rfl⟩,⟨t',rfl⟩⟩:=vals2 r;refine min_two_ints (I.ok.hd hc) λh' tk k=>⟨_,H,I.kept k,?_,q⟩;by_cases hj:j<i
 ·rw[if_pos hj,if_pos hj];exact⟨_,rfl⟩
 ·rw[if_neg hj,if_neg hj];exact⟨_,rfl⟩
def Cw(K:Frag)(x:V)(H:Hp)(n:Nat):Prop :=
 match x with
 | .str y=>y.length<=sizeLine/\n=y.length
 | .iF y=>y.size<=sizeLine/\n=y.size
 | .ref p=>(∃xs,ag K H p xs/\n=xs.length)\/∃xs,bN K H p xs/\n=xs.length
 | _=>False
theorem nZ:wX X (.builtin "len") (λxs H Q=>∃x n,xs=[x]/\Cw X.K x H n/\Q (.int n) H):=by
 intro pins s σ H xs us Q I r h;obtain⟨x,n,rfl,e,q⟩:=h;obtain⟨u,rfl,rx⟩:=vals1 r;have hl:=Bk;have hs:sizeLine=16777216:=sizeLine_eq;cases x with
 | str y =>
   obtain⟨t,rfl⟩:=rx;obtain⟨hy,e'⟩:y.length<=sizeLine/\n=y.length:=e;subst e';exact len_str (by omega) ⟨.int _,H,I.tok _,⟨_,rfl⟩,q⟩
 | iF y =>
   obtain⟨t,rfl⟩:=rx;obtain⟨hy,e'⟩:y.size<=sizeLine/\n=y.size:=e;subst e';exact PySem.W.len_bytes (by omega) ⟨.int _,H,I.tok _,⟨_,rfl⟩,q⟩
 | ref p =>
   cases rx;have e':(∃xs,ag X.K H p xs/\n=xs.length)\/∃xs,bN X.K H p xs/\n=xs.length:=e;rcases e' with⟨xs,hx,e'⟩|⟨xs,hx,e'⟩
   ·subst e';obtain⟨au,r',pl,hz⟩:=I.list hx;have hlen:=r'.length;exact Calls.call_len_list pl.isList (by simp only[size_toArray];omega) ⟨.int xs.length,H,I.tok _,⟨_,by simp only[size_toArray];rw[hlen]⟩,q⟩
   ·subst e';obtain⟨au,r',pl,hz⟩:=I.tuple hx;have hlen:=r'.length;exact len_tuple pl (by simp only[size_toArray];omega) ⟨.int xs.length,H,I.tok _,⟨_,by simp only[size_toArray];rw[hlen]⟩,q⟩
 | _=>exact(show False from e).elim
end
structure iK (h:Heap) (x dx C:Addr) (mA:Str->Option Value):Prop where
 obj:h.get? x=some (instObj C dx)
 ns:h.Ns1 dx mA
 ne:dx≠x
variable {mA:Str->Option Value}
theorem kL{dx:Addr}(n:h.Ns1 dx mA):∃od,h.get? dx=some od/\∀name,lookIn name od=some (mA name):=by
 obtain⟨o,es,ep,ho,hd,hk,_,hm⟩:=n;refine⟨o,ho,λname=>?_⟩;have e:=hm name;unfold nsFind findBy at e;rw[<-Array.find?_toList]at e;unfold lookIn;rw[hd];dsimp only;split
 ·rename_i y q;rw[q]at e;exact congrArg some e
 ·rename_i q;rw[q]at e;have a:es.toList.any (·.refKey)=false:=by
   rw[List.any_eq_false];intro y hy;obtain⟨z,t,kM⟩:=hk y (Array.mem_toList_iff.mp hy);simp[DictEntry.refKey,kM]
  have a':¬es.toList.any (·.refKey)=true:=by rw[a];exact Bool.false_ne_true
  rw[if_neg a'];exact congrArg some e
variable {C:Addr}
theorem iK.look{x dx:Addr}(I:iK h x dx C mA):∃od,InstAt h x (instObj C dx) C (some od)/\∀name,lookIn name od=some (mA name) :=
 let ⟨od,ho,hl⟩:=kL I.ns
 ⟨od,⟨I.obj,rfl,rfl,ho⟩,hl⟩
section
variable {prog:Program}{w:World}{A:Around}{E:Value->Shared->Prop}{s:Shared}{K:Frag}{x dx C f:Addr}{mA:Str->Option Value}{name:Str}{v:Value}
theorem get_map{expr:Bool}{Q:Value->Shared->Prop}(X:K.In s.heap)(I:iK s.heap x dx C mA)(hg:plainGet K C name=true)(hh:hasDictIn K C=true)
 (ha:PySem.W.findIn K (.ref C) name=some none) (hv:mA name=some v) (Ud:handedIn v=true) (h:Q v { s with toks:=s.toks+1 }) :
 wpAny (model prog w) A (getAttr (.ref x) name expr) Q E s:=by
 obtain⟨od,J,hl⟩:=I.look;exact PySem.W.get_value X J (plainGet_of hg).1 (PySem.W.findObj_own hh ha rfl (by rw[hl,hv])) Ud h
theorem n5{pl:Sem Bool}{Q:Value×List Value->Shared->Prop}(X:K.In s.heap)(I:iK s.heap x dx C mA)(hg:plainGet K C name=true)
 (hf:PySem.W.findIn K (.ref C) name=some (some (.ref f))) (ht:isFn K (.ref f)=true) (hv:mA name=none) (h:Q (.ref f,[.ref x]) s) :
 wpAny (model prog w) A (getMethod (.ref x) name pl) Q E s:=by
 obtain⟨od,J,hl⟩:=I.look;exact PySem.W.method_fn X J (plainGet_of hg).1 (plainGet_of hg).2 hf (beq_iff_eq.mp ht) (by show(lookIn name od).map (·.isSome)=some false;rw[hl,hv];rfl) h
theorem sR{ns:List Str}{Q:Unit->Shared->Prop}(X:K.In s.heap)(I:iK s.heap x dx C mA)
 (hs:PySem.W.findIn K (.ref C) "__setattr__"=some (some (.builtin "object.__setattr__"))) (hp:plainOver K C=true) (ht:takerIn K C name=some none) (hh:hasDictIn K C=true)
 (hw:PySem.Within mA ns) (hsz:ns.length<=sizeLine)
 (h:∀h',iK h' x dx C (λy=>if y=name then some v else mA y)->SameBut dx s.heap h'->Q () { s with heap:=h',toks:=s.toks+2 }) :
 wpAny (model prog w) A (setAttr (.ref x) name v) Q E s:=by
 obtain⟨od,J,hl⟩:=I.look;refine PySem.W.set_plain X J hs (PySem.W.osa_open (s:={ s with toks:=s.toks+1 }) (r:=none) X J hp ht λb=>?_);obtain⟨cd,hc,Ft⟩:=PySem.W.any_some hh;have hx:s.heap.get? x=some ⟨.ref C,some dx,.plain,#[]⟩:=I.obj;refine wpAny_bind (wpAny_pure (wpAny_bind (wpAny_bind (wpAny_loadPart hx (wpAny_bind (PySem.W.Looks.here (s:={ s with toks:=s.toks+1 }) (PySem.W.looks_clsIn X hc) ?_))))));rw[Ft];refine wpAny_pure (a:=some dx) (wpAny_bind (wpAny_pure (wpAny_bind ?_)));refine wpAny_nsSet1 (s:={ s with toks:=s.toks+1 }) I.ns λh' FG kH=>?_;obtain⟨oD,esD,epD,Ue,Ug,Uh⟩:=FG.count (PySem.Within.cons name v hw);refine wpAny_bind (wpAny_lookBehind Ue (by rw[Ug];exact pastItsLine_dict (le_trans Uh (by rw[length_cons];omega))) ?_);exact wpAny_pure (h _ ⟨(kH.2 _ (Ne.symm I.ne)).trans I.obj,FG,I.ne⟩ kH)
theorem n6{R:Result->Shared->Prop}{vs:List Value}{kw:List (Str×Value)}(X:K.In s.heap)(hm:makesIn K C=true)
 (hi:PySem.W.findIn K (.ref C) "__init__"=some (some (.ref f))) (hf:typeIn K (.ref f)=some (.type "function"))
 (h:codeAny (model prog w) (A.under (.builtin "type.__call__" ⟨.ref C::vs,kw⟩)) (.call (.ref f) ⟨.ref (s.heap.objs.size+1)::vs,kw⟩) (PySem.W.InitBack (s.heap.objs.size+1) R)
   { s with heap:=(s.heap.push emptyDict).push (instObj C s.heap.objs.size) }) :
 codeAny (model prog w) A (.call (.ref C) ⟨vs,kw⟩) R s:=by
 obtain⟨hh,g,d,t,os⟩:=s;exact PySem.W.make_core (PySem.W.makes_of X hm) (PySem.W.looks_findIn X hi) (λself=>PySem.W.bind_fn X self hf) (.inl rfl) h
end
def dj(f:Str)(v:V):List (Str×V)->List (Str×V)
 | []=>[(f,v)]
 | (g,x)::r=>if g=f then(g,v)::r else(g,x)::dj f v r
theorem PK(f g:Str)(v:V):∀fs:List (Str×V),(dj f v fs).lookup g=if g=f then some v else fs.lookup g
 | []=>by
   show List.lookup g [(f,v)]=_;by_cases h:g=f
   ·have hb:(g==f)=true:=beq_iff_eq.mpr h;simp only[List.lookup,hb,if_pos h]
   ·have hb:(g==f)=false:=beq_eq_false_iff_ne.mpr h;simp only[List.lookup,hb,if_neg h]
 | (k,x)::r=>by
   have ih:=PK f g v r;rw[show dj f v ((k,x)::r)=(if k=f then(k,v)::r else(k,x)::dj f v r)from rfl];by_cases hk:k=f
   ·rw[if_pos hk];by_cases h:g=k
    ·have hb:(g==k)=true:=beq_iff_eq.mpr h;simp only[List.lookup,hb,if_pos (h.trans hk)]
    ·have hb:(g==k)=false:=beq_eq_false_iff_ne.mpr h;simp only[List.lookup,hb,if_neg (λe:g=f=>h (e.trans hk.symm))]
   ·rw[if_neg hk];by_cases h:g=k
    ·have hb:(g==k)=true:=beq_iff_eq.mpr h;simp only[List.lookup,hb,if_neg (λe:g=f=>hk (h.symm.trans e))]
    ·have hb:(g==k)=false:=beq_eq_false_iff_ne.mpr h;simp only[List.lookup,hb];exact ih
theorem Jz(f:Str)(v:V):∀fs:List (Str×V),f∈(dj f v fs).map (·.1)/\∀g,g∈fs.map (·.1)->g∈(dj f v fs).map (·.1)
 | []=>⟨by simp[dj],λg h=>by simp at h⟩
 | (k,x)::r=>by
   obtain⟨i1,i2⟩:=Jz f v r;rw[show dj f v ((k,x)::r)=(if k=f then(k,v)::r else(k,x)::dj f v r)from rfl];by_cases hk:k=f
   ·rw[if_pos hk];subst hk;exact⟨by simp,λg h=>by simpa using h⟩
   ·rw[if_neg hk];refine⟨?_,λg h=>?_⟩
    ·rw[map_cons];exact mem_cons_of_mem _ i1
    ·rw[map_cons]at h ⊢;rcases List.mem_cons.mp h with e | e
     ·exact List.mem_cons.mpr (.inl e)
     ·exact mem_cons_of_mem _ (i2 g e)
theorem PL(f:Str)(v:V):∀fs:List (Str×V),(dj f v fs).length<=fs.length+1
 | []=>by simp[dj]
 | (k,x)::r=>by
   have ih:=PL f v r;rw[show dj f v ((k,x)::r)=(if k=f then(k,v)::r else(k,x)::dj f v r)from rfl];by_cases hk:k=f
   ·rw[if_pos hk,length_cons,length_cons];omega
   ·rw[if_neg hk,length_cons,length_cons];omega
theorem cX.some_of{v:V}{o:Option Value}(r:cX (some v) o):∃u,o=some u/\RelV v u:=by
 cases o with
 | none=>exact(show False from r).elim
 | some u=>exact⟨u,rfl,r⟩
theorem cX.none_of{o:Option Value}(r:cX none o):o=none:=by
 cases o with
 | none=>rfl
 | some u=>exact(show False from r).elim
theorem kN{v:V}(r:RelV v u):handedIn u=true:=by
 cases v with
 | bo=>cases (show u=Value.none from r);rfl
 | bl b=>cases (show u=Value.bool b from r);rfl
 | int i=>obtain⟨t,e⟩:=(show ∃t,u=Value.int i t from r);cases e;rfl
 | str x=>obtain⟨t,e⟩:=(show ∃t,u=Value.str x t from r);cases e;rfl
 | iF b=>obtain⟨t,e⟩:=(show ∃t,u=Value.bytes b t from r);cases e;rfl
 | B8 b=>obtain⟨t,e⟩:=(show ∃t,u=Value.float b t from r);cases e;rfl
 | ref a=>cases (show u=Value.ref a from r);rfl
 | ty n=>cases (show u=Value.type n from r);rfl
section
variable {P:Program}{w:World}{H H':Hp}{h h':Heap}{a C dx:Addr}{fs TX:List (Str×V)}
theorem JA(aC:cE P w H h)(e:H a=some (.ins C dx fs)):∃mA,iK h a dx C mA/\(∀f,cX (fs.lookup f) (mA f))/\PySem.Within mA (fs.map (·.1))/\fs.length<=1000/\H dx=some (.own a):=by
 obtain⟨d,z,ne,ob,mA,n,r,q⟩:=(show aX P w H h a (.ins C dx fs)from aC a _ e);exact⟨mA,⟨ob,n,ne⟩,r,q,z,d⟩
end
structure mQ (K:Frag) (C:Addr):Prop where
 pg:plainGet K C Str.empty=true
 hd:hasDictIn K C=true
 po:plainOver K C=true
 sa:PySem.W.findIn K (.ref C) "__setattr__"=some (some (.builtin "object.__setattr__"))
theorem mQ.get(c:mQ K C)(f:Str):plainGet K C f=true:=c.pg
def bK(K:Frag)(C:Addr)(f:Str):Prop:=PySem.W.findIn K (.ref C) f=some none
theorem bK.Cy{f:Str}(n:bK K C f):takerIn K C f=some none:=by
 unfold takerIn;rw[show PySem.W.findIn K (.ref C) f=some none from n];rfl
structure Meth (K:Frag) (C:Addr) (m:Str) (f:Addr):Prop where
 at_:PySem.W.findIn K (.ref C) m=some (some (.ref f))
 fn:isFn K (.ref f)=true
 kp:keepIn K (.ref f)=true
section
variable {X:Cx}{pins:List (Addr×Obj)}{σ:St}{H:Hp}{s:Shared}{a C dx:Addr}{fs:List (Str×V)}{f:Str}{v:V}{A:Around}{E:Value->Shared->Prop}
variable {Q:Value->Shared->Prop}
theorem Ui{b:Bool}(I:Inv X pins σ H s)(e:H a=some (.ins C dx fs))(c:mQ X.K C)(n:bK X.K C f)(l:fs.lookup f=some v)
 (h:∀u s',Inv X pins σ H s'->RelV v u->Q u s'):wpAny (model X.prog X.w) A (getAttr (.ref a) f b) Q E s:=by
 obtain⟨mA,O,r,_,_,_⟩:=JA I.aC e;obtain⟨u,hu,ru⟩:=cX.some_of (v:=v) (o:=mA f) (by rw[<-l];exact r f);exact get_map I.gd O (c.get f) c.hd n hu (kN ru) (h u _ (I.tok _) ru)
theorem JB{m:Str}{g:Addr}{pl:Sem Bool}{Q:Value×List Value->Shared->Prop}(I:Inv X pins σ H s)(e:H a=some (.ins C dx fs))(c:mQ X.K C)(k:Meth X.K C m g)(l:fs.lookup m=none)
 (h:Q (.ref g,[.ref a]) s):wpAny (model X.prog X.w) A (getMethod (.ref a) m pl) Q E s:=by
 obtain⟨mA,O,r,_,_,_⟩:=JA I.aC e;have hn:mA m=none:=cX.none_of (by rw[<-l];exact r m);exact n5 I.gd O (c.get m) k.at_ k.fn hn h
theorem iL{y:V}{u:Value}{Q:Unit->Shared->Prop}(I:Inv X pins σ H s)(e:H a=some (.ins C dx fs))(c:mQ X.K C)(n:bK X.K C f)(hl:fs.length<1000)(ry:RelV y u)
 (h:∀s',Inv X pins σ (upd H a (.ins C dx (dj f y fs))) s'->Q () s'):wpAny (model X.prog X.w) A (setAttr (.ref a) f u) Q E s:=by
 obtain⟨mA,O,r,wi,_,ho⟩:=JA I.aC e;have hz:(fs.map (·.1)).length<=sizeLine:=by rw[length_map,sizeLine_eq];omega
 refine sR I.gd O c.sa c.po n.Cy c.hd wi hz λh' O' sb=>h _ ?_;have hd:∃o,h'.get? dx=some o:=let ⟨o,_,_,e',_⟩:=O'.ns;⟨o,e'⟩;refine I.write (x:=a) (e:=dx) (by rw[e];exact True.intro) (.inr ho) (λb q hb z=>(sb.2 b hb).trans z) hd ?_;refine⟨by rw[zh O.ne];exact ho,?_,O.ne,O'.obj,_,O'.ns,λg=>?_,λg hg=>?_⟩
 ·have:=PL f y fs;omega
 ·show cX ((dj f y fs).lookup g) (if g=f then some u else mA g);rw[PK];by_cases q:g=f
  ·rw[if_pos q,if_pos q];exact ry
  ·rw[if_neg q,if_neg q];exact r g
 ·by_cases q:g=f
  ·rw[q];exact(Jz f y fs).1
  ·refine(Jz f y fs).2 g (wi g λz=>hg ?_);show(if g=f then some u else mA g)=none;rw[if_neg q];exact z
theorem Inv.made(I:Inv X pins σ H s):Inv X pins σ (upd (upd H s.heap.objs.size (.own (s.heap.objs.size+1))) (s.heap.objs.size+1) (.ins C s.heap.objs.size []))
 { s with heap:=(s.heap.push emptyDict).push (instObj C s.heap.objs.size) }:=by
 have e1:(s.heap.push emptyDict).get? s.heap.objs.size=some emptyDict:=get?_push_size s.heap rfl;have e2:((s.heap.push emptyDict).push (instObj C s.heap.objs.size)).get? (s.heap.objs.size+1)=some (instObj C s.heap.objs.size):=by
  have:=get?_push_size (s.heap.push emptyDict) (o:=instObj C s.heap.objs.size) rfl
  rwa [size_push]at this
 have e3:(s.heap.push emptyDict).Ns s.heap.objs.size (λ_=>none):=⟨emptyDict,#[],_,e1,rfl,(λe he=>absurd he (by simp)),λ_=>rfl⟩;have I1:=I.laid (a:=s.heap.objs.size) (o:=.own (s.heap.objs.size+1)) (h':=s.heap.push emptyDict) (t':=s.toks) (λb u q=>get?_push_of_some _ q) (le_refl _) ⟨_,e1⟩;refine I1.laid (a:=s.heap.objs.size+1) (o:=.ins C s.heap.objs.size []) (t':=s.toks) (λb u q=>get?_push_of_some _ q) (le_of_eq (size_push _ _)) ?_;have ne:s.heap.objs.size≠s.heap.objs.size+1:=ne_of_lt (lt_succ_self _);refine⟨by rw[zh ne,zc],zero_le _,ne,e2,λ_=>none,(Heap.Ns1.of_empty e3).at λo q=>get?_push_of_some _ q,λ_=>True.intro,λy hy=>absurd rfl hy⟩
theorem sS{prog:Program}{w:World}{env:Env}{e:Expr}{f:Str}{pos:Pos}{s:Shared}(hb:attributeBase e f env (eval e env)=eval e env)
 (h:wpAny (model prog w) A (eval e env) (λo s₁=>wpAny (model prog w) A (getAttr o f true) Q E s₁) E s):wpAny (model prog w) A (eval (.Attribute e f pos) env) Q E s :=
 Attribute_any_ h (by rw[arm_eval_Attribute,hb])
end
inductive u9 (K:Frag) (f:Str) (x:V) (H1:Hp) (Q:VK):Prop
 | mk (a:_) (C:_) (dx:_) (fs:_) (v:_):x=.ref a->H1 a=some (.ins C dx fs)->mQ K C->bK K C f->fs.lookup f=some v->Q v H1->u9 K f x H1 Q
def Cz(K:Frag)(ta:TE)(f:Str):TE:=λσ H Q=>ta σ H λx H1=>u9 K f x H1 Q
def JC(K:Frag)(ta tv:TE)(f:Str):TS:=λD σ H=>tv σ H λy H1=>ta σ H1 λx H2=>∃a C dx fs,x=.ref a/\H2 a=some (.ins C dx fs)/\mQ K C/\bK K C f/\fs.length<1000 /\
 D.nx σ (upd H2 a (.ins C dx (dj f y fs)))
section
variable {X:Cx}{o e value:Expr}{f:Str}{pos pos' JD:Pos}{ta tv:TE}
theorem wD(he:PE X e ta)(hb:attributeBase e f X.env (eval e X.env)=eval e X.env):PE X (.Attribute e f pos) (Cz X.K ta f):=by
 intro pins s σ H Q I h;refine sS hb (aF (he pins s σ H _ I h) λu s1 ⟨x,H1,I1,rx,a,C,dx,fs,v,ex,ea,c,n,l,q⟩=>?_);subst ex;obtain rfl:u=Value.ref a:=rx;exact Ui I1 ea c n l λu' s2 I2 ru=>⟨v,H1,I2,ru,q⟩
theorem va(ha:PE X o ta)(hv:PE X value tv)(hs:swapsWith value (some (.Attribute o f pos')) pos.line X.env=pure false):PS X (.Assign [.Attribute o f pos'] value pos) (JC X.K ta tv f):=by
 intro pins s σ H D I h;refine plainObj_wpAny_Assign_Attribute (aF (hv pins s σ H _ I h) λu s1 ⟨y,H1,I1,ry,q⟩=>aF (ha pins s1 σ H1 _ I1 q) λov s2 ⟨x,H2,I2,rx,a,C,dx,fs,ex,ea,c,n,l,q2⟩=>?_) hs;subst ex;obtain rfl:ov=Value.ref a:=rx;exact iL I2 ea c n l ry λs3 I3=>⟨σ,_,I3,q2⟩
end
section
variable {X:Cx}{pins:List (Addr×Obj)}{σ:St}{H:Hp}{s:Shared}{A:Around}{E:Value->Shared->Prop}{Q:Value->Shared->Prop}{c:Value}{b:Bool}
end
structure aU (k:Nat) (A:Around):Prop where
 hd:A.handled=none
 dp:A.depth+3*k+5<recursionLimit
 un:A.units+16*k+200<cLine
variable {k:Nat}
theorem aU.mono{j:Nat}(r:aU k A)(h:j<=k):aU j A:=⟨r.hd,by have:=r.dp;omega,by have:=r.un;omega⟩
theorem hM{j:Nat}(r:aU k A)(h:j<=k:=by decide):aU j A:=r.mono h
theorem aU.deeper(r:aU (k+1) A)(env:Env):aU k (A.deeper env) :=
 ⟨r.hd,by have:=r.dp;show A.depth+1+3*k+5<_;omega,by have:=r.un;show A.units+3+16*k+200<_;omega⟩
theorem aU.in1(r:aU (k+1) A):aU k A.in1 :=
 ⟨r.hd,by have:=r.dp;show A.depth+3*k+5<_;omega,by have:=r.un;show A.units+1+16*k+200<_;omega⟩
variable {kw:List (Str×Value)}
theorem iM:(A.under (.builtin "type.__call__" ⟨.ref C::us,kw⟩)).depth=A.depth+1:=by
 first | rfl | simp[Around.under,Code.weight,Code.isCreation,Code.isGuard,Code.isCaller,Code.frames,Code.isFrame,guardIds]
theorem iN:(A.under (.builtin "type.__call__" ⟨.ref C::us,kw⟩)).units=A.units+1:=by
 first | rfl | simp[Around.under,Code.cUnits,Code.frames,Code.isFrame]
theorem aU.make(r:aU (k+1) A)(C:Addr)(us:List Value)(kw:List (Str×Value)):aU k (A.under (.builtin "type.__call__" ⟨.ref C::us,kw⟩)) :=
 ⟨r.hd,by have:=r.dp;rw[iM];omega,by have:=r.un;rw[iN];omega⟩
theorem aU.depth(r:aU k A):A.depth<recursionLimit:=by have:=r.dp;omega
theorem aU.units(r:aU k A):A.units+64<cLine:=by have:=r.un;omega
theorem aU.aS(r:aU k A):A.units<cLine:=by have:=r.un;omega
def kO:TA:=λ_ H Q=>Q [] H
def n9(ta:TE)(tr:TA):TA:=λσ H Q=>ta σ H λx H1=>tr σ H1 λxs H2=>Q (x::xs) H2
section
variable {X:Cx}{e:Expr}{es:List Expr}{te:TE}{t:TA}{pos:Pos}
theorem zb:PA X [] kO:=λ_ _ _ _ H Q I h=>Calls.spliced_nil ⟨[],H,I,.nil,h⟩
theorem za(ha:PE X e te)(hr:PA X es t)(hs:starEach (e::es) X.env=(false,eval e X.env)::starEach es X.env:=by rfl):PA X (e::es) (n9 te t):=by
 intro pos pins s σ H Q I h;rw[hs];show wpAny _ _ (spliced ((false,eval e X.env)::backTo pos (starEach es X.env))) _ _ s;refine Calls.spliced_cons (aF (ha pins s σ H _ I h) λu s1 ⟨x,H1,I1,r1,q1⟩=>?_);exact aF (hr pos pins s1 σ H1 _ I1 q1) λus s2 ⟨xs,H2,I2,r2,q2⟩=>⟨x::xs,H2,I2,.cons r1 r2,q2⟩
def JE(t:TA):TE:=λσ H Q=>t σ H λxs H1=>xs.length<=sizeLine/\∀p,H1 p=none->Q (.ref p) (upd H1 p (.tup xs))
def JF(t:TA):TE:=λσ H Q=>t σ H λxs H1=>xs.length<=sizeLine/\∀p,H1 p=none->Q (.ref p) (upd H1 p (.lst xs))
theorem og{x1}(h:PA X es t):PE X (.Tuple es x1 pos) (JE t):=by
 intro pins s σ H Q I hq;refine wpAny_Tuple_spliced (aF (h pos pins s σ H _ I hq) λus s1 ⟨xs,H1,I1,r,z,q⟩=>⟨by rw[<-r.length];exact z,?_⟩);have hf:H1 s1.heap.objs.size=none:=I1.aC.fresh (le_refl _);refine⟨.ref s1.heap.objs.size,upd H1 s1.heap.objs.size (.tup xs),I1.laid (t':=s1.toks) (λb u e=>get?_push_of_some _ e) (le_refl _) ?_,rfl,q _ hf⟩;exact⟨z,us,r,⟨_,get?_push_size _ rfl,rfl,_,rfl⟩⟩
theorem zz(h:PA X es t):PE X (.List es pos) (JF t):=by
 intro pins s σ H Q I hq;refine wpAny_List_spliced (aF (h pos pins s σ H _ I hq) λus s1 ⟨xs,H1,I1,r,z,q⟩=>⟨by rw[<-r.length];exact z,?_⟩);have hf:H1 s1.heap.objs.size=none:=I1.aC.fresh (le_refl _);refine⟨.ref s1.heap.objs.size,upd H1 s1.heap.objs.size (.lst xs),I1.laid (t':=s1.toks) (λb u e=>get?_push_of_some _ e) (le_refl _) ?_,rfl,q _ hf⟩;exact⟨z,us,0,r,get?_push_size _ rfl⟩
end
abbrev Sp:=List V->Hp->VK->XK->Prop
abbrev mR:=List Env->Hp->Shared->XK->Value->Shared->Prop
structure fJ (P:Program) (w:World) (K:Frag) (mg:Str->Option Value) (base:Heap) (A:Around) (outer:List Env) (s:Shared) (H:Hp):Prop where
 frames:A.frames=some outer
 mod:Mod K mg base
 bs:∀b o,base.get? b=some o->s.heap.get? b=some o/\H b=none
 fV:base.objs.size<=s.heap.objs.size
 bX:s.heap.FunFrames base outer
 jA:∀b∈cf outer,H b=none
 aC:cE P w H s.heap
 bare:AllBare s.gens
def CE(outer:List Env)(P:Program)(w:World)(H:Hp)(s:Shared)(Q:VK)(u:Value)(s':Shared):Prop :=
 ∃v H',s'.os=s.os/\AllBare s'.gens/\Un (cf outer) [] H H' s.heap s'.heap/\cE P w H' s'.heap/\RelV v u/\Q v H'
def CR(CX:mR)(outer:List Env)(P:Program)(w:World)(H:Hp)(s:Shared)(Q:VK)(E:XK)(r:Result)(s':Shared):Prop :=
 match r with
 | .ok (.ret u)=>CE outer P w H s Q u s'
 | .ok _=>False
 | .error e=>CX outer H s E e s'
structure av (P:Program) (w:World) (K:Frag) (mg:Str->Option Value) (base:Heap) (CX:mR) (k:Nat) (f:Addr) (fd:FuncData) (ps:List Str) (sp:Sp):Prop where
 len:∀vs H Q E,sp vs H Q E->vs.length=ps.length
 run:∀(A:Around)(outer:List Env)(s:Shared)(H:Hp)(args:Args)(us:List Value)(vs:List V)(Q:VK)(E:XK),aU k A->fJ P w K mg base A outer s H->BindsTo s fd args (ps.zip us)->Vals vs us->sp vs H Q E ->
  codeAny (model P w) A (.call (.ref f) args) (CR CX outer P w H s Q E) s
variable {mg:Str->Option Value}{base:Heap}{outer:List Env}
theorem fJ.make(e:fJ P w K mg base A outer s H)(C:Addr)(us:List Value)(kw:List (Str×Value)):
 fJ P w K mg base (A.under (.builtin "type.__call__" ⟨.ref C::us,kw⟩)) outer s H:=⟨by first | exact e.frames | (simpa [Around.under,Code.envs,Code.isFrame,pushEnvs] using e.frames),e.mod,e.bs,e.fV,e.bX,e.jA,e.aC,e.bare⟩
theorem fJ.in1(e:fJ P w K mg base A outer s H):
 fJ P w K mg base A.in1 outer s H:=⟨e.frames,e.mod,e.bs,e.fV,e.bX,e.jA,e.aC,e.bare⟩
section
variable {X:Cx}{pins:List (Addr×Obj)}{σ:St}{H:Hp}{s s':Shared}
theorem Inv.sT(I:Inv X pins σ H s):fJ X.prog X.w X.K X.mg X.base X.A X.stack s H :=
 ⟨I.ok.frames,I.ok.mod,I.bs,le_trans I.ok.fV I.sz,I.stack,I.cU,I.aC,I.bare⟩
theorem Inv.after{Q:VK}{u:Value}(I:Inv X pins σ H s)(h:CE X.stack X.prog X.w H s Q u s'):EP X pins σ Q u s':=by
 obtain⟨v,H',os,bare,un,aC,r,q⟩:=h;obtain⟨hh,g,d,t,CA⟩:=s';obtain rfl:CA=s.os:=os;exact⟨v,H',I.call (h':=hh) (g':=g) (d':=d) (t':=t) (ch:=[]) un aC bare (λb z=>absurd z (by simp)),r,q⟩
end
def vb(sp:Sp)(iO:List V)(E:XK)(t:TA):TE:=λσ H Q=>t σ H λvs H1=>sp (vs++iO) H1 Q E
inductive oh (C:Addr) (m:Str) (sp:Sp) (iO:List V) (E:XK) (t:TA) (σ:St) (x:V) (H1:Hp) (Q:VK):Prop
 | mk (a:_) (dx:_) (fs:_):x=.ref a->H1 a=some (.ins C dx fs)->fs.lookup m=none->(t σ H1 λvs H2=>sp (x::(vs++iO)) H2 Q E)->oh C m sp iO E t σ x H1 Q
def vc(C:Addr)(m:Str)(sp:Sp)(iO:List V)(E:XK)(ta:TE)(t:TA):TE:=λσ H Q=>ta σ H λx H1=>oh C m sp iO E t σ x H1 Q
def Binds(K:Frag)(fd:FuncData)(ps:List Str)(ds:List Value):Prop :=
 ∀(s:Shared)(us:List Value),K.In s.heap->(us++ds).length=ps.length->BindsTo s fd ⟨us,[]⟩ (ps.zip (us++ds))
variable {ps:List Str}
theorem Binds.all{fd:FuncData}(h:∀us:List Value,us.length=ps.length->bindArgs fd ⟨us,[]⟩=pure (ps.zip us)):Binds K fd ps []:=λs us _ hl=>by
 rw[append_nil]at hl ⊢;exact .of_eq (h us hl)
def FH(CX:mR)(X:Cx)(E:XK):Prop:=∀(pins:List (Addr×Obj)) (σ:St) (H:Hp) (s:Shared) (e:Value) (s':Shared),Inv X pins σ H s->CX X.stack H s E e s'->X.xe e s'
section
variable {X:Cx}{CX:mR}{k:Nat}{f C:Addr}{fd:FuncData}{ps:List Str}{sp:Sp}{iO:List V}{ds:List Value}{E:XK}{x m:Str}{p pos apos:Pos}{e o:Expr}{es:List Expr}{ta:TE}{t:TA}
theorem oi{pins:List (Addr×Obj)}{σ:St}{H:Hp}{s:Shared}{Q:VK}{us:List Value}{vs:List V}(F:av X.prog X.w X.K X.mg X.base CX k f fd ps sp)(hr:aU k X.A)(hb:Binds X.K fd ps ds)(hd:Vals iO ds)(hx:FH CX X E)
 (I:Inv X pins σ H s) (r:Vals vs us) (h:sp (vs++iO) H Q E):wpAny (model X.prog X.w) X.A (call (.ref f) us) (EP X pins σ Q) X.xe s:=by
 have r2:Vals (vs++iO) (us++ds):=r.append hd;have hl:(us++ds).length=ps.length:=by rw[<-r2.length];exact F.len _ _ _ _ h
 refine wpAny_call (codeAny_mono (F.run X.A X.stack s H ⟨us,[]⟩ (us++ds) (vs++iO) Q E hr I.sT (hb s us I.gd hl) r2 h) λr s' hq=>?_);cases r with
 | error e=>exact hx pins σ H s e s' I hq
 | ok fl =>
   cases fl with
   | ret u=>exact I.after hq
   | next=>exact False.elim hq
   | brk=>exact False.elim hq
   | cont=>exact False.elim hq
theorem sU(F:av X.prog X.w X.K X.mg X.base CX k f fd ps sp)(hr:aU k X.A)(hg:Gl X x)(hm:X.mg x=some (.ref f))(hk:keepIn X.K (.ref f)=true)(hb:Binds X.K fd ps ds)(hd:Vals iO ds)(hx:FH CX X E)
 (ha:PA X (e::es) t) (gU:(x==("__debug__":Str))=false:=by decide) (he:starEach (e::es) X.env=(false,eval e X.env)::starEach es X.env:=by rfl) (hpl:(backTo pos (starEach es X.env)).any (·.1)=false:=by rfl) :
 PE X (.Call (.Name x p) (e::es) [] pos) (vb sp iO E t):=by
 intro pins s σ H Q I h;refine wpAny_Call_Name_kw (Bh I hg hm ?_ gU);refine callWith_K (h₀:=X.base) I.ok.mod.uS hk (aF (ha pos pins s σ H _ I h) λus s1 ⟨vs,H1,I1,r,q⟩=>⟨I1.gd,?_⟩) he hpl;exact oi F hr hb hd hx I1 r q
theorem oj{pl:Sem Bool}(he:PE X o ta)(c:mQ X.K C)(hm:Meth X.K C m f)(F:av X.prog X.w X.K X.mg X.base CX k f fd ps sp)(hr:aU k X.A)(hb:Binds X.K fd ps ds)(hd:Vals iO ds)(hx:FH CX X E)
 (ht:eval (.Call (.Attribute o m apos) [] [] pos) X.env=(do
   let ov <-eval o X.env
   standAt apos.atName
   let (f,first) <-holding [ov] (getMethod ov m pl)
   callWith pos f first (backTo pos (starEach [] X.env)) (backToKw pos (keywordEach [] X.env))):=by rfl) :
 PE X (.Call (.Attribute o m apos) [] [] pos) (vc C m sp iO E ta kO):=by
 intro pins s σ H Q I h;refine methodCall_KW (pl:=pl) (aF (he pins s σ H _ I h) λu s1 ⟨x,H1,I1,rx,a,dx,fs,ex,ea,l,q⟩=>?_) ht;subst ex;obtain rfl:u=Value.ref a:=rx;refine JB I1 ea c hm l ?_;exact callWith_K0 (first:=[.ref a]) I1.gd hm.kp (oi (us:=[.ref a]) (vs:=[.ref a]) F hr hb hd hx I1 (.cons rfl .nil) q)
structure Mk (K:Frag) (C f:Addr):Prop where
 makes:makesIn K C=true
 init:PySem.W.findIn K (.ref C) "__init__"=some (some (.ref f))
 fn:isFn K (.ref f)=true
 kp:keepIn K (.ref C)=true
end
section
variable {X:Cx}{CX:mR}{k:Nat}{f C:Addr}{fd:FuncData}{ps ks:List Str}{sp:Sp}{E:XK}{x m:Str}{p pos apos Uj:Pos}{e o:Expr}{es:List Expr}{kws:List Keyword}{te ta:TE}{t tk:TA}{nm:Option Str}
variable {g:List Value->List Value->List Value}{gV:List V->List V->List V}
end
structure ah (N P:List Str) (sc:Scope):Prop where
 kind:sc.kind=.function
 co:sc.isCoroutine=false
 gen:sc.isGenerator=false
 nd:N.Nodup
 pre:N.take P.length=P
 par:∀x∈P,sc.names.lookup x=some .local\/sc.names.lookup x=some .cell
 xN:∀y∈sc.names,y.2 ≠ .free
variable {kindOf:Str->Option NameKind}{x:Str}
theorem PM:∀{binds:List (Str×Value)} {m:Str->Option Value},(∀v,(x,v)∉binds)->bindL kindOf binds m x=m x
 | [],_,_=>rfl
 | (n,v)::r,m,h=>by
   unfold bindL;rw[PM λw hw=>h w (mem_cons_of_mem _ hw)];split
   ·have:x≠n:=by rintro rfl;exact h v mem_cons_self
    simp[this]
   ·rfl
theorem PN:∀{binds:List (Str×Value)} {m:Str->Option Value},(∀v,(x,v)∉binds)->bindC kindOf binds m x=m x
 | [],_,_=>rfl
 | (n,v)::r,m,h=>by
   unfold bindC;rw[PN λw hw=>h w (mem_cons_of_mem _ hw)];split
   ·rfl
   ·have:x≠n:=by rintro rfl;exact h v mem_cons_self
    simp[this]
theorem PQ{v:Value}:∀{P:List Str}{vs:List Value}{i:Nat}{m:Str->Option Value},P.Nodup->P[i]? = some x->vs[i]? = some v->kindOf x=some .local ->
 bindL kindOf (P.zip vs) m x=some v
 | [],_,_,_,_,h,_,_=>by simp at h
 | _::_,[],_,_,_,_,h,_=>by simp at h
 | p::P,w::vs,0,m,nd,h1,h2,hk=>by
   simp at h1 h2;subst h1;subst h2;show bindL kindOf ((p,w)::P.zip vs) m p=_;unfold bindL;rw[PM λv hv=>(List.nodup_cons.mp nd).1 (of_mem_zip hv).1,if_pos hk];simp
 | p::P,w::vs,i+1,m,nd,h1,h2,hk=>by
   show bindL kindOf ((p,w)::P.zip vs) m x=_;unfold bindL;exact PQ (i:=i) (List.nodup_cons.mp nd).2 (by simpa using h1) (by simpa using h2) hk
theorem PR{v:Value}:∀{P:List Str}{vs:List Value}{i:Nat}{m:Str->Option Value},P.Nodup->P[i]? = some x->vs[i]? = some v->kindOf x≠some .local ->
 bindC kindOf (P.zip vs) m x=some v
 | [],_,_,_,_,h,_,_=>by simp at h
 | _::_,[],_,_,_,_,h,_=>by simp at h
 | p::P,w::vs,0,m,nd,h1,h2,hk=>by
   simp at h1 h2;subst h1;subst h2;show bindC kindOf ((p,w)::P.zip vs) m p=_;unfold bindC;rw[PN λv hv=>(List.nodup_cons.mp nd).1 (of_mem_zip hv).1,if_neg hk];simp
 | p::P,w::vs,i+1,m,nd,h1,h2,hk=>by
   show bindC kindOf ((p,w)::P.zip vs) m x=_;unfold bindC;exact PR (i:=i) (List.nodup_cons.mp nd).2 (by simpa using h1) (by simpa using h2) hk
def iw(N:List Str)(vs:List V):St:=vs.map some++replicate (N.length-vs.length) none
def eR(CX:mR)(P:Program)(w:World)(K:Frag)(mg:Str->Option Value)(base:Heap)(N:List Str)(qual:Str)(scope:Scope)(f:Addr)(cd:Value)(A:Around)(outer:List Env)(s:Shared)(H:Hp)(E:XK):Cx where
 prog:=P
 w:=w
 K:=K
 mg:=mg
 base:=base
 A:=A.deeper (envOfC qual scope s.heap.objs.size f cd)
 N:=N
 s₀:=s
 H₀:=H
 env:=envOfC qual scope s.heap.objs.size f cd
 outer:=outer
 stack:=envOfC qual scope s.heap.objs.size f cd::outer
 ex:=[]
 calm:=true
 fn:=λ_=>true
 pn:=[]
 xe:=λe s'=>wpAny (model P w) (A.deeper (envOfC qual scope s.heap.objs.size f cd)) (leaving (envOfC qual scope s.heap.objs.size f cd) e) (λ_ fK=>CX outer H s E e fK) (λe' fK=>CX outer H s E e' fK) s'
theorem PU{sc:Scope}{n:Nat}(h:sc.names.lookup x=some .cell):∃c,(cellsFrom n sc.names []).lookup x=some c:=by
 have q:=cellsFrom_some sc.names n [] (.inl h);exact Option.isSome_iff_exists.mp q
variable {scope:Scope}
theorem PV{CX:mR}{N:List Str}{qual:Str}{f:Addr}{cd:Value}{s1:Shared}{E:XK}{vs:List V}
 (S:ah N ps scope) (hd:A.handled=none) (e0:fJ P w K mg base A outer s H) (hl:vs.length=ps.length) (r:Vals vs us)
 (x:InCallC s s.heap.objs.size (bindL (envOfC qual scope s.heap.objs.size f cd).kindOf (ps.zip us) λ_=>none) (cellsFrom (s.heap.objs.size+1) scope.names []) (bindC (envOfC qual scope s.heap.objs.size f cd).kindOf (ps.zip us) λ_=>none) s1) :
 Inv (eR CX P w K mg base N qual scope f cd A outer s H E) [] (iw N vs) H s1:=by
 have hpl:ps.length<=N.length:=by have:=congrArg List.length S.pre;rw[length_take]at this;omega
 obtain⟨h1,tk,rfl,hk⟩:=x.done;have CB:∀b:Addr,b∉(eR CX P w K mg base N qual scope f cd A outer s H E).ex:=λb z=>absurd (show b∈([]:List Addr)from z) (by simp);refine⟨⟨e0.mod,S.kind,rfl,rfl,le_refl _,λy z c h1 h2=>?_,λy hy=>?_,λy c _ h=>?_,λ_=>hd,Around.frames_deeper e0.frames,.inr ⟨rfl,rfl⟩,λb z=>absurd z (CB b),e0.bs,e0.fV,λb _ _=>CB b,λb z=>absurd z (CB b),e0.bX,e0.jA⟩,
  rfl,e0.bare,Un.kept hk,⟨_,x.toInCall.ns,λi y v h1 h2 h3=>?_⟩,λy c h=>⟨_,x.cell y c h⟩,e0.aC.fresh (le_refl _),λy c h=>?_,λp hp=>absurd (show p∈([]:List (Addr×Obj))from hp) (by simp),e0.aC.kept hk,?_⟩
 ·exact name_of_addr x.apart (PySem.mem_of_lookup h1) (PySem.mem_of_lookup h2)
 ·have hy:scope.names.lookup y=some .cell\/scope.names.lookup y=some .free:=hy;rcases hy with hy | hy
  ·exact PU hy
  ·exact absurd rfl (S.xN _ (PySem.mem_of_lookup hy))
 ·exact le_of_lt (x.above y c (PySem.mem_of_lookup h))
 ·have hi:i<vs.length:=by
   unfold iw at h2;by_cases hi:i<vs.length
   ·exact hi
   ·rw[List.getElem?_append_right (by simpa using hi)]at h2;rw[List.getElem?_replicate]at h2;split at h2 <;> cases h2
  have ha:vs[i]? = some v:=by
   unfold iw at h2;rw[List.getElem?_append_left (by simpa using hi),getElem?_map]at h2;cases e:vs[i]? with
   | none=>rw[e]at h2;cases h2
   | some a=>rw[e]at h2;cases h2;rfl
  obtain⟨u,hu,rv⟩:=r.get ha;have hp:ps[i]? = some y:=by
   rw[<-S.pre,List.getElem?_take_of_lt (by omega)];exact h1
  have PX:ps.Nodup:=by rw[<-S.pre];exact S.nd.sublist (List.take_sublist _ _)
  refine⟨u,rv,?_⟩;rcases S.par y (mem_of_getElem? hp)with k | k
  ·exact .inl ⟨k,PQ PX hp hu k⟩
  ·obtain⟨c,e⟩:=PU (n:=s.heap.objs.size+1) k;refine .inr ⟨.inl k,c,e,?_⟩;have q:=x.cell y c e;rw[PR PX hp hu (by show scope.names.lookup y≠_;rw[k];decide)]at q;exact q
 ·exact e0.aC.fresh (le_of_lt (x.above y c (PySem.mem_of_lookup h)))
 ·unfold iw;show _=N.length;rw[length_append,length_map,List.length_replicate];omega
theorem om{CX:mR}{f:Addr}{name qual:Str}{params:Arguments}{body:List Stmt}{dV kV doc pm aE ct oc:Value}{an od:Option Addr}
 {gI:Array (Option Value)} {N:List Str} {sp:Sp} (lk:K.lookup f=some ⟨oc,od,.func (fnOf name qual params body scope dV kV doc pm an aE ct),gI⟩) (di:codeIn K aE qual=true) (S:ah N ps scope)
 (len:∀vs H Q E,sp vs H Q E->vs.length=ps.length)
 (dn:∀(A:Around)(outer:List Env)(s:Shared)(H:Hp)(vs:List V)(Q:VK)(E:XK),aU k (A.deeper (envOfC qual scope s.heap.objs.size f aE))->sp vs H Q E ->
   ∃t,iu (eR CX P w K mg base N qual scope f aE A outer s H E) body t/\t { nx:=λ_ H'=>Q .bo H',rt:=Q } (iw N vs) H) :
 av P w K mg base CX (k+1) f (fnOf name qual params body scope dV kV doc pm an aE ct) ps sp:=by
 refine⟨len,λA outer s H args us vs Q E hr e0 hb r fX=>?_⟩;have hl:=len _ _ _ _ fX;have KX:K.In s.heap:=e0.mod.uS.keeps λb o e=>(e0.bs b o e).1;have lim:s.heap.NoLimit:=e0.mod.nolimit.keeps λb o e=>(e0.bs b o e).1;have oo:∀y∈ps.zip us,scope.names.lookup y.1=some .local\/(scope.names.lookup y.1=some .cell/\((cellsFrom (s.heap.objs.size+1) scope.names []).lookup y.1).isSome=true):=λ⟨n,v⟩ hy=>by
  rcases S.par n (of_mem_zip hy).1 with q | q
  ·exact .inl q
  ·exact .inr ⟨q,cellsFrom_some _ _ _ (.inl q)⟩
 refine codeAny_call_function hr.depth (KX _ _ lk) rfl S.co S.gen rfl (PySem.W.codeRec_of KX di) (hb _ _ _ _ ?_);refine wpAny_newFunctionEnv_cells S.kind oo λenv he s1 x=>?_;subst he;refine⟨lim.keeps x.toInCall.keep,codeAny_func ?_⟩;obtain⟨t,ht,hq⟩:=dn A outer s H vs Q E (hr.deeper _) fX;have I:Inv (eR CX P w K mg base N qual scope f aE A outer s H E) [] (iw N vs) H s1:=PV S hr.hd e0 hl r x;refine wpAny_mono (ht [] s1 (iw N vs) H _ I hq) (λfl s' hs=>?_) λe s' hs=>hs;have fin:∀{σ':St}{H':Hp}{v:V}{u:Value},Inv (eR CX P w K mg base N qual scope f aE A outer s H E) [] σ' H' s'->RelV v u->Q v H'->CE outer P w H s Q u s' :=
  λ{σ' H' v u} J rv q=>⟨v,H',J.os,J.bare,J.base,J.aC,rv,q⟩
 cases fl with
 | ret u =>
   obtain⟨v,σ',H',J,rv,q⟩:=hs;exact fin J rv q
 | next =>
   obtain⟨σ',H',J,q⟩:=hs;exact fin (v:=V.bo) (u:=Value.none) J rfl q
 | brk =>
   obtain⟨_,_,_,q⟩:=hs;exact False.elim q
 | cont =>
   obtain⟨_,_,_,q⟩:=hs;exact False.elim q
section
variable {X:Cx}{x:Str}{p pos:Pos}{e:Expr}{es:List Expr}{t:TA}{id T:String}{r:List V->Hp->VK->Prop}
def FI(r:List V->Hp->VK->Prop)(t:TA):TE:=λσ H Q=>t σ H λvs H1=>r vs H1 Q
theorem zD(hc:wX X (.builtin id) r)(hg:Gl X x)(hm:X.mg x=none)(hv:bootBuiltins x=some (.builtin id))(ha:PA X (e::es) t)(hn:x≠"__name__":=by decide)(gU:(x==("__debug__":Str))=false:=by decide)
 (he:starEach (e::es) X.env=(false,eval e X.env)::starEach es X.env:=by rfl) (hpl:(backTo pos (starEach es X.env)).any (·.1)=false:=by rfl):PE X (.Call (.Name x p) (e::es) [] pos) (FI r t):=by
 intro pins s σ H Q I h;refine wpAny_Call_Name_kw (rH I hg hm hv ?_ hn gU);exact callWith_builtin1 (aF (ha pos pins s σ H _ I h) λus s1 ⟨vs,H1,I1,r1,q1⟩=>hc pins s1 σ H1 vs us Q I1 r1 q1) he hpl
theorem zK(hc:wX X (.type T) r)(hg:Gl X x)(hm:X.mg x=none)(hv:bootBuiltins x=some (.type T))(ha:PA X (e::es) t)(hn:x≠"__name__":=by decide)(gU:(x==("__debug__":Str))=false:=by decide)
 (he:starEach (e::es) X.env=(false,eval e X.env)::starEach es X.env:=by rfl) (hpl:(backTo pos (starEach es X.env)).any (·.1)=false:=by rfl):PE X (.Call (.Name x p) (e::es) [] pos) (FI r t):=by
 intro pins s σ H Q I h;refine wpAny_Call_Name_kw (rH I hg hm hv ?_ hn gU);exact callWith_type1 (aF (ha pos pins s σ H _ I h) λus s1 ⟨vs,H1,I1,r1,q1⟩=>hc pins s1 σ H1 vs us Q I1 r1 q1) he hpl
end
end L2
namespace HT
open PySem PyProof.Rows
def lexLt:List Int->List Int->Bool
 | [],[]=>false
 | [],_::_=>true
 | _::_,[]=>false
 | x::xs,y::ys=>if x=y then lexLt xs ys else decide (x<y)
theorem cg(x y:Int)(xs ys:List Int):lexLt (x::xs) (y::ys)=if x=y then lexLt xs ys else decide (x<y):=rfl
theorem fL:lexLt [] []=false:=rfl
theorem eU(y:Int)(ys:List Int):lexLt [] (y::ys)=true:=rfl
theorem eV(x:Int)(xs:List Int):lexLt (x::xs) []=false:=rfl
theorem oq(A:Around)(s:Shared)(a:Int)(t:Tok)(c:Int)(u:Tok)(prog:Program)(w:World)(E:Value->Shared->Prop)(Q:Value->Shared->Prop)(h:Q (.bool (decide (a<c))) s):
 wpAny (model prog w) A (richCompare .Lt (.int a t) (.int c u)) Q E s :=
 (PyProof.Rows.lt_int h:wpAny (model prog w) A (compareOp .Lt (.int a t) (.int c u)) Q E s)
section
open PySem.SeqAt
open PySem.AutoSeq1 (wpAny_loadPart')
open PySem.MeetsSeq PySem.MeetsSeq2 PySem.MeetsSeq3
end
section
variable {prog:Program}{w:World}{A:Around}{E:Value->Shared->Prop}{s:Shared}
def gf(n d:Nat):Option Int->Nat
 | none=>d
 | some v=>if v<0 then(v+(n:Int)).toNat else min v.toNat n
theorem gW(n d:Nat):gf n d none=d:=rfl
theorem eD(n d k:Nat):gf n d (some (k:Int))=min k n:=by
 show(if(k:Int)<0 then((k:Int)+(n:Int)).toNat else min (k:Int).toNat n)=min k n;rw[if_neg (by omega),Int.toNat_natCast]
end
end HT
namespace L2
open PySem PySem.Spec PyProof.Rows
abbrev TO:=St->Hp->(Option Int->Hp->Prop)->Prop
def PO(X:Cx)(e:Option Expr)(t:TO):Prop :=
 ∀(pins:List (Addr×Obj)) (s:Shared) (σ:St) (H:Hp) (Q:Option Int->Hp->Prop),Inv X pins σ H s->t σ H Q ->
  wpAny (model X.prog X.w) X.A (evalPart e X.env) (λu s'=>∃o H',Inv X pins σ H' s'/\IsPart u o/\Q o H') X.xe s
def sV:TO:=λ_ H Q=>Q none H
inductive ot (x:V) (H1:Hp) (Q:Option Int->Hp->Prop):Prop
 | mk (i:_):x=.int i->Q (some i) H1->ot x H1 Q
def CC(t:TE):TO:=λσ H Q=>t σ H λx H1=>ot x H1 Q
theorem Bl{ns:List Int}:∀{us:List Value},Vals (ns.map V.int) us->IntsAre us ns:=by
 induction ns with
 | nil=>intro us r;rw[map_nil]at r;cases r;exact .nil
 | cons n ns ih =>
   intro us r;rw[map_cons]at r;cases r with
   | cons r1 r2 =>
     obtain⟨t,e⟩:=r1;subst e;exact .cons n t (ih r2)
section
variable {X:Cx}{e:Expr}{te:TE}{lo hi:Option Expr}{tl th:TO}{pos p2:Pos}
theorem yb:PO X none sV:=by
 intro pins s σ H Q I h;rw[evalPart_none];exact wpAny_pure ⟨none,H,I,.none,h⟩
theorem zO(h:PE X e te):PO X (some e) (CC te):=by
 intro pins s σ H Q I hw;rw[evalPart_some];refine aF (h pins s σ H _ I hw) λu s1 ⟨x,H1,I1,r1,q1⟩=>?_;obtain⟨i,rfl,q⟩:=q1;obtain⟨t,rfl⟩:=r1;exact⟨some i,H1,I1,.int i t,q⟩
def JG(X:Cx)(r:V->Option Int->Option Int->Hp->VK->Prop):Prop :=
 ∀(pins:List (Addr×Obj)) (s:Shared) (σ:St) (H:Hp) (x:V) (v vl vu:Value) (lo hi:Option Int) (sl:Addr) (Q:VK),Inv X pins σ H s->RelV x v->s.heap.IsSliceOf sl vl vu .none->IsPart vl lo->IsPart vu hi->r x lo hi H Q ->
  ∃T id,typeLookup (.type T) "__getitem__"=pure (some (.builtin id))/\s.TypeIs v T/\wpAny (model X.prog X.w) X.A (getItem v (.ref sl)) (EP X pins σ Q) X.xe s
def Uk(r:V->Option Int->Option Int->Hp->VK->Prop)(te:TE)(tl th:TO):TE:=λσ H Q=>te σ H λx H1=>tl σ H1 λl H2=>th σ H2 λu H3=>r x l u H3 Q
theorem zG{r:V->Option Int->Option Int->Hp->VK->Prop}(hr:JG X r)(he:PE X e te)(hl:PO X lo tl)(hu:PO X hi th):PE X (.Subscript e (.Slice lo hi none p2) pos) (Uk r te tl th):=by
 intro pins s σ H Q I h;refine Subscript_ (aF (he pins s σ H _ I h) λv s1 ⟨x,H1,I1,r1,q1⟩=>?_);refine wpAny_Slice (aF (hl pins s1 σ H1 _ I1 q1) λvl s2 ⟨l,H2,I2,pl,q2⟩=>aF (hu pins s2 σ H2 _ I2 q2) λvu s3 ⟨u,H3,I3,pu,q3⟩=>?_);rw[evalPart_none];refine wpAny_pure ?_;have I4:Inv X pins σ H3 { s3 with heap:=s3.heap.push { cls:=.type "slice",data:=.fields #[vl,vu,.none] } }:=I3.kept (t':=s3.toks) λb ob q=>get?_push_of_some _ q;obtain⟨T,id,hT,ht,hg⟩:=hr pins { s3 with heap:=s3.heap.push { cls:=.type "slice",data:=.fields #[vl,vu,.none] } } σ H3 x v vl vu l u s3.heap.objs.size Q I4 r1 (Heap.IsSliceOf.new ..) pl pu q3;show wpAny (model X.prog X.w) X.A (subscriptTail e (.Slice lo hi none p2) v (.ref s3.heap.objs.size)) (EP X pins σ Q) X.xe { s3 with heap:=s3.heap.push { cls:=.type "slice",data:=.fields #[vl,vu,.none] } };exact tail_any (ops:=[.ref s3.heap.objs.size,v]) ht hT hg (by with_unfolding_all rfl)
def kP(xs:List V)(lo hi:Option Int):List V:=(xs.drop (HT.gf xs.length 0 lo)).take (HT.gf xs.length xs.length hi-HT.gf xs.length 0 lo)
theorem Ul(xs:List V)(lo hi:Option Int):(kP xs lo hi).length<=xs.length:=by
 unfold kP;rw[length_take,length_drop];omega
end
def rL(n:Nat)(i:Int):Option Nat:=if 0<=i then(if i<n then some i.toNat else none)else if -(n:Int)<=i then some (i+n).toNat else none
def cH{α:Type}(xs:List α)(i:Int):Option α:=(rL xs.length i).bind λj=>xs[j]?
theorem jJ{n:Nat}{i:Int}{j:Nat}(h:rL n i=some j):seqIndex? i n=some j/\j<n /\ -(n:Int)<=i/\i<n:=by
 unfold rL at h;by_cases h0:0<=i
 ·rw[if_pos h0]at h;by_cases h1:i<n
  ·rw[if_pos h1]at h;have e:i.toNat=j:=Option.some.inj h;exact⟨by rw[seqIndex_of h0 h1,e],by omega,by omega,h1⟩
  ·rw[if_neg h1]at h;cases h
 ·rw[if_neg h0]at h;by_cases h1 : -(n:Int)<=i
  ·rw[if_pos h1]at h;have e:(i+n).toNat=j:=Option.some.inj h;exact⟨by rw[seqIndex_neg (by omega) h1,e],by omega,h1,by omega⟩
  ·rw[if_neg h1]at h;cases h
variable {α:Type}
theorem JH{xs:List α}{i:Int}{v:α}(h:cH xs i=some v):∃j,seqIndex? i xs.length=some j/\xs[j]? = some v/\j<xs.length /\ -(xs.length:Int)<=i/\i<xs.length:=by
 unfold cH at h;cases e:rL xs.length i with
 | none=>rw[e]at h;cases h
 | some j =>
   rw[e]at h;obtain⟨h1,h2,h3,h4⟩:=jJ e;exact⟨j,h1,h,h2,h3,h4⟩
theorem zC{xs:List α}{j:Nat}{v:α}(h:xs[j]? = some v):cH xs (j:Int)=some v:=by
 have hj:j<xs.length:=(List.getElem?_eq_some_iff.mp h).1;have e:rL xs.length (j:Int)=some j:=by
  unfold rL;rw[if_pos (by omega),if_pos (by omega)];simp
 unfold cH;rw[e];exact h
def sW(b:Expr):Prop:=∀o i,subscripted b false o i=operate [o,i] (getItem o i)
def CD(X:Cx)(r:R2):Prop :=
 ∀(value slice:Expr)(pins:List (Addr×Obj)) (s:Shared) (σ:St) (H:Hp) (x y:V) (v u:Value) (Q:VK),Inv X pins σ H s->RelV x v->RelV y u->r x y H Q ->
  subscripted slice false v u=operate [v,u] (getItem v u)->wpAny (model X.prog X.w) X.A (subscriptTail value slice v u) (EP X pins σ Q) X.xe s
def JI(X:Cx)(id:String)(r:V->List V->Hp->VK->Prop):Prop :=
 ∀(pins:List (Addr×Obj)) (s:Shared) (σ:St) (H:Hp) (x:V) (xs:List V) (v:Value) (us:List Value) (Q:VK),Inv X pins σ H s->RelV x v->Vals xs us->r x xs H Q ->
  wpAny (model X.prog X.w) X.A (call (.builtin id) (v::us)) (EP X pins σ Q) X.xe s
section
variable {X:Cx}{a b:Expr}{ta tb:TE}{pos:Pos}
theorem zu{r:R2}(hr:CD X r)(ha:PE X a ta)(hb:PE X b tb)(hs:sW b):PE X (.Subscript a b pos) (FD r ta tb):=by
 intro pins s σ H Q I h;exact Subscript_ (xG ha hb I h λv u s2 x y H2 I2 rx ry q=>hr a b pins s2 σ H2 x y v u Q I2 rx ry q (hs _ _))
inductive vd (K:Frag) (x y:V) (H:Hp) (Q:VK):Prop
 | mk (p:_) (xs:_) (i:_) (v:_):x=.ref p->y=.int i->ag K H p xs->cH xs i=some v->Q v H->vd K x y H Q
def CF(K:Frag):R2:=λx y H Q=>vd K x y H Q
inductive ve (K:Frag) (x y:V) (H:Hp) (Q:VK):Prop
 | mk (p:_) (xs:_) (i:_) (v:_):x=.ref p->y=.int i->bN K H p xs->cH xs i=some v->Q v H->ve K x y H Q
def JJ(K:Frag):R2:=λx y H Q=>ve K x y H Q
def JK:R2:=λx y H Q=>∃z i c,x=.str z/\y=.int i/\z.length<=sizeLine/\cH z.cps.toList i=some c/\Q (.str ⟨#[c]⟩) H
theorem zq:CD X (CF X.K):=by
 intro value slice pins s σ H x y v u Q I rx ry h hs;obtain⟨p,xs,i,z,rfl,rfl,hq,he,q⟩:=h;cases rx;obtain⟨t,rfl⟩:=ry;obtain⟨au,r,pl,hz⟩:=I.list hq;obtain⟨j,h1,h2,h3,h4,h5⟩:=JH he;obtain⟨w,ew,kQ⟩:=r.get h2;have hl:=r.length;have hn:=Bk;have fin:EP X pins σ Q w s:=⟨z,H,I,kQ,q⟩;by_cases h0:0<=i
 ·have hj:i.toNat=j:=by
   rw[seqIndex_of h0 h5]at h1;exact Option.some.inj h1
  exact item_listR pl.isList h0 (by omega) (by rw[hj];simpa using ew) fin hs
 ·have hj:(i+(au.toArray.size:Int)).toNat=j:=by
   rw[seqIndex_neg (by omega) h4]at h1;rw[size_toArray,<-hl];exact Option.some.inj h1
  exact subscriptTail_builtinR (x:=w) pl.isList.typeIs slot_list_getitem.lookup
   (wpAny_getItem_list_neg (Q:=λr s'=>r=w/\EP X pins σ Q r s') pl.isList (by omega) (by rw[size_toArray] <;> omega) (by omega) (by rw[hj];simpa using ew) ⟨rfl,fin⟩) hs
theorem yz:CD X (JJ X.K):=by
 intro value slice pins s σ H x y v u Q I rx ry h hs;obtain⟨p,xs,i,z,rfl,rfl,hq,he,q⟩:=h;cases rx;obtain⟨t,rfl⟩:=ry;obtain⟨au,r,pl,hz⟩:=I.tuple hq;obtain⟨j,h1,h2,h3,h4,h5⟩:=JH he;obtain⟨w,ew,kQ⟩:=r.get h2;have hl:=r.length;have hn:=Bk;have fin:EP X pins σ Q w s:=⟨z,H,I,kQ,q⟩;exact subscriptTail_builtinR (x:=w) pl.typeIs slot_tuple_getitem.lookup
  (getItem_tuple (j:=j) (Q:=λr s'=>r=w/\EP X pins σ Q r s') pl (by omega) (by omega) (by rw[size_toArray,<-hl];exact h1) (by simpa using ew) ⟨rfl,fin⟩) hs
theorem xO:CD X JK:=by
 intro value slice pins s σ H x y v u Q I rx ry h hs;obtain⟨z,i,c,rfl,rfl,hz,he,q⟩:=h;obtain⟨t,rfl⟩:=rx;obtain⟨t',rfl⟩:=ry;obtain⟨j,h1,h2,h3,h4,h5⟩:=JH he;have hl:z.cps.toList.length=z.length:=by simp[Str.length]
 rw[hl]at h1 h4 h5;have hn:=Bk;exact tail_any (typeIs_str s z t) slot_str_getitem.lookup (getItem_str (c:=c) (by
  have e1:decide (i < -(2 ^ 63:Int))=false:=decide_eq_false (by omega);have e2:decide (i >= 2 ^ 63)=false:=decide_eq_false (by omega);rw[e1,e2,Bool.or_false]) (by rw[h1];simpa using h2) ⟨.str ⟨#[c]⟩,H,I.tok _,⟨_,rfl⟩,q⟩) hs
theorem iP(au:List Value)(n j:Nat)(u:Value):Obj.mapSeq (·.setIfInBounds j u) { cls:=.type "list",data:=.seq au.toArray n }={ cls:=.type "list",data:=.seq (au.set j u).toArray n }:=by
 simp[Obj.mapSeq]
variable {pins:List (Addr×Obj)}{s:Shared}
theorem Inv.lst{σ:St}{H:Hp}{p:Addr}{xs:List V}(I:Inv X pins σ H s)(h:H p=some (.lst xs)):
 ∃(au:List Value)(n:Nat),Vals xs au/\s.heap.get? p=some { cls:=.type "list",data:=.seq au.toArray n }/\xs.length<=sizeLine:=by
 obtain⟨z,au,n,r,e⟩:=I.aC p _ h;exact⟨au,n,r,e,z⟩
theorem Inv.xP{σ:St}{H:Hp}{p:Addr}{xs ys:List V}{au its':List Value}{n n':Nat}{f:Obj->Obj}(I:Inv X pins σ H s)(h:H p=some (.lst xs))
 (ho:s.heap.get? p=some { cls:=.type "list",data:=.seq au.toArray n }) (hf:f { cls:=.type "list",data:=.seq au.toArray n }={ cls:=.type "list",data:=.seq its'.toArray n' }) (r:Vals ys its') (hz:ys.length<=sizeLine) (t:Nat) :
 Inv X pins σ (upd H p (.lst ys)) { s with heap:=s.heap.update p f,toks:=t }:=by
 have e:(s.heap.update p f).get? p=some { cls:=.type "list",data:=.seq its'.toArray n' }:=by
  rw[Heap.get?_update_self f ho (by rw[hf] <;> rfl),hf]
 refine I.write (x:=p) (e:=p) (by rw[h];trivial) (.inl rfl) (λb u hb q=>(get?_update_other _ _ (Ne.symm hb)).trans q) ⟨_,e⟩ ?_;exact⟨hz,its',n',r,e⟩
inductive ou (o i v:V) (H:Hp) (Q:Hp->Prop):Prop
 | mk (p:_) (xs:_) (k:_) (j:_):o=.ref p->i=.int k->H p=some (.lst xs)->rL xs.length k=some j->Q (upd H p (.lst (xs.set j v)))->ou o i v H Q
def CG:V->V->V->Hp->(Hp->Prop)->Prop:=λo i v H Q=>ou o i v H Q
theorem JL:Cm X CG:=by
 intro pins s σ H o i v ov iv u Q I ro ri rv h;obtain⟨p,xs,k,j,rfl,rfl,hp,hj,q⟩:=h;cases ro;obtain⟨t,rfl⟩:=ri;obtain⟨au,n,r,ho,hz⟩:=I.lst hp;obtain⟨h1,h2,h3,h4⟩:=jJ hj;have hl:=r.length;have hn:=Bk;have I':Inv X pins σ (upd H p (.lst (xs.set j v))) { s with heap:=s.heap.update p (Obj.mapSeq (·.setIfInBounds j u)) } :=
  I.xP hp ho (iP au n j u) (r.set rv j) (by rw[List.length_set];exact hz) s.toks
 by_cases h0:0<=k
 ·have hk:k.toNat=j:=by
   rw[seqIndex_of h0 h4]at h1;exact Option.some.inj h1
  exact PySem.W.ki_setAt ho h0 (by omega) (by rw[size_toArray,<-hl];exact h4) (by rw[hk];exact⟨_,I',q⟩)
 ·have hk:(k+(au.toArray.size:Int)).toNat=j:=by
   rw[seqIndex_neg (by omega) h3]at h1;rw[size_toArray,<-hl];exact Option.some.inj h1
  exact PySem.W.ki_setBack ho (by omega) (by rw[size_toArray,<-hl];exact h3) (by omega) (by rw[hk];exact⟨_,I',q⟩)
theorem Um(lo hi:Option Int)(n:Nat):(sliceBounds lo hi none n).1=((HT.gf n 0 lo:Nat):Int)/\(sliceBounds lo hi none n).2.1=((HT.gf n n hi:Nat):Int)/\(sliceBounds lo hi none n).2.2=1:=by
 refine⟨?_,?_,rfl⟩
 ·cases lo with
  | none=>simp[sliceBounds,HT.gf]
  | some i =>
    simp only[sliceBounds,HT.gf,Option.getD_none,show(1:Int) > 0 by decide,if_true];by_cases h:i<0
    ·simp only[h,if_true] <;> omega
    ·simp only[h,if_false] <;> omega
 ·cases hi with
  | none=>simp[sliceBounds,HT.gf]
  | some i =>
    simp only[sliceBounds,HT.gf,Option.getD_none,show(1:Int) > 0 by decide,if_true];by_cases h:i<0
    ·simp only[h,if_true] <;> omega
    ·simp only[h,if_false] <;> omega
theorem Uo(au:List Value)(lo hi:Option Int):slicePick au.toArray lo hi none=((au.drop (HT.gf au.length 0 lo)).take (HT.gf au.length au.length hi-HT.gf au.length 0 lo)).toArray:=by
 obtain⟨h1,h2,h3⟩:=Um lo hi au.toArray.size;unfold slicePick;rw[h1,h2,h3];simp only[sliceRange_one,pick_run,size_toArray] <;> rfl
inductive vf (K:Frag) (x:V) (lo hi:Option Int) (H:Hp) (Q:VK):Prop
 | mk (a:_) (xs:_):x=.ref a->ag K H a xs->(∀p,H p=none->Q (.ref p) (upd H p (.lst (kP xs lo hi))))->vf K x lo hi H Q
def JM(K:Frag):V->Option Int->Option Int->Hp->VK->Prop:=λx lo hi H Q=>vf K x lo hi H Q
theorem zX:JG X (JM X.K):=by
 intro pins s σ H x v vl vu lo hi sl Q I rx hs pl pu h;obtain⟨a,xs,rfl,hx,q⟩:=h;cases rx;obtain⟨au,r,ht,hz⟩:=I.list hx;have hlen:=r.length;refine⟨"list",_,slot_list_getitem.lookup,ht.isList.typeIs,?_⟩;refine wpAny_getItem_list_slice ht.isList hs pl pu .none (by simp) ?_ (by rw[size_toArray] <;> omega);rw[Uo,<-hlen];refine⟨.ref s.heap.objs.size,_,I.laid (t':=s.toks) (o:=.lst (kP xs lo hi)) (λb ob q=>get?_push_of_some _ q) (le_refl _) ?_,rfl,q _ (I.aC.fresh (le_refl _))⟩;exact⟨le_trans (Ul xs lo hi) hz,_,0,(r.drop (HT.gf xs.length 0 lo)).take (HT.gf xs.length xs.length hi-HT.gf xs.length 0 lo),get?_push_size _ rfl⟩
def wO:V->Bool
 | .bo=>true
 | .bl _=>true
 | .int _=>true
 | .str _=>true
 | _=>false
def gh:V->V->Bool
 | .bo,.bo=>true
 | .bl a,.bl b=>a==b
 | .bl a,.int b=>(if a then 1 else 0)==b
 | .int a,.bl b=>a==(if b then 1 else 0)
 | .int a,.int b=>a==b
 | .str a,.str b=>a==b
 | _,_=>false
variable {x:V}{v:Value}
theorem ow{A:Around}{y:V}{u:Value}(ry:RelV y u)(rx:RelV x v)(fy:wO y=true)(fx:wO x=true):SeqAt.EqAt A s u v (gh y x):=by
 cases y with
 | bo =>
   cases ry;cases x with
   | bo=>cases rx;exact SeqAt.EqAt.same _
   | bl b=>cases rx;exact SeqAt.EqAt.none_bool b
   | int b=>obtain⟨t,rfl⟩:=rx;exact SeqAt.EqAt.none_int b t
   | str b=>obtain⟨t,rfl⟩:=rx;exact SeqAt.EqAt.none_str b t
   | _=>exact absurd (show false=true from fx) Bool.false_ne_true
 | bl a =>
   cases ry;cases x with
   | bo=>cases rx;exact SeqAt.EqAt.bool_none a
   | bl b=>cases rx;exact SeqAt.EqAt.bool_bool a b
   | int b=>obtain⟨t,rfl⟩:=rx;exact SeqAt.EqAt.bool_int a b t
   | str b=>obtain⟨t,rfl⟩:=rx;exact SeqAt.EqAt.bool_str a b t
   | _=>exact absurd (show false=true from fx) Bool.false_ne_true
 | int a =>
   obtain⟨t',rfl⟩:=ry;cases x with
   | bo=>cases rx;exact SeqAt.EqAt.int_none a t'
   | bl b=>cases rx;exact SeqAt.EqAt.int_bool a t' b
   | int b=>obtain⟨t,rfl⟩:=rx;exact SeqAt.EqAt.int_int a t' b t
   | str b=>obtain⟨t,rfl⟩:=rx;exact SeqAt.EqAt.int_str a t' b t
   | _=>exact absurd (show false=true from fx) Bool.false_ne_true
 | str a =>
   obtain⟨t',rfl⟩:=ry;cases x with
   | bo=>cases rx;exact SeqAt.EqAt.str_none a t'
   | bl b=>cases rx;exact SeqAt.EqAt.str_bool a t' b
   | int b=>obtain⟨t,rfl⟩:=rx;exact SeqAt.EqAt.str_int a t' b t
   | str b=>obtain⟨t,rfl⟩:=rx;exact SeqAt.EqAt.str_str a t' b t
   | _=>exact absurd (show false=true from fx) Bool.false_ne_true
 | _=>exact absurd (show false=true from fy) Bool.false_ne_true
def iy(x:V)(u:Value):Bool:=match u with
 | .none=>gh .bo x
 | .bool b=>gh (.bl b) x
 | .int i _=>gh (.int i) x
 | .str z _=>gh (.str z) x
 | _=>false
theorem FJ{y:V}{u:Value}(r:RelV y u)(f:wO y=true):iy x u=gh y x:=by
 cases y with
 | bo=>cases r;rfl
 | bl b=>cases r;rfl
 | int i=>obtain⟨t,rfl⟩:=r;rfl
 | str z=>obtain⟨t,rfl⟩:=r;rfl
 | _=>exact absurd (show false=true from f) Bool.false_ne_true
theorem JN:∀{xs:List V}{us:List Value},Vals xs us->xs.all wO=true->us.any (iy x)=xs.any λy=>gh y x
 | _,_,.nil,_=>rfl
 | y::xs,u::us,.cons r t,f=>by
   rw[all_cons,Bool.and_eq_true]at f;rw[any_cons,any_cons,FJ r f.1,JN t f.2]
theorem CH{A:Around}(rx:RelV x v)(fx:wO x=true):∀{xs:List V}{us:List Value},Vals xs us->xs.all wO=true->∀u∈us,SeqAt.EqAt A s u v (iy x u)
 | _,_,.nil,_=>λu hu=>by cases hu
 | y::xs,u::us,.cons r t,f=>λu' hu=>by
   rw[all_cons,Bool.and_eq_true]at f;rcases List.mem_cons.mp hu with rfl | hu
   ·rw[FJ r f.1];exact ow r rx f.1 fx
   ·exact CH rx fx t f.2 u' hu
def vg(x:V)(xs:List V):Bool:=xs.any λy=>gh y x
inductive CI (K:Frag) (neg:Bool) (x y:V) (H:Hp) (Q:VK):Prop
 | mk (p:_) (xs:_):y=.ref p->((ag K H p xs\/bN K H p xs))->wO x=true->xs.all wO=true->(Q (.bl (if neg then !vg x xs else vg x xs)) H)->CI K neg x y H Q
def Up(K:Frag)(neg:Bool):R2:=λx y H Q=>CI K neg x y H Q
theorem FK:cV X (compareOp .NotIn) (Up X.K true):=by
 intro pins s σ H x y v u Q I rx ry h;obtain⟨p,xs,rfl,hq,fx,fs,q⟩:=h;cases ry;rcases hq with hq | hq
 ·obtain⟨au,r,pl,hz⟩:=I.list hq;refine SeqAt.notIn_listAt (iy x) pl.isList (λw hw=>CH rx fx r fs w (by simpa using hw)) ⟨.bl _,H,I,rfl,?_⟩;rw[show au.toArray.any (iy x)=au.any (iy x)by simp,JN r fs];exact q
 ·obtain⟨au,r,pl,hz⟩:=I.tuple hq;refine SeqAt.notIn_tupleAt (iy x) pl (λw hw=>CH rx fx r fs w (by simpa using hw)) ⟨.bl _,H,I,rfl,?_⟩;rw[show au.toArray.any (iy x)=au.any (iy x)by simp,JN r fs];exact q
inductive bp (K:Frag) (xs:List V) (H:Hp) (Q:VK):Prop
 | mk (p:_) (ys:_):xs=[.ref p]->((ag K H p ys\/bN K H p ys))->Q (.int ys.length) H->bp K xs H Q
theorem PY:wX X (.builtin "len") (bp X.K):=by
 intro pins s σ H xs us Q I r h;obtain⟨p,ys,rfl,hq,q⟩:=h;obtain⟨u,rfl,rx⟩:=vals1 r;cases rx;have hn:=Bk;rcases hq with hq | hq
 ·obtain⟨au,r',pl,hz⟩:=I.list hq;have hlen:=r'.length;exact Calls.call_len_list pl.isList (by simp only[size_toArray] <;> omega) ⟨.int ys.length,H,I.tok _,⟨s.toks+1,by rw[size_toArray,hlen]⟩,q⟩
 ·obtain⟨au,r',pl,hz⟩:=I.tuple hq;have hlen:=r'.length;exact len_tuple pl (by simp only[size_toArray] <;> omega) ⟨.int ys.length,H,I.tok _,⟨s.toks+1,by rw[size_toArray,hlen]⟩,q⟩
inductive cZ (K:Frag) (xs:List V) (H:Hp) (Q:VK):Prop
 | mk (p:_) (ys:_):xs=[.ref p]->((ag K H p ys\/bN K H p ys))->(∀l,H l=none->Q (.ref l) (upd H l (.lst ys)))->cZ K xs H Q
theorem zM:wX X (.type "list") (cZ X.K):=by
 intro pins s σ H xs us Q I r h;obtain⟨p,ys,rfl,hq,q⟩:=h;obtain⟨u,rfl,rx⟩:=vals1 r;cases rx;have fin:∀(au:List Value),Vals ys au->ys.length<=sizeLine->∀(h':Heap)(c':Nat),(∀b o',s.heap.get? b=some o'->h'.get? b=some o') ->
  h'.get? s.heap.objs.size=some { cls:=.type "list",dict:=none,data:=.seq au.toArray c',slots := #[] }->EP X pins σ Q (.ref s.heap.objs.size) { s with heap:=h' }:=λau r' hz h' c' kp e =>
  ⟨.ref s.heap.objs.size,_,I.laid (t':=s.toks) kp (le_refl _) (show aX X.prog X.w _ h' _ (.lst ys)from⟨hz,au,c',r',e⟩),rfl,q _ (I.aC.fresh (le_refl _))⟩
 rcases hq with hq | hq
 ·obtain⟨au,r',pl,hz⟩:=I.list hq;have hlen:=r'.length;obtain⟨o,ho,hc,n,hd⟩:=pl.isList;exact call_list_seq p (.inl rfl) ho hc hd (λh' c' kp e=>fin au r' hz h' c' kp e) (by simp only[size_toArray] <;> omega)
 ·obtain⟨au,r',pl,hz⟩:=I.tuple hq;have hlen:=r'.length;obtain⟨o,ho,hc,n,hd⟩:=pl;exact call_list_seq p (.inr rfl) ho hc hd (λh' c' kp e=>fin au r' hz h' c' kp e) (by simp only[size_toArray] <;> omega)
def PZ(K:Frag)(T:String)(x:V)(H:Hp):Prop:=match x with
 | .str _=>T= "str"
 | .int _=>T= "int"
 | .ref p=>(T= "list"/\∃xs,ag K H p xs)\/(T= "tuple"/\∃o,K.lookup p=some o/\o.cls=.type "tuple"/\o.dict=none) \/
    (T= "dict"/\((∃aw,H p=some (.dK aw))\/∃aw,H p=some (.dT aw)))\/(T= "set"/\∃S n,H p=some (.set S n))
 | _=>False
theorem xQ{σ:St}{H:Hp}{T:String}(I:Inv X pins σ H s)(r:RelV x v)(ty:PZ X.K T x H):
 s.TypeIs v T/\∀a,v=.ref a->∃ob,s.heap.get? a=some ob/\ob.dict=none:=by
 cases x with
 | str z =>
   obtain⟨t,rfl⟩:=r;cases (show T= "str" from ty);exact⟨typeIs_str s z t,λ_ e=>nomatch e⟩
 | int i =>
   obtain⟨t,rfl⟩:=r;cases (show T= "int" from ty);exact⟨typeIs_int s i t,λ_ e=>nomatch e⟩
 | ref p =>
   cases r;rcases ty with⟨rfl,xs,hq⟩|⟨rfl,o,hk,hc,hd⟩|⟨rfl,hk⟩|⟨rfl,S,n,hk⟩
   ·obtain⟨au,_,pl,_⟩:=I.list hq;refine⟨pl.isList.typeIs,λa e=>?_⟩;cases e;obtain⟨o,n,e,c,hd,_⟩:=pl;exact⟨o,e,hd⟩
   ·refine⟨⟨o,I.gd p o hk,hc⟩,λa e=>?_⟩;cases e;exact⟨o,I.gd _ o hk,hd⟩
   ·have z:∃o,s.heap.get? p=some o/\o.ExactDict:=by
     rcases hk with⟨aw,hk⟩|⟨aw,hk⟩
     ·obtain⟨_,_,_,_,o,_,_,e,ex,_⟩:=I.aC p _ hk;exact⟨o,e,ex⟩
     ·obtain⟨_,_,_,_,o,_,_,e,ex,_⟩:=I.aC p _ hk;exact⟨o,e,ex⟩
    obtain⟨o,e,ex⟩:=z;refine⟨⟨o,e,ex.1⟩,λa e2=>?_⟩;cases e2;exact⟨o,e,ex.2.1⟩
   ·obtain⟨o,_,_,_,e,ex,_⟩:=I.aC p _ hk;refine⟨⟨o,e,ex.1⟩,λa e2=>?_⟩;cases e2;exact⟨o,e,ex.2.1⟩
 | _=>exact False.elim ty
def P0(K:Frag)(T:String)(r:V->List V->Hp->VK->Prop)(to:TE)(t:TA):TE:=λσ H Q=>to σ H λx H1=>PZ K T x H1/\t σ H1 λxs H2=>r x xs H2 Q
variable {o e:Expr}{es:List Expr}{to:TE}{t:TA}{name:Str}{apos bu:Pos}{T id:String}{r:V->List V->Hp->VK->Prop}
theorem wP(pa:PlainAttrs T)(slot:Slot T name id)(JO:typeOf (.builtin id)=pure (.type "method_descriptor"))(hm:JI X id r)(ho:PE X o to)(ha:PA X (e::es) t)
 (ox:attributeBase o name X.env (eval o X.env)=eval o X.env:=by rfl)
 (xR:((backTo bu (starEach (e::es) X.env)).all (λx => !x.1) && (backToKw bu (keywordEach [] X.env)).all (λx=>x.1.isSome)
   && decide ((e::es).length+([]:List Keyword).length+(if([]:List Keyword).isEmpty then 0 else 1)<30))=true:=by rfl)
 (oy:(apos.endLine==bu.line)=true:=by rfl) (hs:starEach (e::es) X.env=(false,eval e X.env)::starEach es X.env:=by rfl) (iQ:(backTo bu (starEach es X.env)).any (·.1)=false:=by rfl) :
 PE X (.Call (.Attribute o name apos) (e::es) [] bu) (P0 X.K T r to t):=by
 intro pins s σ H Q I h;refine wpAny_Call_method_late ox xR oy rfl (aF (ho pins s σ H _ I h) λv s1 ⟨x,H1,I1,r1,ty,q1⟩=>?_);obtain⟨h1,h2⟩:=xQ I1 r1 ty;refine⟨T,id,pa,slot,JO,h1,h2,?_⟩;have hA:=ha bu pins s1 σ H1 _ I1 q1;rw[hs]at hA ⊢;refine Calls.callWith_builtin (by show(false || (backTo bu (starEach es X.env)).any (·.1))=false;rw[iQ] <;> rfl) (Calls.evalArgs_plain ?_);exact aF hA λus s2 ⟨vs,H2,I2,r2,q2⟩=>hm pins s2 σ H2 x vs v us Q I2 r1 r2 q2
end
def Bm(X:Cx)(id:String)(r:V->List V->Hp->VK->Prop):Prop :=
 ∀(pins:List (Addr×Obj)) (s:Shared) (σ:St) (H:Hp) (x:V) (xs:List V) (v:Value) (us:List Value) (Q:VK),Inv X pins σ H s->RelV x v->Vals xs us->r x xs H Q ->
  wpAny (model X.prog X.w) X.A (call (.builtin id) (v::us)) (EP X pins σ Q) X.xe s
theorem Vals.one:∀{x:V}{us:List Value},Vals [x] us->∃u,us=[u]/\RelV x u
 := by
 intro x us h;cases h with
 | cons r q=>cases q;exact⟨_,rfl,r⟩
theorem Vals.two:∀{x y:V}{us:List Value},Vals [x,y] us->∃u v,us=[u,v]/\RelV x u/\RelV y v
 := by
 intro x y us h;cases h with
 | cons r z=>cases z with
   | cons q z=>cases z;exact⟨_,_,rfl,r,q⟩
theorem Vals.eraseIdx:∀{xs:List V}{us:List Value}(i:Nat),Vals xs us->Vals (xs.eraseIdx i) (us.eraseIdx i)
 | _,_,_,.nil=>.nil
 | _,_,0,.cons _ t=>t
 | _,_,i+1,.cons r t=>.cons r (Vals.eraseIdx i t)
theorem Vals.reverse{xs:List V}{us:List Value}(h:Vals xs us):Vals xs.reverse us.reverse:=by
 induction h with
 | nil=>exact .nil
 | cons r t ih=>rw[List.reverse_cons,List.reverse_cons];exact Vals.append ih (.cons r .nil)
theorem JP:∀(l:List α)(i:Nat),(l.eraseIdx i).length<=l.length
 | [],_=>le_refl _
 | _::_,0=>le_succ _
 | _::r,i+1=>Nat.succ_le_succ (JP r i)
section
variable {X:Cx}{pins:List (Addr×Obj)}{σ:St}{H:Hp}{s:Shared}{l b:Addr}{xs ys zs:List V}
variable {au:List Value}
theorem Inv.xS{its':List Value}{n:Nat}{f:Array Value->Array Value}{t':Nat}(I:Inv X pins σ H s)(hH:H l=some (.lst xs))
 (e:s.heap.get? l=some { cls:=.type "list",data:=.seq au.toArray n }) (hf:f au.toArray=its'.toArray) (hv:Vals ys its') (hz:ys.length<=sizeLine) :
 Inv X pins σ (upd H l (.lst ys)) { s with heap:=s.heap.update l (Obj.mapSeq f),toks:=t' }:=by
 have q:=PySem.IsL.update e f;rw[hf]at q;refine I.write (x:=l) (e:=l) (by rw[hH];exact trivial) (.inl rfl) (λb' u hb hu=>(get?_update_other s.heap (Obj.mapSeq f) (Ne.symm hb)).trans hu) ⟨_,q⟩ ?_;exact⟨hz,its',_,hv,q⟩
theorem Inv.CJ{t':Nat}(I:Inv X pins σ H s)(hv:Vals ys au)(hz:ys.length<=sizeLine):
 Inv X pins σ (upd H s.heap.objs.size (.lst ys)) { s with heap:=s.heap.push { cls:=.type "list",data:=.seq au.toArray },toks:=t' } :=
 I.laid (λ_ _ q=>get?_push_of_some _ q) (le_refl _) ⟨hz,au,0,hv,get?_push_size _ rfl⟩
theorem Inv.fresh(I:Inv X pins σ H s):H s.heap.objs.size=none:=I.aC.fresh (le_refl _)
theorem Inv.oz(I:Inv X pins σ H s)(hH:H l=some (.lst xs)):xs.length<=sizeLine/\∃(au:List Value)(n:Nat),Vals xs au/\xs.length=au.length/\s.heap.get? l=some { cls:=.type "list",data:=.seq au.toArray n }:=by
 obtain⟨z,au,n,r,e⟩:=I.aC l _ hH;exact⟨z,au,n,r,r.length,e⟩
end
section
variable {X:Cx}
inductive gX (x:V) (vs:List V) (H:Hp) (Q:VK):Prop
 | mk (l:_) (xs:_) (y:_):x=.ref l->vs=[y]->H l=some (.lst xs)->xs.length<sizeLine->Q .bo (upd H l (.lst (xs++[y])))->gX x vs H Q
def sX:V->List V->Hp->VK->Prop:=λx vs H Q=>gX x vs H Q
theorem yO:Bm X "list.append" sX:=by
 intro pins s σ H x vs v us Q I rx rv h;obtain⟨l,xs,y,rfl,rfl,hH,hz,q⟩:=h;cases rx;obtain⟨u,rfl,ru⟩:=rv.one;obtain⟨z,au,n,r,hl,e⟩:=I.oz hH;refine call_meets F.slot_list_append ⟨_,e,rfl⟩ F.entry_list_append (F.args_list_append_2 _ _) (PySem.list_append l au.toArray n u (by rw[size_toArray];omega)) ⟨e,?_⟩;refine⟨.bo,_,I.xS (its':=au++[u]) hH e (by simp) (r.append (.cons ru .nil)) ?_,rfl,q⟩;rw[length_append,length_singleton];omega
def xT:V->List V->Hp->VK->Prop:=λx vs H Q=>∃l xs i k y,x=.ref l/\vs=[.int i]/\H l=some (.lst xs) /\ -(2 ^ 63)<=i/\i<2 ^ 63/\seqIndex? i xs.length=some k/\xs[k]? = some y/\Q y (upd H l (.lst (xs.eraseIdx k)))
theorem oA:Bm X "list.pop" xT:=by
 intro pins s σ H x vs v us Q I rx rv h;obtain⟨l,xs,i,k,y,rfl,rfl,hH,h1,h2,hk,hy,q⟩:=h;cases rx;obtain⟨u,rfl,ru⟩:=rv.one;obtain⟨t,rfl⟩:=ru;obtain⟨z,au,n,r,hl,e⟩:=I.oz hH;obtain⟨w,hw,kQ⟩:=r.get hy;refine call_meets F.slot_list_pop ⟨_,e,rfl⟩ F.entry_list_pop (F.args_list_pop_2 _ _)
  (MeetsSeq.list_pop_at l au.toArray n i t k w (fitsIndex_both h1 h2) (by rw[size_toArray,<-hl];exact hk) (by rw[<-Array.getElem?_toList];exact hw) (by rw[size_toArray];omega)) ⟨e,?_⟩
 refine⟨y,_,I.xS (its':=au.eraseIdx k) hH e ?_ (r.eraseIdx k) ?_,kQ,q⟩
 ·show au.toArray.eraseIdxIfInBounds k=(au.eraseIdx k).toArray;rw[List.eraseIdxIfInBounds_toArray]
 ·have:=JP xs k;omega
inductive vh (x y:V) (H:Hp) (Q:VK):Prop
 | mk (l:_) (b:_) (xs:_) (zs:_):x=.ref l->y=.ref b->H l=some (.lst xs)->H b=some (.lst zs)->xs.length+zs.length<=sizeLine->(∀p,H p=none->Q (.ref p) (upd H p (.lst (xs++zs))))->vh x y H Q
def JQ:R2:=λx y H Q=>vh x y H Q
theorem yg:cV X (binaryOp .Add) JQ:=by
 intro pins s σ H x y v u Q I rx ry h;obtain⟨l,b,xs,zs,rfl,rfl,hH,hB,hz,q⟩:=h;cases rx;cases ry;obtain⟨z,au,n,r,hl,e⟩:=I.oz hH;obtain⟨z2,dE,n2,r2,b8,e2⟩:=I.oz hB;refine PySem.P.add_list e e2 ?_ (by rw[size_toArray,size_toArray];omega);have ea:au.toArray++dE.toArray=(au++dE).toArray:=by simp
 rw[ea];exact⟨.ref _,_,I.CJ (t':=s.toks) (r.append r2) (by rw[length_append];omega),rfl,q _ I.fresh⟩
end
section
variable {prog:Program}{w:World}{A:Around}{E:Value->Shared->Prop}{s:Shared}
end
section
variable {X:Cx}
end
end L2
namespace Att
open PySem PySem.W PySem.Calls PyProof.Rows
theorem Uq{P:Params}{h:Heap}:∀(ns:List Int)(vs:List Value),WellAll P h vs (ns.map WData.int)->IntsAre vs ns:=by
 intro ns
 induction ns with
 | nil =>
   intro vs w;rw[map_nil]at w;cases w;exact .nil
 | cons n ns ih =>
   intro vs w;rw[map_cons]at w;cases w with
   | cons a b =>
     cases a;exact .cons _ _ (ih _ b)
theorem kR{l:OpenLaw}{n:Nat}(hn:l.most=some n){P:Params}{h:Heap}{args:List WData}{vals:List Value}
 (sY:l.row.toRowW.claim.pre args=true) (Bn:WellAll P h vals args) :
 ∃a vs ns,vals=[Value.ref a]/\args=[WData.list (ns.map WData.int)]/\h.get? a=some { cls:=.type "list",data:=.seq vs.toArray }/\IntsAre vs ns/\ns.length<=n:=by
 have Ur:WShape.hasAll [] args [.list .int]=true:=(pre_splitW sY).1;have hc:l.pre.holds [] { args:=args }=true:=(pre_splitW sY).2;obtain⟨d,r,rfl,h1,h2⟩:=hasAllW_cons Ur;obtain rfl:=hasAllW_nil h2;obtain⟨xs,rfl,h3⟩:=hasW_list h1;obtain⟨ns,rfl⟩:=items_int h3;have hlen:ns.length<=n:=by
  unfold OpenLaw.pre at hc;have h4:(WTm.not (.lt (.lit (.int (n:Int))) (.len (.arg 0)))).holds [] { args:=[.list (ns.map .int)] }=true:=by
   have h4:=(holds_andW hc).1;rw[hn]at h4;exact h4
  have h5:=condW_of h4 (w_not (w_lt w_lit (w_len_list (w_arg rfl))));rw[length_map]at h5;refine Nat.le_of_not_lt λq=>?_;have q':(n:Int)<((ns.length:Nat):Int):=by omega
  first
   | (rw[decide_eq_true q']at h5;exact absurd h5 (by decide))
   | (simp at h5;omega)
 cases Bn with
 | cons w1 w2 =>
   cases w2;cases w1 with
   | list ho kT=>exact⟨_,_,ns,rfl,rfl,ho,Uq ns _ kT,hlen⟩
theorem kU(l:OpenLaw)(args:List WData):l.row.toRowW.claim.post args (.bool true) args=true :=
 postW_of (r:=l.row.toRowW) (X:=(true==true))
  (show WShape.has [] (.bool true) .bool=true by first | rfl | decide | simp[WShape.has,WShape.arms,WShape.armsAll])
  (show(WTm.eq .res (.lit (.bool true))).value [] { args:=args,res:=some (.bool true),after:=args }=some (.bool (true==true))from w_eq_bool (w_res rfl) w_lit) rfl
theorem gY{l:OpenLaw}{n:Nat}{q:Program}{loose:List Str}{XP:(Str->Option Value)->Heap->Prop}{YP:World->Heap->Prop}{d:DefRec}
 (hn:l.most=some n) (CK:d.params.defaults=[])
 (call:∀(w:World)(s₀ s₁:Shared)(mg mb:Str->Option Value)(fa:Addr)(o:Obj)(pm cd doc:Value)(a:Addr)(vs:List Value)(ns:List Int),
   Ground q loose [] XP w s₀ mg mb s₁.heap->YP w s₁.heap ->
   s₁.heap.get? fa=some o->o.data=.func (docDef d.name d.params d.body d.scope pm cd doc)->s₁.heap.CodeRec cd d.name->mg d.name=some (.ref fa) ->
   s₁.heap.get? a=some { cls:=.type "list",data:=.seq vs.toArray }->IntsAre vs ns->ns.length<=n->s₁.gens = #[] ->
   codeAny (model l.prog w) callerA (.call (.ref fa) ⟨[.ref a],[]⟩) (λr s'=>r=.ok (.ret (.bool true))/\OldK s₁.heap s'.heap/\s'.os=s₁.os/\AllBare s'.gens) s₁) :
 WalkO q loose XP YP l.row.toRowW d [] (λf vs=>PySem.call f vs):=by
 intro w s₀ s₁ mg mb G Y fa o pm cd doc dV kV ho hd di hD hmg hg args vals as sY Us hrd Bn xU;obtain rfl:dV=.none:=Dflts.none hD CK;obtain rfl:kV=.none:=Dflts.noKw hD;obtain⟨a,vs,ns,rfl,rfl,xV,hints,hlen⟩:=kR hn sY Bn;refine enter_call (codeAny_mono (call w s₀ s₁ mg mb fa o pm cd doc a vs ns G Y ho (fd_plain hd) di hmg xV hints hlen hg) λr s' hq=>?_);obtain⟨rfl,h2,h3,h4⟩:=hq;exact⟨.inl ⟨.bool true,.bool true,[],rfl,λ_=>rfl,.bool true,kU l _,λ_=>⟨List.Pairwise.nil,λ_ hm=>(nomatch hm)⟩⟩,h2,h3,h4⟩
section
variable {prog:Program}{w:World}{A:Around}{E:Value->Shared->Prop}{s:Shared}{K:Frag}
def ledger(h:Heap)(L d:Addr):List (Addr×Obj):=(List.range h.objs.size).filterMap λa=>if a=L\/a=d then none else(h.get? a).map λo=>(a,o)
end
end Att
namespace L2
open PySem PySem.Spec PyProof.Rows
theorem P1:∀{vs:List Value}{ns:List Int},IntsAre vs ns->Vals (ns.map V.int) vs
 | _,_,.nil=>.nil
 | _,_,.cons n t h=>.cons ⟨t,rfl⟩ (P1 h)
end L2
namespace L2
open PySem PySem.Spec PyProof.Rows
def sZ(s:Stmt)(j:Nat):Stmt:=match s with
 | .ClassDef _ _ _ body _ _ _ _ _ _ _=>body.getD j (.Pass ⟨0,0,0,0⟩)
 | _ => .Pass ⟨0,0,0,0⟩
def oB(s:Stmt):Arguments:=match s with
 | .FunctionDef _ a _ _ _ _ _ _ _ _=>a
 | _=>{ posonlyargs:=[],args:=[],vararg:=none,kwonlyargs:=[],kw_defaults:=[],kwarg:=none,defaults:=[] }
def wu(s:Stmt):List Stmt:=match s with
 | .FunctionDef _ _ b _ _ _ _ _ _ _=>b
 | _=>[]
def zf(s:Stmt):Scope:=match s with
 | .FunctionDef _ _ _ _ _ _ sc _ _ _=>sc
 | _=>{ kind:=.function,names:=[],isGenerator:=false,isCoroutine:=false }
abbrev aQ:mR:=λ_ _ _ _ _ _=>False
abbrev E0:XK:=λ_ _ _=>False
variable {X:Cx}
theorem vi:FH aQ X E0:=λ_ _ _ _ _ _ _ h=>h.elim
structure aN (K:Frag) (x qual:Str) (st:Stmt) (f:Addr) (fd:FuncData):Prop where
 ex:∃(oc:Value)(od:Option Addr)(kV doc pm:Value)(an:Option Addr)(aE ct:Value)(gI:Array (Option Value)),
  fd=fnOf x qual (oB st) (wu st) (zf st) .none kV doc pm an aE ct/\K.lookup f=some ⟨oc,od,.func fd,gI⟩/\codeIn K aE qual=true
 kp:keepIn K (.ref f)=true
section
variable {P:Program}{w:World}{K:Frag}{mg:Str->Option Value}{base:Heap}
variable {x qual:Str}{st:Stmt}{f:Addr}{fd:FuncData}{ps:List Str}
theorem aN.ok{N:List Str}{k:Nat}{sp:Sp}(F:aN K x qual st f fd)(S:ah N ps (zf st))(len:∀vs H Q E,sp vs H Q E->vs.length=ps.length)
 (dn:∀(aE:Value)(A:Around)(outer:List Env)(s:Shared)(H:Hp)(vs:List V)(Q:VK)(E:XK),aU k (A.deeper (envOfC qual (zf st) s.heap.objs.size f aE))->sp vs H Q E ->
   ∃t,iu (eR aQ P w K mg base N qual (zf st) f aE A outer s H E).Bj (wu st) t/\t { nx:=λ_ H'=>Q .bo H',rt:=Q } (iw N vs) H):av P w K mg base aQ (k+1) f fd ps sp:=by
 obtain⟨oc,od,kV,doc,pm,an,aE,ct,gI,rfl,lk,di⟩:=F.ex;refine om lk di S len λA outer s H vs Q E hr fX=>?_;obtain⟨t,h,q⟩:=dn aE A outer s H vs Q E hr fX;exact⟨t,h.Bj,q⟩
theorem aN.binds(F:aN K x qual st f fd)
 (h:∀(kV doc pm:Value)(an:Option Addr)(aE ct:Value)(us:List Value),us.length=ps.length->bindArgs (fnOf x qual (oB st) (wu st) (zf st) .none kV doc pm an aE ct) ⟨us,[]⟩=pure (ps.zip us)):Binds K fd ps []:=by
 obtain⟨oc,od,kV,doc,pm,an,aE,ct,gI,rfl,lk,di⟩:=F.ex;exact .all (h kV doc pm an aE ct)
theorem Bo{oc:Value}{od an:Option Addr}{gI:Array (Option Value)}{kV doc pm aE ct:Value}(l:K.lookup f=some ⟨oc,od,.func (fnOf x qual (oB st) (wu st) (zf st) .none kV doc pm an aE ct),gI⟩)
 (c:codeIn K aE qual=true) (k:keepIn K (.ref f)=true):aN K x qual st f (fnOf x qual (oB st) (wu st) (zf st) .none kV doc pm an aE ct):=⟨⟨oc,od,kV,doc,pm,an,aE,ct,gI,rfl,l,c⟩,k⟩
end
variable {k:Nat}
theorem Bp{A:Around}(hr:aU k A):A.units+1<cLine:=Nat.lt_of_le_of_lt (Nat.add_le_add_left (by decide:1<=64) _) hr.units
section
variable {X:Cx}
theorem pv(i:Nat){x:Str}{pos:Pos}(hN:X.N[i]? = some x:=by rfl)(hv:Be X.env.scope x:=by first | exact Or.inl rfl | exact Or.inr (Or.inl rfl) | exact Or.inr (Or.inr rfl))(hd:(x==("__debug__":Str))=false:=by decide)
 (di:(x==("__classdict__":Str))=false:=by decide):PE X (.Name x pos) (Ce i):=nD hN hv hd di
end
variable {A B:Prop}
theorem yY(h:B):if false=true then A else B:=by
 rw[if_neg Bool.false_ne_true];exact h
theorem iR(h:A):if true=true then A else B:=by
 rw[if_pos rfl];exact h
theorem oC{c:Prop} [Decidable c](hc:c)(h:B):if(!decide c)=true then A else B:=by
 rw[decide_eq_true hc];exact yY h
def ae(H H':Hp):Prop:=∀b o,H b=some o->H' b=some o
theorem ae.refl(H:Hp):ae H H:=λ_ _ h=>h
variable {H:Hp}
theorem ae.trans{H1 H2:Hp}(a:ae H H1)(b:ae H1 H2):ae H H2:=λc o h=>b c o (a c o h)
variable {H':Hp}{l:Addr}
theorem ae.free(e:ae H H')(h:H' l=Option.none):H l=Option.none:=by
 cases q:H l with
 | none=>rfl
 | some o =>
   rw[e l o q]at h;cases h
variable {K:Frag}{a:Addr}{xs:List V}
theorem ae.seq(e:ae H H')(h:ag K H a xs):ag K H' a xs:=by
 rcases h with(h | ⟨o,h⟩) | h
 ·exact .inl (.inl (e _ _ h))
 ·exact .inl (.inr ⟨o,e _ _ h⟩)
 ·exact .inr h
theorem JR{env:Env}:∀(l:List (Str×NameKind)) (acc:List (Str×Addr)),(∀y∈l,y.2=.free->∃c,env.cells.lookup y.1=some c)->(∀y c,acc.lookup y=some c->env.cells.lookup y=some c) ->
 ∃cl,(forIn l acc fun(x:Str×NameKind) (r:List (Str×Addr))=>if(x.2==NameKind.free)=true then(do let a <-cellOf env x.1;pure (ForInStep.yield ((x.1,a)::r)))else(pure (ForInStep.yield r):Sem (ForInStep (List (Str×Addr)))))=(pure cl:Sem (List (Str×Addr))) /\
  (∀y c,cl.lookup y=some c->env.cells.lookup y=some c)/\(∀y,((y,NameKind.free)∈l\/(acc.lookup y).isSome=true)->∃c,cl.lookup y=some c)
 | [],acc,_,ha=>⟨acc,rfl,ha,λy h=>by
    rcases h with h | h
    ·cases h
    ·exact Option.isSome_iff_exists.mp h⟩
 | (n,k)::r,acc,h,ha=>by
   by_cases hk:k=.free
   ·subst hk;obtain⟨c,hc⟩:=h (n,.free) mem_cons_self rfl;obtain⟨cl,e,h1,h2⟩:=JR r ((n,c)::acc) (λy hy=>h y (mem_cons_of_mem _ hy)) (λy d hd=>by
     rw[lookup_cons]at hd;by_cases hy:y=n
     ·subst hy;simp at hd;subst hd;exact hc
     ·rw[beq_eq_false_iff_ne.mpr hy]at hd;exact ha y d hd)
    refine⟨cl,?_,h1,λy hy=>h2 y ?_⟩
    ·rw[forIn_cons];have:cellOf env n=pure c:=by unfold cellOf;rw[hc]
     simp only[this];exact e
    ·rcases hy with hy | hy
     ·rcases List.mem_cons.mp hy with z | z
      ·have:y=n:=by injection z
       right;simp[lookup_cons,this]
      ·exact .inl z
     ·right;rw[lookup_cons];split
      ·rfl
      ·exact hy
   ·obtain⟨cl,e,h1,h2⟩:=JR r acc (λy hy=>h y (mem_cons_of_mem _ hy)) ha;refine⟨cl,?_,h1,λy hy=>h2 y ?_⟩
    ·rw[forIn_cons];have hb:(k==NameKind.free)=false:=by simpa using hk
     simp only[hb];exact e
    ·rcases hy with hy | hy
     ·rcases List.mem_cons.mp hy with z | z
      ·injection z with _ z2;exact absurd z2.symm hk
      ·exact .inl z
     ·exact .inr hy
variable {env:Env}{scope:Scope}
theorem CL(h:∀y∈scope.names,y.2=.free->∃c,env.cells.lookup y.1=some c):
 ∃cl,closureFor scope env=pure cl/\(∀y c,cl.lookup y=some c->env.cells.lookup y=some c)/\∀y,(y,NameKind.free)∈scope.names->∃c,cl.lookup y=some c:=by
 obtain⟨cl,e,h1,h2⟩:=JR scope.names [] h (λy c z=>by cases z);refine⟨cl,?_,h1,λy hy=>h2 y (.inl hy)⟩;unfold closureFor;exact(congrArg (fun(m:Sem (List (Str×Addr)))=>m >>= λr=>pure r) e).trans rfl
theorem JS{f:Str×NameKind->Str×NameKind}(h1:∀p,(f p).1=p.1):∀{names:List (Str×NameKind)} {y:Str} {k:NameKind},(names.map f).lookup y=some k->∃k0,(y,k0)∈names/\(f (y,k0)).2=k
 | [],_,_,h=>by cases h
 | p::r,y,k,h=>by
   rw[map_cons]at h;generalize hq:f p=q at h;obtain⟨q1,q2⟩:=q;rw[lookup_cons]at h;have e1:q1=p.1:=by have:=h1 p;rw[hq]at this;exact this
   by_cases hy:y=q1
   ·have hb:(y==q1)=true:=by simp[hy]
    rw[hb]at h;have h':q2=k:=Option.some.inj h;refine⟨p.2,?_,?_⟩
    ·rw[hy,e1];exact mem_cons_self
    ·rw[hy,e1];have:f (p.1,p.2)=(q1,q2):=hq;rw[this];exact h'
   ·rw[beq_eq_false_iff_ne.mpr hy]at h;obtain⟨k0,m,e⟩:=JS h1 (names:=r) h;exact⟨k0,mem_cons_of_mem _ m,e⟩
theorem FL{f:Str×NameKind->Str×NameKind}(h1:∀p,(f p).1=p.1):∀{names:List (Str×NameKind)} {y:Str} {k:NameKind},names.lookup y=some k->(names.map f).lookup y=some (f (y,k)).2
 | [],_,_,h=>by cases h
 | p::r,y,k,h=>by
   rw[map_cons];obtain⟨p1,p2⟩:=p;have e1:=h1 (p1,p2);generalize hq:f (p1,p2)=q at e1 ⊢;obtain⟨q1,q2⟩:=q;have e1:q1=p1:=e1;subst e1;rw[lookup_cons]at h ⊢;by_cases hy:y=q1
   ·have hb:(y==q1)=true:=by simp[hy]
    rw[hb]at h ⊢;have h':p2=k:=Option.some.inj h;subst h';subst hy;show some q2=_;rw[hq]
   ·rw[beq_eq_false_iff_ne.mpr hy]at h ⊢;exact FL h1 h
def rl(env:Env)(p:Str×NameKind):Str×NameKind:=if(p.2==NameKind.free && env.scope.kind == .function && env.kindOf p.1==some .cell)then(p.1,NameKind.cell)else(p.1,p.2)
theorem CM(env:Env)(p:Str×NameKind):(rl env p).1=p.1:=by unfold rl;split <;> rfl
theorem tf(env:Env)(y:Str):(rl env (y,.free)).2=.cell\/(rl env (y,.free)).2=.free:=by
 unfold rl;split
 ·exact .inl rfl
 ·exact .inr rfl
theorem FN(env:Env)(y:Str)(k:NameKind)(h:k ≠ .free):(rl env (y,k)).2=k:=by
 unfold rl;have hb:(k==NameKind.free)=false:=by simpa using h
 simp[hb]
theorem wV(scope:Scope)(env:Env):(relabel scope env).names=scope.names.map (rl env):=rfl
variable {y:Str}
theorem P2(hc:∀z∈scope.names,z.2 ≠ .cell)(h:(relabel scope env).names.lookup y=some .cell\/(relabel scope env).names.lookup y=some .free):(y,NameKind.free)∈scope.names:=by
 rw[wV]at h;have go:∀k,(k=.cell\/k=.free)->(scope.names.map (rl env)).lookup y=some k->(y,NameKind.free)∈scope.names:=λk hk q=>by
  obtain⟨k0,m,e⟩:=JS (CM env) q;by_cases hf:k0=.free
  ·rw[hf]at m;exact m
  ·rw[FN env y k0 hf]at e;rcases hk with z | z
   ·exact absurd (e.trans z) (hc _ m)
   ·exact absurd (e.trans z) hf
 rcases h with h | h
 ·exact go _ (.inl rfl) h
 ·exact go _ (.inr rfl) h
theorem FO(h:scope.names.lookup y=some .free):(relabel scope env).names.lookup y=some .cell\/(relabel scope env).names.lookup y=some .free:=by
 rw[wV,FL (CM env) h];rcases tf env y with z | z
 ·exact .inl (congrArg some z)
 ·exact .inr (congrArg some z)
def bC(X:Cx)(N:List Str)(scope:Scope)(cl:List (Str×Addr))(C:Addr)(s2:Shared)(H2:Hp)(fp:List Addr):Cx where
 prog:=X.prog
 w:=X.w
 K:=X.K
 mg:=X.mg
 base:=X.base
 A:=X.A
 N:=N
 s₀:=s2
 H₀:=H2
 env:=compEnvC scope cl C X.env
 outer:=X.stack
 stack:=X.stack
 ex:=fp
 fn:=λ_=>false
 calm:=X.calm
 pn:=[]
 xe:=λ_ _=>False
structure ak (sc:Scope) (N:List Str) (x:Str) (fr:List Str) (ix:List Nat) (scope:Scope):Prop where
 kind:scope.kind=.function
 bY:∀y∈scope.names,y.2 ≠ .cell
 vj:∀y∈scope.names,y.2=.local->scope.names.lookup y.1=some .local
 lx:scope.names.lookup x=some .local
 free:∀y∈scope.names,y.2=.free->sc.names.lookup y.1=some .cell\/sc.names.lookup y.1=some .free
 at':fr.map some=ix.map λi=>N[i]?
 xW:∀y∈fr,scope.names.lookup y=some .free/\(sc.names.lookup y=some .cell\/sc.names.lookup y=some .free)
 nd:(x::fr).Nodup
def cI(ix:List Nat)(σ:St):St:=ix.map λi=>(σ[i]?).join
section
variable {X:Cx}{pins:List (Addr×Obj)}{σ:St}{H:Hp}{s:Shared}{x:Str}{fr:List Str}{ix:List Nat}{scope:Scope}{cl:List (Str×Addr)}{fp:List Addr}{C D:Addr}
theorem xX(S:ak X.env.scope X.N x fr ix scope)(I:Inv X pins σ H s)(hf:∀b∈fp,wT X pins H b)(eE:∀b∈fp,b<s.heap.objs.size)(hC:s.heap.objs.size<=C)
 (h1:∀y c,cl.lookup y=some c->X.env.cells.lookup y=some c) (h2:∀y,(y,NameKind.free)∈scope.names->∃c,cl.lookup y=some c):(bC X (x::fr) scope cl C s H fp).Ok where
 mod:=I.ok.mod
 kind:=S.kind
 glob:=I.ok.glob
 blt:=I.ok.blt
 above:=hC
 inj:=λy z c a b=>I.ok.inj y z c (h1 y c a) (h1 z c b)
 has:=λy hy=>h2 y (P2 (env:=X.env) (scope:=scope) S.bY hy)
 nz:=λy c h _=>Bool.noConfusion (show false=true from h)
 hd:=I.ok.hd
 frames:=I.ok.frames
 rF:=.inl rfl
 jz:=λb hb=>⟨λz=>absurd (eE b hb) (by rw[z];exact Nat.not_lt.mpr hC),λy c e=>(hf b hb).2.2.2.2.1 y c (h1 y c e)⟩
 bs:=I.bs
 fV:=le_trans I.ok.fV I.sz
 dB:=λb o e hb=>by
  rcases (hf b hb).2.2.2.1 with z | z
  ·exact I.ok.dB b o e z
  ·exact absurd (lt_of_lt_of_le (lt_size e) (le_trans I.ok.fV z)) (lt_irrefl _)
 dC:=λb hb z=>by
  rcases List.mem_cons.mp (I.eM b z)with e | e
  ·exact(hf b hb).2.1 e
  ·exact(hf b hb).2.2.1 e
 bX:=I.stack
 jA:=I.cU
theorem JT:(cI ix σ).length=ix.length:=by unfold cI;rw[length_map]
theorem ak.len(S:ak X.env.scope X.N x fr ix scope):fr.length=ix.length:=by have:=congrArg List.length S.at';simpa using this
theorem tj{s':Shared}{pn:List (Addr×Obj)}{m:Str->Option Value}(S:ak X.env.scope X.N x fr ix scope)(I:Inv X pins σ H s)(hf:∀b∈fp,wT X pins H b)(eE:∀b∈fp,b<s.heap.objs.size)(hC:s.heap.objs.size<=C)
 (h1:∀y c,cl.lookup y=some c->X.env.cells.lookup y=some c) (h2:∀y,(y,NameKind.free)∈scope.names->∃c,cl.lookup y=some c)
 (ho:s'.os=s.os) (hg:s'.gens=s.gens) (k:∀b o,s.heap.get? b=some o->s'.heap.get? b=some o) (hn:s'.heap.Ns C m)
 (hp:∀p∈pn,s'.heap.get? p.1=some p.2/\s.heap.objs.size<=p.1/\p.1≠C/\∀v,p.2.data ≠ .cell v) :
 Inv (bC X (x::fr) scope cl C s H fp) pn (none::cI ix σ) H s':=by
 obtain⟨mX,P4,CN⟩:=I.loc;refine⟨xX S I hf eE hC h1 h2,ho,by rw[hg];exact I.bare,Un.kept k,⟨m,hn,λi y v e1 e2 e3=>?_⟩,λy c e=>?_,I.aC.fresh hC,λy c e=>I.bz y c (h1 y c e),λp rM=>?_,I.aC.kept k,by
  show(none::cI ix σ).length=(x::fr).length;simp[JT,S.len]⟩
 ·cases i with
  | zero=>cases e2
  | succ j =>
    have jK:fr[j]? = some y:=e1;have eF:(cI ix σ)[j]? = some (some v):=e2;obtain⟨f1,f2⟩:=S.xW y (mem_of_getElem? jK);unfold cI at eF;rw[getElem?_map]at eF;cases ei:ix[j]? with
    | none=>rw[ei]at eF;cases eF
    | some i =>
      rw[ei]at eF;have fY:(σ[i]?).join=some v:=Option.some.inj eF;have e4:σ[i]? = some (some v):=by
       cases q:σ[i]? with
       | none=>rw[q]at fY;cases fY
       | some w=>rw[q]at fY;have:w=some v:=fY;rw[this]
      have e5:X.N[i]? = some y:=by
       have:=congrArg (λl=>l[j]?) S.at';simp only[getElem?_map,jK,ei]at this
       simpa using this.symm
      have CO:Be X.env.scope y:=by
       rcases f2 with z | z
       ·exact .inr (.inl z)
       ·exact .inr (.inr z)
      obtain⟨u,r,l⟩:=CN i y v e5 e4 CO;refine⟨u,r,.inr ⟨FO f1,?_⟩⟩;rcases l with⟨z,_⟩|⟨_,c,ec,hc⟩
      ·rcases f2 with q | q
       ·have q':=(show X.env.scope.names.lookup y=some .local from z).symm.trans q;cases q'
       ·have q':=(show X.env.scope.names.lookup y=some .local from z).symm.trans q;cases q'
      ·obtain⟨c',jC⟩:=h2 y (PySem.mem_of_lookup f1);have:c'=c:=by have:=h1 y c' jC;rw[ec]at this;exact(Option.some.inj this).symm
       subst this;refine⟨c',jC,?_⟩;obtain⟨o,dD,hd⟩:=hc;exact⟨o,k _ _ dD,hd⟩
 ·obtain⟨v,o,dD,hd⟩:=I.cell y c (h1 y c e);exact⟨v,o,k _ _ dD,hd⟩
 ·have oE:p∈pn:=by simpa [bC] using rM
  obtain⟨q1,q2,q3,q4⟩:=hp p oE;refine⟨q1,I.aC.fresh q2,q3,λz=>?_,q4⟩;obtain⟨_,o,dD,_⟩:=I.stack.mem z;exact absurd (lt_of_lt_of_le (lt_size dD) q2) (lt_irrefl _)
end
def rN(X:Cx)(ifs:List Expr)(t:TT):Prop :=
 ∀(pins:List (Addr×Obj)) (s:Shared) (σ:St) (H:Hp) (Q:Bool->Hp->Prop),Inv X pins σ H s->t σ H Q ->
  wpAny (model X.prog X.w) X.A (forIn ifs true λc r=>if r=true then do let ok <-isTrue c X.env (eval c X.env);pure (ForInStep.yield ok)else pure (ForInStep.yield r)) (TP X pins σ Q) X.xe s
def iS:TT:=λ_ H Q=>Q true H
theorem yN:rN X [] iS:=λ_ _ _ H _ I h=>wpAny_tests_nil ⟨H,I,h⟩
theorem yL{c:Expr}{t:TT}(h:PT X c t):rN X [c] t:=λpins s σ H Q I q=>wpAny_tests_one (h pins s σ H Q I q)
def oF(J:It)(c:St)(tc:TT)(te:TE)(H1:Hp)(fin:List V->Hp->Prop):Prop :=
 ∃W:Nat->Nat->List V->Hp->Prop,(∃m,W 0 m [] H1)/\∀i m ys H,W i m ys H ->
  (J.stop i H/\ys.length<=sizeLine/\fin ys H) \/
  (J.go i H/\ys.length<sizeLine/\∃N:List V->Hp->Prop,(∀ys' H',N ys' H'->∃m',m'<m/\W (i+1) m' ys' H')/\∀x H',J.xy i H x H'->tc (some x::c) H' λb H2=>if b=true then te (some x::c) H2 λy H3=>N (ys++[y]) H3 else N ys H2)
def oG(ix:List Nat)(wi:TI)(tc:TT)(te:TE):TE:=λσ H Q=>wi σ H λJ H1=>oF J (cI ix σ) tc te H1 λys H2=>∀l,H2 l=none->Q (.ref l) (upd H2 l (.lst ys))
variable {w:World}{s:Shared}{pos:Pos}
theorem JU{prog:Program}{A:Around}{R:Result->Shared->Prop}{elt tg P5:Expr}{tests:List Expr}{it acc:Value}(J:Nat->Shared->Prop)
 (turn:∀n s,J n s->wpAny (model prog w) A (pyNext it) (λr s1=>match r with
   | none=>R (.ok .next) s1
   | some v=>wpAny (model prog w) A (letOwnedTupleGo tg it v) (λ_ s2=>wpAny (model prog w) A (assign tg env v) (λ_ s3 =>
      wpAny (model prog w) A (forIn tests true λc r=>if r=true then do let ok <-isTrue c env (eval c env);pure (ForInStep.yield ok)else pure (ForInStep.yield r)) (λok s4 =>
       if ok=true then wpAny (model prog w) A (eval elt env) (λx s5 =>
        wpAny (model prog w) A (call (.builtin "list.append") [acc,x]) (λ_ s6=>∃m,m<n/\J m s6) (λ_ _=>False) s5) (λ_ _=>False) s4
       else ∃m,m<n/\J m s4) (λ_ _=>False) s3) (λ_ _=>False) s2) (λ_ _=>False) s1) (λ_ _=>False) s)
 (n:Nat) (h:J n s):codeAny (model prog w) A (.compLoop (.ListComp elt [⟨tg,P5,tests,0⟩] scope pos) 0 it acc env) R s:=by
 have up:∀{α:Type}{t:Sem α}{q q':α->Shared->Prop}{E':Value->Shared->Prop}{s:Shared},wpAny (model prog w) A t q (λ_ _=>False) s->(∀a s,q a s->q' a s)->wpAny (model prog w) A t q' E' s:=λh k=>wpAny_mono h k λ_ _ z=>False.elim z;refine codeAny_loop rfl J (λn s hJ=>?_) n h;show wpAny _ A ((compTurn (.ListComp elt [⟨tg,P5,tests,0⟩] scope pos) 0 it acc env).onRaise (λx=>do noteFrame x env;theTreesLotGoes x)) _ _ s;refine wpAny_noted ?_;rw[compTurn_list];refine wpAny_bind (wpAny_standAt (wpAny_bind (up (turn n s hJ) λr s1 h1=>?_)));cases r with
 | none=>exact wpAny_pure h1
 | some v =>
   refine wpAny_bind (up h1 λ_ s2 h2=>wpAny_bind (up h2 λ_ s3 h3=>wpAny_bind (up h3 λok s4 h4=>?_)));cases ok with
   | false=>exact wpAny_pure ⟨rfl,h4⟩
   | true =>
     exact wpAny_bind (wpAny_bind (up h4 λx s5 h5=>wpAny_bind (up h5 λ_ s6 h6=>wpAny_pure (wpAny_pure ⟨rfl,h6⟩))))
section
variable {X:Cx}{x:Str}{fr:List Str}{ix:List Nat}{scope:Scope}{elt iter:Expr}{ifs:List Expr}{px pos:Pos}{wi:TI}{tc:TT}{te:TE}
theorem P6{use:Option (Value->Sem Unit)}{Q:Value->Shared->Prop}{pins:List (Addr×Obj)}{s2:Shared}{σ:St}{H2:Hp}{it:Addr}{fp:List Addr}{tn:Nat->Heap->Prop}{J:It}{cl:List (Str×Addr)}(S:ak X.env.scope X.N x fr ix scope)(hc:X.calm=true)
 (iT:∀cl C s2 H2 fp,rN (bC X (x::fr) scope cl C s2 H2 fp) ifs tc) (he:∀cl C s2 H2 fp,PE (bC X (x::fr) scope cl C s2 H2 fp) elt te)
 (h1:∀y c,cl.lookup y=some c->X.env.cells.lookup y=some c) (h2:∀y,(y,NameKind.free)∈scope.names->∃c,cl.lookup y=some c)
 (I2:Inv X pins σ H2 s2) (T:Turn X.prog X.w X.K (.Name x px) J fp it tn) (fW:tn 0 s2.heap) (f2:∀b∈fp,wT X pins H2 b) {fin:List V->Hp->Prop} (wc:oF J (cI ix σ) tc te H2 fin)
 (hQ:∀(D C:Addr)(ys:List V)(H':Hp)(s':Shared)(m:Str->Option Value),Inv X pins σ (upd H' D (.lst ys)) s'->H' D=none->s'.heap.Ns C m->D≠C->s2.heap.objs.size<=C->H' C=none->fin ys H' ->
   compPost (model X.prog X.w) X.A X.xe use Q (.ref D) C (.ok .next) s') :
 wpAny (model X.prog X.w) X.A (newList []) (λacc s₃=>wpAny (model X.prog X.w) X.A (newFunctionEnv scope X.env.globals cl [] X.env.qual none .none (some X.env)) (λgZ s₄ =>
  codeAny (model X.prog X.w) X.A (.compStart (.ListComp elt [⟨.Name x px,iter,ifs,0⟩] scope pos) 0 (.ref it) acc { gZ with scope:=relabel scope X.env }) (compPost (model X.prog X.w) X.A X.xe use Q acc gZ.locals) s₄) X.xe s₃) X.xe s2:=by
 have eE:∀b∈fp,b<s2.heap.objs.size:=λb hb=>by
  obtain⟨o,e,_⟩:=T.obj 0 _ fW b hb;exact lt_size e
 refine wpAny_newObj_type (wpAny_newFunctionEnv S.bY (by intro y hy;simp at hy) (λh₁ dF eW=>?_) S.kind);dsimp only at dF eW ⊢;generalize oH:s2.heap.push { cls:=.type "list",dict:=none,data:=.seq ([]:List Value).toArray }=dq at dF eW ⊢;have oI:dq.objs.size=s2.heap.objs.size+1:=by rw[<-oH,size_push]
 have dR:s2.heap.objs.size≠dq.objs.size:=by rw[oI];exact ne_of_lt (lt_succ_self _)
 have d7:s2.heap.objs.size<=dq.objs.size:=by rw[oI];exact le_succ _
 have tm:∀b,b<s2.heap.objs.size->b≠dq.objs.size:=λb hb=>by rw[oI];exact ne_of_lt (lt_succ_of_lt hb)
 have old:∀b o,s2.heap.get? b=some o->h₁.get? b=some o:=λb o e=>eW.extBut b o (tm b (lt_size e)) (get?_push_of_some _ (oH ▸ get?_push_of_some _ e));have da:h₁.get? s2.heap.objs.size=some { cls:=.type "list",data:=.seq ([]:List Value).toArray 0 }:=eW.extBut _ _ dR (get?_push_of_some _ (oH ▸ get?_push_size _ rfl));have vk:tn 0 h₁:=T.keep 0 _ _ fW λb _ o e=>old b o e;have oJ:∀b∈fp,b≠s2.heap.objs.size:=λb hb=>ne_of_lt (eE b hb);generalize hD:s2.heap.objs.size=D at da dR oJ ⊢;have g7:s2.heap.objs.size<=D:=le_of_eq hD;generalize hC:dq.objs.size=C at dF eW dR d7 ⊢;have hV:∀b o,s2.heap.get? b=some o->b≠D:=λb o e z=>absurd (lt_size e) (by rw[z,<-hD];exact lt_irrefl _);obtain⟨W,⟨m0,w0⟩,turn⟩:=wc;have loop:∀s₃:Shared,s₃={ s2 with heap:=h₁,toks:=s2.toks+([]:List (Str×Value)).length } ->
  codeAny (model X.prog X.w) X.A (.compLoop (.ListComp elt [⟨.Name x px,iter,ifs,0⟩] scope pos) 0 (.ref it) (.ref D) (compEnvC scope cl C X.env))
   (compPost (model X.prog X.w) X.A X.xe use Q (.ref D) C) s₃:=by
  rintro s₃ rfl;have I0:Inv (bC X (x::fr) scope cl C s2 H2 fp) [(D,{ cls:=.type "list",data:=.seq ([]:List Value).toArray 0 })] (none::cI ix σ) H2 { s2 with heap:=h₁,toks:=s2.toks+([]:List (Str×Value)).length } :=
   tj S I2 f2 eE d7 h1 h2 rfl rfl old dF (λp hp=>by
    have e:p=(D,{ cls:=.type "list",data:=.seq ([]:List Value).toArray 0 }):=by simpa using hp
    subst e;exact⟨da,g7,dR,λv z=>by cases z⟩)
  have c9:∀{au:Obj}{H':Hp},(∀b∈fp,H' b=none)->∀b∈fp,wT (bC X (x::fr) scope cl C s2 H2 fp) [(D,au)] H' b:=λ{au H'} hn b hb=>by
   refine⟨hn b hb,λz=>?_,λz=>(I0.ok.dC b hb z),.inl hb,λy c e=>(I0.ok.jz b hb).2 y c e,λp hp z=>?_⟩
   ·exact(I0.ok.jz b hb).1 z
   ·have e:p=(D,au):=by simpa [bC] using hp
    subst e;exact oJ b hb (Eq.symm z)
  refine JU (env:=compEnvC scope cl C X.env)
   (λn s'=>∃i ys au k v0 H',Vals ys au/\Inv (bC X (x::fr) scope cl C s2 H2 fp) [(D,{ cls:=.type "list",data:=.seq au.toArray k })] (v0::cI ix σ) H' s'/\tn i s'.heap/\(∀b∈fp,H' b=none)/\W i n ys H') ?_ m0
   ⟨0,[],[],0,none,H2,.nil,I0,vk,λb hb=>(f2 b hb).1,w0⟩
  rintro n s3 ⟨i,ys,au,k,v0,H3,rv,I3,kJ,nS,w3⟩;rcases turn i n ys H3 w3 with⟨stop,hz,oK⟩|⟨go,hz,N,hN,step⟩
  ·refine aF (T.done (bC X (x::fr) scope cl C s2 H2 fp) rfl rfl rfl hc i _ s3 _ H3 _ I3 (c9 nS) kJ stop) λr s4 ⟨hr,I4⟩=>?_;subst hr;have pD:=I4.pin (D,{ cls:=.type "list",data:=.seq au.toArray k }) (by simp[bC]);obtain⟨mC,CP,_⟩:=I4.loc;have b9:H3 D=none:=pD.2.1;have h9:cE X.prog X.w (upd H3 D (.lst ys)) s4.heap:=λb u e=>by
    by_cases hb:b=D
    ·subst hb;rw[zc]at e;cases e;exact⟨hz,au,k,rv,pD.1⟩
    ·rw[zh hb]at e;exact(I4.aC b u e).bQ (λc v _ q=>q) (λc q=>by rw[zh (zj q b9)];exact q) λc xs q=>by rw[zh (zj q b9)];exact q
   have b4:Un (cf X.stack) fp H2 H3 s2.heap s4.heap:=I4.base;have un:Un (cf X.stack) fp H2 (upd H3 D (.lst ys)) s2.heap s4.heap :=
    ⟨b4.keep,b4.slot,λb o q n hx=>by
     rw[zh (hV b o q)];exact b4.free b o q n hx,b4.there,λb xs q=>by rw[zh (zj (b4.bH b xs q) b9)];exact b4.bH b xs q,
     λb o u q=>by rw[zh (zj (b4.bB b o u q) b9)];exact b4.bB b o u q,λb ps q=>by
      obtain⟨more,e⟩:=b4.bM b ps q;exact⟨more,by rw[zh (zj e b9)];exact e⟩⟩
   have I5:Inv X pins σ (upd H3 D (.lst ys)) s4:=I2.jD (ch:=fp) I4.os un h9 I4.bare λb hb=>by
    obtain⟨g0,g1,g2,g3,g4,g5⟩:=f2 b hb;exact⟨g3,g1,g4,g5⟩
   exact hQ D C ys H3 s4 mC I5 b9 CP dR d7 I4.free oK
  ·refine aF (T.item (bC X (x::fr) scope cl C s2 H2 fp) rfl rfl rfl hc i _ s3 _ H3 _ I3 (c9 nS) kJ go) λr s4 ⟨u,hr,h4⟩=>?_;subst hr;refine aF h4 λ_ s5 ⟨y,H5,I5,r5,y5,gH,xE⟩=>?_;have xF:=I5.pinned (c9 xE) (T.obj _ _ gH);have pg:PG (bC X (x::fr) scope cl C s2 H2 fp) (.Name x px) (uV 0):=zN S.nd rfl (.inl (lookup_relabel_local S.lx)) (.inr (lookup_relabel_local S.lx));refine aF (pg _ s5 _ H5 y u (λσ6 H6=>σ6=some y::cI ix σ/\H6=H5) xF r5 ⟨rfl,rfl⟩) λ_ s6 ⟨σ6,H6,I6,e6,CQ⟩=>?_;subst e6 CQ;refine aF (iT cl C s2 H2 fp _ s6 _ _ _ I6 (step y _ y5)) λb s7 ⟨H7,I7,q7⟩=>?_;have again:∀{s8:Shared}{H8:Hp}{its':List Value}{k':Nat}{ys':List V},Vals ys' its'->Inv (bC X (x::fr) scope cl C s2 H2 fp) [(D,{ cls:=.type "list",data:=.seq its'.toArray k' })] (some y::cI ix σ) H8 s8->(∀b∈fp,∀o,s5.heap.get? b=some o->s8.heap.get? b=some o)->(∀b∈fp,H8 b=none)->N ys' H8 ->
    ∃m,m<n/\∃i ys au k v0 H',Vals ys au/\Inv (bC X (x::fr) scope cl C s2 H2 fp) [(D,{ cls:=.type "list",data:=.seq au.toArray k })] (v0::cI ix σ) H' s8/\tn i s8.heap/\(∀b∈fp,H' b=none)/\W i m ys H' :=
    λ{s8 H8 its' k' ys'} CS I8 kp CT nn=>let ⟨m',hm,w8⟩:=hN ys' H8 nn;⟨m',hm,i+1,ys',its',k',some y,H8,CS,I8,T.keep _ _ _ gH kp,CT,w8⟩
   cases b with
   | false =>
     rw[if_neg Bool.false_ne_true]at q7 ⊢;refine again rv I7.bt (λb hb o e=>(I7.pin (b,o) (by simp[bC];exact .inr (yJ hb e))).1) (λb hb=>?_) q7;obtain⟨o,e,d⟩:=T.obj _ _ gH b hb;exact(I7.pin (b,o) (by simp[bC];exact .inr (yJ hb e))).2.1
   | true =>
     rw[if_pos rfl]at q7 ⊢;refine aF (he cl C s2 H2 fp _ s7 _ _ _ I7 q7) λv s8 ⟨z,H8,I8,r8,q8⟩=>?_;have pD:=I8.pin (D,{ cls:=.type "list",data:=.seq au.toArray k }) (by simp[bC]);have P7:ys.length=au.length:=rv.length;refine append_at (hsz:=by show au.toArray.size<=sizeLine;rw[size_toArray];omega) pD.1 λh₉ vm vn=>?_;have eo:({ cls:=.type "list",data:=.seq (au.toArray.push v) (k+1) }:Obj)={ cls:=.type "list",data:=.seq (au++[v]).toArray (k+1) }:=by rw[push_toArray]
     rw[eo]at vn;have vo:∀b∈fp,∀o,s5.heap.get? b=some o->s8.heap.get? b=some o/\H8 b=none:=λb hb o e=>by
      have q:=I8.pin (b,o) (by simp[bC];exact .inr (yJ hb e));exact⟨q.1,q.2.1⟩
     have J8:=I8.bt.bG (pins':=[]) (λp hp=>by cases hp);have dS:wT (bC X (x::fr) scope cl C s2 H2 fp) [] H8 D:=⟨pD.2.1,pD.2.2.1,pD.2.2.2.1,.inr g7,λy c e z=>by
      obtain⟨v,o,ho,_⟩:=I2.cell y c (h1 y c e);exact hV c o ho z,λp hp=>by cases hp⟩
     have I9:Inv (bC X (x::fr) scope cl C s2 H2 fp) [] (some y::cI ix σ) H8 { s8 with heap:=h₉ }:=J8.turned (t':=s8.toks) (it:=D) (λb o hb e=>(vm.2 b hb).trans e) dS.1 dS.2.1 dS.2.2.2.1 dS.2.2.2.2.1 dS.2.2.2.2.2;refine again (its':=au++[v]) (k':=k+1) (ys':=ys++[z]) (rv.append (.cons r8 .nil)) (I9.bG λp hp=>?_) (λb hb o e=>(vm.2 b (oJ b hb)).trans (vo b hb o e).1) (λb hb=>?_) q8
     ·have e:p=(D,{ cls:=.type "list",data:=.seq (au++[v]).toArray (k+1) }):=by simpa using hp
      subst e;exact⟨vn,dS.1,dS.2.1,dS.2.2.1,λv z=>by cases z⟩
     ·obtain⟨o,e,d⟩:=T.obj _ _ gH b hb;exact(vo b hb o e).2
 exact codeAny_compStart_list (loop _ rfl) (T.self X.A 0 _ _ _ vk (loop _ rfl))
theorem zS(S:ak X.env.scope X.N x fr ix scope)(hc:X.calm=true)(hi:PI X (.Name x px) iter wi)(iT:∀cl C s2 H2 fp,rN (bC X (x::fr) scope cl C s2 H2 fp) ifs tc)(he:∀cl C s2 H2 fp,PE (bC X (x::fr) scope cl C s2 H2 fp) elt te)
 (hs:∀x,foldedSetIterable iter X.env x=pure x:=by intro _;rfl):PE X (.ListComp elt [⟨.Name x px,iter,ifs,0⟩] scope pos) (oG ix wi tc te):=by
 intro pins s σ H Q I h;obtain⟨cl,tq,h1,h2⟩:=CL (env:=X.env) (scope:=scope) λy hy hf=>I.ok.has y.1 (S.free y hy hf);rw[eval_ListComp];refine wpAny_comprehension_free (use:=none) rfl hs tq S.kind S.vj (aF (hi pins s σ H _ I h) λxv s1 q1=>aF q1 λxA s2 q2=>?_);obtain⟨it,fp,tn,J,H2,rfl,I2,T,fW,f2,wc⟩:=q2;refine P6 S hc iT he h1 h2 I2 T fW f2 wc λD C ys H' s' m I' hD hn dR hC rO fin=>?_;refine⟨m,hn,λh' sb=>⟨.ref D,upd H' D (.lst ys),?_,rfl,fin D hD⟩⟩;have cY:wT X pins (upd H' D (.lst ys)) C:=by
  have z:=I2.eO (H':=upd H' D (.lst ys)) hC (by rw[zh (Ne.symm dR)];exact rO);exact z
 exact I'.turned (t':=s'.toks) (it:=C) (λb o hb e=>(sb.2 b hb).trans e) cY.1 cY.2.1 cY.2.2.2.1 cY.2.2.2.2.1 cY.2.2.2.2.2
theorem yK{i:Nat}{y:Str}{py oM:Pos}(S:ak X.env.scope X.N x fr ix scope)(hc:X.calm=true)(hN:X.N.Nodup)(JV:X.N[i]? = some y)(hy:Loc X.env.scope y)(hi:PI X (.Name x px) iter wi)(iT:∀cl C s2 H2 fp,rN (bC X (x::fr) scope cl C s2 H2 fp) ifs tc)(he:∀cl C s2 H2 fp,PE (bC X (x::fr) scope cl C s2 H2 fp) elt te)
 (JW:swapsWith (.ListComp elt [⟨.Name x px,iter,ifs,0⟩] scope pos) (some (.Name y py)) oM.line X.env=pure true:=by rfl)
 (hf:X.fn y=true\/X.env.scope.names.lookup y=some .local:=by first | exact .inl rfl | exact .inr rfl | assumption)
 (hs:∀x,foldedSetIterable iter X.env x=pure x:=by intro _;rfl) :
 PS X (.Assign [.Name y py] (.ListComp elt [⟨.Name x px,iter,ifs,0⟩] scope pos) oM) (sL (oG ix wi tc te) (uV i)):=by
 intro pins s σ H Dn I h;obtain⟨cl,tq,h1,h2⟩:=CL (env:=X.env) (scope:=scope) λy hy hf=>I.ok.has y.1 (S.free y hy hf);rw[exec_Assign_Name_used _ _ _ _ JW];refine wpAny_bind (wpAny_standAt (wpAny_bind ?_));show wpAny _ X.A (do let _ <-comprehension (.ListComp elt [⟨.Name x px,iter,ifs,0⟩] scope pos) scope X.env _ (newList []) false (eval iter X.env) (some (assign (.Name y py) X.env))) _ _ s;refine wpAny_bind (aF (Q:=λ_ s'=>SP X pins Dn .next s') ?_ λ_ s' q=>wpAny_pure (wpAny_pure q));refine wpAny_comprehension_free (use:=some (assign (.Name y py) X.env)) rfl hs tq S.kind S.vj (aF (hi pins s σ H _ I h) λxv s1 q1=>aF q1 λxA s2 q2=>?_);obtain⟨it,fp,tn,J,H2,rfl,I2,T,fW,f2,wc⟩:=q2;refine P6 S hc iT he h1 h2 I2 T fW f2 wc λD C ys H' s' m I' hD hn dR hC rO fin=>?_;have cY:wT X pins (upd H' D (.lst ys)) C:=I2.eO (H':=upd H' D (.lst ys)) hC (by rw[zh (Ne.symm dR)];exact rO);show wpAny _ X.A (assign (.Name y py) X.env (.ref D)) _ _ s';refine wpAny_assign_Name (Jh (v:=V.ref D) I' hN JV hy rfl (λfK JX tu=>?_) hf);obtain⟨a,sb,ha⟩:=tu;have JY:C≠a:=λz=>by
  rcases ha with q | q
  ·exact cY.2.1 (z.trans q)
  ·exact cY.2.2.2.2.1 y a q z.symm
 refine⟨m,hn.sameBut sb JY,λh' FP=>⟨_,_,JX.turned (t':=fK.toks) (it:=C) (λb o hb e=>(FP.2 b hb).trans e) cY.1 cY.2.1 cY.2.2.2.1 cY.2.2.2.2.1 cY.2.2.2.2.2,fin D hD⟩⟩
end
section
variable {X:Cx}
def CU(xs:List V)(y:V):Nat:=xs.findIdx λz=>gh z y
theorem P8{x:V}:∀{xs:List V}{us:List Value},Vals xs us->xs.all wO=true->us.findIdx (iy x)=xs.findIdx λy=>gh y x
 | _,_,.nil,_=>rfl
 | y::xs,u::us,.cons r t,f=>by
   rw[all_cons,Bool.and_eq_true]at f;rw[findIdx_cons,findIdx_cons,FJ r f.1,P8 t f.2]
theorem P9{x:V}:∀{xs:List V}{us:List Value},Vals xs us->xs.all wO=true->us.countP (iy x)=xs.countP λy=>gh y x
 | _,_,.nil,_=>rfl
 | y::xs,u::us,.cons r t,f=>by
   rw[all_cons,Bool.and_eq_true]at f;rw[countP_cons,countP_cons,FJ r f.1,P9 t f.2]
def oN(K:Frag):V->List V->Hp->VK->Prop:=λx vs H Q=>∃l xs y,x=.ref l/\vs=[y]/\ag K H l xs/\wO y=true/\xs.all wO=true/\CU xs y<xs.length/\Q (.int (CU xs y:Nat)) H
theorem iU:(sizeLine:Int)<2 ^ 63-1:=by decide
theorem CV:Bm X "list.index" (oN X.K):=by
 intro pins s σ H x vs v us Q I rx rv h;obtain⟨l,xs,y,rfl,rfl,hH,fy,fs,hj,q⟩:=h;cases rx;obtain⟨u,rfl,ru⟩:=rv.one;obtain⟨au,r,⟨⟨oc,od,dt,sl⟩,n,e,c1,c2,c3⟩,z⟩:=I.list hH;simp only at c1 c2 c3;subst c1 c2 c3;have hl:=r.length;have ef:=P8 (x:=y) r fs;have FQ:au.findIdx (iy y)<au.length:=by rw[ef,<-hl];exact hj
 refine call_meets F.slot_list_index ⟨_,e,rfl⟩ F.entry_list_index (F.args_list_index_2 _ _)
  (SeqAt.list_indexAt l au.toArray n none sl u (iy y) (au.findIdx (iy y)) (by simpa using FQ) (by have:=iU;omega) (by simpa using List.findIdx_getElem (w:=FQ)) (λm hm bI=>by simpa using List.not_of_lt_findIdx bI)) ⟨e,λw hw=>CH ru fy r fs w (by simpa using hw),?_⟩
 refine⟨.int (CU xs y:Nat),H,I.tok _,⟨s.toks,?_⟩,q⟩;rw[ef];rfl
def xY(K:Frag):V->List V->Hp->VK->Prop:=λx vs H Q=>∃l xs y,x=.ref l/\vs=[y]/\ag K H l xs/\wO y=true/\xs.all wO=true/\Q (.int (xs.countP (λz=>gh z y):Nat)) H
theorem oO:Bm X "list.count" (xY X.K):=by
 intro pins s σ H x vs v us Q I rx rv h;obtain⟨l,xs,y,rfl,rfl,hH,fy,fs,q⟩:=h;cases rx;obtain⟨u,rfl,ru⟩:=rv.one;obtain⟨au,r,⟨⟨oc,od,dt,sl⟩,n,e,c1,c2,c3⟩,z⟩:=I.list hH;simp only at c1 c2 c3;subst c1 c2 c3;refine call_meets F.slot_list_count ⟨_,e,rfl⟩ F.entry_list_count (F.args_list_count_2 _ _)
  (SeqAt.list_countAt l au.toArray n none sl u (iy y)) ⟨e,λw hw=>CH ru fy r fs w (by simpa using hw),?_⟩
 refine⟨.int (xs.countP (λz=>gh z y):Nat),H,I.tok _,⟨s.toks,?_⟩,q⟩;show Value.int ((au.countP (iy y):Nat):Int) _=_;rw[P9 (x:=y) r fs]
def isInt:V->Option Bool
 | .int _=>some true
 | .bl _=>some true
 | .str _=>some false
 | .bo=>some false
 | _=>none
def isBool:V->Option Bool
 | .int _=>some false
 | .bl _=>some true
 | .str _=>some false
 | .bo=>some false
 | _=>none
def isStr:V->Option Bool
 | .int _=>some false
 | .bl _=>some false
 | .str _=>some true
 | .bo=>some false
 | _=>none
inductive oP (K:Frag) (H:Hp):V->Bool->Prop
 | yes {a:Addr} {xs:List V}:ag K H a xs->oP K H (.ref a) true
 | no {a:Addr} {xs:List V}:bN K H a xs->oP K H (.ref a) false
inductive oQ (K:Frag) (H:Hp):V->Bool->Prop
 | yes {a:Addr} {xs:List V}:bN K H a xs->oQ K H (.ref a) true
 | no {a:Addr} {xs:List V}:ag K H a xs->oQ K H (.ref a) false
inductive c6 (xs:List V) (H:Hp) (Q:VK):Prop
 | mk (x:_) (b:_):xs=[x,.ty "int"]->isInt x=some b->Q (.bl b) H->c6 xs H Q
theorem Ut:wX X (.builtin "isinstance") c6:=by
 intro pins s σ H xs us Q I r h;obtain⟨x,b,rfl,e,q⟩:=h;obtain⟨u,t,rfl,ru,rt⟩:=r.two;cases rt;cases x with
 | int i=>obtain⟨t',rfl⟩:=ru;cases e;exact IsiPair.int_int ⟨.bl true,H,I,rfl,q⟩
 | bl i=>cases ru;cases e;exact IsiPair.bool_int ⟨.bl true,H,I,rfl,q⟩
 | str i=>obtain⟨t',rfl⟩:=ru;cases e;exact IsiPair.str_int ⟨.bl false,H,I.tok _,rfl,q⟩
 | bo=>cases ru;cases e;exact IsiPair.NoneType_int ⟨.bl false,H,I.tok _,rfl,q⟩
 | _=>cases e
inductive cL (xs:List V) (H:Hp) (Q:VK):Prop
 | mk (x:_) (b:_):xs=[x,.ty "bool"]->isBool x=some b->Q (.bl b) H->cL xs H Q
theorem Uu:wX X (.builtin "isinstance") cL:=by
 intro pins s σ H xs us Q I r h;obtain⟨x,b,rfl,e,q⟩:=h;obtain⟨u,t,rfl,ru,rt⟩:=r.two;cases rt;cases x with
 | int i=>obtain⟨t',rfl⟩:=ru;cases e;exact IsiPair.int_bool ⟨.bl false,H,I.tok _,rfl,q⟩
 | bl i=>cases ru;cases e;exact IsiPair.bool_bool ⟨.bl true,H,I,rfl,q⟩
 | str i=>obtain⟨t',rfl⟩:=ru;cases e;exact IsiPair.str_bool ⟨.bl false,H,I.tok _,rfl,q⟩
 | bo=>cases ru;cases e;exact IsiPair.NoneType_bool ⟨.bl false,H,I.tok _,rfl,q⟩
 | _=>cases e
inductive c7 (xs:List V) (H:Hp) (Q:VK):Prop
 | mk (x:_) (b:_):xs=[x,.ty "str"]->isStr x=some b->Q (.bl b) H->c7 xs H Q
theorem Qa:wX X (.builtin "isinstance") c7:=by
 intro pins s σ H xs us Q I r h;obtain⟨x,b,rfl,e,q⟩:=h;obtain⟨u,t,rfl,ru,rt⟩:=r.two;cases rt;cases x with
 | int i=>obtain⟨t',rfl⟩:=ru;cases e;exact IsiPair.int_str ⟨.bl false,H,I.tok _,rfl,q⟩
 | bl i=>cases ru;cases e;exact IsiPair.bool_str ⟨.bl false,H,I.tok _,rfl,q⟩
 | str i=>obtain⟨t',rfl⟩:=ru;cases e;exact IsiPair.str_str ⟨.bl true,H,I,rfl,q⟩
 | bo=>cases ru;cases e;exact IsiPair.NoneType_str ⟨.bl false,H,I.tok _,rfl,q⟩
 | _=>cases e
inductive cM (K:Frag) (xs:List V) (H:Hp) (Q:VK):Prop
 | mk (x:_) (b:_):xs=[x,.ty "list"]->oP K H x b->Q (.bl b) H->cM K xs H Q
theorem wY:wX X (.builtin "isinstance") (cM X.K):=by
 intro pins s σ H xs us Q I r h;obtain⟨x,b,rfl,e,q⟩:=h;obtain⟨u,t,rfl,ru,rt⟩:=r.two;cases rt;cases e with
 | yes hq =>
   cases ru;obtain⟨au,r,⟨o,n,e,c1,c2,c3⟩,z⟩:=I.list hq;exact IsiPair.list_list e c1 ⟨.bl true,H,I,rfl,q⟩
 | no hq =>
   cases ru;obtain⟨au,r,⟨o,e,c1,n,c3⟩,z⟩:=I.tuple hq;exact IsiPair.tuple_list e c1 ⟨.bl false,H,I.tok _,rfl,q⟩
inductive cF (K:Frag) (xs:List V) (H:Hp) (Q:VK):Prop
 | mk (x:_) (b:_):xs=[x,.ty "tuple"]->oQ K H x b->Q (.bl b) H->cF K xs H Q
theorem JZ:wX X (.builtin "isinstance") (cF X.K):=by
 intro pins s σ H xs us Q I r h;obtain⟨x,b,rfl,e,q⟩:=h;obtain⟨u,t,rfl,ru,rt⟩:=r.two;cases rt;cases e with
 | yes hq =>
   cases ru;obtain⟨au,r,⟨o,e,c1,n,c3⟩,z⟩:=I.tuple hq;exact IsiPair.tuple_tuple e c1 ⟨.bl true,H,I,rfl,q⟩
 | no hq =>
   cases ru;obtain⟨au,r,⟨o,n,e,c1,c2,c3⟩,z⟩:=I.list hq;exact IsiPair.list_tuple e c1 ⟨.bl false,H,I.tok _,rfl,q⟩
def J0(K:Frag)(te ts:TE):TE:=λσ H Q=>te σ H λx H1=>ts σ H1 λy H2=>y=.int (-1)/\∃a xs,x=.ref a/\ag K H2 a xs/\∀p,H2 p=none->Q (.ref p) (upd H2 p (.lst xs.reverse))
theorem CW{e st:Expr}{te ts:TE}{p2 pos:Pos}(he:PE X e te)(iH:PE X st ts):PE X (.Subscript e (.Slice none none (some st) p2) pos) (J0 X.K te ts):=by
 intro pins s σ H Q I h;refine Subscript_ (aF (he pins s σ H _ I h) λv s1 ⟨x,H1,I1,r1,q1⟩=>?_);refine wpAny_Slice ?_;rw[evalPart_none];refine wpAny_pure (wpAny_pure ?_);rw[evalPart_some];refine aF (iH pins s1 σ H1 _ I1 q1) λu s3 ⟨y,H3,I3,r3,q3⟩=>?_;obtain⟨rfl,a,xs,rfl,hx,q⟩:=q3;obtain⟨t,rfl⟩:=r3;cases r1;have I4:Inv X pins σ H3 { s3 with heap:=s3.heap.push { cls:=.type "slice",data:=.fields #[.none,.none,.int (-1) t] } }:=I3.kept (t':=s3.toks) λb ob q=>get?_push_of_some _ q;obtain⟨au,r,ht,hz⟩:=I4.list hx;have hlen:=r.length;show wpAny (model X.prog X.w) X.A (subscriptTail e (.Slice none none (some st) p2) (.ref a) (.ref s3.heap.objs.size)) (EP X pins σ Q) X.xe { s3 with heap:=s3.heap.push { cls:=.type "slice",data:=.fields #[.none,.none,.int (-1) t] } };refine tail_any (ops:=[.ref a,.ref s3.heap.objs.size]) ht.isList.typeIs slot_list_getitem.lookup ?_ (by with_unfolding_all rfl);refine wpAny_getItem_list_slice ht.isList (Heap.IsSliceOf.new ..) .none .none (.int (-1) t) (by decide) ?_ (by rw[size_toArray] <;> omega);rw[PySem.W.krv_pick];refine⟨.ref _,_,I4.laid (t':=s3.toks) (o:=.lst xs.reverse) (λb ob q=>get?_push_of_some _ q) (le_refl _) ?_,rfl,q _ (I4.aC.fresh (le_refl _))⟩;exact⟨by rw[List.length_reverse];exact hz,_,0,r.reverse,get?_push_size _ rfl⟩
end
structure aB (P:Program) (w:World) (K:Frag) (mg:Str->Option Value) (base:Heap) (k:Nat) (x:Str) (ps:List Str) (sp:Sp):Prop where
 ex:∃f fd,av P w K mg base aQ k f fd ps sp/\mg x=some (.ref f)/\keepIn K (.ref f)=true/\Binds K fd ps []
variable {P:Program}{mg:Str->Option Value}{base:Heap}{x qual:Str}{ps:List Str}{sp:Sp}{f:Addr}{fd:FuncData}{st:Stmt}
theorem aB.of
 (F:aN K x qual st f fd) (G:av P w K mg base aQ k f fd ps sp) (hm:mg x=some (.ref f)) (b:Binds K fd ps []):aB P w K mg base k x ps sp:=⟨f,fd,G,hm,F.kp,b⟩
section
variable {X:Cx}{k:Nat}{x:Str}{ps:List Str}{sp:Sp}{p pos:Pos}{e:Expr}{es:List Expr}{t:TA}
theorem zi(C:aB X.prog X.w X.K X.mg X.base k x ps sp)(hr:aU k X.A)(hg:Gl X x)(ha:PA X (e::es) t)(gU:(x==("__debug__":Str))=false:=by decide)(he:starEach (e::es) X.env=(false,eval e X.env)::starEach es X.env:=by rfl)
 (hpl:(backTo pos (starEach es X.env)).any (·.1)=false:=by rfl):PE X (.Call (.Name x p) (e::es) [] pos) (vb sp [] E0 t):=by
 obtain⟨f,fd,F,hm,hk,hb⟩:=C.ex;exact sU F hr hg hm hk hb .nil vi ha gU he hpl
end
variable {c:St}{te:TE}{fin:List V->Hp->Prop}
theorem y9{tc:TT}(Pv:Nat->List V->Hp->Prop)(h0:Pv 0 [] H)(hl:∀i ys H,i<=xs.length->Pv i ys H->ag K H a xs/\ys.length<=i)(hz:xs.length<=sizeLine)
 (hs:∀i x ys H,xs[i]? = some x->Pv i ys H->tc (some x::c) H λb H2=>if b=true then te (some x::c) H2 λy H3=>Pv (i+1) (ys++[y]) H3 else Pv (i+1) ys H2)
 (hd:∀ys H,Pv xs.length ys H->fin ys H):oF (kF K a) c tc te H fin:=by
 refine⟨λi m ys H=>m=xs.length-i/\i<=xs.length/\Pv i ys H,⟨xs.length,by simp,zero_le _,h0⟩,?_⟩;rintro i m ys H ⟨rfl,hi,p⟩;obtain⟨q,hy⟩:=hl i ys H hi p;by_cases bI:i<xs.length
 ·refine .inr ⟨⟨xs,xs[i],q,by simp[bI]⟩,by omega,Pv (i+1),λys' H' p'=>⟨_,by omega,rfl,bI,p'⟩,λx H' y=>?_⟩;obtain⟨e,y⟩:=y;subst e;exact hs i x ys _ (y xs q) p
 ·have e:i=xs.length:=by omega
  subst e;exact .inl ⟨⟨xs,q,le_refl _⟩,by omega,hd ys H p⟩
variable {n:Nat}
theorem Qb{lo:Int}{tc:TT}(Pv:Nat->List V->Hp->Prop)(h0:Pv 0 [] H)(hl:∀i ys H,i<=n->Pv i ys H->ys.length<=i)(hz:n<=sizeLine)
 (hs:∀i ys H,i<n->Pv i ys H->tc (some (.int (lo+i))::c) H λb H2=>if b=true then te (some (.int (lo+i))::c) H2 λy H3=>Pv (i+1) (ys++[y]) H3 else Pv (i+1) ys H2)
 (hd:∀ys H,Pv n ys H->fin ys H):oF (sM lo n) c tc te H fin:=by
 refine⟨λi m ys H=>m=n-i/\i<=n/\Pv i ys H,⟨n,by simp,zero_le _,h0⟩,?_⟩;rintro i m ys H ⟨rfl,hi,p⟩;have hy:=hl i ys H hi p;by_cases bI:i<n
 ·refine .inr ⟨bI,by omega,Pv (i+1),λys' H' p'=>⟨_,by omega,rfl,bI,p'⟩,λx H' y=>?_⟩;obtain⟨e,y⟩:=y;subst e y;exact hs i ys _ bI p
 ·have e:i=n:=by omega
  subst e;exact .inl ⟨le_refl _,by omega,hd ys H p⟩
theorem yq(Pv:Nat->List V->Hp->Prop)(h0:Pv 0 [] H)(hl:∀i ys H,i<=xs.length->Pv i ys H->ag K H a xs/\ys.length<=i)(hz:xs.length<=sizeLine)
 (hs:∀i x ys H,xs[i]? = some x->Pv i ys H->te (some x::c) H λy H3=>Pv (i+1) (ys++[y]) H3) (hd:∀ys H,Pv xs.length ys H->fin ys H):oF (kF K a) c iS te H fin :=
 y9 Pv h0 hl hz (λi x ys H e p=>iR (B:=Pv (i+1) ys H) (hs i x ys H e p)) hd
theorem FR{lo:Int}(Pv:Nat->List V->Hp->Prop)(h0:Pv 0 [] H)(hl:∀i ys H,i<=n->Pv i ys H->ys.length<=i)(hz:n<=sizeLine)
 (hs:∀i ys H,i<n->Pv i ys H->te (some (.int (lo+i))::c) H λy H3=>Pv (i+1) (ys++[y]) H3) (hd:∀ys H,Pv n ys H->fin ys H):oF (sM lo n) c iS te H fin :=
 Qb Pv h0 hl hz (λi ys H e p=>iR (B:=Pv (i+1) ys H) (hs i ys H e p)) hd
theorem CY{i:Int}(h:∃t,X.mg x=some (.int i t))(hg:Gl X x)(hd:(x==("__debug__":Str))=false:=by decide):PE X (.Name x pos) (tC (.int i)):=by
 obtain⟨t,h⟩:=h;exact jE hg h ⟨t,rfl⟩ hd
theorem yr{c:Prop} [Decidable c](h1:c->A)(h2:¬c->B):if decide c=true then A else B:=by
 by_cases h:c
 ·rw[if_pos (decide_eq_true h)];exact h1 h
 ·rw[if_neg (by rw[decide_eq_false h];exact Bool.false_ne_true)];exact h2 h
theorem yi{c:Prop} [Decidable c](h1:¬c->A)(h2:c->B):if(!decide c)=true then A else B:=by
 by_cases h:c
 ·rw[decide_eq_true h];exact yY (h2 h)
 ·rw[decide_eq_false h];exact iR (h1 h)
variable {b:Bool}
theorem vp(h1:b=true->A)(h2:b=false->B):if b=true then A else B:=by
 cases b with
 | true=>exact iR (h1 rfl)
 | false=>exact yY (h2 rfl)
theorem ae.new{o:HO}(h:H l=Option.none):ae H (upd H l o):=λb u e=>by rw[zh (zj e h)];exact e
theorem ae.ar{o:HO}(s:ae H H')(h:H' l=Option.none):ae H (upd H' l o):=s.trans (ae.new h)
theorem ae.put{o:HO}(s:ae H H')(h:H l=Option.none):ae H (upd H' l o):=λb u e=>by rw[zh (zj e h)];exact s b u e
theorem ae.ia(e:ae H H')(h:bN K H a xs):bN K H' a xs:=by
 rcases h with(h | ⟨o,h⟩) | h
 ·exact .inl (.inl (e _ _ h))
 ·exact .inl (.inr ⟨o,e _ _ h⟩)
 ·exact .inr h
theorem ag.new:ag K (upd H l (.lst xs)) l xs:=ag.of zc
theorem bN.new:bN K (upd H l (.tup xs)) l xs:=bN.of zc
theorem oR{i:Int}{v:V}(h0:0<=i)(h:xs[i.toNat]? = some v):cH xs i=some v:=by
 have:=zC h
 rwa [Int.toNat_of_nonneg h0]at this
variable {ns:List Int}{i:Nat}
theorem mS(h:i<ns.length):(ns.map V.int)[i]? = some (.int (ns.getD i 0)):=by
 rw[getElem?_map,getElem?_eq_getElem h,getD_eq_getElem?_getD,getElem?_eq_getElem h];rfl
theorem tw{i:Int}(h0:0<=i)(h:i<ns.length):cH (ns.map V.int) i=some (.int (ns.getD i.toNat 0)):=oR h0 (mS (by omega))
theorem zy(ns:List Int):(ns.map V.int).all wO=true:=by
 rw[all_map];exact List.all_eq_true.mpr λ_ _=>rfl
theorem tD(ns:List Int)(c:Int):CU (ns.map V.int) (.int c)=ns.idxOf c:=by
 unfold CU
 induction ns with
 | nil=>rfl
 | cons a ns ih =>
   rw[map_cons,findIdx_cons,List.idxOf_cons,ih];rfl
theorem Uv(ns:List Int)(c:Int):(ns.map V.int).countP (λz=>gh z (.int c))=ns.count c:=by
 induction ns with
 | nil=>rfl
 | cons a ns ih=>rw[map_cons,countP_cons,List.count_cons,ih];rfl
theorem J6(ns:List Int)(c:Int):vg (.int c) (ns.map V.int)=decide (c∈ns):=by
 unfold vg
 induction ns with
 | nil=>rfl
 | cons a ns ih =>
   rw[map_cons,any_cons,ih];show((a==c) || _)=_;by_cases h:a=c
   ·subst h;simp
   ·have:¬c=a:=λe=>h e.symm;simp[h,this]
theorem FT{k:Int}(h:0<=k):kP xs (some k) none=xs.drop k.toNat:=by
 obtain⟨n,rfl⟩:=Int.eq_ofNat_of_zero_le h;unfold kP;rw[HT.gW];show(xs.drop (HT.gf xs.length 0 (some ((n:Nat):Int)))).take _=_;rw[HT.eD,Int.toNat_natCast];by_cases h:n<=xs.length
 ·rw[Nat.min_eq_left h,take_of_length_le (by rw[length_drop];exact le_refl _)]
 ·rw[Nat.min_eq_right (by omega),drop_of_length_le (le_refl _),drop_of_length_le (by omega),take_nil]
theorem FU{k:Int}(h:0<=k):kP xs none (some k)=xs.take k.toNat:=by
 obtain⟨n,rfl⟩:=Int.eq_ofNat_of_zero_le h;unfold kP;rw[HT.gW,List.drop_zero];show xs.take (HT.gf xs.length xs.length (some ((n:Nat):Int))-0)=_;rw[HT.eD,Int.toNat_natCast,Nat.sub_zero];by_cases h:n<=xs.length
 ·rw[Nat.min_eq_left h]
 ·rw[Nat.min_eq_right (by omega),take_of_length_le (le_refl _),take_of_length_le (by omega)]
theorem wt{k:Int}(h:0<=k):kP (ns.map V.int) (some k) none=(ns.drop k.toNat).map V.int:=by rw[FT h,map_drop]
theorem wN{k:Int}(h:0<=k):kP (ns.map V.int) none (some k)=(ns.take k.toNat).map V.int:=by rw[FU h,map_take]
theorem zt:1000000<=sizeLine:=by decide
theorem oT{i:Int}(h0:0<=i)(h1:i<n):seqIndex? i n=some i.toNat:=by
 have e:(if i<0 then i+(n:Int)else i)=i:=if_neg (by omega);unfold seqIndex?;simp only[e];rw[if_pos (by simp only[Bool.and_eq_true,decide_eq_true_eq];exact⟨h0,h1⟩)]
theorem Qc{α β:Type}(f:α->β):∀(l:List α)(i:Nat),(l.map f).eraseIdx i=(l.eraseIdx i).map f
 | [],_=>rfl
 | _::_,0=>rfl
 | a::l,i+1=>by
   show f a::(l.map f).eraseIdx i=f a::(l.eraseIdx i).map f;rw[Qc f l i]
theorem Qd{α:Type}:∀(l:List α)(i:Nat)(h:i<l.length),(l[i]::l.eraseIdx i).Perm l
 | a::l,0,_=>List.Perm.refl _
 | a::l,i+1,h=>(List.Perm.swap a (l[i]'(by simpa using h)) (l.eraseIdx i)).trans ((Qd l i (by simpa using h)).cons a)
theorem y6(hi:i<ns.length):ns.take (i+1)=ns.take i++[ns.getD i 0]:=by
 rw[take_succ,getElem?_eq_getElem hi,getD_eq_getElem?_getD,getElem?_eq_getElem hi];rfl
theorem yD{x:V}(hx:(ns.map V.int)[i]? = some x):i<ns.length/\x=.int (ns.getD i 0):=by
 have hi:i<ns.length:=by have:=(List.getElem?_eq_some_iff.mp hx).1;rwa [length_map]at this
 refine⟨hi,?_⟩;rw[mS hi]at hx;exact(Option.some.inj hx).symm
theorem Bq(hi:i<ns.length):ns.getD i 0=ns[i]:=by rw[getD_eq_getElem?_getD,getElem?_eq_getElem hi];rfl
theorem oU(hi:i<ns.length):ns.getD i 0∈ns:=by rw[Bq hi];exact getElem_mem hi
theorem oV(ns:List Int)(x:Int):ns.map V.int++[V.int x]=(ns++[x]).map V.int:=by rw[map_append];rfl
theorem jL(ns:List Int)(x:Int):upd H l (.lst (ns.map V.int++[V.int x])) l=some (.lst ((ns++[x]).map V.int)):=zc.trans (congrArg (λl=>some (HO.lst l)) (oV ns x))
def dG:List V->List V->Bool
 | [],[]=>true
 | x::xs,y::ys=>gh x y && dG xs ys
 | _,_=>false
def jM(xs ys:List V)(j:Nat):Bool:=match xs[j]?,ys[j]? with
 | some x,some y=>gh x y
 | _,_=>false
theorem J7:∀{xs ys:List V},xs.length=ys.length->(List.range xs.length).all (jM xs ys)=dG xs ys
 | [],[],_=>rfl
 | x::xs,y::ys,h=>by
   have h':xs.length=ys.length:=by simpa using h
   show(List.range (xs.length+1)).all _=(gh x y && dG xs ys);rw[range_succ_eq_map,all_cons,all_map,<-J7 h'];rfl
theorem J9:∀{xs ys:List V},xs.length≠ys.length->dG xs ys=false
 | [],[],h=>absurd rfl h
 | [],_::_,_=>rfl
 | _::_,[],_=>rfl
 | x::xs,y::ys,h=>by
   show(gh x y && dG xs ys)=false;rw[J9 (λe=>h (by simp[e])),Bool.and_false]
theorem yx:∀(ns ms:List Int),dG (ns.map V.int) (ms.map V.int)=decide (ns=ms)
 | [],[]=>rfl
 | [],_::_=>rfl
 | _::_,[]=>rfl
 | a::ns,b::ms=>by
   show((a==b) && dG (ns.map V.int) (ms.map V.int))=_;rw[yx ns ms];by_cases h:a=b
   ·subst h;simp
   ·simp[h]
theorem oW{A:Around}{ys:List V}{us vs:List Value}(ru:Vals xs us)(rv:Vals ys vs)(fx:xs.all wO=true)(fy:ys.all wO=true):
 ∀j (h1:j<us.toArray.size) (h2:j<vs.toArray.size),SeqAt.EqAt A s us.toArray[j] vs.toArray[j] (jM xs ys j):=λj h1 h2=>by
 have l1:=ru.length;have l2:=rv.length;have Uw:j<us.length:=by simpa using h1
 have Br:j<vs.length:=by simpa using h2
 obtain⟨u,eu,r1⟩:=ru.get (i:=j) (x:=xs[j]) (getElem?_eq_getElem (by omega));obtain⟨v,ev,r2⟩:=rv.get (i:=j) (x:=ys[j]) (getElem?_eq_getElem (by omega));have e1:us.toArray[j]=u:=by rw[getElem_toArray];rw[getElem?_eq_getElem Uw]at eu;exact Option.some.inj eu
 have e2:vs.toArray[j]=v:=by rw[getElem_toArray];rw[getElem?_eq_getElem Br]at ev;exact Option.some.inj ev
 rw[e1,e2];have ej:jM xs ys j=gh xs[j] ys[j]:=by unfold jM;rw[getElem?_eq_getElem (by omega),getElem?_eq_getElem (by omega)]
 rw[ej];exact ow r1 r2 (List.all_eq_true.mp fx _ (getElem_mem _)) (List.all_eq_true.mp fy _ (getElem_mem _))
section
variable {X:Cx}
inductive vq (K:Frag) (x y:V) (H:Hp) (Q:VK):Prop
 | mk (a:_) (b:_) (xs:_) (ys:_):x=.ref a->y=.ref b->ag K H a xs->ag K H b ys->xs.all wO=true->ys.all wO=true->Q (.bl (dG xs ys)) H->vq K x y H Q
def Ka(K:Frag):R2:=λx y H Q=>vq K x y H Q
theorem Kb(hu:X.A.units<cLine):cV X (compareOp .Eq) (Ka X.K):=by
 intro pins s σ H x y v u Q I rx ry h;obtain⟨a,b,xs,ys,rfl,rfl,ha,hb,fx,fy,q⟩:=h;cases rx;cases ry;obtain⟨au,r1,p1,z1⟩:=I.list ha;obtain⟨dE,r2,p2,z2⟩:=I.list hb;have l1:=r1.length;have l2:=r2.length;by_cases hl:xs.length=ys.length
 ·refine SeqAt.eq_listAt p1.isList p2.isList (by simp;omega) hu (oW r1 r2 fx fy) ⟨.bl (dG xs ys),H,I,?_,q⟩;rw[size_toArray,<-l1,J7 hl];rfl
 ·refine SeqAt.eq_list_lengthsAt p1.isList p2.isList (by simp;omega) hu ⟨.bl (dG xs ys),H,I,?_,q⟩;rw[J9 hl];rfl
theorem Ux{ns:List Int}:∀{us:List Value},IntsAre us ns->Vals (ns.map V.int) us:=by
 intro us h
 induction h with
 | nil=>exact .nil
 | cons n t _ ih=>exact .cons ⟨t,rfl⟩ ih
inductive dr (K:Frag) (xs:List V) (H:Hp) (Q:VK):Prop
 | mk (a:Addr) (ns:List Int):xs=[.ref a]->ag K H a (ns.map V.int)->ns.length<64->(∀(l:Addr)(ms:List Int),H l=none->ms.Perm ns->ms.Pairwise (·<= ·)->Q (.ref l) (upd H l (.lst (ms.map V.int))))->dr K xs H Q
theorem Kc:wX X (.builtin "sorted") (dr X.K):=by
 intro pins s σ H xs us Q I r h;obtain⟨a,ns,rfl,hS,hz,q⟩:=h;obtain⟨u,rfl,ru⟩:=r.one;cases ru;obtain⟨au,r1,p1,z1⟩:=I.list hS;have l1:=r1.length;rw[length_map]at l1;refine sorted_ints p1.isList (Bl r1) (by omega) λout vt hI hp hw=>?_;obtain⟨e,he⟩:=sortedAll_at s.heap au out;have hf:H (s.heap.objs.size+1)=none:=I.aC.fresh (le_succ _);have hv:=Ux hI;have hlen:vt.length<64:=by rw[hp.length_eq];exact hz
 refine⟨.ref (s.heap.objs.size+1),upd H (s.heap.objs.size+1) (.lst (vt.map V.int)),I.laid (t':=s.toks) (λb o e=>sortedAll_old e) (le_succ _) ⟨?_,out.toList,e,hv,?_⟩,rfl,q _ vt hf hp hw⟩
 ·rw[length_map];have:=zt;omega
 ·exact he
theorem oX{bs:List Bool}{us:List Value}(r:Vals (bs.map V.bl) us){i:Nat}{v:Value}(h:us[i]? = some v):v=.bool (bs.getD i false):=by
 have hl:=r.length;rw[length_map]at hl;have hi:i<bs.length:=by rw[hl];exact(List.getElem?_eq_some_iff.mp h).1
 obtain⟨u,e,ru⟩:=r.get (i:=i) (x:=.bl bs[i]) (by rw[getElem?_map,getElem?_eq_getElem hi];rfl);rw[e]at h;cases h;rw[getD_eq_getElem?_getD,getElem?_eq_getElem hi];exact ru
theorem range_all(bs:List Bool):(List.range bs.length).all (λi=>bs.getD i false)=bs.all id:=by
 induction bs with
 | nil=>rfl
 | cons b bs ih =>
   rw[length_cons,range_succ_eq_map,all_cons,all_map,all_cons,<-ih];rfl
inductive fZ (K:Frag) (xs:List V) (H:Hp) (Q:VK):Prop
 | mk (a:Addr) (bs:List Bool):xs=[.ref a]->ag K H a (bs.map V.bl)->Q (.bl (bs.all id)) H->fZ K xs H Q
theorem Kd(hc:X.calm=true):wX X (.builtin "all") (fZ X.K):=by
 intro pins s σ H xs us Q I r h;obtain⟨a,bs,rfl,hS,q⟩:=h;obtain⟨u,rfl,ru⟩:=r.one;cases ru;obtain⟨au,r1,p1,z1⟩:=I.list hS;have l1:=r1.length;rw[length_map]at l1;have bI:a<s.heap.objs.size:=by obtain⟨o,n,e,_⟩:=p1;exact lt_size e
 refine call_all_walk (wpAny_pyIter_list p1.isList ?_);have I1:Inv X pins σ H { s with heap:=s.heap.push { cls:=.type "list_iterator",data:=.fields #[.ref a,.int 0 0] } }:=I.kept (t':=s.toks) λb o e=>get?_push_of_some _ e;refine⟨s.heap.objs.size,_,_,au.toArray.size,_,_,λi=>bs.getD i false,rfl,Walks.list (by simpa using I.ok.hd hc) s.heap.objs.size a (ne_of_lt bI) au.toArray,⟨⟨_,get?_push_size _ rfl,rfl,rfl⟩,p1.isList.push _⟩,?_,λh' tk hk=>?_⟩
 ·intro i v s' Q' E' hP hQ;have:=oX r1 (i:=i) (v:=v) (by simpa using hP);subst this;exact wpAny_truthy_bool hQ
 ·have f:=I.eO (H':=H) (le_refl _) (I.aC.fresh (le_refl _));refine⟨.bl (bs.all id),H,I1.turned (it:=s.heap.objs.size) (λb o hb e=>hk b o (by simpa using hb) e) f.1 f.2.1 f.2.2.2.1 f.2.2.2.2.1 f.2.2.2.2.2,?_,q⟩;rw[size_toArray,<-l1,range_all];rfl
theorem Uy(hc:X.calm=true):wX X (.type "set") (λxs H Q=>∃(a:Addr)(ns:List Int),xs=[.ref a]/\ag X.K H a (ns.map V.int)/\ns.length<4000 /\
 ∀l,H l=none->Q (.ref l) (upd H l (.set (λk=>(firstMet (λi=>ns.getD i 0) ns.length).any (·== k)) (firstMet (λi=>ns.getD i 0) ns.length).length))):=by
 intro pins s σ H xs us Q I r h;obtain⟨a,ns,rfl,hS,hz,q⟩:=h;obtain⟨u,rfl,ru⟩:=r.one;cases ru;obtain⟨au,r1,p1,z1⟩:=I.list hS;have l1:=r1.length;rw[length_map]at l1;have tu:scanBound=4096:=rfl;refine call_set_list (ns:=ns) (I.ok.hd hc) p1.isList (by simpa using Bl r1) (by rw[size_toArray];omega) λh' tk CZ hk=>?_;have Ke:au.toArray.size=ns.length:=by rw[size_toArray];omega
 rw[Ke]at CZ;refine⟨.ref s.heap.objs.size,_,I.laid (t':=tk) (o:=.set _ _) (λb o e=>hk b o (lt_size e) e) (le_refl _) CZ,rfl,q _ (I.aC.fresh (le_refl _))⟩
theorem call_len_set:wX X (.builtin "len") (λxs H Q=>∃a S n,xs=[.ref a]/\H a=some (.set S n)/\Q (.int n) H):=by
 intro pins s σ H xs us Q I r h;obtain⟨a,S,n,rfl,hS,q⟩:=h;obtain⟨u,rfl,ru⟩:=r.one;cases ru;obtain⟨o,es,ep,t,ho,hex,hd,_,_,hsz,hf,hn⟩:=I.aC a _ hS;have tu:scanBound=4096:=rfl;refine PySem.call_len_set ho hex hd hf (by omega) ⟨.int n,H,I.tok _,⟨s.toks+1,?_⟩,q⟩;rw[hn]
end
theorem Uz(ns:List Int):firstMet (λi=>ns.getD i 0) ns.length=ns.foldl step_dedup []:=by
 unfold firstMet;congr 1;refine ext_getElem (by simp) λi h1 h2=>?_;rw[getElem_map,getElem_range,getD_eq_getElem?_getD,getElem?_eq_getElem h2];rfl
theorem oY(acc ns:List Int):(ns.foldl step_dedup acc).length<=acc.length+ns.length:=by
 induction ns generalizing acc with
 | nil=>exact le_refl _
 | cons a ns ih =>
   rw[foldl_cons];refine le_trans (ih _) ?_;rw[step_length,length_cons];split <;> omega
theorem UA(acc ns:List Int)(da:acc.Nodup):(ns.foldl step_dedup acc).length=acc.length+ns.length↔(acc++ns).Nodup:=by
 induction ns generalizing acc with
 | nil=>simpa using da
 | cons a ns ih =>
   rw[foldl_cons];by_cases h:acc.any (·== a)=true
   ·have e:step_dedup acc a=acc:=by unfold step_dedup;rw[if_pos h]
    rw[e];have hm:a∈acc:=by
     obtain⟨x,hx,hb⟩:=List.any_eq_true.mp h;have:x=a:=by simpa using hb
     rw[<-this];exact hx
    constructor
    ·intro q;have:=oY acc ns;rw[length_cons]at q;omega
    ·intro q;rw[nodup_append]at q;exact absurd rfl (q.2.2 a hm a mem_cons_self)
   ·have e:step_dedup acc a=acc++[a]:=by unfold step_dedup;rw[if_neg h]
    have hm:a∉acc:=λhm=>h (List.any_eq_true.mpr ⟨a,hm,by simp⟩);have hn:(acc++[a]).Nodup:=by
     rw[nodup_append];exact⟨da,by simp,λx hx y hy z=>hm (by rw[List.mem_singleton.mp hy]at z;rw[<-z];exact hx)⟩
    rw[e];have:=ih (acc++[a]) hn;rw[append_assoc,List.singleton_append]at this;rw[<-this,length_append,length_singleton,length_cons];omega
theorem Qe(ns:List Int):(firstMet (λi=>ns.getD i 0) ns.length).length=ns.length↔ns.Nodup:=by
 rw[Uz];have:=UA [] ns List.nodup_nil
 simpa using this
inductive vv (t:TS) (D:Ends) (σ:St) (H:Hp):Prop
 | mk (P:St->Hp->Prop):t { D with nx:=P } σ H->(∀σ' H',P σ' H'->D.nx σ' H')->vv t D σ H
def Kf(t:TS):TS:=λD σ H=>vv t D σ H
theorem jN{t:TS}(h:PS X st t):PS X st (Kf t):=by
 intro pins s σ H D I hw;obtain⟨P,h1,h2⟩:=hw;refine aF (h pins s σ H _ I h1) λf s' q=>?_;cases f with
 | next=>obtain⟨σ',H',I',q⟩:=q;exact⟨σ',H',I',h2 _ _ q⟩
 | brk=>exact q
 | cont=>exact q
 | ret u=>exact q
structure iz (P:Program) (w:World) (outer:List Env) (H:Hp) (s:Shared) (x:Addr) (cls:Value) (H':Hp) (s':Shared):Prop where
 os:s'.os=s.os
 bare:AllBare s'.gens
 ex:∃B a0,FlyingW B outer x cls a0 s'.heap/\cE P w H' B/\(∀b o,s.heap.get? b=some o->H b=none->b∉cf outer->B.get? b=some o)/\∀b o,s.heap.get? b=some o->b∉cf outer->∃o',B.get? b=some o'
 slot:∀b o,s.heap.get? b=some o->H b=none->b∈cf outer->∃sl,s'.heap.get? b=some { o with slots:=sl }
 free:∀b o,s.heap.get? b=some o->H b=none->H' b=none
 bH:∀b xs,H b=some (.tup xs)->H' b=some (.tup xs)
 bB:∀b o u,H b=some (.kD o u)->H' b=some (.kD o u)
 bM:∀b ps,H b=some (.bW ps)->∃more,H' b=some (.bW (ps++more))
 new:H' x=none
def fC(P:Program)(w:World):mR:=λouter H s E e s'=>∃x cls H',e=.ref x/\iz P w outer H s x cls H' s'/\E cls none H'
section
variable {P:Program}{w:World}{outer:List Env}{H H':Hp}{s s':Shared}{x:Addr}{cls:Value}
theorem aX.obj{H:Hp}{h:Heap}{a:Addr}{o:HO}(x:aX P w H h a o):∃ob,h.get? a=some ob:=by
 cases o with
 | lst xs=>obtain⟨_,_,_,_,e⟩:=x;exact⟨_,e⟩
 | tup xs=>obtain⟨_,_,_,ob,e,_⟩:=x;exact⟨ob,e⟩
 | dK aw=>obtain⟨_,_,_,_,o,_,_,e,_⟩:=x;exact⟨o,e⟩
 | dT aw=>obtain⟨_,_,_,_,o,_,_,e,_⟩:=x;exact⟨o,e⟩
 | set S n=>obtain⟨o,_,_,_,e,_⟩:=x;exact⟨o,e⟩
 | ins C dx fs=>obtain⟨_,_,_,e,_⟩:=x;exact⟨_,e⟩
 | own y=>obtain⟨o,e⟩:=x;exact⟨o,e⟩
 | xd fs=>obtain⟨_,⟨o,_,_,e,_⟩,_⟩:=x;exact⟨o,e⟩
 | fH lo hi=>obtain⟨_,_,_,e⟩:=x;exact⟨_,e⟩
 | kD ob u=>obtain⟨e,_⟩:=x;exact⟨_,e⟩
 | bW ps=>exact⟨_,(show h.get? a=some _ from x)⟩
 | met f y=>exact⟨_,(show h.get? a=some _ from x)⟩
 | ext φ=>obtain⟨_,⟨o,e⟩,_⟩:=x;exact⟨o,e⟩
theorem iz.un(f:iz P w outer H s x cls H' s'){B h:Heap}{a0:Value}{l:List Env}(hB:cE P w H' B)(k1:∀b o,s.heap.get? b=some o->H b=none->b∉cf outer->B.get? b=some o)(k2:∀b o,s.heap.get? b=some o->b∉cf outer->∃o',B.get? b=some o')
 (st:B.StaysIn h) (sl:∀b o,s.heap.get? b=some o->H b=none->b∈cf outer->∃q,h.get? b=some { o with slots:=q }) (nf:∀b∈cf outer,H b=none):Un (cf outer) [] H H' s.heap h where
 keep:=λb o q n hb _=>st b o (k1 b o q n hb)
 slot:=λb o q n hb _=>sl b o q n hb
 free:=λb o q n _=>f.free b o q n
 there:=λb o q _=>by
  by_cases hb:b∈cf outer
  ·obtain⟨z,e⟩:=sl b o q (nf b hb) hb;exact⟨_,e⟩
  ·obtain⟨o',e⟩:=k2 b o q hb;exact⟨o',st b o' e⟩
 bH:=f.bH
 bB:=f.bB
 bM:=f.bM
end
section
variable {X:Cx}{pins:List (Addr×Obj)}{σ:St}{H H':Hp}{s s':Shared}{x:Addr}{cls:Value}
variable {b:Addr}{o:Obj}
theorem Inv.xZ(I:Inv X pins σ H s)(hb:b∈cf X.stack)(e:s.heap.get? b=some o):∀vs,o.data ≠ .fields vs:=by
 obtain⟨_,o',e',d⟩:=I.stack.mem hb;rw[e]at e';cases e';exact d
def Bs(h:Heap)(l:List Env):Heap:=hideAll h (cf l)
theorem Kg{h:Heap}{l:List Env}(e:h.get? b=some o)(n:b∉cf l):(Bs h l).get? b=some o:=hideAll_get _ e n
theorem UB{h:Heap}{l:List Env}(e:(Bs h l).get? b=some o):h.get? b=some o:=of_hideAll _ e
theorem Inv.tE(I:Inv X pins σ H s):cE X.prog X.w H (Bs s.heap X.stack):=λa o e =>
 (I.aC a o e).bQ (λb u hb q=>Kg q λz=>by
   have n:=I.cU b z;rcases hb with hb | hb
   ·rw[hb,e]at n;cases n
   ·rw[n]at hb;cases hb) (λ_ q=>q) λ_ _ q=>q
end
abbrev XW:=St->Value->Hp->Prop
def Fl(X:Cx)(W:XW):Prop:=∀(pins:List (Addr×Obj)) (σ:St) (H:Hp) (s:Shared) (x:Addr) (cls:Value) (H':Hp) (s':Shared),Inv X pins σ H s->iz X.prog X.w X.stack H s x cls H' s'->W σ cls H'->X.xe (.ref x) s'
def Md(X:Cx)(W:XW):Prop:=∀(pins:List (Addr×Obj)) (σ:St) (H:Hp) (s:Shared) (x:Addr) (cls:Value) (args:List Value) (h':Heap),Inv X pins σ H s->Heap.MadeExcOf s.heap h' x cls args->W σ cls H->X.xe (.ref x) { s with heap:=h' }
section
variable {P:Program}{w:World}{K:Frag}{mg:Str->Option Value}{base:Heap}{N:List Str}{qual:Str}{scope:Scope}{f:Addr}{cd:Value}{A:Around}{outer:List Env}{s0:Shared}{H0:Hp}{E:XK}
theorem tF:Fl (eR (fC P w) P w K mg base N qual scope f cd A outer s0 H0 E) λ_ cls H'=>E cls none H':=by
 intro pins σ H s x cls H' s' I fl hE;obtain⟨B,a0,eG,hB,k1,k2⟩:=fl.ex;have iH:cf (envOfC qual scope s0.heap.objs.size f cd::outer)=s0.heap.objs.size::cf outer:=rfl;have old:∀b o,s0.heap.get? b=some o->b∉cf outer->b∉cf (envOfC qual scope s0.heap.objs.size f cd::outer):=λb o e hb=>by
  rw[iH];exact λz=>(List.mem_cons.mp z).elim (λq=>absurd (lt_size e) (by rw[q];exact lt_irrefl _)) hb
 refine wpAny_leaves_onW (base:=B) (L:=s0.heap.objs.size) I.ok.frames rfl eG λh2 ib up=>?_;refine⟨x,cls,H',rfl,⟨fl.os.trans I.os,fl.bare,⟨B,a0,ib,hB,λb o e n hb=>?_,λb o e hb=>?_⟩,λb o e n hb=>?_,λb o e n=>?_,λb xs e=>fl.bH b xs (I.base.bH b xs e),λb o u e=>fl.bB b o u (I.base.bB b o u e),λb ps e=>?_,fl.new⟩,hE⟩
 ·exact k1 b o (I.base.keep b o e n hb (by simp[eR])) (I.base.free b o e n (by simp[eR])) (old b o e hb)
 ·obtain⟨o1,e1⟩:=I.base.there b o e (by simp[eR]);exact k2 b o1 e1 (old b o e hb)
 ·obtain⟨sl,e1⟩:=I.base.slot b o e n hb (by simp[eR]);obtain⟨rP,e2⟩:=fl.slot b _ e1 (I.base.free b o e n (by simp[eR])) (mem_cons_of_mem _ hb);obtain⟨_,o',e',d⟩:=I.ok.bX.mem hb;have eo:o'=o:=by
   have Dc:s0.heap.get? b=some o':=e';rw[e]at Dc;exact(Option.some.inj Dc).symm
  subst eo;obtain⟨Kh,e3⟩:=up b _ e2 d;exact⟨Kh,e3⟩
 ·obtain⟨o1,e1⟩:=I.base.there b o e (by simp[eR]);exact fl.free b o1 e1 (I.base.free b o e n (by simp[eR]))
 ·obtain⟨m1,e1⟩:=I.base.bM b ps e;obtain⟨m2,e2⟩:=fl.bM b _ e1;exact⟨m1++m2,by rw[e2,Array.append_assoc]⟩
theorem x8:Md (eR (fC P w) P w K mg base N qual scope f cd A outer s0 H0 E) λ_ cls H'=>E cls none H':=by
 intro pins σ H s x cls args h' I mk hE;have iH:cf (envOfC qual scope s0.heap.objs.size f cd::outer)=s0.heap.objs.size::cf outer:=rfl;have old:∀b o,s0.heap.get? b=some o->b∉cf outer->b∉cf (envOfC qual scope s0.heap.objs.size f cd::outer):=λb o e hb=>by
  rw[iH];exact λz=>(List.mem_cons.mp z).elim (λq=>absurd (lt_size e) (by rw[q];exact lt_irrefl _)) hb
 have hl:s.heap.FunFrames (Bs s.heap (envOfC qual scope s0.heap.objs.size f cd::outer)) (envOfC qual scope s0.heap.objs.size f cd::outer) :=
  PySem.W.funFrames_hide I.stack λenv he b hb=>List.mem_filterMap.mpr ⟨env,he,hb⟩
 have hB:cE P w H (Bs s.heap (envOfC qual scope s0.heap.objs.size f cd::outer)):=I.tE;have hx:H x=none:=by
  cases q:H x with
  | none=>rfl
  | some o =>
    obtain⟨o',e⟩:=(I.aC x o q).obj;rw[mk.new]at e;cases e
 refine wpAny_leaves_madeW (L:=s0.heap.objs.size) (h:=s.heap) (base:=Bs s.heap (envOfC qual scope s0.heap.objs.size f cd::outer)) I.ok.frames rfl (λb o e=>UB e) hl mk λh2 t ib _ _ up=>?_;refine⟨x,cls,H,rfl,⟨I.os,I.bare,⟨_,_,ib,hB,λb o e n hb=>?_,λb o e hb=>?_⟩,λb o e n hb=>?_,λb o e n=>I.base.free b o e n (by simp[eR]),I.base.bH,I.base.bB,I.base.bM,hx⟩,hE⟩
 ·exact Kg (I.base.keep b o e n hb (by simp[eR])) (old b o e hb)
 ·obtain⟨o1,e1⟩:=I.base.there b o e (by simp[eR]);exact⟨o1,Kg e1 (old b o e hb)⟩
 ·obtain⟨sl,e1⟩:=I.base.slot b o e n hb (by simp[eR]);obtain⟨_,o',e',d⟩:=I.ok.bX.mem hb;have eo:o'=o:=by
   have Dc:s0.heap.get? b=some o':=e';rw[e]at Dc;exact(Option.some.inj Dc).symm
  subst eo;obtain⟨Kh,e3⟩:=up b _ (mk.keeps _ _ e1) d;exact⟨Kh,e3⟩
end
abbrev TJ:=St->Hp->Str->(Str->Hp->Prop)->Prop
def PJ(X:Cx)(es:List Expr)(t:TJ):Prop :=
 ∀(pins:List (Addr×Obj)) (s:Shared) (σ:St) (H:Hp) (acc:Str) (Q:Str->Hp->Prop),Inv X pins σ H s->t σ H acc Q ->
  wpAny (model X.prog X.w) X.A (joinParts acc (evalEach es X.env)) (EP X pins σ λv H'=>∃y,v=.str y/\Q y H') X.xe s
def Ki:TJ:=λ_ H acc Q=>acc.length<=sizeLine/\Q acc H
def Dd(te:TE)(t:TJ):TJ:=λσ H acc Q=>te σ H λx H1=>∃y,x=.str y/\(acc++y).length<=sizeLine/\t σ H1 (acc++y) Q
def Kj(te:TE):TE:=λσ H Q=>te σ H λx H1=>(∃i,x=.int i/\i.natAbs.log2<1920/\Q (.str (toString i)) H1)\/(∃y,x=.str y/\y.length<=sizeLine/\Q (.str y) H1)
def De(t:TJ):TE:=λσ H Q=>t σ H Str.empty λy H1=>Q (.str y) H1
section
variable {X:Cx}{e v1 v2:Expr}{es:List Expr}{te:TE}{t:TJ}{pos:Pos}
theorem oZ:PJ X [] Ki:=λpins s σ H acc Q I h=>joinParts_nil ⟨.str acc,H,I.tok _,⟨_,rfl⟩,acc,rfl,h.2⟩ h.1
theorem Bt(he:PE X e te)(hr:PJ X es t):PJ X (e::es) (Dd te t):=by
 intro pins s σ H acc Q I h;show wpAny _ _ (joinParts acc (eval e X.env::evalEach es X.env)) _ _ s;refine joinParts_cons (aF (he pins s σ H _ I h) λu s1 ⟨x,H1,I1,r1,y,ey,hz,q⟩=>?_);subst ey;obtain⟨t',rfl⟩:=r1;exact⟨hz,hr pins s1 σ H1 _ Q I1 q⟩
theorem Kk(he:PE X e te):PE X (.FormattedValue e (-1) none pos) (Kj te):=by
 intro pins s σ H Q I h;refine FormattedValue_plain (aF (he pins s σ H _ I h) λu s1 ⟨x,H1,I1,r1,q⟩=>?_);rcases q with⟨i,ex,hd,q⟩|⟨y,ex,hz,q⟩
 ·subst ex;obtain⟨t',rfl⟩:=r1;exact formatField_int_small hd ⟨.str (toString i),H1,I1.tok _,⟨_,rfl⟩,q⟩
 ·subst ex;obtain⟨t',rfl⟩:=r1;exact formatField_str (λt2 tk=>⟨.str y,H1,I1.tok _,⟨_,rfl⟩,q⟩) hz
theorem jO{gR:List Expr}(h:PJ X (v1::v2::gR) t):PE X (.JoinedStr (v1::v2::gR) pos) (De t):=by
 intro pins s σ H Q I q;exact JoinedStr_many (aF (h pins s σ H Str.empty _ I q) λu s1 ⟨x,H1,I1,r1,y,ey,q1⟩=>⟨x,H1,I1,r1,by subst ey;exact q1⟩)
end
theorem Kl{a b:Nat}(hx:x.length<=a)(hy:y.length<=b):(x++y).length<=a+b:=by rw[strLen_append];omega
def kW:List Value:=[.type "ValueError",.type "Exception",.type "BaseException",.type "object"]
abbrev gJ(K:Frag)(C:Addr):Prop:=excIn K C kW "ValueError.__new__"=true
def tG(K:Frag)(C D:Addr):Bool:=match K.lookup C with
 | some ⟨_,_,.cls cd,_⟩=>cd.mro.contains (.ref D)
 | _=>false
variable {h:Heap}{C:Addr}
theorem Km(hk:K.In h)(q:gJ K C):∃tl N nm qn bs hd sn sb ab cl dd a0 a1 a2 a3 a5 mN,
 h.get? C=some (excClassObj nm qn C N bs tl hd sn sb ab cl dd a0 a1 a2 a3 a5 "ValueError.__new__")/\h.Ns N mN/\mN "__init__"=none/\OwnTail h kW tl/\∀D,(Value.ref C::tl).contains (.ref D)=tG K C D:=by
 unfold gJ excIn at q;split at q
 next dd cd sl ho =>
  split at q
  next C' tl a0 a1 a2 a3 n a5 em es =>
   simp only[Bool.and_eq_true,beq_iff_eq,Bool.not_eq_true']at q;obtain⟨⟨⟨⟨⟨z1,z2⟩,z3⟩,z4⟩,z5⟩,z6⟩:=q;subst z1 z2;have sb:∀D,(Value.ref C'::tl).contains (.ref D)=tG K C' D:=λD=>by unfold tG;rw[ho];show _=cd.mro.contains _;rw[em]
   obtain⟨nm,bs,mro,ns,qn,hd,sn,sub,ab,cl,del⟩:=cd;dsimp only at em z3 z5 z6;subst em z3;obtain⟨l⟩:=sl;have Cd:l=[a0,a1,a2,a3,some (.builtin "ValueError.__new__"),a5]:=es;subst Cd;exact⟨tl,ns,nm,qn,bs,hd,sn,sub,ab,cl,dd,a0,a1,a2,a3,a5,_,hk _ _ ho,.of_isNs (PySem.W.isNs_of_in hk z5),PySem.W.nsMap_none_of_in hk z5 z6,PySem.W.tail_of_in hk z4,sb⟩
  next=>cases q
 next=>cases q
section
variable {X:Cx}
def x9(C:Addr)(W:XW)(ta:TA):TS:=λ_ σ H=>ta σ H λvs H1=>vs.length<=sizeLine/\W σ (.ref C) H1
theorem wU{x:Str}{C:Addr}{W:XW}{np bu pos:Pos}{e:Expr}{es:List Expr}{ta:TA}(hc:X.calm=true)(md:Md X W)(hg:Gl X x)(hm:X.mg x=some (.ref C))(hx:gJ X.K C)(ha:PA X (e::es) ta)
 (gU:(x==("__debug__":Str))=false:=by decide) (he:starEach (e::es) X.env=(false,eval e X.env)::starEach es X.env:=by rfl) (hpl:(backTo bu (starEach es X.env)).any (·.1)=false:=by rfl) :
 PS X (.Raise (some (.Call (.Name x np) (e::es) [] bu)) none pos) (x9 C W ta):=by
 intro pins s σ H D I h;obtain⟨tl,N,nm,qn,bs,hd,sn,sb,ab,cl,dd,a0,a1,a2,a3,a5,mN,hC,hN,Qf,T,_⟩:=Km I.mod.uS hx;refine wpAny_Raise_call_subT (C:=C) (bm:=tl) (nm:=nm) (q:=qn) (N:=N) (bs:=bs) (hdct:=hd) (sn:=sn) (sub:=sb) (ab:=ab) (col:=cl) (dd:=dd) (k0:=a0) (k1:=a1) (k2:=a2) (k3:=a3) (k5:=a5) PySem.F.excBase_ValueError (mN:=mN) (T.hasType (by decide)) (I.ok.hd hc) (by rw[he];show(false || (backTo bu (starEach es X.env)).any (·.1))=false;rw[hpl];rfl) Qf (Bh I hg hm ⟨rfl,?_⟩ gU);have hA:=ha bu pins s σ H _ I h;rw[he]at hA ⊢;refine Calls.evalArgs_plain (aF hA λus s1 ⟨vs,H1,I1,r1,hz,q⟩=>⟨rfl,by show us.length<=sizeLine;rw[<-r1.length];exact hz,I1.bk _ _ hC,hN.keeps I1.bk,T.keeps I1.bk,λh' x mk=>?_⟩);exact md pins σ H1 s1 x (.ref C) us h' I1 mk q
end
structure kX (P:Program) (w:World) (K:Frag) (mg:Str->Option Value) (base:Heap) (k:Nat) (x:Str) (ps:List Str) (sp:Sp):Prop where
 ex:∃f fd,av P w K mg base (fC P w) k f fd ps sp/\mg x=some (.ref f)/\keepIn K (.ref f)=true/\Binds K fd ps []
theorem kX.of
 (F:aN K x qual st f fd) (G:av P w K mg base (fC P w) k f fd ps sp) (hm:mg x=some (.ref f)) (b:Binds K fd ps []):kX P w K mg base k x ps sp:=⟨f,fd,G,hm,F.kp,b⟩
variable {N:List Str}
theorem aN.Aa(F:aN K x qual st f fd)(S:ah N ps (zf st))(len:∀vs H Q E,sp vs H Q E->vs.length=ps.length)
 (dn:∀(X:Cx)(W:XW)(aE:Value)(A:Around)(outer:List Env)(s:Shared)(H:Hp)(vs:List V)(Q:VK)(E:XK),X=eR (fC P w) P w K mg base N qual (zf st) f aE A outer s H E->W=(λ_ cls H'=>E cls none H')->Fl X W->Md X W->aU k X.A->sp vs H Q E ->
   ∃t,iu X (wu st) t/\t { nx:=λ_ H'=>Q .bo H',rt:=Q } (iw N vs) H):av P w K mg base (fC P w) (k+1) f fd ps sp:=by
 obtain⟨oc,od,kV,doc,pm,an,aE,ct,gI,rfl,lk,di⟩:=F.ex;refine om lk di S len λA outer s H vs Q E hr fX=>?_;exact dn _ _ aE A outer s H vs Q E rfl rfl tF x8 hr fX
def Ab(W:XW)(sp:Sp)(t:TA):TE:=λσ H Q=>t σ H λvs H1=>sp vs H1 Q λcls _ H'=>W σ cls H'
section
variable {X:Cx}{k:Nat}{x:Str}{ps:List Str}{sp:Sp}{p pos:Pos}{e:Expr}{es:List Expr}{t:TA}{W:XW}
theorem Kn{pins:List (Addr×Obj)}{σ:St}{H:Hp}{s:Shared}{Q:VK}{us:List Value}{vs:List V}{f:Addr}{fd:FuncData}(F:av X.prog X.w X.K X.mg X.base (fC X.prog X.w) k f fd ps sp)(hr:aU k X.A)(hb:Binds X.K fd ps [])(fl:Fl X W)
 (I:Inv X pins σ H s) (r:Vals vs us) (h:sp vs H Q λcls _ H'=>W σ cls H'):wpAny (model X.prog X.w) X.A (call (.ref f) us) (EP X pins σ Q) X.xe s:=by
 have hl:us.length=ps.length:=by rw[<-r.length];exact F.len _ _ _ _ h
 have rQ:=hb s us I.gd (by rw[append_nil];exact hl);rw[append_nil]at rQ;refine wpAny_call (codeAny_mono (F.run X.A X.stack s H ⟨us,[]⟩ us vs Q _ hr I.sT rQ r h) λr s' hq=>?_);cases r with
 | error e =>
   obtain⟨y,cls,H',rfl,Df,w⟩:=hq;exact fl pins σ H s y cls H' s' I Df w
 | ok UC =>
   cases UC with
   | ret u=>exact I.after hq
   | next=>exact False.elim hq
   | brk=>exact False.elim hq
   | cont=>exact False.elim hq
theorem tH(C:kX X.prog X.w X.K X.mg X.base k x ps sp)(fl:Fl X W)(hr:aU k X.A)(hg:Gl X x)(ha:PA X (e::es) t)(gU:(x==("__debug__":Str))=false:=by decide)(he:starEach (e::es) X.env=(false,eval e X.env)::starEach es X.env:=by rfl)
 (hpl:(backTo pos (starEach es X.env)).any (·.1)=false:=by rfl):PE X (.Call (.Name x p) (e::es) [] pos) (Ab W sp t):=by
 obtain⟨f,fd,F,hm,hk,hb⟩:=C.ex;intro pins s σ H Q I h;refine wpAny_Call_Name_kw (Bh I hg hm ?_ gU);refine callWith_K (h₀:=X.base) I.ok.mod.uS hk (aF (ha pos pins s σ H _ I h) λus s1 ⟨vs,H1,I1,r,q⟩=>⟨I1.gd,?_⟩) he hpl;exact Kn F hr hb fl I1 r q
end
def vw(x:Addr)(cls:Value):HO:=.ext λh=>∃o,h.get? x=some o/\o.cls=cls
def zev(X:Cx)(x:Addr):Cx:={ X with A:=X.A.mark (some (.ref x)),calm:=false,xe:=λ_ _=>False }
section
variable {X:Cx}{pins:List (Addr×Obj)}{σ:St}{H H':Hp}{s s':Shared}{x:Addr}{cls:Value}
theorem Cx.Ok.dU(ok:X.Ok):(zev X x).Ok :=
 ⟨ok.mod,ok.kind,ok.glob,ok.blt,ok.above,ok.inj,ok.has,ok.nz,λz=>Bool.noConfusion (show false=true from z),ok.frames,ok.rF,ok.jz,ok.bs,ok.fV,ok.dB,ok.dC,ok.bX,ok.jA⟩
theorem Inv.dU(I:Inv X pins σ H s):Inv (zev X x) pins σ H s:=⟨I.ok.dU,I.os,I.bare,I.base,I.loc,I.cell,I.free,I.bz,I.pin,I.aC,I.len⟩
theorem Inv.eI(ok:X.Ok)(I:Inv (zev X x) pins σ H s):Inv X pins σ H s:=⟨ok,I.os,I.bare,I.base,I.loc,I.cell,I.free,I.bz,I.pin,I.aC,I.len⟩
theorem iz.inv(I:Inv X pins σ H s)(f:iz X.prog X.w X.stack H s x cls H' s'):Inv X pins σ H' s':=by
 obtain⟨B,a0,eG,hB,k1,k2⟩:=f.ex;refine I.jD (ch:=[]) f.os (f.un (a0:=a0) (l:=X.stack) hB k1 k2 eG.1 f.slot I.cU) (hB.kept eG.1) f.bare λb z=>nomatch z
theorem iz.to(I:Inv X pins σ H s)(f:iz X.prog X.w X.stack H s x cls H' s'){B h:Heap}{a0:Value}(hB:cE X.prog X.w H' B)(k1:∀b o,s.heap.get? b=some o->H b=none->b∉cf X.stack->B.get? b=some o)
 (k2:∀b o,s.heap.get? b=some o->b∉cf X.stack->∃o',B.get? b=some o') (eG:FlyingW B X.stack x cls a0 h) (up:s'.heap.UpToSlots h):iz X.prog X.w X.stack H s x cls H' { s' with heap:=h } :=
 ⟨f.os,f.bare,⟨B,a0,eG,hB,k1,k2⟩,λb o e n hb=>by
  obtain⟨sl,e1⟩:=f.slot b o e n hb;obtain⟨rP,e2⟩:=up b _ e1 (show ∀vs,o.data ≠ .fields vs from I.xZ hb e);exact⟨rP,e2⟩,f.free,f.bH,f.bB,f.bM,f.new⟩
variable {M:Model}{E:Value->Shared->Prop}{Q:Unit->Shared->Prop}
theorem o6(I:Inv X pins σ H s)(f:iz X.prog X.w X.stack H s x cls H' s')(iH:X.stack=X.env::X.outer)(hf:X.env.frame=some X.env.locals)
 (k:∀fK,iz X.prog X.w X.stack H s x cls H' fK->Q () fK):wpAny M X.A (noteFrame (.ref x) X.env) (λ_ s2=>wpAny M X.A (setFlight (.ref x) none) Q E s2) E s':=by
 obtain⟨B,a0,eG,hB,k1,k2⟩:=f.ex;have Dg:=eG;rw[iH]at Dg;refine wpAny_looks_onW (base:=B) (by rw[<-iH];exact I.ok.frames) hf Dg λh1 hh up1=>?_;refine wpAny_landsW hh λh2 ib vz=>?_;rw[<-iH]at ib;exact k _ (f.to I hB k1 k2 ib (up1.trans vz))
theorem kY{A:Around}(I:Inv X pins σ H s)(f:iz X.prog X.w X.stack H s x cls H' s')
 (k:∀fK,iz X.prog X.w X.stack H s x cls H' fK->Q () fK):wpAny M A (setFlight (.ref x) none) Q E s':=by
 obtain⟨B,a0,eG,hB,k1,k2⟩:=f.ex;exact lands_againW eG λh2 ib vz=>k _ (f.to I hB k1 k2 ib vz)
theorem iz.there(f:iz X.prog X.w X.stack H s x cls H' s'):∃o,s'.heap.get? x=some o/\o.cls=cls:=by
 obtain⟨B,a0,eG,_⟩:=f.ex;exact eG.there
theorem Inv.Dh(I:Inv X pins σ H s)(hx:H x=none)(he:∃o,s.heap.get? x=some o/\o.cls=cls)(ne:x≠X.env.locals)(nc:∀y c,X.env.cells.lookup y=some c->c≠x)(np:∀p∈X.pn++pins,p.1≠x)(nb:X.s₀.heap.get? x=none):Inv X pins σ (upd H x (vw x cls)) s:=by
 obtain⟨o,eo,ec⟩:=he;refine⟨I.ok,I.os,I.bare,⟨I.base.keep,I.base.slot,λb ob q n hb=>?_,I.base.there,λb xs q=>?_,λb ob u q=>?_,λb ps q=>?_⟩,I.loc,I.cell,?_,λy c e=>?_,λp hp=>?_,λb u q=>?_,I.len⟩
 ·rw[zh (λz=>by rw[z,nb]at q;cases q)];exact I.base.free b ob q n hb
 ·have:=I.base.bH b xs q;rw[zh (zj this hx)];exact this
 ·have:=I.base.bB b ob u q;rw[zh (zj this hx)];exact this
 ·obtain⟨m,e⟩:=I.base.bM b ps q;exact⟨m,by rw[zh (zj e hx)];exact e⟩
 ·rw[zh (Ne.symm ne)];exact I.free
 ·rw[zh (nc y c e)];exact I.bz y c e
 ·obtain⟨p1,p2,p3⟩:=I.pin p hp;exact⟨p1,by rw[zh (np p hp)];exact p2,p3⟩
 ·by_cases hb:b=x
  ·subst hb;rw[zc]at q;cases q;exact⟨⟨o,eo,ec⟩,⟨o,eo⟩,λh1 h2 ⟨o1,e1,c1⟩ k=>⟨o1,k o1 e1,c1⟩⟩
  ·rw[zh hb]at q;exact(I.aC b u q).bQ (λc v _ z=>z) (λc z=>by rw[zh (zj z hx)];exact z) λc xs z=>by rw[zh (zj z hx)];exact z
theorem FV{A:Around}{i:Nat}{n:Str}{pos:Pos}(I:Inv X pins σ H s)(hN:X.N.Nodup)(hi:X.N[i]? = some n)(hk:X.env.scope.names.lookup n=some .local)
 (h:∀s',Inv X pins (σ.set i none) H s'->Q () s'):wpAny M A (do bindName X.env n .none;unbindBehindTheSuite X.env n pos) Q E s:=by
 obtain⟨m,hn,hl⟩:=id I.loc;have iG:(X.env.scope.kind == .class || (X.env.scope.kind == .module && X.env.locals != X.env.globals))=false:=by rw[I.ok.kind];rfl
 refine wpAny_nameGoes_keeps hk hn iG λh' v Bf hs=>?_;obtain⟨oL,_,_,Pw,_⟩:=id hn;have lt:∀b o,X.s₀.heap.get? b=some o->b≠X.env.locals:=λb o e=>ne_of_lt (lt_of_lt_of_le (lt_size e) I.ok.above);refine h _ ⟨I.ok,I.os,I.bare,⟨λb o e q hb hx=>(hs.2 b (lt b o e)).trans (I.base.keep b o e q hb hx),λb o e q hb hx=>?_,I.base.free,λb o e hx=>?_,I.base.bH,I.base.bB,I.base.bM⟩,⟨_,Bf,λj y w e1 e2 e3=>?_⟩,λy c e=>?_,I.free,I.bz,λp hp=>?_,λb ob e=>?_,by simpa using I.len⟩
 ·obtain⟨sl,e1⟩:=I.base.slot b o e q hb hx;exact⟨sl,(hs.2 b (lt b o e)).trans e1⟩
 ·obtain⟨o',e1⟩:=I.base.there b o e hx;exact⟨o',(hs.2 b (lt b o e)).trans e1⟩
 ·have Bu:j≠i:=λz=>by
   subst z;rw[List.getElem?_set_self (by rw[I.len];exact(List.getElem?_eq_some_iff.mp hi).1)]at e2;cases e2
  rw[List.getElem?_set_ne (Ne.symm Bu)]at e2;obtain⟨u,r,q⟩:=hl j y w e1 e2 e3;refine⟨u,r,?_⟩;rcases q with⟨k,e⟩|⟨k,c,e,z⟩
  ·refine .inl ⟨k,?_⟩;have:y≠n:=λe=>Bu (Jg hN e1 (e ▸ hi));simp[this,e]
  ·exact .inr ⟨k,c,e,z.sameBut hs (I.sH y c e)⟩
 ·obtain⟨w',z⟩:=I.cell y c e;exact⟨w',z.sameBut hs (I.sH y c e)⟩
 ·obtain⟨e,q,ne,nf,d⟩:=I.pin p hp;exact⟨(hs.2 p.1 ne).trans e,q,ne,nf,d⟩
 ·refine(I.aC b ob e).bQ (λc w' hc q=>(hs.2 c ?_).trans q) (λ_ q=>q) λ_ _ q=>q;rintro rfl;have nl:=I.free;rcases hc with hc | hc
  ·rw[hc,e]at nl;cases nl
  ·rw[nl]at hc;cases hc
end
variable {M:Model}{E:Value->Shared->Prop}
theorem kZ{A:Around}{g:Array GenState}{d:Drawn}{t:Nat}{os:OsState}{e D:Addr}{oe:Obj}{Q:Bool->Shared->Prop}(hk:K.In h)(xC:gJ K C)(xD:gJ K D)
 (he:h.get? e=some oe) (iG:oe.cls=.ref C) (hq:Q (tG K C D) ⟨h,g,d,t,os⟩):wpAny M A (excMatches (.ref e) (.ref D)) Q E ⟨h,g,d,t,os⟩:=by
 obtain⟨tl,N,nm,qn,bs,hd,sn,sb,ab,cl,dd,a0,a1,a2,a3,a5,mN,hC,hN,Qf,T,sub⟩:=Km hk xC;obtain⟨UD,N',nm',qn',Bv,Ft,sn',FP,ab',cl',Di,b0,b1,b2,b3,b5,mN',hD,hN',UE,T',UG⟩:=Km hk xD;have cB:(Value.ref D::UD).contains (.type "BaseException")=true:=by rw[List.contains_cons,T'.hasType (X:= "BaseException") (b:=true) (by decide),Bool.or_true]
 have cD:=sub D;have f:=tc_notTuple;unfold excMatches
 repeat (first | (with_reducible refine wpAny_loadPart_at he ?_;rw[iG]) | with_reducible refine wpAny_loadPart_at hD ?_ | (with_reducible refine wpAny_isSubtype_exc hD ?_;rw[cB]) | (with_reducible refine wpAny_isSubtype_exc hC ?_;rw[cD]) | wp_step)
 all_goals (cases hb:tG K C D <;> (rw[hb]at hq;first | exact hq | (wp_walk;exact hq)))
def PH(X:Cx)(hs:List ExceptHandler)(th:Value->TS):Prop :=
 ∀(pins:List (Addr×Obj)) (s0 s:Shared) (σ:St) (H H':Hp) (x:Addr) (cls:Value) (D:Ends),Inv X pins σ H s0->iz X.prog X.w X.stack H s0 x cls H' s->th cls D σ H'->wpAny (model X.prog X.w) X.A (handleBy (.ref x) X.env hs) (SP X pins D) X.xe s
def tI:Value->TS:=λ_ _ _ _=>False
theorem o7{hs:List ExceptHandler}:PH X hs tI:=λ_ _ _ _ _ _ _ _ _ _ _ h=>h.elim
def Ends.gone(D:Ends)(i:Nat):Ends:=⟨λσ H=>D.nx (σ.set i none) H,D.rt,λσ H=>D.bk (σ.set i none) H,λσ H=>D.ct (σ.set i none) H⟩
def Ko(K:Frag)(Dx:Addr)(i:Nat)(ts:TS)(tr:Value->TS):Value->TS:=λcls D σ H=>∃C,cls=.ref C/\gJ K C /\
 if tG K C Dx=true then ∀x,H x=none->ts (D.gone i) (σ.set i (some (.ref x))) (upd H x (vw x (.ref C)))else tr cls D σ H
section
variable {X:Cx}{x n:Str}{Dx:Addr}{np tJ:Pos}{b0:Stmt}{dU:List Stmt}{gR:List ExceptHandler}{ts:TS}{tr:Value->TS}{i:Nat}
variable {pins:List (Addr×Obj)}{s:Shared}
theorem SP.back{D:Ends}{y:Addr}(ok:X.Ok){f:Flow}(h:SP (zev X y) pins D f s):SP X pins D f s:=by
 cases f with
 | next=>obtain⟨σ',H',I,q⟩:=h;exact⟨σ',H',I.eI ok,q⟩
 | brk=>obtain⟨σ',H',I,q⟩:=h;exact⟨σ',H',I.eI ok,q⟩
 | cont=>obtain⟨σ',H',I,q⟩:=h;exact⟨σ',H',I.eI ok,q⟩
 | ret u=>obtain⟨v,σ',H',I,r,q⟩:=h;exact⟨v,σ',H',I.eI ok,r,q⟩
theorem Dj(hg:Gl X x)(hm:X.mg x=some (.ref Dx))(hx:gJ X.K Dx)(hN:X.N.Nodup)(hi:X.N[i]? = some n)(hk:X.env.scope.names.lookup n=some .local)(hs:∀y,iu (zev X y) (b0::dU) ts)(hr:PH X gR tr)(hex:X.ex=[]:=by rfl)
 (gU:(x==("__debug__":Str))=false:=by decide):PH X (.ExceptHandler (some (.Name x np)) (some n) (b0::dU) tJ::gR) (Ko X.K Dx i ts tr):=by
 intro pins s0 s σ H H' y cls D I fl h;obtain⟨C,rfl,hC,h⟩:=h;have I1:Inv X pins σ H' s:=fl.inv I;obtain⟨oe,he,iG⟩:=fl.there;refine wpAny_handleBy_cons (codeAny_handlers_test ?_) (by intro q;cases q);refine Bh (X:=zev X y) I1.dU hg hm ?_ gU;refine kZ (K:=X.K) (g:=s.gens) (d:=s.drawn) (t:=s.toks) (os:=s.os) I1.gd hC hx he iG ?_;cases hb:tG X.K C Dx with
 | false =>
   rw[hb,if_neg Bool.false_ne_true]at h;exact hr pins s0 s σ H H' y (.ref C) D I fl h
 | true =>
   rw[hb,if_pos rfl]at h;show codeAny _ _ (.handlers (.ref y) [.ExceptHandler none (some n) (b0::dU) tJ] X.env) _ s;refine codeAny_handlers_suite_as ?_;refine kY I fl λs2 FW=>?_;have I2:Inv X pins σ H' s2:=FW.inv I;have Qg:H' y=none:=FW.new;obtain⟨B,a0,eG,hB,k1,k2⟩:=FW.ex;have nB:B.get? y=none:=eG.2.1;have UH:y∉cf X.stack:=λz=>by
    obtain⟨_,o1,e1,d⟩:=eG.2.2.1.mem z;obtain⟨o2,vs,e2,_,d2,_⟩:=eG.first;rw[e1]at e2;cases e2;exact d _ d2
   have n0:s0.heap.get? y=none:=by
    cases q:s0.heap.get? y with
    | none=>rfl
    | some o=>obtain⟨o',e⟩:=k2 y o q UH;rw[nB]at e;cases e
   have J:Inv X pins σ (upd H' y (vw y (.ref C))) s2:=by
    refine I2.Dh Qg FW.there (λz=>?_) (λz c e q=>?_) (λp hp q=>?_) ?_
    ·obtain⟨m,⟨o,_,_,ho,_⟩,_⟩:=I.loc;rw[<-z,n0]at ho;cases ho
    ·obtain⟨v,o,ho,_⟩:=I.cell z c e;rw[q,n0]at ho;cases ho
    ·have:=(I.pin p hp).1;rw[q,n0]at this;cases this
    ·cases q:X.s₀.heap.get? y with
     | none=>rfl
     | some o =>
       obtain⟨o',e⟩:=I.base.there y o q (by rw[hex];exact not_mem_nil);rw[n0]at e;cases e
   have J':Inv (zev X y) pins σ (upd H' y (vw y (.ref C))) s2:=J.dU;refine Jj (X:=zev X y) J' hN hi (.inl hk) (show RelV (.ref y) (.ref y)from rfl) (λs3 I3=>?_) (.inr hk);refine wpAny_mono (hs y pins s3 _ _ (D.gone i) I3 (h y Qg)) (λf s4 q4=>?_) λ_ _ z=>False.elim z;have q5:=SP.back I.ok q4;cases f with
   | next=>obtain⟨σ',H2,I4,q⟩:=q5;exact FV I4 hN hi hk λs5 I5=>⟨_,_,I5,q⟩
   | brk=>obtain⟨σ',H2,I4,q⟩:=q5;exact FV I4 hN hi hk λs5 I5=>⟨_,_,I5,q⟩
   | cont=>obtain⟨σ',H2,I4,q⟩:=q5;exact FV I4 hN hi hk λs5 I5=>⟨_,_,I5,q⟩
   | ret u=>obtain⟨v,σ',H2,I4,r,q⟩:=q5;exact FV I4 hN hi hk λs5 I5=>⟨v,_,_,I5,r,q⟩
abbrev _root_.L2.Cx.jP(X:Cx)(E:Value->Shared->Prop)(pn:List (Addr×Obj)):Cx:={ X with xe:=E,pn:=pn }
def Kp(tb:XW->TS)(th:Value->TS):TS:=λD σ H=>∃W:XW,tb W D σ H/\∀σ1 cls H1,W σ1 cls H1->th cls D σ1 H1
variable {E:Value->Shared->Prop}
theorem Inv.Dk{σ:St}{H:Hp}(I:Inv X pins σ H s):Inv (X.jP E (X.pn++pins)) [] σ H s :=
 ⟨⟨I.ok.mod,I.ok.kind,I.ok.glob,I.ok.blt,I.ok.above,I.ok.inj,I.ok.has,I.ok.nz,I.ok.hd,I.ok.frames,I.ok.rF,I.ok.jz,I.ok.bs,I.ok.fV,I.ok.dB,I.ok.dC,I.ok.bX,I.ok.jA⟩,I.os,I.bare,I.base,I.loc,I.cell,I.free,I.bz,λp hp=>I.pin p (by simpa using hp),I.aC,I.len⟩
theorem Inv.cW{vA:List (Addr×Obj)}{σ:St}{H:Hp}(I:Inv (X.jP E (X.pn++pins)) vA σ H s):Inv X pins σ H s :=
 ⟨⟨I.ok.mod,I.ok.kind,I.ok.glob,I.ok.blt,I.ok.above,I.ok.inj,I.ok.has,I.ok.nz,I.ok.hd,I.ok.frames,I.ok.rF,I.ok.jz,I.ok.bs,I.ok.fV,I.ok.dB,I.ok.dC,I.ok.bX,I.ok.jA⟩,I.os,I.bare,I.base,I.loc,I.cell,I.free,I.bz,λp hp=>I.pin p (mem_append_left _ hp),I.aC,I.len⟩
theorem Ac{body:List Stmt}{h0:ExceptHandler}{hs:List ExceptHandler}{pos:Pos}{tb:XW->TS}{th:Value->TS}(iH:X.stack=X.env::X.outer)(hf:X.env.frame=some X.env.locals)
 (hb:∀(E:Value->Shared->Prop)(pn:List (Addr×Obj)) (W:XW),Fl (X.jP E pn) W->iu (X.jP E pn) body (tb W)) (hh:PH X (h0::hs) th):PS X (.Try body (h0::hs) [] [] pos) (Kp tb th):=by
 intro pins s σ H D I h;obtain⟨W,h1,h2⟩:=h;refine wpAny_Try_except ?_;refine wpAny_mono (hb (λe s₁=>wpAny (model X.prog X.w) X.A (noteFrame e X.env) (λ_ s₂=>wpAny (model X.prog X.w) X.A (setFlight e none) (λ_ s₃=>wpAny (model X.prog X.w) X.A (handleBy e X.env (h0::hs)) (SP X pins D) X.xe s₃) X.xe s₂) X.xe s₁) (X.pn++pins) W ?_ [] s σ H D I.Dk h1) (λf s1 q=>?_) λe s1 q=>q
 ·intro vA σ1 H1 s1 x cls H' s' I1 Df w1;exact o6 (X:=X) (pins:=pins) I1.cW Df iH hf λs2 Kq=>hh pins s1 s2 σ1 H1 H' x cls D I1.cW Kq (h2 σ1 cls H' w1)
 ·cases f with
  | next=>obtain⟨σ',H',I',q⟩:=q;exact wpAny_execs_nil ⟨σ',H',I'.cW,q⟩
  | brk=>obtain⟨σ',H',I',q⟩:=q;exact⟨σ',H',I'.cW,q⟩
  | cont=>obtain⟨σ',H',I',q⟩:=q;exact⟨σ',H',I'.cW,q⟩
  | ret u=>obtain⟨v,σ',H',I',r,q⟩:=q;exact⟨v,σ',H',I'.cW,r,q⟩
end
theorem Qh{x:Addr}{o:Obj}{t:Value}(e:h.get? x=some o)(c:o.cls=t):PySem.W.Looks M h (typeOf (.ref x)) t:=by
 intro A Q E s k q;show wpAny M A (loadHead x >>= λo=>pure o.cls) Q E s;unfold loadHead;exact wpAny_bind (wpAny_loadPart (k _ _ e) (wpAny_pure (by rw[c];exact q)))
section
variable {X:Cx}
end
theorem jQ:Fl X λ_ _ _=>False:=λ_ _ _ _ _ _ _ _ _ _ h=>h.elim
abbrev bg(K:Frag)(x:Str)(C:Addr):Prop:=nsIn K mainGlobals x=some (some (.ref C))
theorem bg.inj{D:Addr}(a:bg K x C)(b:bg K x D):C=D:=by
 have:=a.symm.trans b;cases this;rfl
theorem Ad(hg:Gl X x)(hm:X.mg x=some (.ref C))(hd:(x==("__debug__":Str))=false:=by decide):PE X (.Name x pos) (tC (.ref C)):=jE hg hm rfl hd
section
variable {X:Cx}{K:Frag}
theorem FX(h:X.K=K):CD X (CF K):=by subst h;exact zq
theorem k7(h:X.K=K):Bm X "list.index" (oN K):=by subst h;exact CV
theorem UI(h:X.K=K):wX X (.builtin "len") (bp K):=by subst h;exact PY
theorem o8{tg l:Expr}{tl:TE}(h:X.K=K)(hl:PE X l tl):PI X tg l (uW K tl):=by subst h;exact zx hl
theorem Ae{o e:Expr}{es:List Expr}{to:TE}{t:TA}{name:Str}{apos bu:Pos}{T id:String}{r:V->List V->Hp->VK->Prop}(h:X.K=K)(pa:PlainAttrs T)(slot:Slot T name id)(JO:typeOf (.builtin id)=pure (.type "method_descriptor"))(hm:JI X id r)(ho:PE X o to)(ha:PA X (e::es) t)
 (ox:attributeBase o name X.env (eval o X.env)=eval o X.env:=by rfl)
 (xR:((backTo bu (starEach (e::es) X.env)).all (λx => !x.1) && (backToKw bu (keywordEach [] X.env)).all (λx=>x.1.isSome)
   && decide ((e::es).length+([]:List Keyword).length+(if([]:List Keyword).isEmpty then 0 else 1)<30))=true:=by rfl)
 (oy:(apos.endLine==bu.line)=true:=by rfl) (hs:starEach (e::es) X.env=(false,eval e X.env)::starEach es X.env:=by rfl) (iQ:(backTo bu (starEach es X.env)).any (·.1)=false:=by rfl) :
 PE X (.Call (.Attribute o name apos) (e::es) [] bu) (P0 K T r to t):=by subst h;exact wP pa slot JO hm ho ha ox xR oy hs iQ
end
theorem Kr(h:b=true)(k:A):if b=true then A else B:=by rw[if_pos h];exact k
theorem vB(h:b=false)(k:B):if b=true then A else B:=by rw[h,if_neg Bool.false_ne_true];exact k
section
variable {α:Type} [DecidableEq α]
def k8(acc:List α)(v:α):List α:=if v∈acc then acc else acc++[v]
def met(val:Nat->α)(i:Nat):List α:=((List.range i).map val).foldl k8 []
theorem Ks(val:Nat->α)(i:Nat):met val (i+1)=k8 (met val i) (val i):=by
 unfold met;rw[range_succ,map_append,List.foldl_append];rfl
theorem Kt{acc:List α}{v k:α}:k∈k8 acc v↔k∈acc\/k=v:=by
 unfold k8;split
 ·rename_i h;exact⟨.inl,λz=>z.elim id λe=>by rw[e];exact h⟩
 ·rw[mem_append,mem_singleton]
theorem Ku(acc:List α)(v:α):(k8 acc v).length=if decide (v∈acc)=true then acc.length else acc.length+1:=by
 unfold k8;by_cases h:v∈acc
 ·rw[if_pos h,decide_eq_true h,if_pos rfl]
 ·rw[if_neg h,decide_eq_false h,if_neg (by decide),length_append];rfl
theorem jR(val:Nat->α):∀i,(met val i).length<=i
 | 0=>le_refl _
 | i+1=>by
   rw[Ks,Ku];have:=jR val i;split <;> omega
theorem o9(ts:List α)(d:α):met (λi=>ts.getD i d) ts.length=ts.foldl k8 []:=by
 unfold met;congr 1;refine ext_getElem (by simp) λi h1 h2=>?_;rw[getElem_map,getElem_range,getD_eq_getElem?_getD,getElem?_eq_getElem h2];rfl
theorem UJ(acc ts:List α):(ts.foldl k8 acc).length<=acc.length+ts.length:=by
 induction ts generalizing acc with
 | nil=>exact le_refl _
 | cons a ts ih =>
   rw[foldl_cons];refine le_trans (ih _) ?_;rw[Ku,length_cons];split <;> omega
theorem UK(acc ts:List α)(da:acc.Nodup):(ts.foldl k8 acc).length=acc.length+ts.length↔(acc++ts).Nodup:=by
 induction ts generalizing acc with
 | nil=>simpa using da
 | cons a ts ih =>
   rw[foldl_cons];by_cases h:a∈acc
   ·have e:k8 acc a=acc:=by unfold k8;rw[if_pos h]
    rw[e];constructor
    ·intro q;have:=UJ acc ts;rw[length_cons]at q;omega
    ·intro q;rw[nodup_append]at q;exact absurd rfl (q.2.2 a h a mem_cons_self)
   ·have e:k8 acc a=acc++[a]:=by unfold k8;rw[if_neg h]
    have hn:(acc++[a]).Nodup:=by
     rw[nodup_append];exact⟨da,by simp,λx hx y hy z=>h (by rw[List.mem_singleton.mp hy]at z;rw[<-z];exact hx)⟩
    rw[e];have:=ih (acc++[a]) hn;rw[append_assoc,List.singleton_append]at this;rw[<-this,length_append,length_singleton,length_cons];omega
theorem Qi(ts:List α)(d:α):(met (λi=>ts.getD i d) ts.length).length=ts.length↔ts.Nodup:=by
 rw[o9];have:=UK [] ts List.nodup_nil
 simpa using this
end
section
variable {prog:Program}{w:World}{A:Around}{R:Result->Shared->Prop}{it:Addr}{fp wr:List Addr}{G:Array GenState->Array GenState->Prop}{n:Nat}{P:Nat->Value->Prop}{St:Nat->Shared->Prop}
variable {α:Type} [DecidableEq α] {knd:KeyKind prog w α}
theorem Qj{h h':Heap}{a:Addr}{S:α->Bool}{m:Nat}(x:h.SetOf knd a S m)(k:∀o,h.get? a=some o->h'.get? a=some o):h'.SetOf knd a S m:=by
 obtain⟨o,es,ep,t,ho,r⟩:=x;exact⟨o,es,ep,t,k _ ho,r⟩
theorem Qk{h:Heap}{a:Addr}{S S':α->Bool}{m m':Nat}(x:h.SetOf knd a S m)(e:S=S')(e':m=m'):h.SetOf knd a S' m':=by subst e;subst e';exact x
theorem pd(W:WalksS prog w A.in1 it fp wr G n P St)(S:Addr)(hS:S∉fp)(val:Nat->α)(hv:∀i v,P i v->knd.is (val i) v=true/\v.scannable=true)(hb:n+1<scanBound):
 ∀(k i:Nat)(s:Shared),k+i=n->St i s->s.heap.SetOf knd S (λx=>decide (x∈met val i)) (met val i).length ->
  (∀s',Moved (S::wr) G s s'->s'.heap.SetOf knd S (λx=>decide (x∈met val n)) (met val n).length->R (.ok (.ret .none)) s') ->
  codeAny (model prog w) A (.builtin "set.update.loop" ⟨[.ref S,.ref it],[]⟩) R s:=by
 have hw:S∉wr:=λz=>hS (W.sub _ z);intro k
 induction k with
 | zero =>
   intro i s hk st hs hR;rw[Nat.zero_add]at hk;subst hk;refine codeAny_builtin F.entry_set_update_loop ?_;rw[Around.under_plainId F.plain_set_update_loop _];refine wpAny_bind (W.done s _ _ st λs' hm=>?_);exact wpAny_pure (hR s' (hm.mono λb z=>mem_cons_of_mem _ z) (Qj hs λo e=>hm.heap S o hw e))
 | succ k ih =>
   intro i s hk st hs hR;refine codeAny_builtin F.entry_set_update_loop ?_;rw[Around.under_plainId F.plain_set_update_loop _];refine wpAny_bind (W.item i s _ _ (by omega) st λv s' hP gT hm=>?_);obtain⟨kv,sv⟩:=hv i v hP;have pe:=Qj hs λo e=>hm.heap S o hw e;refine wpAny_bind (m:=holding [v] (setAdd S v)) (wpAny_holding ?_);unfold setAdd;refine wpAny_holding (wpAny_bind (knd.pyHash kv ?_));refine wpAny_setAddHashed_of (knd:=knd) (s:={ s' with toks:=s'.toks+1 }) kv sv pe (by have:=jR val i;omega) λh' tu kH=>?_;have UL:h'.SetOf knd S (λx=>decide (x∈met val (i+1))) (met val (i+1)).length:=by
    refine Qk kH (funext λx=>?_) ?_
    ·rw[Ks];by_cases h1:x∈met val i
     ·rw[decide_eq_true h1,decide_eq_true (Kt.mpr (.inl h1)),Bool.true_or]
     ·by_cases h2:x=val i
      ·rw[decide_eq_true h2,decide_eq_true (Kt.mpr (.inr h2)),Bool.or_true]
      ·rw[decide_eq_false h1,decide_eq_false h2,decide_eq_false λz=>(Kt.mp z).elim h1 h2];rfl
    ·rw[Ks,Ku]
   refine wpAny_pure ⟨plainId_quiet F.plain_set_update_loop _,ih (i+1) _ (by omega) (W.frame _ s' _ _ gT (le_succ _) λb hb o e=>?_) UL λfK Kv=>hR fK ?_⟩
   ·rw[tu.2 b λz=>hS (by rw[<-z];exact hb)];exact e
   ·refine Moved.trans W.gtrans ((hm.mono λb z=>mem_cons_of_mem _ z).then_heap (le_succ _) λb o hb e=>?_) Kv;rw[tu.2 b λz=>hb (by rw[z];exact mem_cons_self)];exact e
end
section
variable {prog:Program}{w:World}{A:Around}{E:Value->Shared->Prop}{s:Shared}{α:Type} [DecidableEq α] {knd:KeyKind prog w α}
def Filled(knd:KeyKind prog w α)(s:Shared)(ks:List α)(s2:Shared):Prop :=
 ∃(h':Heap)(tk:Nat),s2={ s with heap:=h',toks:=tk }/\h'.SetOf knd s.heap.objs.size (λk=>decide (k∈ks)) ks.length/\∀b o,b<s.heap.objs.size->s.heap.get? b=some o->h'.get? b=some o
set_option maxHeartbeats 3200000 in
theorem UM{l:Addr}{items:Array Value}{val:Nat->α}{Q:Value->Shared->Prop}(hh:A.handled=none)(hl:s.heap.IsList l items)(hv:∀i v,items[i]? = some v->knd.is (val i) v=true/\v.scannable=true)(hb:items.size+1<scanBound)
 (h:∀s2,Filled knd s (met val items.size) s2->Q (.ref s.heap.objs.size) s2):wpAny (model prog w) A (call (.type "set") [.ref l]) Q E s:=by
 have bI:l<s.heap.objs.size:=by obtain⟨o,e,_⟩:=hl;exact lt_size e
 obtain⟨c,tl,UN⟩:=F.called_set.mro;have Ql:=F.called_set.made;have Dl:=F.called_set.sub;refine wpAny_call (codeAny_of_tree ?_);show wpAny _ _ (callAny (.type "set") _) _ _ _;refine wpAny_pure ⟨Code.quiet_builtin _ (by decide +kernel),codeAny_builtin F.entry_type_call ?_⟩;rw[Around.under_plain (weight_type_call_type "set" [.ref l] []) rfl];have h1:=F.called_set.notType;have h2:=F.called_set.canCreate;have h3:=F.typeCall_set_1 (.ref l)
 repeat (any_goals (first | assumption | wp_step))
 refine codeAny_mono (code_set_new_1 (.ref l) (E:=E) (Q₁:=λv s₁=>∃led:Bool,v=.ref s.heap.objs.size/\s₁={ s with heap:=s.heap.push { cls:=.type "set",dict:=none,data:=.set #[] 0 (.fresh 0 0 led) } }) λled=>⟨led,rfl,rfl⟩) λr s₁ hr=>?_;rcases r with e | fl
 ·exact hr
 cases fl with
 | ret v =>
   obtain⟨led,rfl,rfl⟩:=hr;generalize vC:({ cls:=.type "set",dict:=none,data:=.set #[] 0 (.fresh 0 0 led) }:Obj)=ob;have hS:(s.heap.push ob).get? s.heap.objs.size=some ob:=get?_push_size _ (by rw[<-vC];rfl);have hT:Shared.TypeIs { s with heap:=s.heap.push ob } (.ref s.heap.objs.size) "set":=⟨_,hS,by rw[<-vC]⟩;have h4:=F.called_set.init.lookup;have h5:=F.called_set.init.bind (.ref s.heap.objs.size)
   repeat (any_goals (first | assumption | wp_step))
   refine codeAny_mono (codeAny_call_builtin (R:=wants (λr s₂=>r=.none/\Filled knd s (met val items.size) s₂) E) F.called_set.init.plain F.entry_set_init (check_set_init_1 hT ?_)) λr₂ s₂ Kw=>?_
   ·have cJ:(s.heap.push ob).IsList l items:=hl.push _;obtain⟨⟨UO,Qm,Qn,Kx⟩,hol,mT,nl,vD⟩:=id cJ;simp only at mT vD;subst mT vD;have h6:=F.sub_list_set;have h7:=F.sub_list_frozenset;have h8:(Value.type "list" == Value.type "dict")=false:=by decide
    subst vC;unfold Builtin.«set.__init__» noKeywords Builtin.Frozenset.updateFrom;generalize UP:pyIter=PI
    wp_walk
    subst UP;refine wpAny_pyIter_list cJ (wpAny_bind (wpAny_runValue ?_));have hsz:(s.heap.push { cls:=.type "set",dict:=none,data:=.set #[] 0 (.fresh 0 0 led) }).objs.size=s.heap.objs.size+1:=size_push ..;refine pd (knd:=knd) ((Walks.list (by simp[hh]) _ l (by rw[hsz];exact ne_of_lt (lt_succ_of_lt bI)) items).toS) s.heap.objs.size ?_ val hv hb items.size 0 _ rfl ⟨⟨_,get?_push_size _ rfl,rfl,rfl⟩,cJ.push _⟩ ?_ λs' hm UQ=>?_
    ·rw[hsz];simp only[mem_cons,not_mem_nil,or_false,not_or];exact⟨ne_of_lt (lt_succ_self _),ne_of_gt bI⟩
    ·exact Qk ((setObjOf_fresh (knd:=knd) led).setOf (get?_push_of_some _ hS) (by unfold scanBound;omega)) rfl rfl
    ·obtain⟨h',g',d',Ky,CA⟩:=s';have eg:g'=s.gens:=hm.gens;have ed:d'=s.drawn:=hm.drawn;have eo:CA=s.os:=hm.os;subst eg ed eo;refine wpAny_pure (show wpAny _ _ (ret Value.none) _ _ _ from wpAny_pure ⟨rfl,h',Ky,rfl,UQ,λb o hb e=>?_⟩);refine hm.heap b o ?_ (get?_push_of_some _ (get?_push_of_some _ e));rw[hsz];simp only[mem_cons,not_mem_nil,or_false,not_or];exact⟨ne_of_lt hb,ne_of_lt (lt_succ_of_lt hb)⟩
   ·rcases r₂ with e | UR
    ·exact Kw
    cases UR with
    | ret r =>
      obtain⟨rfl,hf⟩:=Kw
      repeat (any_goals (first | assumption | wp_step))
      exact h _ hf
    | _=>exact Kw.elim
 | _=>exact hr.elim
end
section
variable {X:Cx}
inductive eX (x y:V) (H:Hp) (Q:VK):Prop
 | mk (i:_) (j:_):x=.str i->y=.str j->Q (.bl (!decide (j.cps.toList<i.cps.toList))) H->eX x y H Q
theorem Qo:cV X (compareOp .LtE) eX:=by
 intro pins s σ H x y v u Q I rx ry h;obtain⟨i,j,rfl,rfl,q⟩:=h;obtain⟨t,rfl⟩:=rx;obtain⟨t',rfl⟩:=ry;exact PySem.P.le_str (zW I q rfl)
inductive vE (x:V) (lo hi:Option Int) (H:Hp) (Q:VK):Prop
 | mk (z:_):x=.str z->z.length<=sizeLine->Q (.str (PySem.Txt.slice z lo hi)) H->vE x lo hi H Q
def Kz:V->Option Int->Option Int->Hp->VK->Prop:=λx lo hi H Q=>vE x lo hi H Q
theorem jS{v:Value}{o:Option Int}(h:IsPart v o):∃p:Option (Int×Tok),v=partValue p/\p.map (·.1)=o:=by
 cases h with
 | none=>exact⟨none,rfl,rfl⟩
 | int i t=>exact⟨some (i,t),rfl,rfl⟩
theorem pf:JG X Kz:=by
 intro pins s σ H x v vl vu lo hi sl Q I rx hs pl pu h;obtain⟨z,rfl,hz,q⟩:=h;obtain⟨t,rfl⟩:=rx;obtain⟨l,rfl,rfl⟩:=jS pl;obtain⟨u,rfl,rfl⟩:=jS pu;refine⟨"str",_,PySem.F.slot_str_getitem.lookup,typeIs_str _ _ _,wpAny_getItem_str_slice (l:=l) (u:=u) (st:=none) hs rfl (post_val_or_str ⟨le_trans (PySem.Txt.slice_le z _ _) hz,λt' k=>?_⟩)⟩;exact⟨.str (PySem.Txt.slice z _ _),H,I.tok _,⟨t',rfl⟩,q⟩
def KA(z:Str):It:=⟨λi _=>i<z.length,λi H x H'=>H'=H/\∃c,z.cps[i]? = some c/\x=.str ⟨#[c]⟩,λi _=>i=z.length⟩
theorem Qp{P:Program}{w:World}{K:Frag}{tg:Expr}(it:Addr)(T:String)(z:Str)(t:Tok)
 (hT : ["enumerate","zip","dict_itemiterator","dict_reverseitemiterator","odict_iterator","itertools.zip_longest","itertools.pairwise"].contains T=false)
 (W:∀A:Around,A.handled=none->Walks P w A it [it] [it] z.cps.size (SignAt z) (λi h=>h.IsStrIter it T z t i))
 (US:∀(A:Around)(i:Nat)(s:Shared)(Q:Value->Shared->Prop)(E:Value->Shared->Prop),s.heap.IsStrIter it T z t i->Q (.ref it) s->wpAny (model P w) A (pyIter (.ref it)) Q E s) :
 Turn P w K tg (KA z) [it] it (λi h=>h.IsStrIter it T z t i) where
 mem:=by simp
 obj:=λi h st b hb=>by
  have e:b=it:=by simpa using hb
  subst e;obtain⟨o,e,c,d⟩:=st;exact⟨o,e,λv z=>by rw[d]at z;cases z⟩
 keep:=λi h h' st k=>by obtain⟨o,e,r⟩:=st;exact⟨o,k it (by simp) o e,r⟩
 item:=by
  intro X hP hw hK hc i pins s σ H E I hf st hg;subst hP hw hK;obtain⟨f0,f1,f2,f3,f4,f5⟩:=hf it (by simp);refine(W X.A (I.ok.hd hc)).item i s _ _ hg st λv h' tk hv gT kk=>?_;obtain⟨c,u,ec,rfl⟩:=hv;have I1:Inv X pins σ H { s with heap:=h',toks:=tk }:=I.turned (λb o hb e=>kk b o (by simpa using hb) e) f0 f1 f3 f4 f5;obtain⟨o,e,c1,d⟩:=id gT;exact⟨_,rfl,nM (s:={ s with heap:=h',toks:=tk }) (n:=T) e c1 d hT ⟨.str ⟨#[c]⟩,H,I1,⟨u,rfl⟩,⟨rfl,c,ec,rfl⟩,gT,λb hb=>(hf b hb).1⟩⟩
 done:=by
  intro X hP hw hK hc i pins s σ H E I hf st hg;subst hP hw hK;obtain⟨f0,f1,f2,f3,f4,f5⟩:=hf it (by simp);have hg:i=z.cps.size:=hg;subst hg;exact(W X.A (I.ok.hd hc)).done s _ _ st λh' tk kk=>⟨rfl,I.turned (λb o hb e=>kk b o (by simpa using hb) e) f0 f1 f3 f4 f5⟩
 self:=λA i s Q E st h=>US A i s Q E st h
inductive vF (x:V) (H1:Hp) (R:It->Hp->Prop):Prop
 | mk (z:_):x=.str z->R (KA z) H1->vF x H1 R
def KC(tl:TE):TI:=λσ H R=>tl σ H λx H1=>vF x H1 R
theorem Af{tg l:Expr}{tl:TE}(hl:PE X l tl):PI X tg l (KC tl):=by
 intro pins s σ H R I h;refine aF (hl pins s σ H _ I h) λv s1 ⟨x,H1,I1,r1,q1⟩=>?_;obtain⟨z,e,q⟩:=q1;subst e;obtain⟨t,rfl⟩:=r1;have hf:∀b ∈ [s1.heap.objs.size],wT X pins H1 b:=λb hb=>by
  have e:b=s1.heap.objs.size:=by simpa using hb
  subst e;exact I1.eO (le_refl _) (I1.aC.fresh (le_refl _))
 have hk:∀o:Obj,Inv X pins σ H1 { s1 with heap:=s1.heap.push o }:=λo=>I1.kept (t':=s1.toks) λb u e=>get?_push_of_some _ e;cases ha:z.cps.all (·< 128)
 ·refine wpAny_pyIter_wide ha ⟨s1.heap.objs.size,[s1.heap.objs.size],_,_,H1,rfl,hk _,Qp _ "str_iterator" z t (by decide) (λA hA=>Walks.strWide hA _ z t) (λA i s Q E st h=>wpAny_pyIter_striter_wide st h),⟨_,get?_push_size _ rfl,rfl,rfl⟩,hf,q⟩
 ·refine wpAny_pyIter_ascii ha ⟨s1.heap.objs.size,[s1.heap.objs.size],_,_,H1,rfl,hk _,Qp _ "str_ascii_iterator" z t (by decide) (λA hA=>Walks.strAscii hA _ z t) (λA i s Q E st h=>wpAny_pyIter_striter_ascii st h),⟨_,get?_push_size _ rfl,rfl,rfl⟩,hf,q⟩
theorem lq{z:Str}{c:St}{te:TE}{H:Hp}{fin:List V->Hp->Prop}(Pv:Nat->List V->Hp->Prop)(h0:Pv 0 [] H)(hl:∀i ys H,i<=z.length->Pv i ys H->ys.length<=i)(hz:z.length<=sizeLine)
 (hs:∀i d ys H,z.cps.toList[i]? = some d->Pv i ys H->te (some (.str ⟨#[d]⟩)::c) H λy H3=>Pv (i+1) (ys++[y]) H3) (hd:∀ys H,Pv z.length ys H->fin ys H):oF (KA z) c iS te H fin:=by
 refine⟨λi m ys H=>m=z.length-i/\i<=z.length/\Pv i ys H,⟨z.length,by simp,zero_le _,h0⟩,?_⟩;rintro i m ys H ⟨rfl,hi,p⟩;have hy:=hl i ys H hi p;by_cases bI:i<z.length
 ·refine .inr ⟨bI,by omega,Pv (i+1),λys' H' p'=>⟨_,by omega,rfl,bI,p'⟩,λx H' y=>?_⟩;obtain⟨e,d,ed,ex⟩:=y;subst e ex;exact iR (B:=Pv (i+1) ys H') (hs i d ys _ (by rw[Array.getElem?_toList];exact ed) p)
 ·have e:i=z.length:=by omega
  subst e;exact .inl ⟨rfl,by omega,hd ys H p⟩
variable {ts:List Str}{i:Nat}
theorem ph{us:List Value}(r:Vals (ts.map V.str) us){v:Value}(h:us[i]? = some v)(d:Str):∃t,v=.str (ts.getD i d) t:=by
 have hl:=r.length;rw[length_map]at hl;have hi:i<ts.length:=by rw[hl];exact(List.getElem?_eq_some_iff.mp h).1
 obtain⟨u,e,ru⟩:=r.get (i:=i) (x:=.str ts[i]) (by rw[getElem?_map,getElem?_eq_getElem hi];rfl);rw[e]at h;cases h;obtain⟨t,rfl⟩:=ru;exact⟨t,by rw[getD_eq_getElem?_getD,getElem?_eq_getElem hi];rfl⟩
def pj(K:Frag)(te:TE):TE:=λσ H Q=>te σ H λx H1=>∃(a:Addr)(ts:List Str),x=.ref a/\ag K H1 a (ts.map V.str)/\ts.length<4000/\Q (.int (met (λi=>ts.getD i "") ts.length).length) H1
theorem iV{e:Expr}{te:TE}{p p2 pos fM:Pos}(hc:X.calm=true)(hg:Gl X "len")(hm:X.mg "len"=none)(KD:Gl X "set")(Dm:X.mg "set"=none)(he:PE X e te)
 (h1:starEach [.Call (.Name "set" p2) [e] [] fM] X.env=[(false,eval (.Call (.Name "set" p2) [e] [] fM) X.env)]:=by rfl) (h2:starEach [e] X.env=[(false,eval e X.env)]:=by rfl) :
 PE X (.Call (.Name "len" p) [.Call (.Name "set" p2) [e] [] fM] [] pos) (pj X.K te):=by
 intro pins s σ H Q I h;refine wpAny_Call_Name_kw (rH I hg hm PySem.boot_len ?_);refine callWith_builtin1 ?_ h1 rfl;rw[h1];show wpAny _ _ (spliced ((false,eval (.Call (.Name "set" p2) [e] [] fM) X.env)::backTo pos [])) _ _ s;refine Calls.spliced_cons ?_;refine wpAny_Call_Name_kw (rH I KD Dm boot_set ?_);refine callWith_type1 ?_ h2 rfl;rw[h2];show wpAny _ _ (spliced ((false,eval e X.env)::backTo fM [])) _ _ s;refine Calls.spliced_cons (aF (he pins s σ H _ I h) λv s1 ⟨x,H1,I1,r1,q1⟩=>?_);obtain⟨a,ts,rfl,hS,hz,q⟩:=q1;cases r1;obtain⟨au,rv,pl,FY⟩:=I1.list hS;have hl:=rv.length;rw[length_map]at hl;have tu:scanBound=4096:=rfl;refine Calls.spliced_nil ?_;refine UM (knd:=strKind X.prog X.w) (val:=λi=>ts.getD i "") (I1.ok.hd hc) pl.isList (λi v hv=>?_) (by rw[size_toArray];omega) λs2 ⟨h',tk,e2,hs,hk⟩=>?_
 ·obtain⟨t,rfl⟩:=ph rv (i:=i) (v:=v) (by simpa using hv) "";exact⟨beq_self_eq_true _,rfl⟩
 subst e2;have I2:Inv X pins σ H1 { s1 with heap:=h',toks:=tk }:=I1.kept (t':=tk) λb o e=>hk b o (lt_size e) e;refine Calls.spliced_nil ?_;have Ke:au.toArray.size=ts.length:=by rw[size_toArray];omega
 rw[Ke]at hs;obtain⟨o,es,ep,t,ho,hex,hd,_,_,hsz,hf,hn⟩:=hs;refine PySem.call_len_set ho hex hd hf (by omega) ⟨.int (met (λi=>ts.getD i "") ts.length).length,H1,I2.tok _,⟨tk+1,?_⟩,q⟩;rw[hn]
theorem tK(h:i<ts.length):(ts.map V.str)[i]? = some (.str (ts.getD i "")):=by
 rw[getElem?_map,getElem?_eq_getElem h,getD_eq_getElem?_getD,getElem?_eq_getElem h];rfl
theorem Qq{i:Int}(h0:0<=i)(h:i<ts.length):cH (ts.map V.str) i=some (.str (ts.getD i.toNat "")):=oR h0 (tK (by omega))
theorem lA(ts:List Str):(ts.map V.str).all wO=true:=by
 rw[all_map];exact List.all_eq_true.mpr λ_ _=>rfl
theorem pw(ts:List Str)(c:Str):vg (.str c) (ts.map V.str)=decide (c∈ts):=by
 unfold vg
 induction ts with
 | nil=>rfl
 | cons a ts ih =>
   rw[map_cons,any_cons,ih];show((a==c) || _)=_;by_cases h:a=c
   ·subst h;simp
   ·have:¬c=a:=λe=>h e.symm;simp[h,this]
theorem Ag{x:V}(hx:(ts.map V.str)[i]? = some x):i<ts.length/\x=.str (ts.getD i ""):=by
 have hi:i<ts.length:=by have:=(List.getElem?_eq_some_iff.mp hx).1;rwa [length_map]at this
 refine⟨hi,?_⟩;rw[tK hi]at hx;exact(Option.some.inj hx).symm
theorem yA(hi:i<ts.length):ts.take (i+1)=ts.take i++[ts.getD i ""]:=by
 rw[take_succ,getElem?_eq_getElem hi,getD_eq_getElem?_getD,getElem?_eq_getElem hi];rfl
theorem wn(hi:i<ts.length):ts.getD i "" ∈ ts:=by
 rw[getD_eq_getElem?_getD,getElem?_eq_getElem hi];exact getElem_mem hi
theorem we(x y:Str):(x++y).length=x.length+y.length:=by
 show(x.cps++y.cps).size=x.cps.size+y.cps.size;exact Array.size_append
abbrev KG:Str:= "abcdefghijklmnopqrstuvwxyz"
def pz(c:Nat):Bool:=decide (97<=c) && decide (c<=122)
theorem Qr(ns:List Int):∀i,i<=ns.length->preSum (λi=>ns.getD i 0) i=(ns.take i).sum
 | 0,_=>by simp[preSum]
 | i+1,h=>by
   rw[y6 (by omega),List.sum_append,<-Qr ns i (by omega)];simp[preSum]
inductive gb (K:Frag) (xs:List V) (H:Hp) (Q:VK):Prop
 | mk (a:Addr) (ns:List Int):xs=[.ref a]->ag K H a (ns.map V.int)->Q (.int ns.sum) H->gb K xs H Q
theorem Dp(hc:X.calm=true):wX X (.builtin "sum") (gb X.K):=by
 intro pins s σ H xs us Q I r h;obtain⟨a,ns,rfl,hS,q⟩:=h;obtain⟨u,rfl,ru⟩:=r.one;cases ru;obtain⟨au,r1,p1,z1⟩:=I.list hS;have l1:=r1.length;rw[length_map]at l1;have bI:a<s.heap.objs.size:=by obtain⟨o,n,e,_⟩:=p1;exact lt_size e
 refine call_sum_walkAnyS (wpAny_pyIter_list p1.isList ?_);have I1:Inv X pins σ H { s with heap:=s.heap.push { cls:=.type "list_iterator",data:=.fields #[.ref a,.int 0 0] } }:=I.kept (t':=s.toks) λb o e=>get?_push_of_some _ e;refine⟨s.heap.objs.size,_,_,_,au.toArray.size,_,_,λi=>ns.getD i 0,rfl,(Walks.list (by simpa using I.ok.hd hc) s.heap.objs.size a (ne_of_lt bI) au.toArray).toS,⟨⟨_,get?_push_size _ rfl,rfl,rfl⟩,p1.isList.push _⟩,?_,?_,λs' t' hm=>?_⟩
 ·intro b hb;rw[size_push];simp only[mem_cons,not_mem_nil,or_false]at hb;rcases hb with rfl | rfl
  ·exact lt_succ_self _
  ·exact lt_succ_of_lt bI
 ·intro i v hP;exact IntsAre.int_at (Bl r1) i v (by simpa using hP)
 ·obtain⟨h',g',d',Ky,CA⟩:=s';have eg:g'=s.gens:=hm.gens;have ed:d'=s.drawn:=hm.drawn;have eo:CA=s.os:=hm.os;subst eg ed eo;have f:=I.eO (H':=H) (le_refl _) (I.aC.fresh (le_refl _));have I2:=I1.turned (t':=Ky) (h':=h') (it:=s.heap.objs.size) (λb o hb e=>hm.heap b o (by simpa using hb) e) f.1 f.2.1 f.2.2.2.1 f.2.2.2.2.1 f.2.2.2.2.2;refine⟨.int ns.sum,H,I2,⟨t',?_⟩,q⟩;rw[size_toArray,<-l1,Qr ns _ (le_refl _),take_length]
end
def d9(X:Cx)(x:Str)(N:List Str)(scope:Scope)(cl:List (Str×Addr))(cx:Addr)(C:Addr)(s2:Shared)(H2:Hp)(fp:List Addr):Cx where
 prog:=X.prog
 w:=X.w
 K:=X.K
 mg:=X.mg
 base:=X.base
 A:=X.A
 N:=N
 s₀:=s2
 H₀:=H2
 env:=compEnvC scope ((x,cx)::cl) C X.env
 outer:=X.stack
 stack:=X.stack
 ex:=fp
 fn:=λy=>y==x
 calm:=X.calm
 pn:=[]
 xe:=λ_ _=>False
structure aY (sc:Scope) (N:List Str) (x:Str) (fr:List Str) (ix:List Nat) (scope:Scope):Prop where
 kind:scope.kind=.function
 one:∀a acc,cellsFrom a scope.names acc=(x,a)::acc
 push:∀h:Heap,pushCells h scope.names=h.push { cls:=.type "cell",data:=.cell none }
 cells:∀y∈scope.names,y.2=.cell->y.1=x
 vj:∀y∈scope.names,y.2=.local->scope.names.lookup y.1=some .local
 lx:scope.names.lookup x=some .cell
 free:∀y∈scope.names,y.2=.free->sc.names.lookup y.1=some .cell\/sc.names.lookup y.1=some .free
 at':fr.map some=ix.map λi=>N[i]?
 xW:∀y∈fr,scope.names.lookup y=some .free/\(sc.names.lookup y=some .cell\/sc.names.lookup y=some .free)
 nd:(x::fr).Nodup
theorem Qs(h:scope.names.lookup y=some .cell\/scope.names.lookup y=some .free):(relabel scope env).names.lookup y=some .cell\/(relabel scope env).names.lookup y=some .free:=by
 rcases h with h | h
 ·left;rw[wV,FL (CM env) h,FN env y .cell (by decide)]
 ·exact FO h
variable {fr:List Str}{ix:List Nat}
theorem ak.under{sc:Scope}(S:ak sc N x fr ix scope):ak (relabel sc env) N x fr ix scope :=
 ⟨S.kind,S.bY,S.vj,S.lx,λy hy hf=>Qs (S.free y hy hf),S.at',λy hy=>⟨(S.xW y hy).1,Qs (S.xW y hy).2⟩,S.nd⟩
theorem UT(hc:∀z∈scope.names,z.2=.cell->z.1=x)(h:(relabel scope env).names.lookup y=some .cell\/(relabel scope env).names.lookup y=some .free):(y,NameKind.free)∈scope.names\/y=x:=by
 rw[wV]at h;have go:∀k,(k=.cell\/k=.free)->(scope.names.map (rl env)).lookup y=some k->(y,NameKind.free)∈scope.names\/y=x:=λk hk q=>by
  obtain⟨k0,m,e⟩:=JS (CM env) q;by_cases hf:k0=.free
  ·rw[hf]at m;exact .inl m
  ·rw[FN env y k0 hf]at e;rcases hk with z | z
   ·exact .inr (hc _ m (e.trans z))
   ·exact absurd (e.trans z) hf
 rcases h with h | h
 ·exact go _ (.inl rfl) h
 ·exact go _ (.inr rfl) h
variable {cx:Addr}{cl:List (Str×Addr)}
theorem vG{c:Addr}(h:((x,cx)::cl).lookup y=some c):(y=x/\c=cx)\/(y≠x/\cl.lookup y=some c):=by
 rw[lookup_cons]at h;by_cases hy:y=x
 ·have hb:(y==x)=true:=by simp[hy]
  rw[hb]at h;exact .inl ⟨hy,(Option.some.inj h).symm⟩
 ·rw[beq_eq_false_iff_ne.mpr hy]at h;exact .inr ⟨hy,h⟩
theorem jT(hy:y≠x):((x,cx)::cl).lookup y=cl.lookup y:=by
 rw[lookup_cons,beq_eq_false_iff_ne.mpr hy]
theorem tL:((x,cx)::cl).lookup x=some cx:=by
 rw[lookup_cons,beq_self_eq_true]
section
variable {X:Cx}{pins:List (Addr×Obj)}{σ:St}{H:Hp}{s:Shared}{x:Str}{fr:List Str}{ix:List Nat}{scope:Scope}{cl:List (Str×Addr)}{fp:List Addr}{C D cx:Addr}
theorem Qt(I:Inv X pins σ H s)(h1:∀y c,cl.lookup y=some c->X.env.cells.lookup y=some c){y:Str}{c:Addr}(e:cl.lookup y=some c):c<s.heap.objs.size:=by
 obtain⟨v,o,ho,_⟩:=I.cell y c (h1 y c e);exact lt_size ho
theorem tM(S:aY X.env.scope X.N x fr ix scope)(I:Inv X pins σ H s)(hf:∀b∈fp,wT X pins H b)(eE:∀b∈fp,b<s.heap.objs.size)(hC:s.heap.objs.size<=C)(rR:s.heap.objs.size<=cx)
 (h1:∀y c,cl.lookup y=some c->X.env.cells.lookup y=some c) (h2:∀y,(y,NameKind.free)∈scope.names->∃c,cl.lookup y=some c):(d9 X x (x::fr) scope cl cx C s H fp).Ok where
 mod:=I.ok.mod
 kind:=S.kind
 glob:=I.ok.glob
 blt:=I.ok.blt
 above:=hC
 inj:=λy z c a b=>by
  rcases vG a with⟨a1,a2⟩|⟨a1,a2⟩
  ·rcases vG b with⟨b1,b2⟩|⟨b1,b2⟩
   ·exact a1.trans b1.symm
   ·exact absurd (Qt I h1 b2) (by rw[a2];exact Nat.not_lt.mpr rR)
  ·rcases vG b with⟨b1,b2⟩|⟨b1,b2⟩
   ·exact absurd (Qt I h1 a2) (by rw[b2];exact Nat.not_lt.mpr rR)
   ·exact I.ok.inj y z c (h1 y c a2) (h1 z c b2)
 has:=λy hy=>by
  by_cases e:y=x
  ·subst e;exact⟨cx,tL⟩
  ·rcases UT (env:=X.env) (scope:=scope) S.cells hy with z | z
   ·obtain⟨c,hc⟩:=h2 y z;exact⟨c,(jT e).trans hc⟩
   ·exact absurd z e
 nz:=λy c h e=>by
  have hy:y=x:=by simpa [d9] using h
  rcases vG e with⟨_,z⟩|⟨z,_⟩
  ·rw[z];exact rR
  ·exact absurd hy z
 hd:=I.ok.hd
 frames:=I.ok.frames
 rF:=.inl rfl
 jz:=λb hb=>⟨λz=>absurd (eE b hb) (by rw[z];exact Nat.not_lt.mpr hC),λy c e=>by
  rcases vG e with⟨_,z⟩|⟨_,z⟩
  ·exact λq=>absurd (eE b hb) (by rw[<-q,z];exact Nat.not_lt.mpr rR)
  ·exact(hf b hb).2.2.2.2.1 y c (h1 y c z)⟩
 bs:=I.bs
 fV:=le_trans I.ok.fV I.sz
 dB:=λb o e hb=>by
  rcases (hf b hb).2.2.2.1 with z | z
  ·exact I.ok.dB b o e z
  ·exact absurd (lt_of_lt_of_le (lt_size e) (le_trans I.ok.fV z)) (lt_irrefl _)
 dC:=λb hb z=>by
  rcases List.mem_cons.mp (I.eM b z)with e | e
  ·exact(hf b hb).2.1 e
  ·exact(hf b hb).2.2.1 e
 bX:=I.stack
 jA:=I.cU
theorem aY.len(S:aY X.env.scope X.N x fr ix scope):fr.length=ix.length:=by have:=congrArg List.length S.at';simpa using this
theorem pA{s':Shared}{pn:List (Addr×Obj)}{m:Str->Option Value}(S:aY X.env.scope X.N x fr ix scope)(I:Inv X pins σ H s)(hf:∀b∈fp,wT X pins H b)(eE:∀b∈fp,b<s.heap.objs.size)(hC:s.heap.objs.size<=C)(rR:s.heap.objs.size<=cx)
 (h1:∀y c,cl.lookup y=some c->X.env.cells.lookup y=some c) (h2:∀y,(y,NameKind.free)∈scope.names->∃c,cl.lookup y=some c)
 (ho:s'.os=s.os) (hg:s'.gens=s.gens) (k:∀b o,s.heap.get? b=some o->s'.heap.get? b=some o) (hn:s'.heap.Ns C m) (dP:s'.heap.IsCell cx none)
 (hp:∀p∈pn,s'.heap.get? p.1=some p.2/\s.heap.objs.size<=p.1/\p.1≠C/\∀v,p.2.data ≠ .cell v) :
 Inv (d9 X x (x::fr) scope cl cx C s H fp) pn (none::cI ix σ) H s':=by
 obtain⟨mX,P4,CN⟩:=I.loc;refine⟨tM S I hf eE hC rR h1 h2,ho,by rw[hg];exact I.bare,Un.kept k,⟨m,hn,λi y v e1 e2 e3=>?_⟩,λy c e=>?_,I.aC.fresh hC,λy c e=>?_,λp rM=>?_,I.aC.kept k,by
  show(none::cI ix σ).length=(x::fr).length;simp[JT,S.len]⟩
 ·cases i with
  | zero=>cases e2
  | succ j =>
    have jK:fr[j]? = some y:=e1;have eF:(cI ix σ)[j]? = some (some v):=e2;have ee:=mem_of_getElem? jK;have UU:y≠x:=λz=>(List.nodup_cons.mp S.nd).1 (by rw[<-z];exact ee);obtain⟨f1,f2⟩:=S.xW y ee;unfold cI at eF;rw[getElem?_map]at eF;cases ei:ix[j]? with
    | none=>rw[ei]at eF;cases eF
    | some i =>
      rw[ei]at eF;have fY:(σ[i]?).join=some v:=Option.some.inj eF;have e4:σ[i]? = some (some v):=by
       cases q:σ[i]? with
       | none=>rw[q]at fY;cases fY
       | some w=>rw[q]at fY;have:w=some v:=fY;rw[this]
      have e5:X.N[i]? = some y:=by
       have:=congrArg (λl=>l[j]?) S.at';simp only[getElem?_map,jK,ei]at this
       simpa using this.symm
      have CO:Be X.env.scope y:=by
       rcases f2 with z | z
       ·exact .inr (.inl z)
       ·exact .inr (.inr z)
      obtain⟨u,r,l⟩:=CN i y v e5 e4 CO;refine⟨u,r,.inr ⟨FO f1,?_⟩⟩;rcases l with⟨z,_⟩|⟨_,c,ec,hc⟩
      ·rcases f2 with q | q
       ·have q':=(show X.env.scope.names.lookup y=some .local from z).symm.trans q;cases q'
       ·have q':=(show X.env.scope.names.lookup y=some .local from z).symm.trans q;cases q'
      ·obtain⟨c',jC⟩:=h2 y (PySem.mem_of_lookup f1);have:c'=c:=by have:=h1 y c' jC;rw[ec]at this;exact(Option.some.inj this).symm
       subst this;refine⟨c',(jT UU).trans jC,?_⟩;obtain⟨o,dD,hd⟩:=hc;exact⟨o,k _ _ dD,hd⟩
 ·rcases vG e with⟨_,z⟩|⟨_,z⟩
  ·subst z;exact⟨none,dP⟩
  ·obtain⟨v,o,dD,hd⟩:=I.cell y c (h1 y c z);exact⟨v,o,k _ _ dD,hd⟩
 ·rcases vG e with⟨_,z⟩|⟨_,z⟩
  ·subst z;exact I.aC.fresh rR
  ·exact I.bz y c (h1 y c z)
 ·have oE:p∈pn:=by simpa [d9] using rM
  obtain⟨q1,q2,q3,q4⟩:=hp p oE;refine⟨q1,I.aC.fresh q2,q3,λz=>?_,q4⟩;obtain⟨_,o,dD,_⟩:=I.stack.mem z;exact absurd (lt_of_lt_of_le (lt_size dD) q2) (lt_irrefl _)
end
theorem UW{A:Around}{sc:Scope}{globals:Addr}{outer:Env}{Q:Env->Shared->Prop}(S:aY sc N x fr ix scope)
 (h:Q (newEnv scope s.heap.objs.size globals ((x,s.heap.objs.size+1)::cl) qual none .none (some outer) builtinsNs) { s with heap:=(s.heap.push { cls:=.type "dict",data:=.dict #[] }).push { cls:=.type "cell",data:=.cell none } }) :
 wpAny M A (newFunctionEnv scope globals cl [] qual none .none (some outer)) Q E s:=by
 simp only[newFunctionEnv,Option.isSome_some,if_true];refine wpAny_bind (wpAny_alloc ?_);refine wpAny_bind (wpAny_layCells _ (λname kind cells=>by cases UX:kind==NameKind.cell <;> simp[UX]) _ _ _ _ ?_);rw[S.one,S.push,show({ s with heap:=s.heap.push { cls:=.type "dict",data:=.dict #[] } }:Shared).heap.objs.size=s.heap.objs.size+1 from size_push ..];simp only[forIn_nil];exact wpAny_bind (wpAny_pure (wpAny_pure h))
section
variable {X:Cx}{x:Str}{fr:List Str}{ix:List Nat}{scope:Scope}{elt iter:Expr}{ifs:List Expr}{px pos:Pos}{wi:TI}{tc:TT}{te:TE}
theorem lB{use:Option (Value->Sem Unit)}{Q:Value->Shared->Prop}{pins:List (Addr×Obj)}{s2:Shared}{σ:St}{H2:Hp}{it:Addr}{fp:List Addr}{tn:Nat->Heap->Prop}{J:It}{cl:List (Str×Addr)}(S:aY X.env.scope X.N x fr ix scope)(hc:X.calm=true)
 (iT:∀cl cx C s2 H2 fp,rN (d9 X x (x::fr) scope cl cx C s2 H2 fp) ifs tc) (he:∀cl cx C s2 H2 fp,PE (d9 X x (x::fr) scope cl cx C s2 H2 fp) elt te)
 (h1:∀y c,cl.lookup y=some c->X.env.cells.lookup y=some c) (h2:∀y,(y,NameKind.free)∈scope.names->∃c,cl.lookup y=some c)
 (I2:Inv X pins σ H2 s2) (T:Turn X.prog X.w X.K (.Name x px) J fp it tn) (fW:tn 0 s2.heap) (f2:∀b∈fp,wT X pins H2 b) {fin:List V->Hp->Prop} (wc:oF J (cI ix σ) tc te H2 fin)
 (hQ:∀(D C:Addr)(ys:List V)(H':Hp)(s':Shared)(m:Str->Option Value),Inv X pins σ (upd H' D (.lst ys)) s'->H' D=none->s'.heap.Ns C m->D≠C->s2.heap.objs.size<=C->H' C=none->fin ys H' ->
   compPost (model X.prog X.w) X.A X.xe use Q (.ref D) C (.ok .next) s') :
 wpAny (model X.prog X.w) X.A (newList []) (λacc s₃=>wpAny (model X.prog X.w) X.A (newFunctionEnv scope X.env.globals cl [] X.env.qual none .none (some X.env)) (λgZ s₄ =>
  codeAny (model X.prog X.w) X.A (.compStart (.ListComp elt [⟨.Name x px,iter,ifs,0⟩] scope pos) 0 (.ref it) acc { gZ with scope:=relabel scope X.env }) (compPost (model X.prog X.w) X.A X.xe use Q acc gZ.locals) s₄) X.xe s₃) X.xe s2:=by
 have eE:∀b∈fp,b<s2.heap.objs.size:=λb hb=>by
  obtain⟨o,e,_⟩:=T.obj 0 _ fW b hb;exact lt_size e
 refine wpAny_newObj_type (UW S ?_);generalize oH:s2.heap.push { cls:=.type "list",dict:=none,data:=.seq ([]:List Value).toArray }=dq;have oI:dq.objs.size=s2.heap.objs.size+1:=by rw[<-oH,size_push]
 have dR:s2.heap.objs.size≠dq.objs.size:=by rw[oI];exact ne_of_lt (lt_succ_self _)
 have d7:s2.heap.objs.size<=dq.objs.size:=by rw[oI];exact le_succ _
 have rR:s2.heap.objs.size<=dq.objs.size+1:=le_trans d7 (le_succ _);have Ah:s2.heap.objs.size≠dq.objs.size+1:=by rw[oI];exact ne_of_lt (lt_succ_of_lt (lt_succ_self _))
 have vH:(dq.push { cls:=.type "dict",data:=.dict #[] }).objs.size=dq.objs.size+1:=size_push ..;have dP:((dq.push { cls:=.type "dict",data:=.dict #[] }).push { cls:=.type "cell",data:=.cell none }).IsCell (dq.objs.size+1) none:=⟨_,by rw[<-vH];exact get?_push_size _ rfl,rfl⟩;have dF:((dq.push { cls:=.type "dict",data:=.dict #[] }).push { cls:=.type "cell",data:=.cell none }).Ns dq.objs.size λ_=>none:=(Heap.Ns.new dq (.type "dict")).push _;have old:∀b o,s2.heap.get? b=some o->((dq.push { cls:=.type "dict",data:=.dict #[] }).push { cls:=.type "cell",data:=.cell none }).get? b=some o:=λb o e=>get?_push_of_some _ (get?_push_of_some _ (oH ▸ get?_push_of_some _ e));have da:((dq.push { cls:=.type "dict",data:=.dict #[] }).push { cls:=.type "cell",data:=.cell none }).get? s2.heap.objs.size=some { cls:=.type "list",data:=.seq ([]:List Value).toArray 0 }:=get?_push_of_some _ (get?_push_of_some _ (oH ▸ get?_push_size _ rfl));generalize UY:dq.objs.size+1=cx at dP rR Ah ⊢;generalize mU:(dq.push { cls:=.type "dict",data:=.dict #[] }).push { cls:=.type "cell",data:=.cell none }=h₁ at dP dF old da ⊢;have vk:tn 0 h₁:=T.keep 0 _ _ fW λb _ o e=>old b o e;have oJ:∀b∈fp,b≠s2.heap.objs.size:=λb hb=>ne_of_lt (eE b hb);generalize hD:s2.heap.objs.size=D at da dR Ah oJ ⊢;have g7:s2.heap.objs.size<=D:=le_of_eq hD;generalize hC:dq.objs.size=C at dF dR d7 ⊢;have hV:∀b o,s2.heap.get? b=some o->b≠D:=λb o e z=>absurd (lt_size e) (by rw[z,<-hD];exact lt_irrefl _);obtain⟨W,⟨m0,w0⟩,turn⟩:=wc;have loop:∀s₃:Shared,s₃={ s2 with heap:=h₁ } ->
  codeAny (model X.prog X.w) X.A (.compLoop (.ListComp elt [⟨.Name x px,iter,ifs,0⟩] scope pos) 0 (.ref it) (.ref D) (compEnvC scope ((x,cx)::cl) C X.env))
   (compPost (model X.prog X.w) X.A X.xe use Q (.ref D) C) s₃:=by
  rintro s₃ rfl;have I0:Inv (d9 X x (x::fr) scope cl cx C s2 H2 fp) [(D,{ cls:=.type "list",data:=.seq ([]:List Value).toArray 0 })] (none::cI ix σ) H2 { s2 with heap:=h₁ } :=
   pA S I2 f2 eE d7 rR h1 h2 rfl rfl old dF dP (λp hp=>by
    have e:p=(D,{ cls:=.type "list",data:=.seq ([]:List Value).toArray 0 }):=by simpa using hp
    subst e;exact⟨da,g7,dR,λv z=>by cases z⟩)
  have c9:∀{au:Obj}{H':Hp},(∀b∈fp,H' b=none)->∀b∈fp,wT (d9 X x (x::fr) scope cl cx C s2 H2 fp) [(D,au)] H' b:=λ{au H'} hn b hb=>by
   refine⟨hn b hb,λz=>?_,λz=>(I0.ok.dC b hb z),.inl hb,λy c e=>(I0.ok.jz b hb).2 y c e,λp hp z=>?_⟩
   ·exact(I0.ok.jz b hb).1 z
   ·have e:p=(D,au):=by simpa [d9] using hp
    subst e;exact oJ b hb (Eq.symm z)
  refine JU (env:=compEnvC scope ((x,cx)::cl) C X.env)
   (λn s'=>∃i ys au k v0 H',Vals ys au/\Inv (d9 X x (x::fr) scope cl cx C s2 H2 fp) [(D,{ cls:=.type "list",data:=.seq au.toArray k })] (v0::cI ix σ) H' s'/\tn i s'.heap/\(∀b∈fp,H' b=none)/\W i n ys H') ?_ m0
   ⟨0,[],[],0,none,H2,.nil,I0,vk,λb hb=>(f2 b hb).1,w0⟩
  rintro n s3 ⟨i,ys,au,k,v0,H3,rv,I3,kJ,nS,w3⟩;rcases turn i n ys H3 w3 with⟨stop,hz,oK⟩|⟨go,hz,N,hN,step⟩
  ·refine aF (T.done (d9 X x (x::fr) scope cl cx C s2 H2 fp) rfl rfl rfl hc i _ s3 _ H3 _ I3 (c9 nS) kJ stop) λr s4 ⟨hr,I4⟩=>?_;subst hr;have pD:=I4.pin (D,{ cls:=.type "list",data:=.seq au.toArray k }) (by simp[d9]);obtain⟨mC,CP,_⟩:=I4.loc;have b9:H3 D=none:=pD.2.1;have h9:cE X.prog X.w (upd H3 D (.lst ys)) s4.heap:=λb u e=>by
    by_cases hb:b=D
    ·subst hb;rw[zc]at e;cases e;exact⟨hz,au,k,rv,pD.1⟩
    ·rw[zh hb]at e;exact(I4.aC b u e).bQ (λc v _ q=>q) (λc q=>by rw[zh (zj q b9)];exact q) λc xs q=>by rw[zh (zj q b9)];exact q
   have b4:Un (cf X.stack) fp H2 H3 s2.heap s4.heap:=I4.base;have un:Un (cf X.stack) fp H2 (upd H3 D (.lst ys)) s2.heap s4.heap :=
    ⟨b4.keep,b4.slot,λb o q n hx=>by
     rw[zh (hV b o q)];exact b4.free b o q n hx,b4.there,λb xs q=>by rw[zh (zj (b4.bH b xs q) b9)];exact b4.bH b xs q,
     λb o u q=>by rw[zh (zj (b4.bB b o u q) b9)];exact b4.bB b o u q,λb ps q=>by
      obtain⟨more,e⟩:=b4.bM b ps q;exact⟨more,by rw[zh (zj e b9)];exact e⟩⟩
   have I5:Inv X pins σ (upd H3 D (.lst ys)) s4:=I2.jD (ch:=fp) I4.os un h9 I4.bare λb hb=>by
    obtain⟨g0,g1,g2,g3,g4,g5⟩:=f2 b hb;exact⟨g3,g1,g4,g5⟩
   exact hQ D C ys H3 s4 mC I5 b9 CP dR d7 I4.free oK
  ·refine aF (T.item (d9 X x (x::fr) scope cl cx C s2 H2 fp) rfl rfl rfl hc i _ s3 _ H3 _ I3 (c9 nS) kJ go) λr s4 ⟨u,hr,h4⟩=>?_;subst hr;refine aF h4 λ_ s5 ⟨y,H5,I5,r5,y5,gH,xE⟩=>?_;have xF:=I5.pinned (c9 xE) (T.obj _ _ gH);have pg:PG (d9 X x (x::fr) scope cl cx C s2 H2 fp) (.Name x px) (uV 0):=zN S.nd rfl (.inr (by show(relabel scope X.env).names.lookup x=some .cell;rw[wV,FL (CM X.env) S.lx,FN X.env x .cell (by decide)])) (.inl (by simp[d9]));refine aF (pg _ s5 _ H5 y u (λσ6 H6=>σ6=some y::cI ix σ/\H6=H5) xF r5 ⟨rfl,rfl⟩) λ_ s6 ⟨σ6,H6,I6,e6,CQ⟩=>?_;subst e6 CQ;refine aF (iT cl cx C s2 H2 fp _ s6 _ _ _ I6 (step y _ y5)) λb s7 ⟨H7,I7,q7⟩=>?_;have again:∀{s8:Shared}{H8:Hp}{its':List Value}{k':Nat}{ys':List V},Vals ys' its'->Inv (d9 X x (x::fr) scope cl cx C s2 H2 fp) [(D,{ cls:=.type "list",data:=.seq its'.toArray k' })] (some y::cI ix σ) H8 s8->(∀b∈fp,∀o,s5.heap.get? b=some o->s8.heap.get? b=some o)->(∀b∈fp,H8 b=none)->N ys' H8 ->
    ∃m,m<n/\∃i ys au k v0 H',Vals ys au/\Inv (d9 X x (x::fr) scope cl cx C s2 H2 fp) [(D,{ cls:=.type "list",data:=.seq au.toArray k })] (v0::cI ix σ) H' s8/\tn i s8.heap/\(∀b∈fp,H' b=none)/\W i m ys H' :=
    λ{s8 H8 its' k' ys'} CS I8 kp CT nn=>let ⟨m',hm,w8⟩:=hN ys' H8 nn;⟨m',hm,i+1,ys',its',k',some y,H8,CS,I8,T.keep _ _ _ gH kp,CT,w8⟩
   cases b with
   | false =>
     rw[if_neg Bool.false_ne_true]at q7 ⊢;refine again rv I7.bt (λb hb o e=>(I7.pin (b,o) (by simp[d9];exact .inr (yJ hb e))).1) (λb hb=>?_) q7;obtain⟨o,e,d⟩:=T.obj _ _ gH b hb;exact(I7.pin (b,o) (by simp[d9];exact .inr (yJ hb e))).2.1
   | true =>
     rw[if_pos rfl]at q7 ⊢;refine aF (he cl cx C s2 H2 fp _ s7 _ _ _ I7 q7) λv s8 ⟨z,H8,I8,r8,q8⟩=>?_;have pD:=I8.pin (D,{ cls:=.type "list",data:=.seq au.toArray k }) (by simp[d9]);have P7:ys.length=au.length:=rv.length;refine append_at (hsz:=by show au.toArray.size<=sizeLine;rw[size_toArray];omega) pD.1 λh₉ vm vn=>?_;have eo:({ cls:=.type "list",data:=.seq (au.toArray.push v) (k+1) }:Obj)={ cls:=.type "list",data:=.seq (au++[v]).toArray (k+1) }:=by rw[push_toArray]
     rw[eo]at vn;have vo:∀b∈fp,∀o,s5.heap.get? b=some o->s8.heap.get? b=some o/\H8 b=none:=λb hb o e=>by
      have q:=I8.pin (b,o) (by simp[d9];exact .inr (yJ hb e));exact⟨q.1,q.2.1⟩
     have J8:=I8.bt.bG (pins':=[]) (λp hp=>by cases hp);have dS:wT (d9 X x (x::fr) scope cl cx C s2 H2 fp) [] H8 D:=⟨pD.2.1,pD.2.2.1,pD.2.2.2.1,.inr g7,λy c e z=>by
      rcases vG e with⟨_,q⟩|⟨_,q⟩
      ·exact Ah (z.symm.trans q)
      ·obtain⟨v,o,ho,_⟩:=I2.cell y c (h1 y c q);exact hV c o ho z,λp hp=>by cases hp⟩
     have I9:Inv (d9 X x (x::fr) scope cl cx C s2 H2 fp) [] (some y::cI ix σ) H8 { s8 with heap:=h₉ }:=J8.turned (t':=s8.toks) (it:=D) (λb o hb e=>(vm.2 b hb).trans e) dS.1 dS.2.1 dS.2.2.2.1 dS.2.2.2.2.1 dS.2.2.2.2.2;refine again (its':=au++[v]) (k':=k+1) (ys':=ys++[z]) (rv.append (.cons r8 .nil)) (I9.bG λp hp=>?_) (λb hb o e=>(vm.2 b (oJ b hb)).trans (vo b hb o e).1) (λb hb=>?_) q8
     ·have e:p=(D,{ cls:=.type "list",data:=.seq (au++[v]).toArray (k+1) }):=by simpa using hp
      subst e;exact⟨vn,dS.1,dS.2.1,dS.2.2.1,λv z=>by cases z⟩
     ·obtain⟨o,e,d⟩:=T.obj _ _ gH b hb;exact(vo b hb o e).2
 exact codeAny_compStart_list (loop _ rfl) (T.self X.A 0 _ _ _ vk (loop _ rfl))
theorem pB(S:aY X.env.scope X.N x fr ix scope)(hc:X.calm=true)(hi:PI X (.Name x px) iter wi)(iT:∀cl cx C s2 H2 fp,rN (d9 X x (x::fr) scope cl cx C s2 H2 fp) ifs tc)(he:∀cl cx C s2 H2 fp,PE (d9 X x (x::fr) scope cl cx C s2 H2 fp) elt te)
 (hs:∀x,foldedSetIterable iter X.env x=pure x:=by intro _;rfl):PE X (.ListComp elt [⟨.Name x px,iter,ifs,0⟩] scope pos) (oG ix wi tc te):=by
 intro pins s σ H Q I h;obtain⟨cl,tq,h1,h2⟩:=CL (env:=X.env) (scope:=scope) λy hy hf=>I.ok.has y.1 (S.free y hy hf);rw[eval_ListComp];refine wpAny_comprehension_free (use:=none) rfl hs tq S.kind S.vj (aF (hi pins s σ H _ I h) λxv s1 q1=>aF q1 λxA s2 q2=>?_);obtain⟨it,fp,tn,J,H2,rfl,I2,T,fW,f2,wc⟩:=q2;refine lB S hc iT he h1 h2 I2 T fW f2 wc λD C ys H' s' m I' hD hn dR hC rO fin=>?_;refine⟨m,hn,λh' sb=>⟨.ref D,upd H' D (.lst ys),?_,rfl,fin D hD⟩⟩;have cY:wT X pins (upd H' D (.lst ys)) C:=by
  have z:=I2.eO (H':=upd H' D (.lst ys)) hC (by rw[zh (Ne.symm dR)];exact rO);exact z
 exact I'.turned (t':=s'.toks) (it:=C) (λb o hb e=>(sb.2 b hb).trans e) cY.1 cY.2.1 cY.2.2.2.1 cY.2.2.2.2.1 cY.2.2.2.2.2
end
section
open PySem.SeqAt
open PySem.AutoSeq1 (wpAny_loadPart')
open PySem.MeetsSeq PySem.MeetsSeq2 PySem.MeetsSeq3
theorem tO(l b:Addr)(items bw:Array Value)(n n2:Nat)(dd Ai:Option Addr)(sl rP:Array (Option Value))(ns ms:List Int)(hi:IntsAre items.toList ns)(hj:IntsAre bw.toList ms)(k:Nat):
 ∀i:Nat,ns.length-i=k->i<=ns.length->i<=ms.length->Meets (Builtin.«list.__eq__.loop» ⟨[.ref l,.ref b,rawInt i,rawInt 0],[]⟩)
  (λA R s=>s.heap.get? l=some { cls:=.type "list",dict:=dd,data:=.seq items n,slots:=sl }/\s.heap.get? b=some { cls:=.type "list",dict:=Ai,data:=.seq bw n2,slots:=rP } /\
    R (.ok (.ret (.bool (HT.lexLt (ns.drop i) (ms.drop i))))) s):=by
 have z1:items.size=ns.length:=by rw[<-hi.length];simp
 have z2:bw.size=ms.length:=by rw[<-hj.length];simp
 have stop:∀i,(i=ns.length\/i=ms.length)->i<=ns.length->i<=ms.length->HT.lexLt (ns.drop i) (ms.drop i)=decide (items.size<bw.size):=λi h h1 h2=>by
  rw[z1,z2];rcases Nat.lt_or_ge i ns.length with c1 | c1
  ·have e:i=ms.length:=h.elim (λz=>by omega) id;rw[drop_of_length_le (le_of_eq e.symm),drop_eq_getElem_cons c1,HT.eV];exact(decide_eq_false (by omega)).symm
  ·rw[drop_of_length_le c1];rcases Nat.lt_or_ge i ms.length with c2 | c2
   ·rw[drop_eq_getElem_cons c2,HT.eU];exact(decide_eq_true (by omega)).symm
   ·rw[drop_of_length_le c2,HT.fL];exact(decide_eq_false (by omega)).symm
 induction k with
 | zero =>
   intro i hk h1 h2 prog w A R s h;obtain⟨hp,g,d,tk,os⟩:=s;obtain⟨hl,hb,h⟩:=h;rw[stop i (.inl (by omega)) h1 h2]at h
   wp_walk using wpAny_loadPart' hl,wpAny_loadPart' hb
   have iA:items[((i:Nat):Int).toNat]? = none:=by simp;omega
   rw[iA]
   wp_walk using wpAny_loadPart' hl,wpAny_loadPart' hb
   exact h
 | succ k ih =>
   intro i hk h1 h2 prog w A R s h;obtain⟨hp,g,d,tk,os⟩:=s;obtain⟨hl,hb,h⟩:=h;have bI:i<items.size:=by omega
   have iA:items[((i:Nat):Int).toNat]? = some items[i]:=by simp[bI]
   wp_walk using wpAny_loadPart' hl,wpAny_loadPart' hb
   rw[iA];by_cases hm:i<ms.length
   ·have Dq:i<bw.size:=by omega
    have jU:bw[((i:Nat):Int).toNat]? = some bw[i]:=by simp[Dq]
    have hc:((i:Int)+1)=((i+1:Nat):Int):=by push_cast;rfl
    rw[jU];obtain⟨t,et⟩:=IntsAre.int_at hi i items[i] (by simp[bI]);obtain⟨u,eu⟩:=IntsAre.int_at hj i bw[i] (by simp[Dq]);have Bf:i<ns.length:=by omega
    have en:ns.getD i 0=ns[i]:=by rw[getD_eq_getElem?_getD,getElem?_eq_getElem Bf];rfl
    have em:ms.getD i 0=ms[i]:=by rw[getD_eq_getElem?_getD,getElem?_eq_getElem hm];rfl
    rw[en]at et;rw[em]at eu;rw[drop_eq_getElem_cons Bf,drop_eq_getElem_cons hm,HT.cg]at h;have heq:EqAt A.in1 ⟨hp,g,d,tk,os⟩ items[i] bw[i] (ns[i]==ms[i]):=by rw[et,eu];exact SeqAt.EqAt.int_int _ _ _ _
    refine wpAny_bind (heq prog w _ _ ?_);cases rQ:(ns[i]==ms[i])with
    | true =>
      rw[if_pos (by simpa using rQ)]at h
      wp_walk
      rw[hc];exact⟨plainId_quiet plain_eq_loop _,codeAny_builtin entry_eq_loop (by
       rw[Around.under_plainId plain_eq_loop _];exact ih (i+1) (by omega) (by omega) (by omega) prog w A R _ ⟨hl,hb,h⟩)⟩
    | false =>
      rw[if_neg (by simpa using rQ)]at h
      wp_walk using wpAny_loadPart' hl,wpAny_loadPart' hb
      rw[iA,jU];have Qu:=HT.oq A.in1 ⟨hp,g,d,tk,os⟩ ns[i] t ms[i] u prog w;rw[et,eu]
      wp_walk using Qu
      exact h
   ·have jU:bw[((i:Nat):Int).toNat]? = none:=by simp;omega
    rw[jU];rw[stop i (.inr (by omega)) h1 h2]at h
    wp_walk using wpAny_loadPart' hl,wpAny_loadPart' hb
    exact h
theorem UZ(l b:Addr)(items bw:Array Value)(n n2:Nat)(dd Ai:Option Addr)(sl rP:Array (Option Value))(ns ms:List Int)(hi:IntsAre items.toList ns)(hj:IntsAre bw.toList ms):
 Meets (Builtin.«list.__lt__» ⟨[.ref l,.ref b],[]⟩)
  (λ_ R s=>s.heap.get? l=some { cls:=.type "list",dict:=dd,data:=.seq items n,slots:=sl }/\s.heap.get? b=some { cls:=.type "list",dict:=Ai,data:=.seq bw n2,slots:=rP } /\
    R (.ok (.ret (.bool (HT.lexLt ns ms)))) s):=by
 intro prog w A R s h;obtain⟨hp,g,d,tk,os⟩:=s;obtain⟨hl,hb,h⟩:=h;have f2:=AutoSeq1.sub_list_list
 wp_walk using wpAny_loadPart' hl,wpAny_loadPart' hb
 exact⟨plainId_quiet plain_eq_loop _,codeAny_builtin entry_eq_loop (by
  rw[Around.under_plainId plain_eq_loop _];exact tO l b items bw n n2 dd Ai sl rP ns ms hi hj _ 0 rfl (zero_le _) (zero_le _) prog w A R _ ⟨hl,hb,h⟩)⟩
end
section
variable {X:Cx}
inductive vI (K:Frag) (x y:V) (H:Hp) (Q:VK):Prop
 | mk (a:_) (b:_) (ns:_) (ms:_):x=.ref a->y=.ref b->ag K H a (ns.map V.int)->ag K H b (ms.map V.int)->Q (.bl (HT.lexLt ns ms)) H->vI K x y H Q
def Dr(K:Frag):R2:=λx y H Q=>vI K x y H Q
theorem U0(hu:X.A.units<cLine):cV X (compareOp .Lt) (Dr X.K):=by
 intro pins s σ H x y v u Q I rx ry h;obtain⟨a,b,ns,ms,rfl,rfl,ha,hb,q⟩:=h;cases rx;cases ry;obtain⟨au,r1,p1,z1⟩:=I.list ha;obtain⟨dE,r2,p2,z2⟩:=I.list hb;obtain⟨⟨cls,dd,data,sl⟩,n,e,c1,c2,c3⟩:=p1;obtain⟨⟨KH,Ai,data2,rP⟩,n2,e2,d1,d2,d3⟩:=p2;simp only at c1 c2 c3 d1 d2 d3;subst c1 c2 c3 d1 d2 d3;have i1:IntsAre au.toArray.toList ns:=Bl r1;have i2:IntsAre dE.toArray.toList ms:=Bl r2;exact richCompare_meets_room (op := .Lt) ⟨_,e,rfl⟩ ⟨_,e2,rfl⟩ PySem.F.slot_list_lt PySem.F.entry_list_lt (PySem.F.args_list_lt_2 _ _) (UZ a b au.toArray dE.toArray n n2 _ _ _ _ ns ms i1 i2)
  ⟨e,e2,show Value.bool (HT.lexLt ns ms)≠Value.notImplemented/\EP X pins σ Q (.bool (HT.lexLt ns ms)) s from⟨(λx=>nomatch x),⟨.bl (HT.lexLt ns ms),H,I,rfl,q⟩⟩⟩ hu
theorem U1{K:Frag}(h:X.K=K)(hu:X.A.units<cLine):cV X (compareOp .Lt) (Dr K):=by subst h;exact U0 hu
inductive vJ (K:Frag) (x y:V) (H:Hp) (Q:VK):Prop
 | mk (a:_) (b:_) (xs:_) (ys:_):x=.ref a->y=.ref b->ag K H a xs->ag K H b ys->xs.all wO=true->ys.all wO=true->Q (.bl (!dG xs ys)) H->vJ K x y H Q
def Ds(K:Frag):R2:=λx y H Q=>vJ K x y H Q
theorem wz(hu:X.A.units<cLine):cV X (compareOp .NotEq) (Ds X.K):=by
 intro pins s σ H x y v u Q I rx ry h;obtain⟨a,b,xs,ys,rfl,rfl,ha,hb,fx,fy,q⟩:=h;cases rx;cases ry;obtain⟨au,r1,p1,z1⟩:=I.list ha;obtain⟨dE,r2,p2,z2⟩:=I.list hb;have l1:=r1.length;have l2:=r2.length;by_cases hl:xs.length=ys.length
 ·refine SeqAt.RcNeAt.lists p1.isList p2.isList (by simp;omega) hu (oW r1 r2 fx fy) _ _ _ _ ⟨.bl (!dG xs ys),H,I,?_,q⟩;rw[size_toArray,<-l1,J7 hl];rfl
 ·refine SeqAt.RcNeAt.lists_lengths p1.isList p2.isList (by simp;omega) hu _ _ _ _ ⟨.bl (!dG xs ys),H,I,?_,q⟩;rw[J9 hl];rfl
end
structure bD (P:Program) (w:World) (K:Frag) (mg:Str->Option Value) (base:Heap) (k:Nat) (C:Addr) (m:Str) (ps:List Str) (sp:Sp):Prop where
 ex:∃f fd,av P w K mg base aQ k f fd ps sp/\Meth K C m f/\Binds K fd ps []
structure br (P:Program) (w:World) (K:Frag) (mg:Str->Option Value) (base:Heap) (k:Nat) (C:Addr) (m:Str) (ps:List Str) (sp:Sp):Prop where
 ex:∃f fd,av P w K mg base (fC P w) k f fd ps sp/\Meth K C m f/\Binds K fd ps []
inductive jV (C:Addr) (m:Str) (W:XW) (sp:Sp) (t:TA) (σ:St) (x:V) (H1:Hp) (Q:VK):Prop
 | mk (a:_) (dx:_) (fs:_):x=.ref a->H1 a=some (.ins C dx fs)->fs.lookup m=none->(t σ H1 λvs H2=>sp (.ref a::vs) H2 Q λcls _ H'=>W σ cls H')->jV C m W sp t σ x H1 Q
def pC(C:Addr)(m:Str)(W:XW)(sp:Sp)(ta:TE)(t:TA):TE:=λσ H Q=>ta σ H λx H1=>jV C m W sp t σ x H1 Q
section
variable {X:Cx}{k:Nat}{C:Addr}{m:Str}{ps:List Str}{sp:Sp}{apos pos:Pos}{o e:Expr}{es:List Expr}{ta:TE}{t:TA}{W:XW}{pl:Sem Bool}
theorem yT(M:br X.prog X.w X.K X.mg X.base k C m ps sp)(c:mQ X.K C)(fl:Fl X W)(hr:aU k X.A)(he:PE X o ta)(ha:PA X (e::es) t)
 (iH:starEach (e::es) X.env=(false,eval e X.env)::starEach es X.env:=by rfl) (hpl:(backTo pos (starEach es X.env)).any (·.1)=false:=by rfl)
 (ht:eval (.Call (.Attribute o m apos) (e::es) [] pos) X.env=(do
   let ov <-eval o X.env
   standAt apos.atName
   let (f,first) <-holding [ov] (getMethod ov m pl)
   callWith pos f first (backTo pos (starEach (e::es) X.env)) (backToKw pos (keywordEach [] X.env))):=by rfl) :
 PE X (.Call (.Attribute o m apos) (e::es) [] pos) (pC C m W sp ta t):=by
 obtain⟨f,fd,F,hm,hb⟩:=M.ex;intro pins s σ H Q I h;refine methodCall_KW (pl:=pl) (aF (he pins s σ H _ I h) λu s1 ⟨x,H1,I1,rx,a,dx,fs,ex,ea,l,q⟩=>?_) ht;subst ex;obtain rfl:u=Value.ref a:=rx;refine JB I1 ea c hm l ?_;refine callWith_K (first:=[.ref a]) (h₀:=X.base) I.ok.mod.uS hm.kp (aF (ha pos pins s1 σ H1 _ I1 q) λus s2 ⟨vs,H2,I2,r,q2⟩=>⟨I2.gd,?_⟩) iH hpl;exact Kn (us:=.ref a::us) (vs:=.ref a::vs) F hr hb fl I2 (.cons rfl r) q2
theorem Qv(M:br X.prog X.w X.K X.mg X.base k C m ps sp)(c:mQ X.K C)(fl:Fl X W)(hr:aU k X.A)(he:PE X o ta)
 (ht:eval (.Call (.Attribute o m apos) [] [] pos) X.env=(do
   let ov <-eval o X.env
   standAt apos.atName
   let (f,first) <-holding [ov] (getMethod ov m pl)
   callWith pos f first (backTo pos (starEach [] X.env)) (backToKw pos (keywordEach [] X.env))):=by rfl) :
 PE X (.Call (.Attribute o m apos) [] [] pos) (pC C m W sp ta kO):=by
 obtain⟨f,fd,F,hm,hb⟩:=M.ex;intro pins s σ H Q I h;refine methodCall_KW (pl:=pl) (aF (he pins s σ H _ I h) λu s1 ⟨x,H1,I1,rx,a,dx,fs,ex,ea,l,q⟩=>?_) ht;subst ex;obtain rfl:u=Value.ref a:=rx;refine JB I1 ea c hm l ?_;exact callWith_K0 (first:=[.ref a]) I1.gd hm.kp (Kn (us:=[.ref a]) (vs:=[.ref a]) F hr hb fl I1 (.cons rfl .nil) q)
theorem zP(M:bD X.prog X.w X.K X.mg X.base k C m ps sp)(c:mQ X.K C)(hr:aU k X.A)(he:PE X o ta)
 (ht:eval (.Call (.Attribute o m apos) [] [] pos) X.env=(do
   let ov <-eval o X.env
   standAt apos.atName
   let (f,first) <-holding [ov] (getMethod ov m pl)
   callWith pos f first (backTo pos (starEach [] X.env)) (backToKw pos (keywordEach [] X.env))):=by rfl) :
 PE X (.Call (.Attribute o m apos) [] [] pos) (vc C m sp [] E0 ta kO):=by
 obtain⟨f,fd,F,hm,hb⟩:=M.ex;exact oj (pl:=pl) he c hm F hr hb .nil vi ht
structure lC (P:Program) (w:World) (K:Frag) (mg:Str->Option Value) (base:Heap) (k:Nat) (x:Str) (C:Addr) (ps:List Str) (sp:Sp):Prop where
 ex:∃f fd,av P w K mg base (fC P w) k f fd ps sp/\mg x=some (.ref C)/\Mk K C f/\Binds K fd ps []
def Aj(C:Addr)(W:XW)(sp:Sp)(t:TA):TE:=λσ H Q=>t σ H λvs H1=>∀x dx,H1 x=none->H1 dx=none->dx≠x->sp (.ref x::vs) (upd (upd H1 dx (.own x)) x (.ins C dx [])) (λv H2=>v=.bo/\Q (.ref x) H2) λcls _ H'=>W σ cls H'
theorem lD{pins:List (Addr×Obj)}{σ:St}{H:Hp}{s:Shared}{Q:VK}{us:List Value}{vs:List V}{f:Addr}{fd:FuncData}(M:Mk X.K C f)(F:av X.prog X.w X.K X.mg X.base (fC X.prog X.w) k f fd ps sp)(hr:aU (k+1) X.A)(hb:Binds X.K fd ps [])(fl:Fl X W)(I:Inv X pins σ H s)(r:Vals vs us)
 (h:∀x dx,H x=none->H dx=none->dx≠x->sp (.ref x::vs) (upd (upd H dx (.own x)) x (.ins C dx [])) (λv H2=>v=.bo/\Q (.ref x) H2) λcls _ H'=>W σ cls H') :
 wpAny (model X.prog X.w) X.A (call (.ref C) us) (EP X pins σ Q) X.xe s:=by
 have hq:=h (s.heap.objs.size+1) s.heap.objs.size (I.aC.fresh (le_succ _)) (I.aC.fresh (le_refl _)) (ne_of_lt (lt_succ_self _));have I2:=Inv.made (C:=C) I;have r2:Vals (V.ref (s.heap.objs.size+1)::vs) (Value.ref (s.heap.objs.size+1)::us):=.cons rfl r;have hl:(Value.ref (s.heap.objs.size+1)::us).length=ps.length:=by
  have e:=r2.length;rw[F.len _ _ _ _ hq]at e;exact e.symm
 have rQ:=hb { s with heap:=(s.heap.push emptyDict).push (instObj C s.heap.objs.size) } (Value.ref (s.heap.objs.size+1)::us) I2.gd (by rw[append_nil];exact hl);rw[append_nil]at rQ;refine wpAny_call (n6 (f:=f) I.gd M.makes M.init (beq_iff_eq.mp M.fn) (codeAny_mono (F.run _ X.stack _ _ ⟨Value.ref (s.heap.objs.size+1)::us,[]⟩ (Value.ref (s.heap.objs.size+1)::us) _ _ _ (hr.make C us [])
  (I2.sT.make C us []) rQ r2 hq) λr s' Bw=>?_))
 cases r with
 | error e =>
   obtain⟨y,cls,H',rfl,Df,w⟩:=Bw;exact fl pins σ _ _ y cls H' s' I2 Df w
 | ok fl =>
   cases fl with
   | ret u =>
     obtain⟨v,H',I3,rv,ev,q3⟩:=I2.after Bw;subst ev;exact⟨rv,⟨V.ref (s.heap.objs.size+1),H',I3,rfl,q3⟩⟩
   | next=>exact False.elim Bw
   | brk=>exact False.elim Bw
   | cont=>exact False.elim Bw
theorem Qw{x:Str}{p:Pos}(M:lC X.prog X.w X.K X.mg X.base k x C ps sp)(fl:Fl X W)(hr:aU (k+1) X.A)(hg:Gl X x)(ha:PA X (e::es) t)(gU:(x==("__debug__":Str))=false:=by decide)
 (he:starEach (e::es) X.env=(false,eval e X.env)::starEach es X.env:=by rfl) (hpl:(backTo pos (starEach es X.env)).any (·.1)=false:=by rfl):PE X (.Call (.Name x p) (e::es) [] pos) (Aj C W sp t):=by
 obtain⟨f,fd,F,hm,hk,hb⟩:=M.ex;intro pins s σ H Q I h;refine wpAny_Call_Name_kw (Bh I hg hm ?_ gU);refine callWith_K (h₀:=X.base) I.ok.mod.uS hk.kp (aF (ha pos pins s σ H _ I h) λus s1 ⟨vs,H1,I1,r,q⟩=>⟨I1.gd,?_⟩) he hpl;exact lD hk F hr hb fl I1 r q
theorem tP{K:Frag}{f:Str}(h:X.K=K)(he:PE X e ta)(hb:attributeBase e f X.env (eval e X.env)=eval e X.env):PE X (.Attribute e f pos) (Cz K ta f):=by subst h;exact wD he hb
end
def zL(K:Frag)(x:Str):Addr:=match nsIn K mainGlobals x with
 | some (some (.ref C))=>C
 | _=>0
theorem tQ(h:nsIn K mainGlobals x=some (some (.ref C))):zL K x=C:=by unfold zL;rw[h]
theorem bD.of{m:Str}(hC:zL K x=C)(G:av P w K mg base aQ k f fd ps sp)(hm:Meth K C m f)(b:Binds K fd ps []):bD P w K mg base k (zL K x) m ps sp:=by rw[hC];exact⟨f,fd,G,hm,b⟩
theorem br.of{m:Str}(hC:zL K x=C)(G:av P w K mg base (fC P w) k f fd ps sp)(hm:Meth K C m f)(b:Binds K fd ps []):br P w K mg base k (zL K x) m ps sp:=by rw[hC];exact⟨f,fd,G,hm,b⟩
theorem lC.of(hC:zL K x=C)(G:av P w K mg base (fC P w) k f fd ps sp)(hg:mg x=some (.ref C))(hm:Mk K C f)(b:Binds K fd ps []):lC P w K mg base k x (zL K x) ps sp:=by rw[hC];exact⟨f,fd,G,hg,hm,b⟩
section
variable {X:Cx}
inductive cN (K:Frag) (xs:List V) (H:Hp) (Q:VK):Prop
 | mk (a:Addr) (ns:List Int):xs=[.ref a]->ag K H a (ns.map V.int)->0<ns.length->(∀M:Int,M∈ns->(∀x∈ns,x<=M)->Q (.int M) H)->cN K xs H Q
theorem U2(hc:X.calm=true):wX X (.builtin "max") (cN X.K):=by
 intro pins s σ H xs us Q I r h;obtain⟨a,ns,rfl,hS,aO,q⟩:=h;obtain⟨u,rfl,ru⟩:=r.one;cases ru;obtain⟨au,r1,p1,z1⟩:=I.list hS;have hi:=Bl r1;obtain⟨xs,e⟩:=hi.allInts.items;have Bx:ns=xs.toList.map (·.1):=by
  rw[<-hi.numsOf,<-nums_intItems,<-e]
 have hsz:0<xs.size:=by
  have h3:=aO;rw[Bx,length_map,Array.length_toList]at h3;exact h3
 have hl:=p1.isList;rw[e]at hl;refine max_intList (I.ok.hd hc) hl hsz λv h' tk hv hk=>?_;obtain⟨t,rfl⟩:=intItems_at hv;obtain⟨h1,h2⟩:=argBest_gt (numAt xs) (xs.size-1);refine⟨.int _,H,I.kept (t':=tk) hk,⟨t,rfl⟩,q _ ?_ λa ha=>?_⟩
 ·rw[Bx,numAt_eq];exact getD_mem (by rw[length_map,Array.length_toList];omega)
 ·rw[Bx]at ha;obtain⟨j,hj,rfl⟩:=mem_getD ha;rw[length_map,Array.length_toList]at hj;rw[<-numAt_eq];exact h2 j (by omega)
inductive pE (K:Frag) (x y:V) (H:Hp) (Q:VK):Prop
 | mk (l:_) (b:_) (xs:_) (zs:_):x=.ref l->y=.ref b->ag K H l xs->ag K H b zs->xs.length+zs.length<=sizeLine->(∀p,H p=none->Q (.ref p) (upd H p (.lst (xs++zs))))->pE K x y H Q
def Dt(K:Frag):R2:=λx y H Q=>pE K x y H Q
theorem tR:cV X (binaryOp .Add) (Dt X.K):=by
 intro pins s σ H x y v u Q I rx ry h;obtain⟨l,b,xs,zs,rfl,rfl,hH,hB,hz,q⟩:=h;cases rx;cases ry;obtain⟨au,r,p1,z1⟩:=I.list hH;obtain⟨dE,r2,p2,z2⟩:=I.list hB;have hl:=r.length;have b8:=r2.length;obtain⟨⟨cls,dd,data,sl⟩,ho,hc,n,hd⟩:=p1.isList;obtain⟨⟨KH,Ai,data2,rP⟩,Qx,vK,n2,hd2⟩:=p2.isList;cases hc;cases hd;cases vK;cases hd2;refine concat_meets ⟨_,ho,rfl⟩ ⟨_,Qx,rfl⟩ noFill_list_add seq_list_add F.slot_list_add F.entry_list_add (F.args_list_add_2 _ _) (list_addW l b au.toArray dE.toArray n n2 dd Ai sl rP (by rw[size_toArray,size_toArray];omega)) ⟨ho,Qx,?_⟩;have ea:au.toArray++dE.toArray=(au++dE).toArray:=by simp
 rw[ea];exact⟨.ref _,_,I.CJ (t':=s.toks) (r.append r2) (by rw[length_append];omega),rfl,q _ I.fresh⟩
theorem yF{K:Frag}(h:X.K=K)(hu:X.A.units<cLine):cV X (compareOp .NotEq) (Ds K):=by subst h;exact wz hu
end
end L2
namespace L2
open PySem PySem.Spec PyProof.Rows PySem.W PySem.Calls Builtin Builtin.ObjectAttr Builtin.Getset_descriptor
section
variable {prog:Program}{w:World}{A:Around}{s:Shared}{K:Frag}{x C:Addr}{E:Value->Shared->Prop}
variable {R:Result->Shared->Prop}
theorem U3{tp:Value}(L0:Looks (model prog w) s.heap (typeOf (.ref x)) (.ref C))(L1:Looks (model prog w) s.heap (isSubtype (.ref C) (.type "object")) true)(hR:R (.ok (.ret (.ref C))) s):
 codeAny (model prog w) A (.call (.builtin "getset_descriptor.__get__") ⟨[.builtin "object.__class__",.ref x,tp],[]⟩) R s:=by
 obtain⟨h1,g1,d1,t1,o1⟩:=s;refine codeAny_call_builtin KF.slot_gs.plain KF.entry_gs ?_;refine KF.slot_gs.check _ _ _ _ _ _ _ _ KF.type_class (KF.args_gs _ _ _) ?_;unfold Builtin.«getset_descriptor.__get__»;unfold descrGet;rw[dga_obj];refine wpAny_bind ?_;refine wpAny_pure ?_;unfold descrGetter descrCheckInstance;unfold descrNameAndClass isInstance;simp only[KF.owner_class]
 repeat lk
 refine⟨Code.quiet_builtin _ (by decide +kernel),?_⟩;refine codeAny_builtin KF.entry_class ?_;unfold Builtin.«object.__class__»;unfold shownTypeOf
 repeat lk
 exact hR
theorem pF(X:K.In s.heap)(ha:findIn K (.ref C) "__class__"=some (some (.builtin "object.__class__")))(hn:specialIn K (.builtin "object.__class__") "__get__"=some (some (.builtin "getset_descriptor.__get__")))(ht:takesIn K (.builtin "object.__class__")=some true):
 Looks (model prog w) s.heap (find (.ref x) (.ref C) "__class__") (.bind (.builtin "getset_descriptor.__get__") (.builtin "object.__class__")):=by
 have M1:=looks_findIn (M:=model prog w) X ha;have M2:Looks (model prog w) s.heap (getOf (some (.builtin "object.__class__"))) (some (.builtin "getset_descriptor.__get__")):=looks_specialIn X hn;have M3:=looks_takesIn (M:=model prog w) X ht;refine M1.andThen (M2.andThen ?_);have M4:Looks (model prog w) s.heap (dataDescriptor? (some (.builtin "object.__class__")) (some (.builtin "getset_descriptor.__get__"))) (some (.builtin "getset_descriptor.__get__",.builtin "object.__class__")):=M3.andThen .now;exact M4.andThen (Looks.tag .now)
theorem U4{M:Model}{nm:Value}{Q:Unit->Shared->Prop}(LI:Looks M s.heap (isInstance (.ref x) (.type "BaseException")) true)(hQ:Q () s):wpAny M A (checkBuiltinCall "BaseException.__getattribute__" ⟨[.ref x,nm],[]⟩) Q E s:=by
 have hk:builtinKind "BaseException.__getattribute__"=some .slot:=by decide +kernel
 have fX:splitId "BaseException.__getattribute__"=some ("BaseException","__getattribute__"):=by decide +kernel
 have Qy:=F.args_bexc_ga (.ref x) nm;obtain⟨h1,g1,d1,t1,o1⟩:=s;simp only[checkBuiltinCall,hk,fX];refine wpAny_bind (LI.at ?_)
 repeat (first | wp_step | exact hQ)
theorem Ak{tk:Tok}(L0:Looks (model prog w) s.heap (typeOf (.ref x)) (.ref C))(F1:Looks (model prog w) s.heap (find (.ref x) (.ref C) "__class__") (.bind (.builtin "getset_descriptor.__get__") (.builtin "object.__class__")))
 (S1:Looks (model prog w) s.heap (isSubtype (.ref C) (.type "object")) true) (S2:Looks (model prog w) s.heap (isSubtype (.ref C) (.type "BaseException")) true) (hR:R (.ok (.ret (.ref C))) s) :
 codeAny (model prog w) A (.call (.builtin "BaseException.__getattribute__") ⟨[.ref x,.str "__class__" tk],[]⟩) R s:=by
 refine codeAny_call_builtin F.excAttr_ValueError.ga.plain F.entry_bexc_ga ?_;refine U4 (L0.andThen S2) ?_;obtain⟨h1,g1,d1,t1,o1⟩:=s;unfold Builtin.«object.__getattribute__»
 repeat (first | with_reducible refine wpAny_bind (L0.at ?_) | with_reducible refine wpAny_bind (F1.at ?_) | wp_step)
 exact U3 (s:=⟨h1,g1,d1,t1,o1⟩) L0 S1 (wpAny_pure hR)
theorem pG{Q:Option Value->Shared->Prop}(X:K.In s.heap)(he:∃o,s.heap.get? x=some o/\o.cls=.ref C)(U5:findIn K (.ref C) "__getattribute__"=some (some (.builtin "BaseException.__getattribute__")))(U6:findIn K (.ref C) "__getattr__"=some none)
 (ha:findIn K (.ref C) "__class__"=some (some (.builtin "object.__class__"))) (hn:specialIn K (.builtin "object.__class__") "__get__"=some (some (.builtin "getset_descriptor.__get__"))) (ht:takesIn K (.builtin "object.__class__")=some true) (hm:mroIn K C (.type "object")=some true) (Dm:mroIn K C (.type "BaseException")=some true)
 (hQ:Q (some (.ref C)) { s with toks:=s.toks+1 }):wpAny (model prog w) A (getAttr? (.ref x) "__class__") Q E s:=by
 obtain⟨o,eo,ec⟩:=he;have F1:=pF (s:={ s with toks:=s.toks+1 }) (x:=x) (prog:=prog) (w:=w) X ha hn ht;obtain⟨h1,g1,d1,t1,o1⟩:=s;have L0:=Qh (M:=model prog w) eo ec;have G0:=looks_findIn (M:=model prog w) X U5;have G1:=looks_findIn (M:=model prog w) X U6;have S1:=looks_mroIn (M:=model prog w) X hm;have S2:=looks_mroIn (M:=model prog w) X Dm;unfold getAttr? getAttrBy?;unfold getAttrBy;refine wpAny_bind (wpAny_mkText ?_);refine wpAny_bind (wpAny_attempt ?_);refine wpAny_holding ?_;refine wpAny_bind (L0.at ?_);refine wpAny_bind (G0.at ?_);have U7:(onTheHeap (Value.ref C) && Value.builtin "BaseException.__getattribute__" == Value.builtin "object.__getattribute__")=false:=by
  rw[show(Value.builtin "BaseException.__getattribute__" == Value.builtin "object.__getattribute__")=false by decide +kernel];rfl
 dsimp only;rw[if_neg (by rw[U7];exact Bool.false_ne_true)];unfold getAttrByItsOwn hookBefore;rw[if_pos (show onTheHeap (Value.ref C)=true from rfl)];refine wpAny_bind (G1.at ?_);unfold callGetattribute;rw[if_neg (by simp)];unfold boundAndCalled;refine wpAny_bind (wpAny_attempt (wpAny_holding ?_));rw[F.excAttr_ValueError.ga.bind];refine wpAny_bind (wpAny_pure ?_);dsimp only;refine wpAny_call ?_;refine Ak (s:=⟨h1,g1,d1,t1+1,o1⟩) L0 F1 S1 S2 ?_;exact handed_on rfl (wpAny_pure hQ)
def Du(K:Frag)(C:Addr):Bool :=
 (findIn K (.ref C) "__getattribute__" == some (some (.builtin "BaseException.__getattribute__")) && findIn K (.ref C) "__getattr__" == some none && findIn K (.ref C) "__class__" == some (some (.builtin "object.__class__"))) &&
 (specialIn K (.builtin "object.__class__") "__get__" == some (some (.builtin "getset_descriptor.__get__")) && takesIn K (.builtin "object.__class__")==some true && mroIn K C (.type "object")==some true && mroIn K C (.type "BaseException")==some true && (clsIn K C).isSome)
theorem pH(hi:Du K C=true):KitX K (.ref x) (.ref C) (λh=>∃o,h.get? x=some o/\o.cls=.ref C):=by
 unfold Du at hi;simp only[Bool.and_eq_true,beq_iff_eq]at hi;obtain⟨⟨⟨i1,i2⟩,i3⟩,⟨⟨⟨i4,i5⟩,i6⟩,i7⟩,i8⟩:=hi;obtain⟨cd,di⟩:=Option.isSome_iff_exists.mp i8;have vC:∃a b c,K.lookup C=some ⟨a,b,.cls cd,c⟩:=by
  unfold clsIn at di;split at di
  ·rename_i q;cases di;exact⟨_,_,_,q⟩
  ·cases di
 obtain⟨a1,a2,a3,vC⟩:=vC;refine⟨λM h _ ⟨o,eo,ec⟩=>Qh eo ec,λM h X _=>?_,λh tp dd au n sl X e=>?_,λX p k=>pG X p i1 i2 i3 i4 i5 i6 i7 k⟩
 ·intro A' Q' E' s' k q;unfold isType;unfold loadHead;exact wpAny_bind (wpAny_loadPart (k _ _ (X _ _ vC)) (wpAny_pure q))
 ·refine Bool.eq_false_iff.mpr λq=>?_;have ez:C=tp:=by injection beq_iff_eq.mp q
  subst ez;have:=X _ _ vC;rw[e]at this;cases this
end
section
variable {X:Cx}
inductive bR (K:Frag) (xs:List V) (H:Hp) (Q:VK):Prop
 | mk (x:_) (C:_) (v:_) (c:_) (b:_):xs=[.ref x,v]->RelV v c->H x=some (vw x (.ref C))->Du K C=true->kitOne K (.ref C) c=some b->Q (.bl b) H->bR K xs H Q
theorem U8:wX X (.builtin "isinstance") (bR X.K):=by
 intro pins s σ H xs us Q I r h;obtain⟨x,C,v,c,b,rfl,rc,hx,hi,e,q⟩:=h;obtain⟨u,t,rfl,ru,rt⟩:=r.two;cases ru;have no:∀z,kitCls X.K (.ref C) z=none->(Value.ref C==z)=false->kitOne X.K (.ref C) z=none:=λz h1 h2=>by unfold kitOne;rw[h2];exact h1
 have Va:t=c:=by
  cases v with
  | ref a=>rw[show t=_ from rt,show c=_ from rc]
  | ty n=>rw[show t=_ from rt,show c=_ from rc]
  | bo=>rw[show t=_ from rt,show c=_ from rc]
  | bl b=>rw[show t=_ from rt,show c=_ from rc]
  | int i=>obtain⟨k,rfl⟩:=rc;rw[no _ rfl rfl]at e;cases e
  | str i=>obtain⟨k,rfl⟩:=rc;rw[no _ rfl rfl]at e;cases e
  | iF i=>obtain⟨k,rfl⟩:=rc;rw[no _ rfl rfl]at e;cases e
  | B8 i=>obtain⟨k,rfl⟩:=rc;rw[no _ rfl rfl]at e;cases e
 subst Va;obtain⟨ho,_,_⟩:=I.aC x _ hx;exact kia_one (pH hi) I.gd ho e (by intro q;cases q) λtk=>⟨.bl b,H,I.tok tk,rfl,q⟩
theorem Vb{K:Frag}(h:X.K=K):wX X (.builtin "isinstance") (bR K):=by subst h;exact U8
inductive pI (K:Frag) (x y:V) (H:Hp) (Q:VK):Prop
 | mk (a:_) (b:_) (xs:_):x=.ref a->y=.ref b->ag K H a xs->ag K H b []->Q (.bl (decide (xs.length=0))) H->pI K x y H Q
def Dv(K:Frag):R2:=λx y H Q=>pI K x y H Q
theorem Vc(hu:X.A.units<cLine):cV X (compareOp .Eq) (Dv X.K):=by
 intro pins s σ H x y v u Q I rx ry h;obtain⟨a,b,xs,rfl,rfl,ha,hb,q⟩:=h;cases xs with
 | nil=>exact Kb hu pins s σ H _ _ v u Q I rx ry ⟨a,b,[],[],rfl,rfl,ha,hb,rfl,rfl,q⟩
 | cons z xs =>
   cases rx;cases ry;obtain⟨au,r1,p1,z1⟩:=I.list ha;obtain⟨dE,r2,p2,z2⟩:=I.list hb;have l1:=r1.length;have l2:=r2.length;exact SeqAt.eq_list_lengthsAt p1.isList p2.isList (by simp at l1 l2;simp;omega) hu ⟨.bl false,H,I,rfl,q⟩
end
end L2
namespace M14
open PySem PySem.W PyProof.Rows
abbrev g(p:Array Nat)(i:Nat):Nat:=p.getD i 0
variable {p:Array Nat}
theorem pJ{q:Array Nat}{i j:Nat}(h:p[i]? = q[j]?):g p i=g q j:=by
 show p.getD i 0=q.getD j 0;rw[Array.getD_eq_getD_getElem?,Array.getD_eq_getD_getElem?,h]
theorem mV{i j:Nat}(hj:j<=p.size)(k:Nat):g (kas_rev p i j) k=if i<=k/\k<j then g p (i+j-1-k)else g p k:=by
 have e:=getElem?_mirror_all (xs:=p) (i:=i) hj k;by_cases c:i<=k/\k<j
 ·rw[if_pos c]at e ⊢;exact pJ e
 ·rw[if_neg c]at e ⊢;exact pJ e
theorem Dw{s d:Nat}(hs:s<p.size)(hd:d<=s)(k:Nat):g (bubble p s d) k=if k=s-d then g p s else if s-d<k/\k<=s then g p (k-1)else g p k:=by
 have e:=getElem?_bubble hs d hd k;by_cases c:k=s-d
 ·rw[if_pos c]at e ⊢;exact pJ e
 ·rw[if_neg c]at e ⊢;by_cases c2:s-d<k/\k<=s
  ·rw[if_pos c2]at e ⊢;exact pJ e
  ·rw[if_neg c2]at e ⊢;exact pJ e
section
variable (key:Nat->Int)(N:Nat)
def R(a b:Nat):Prop:=key a<key b\/key a=key b/\a<b
structure B (p:Array Nat) (m:Nat):Prop where
 pm:p.Perm (List.range N).toArray
 tl:∀i,m<=i->i<N->g p i=i
 lo:∀i,i<m->g p i<m
 le:m<=N
def I(p:Array Nat)(m:Nat):Prop:=B N p m/\∀i j,i<j->j<m->R key (g p i) (g p j)
def E(p:Array Nat)(m:Nat):Prop:=B N p m/\∀i j,i<j->j<m->R key (g p j) (g p i)
structure D (p:Array Nat) (m b:Nat):Prop where
 bs:B N p m
 lt:b<m
 ds:∀i j,i<j->j<b->R key (g p j) (g p i)
 sp:∀i j,i<b->b<=j->j<m->key (g p j)<key (g p i)
 bk:∀i j,b<=i->i<j->j<m->key (g p i)=key (g p j)/\g p i<g p j
def ck(i j:Nat)(C:Bool->Shared->Prop)(s:Shared):Prop:=i<N/\j<N/\C (decide (key i<key j)) s
variable {key N}
variable {p:Array Nat}{m:Nat}
theorem B.size(b:B N p m):p.size=N:=by
 have:=b.pm.size_eq
 simpa using this
theorem B.lt(b:B N p m){i:Nat}(h:i<N):g p i<N:=by
 by_cases c:i<m
 ·have:=b.lo i c;have:=b.le;omega
 ·rw[b.tl i (by omega) h];exact h
theorem B.rev{i j:Nat}(b:B N p m)(hj:j<=m):B N (kas_rev p i j) m:=by
 have hs:j<=p.size:=by have:=b.size;have:=b.le;omega
 refine⟨(mirror_perm _ _ _ _).trans b.pm,λk h1 h2=>?_,λk h=>?_,b.le⟩
 ·rw[mV hs,if_neg (by omega)];exact b.tl k h1 h2
 ·rw[mV hs];split
  ·exact b.lo _ (by omega)
  ·exact b.lo _ h
theorem B.up(b:B N p m)(h:m<N):B N p (m+1):=by
 refine⟨b.pm,λi h1 h2=>b.tl i (by omega) h2,λi hi=>?_,h⟩;by_cases c:i<m
 ·have:=b.lo i c;omega
 ·have e:i=m:=by omega
  rw[e,b.tl m (le_refl _) h];omega
variable {b:Nat}
theorem R.le{a:Nat}(h:R key a b):key a<=key b:=by
 rcases h with h | h
 ·omega
 ·omega
theorem R.of{a:Nat}(h:key a<=key b)(l:a<b):R key a b:=by
 by_cases c:key a<key b
 ·exact .inl c
 ·exact .inr ⟨by omega,l⟩
theorem I.turn(h:I key N p m):E key N (kas_rev p 0 m) m:=by
 have hs:m<=p.size:=by have:=h.1.size;have:=h.1.le;omega
 refine⟨h.1.rev (le_refl _),λi j pK hj=>?_⟩;rw[mV hs,mV hs,if_pos ⟨zero_le _,hj⟩,if_pos ⟨zero_le _,by omega⟩];exact h.2 _ _ (by omega) (by omega)
theorem E.turn(h:E key N p m):I key N (kas_rev p 0 m) m:=by
 have hs:m<=p.size:=by have:=h.1.size;have:=h.1.le;omega
 refine⟨h.1.rev (le_refl _),λi j pK hj=>?_⟩;rw[mV hs,mV hs,if_pos ⟨zero_le _,by omega⟩,if_pos ⟨zero_le _,hj⟩];exact h.2 _ _ (by omega) (by omega)
theorem D.one(h:D key N p (m+1) m):E key N p (m+1):=by
 refine⟨h.bs,λi j pK hj=>?_⟩;by_cases c:j<m
 ·exact h.ds i j pK c
 ·have e:j=m:=by omega
  subst e;exact .inl (h.sp i j pK (le_refl _) (by omega))
theorem D.turn(h:D key N p m b):E key N (kas_rev p b m) m:=by
 have hs:m<=p.size:=by have:=h.bs.size;have:=h.bs.le;omega
 have hl:=h.lt;refine⟨h.bs.rev (le_refl _),λi j pK hj=>?_⟩;rw[mV hs,mV hs];by_cases c:j<b
 ·rw[if_neg (by omega),if_neg (by omega)];exact h.ds i j pK c
 ·rw[if_pos ⟨by omega,hj⟩];by_cases c2:i<b
  ·rw[if_neg (by omega)];exact .inl (h.sp i _ c2 (by omega) (by omega))
  ·rw[if_pos ⟨by omega,by omega⟩];have z:=h.bk (b+m-1-j) (b+m-1-i) (by omega) (by omega) (by omega);exact .inr z
theorem E.step(h:E key N p m)(h1:1<=m)(hm:m<N)(hk:key (g p m)<key (g p (m-1))):D key N p (m+1) m:=by
 refine⟨h.1.up hm,by omega,h.2,λi j hi h2 h3=>?_,λi j h2 h3 h4=>by omega⟩;have e:j=m:=by omega
 subst e;by_cases c:i=j-1
 ·subst c;exact hk
 ·have:=(h.2 i (j-1) (by omega) (by omega)).le;omega
theorem D.same(h:D key N p m b)(hm:m<N)(hk:key (g p m)=key (g p (m-1))):D key N p (m+1) b:=by
 have hl:=h.lt;refine⟨h.bs.up hm,by omega,h.ds,λi j hi h2 h3=>?_,λi j h2 h3 h4=>?_⟩
 ·by_cases c:j<m
  ·exact h.sp i j hi h2 c
  ·have e:j=m:=by omega
   subst e;rw[hk];exact h.sp i _ hi (by omega) (by omega)
 ·by_cases c:j<m
  ·exact h.bk i j h2 h3 c
  ·have e:j=m:=by omega
   subst e;refine⟨?_,by rw[h.bs.tl j (le_refl _) hm];exact h.bs.lo i h3⟩;rw[hk];by_cases c2:i=j-1
   ·rw[c2]
   ·exact(h.bk i (j-1) h2 (by omega) (by omega)).1
theorem I.up(h:I key N p m)(h1:1<=m)(hm:m<N)(hk:¬key (g p m)<key (g p (m-1))):I key N p (m+1):=by
 refine⟨h.1.up hm,λi j pK hj=>?_⟩;by_cases c:j<m
 ·exact h.2 i j pK c
 ·have e:j=m:=by omega
  subst e;refine R.of ?_ (by rw[h.1.tl j (le_refl _) hm];exact h.1.lo i pK);by_cases c2:i=j-1
  ·rw[c2];omega
  ·have:=(h.2 i (j-1) (by omega) (by omega)).le;omega
variable {s:Shared}
theorem asc{Q:Nat->Shared->Prop}:∀(f m:Nat),m+f=N->1<=m->I key N p m->(∀m',m<=m'->m'<=N->I key N p m'->(m'<N->key (g p m')<key (g p (m'-1)))->Q m' s)->(kas_asc p f m).kasWp (ck key N) Q s
 | 0,m,e,h1,h,q=>q m (le_refl _) (by omega) h (by omega)
 | f+1,m,e,h1,h,q=>by
   refine⟨h.1.lt (by omega),h.1.lt (by omega),?_⟩;by_cases c:key (g p m)<key (g p (m-1))
   ·rw[decide_eq_true c];dsimp only;rw[if_pos rfl];exact q m (le_refl _) (by omega) h λ_=>c
   ·rw[decide_eq_false c];dsimp only;rw[if_neg Bool.false_ne_true];exact asc f (m+1) (by omega) (by omega) (h.up h1 (by omega) c) λm' l1 l2=>q m' (by omega) l2
theorem desc{Q:Array Nat×Nat×Nat->Shared->Prop}{s:Shared}:∀(f:Nat)(p:Array Nat)(m q:Nat),m+f=N->q+1<=m->D key N p m (m-(q+1)) ->
 (∀p' m' q',m'<=N->q'+1<=m'->D key N p' m' (m'-(q'+1))->Q (p',m',q') s)->(kas_desc f p m q).kasWp (ck key N) Q s
 | 0,p,m,q,e,hq,h,k=>k p m q (by omega) hq h
 | f+1,p,m,q,e,hq,h,k=>by
   refine⟨h.bs.lt (by omega),h.bs.lt (by omega),?_⟩;by_cases c:key (g p m)<key (g p (m-1))
   ·rw[decide_eq_true c];dsimp only;rw[if_pos rfl];by_cases cq:q > 0
    ·rw[if_pos cq];refine desc f _ (m+1) 0 (by omega) (by omega) ?_ k;have hs:m<=p.size:=by have:=h.bs.size;omega
     refine h.turn.step (by omega) (by omega) ?_;rw[mV hs,mV hs,if_neg (by omega),if_pos ⟨by omega,by omega⟩];have z:=(h.bk (m-(q+1)) (m-1) (le_refl _) (by omega) (by omega)).1;rw[show m-(q+1)+m-1-(m-1)=m-(q+1)by omega,z];exact c
    ·rw[if_neg cq];have e0:q=0:=by omega
     subst e0;refine desc f _ (m+1) 0 (by omega) (by omega) ?_ k;obtain⟨r,rfl⟩:∃r,m=r+1:=⟨m-1,by omega⟩;exact E.step (D.one h) (by omega) (by omega) c
   ·rw[decide_eq_false c];dsimp only;rw[if_neg Bool.false_ne_true];refine⟨h.bs.lt (by omega),h.bs.lt (by omega),?_⟩;by_cases d:key (g p (m-1))<key (g p m)
    ·rw[decide_eq_true d];dsimp only;rw[if_pos rfl];exact k p m q (by omega) hq h
    ·rw[decide_eq_false d];dsimp only;rw[if_neg Bool.false_ne_true];refine desc f p (m+1) (q+1) (by omega) (by omega) ?_ k;rw[show m+1-(q+1+1)=m-(q+1)by omega];exact h.same (by omega) (by omega)
variable {Q:Nat×Array Nat->Shared->Prop}
theorem tail3(h1:1<=m)(h:E key N p m)(q:∀m' p',1<=m'->m'<=N->I key N p' m'->Q (m',p') s):(kas_tail3 m N p).kasWp (ck key N) Q s:=by
 unfold kas_tail3;rw[KasT.kasWp_bind];have:=h.1.le;exact asc (N-m) m (by omega) h1 h.turn λm' l1 l2 z _=>q m' _ (by omega) l2 z
theorem Qz(h1:1<=m)(hm:m<N)(h:E key N p m)(hk:key (g p m)<key (g p (m-1)))(q:∀m' p',1<=m'->m'<=N->I key N p' m'->Q (m',p') s):(kas_descPart m N p).kasWp (ck key N) Q s:=by
 unfold kas_descPart;rw[KasT.kasWp_bind];refine desc (N-(m+1)) p (m+1) 0 (by omega) (by omega) (h.step h1 hm hk) λp' m' q' l1 l2 d=>?_;dsimp only;by_cases c:q' > 0
 ·rw[if_pos c];exact tail3 (by omega) d.turn q
 ·rw[if_neg c];have e0:q'=0:=by omega
  subst e0;obtain⟨r,rfl⟩:∃r,m'=r+1:=⟨m'-1,by omega⟩;exact tail3 (by omega) (D.one d) q
theorem count(h1:1<=N)(h:I key N p 1)(q:∀m' p',1<=m'->m'<=N->I key N p' m'->Q (m',p') s):(kas_count N p).kasWp (ck key N) Q s:=by
 unfold kas_count;rw[KasT.kasWp_bind];refine asc (N-1) 1 (by omega) (le_refl _) h λm l1 l2 z hk=>?_;by_cases c:m=N
 ·rw[if_pos (by rw[c];exact beq_self_eq_true N)];exact q m p l1 l2 z
 ·rw[if_neg (by intro b;exact c (eq_of_beq b))];have hm:m<N:=by omega
  have hk:=hk hm;by_cases c1:m > 1
  ·rw[if_pos c1];refine⟨z.1.lt (by omega),z.1.lt (by omega),?_⟩;by_cases d:key (g p 0)<key (g p (m-1))
   ·rw[decide_eq_true d];dsimp only;rw[if_pos rfl];exact q m p l1 l2 z
   ·rw[decide_eq_false d];dsimp only;rw[if_neg Bool.false_ne_true];have hs:m<=p.size:=by have:=z.1.size;omega
    refine Qz l1 hm z.turn ?_ q;rw[mV hs,mV hs,if_neg (by omega),if_pos ⟨by omega,by omega⟩,show 0+m-1-(m-1)=0 by omega];omega
  ·rw[if_neg c1];have e:m=1:=by omega
   subst e;exact Qz l1 hm ⟨z.1,λi j a b=>by omega⟩ hk q
theorem place{p:Array Nat}{k:Nat}{Q:Nat->Shared->Prop}{s:Shared}(hk:k<N)(h:I key N p k):∀(f l r:Nat),r<=l+f->l<=r->r<=k->(∀i,i<l->key (g p i)<=key (g p k))->(∀i,r<=i->i<k->key (g p k)<key (g p i)) ->
 (∀l',l'<=k->(∀i,i<l'->key (g p i)<=key (g p k))->(∀i,l'<=i->i<k->key (g p k)<key (g p i))->Q l' s)->(kas_place p k f l r).kasWp (ck key N) Q s
 | 0,l,r,e,h1,h2,a,b,q=>q l (by omega) a λi x y=>b i (by omega) y
 | f+1,l,r,e,h1,h2,a,b,q=>by
   unfold kas_place;by_cases c:l >= r
   ·rw[if_pos c];exact q l (by omega) a λi x y=>b i (by omega) y
   ·rw[if_neg c];have h3:(l+r)/2<r:=by omega
    have h4:l<=(l+r)/2:=by omega
    generalize (l+r)/2=m at h3 h4;refine⟨h.1.lt hk,h.1.lt (by omega),?_⟩;by_cases d:key (g p k)<key (g p m)
    ·rw[decide_eq_true d];dsimp only;rw[if_pos rfl];refine place hk h f l m (by omega) h4 (by omega) a (λi x y=>?_) q;by_cases c2:i=m
     ·rw[c2];exact d
     ·have:=(h.2 m i (by omega) y).le;omega
    ·rw[decide_eq_false d];dsimp only;rw[if_neg Bool.false_ne_true];refine place hk h f (m+1) r (by omega) (by omega) h2 (λi x=>?_) b q;by_cases c2:i=m
     ·rw[c2];omega
     ·have:=(h.2 i m (by omega) (by omega)).le;omega
theorem I.put{k l:Nat}(hk:k<N)(h:I key N p k)(hl:l<=k)(a:∀i,i<l->key (g p i)<=key (g p k))(b:∀i,l<=i->i<k->key (g p k)<key (g p i)):I key N (bubble p k (k-l)) (k+1):=by
 have hs:k<p.size:=by rw[h.1.size];exact hk
 have hg:=λi=>Dw hs (Nat.sub_le k l) i;rw[show k-(k-l)=l by omega]at hg;refine⟨⟨(bubble_perm _ _ _).trans h.1.pm,λi h1 h2=>?_,λi hi=>?_,hk⟩,λi j pK hj=>?_⟩
 ·rw[hg,if_neg (by omega),if_neg (by omega)];exact h.1.tl i (by omega) h2
 ·rw[hg];by_cases c:i=l
  ·rw[if_pos c,h.1.tl k (le_refl _) hk];omega
  ·rw[if_neg c];by_cases c2:l<i/\i<=k
   ·rw[if_pos c2];have:=h.1.lo (i-1) (by omega);omega
   ·rw[if_neg c2];have:=h.1.lo i (by omega);omega
 ·rw[hg i,hg j];by_cases c1:j<l
  ·rw[if_neg (by omega),if_neg (by omega),if_neg (by omega),if_neg (by omega)];exact h.2 i j pK (by omega)
  ·by_cases c2:j=l
   ·rw[if_pos c2,if_neg (by omega),if_neg (by omega)];exact R.of (a i (by omega)) (by rw[h.1.tl k (le_refl _) hk];exact h.1.lo i (by omega))
   ·rw[if_neg c2,if_pos (show l<j/\j<=k by omega)];by_cases c3:i=l
    ·rw[if_pos c3];exact .inl (b (j-1) (by omega) (by omega))
    ·rw[if_neg c3];by_cases c4:i<l
     ·rw[if_neg (by omega)];exact h.2 i (j-1) (by omega) (by omega)
     ·rw[if_pos (by omega)];exact h.2 (i-1) (j-1) (by omega) (by omega)
theorem bin{Q:Array Nat->Shared->Prop}(q:∀p',I key N p' N->Q p' s):∀(f:Nat)(p:Array Nat)(k:Nat),k+f=N->I key N p k->(kas_bin f p k).kasWp (ck key N) Q s
 | 0,p,k,e,h=>q p (by rw[Nat.add_zero]at e;rw[<-e];rw[e]at h ⊢;exact h)
 | f+1,p,k,e,h=>by
   unfold kas_bin;rw[KasT.kasWp_bind];refine place (by omega) h k 0 k (by omega) (zero_le _) (le_refl _) (λi x=>by omega) (λi x y=>by omega) λl l1 a b=>?_;exact bin q f _ (k+1) (by omega) (h.put (by omega) l1 a b)
theorem iw(h1:1<=N):I key N (List.range N).toArray 1:=by
 have e:∀i,i<N->g (List.range N).toArray i=i:=λi h=>by
  show(List.range N).toArray.getD i 0=i;simp[Array.getD,h]
 exact⟨⟨Array.Perm.refl _,λi _ h=>e i h,λi h=>by rw[e i (by omega)];exact h,h1⟩,λi j a b=>by omega⟩
theorem sort{Q:Array Nat->Shared->Prop}(h1:1<=N)(q:∀p,I key N p N->Q p s):(kas_sort N).kasWp (ck key N) Q s:=by
 unfold kas_sort;rw[KasT.kasWp_bind];refine count h1 (iw h1) λm p l1 l2 h=>?_;dsimp only;by_cases c:m<N
 ·rw[if_pos c,show max m 1=m by omega];exact bin q (N-m) p m (by omega) h
 ·rw[if_neg c];have e:m=N:=by omega
  subst e;exact q p h
end
end M14
namespace L2
open PySem PySem.W PySem.Calls PyProof.Rows
theorem pL{α:Type}{c c':Nat->Nat->(Bool->Shared->Prop)->Shared->Prop}{Q:α->Shared->Prop}(m:∀i j C C' s,(∀b s',C b s'->C' b s')->c i j C s->c' i j C' s):
 ∀(t:KasT α)(s:Shared),t.kasWp c Q s->t.kasWp c' Q s
 | .ret _,_,h=>h
 | .ask i j k,s,h=>m i j _ _ s (λb s' z=>pL m (k b) s' z) h
section
variable {X:Cx}{pins:List (Addr×Obj)}{σ:St}{H:Hp}{s:Shared}{a kS:Addr}{A:Around}{E:Value->Shared->Prop}
structure Own (X:Cx) (pins:List (Addr×Obj)) (H:Hp) (a:Addr):Prop where
 free:H a=none
 loc:a≠X.env.locals
 new:X.s₀.heap.objs.size<=a
 cell:∀x c,X.env.cells.lookup x=some c->c≠a
 pin:∀p∈X.pn++pins,p.1≠a
 fs:a∉X.fs
theorem Inv.own(I:Inv X pins σ H s){b:Addr}(h:s.heap.objs.size<=b):Own X pins H b:=by
 refine⟨I.aC.fresh h,λz=>?_,le_trans I.sz h,λx c e z=>?_,λp hp z=>?_,I.Cb h⟩
 ·have:=I.lt;rw[<-z]at this;exact absurd this (Nat.not_lt.mpr h)
 ·obtain⟨v,hv⟩:=I.cell x c e;obtain⟨o,ho,_⟩:=hv;have:=lt_size ho;rw[z]at this;exact absurd this (Nat.not_lt.mpr h)
 ·have:=lt_size (I.pin p hp).1;rw[z]at this;exact absurd this (Nat.not_lt.mpr h)
theorem Inv.swap{f:Obj->Obj}(I:Inv X pins σ H s)(o:Own X pins H a):Inv X pins σ H { s with heap:=s.heap.update a f } :=
 I.turned (it:=a) (λb u hb hu=>(get?_update_other s.heap f (Ne.symm hb)).trans hu) o.free o.loc (.inr o.new) o.cell o.pin
variable {u:Obj}
theorem Inv.hold(I:Inv X pins σ H s)(o:Own X pins H a)(e:s.heap.get? a=some u)(hu:∀v,u.data ≠ .cell v):Inv X ((a,u)::pins) σ H s :=
 I.bG λp hp=>by
  rcases List.mem_cons.mp hp with rfl | hp
  ·exact⟨e,o.free,o.loc,o.fs,hu⟩
  ·exact I.pin p (mem_append_right _ hp)
theorem Inv.drop{p:Addr×Obj}(I:Inv X (p::pins) σ H s):Inv X pins σ H s :=
 I.bG λq hq=>I.pin q (mem_append_right _ (mem_cons_of_mem _ hq))
theorem Inv.held(I:Inv X ((a,u)::pins) σ H s):s.heap.get? a=some u:=(I.pin (a,u) (mem_append_right _ (mem_cons_self ..))).1
theorem Own.more(o:Own X pins H a)(h:kS≠a):Own X ((kS,u)::pins) H a :=
 ⟨o.free,o.loc,o.new,o.cell,λp hp=>by
  rcases List.mem_append.mp hp with z | z
  ·exact o.pin p (mem_append_left _ z)
  ·rcases List.mem_cons.mp z with rfl | z
   ·exact h
   ·exact o.pin p (mem_append_right _ z),o.fs⟩
theorem bY{vs:Array Value}{n:Nat}:∀v,(seqObj "list" vs n).data ≠ .cell v:=λv z=>by cases z
theorem KI:∀{ks:List Value}{kz:List Int},IntsAre ks kz->∀i,i<kz.length->∃t,ks.getD i Value.none=Value.int (kz.getD i 0) t
 | _,_,.cons n t r,0,_=>⟨t,rfl⟩
 | _,_,.cons n t r,i+1,h=>KI r i (by simpa using h)
theorem QA{vs:List Value}{kz:List Int}{e1:Nat}{body:Value->PUnit->Sem (ForInStep PUnit)}(hl:kz.length=vs.length)
 (hb:∀(v:Value)(ks:List Value)(e:Nat)(s:Shared),vs[ks.length]? = some v->Inv X ((kS,seqObj "list" ks.toArray e)::(a,seqObj "list" #[] e1)::pins) σ H s->IntsAre ks (kz.take ks.length) ->
   wpAny (model X.prog X.w) A (body v ⟨⟩) (λr s'=>r=.yield ⟨⟩/\∃(k:Value)(e':Nat),Inv X ((kS,seqObj "list" (ks++[k]).toArray e')::(a,seqObj "list" #[] e1)::pins) σ H s'/\IntsAre (ks++[k]) (kz.take (ks++[k]).length)) E s) :
 ∀(r:List Value)(ks:List Value)(e:Nat)(s:Shared),vs.drop ks.length=r->ks.length<=vs.length->Inv X ((kS,seqObj "list" ks.toArray e)::(a,seqObj "list" #[] e1)::pins) σ H s->IntsAre ks (kz.take ks.length) ->
  wpAny (model X.prog X.w) A (forIn r PUnit.unit body) (λ_ s'=>∃(ks:List Value)(e:Nat),Inv X ((kS,seqObj "list" ks.toArray e)::(a,seqObj "list" #[] e1)::pins) σ H s'/\IntsAre ks kz) E s
 | [],ks,e,s,hd,hz,I,hi=>by
   rw[forIn_nil];have:vs.length<=ks.length:=by
    have:=congrArg List.length hd;rw[length_drop,length_nil]at this;omega
   refine wpAny_pure ⟨ks,e,I,?_⟩;rw[take_of_length_le (by omega)]at hi;exact hi
 | v::r,ks,e,s,hd,hz,I,hi=>by
   rw[forIn_cons];have hv:vs[ks.length]? = some v:=by
    have:=congrArg List.head? hd;rw[List.head?_drop]at this;exact this
   have bI:ks.length<vs.length:=(List.getElem?_eq_some_iff.mp hv).1;refine wpAny_bind (wpAny_mono (hb v ks e s hv I hi) (λq s' hq=>?_) λ_ _ x=>x);obtain⟨rfl,k,e',I',iB⟩:=hq;show wpAny (model X.prog X.w) A (forIn r PUnit.unit body) _ E s';have hlen:(ks++[k]).length=ks.length+1:=by rw[length_append,length_singleton]
   refine QA hl hb r (ks++[k]) e' s' ?_ (by omega) I' iB;rw[hlen,<-List.drop_drop,hd];rfl
theorem pM{st:SortSt}{ks out:List Value}{e e1:Nat}(I:Inv X ((kS,seqObj "list" ks.toArray e)::(a,seqObj "list" #[] e1)::pins) σ H s)(o:Own X pins H a)(ok:Own X pins H kS)(Dy:kS≠a)(hz:ks.length<64)(FY:out.length<64)
 (ho:(arrOf st).map (·.2)=List.toArray out) (hf:failedOf st=none) :
 wpAny (model X.prog X.w) A (ksk_tail a false e1 (.ref kS) st) (λr s'=>r=.done (.ret .none)/\Inv X pins σ H s'/\∃e,s'.heap.get? a=some (seqObj "list" out.toArray e)) E s:=by
 have cj:=zt;have hk:=I.held;have ha:=I.drop.held;have I1:=I.drop.drop.swap (f:=Obj.mapSeq λ_=>(#[]:Array Value)) ok;have KJ:(s.heap.update kS (Obj.mapSeq λ_=>(#[]:Array Value))).get? a=some (seqObj "list" #[] e1):=(get?_update_other s.heap _ Dy).trans ha;have I2:=I1.swap (f:=Obj.mapSeq λ_=>out.toArray) o;obtain⟨c2,vK⟩:∃c2,((s.heap.update kS (Obj.mapSeq λ_=>(#[]:Array Value))).update a (Obj.mapSeq λ_=>out.toArray)).get? a=some (seqObj "list" out.toArray c2):=⟨_,get?_update_seq KJ λ_=>out.toArray⟩;unfold ksk_tail
 try dsimp only
 rw[ho];refine wpAny_bind (listUpdate_at hk rfl ?_ (by rw[size_toArray];omega) (zero_le _));refine wpAny_bind (wpAny_letGo ?_);refine wpAny_bind (seqEpoch_at KJ rfl ?_);simp only[Bool.false_eq_true,if_false];refine wpAny_bind (listUpdate_at KJ rfl ?_ (zero_le _) (by rw[size_toArray];omega));rw[hf];simp only[bne_self_eq_false,Bool.false_eq_true,if_false];exact wpAny_pure ⟨rfl,I2,c2,vK⟩
theorem keyed{f:Value}{vs:List Value}{n:Nat}{kz:List Int}(I:Inv X pins σ H s)(o:Own X pins H a)(ho:s.heap.get? a=some (seqObj "list" vs.toArray n))(h1:1<=vs.length)(FZ:vs.length<64)(hl:kz.length=vs.length)
 (calls:∀(i:Nat)(v:Value)(pins':List (Addr×Obj)) (s':Shared),vs[i]? = some v->Inv X pins' σ H s'->wpAny (model X.prog X.w) A (call f [v]) (λk fK=>Inv X pins' σ H fK/\∃t,k=Value.int (kz.getD i 0) t) (λ_ _=>False) s') :
 wpAny (model X.prog X.w) A (ksk_tree a f false) (λr s'=>r=.done (.ret .none)/\∃(p:Array Nat)(e:Nat),M14.I (λk=>kz.getD k 0) vs.length p vs.length/\Inv X pins σ H s'/\s'.heap.get? a=some (seqObj "list" (p.toList.map λi=>vs.getD i Value.none).toArray e)) E s:=by
 have cj:=zt;have ha:a<s.heap.objs.size:=lt_size ho;have I1:=I.swap (f:=Obj.mapSeq λ_=>(#[]:Array Value)) o;obtain⟨e1,KL⟩:∃e1,(s.heap.update a (Obj.mapSeq λ_=>(#[]:Array Value))).get? a=some (seqObj "list" #[] e1):=⟨_,get?_update_seq ho λ_ => #[]⟩;unfold ksk_tree;refine wpAny_bind (listItems_at ho rfl ?_);refine wpAny_bind (listUpdate_at ho rfl ?_ (by rw[size_toArray];omega) (zero_le _));refine wpAny_bind (seqEpoch_at KL rfl ?_);refine wpAny_bind (wpAny_newTuple ?_ (by show vs.length<=_;omega));refine wpAny_bind (wpAny_newList ?_ (zero_le _));refine wpAny_holding ?_;have I2:Inv X pins σ H { s with heap:=(s.heap.update a (Obj.mapSeq λ_=>(#[]:Array Value))).push (seqObj "tuple" vs.toArray 0) }:=I1.kept (t':=s.toks) λb u q=>get?_push_of_some _ q;have I3:Inv X pins σ H { s with heap:=((s.heap.update a (Obj.mapSeq λ_=>(#[]:Array Value))).push (seqObj "tuple" vs.toArray 0)).push (seqObj "list" #[] 0) }:=I2.kept (t':=s.toks) λb u q=>get?_push_of_some _ q;have ok:=I2.own (b:=((s.heap.update a (Obj.mapSeq λ_=>(#[]:Array Value))).push (seqObj "tuple" vs.toArray 0)).objs.size) (le_refl _);have Dy:((s.heap.update a (Obj.mapSeq λ_=>(#[]:Array Value))).push (seqObj "tuple" vs.toArray 0)).objs.size≠a:=by
  rw[size_push',size_update];exact ne_of_gt (lt_succ_of_lt ha)
 have Dz:(((s.heap.update a (Obj.mapSeq λ_=>(#[]:Array Value))).push (seqObj "tuple" vs.toArray 0)).push (seqObj "list" #[] 0)).get? ((s.heap.update a (Obj.mapSeq λ_=>(#[]:Array Value))).push (seqObj "tuple" vs.toArray 0)).objs.size=some (seqObj "list" #[] 0):=get?_push_size _ rfl;have QB:(((s.heap.update a (Obj.mapSeq λ_=>(#[]:Array Value))).push (seqObj "tuple" vs.toArray 0)).push (seqObj "list" #[] 0)).get? a=some (seqObj "list" #[] e1):=get?_push_of_some _ (get?_push_of_some _ KL);show wpAny _ _ (ksk_rest a f false vs.toArray e1 (.ref ((s.heap.update a (Obj.mapSeq λ_=>(#[]:Array Value))).push (seqObj "tuple" vs.toArray 0)).objs.size)) _ _ { s with heap:=((s.heap.update a (Obj.mapSeq λ_=>(#[]:Array Value))).push (seqObj "tuple" vs.toArray 0)).push (seqObj "list" #[] 0) };generalize ((s.heap.update a (Obj.mapSeq λ_=>(#[]:Array Value))).push (seqObj "tuple" vs.toArray 0)).objs.size=kS at ok Dy Dz;generalize ((s.heap.update a (Obj.mapSeq λ_=>(#[]:Array Value))).push (seqObj "tuple" vs.toArray 0)).push (seqObj "list" #[] 0)=h3 at I3 Dz QB;clear I1 I2 KL;have Al:∀e,Own X ((a,seqObj "list" #[] e)::pins) H kS:=λe=>ok.more (Ne.symm Dy);have I4:=(I3.hold o QB bY).hold (Al e1) Dz bY;unfold ksk_rest;refine wpAny_bind (wpAny_rule ?_);rw[forIn_toArray];refine wpAny_bind (wpAny_mono (QA (kz:=kz) (vs:=vs) hl (λv ks e s' hv I5 hi=>?_) vs [] 0 _ rfl (zero_le _) I4 .nil) (λ_ s' hd=>?_) λ_ _ x=>x)
 ·refine wpAny_bind (wpAny_attempt (wpAny_mono (calls ks.length v _ s' hv I5) (λk fK hk=>?_) λ_ _ hF=>hF.elim));obtain⟨I6,t,rfl⟩:=hk;dsimp only;have bI:ks.length<vs.length:=(List.getElem?_eq_some_iff.mp hv).1;have QC:=I6.held;obtain⟨c2,vK⟩:∃c2,(fK.heap.update kS (Obj.mapSeq (·.push (Value.int (kz.getD ks.length 0) t)))).get? kS=some (seqObj "list" (ks++[Value.int (kz.getD ks.length 0) t]).toArray c2) :=
   ⟨_,by rw[show(ks++[Value.int (kz.getD ks.length 0) t]).toArray=ks.toArray.push (Value.int (kz.getD ks.length 0) t)by simp];exact get?_update_seq QC (·.push _)⟩
  refine wpAny_bind (listUpdate_at QC rfl ?_ (by rw[size_toArray];omega) (by rw[Array.size_push,size_toArray];omega));exact wpAny_pure ⟨rfl,_,c2,(I6.drop.swap (Al e1)).hold (Al e1) vK bY,by rw[length_append,length_singleton,List.take_add_one];exact hi.append (by rw[getElem?_eq_getElem (by omega),getD_eq_getElem?_getD,getElem?_eq_getElem (by omega)];exact .cons _ t .nil)⟩
 ·obtain⟨ks,e,I7,hi⟩:=hd;have Vd:=I7.held;have I8:=I7.drop;have ha8:=I8.held;have jW:ks.length=vs.length:=by rw[hi.length,hl]
  refine wpAny_bind (listItems_at Vd rfl ?_);have fin:∀(st:SortSt)(p:Array Nat),M14.I (λk=>kz.getD k 0) vs.length p vs.length->arrOf st=p.map (kas_item (ks.toArray.zip vs.toArray))->failedOf st=none ->
   wpAny (model X.prog X.w) A (ksk_tail a false e1 (.ref kS) st) (λr s'=>r=.done (.ret .none)/\∃(p:Array Nat)(e:Nat),M14.I (λk=>kz.getD k 0) vs.length p vs.length/\Inv X pins σ H s'/\s'.heap.get? a=some (seqObj "list" (p.toList.map λi=>vs.getD i Value.none).toArray e)) E s':=λst p hp KN hf =>
   wpAny_mono (pM (out:=p.toList.map λi=>vs.getD i Value.none) I7 o ok Dy (by omega) (by rw[length_map,Array.length_toList,hp.1.size];exact FZ) (kat_snds jW KN) hf) (λr s2 z=>⟨z.1,p,_,hp,z.2.1,z.2.2.choose_spec⟩) λ_ _ x=>x
  unfold ksk_end;simp only[Bool.false_eq_true,if_false];by_cases h2:vs.length<2
  ·have kH:vs.toArray.size<2:=by rw[size_toArray];exact h2
   rw[if_pos kH,if_pos kH];refine wpAny_bind (wpAny_pure ?_);refine wpAny_bind (wpAny_pure ?_);have hN:vs.length=1:=by omega
   have z:∀m,m=1->M14.I (λk=>kz.getD k 0) vs.length (List.range vs.length).toArray m:=λm e=>by rw[e];exact M14.iw h1
   refine fin _ _ (z _ hN) ?_ rfl;have e:=kas_range (ks.toArray.zip vs.toArray);rw[show(ks.toArray.zip vs.toArray).size=vs.length by simp[jW]]at e;exact e.symm
  ·have kH:¬vs.toArray.size<2:=by rw[size_toArray];exact h2
   rw[if_neg kH,if_neg kH,ksk_kind (kz:=kz) (by simpa using hi) (by rw[size_toArray];omega)];refine wpAny_bind (wpAny_pure ?_);have ask:(kas_sort vs.length).kasWp (kas_ask X.prog X.w A oneType' ks) (λp s2=>M14.I (λk=>kz.getD k 0) vs.length p vs.length/\s2=s') s':=by
    refine pL (c:=M14.ck (λk=>kz.getD k 0) vs.length) (λi j C C' s0 m h=>?_) _ _ (M14.sort h1 λp hp=>⟨hp,rfl⟩);obtain⟨iA,Ve,hc⟩:=h;obtain⟨t,et⟩:=KI hi i (by omega);obtain⟨u,eu⟩:=KI hi j (by omega);unfold kas_ask;rw[et,eu];exact kat_lt_int (m _ _ hc)
   refine wpAny_bind (wpAny_mono (kat_run (Q:=λgT s2=>∃p:Array Nat,M14.I (λk=>kz.getD k 0) vs.length p vs.length/\arrOf gT=p.map (kas_item (ks.toArray.zip vs.toArray))/\failedOf gT=none/\s2=s') jW (by omega) FZ (λp' gT s2 a1 a2 a3 a4=>⟨p',a4.1,a2,a3,a4.2⟩) ask) ?_ λ_ _ x=>x);rintro ⟨⟨⟩,gT⟩ s2 ⟨p,hp,KN,hf,rfl⟩;exact fin _ _ hp KN hf
end
end L2
namespace L2
open PySem PySem.W
abbrev rS(h:Heap)(z TI TO T:Addr)(b:Bool):Prop :=
 h.get? z=some { cls:=.type "zip",dict:=none,data:=.fields #[rawInt T,.bool b,.bool false,.ref TI,.ref TO],slots := #[] }
section
variable {P:Program}{w:World}{A:Around}{E:Value->Shared->Prop}{s:Shared}{z TI TO T i1 i2 l1 l2:Addr}{b:Bool}
theorem QD{Q:Bool->Shared->Prop}(hz:rS s.heap z TI TO T b)(hT:∃o,s.heap.get? T=some o)(q:∀h',rS h' z TI TO T true->SameBut z s.heap h'->Q false { s with heap:=h' }):
 wpAny (model P w) A (Builtin.SmallTypes.ownedTupleIsFree (.ref z)) Q E s:=by
 obtain⟨o,ho⟩:=hT;unfold Builtin.SmallTypes.ownedTupleIsFree;refine wpAny_bind (wpAny_field hz rfl (x:=rawInt T) rfl ?_);show wpAny _ _ (loadIfAlive ((T:Int).toNat) >>= _) _ _ _;rw[Int.toNat_natCast];refine wpAny_bind (kdx_alive ho ?_);simp only[Option.isNone_some,if_false,Bool.false_eq_true];refine wpAny_bind (wpAny_field hz rfl (x:=.bool b) rfl ?_);cases b with
 | true =>
   rw[if_neg (show ¬((Value.bool true != Value.bool true)=true)by decide)];exact wpAny_pure (q _ hz (Heap.SameBut.refl _ _))
 | false =>
   rw[if_pos (show(Value.bool false != Value.bool true)=true by decide)];exact wpAny_bind (wpAny_setField_rec hz (by simp) λh₃ e₃ s₃=>wpAny_pure (q h₃ e₃ s₃))
variable {k1:Nat}{xs ys:Array Value}
theorem pN{k2:Nat}{x y:Value}{Q:Value->Shared->Prop}(D:ZipApart z TI TO i1 i2 l1 l2)(hz:rS s.heap z TI TO T b)(hT:∃o,s.heap.get? T=some o)(eY:IsPair s.heap TI (.ref i1) (.ref i2))
 (h1:s.heap.IsListIter i1 l1 k1) (h2:s.heap.IsListIter i2 l2 k2) (cJ:s.heap.IsList l1 xs) (b8:s.heap.IsList l2 ys) (hx:xs[k1]? = some x) (hy:ys[k2]? = some y)
 (q:∀h',rS h' z TI TO T true->h'.IsListIter i1 l1 (k1+1)->h'.IsListIter i2 l2 (k2+1)->IsPair h' s.heap.objs.size x y->h'.objs.size=s.heap.objs.size+1 ->
   (∀c o,c≠z->c≠i1->c≠i2->s.heap.get? c=some o->h'.get? c=some o)->Q (.ref s.heap.objs.size) { s with heap:=h' }) :
 wpAny (model P w) A (Builtin.«zip.__next__» ⟨[.ref z],[]⟩) (λr s'=>∃v,r=.done (.ret v)/\Q v s') E s:=by
 show wpAny (model P w) A (field (.ref z) 2 >>= _) _ _ _;refine wpAny_bind (wpAny_field hz (x:=.bool false) rfl rfl ?_);show wpAny (model P w) A (field (.ref z) 3 >>= _) _ _ _;refine wpAny_bind (wpAny_field hz (x:=.ref TI) rfl rfl ?_);refine wpAny_bind (wpAny_seqItems eY rfl ?_);show wpAny (model P w) A (Builtin.SmallTypes.ownedTupleIsFree (.ref z) >>= _) _ _ _;refine wpAny_bind (QD hz hT λh₁ z₁ s₁=>?_);simp only[if_false,Bool.false_eq_true];rw[show(#[Value.ref i1,Value.ref i2]:Array Value)=[Value.ref i1,Value.ref i2].toArray from rfl,forIn_toArray];simp only[forIn_cons,forIn_nil];refine wpAny_bind (wpAny_bind (wpAny_bind (wpAny_holding ?_)));show wpAny (model P w) A (Builtin.SmallTypes.nextOf (.ref i1) >>= _) _ _ _;refine wpAny_bind (wpAny_nextOf_list_item (h1.extBut s₁.extBut D.i1z) (cJ.extBut s₁.extBut D.l1z) hx λh₂ a₂ s₂=>wpAny_pure (wpAny_pure ?_));refine wpAny_bind (wpAny_bind (wpAny_holding ?_));show wpAny (model P w) A (Builtin.SmallTypes.nextOf (.ref i2) >>= _) _ _ _;refine wpAny_bind (wpAny_nextOf_list_item ((h2.extBut s₁.extBut D.i2z).extBut s₂.extBut D.i12.symm) ((b8.extBut s₁.extBut D.l2z).extBut s₂.extBut D.l2i1) hy λh₃ a₃ s₃=>wpAny_pure (wpAny_pure (wpAny_pure ?_)));refine wpAny_bind (wpAny_newTuple (wpAny_pure ⟨_,rfl,?_⟩) (by show 2<=sizeLine;decide));have hsz:h₃.objs.size=s.heap.objs.size:=by rw[s₃.1,s₂.1,s₁.1]
 show Q (.ref h₃.objs.size) _;rw[hsz];have up:∀c o,h₃.get? c=some o->(h₃.push { cls:=.type "tuple",data:=.seq #[x,y] }).get? c=some o:=λc o e=>get?_push_of_some _ e;refine q _ (up _ _ (s₃.extBut _ _ D.i2z.symm (s₂.extBut _ _ D.i1z.symm z₁))) ?_ ?_ ?_ ?_ λc o c1 c2 c3 e=>up _ _ (s₃.extBut _ _ c3 (s₂.extBut _ _ c2 (s₁.extBut _ _ c1 e)))
 ·exact(a₂.extBut s₃.extBut D.i12).at λo e=>up _ o e
 ·exact a₃.at λo e=>up _ o e
 ·rw[<-hsz];exact get?_push_size _ rfl
 ·exact(size_push ..).trans (by rw[hsz])
theorem pO{k2:Nat}{ys:Array Value}{Q:Fin->Shared->Prop}(hh:A.handled=none)(D:ZipApart z TI TO i1 i2 l1 l2)(hz:rS s.heap z TI TO T b)(hT:∃o,s.heap.get? T=some o)(eY:IsPair s.heap TI (.ref i1) (.ref i2))
 (h1:s.heap.IsListIter i1 l1 k1) (cJ:s.heap.IsList l1 xs) (hx:xs[k1]? = none)
 (q:∀h' e,(∀c o,c≠z->c≠i1->c≠i2->s.heap.get? c=some o->h'.get? c=some o)->(∃o,h'.get? e=some o/\o.cls=.type "StopIteration")->E (.ref e) { s with heap:=h' }) :
 wpAny (model P w) A (Builtin.«zip.__next__» ⟨[.ref z],[]⟩) Q E s:=by
 show wpAny (model P w) A (field (.ref z) 2 >>= _) _ _ _;refine wpAny_bind (wpAny_field hz (x:=.bool false) rfl rfl ?_);show wpAny (model P w) A (field (.ref z) 3 >>= _) _ _ _;refine wpAny_bind (wpAny_field hz (x:=.ref TI) rfl rfl ?_);refine wpAny_bind (wpAny_seqItems eY rfl ?_);show wpAny (model P w) A (Builtin.SmallTypes.ownedTupleIsFree (.ref z) >>= _) _ _ _;refine wpAny_bind (QD hz hT λh₁ z₁ s₁=>?_);simp only[if_false,Bool.false_eq_true];rw[show(#[Value.ref i1,Value.ref i2]:Array Value)=[Value.ref i1,Value.ref i2].toArray from rfl,forIn_toArray];simp only[forIn_cons,forIn_nil];refine wpAny_bind (wpAny_bind (wpAny_bind (wpAny_holding ?_)));show wpAny (model P w) A (Builtin.SmallTypes.nextOf (.ref i1) >>= _) _ _ _;refine wpAny_bind (wpAny_nextOf_list_end hh (h1.extBut s₁.extBut D.i1z) (cJ.extBut s₁.extBut D.l1z) hx λh₂ e s₂ he=>?_);exact q h₂ e (λc o c1 c2 _ x=>s₂ _ _ c2 (s₁.extBut _ _ c1 x)) he
variable {Q:Option Value->Shared->Prop}
theorem lE{k2:Nat}{x y:Value}(D:ZipApart z TI TO i1 i2 l1 l2)(hz:rS s.heap z TI TO T b)(hT:∃o,s.heap.get? T=some o)(eY:IsPair s.heap TI (.ref i1) (.ref i2))
 (h1:s.heap.IsListIter i1 l1 k1) (h2:s.heap.IsListIter i2 l2 k2) (cJ:s.heap.IsList l1 xs) (b8:s.heap.IsList l2 ys) (hx:xs[k1]? = some x) (hy:ys[k2]? = some y)
 (q:∀h',rS h' z TI TO T true->h'.IsListIter i1 l1 (k1+1)->h'.IsListIter i2 l2 (k2+1)->IsPair h' s.heap.objs.size x y->h'.objs.size=s.heap.objs.size+1 ->
   (∀c o,c≠z->c≠i1->c≠i2->s.heap.get? c=some o->h'.get? c=some o)->Q (some (.ref s.heap.objs.size)) { s with heap:=h' }) :
 wpAny (model P w) A (pyNext (.ref z)) Q E s:=by
 have t:s.TypeIs (.ref z) "zip":=⟨_,hz,rfl⟩;unfold pyNext;exact wpAny_bind (wpAny_attempt (wpAny_callSpecial?_slot (name:=Str.ofString "__next__") t F.slot_zip_next (wpAny_call_entry F.slot_zip_next t F.entry_zip_next
  (pN D hz hT eY h1 h2 cJ b8 hx hy λh' a1 a2 a3 a4 a5 a6=>wpAny_pure (q h' a1 a2 a3 a4 a5 a6)) (F.args_zip_next_1 _))))
theorem lF(hh:A.handled=none)(D:ZipApart z TI TO i1 i2 l1 l2)(hz:rS s.heap z TI TO T b)(hT:∃o,s.heap.get? T=some o)(eY:IsPair s.heap TI (.ref i1) (.ref i2))
 (h1:s.heap.IsListIter i1 l1 k1) (cJ:s.heap.IsList l1 xs) (hx:xs[k1]? = none)
 (q:∀h',(∀c o,c≠z->c≠i1->c≠i2->s.heap.get? c=some o->h'.get? c=some o)->Q none { s with heap:=h' }):wpAny (model P w) A (pyNext (.ref z)) Q E s:=by
 have t:s.TypeIs (.ref z) "zip":=⟨_,hz,rfl⟩;unfold pyNext;refine wpAny_bind (wpAny_attempt (wpAny_callSpecial?_slot (name:=Str.ofString "__next__") t F.slot_zip_next (wpAny_call_entry F.slot_zip_next t F.entry_zip_next
  (pO (k2:=0) (ys := #[]) hh D hz hT eY h1 cJ hx λh' e k he=>?_) (F.args_zip_next_1 _))))
 obtain⟨o,ho,hc⟩:=he;exact wpAny_bind (wpAny_isInstance (T:= "StopIteration") (b:=true) ⟨o,ho,hc⟩ isSubtype_stop (wpAny_pure (q _ k)))
def rT(z TI TO i1 i2 l1 l2:Addr)(xs ys:Array Value)(i:Nat)(s:Shared):Prop :=
 IsPair s.heap TI (.ref i1) (.ref i2)/\s.heap.IsListIter i1 l1 i/\s.heap.IsListIter i2 l2 i/\s.heap.IsList l1 xs/\s.heap.IsList l2 ys /\
  ((i=0/\IsZip s.heap z TI TO .none/\∃a b,IsPair s.heap TO a b)\/(0<i/\∃(T:Addr)(b:Bool),rS s.heap z TI TO T b/\∃o,s.heap.get? T=some o))
end
end L2
namespace L2
open PySem PySem.W PyProof.Rows
section
variable {X:Cx}{pins:List (Addr×Obj)}{σ:St}{H:Hp}{s:Shared}{h':Heap}{t':Nat}{ch:List Addr}
theorem Inv.moved(I:Inv X pins σ H s)(o:∀c∈ch,Own X pins H c)(k:∀b u,b∉ch->s.heap.get? b=some u->h'.get? b=some u):Inv X pins σ H { s with heap:=h',toks:=t' }:=by
 have jB:∀b u,H b=some u->b∉ch:=λb u e z=>by rw[(o b z).free]at e;cases e
 have nL:X.env.locals∉ch:=λz=>(o _ z).loc rfl;refine I.step (g':=s.gens) (d':=s.drawn) (ch:=ch) (λb hb=>⟨.inr (o b hb).new,(o b hb).loc,(o b hb).cell,(o b hb).pin⟩) (λb u _ _ hc e _=>k b u hc e) (λb u _ _ hc e _=>⟨u.slots,k b u hc e⟩)
  (λ_ _ _ _ n=>n) (λb u hc e=>⟨u,k b u hc e⟩) (λ_ _ e=>e) (λ_ _ _ e=>e) (λb ps e=>⟨#[],by rw[e];simp⟩) (λm hm=>?_) (λb u e=>?_) I.bare
 ·obtain⟨ob,es,ep,ho,r⟩:=hm;exact⟨ob,es,ep,k _ ob nL ho,r⟩
 ·refine(I.aC b u e).bQ (λc v hc q=>k c v ?_ q) (λ_ q=>q) λ_ _ q=>q;rcases hc with z | z
  ·rw[z];exact jB b u e
  ·exact jB c _ z
variable {T:Addr}
theorem Inv.Am{v:HO}(I:Inv X pins σ H s)(o:∀c∈ch,Own X pins H c)(k:∀b u,b∉ch->s.heap.get? b=some u->h'.get? b=some u)(hT:s.heap.objs.size<=T)(new:aX X.prog X.w (upd H T v) h' T v):
 Inv X pins σ (upd H T v) { s with heap:=h',toks:=t' }:=by
 have hf:H T=none:=I.aC.fresh hT;have jB:∀b u,H b=some u->b∉ch:=λb u e z=>by rw[(o b z).free]at e;cases e
 have nL:X.env.locals∉ch:=λz=>(o _ z).loc rfl;have up:∀b u,H b=some u->upd H T v b=some u:=λb u e=>by rw[zh (zj e hf)];exact e
 refine I.step (g':=s.gens) (d':=s.drawn) (ch:=ch) (λb hb=>⟨.inr (o b hb).new,(o b hb).loc,(o b hb).cell,(o b hb).pin⟩) (λb u _ _ hc e _=>k b u hc e) (λb u _ _ hc e _=>⟨u.slots,k b u hc e⟩)
  (λb u _ e n=>?_) (λb u hc e=>⟨u,k b u hc e⟩) (λb _ e=>up b _ e) (λb _ _ e=>up b _ e) (λb ps e=>⟨#[],by rw[up b _ e];simp⟩) (λm hm=>?_) (λb u e=>?_) I.bare
 ·rw[zh (λz=>by rw[z]at e;exact absurd (lt_size e) (Nat.not_lt.mpr hT))];exact n
 ·obtain⟨ob,es,ep,ho,r⟩:=hm;exact⟨ob,es,ep,k _ ob nL ho,r⟩
 ·by_cases hb:b=T
  ·subst hb;rw[zc]at e;cases e;exact new
  ·rw[zh hb]at e;refine(I.aC b u e).bQ (λc w hc q=>k c w ?_ q) (λc q=>up c _ q) λc _ q=>up c _ q;rcases hc with z | z
   ·rw[z];exact jB b u e
   ·exact jB c _ z
theorem Own.upd{c:Addr}{v:HO}(o:Own X pins H c)(h:c≠T):Own X pins (upd H T v) c:=⟨by rw[zh h];exact o.free,o.loc,o.new,o.cell,o.pin,o.fs⟩
variable {A:Around}{E:Value->Shared->Prop}{z TI TO i1 i2 l1 l2 S:Addr}{xs ys:List Value}{xv yv:List V}
theorem pP{i:Nat}{x y:Value}{vx vy:V}{Q:Option Value->Shared->Prop}(I:Inv X pins σ H s)(o:∀c ∈ [z,TO,i1,i2],Own X pins H c)(D:ZipApart z TI TO i1 i2 l1 l2)(st:rT z TI TO i1 i2 l1 l2 xs.toArray ys.toArray i s)
 (hx:xs[i]? = some x) (hy:ys[i]? = some y) (rx:RelV vx x) (ry:RelV vy y)
 (q:∀s',Inv X pins σ (L2.upd H s.heap.objs.size (.tup [vx,vy])) s'->rT z TI TO i1 i2 l1 l2 xs.toArray ys.toArray (i+1) s'->(∀b u,b ∉ [z,TO,i1,i2]->s.heap.get? b=some u->s'.heap.get? b=some u)->s'.heap.objs.size=s.heap.objs.size+1->Q (some (.ref s.heap.objs.size)) s') :
 wpAny (model X.prog X.w) A (pyNext (.ref z)) Q E s:=by
 obtain⟨eY,h1,h2,cJ,b8,hz⟩:=st;have QE:xs.toArray[i]? = some x:=by simpa using hx
 have QF:ys.toArray[i]? = some y:=by simpa using hy
 have KO:TI ∉ [z,TO,i1,i2]:=by simp[D.TIz,D.TITO,D.TIi1,D.TIi2]
 have n1:l1 ∉ [z,TO,i1,i2]:=by simp[D.l1z,D.l1TO,D.l1i1,D.l1i2]
 have n2:l2 ∉ [z,TO,i1,i2]:=by simp[D.l2z,D.l2TO,D.l2i1,D.l2i2]
 have fin:∀(h':Heap)(b:Bool)(T:Addr),rS h' z TI TO T b->(∃u,h'.get? T=some u)->h'.IsListIter i1 l1 (i+1)->h'.IsListIter i2 l2 (i+1)->IsPair h' s.heap.objs.size x y->h'.objs.size=s.heap.objs.size+1 ->
  (∀c u,c ∉ [z,TO,i1,i2]->s.heap.get? c=some u->h'.get? c=some u)->Q (some (.ref s.heap.objs.size)) { s with heap:=h' }:=λh' b T b1 b2 b3 b4 b5 b6 k=>by
  refine q _ (I.Am (t':=s.toks) o k (le_refl _) ⟨by show 2<=sizeLine;decide,[x,y],.cons rx (.cons ry .nil),_,b5,rfl,_,rfl⟩) ⟨k _ _ KO eY,b3,b4,cJ.at λu e=>k _ u n1 e,b8.at λu e=>k _ u n2 e,.inr ⟨Nat.succ_pos _,T,b,b1,b2⟩⟩ k b6
 rcases hz with⟨rfl,hz,a,b,rV⟩|⟨hi,T,b,hz,hT⟩
 ·refine wpAny_pyNext_zip_item D hz eY rV h1 h2 cJ b8 QE QF λh' a1 a2 a3 a4 a5 a6 k=>?_;exact fin h' false _ a1 ⟨_,a5⟩ a3 a4 a5 a6 λc u hc e=>k c u (λw=>hc (by simp[w])) (λw=>hc (by simp[w])) (λw=>hc (by simp[w])) (λw=>hc (by simp[w])) e
 ·refine lE D hz hT eY h1 h2 cJ b8 QE QF λh' a1 a2 a3 a4 a5 k=>?_;have k':∀c u,c ∉ [z,TO,i1,i2]->s.heap.get? c=some u->h'.get? c=some u:=λc u hc e=>k c u (λw=>hc (by simp[w])) (λw=>hc (by simp[w])) (λw=>hc (by simp[w])) e;obtain⟨u,hu⟩:=hT;by_cases c1:T=z
  ·exact fin h' true T a1 ⟨_,by rw[c1];exact a1⟩ a2 a3 a4 a5 k'
  ·by_cases c2:T=i1
   ·obtain⟨w,hw,_⟩:=id a2;exact fin h' true T a1 ⟨w,by rw[c2];exact hw⟩ a2 a3 a4 a5 k'
   ·by_cases c3:T=i2
    ·obtain⟨w,hw,_⟩:=id a3;exact fin h' true T a1 ⟨w,by rw[c3];exact hw⟩ a2 a3 a4 a5 k'
    ·exact fin h' true T a1 ⟨u,k T u c1 c2 c3 hu⟩ a2 a3 a4 a5 k'
abbrev gK(H:Hp)(ts:List Addr)(ps:List (V×V)):Prop:=Paired (λt (p:V×V)=>H t=some (.tup [p.1,p.2])) ts ps
variable {ts:List Addr}{ps:List (V×V)}
theorem gK.upd{v:HO}(h:gK H ts ps)(hT:H T=none):gK (L2.upd H T v) ts ps:=by
 induction h with
 | nil=>exact .nil
 | cons e _ ih=>exact .cons (by rw[zh (zj e hT)];exact e) ih
theorem gK.snoc{t:Addr}{p:V×V}(h:gK H ts ps)(e:H t=some (.tup [p.1,p.2])):gK H (ts++[t]) (ps++[p]):=by
 induction h with
 | nil=>exact .cons e .nil
 | cons a _ ih=>exact .cons a ih
theorem jX:∀{xv:List V}{xs:List Value},Vals xv xs->∀(i:Nat)(h:i<xv.length),∃x,xs[i]? = some x/\RelV xv[i] x:=by
 intro xv xs r
 induction r with
 | nil=>intro i h;exact absurd h (Nat.not_lt_zero _)
 | cons e _ ih =>
   intro i h;cases i with
   | zero=>exact⟨_,rfl,e⟩
   | succ i=>exact ih i (by simpa using h)
theorem rT.keep{i:Nat}{h':Heap}(st:rT z TI TO i1 i2 l1 l2 xs.toArray ys.toArray i s)(h0:0<i)(k:∀b u,b≠S->s.heap.get? b=some u->h'.get? b=some u)(he:∃u,h'.get? S=some u)(hS:S ∉ [z,TO,i1,i2])(DA:S≠TI/\S≠l1/\S≠l2):
 rT z TI TO i1 i2 l1 l2 xs.toArray ys.toArray i { s with heap:=h' }:=by
 obtain⟨a1,a2,a3,a4,a5,a6⟩:=st;have n:∀c ∈ [z,TO,i1,i2],c≠S:=λc hc e=>hS (e ▸ hc);refine⟨k _ _ (Ne.symm DA.1) a1,a2.at λu e=>k _ u (n _ (by simp)) e,a3.at λu e=>k _ u (n _ (by simp)) e,a4.at λu e=>k _ u (Ne.symm DA.2.1) e,a5.at λu e=>k _ u (Ne.symm DA.2.2) e,?_⟩;rcases a6 with⟨z0,_⟩|⟨_,T,b,hz,u,hu⟩
 ·omega
 ·refine .inr ⟨h0,T,b,k _ _ (n _ (by simp)) hz,?_⟩;by_cases c:T=S
  ·rw[c];exact he
  ·exact⟨u,k T u c hu⟩
theorem pQ{res:Value}{R:Result->Shared->Prop}(hh:A.in1.handled=none)(D:ZipApart z TI TO i1 i2 l1 l2)(hS:S ∉ [z,TO,i1,i2])(DA:S≠TI/\S≠l1/\S≠l2)(rx:Vals xv xs)(ry:Vals yv ys)(hl:xv.length=yv.length)(hn:xv.length<64):
 ∀(k i:Nat)(s:Shared)(H:Hp)(ts:List Addr)(c:Nat),xv.length-i=k->i<=xv.length->0<xv.length->Inv X pins σ H s->(∀c ∈ [z,TO,i1,i2],Own X pins H c/\c<s.heap.objs.size)->Own X pins H S->S<s.heap.objs.size ->
  rT z TI TO i1 i2 l1 l2 xs.toArray ys.toArray i s->s.heap.get? S=some { cls:=.type "list",dict:=none,data:=.seq (ts.map Value.ref).toArray c,slots := #[] }->ts.length=i->gK H ts ((xv.zip yv).take i) ->
  (∀s' H' ts,Inv X pins σ H' s'->ae H H'->gK H' ts (xv.zip yv)->Own X pins H' S->(∃c,s'.heap.get? S=some { cls:=.type "list",dict:=none,data:=.seq (ts.map Value.ref).toArray c,slots := #[] })->R (.ok (.ret res)) s') ->
  codeAny (model X.prog X.w) A (.builtin "list.extend.loop" ⟨[.ref S,.ref z,res],[]⟩) R s:=by
 have lx:=rx.length;have ly:=ry.length;intro k
 induction k with
 | zero =>
   intro i s H ts c hk hi h0 I o oS lS st eS et pr q;have e:i=xv.length:=by omega
   subst e;refine codeAny_builtin F.entry_extend_loop ?_;rw[Around.under_plainId F.plain_extend_loop _];show wpAny (model X.prog X.w) A.in1 (pyNext (.ref z) >>= _) _ _ s;obtain⟨eY,h1,h2,cJ,b8,hz⟩:=st;rcases hz with⟨z0,_⟩|⟨_,T,b,hz,hT⟩
   ·omega
   refine wpAny_bind (lF hh D hz hT eY h1 cJ (by simp;omega) λh' k'=>?_);have kk:∀b u,b ∉ [z,TO,i1,i2]->s.heap.get? b=some u->h'.get? b=some u:=λb u hb e=>k' b u (λw=>hb (by simp[w])) (λw=>hb (by simp[w])) (λw=>hb (by simp[w])) e;rw[take_of_length_le (by rw[length_zip];omega)]at pr;exact wpAny_pure (q _ H ts (I.moved (t':=s.toks) (λc hc=>(o c hc).1) kk) (ae.refl _) pr oS ⟨c,kk S _ hS eS⟩)
 | succ k ih =>
   intro i s H ts c hk hi h0 I o oS lS st eS et pr q;have bI:i<xv.length:=by omega
   refine codeAny_builtin F.entry_extend_loop ?_;rw[Around.under_plainId F.plain_extend_loop _];show wpAny (model X.prog X.w) A.in1 (pyNext (.ref z) >>= _) _ _ s;obtain⟨x,hx,vx⟩:=jX rx i bI;obtain⟨y,hy,vy⟩:=jX ry i (by omega);refine wpAny_bind (pP I (λc hc=>(o c hc).1) D st hx hy vx vy λs' I' gT k' z'=>?_);have QG:=k' S _ hS eS;have hf:H s.heap.objs.size=none:=I.aC.fresh (le_refl _);have QH:Own X pins (L2.upd H s.heap.objs.size (.tup [xv[i],yv[i]])) S:=oS.upd (ne_of_lt lS);obtain⟨c2,vK⟩:∃c2,(s'.heap.update S (Obj.mapSeq (·.push (Value.ref s.heap.objs.size)))).get? S=some { cls:=.type "list",dict:=none,data:=.seq ((ts++[s.heap.objs.size]).map Value.ref).toArray c2,slots := #[] } :=
    ⟨_,by rw[show((ts++[s.heap.objs.size]).map Value.ref).toArray=(ts.map Value.ref).toArray.push (Value.ref s.heap.objs.size)by simp];exact get?_update_seq QG (·.push _)⟩
   have ko:∀b u,b≠S->s'.heap.get? b=some u->(s'.heap.update S (Obj.mapSeq (·.push (Value.ref s.heap.objs.size)))).get? b=some u:=λb u hb e=>(get?_update_other _ _ (Ne.symm hb)).trans e;have cj:=zt;show wpAny (model X.prog X.w) A.in1 (updateSeq S (·.push (Value.ref s.heap.objs.size)) >>= _) _ _ _;refine wpAny_bind ?_;refine wpAny_updateSeq QG rfl (wpAny_pure ⟨plainId_quiet F.plain_extend_loop _,ih (i+1) _ _ (ts++[s.heap.objs.size]) c2 (by omega) (by omega) h0 (I'.swap QH) (λc hc=>?_) QH ?_ (gT.keep (Nat.succ_pos _) ko ⟨_,vK⟩ hS DA) vK (by rw[length_append,et];rfl) ?_ ?_⟩) ?_ ?_
   ·refine⟨((o c hc).1).upd (ne_of_lt (o c hc).2),?_⟩;show c<(s'.heap.update S _).objs.size;rw[size_update,z'];exact lt_succ_of_lt (o c hc).2
   ·show S<(s'.heap.update S _).objs.size;rw[size_update,z'];exact lt_succ_of_lt lS
   ·have e:(xv.zip yv).take (i+1)=(xv.zip yv).take i++[(xv[i],yv[i])]:=by
     rw[List.take_add_one,getElem?_eq_getElem (by rw[length_zip];omega)];simp
    rw[e];exact(pr.upd hf).snoc zc
   ·intro s2 H2 By J1 J2 J3 J4 J5;exact q s2 H2 By J1 ((ae.new hf).trans J2) J3 J4 J5
   ·rw[size_toArray,length_map,et];omega
   ·rw[Array.size_push,size_toArray,length_map,et];omega
end
end L2
namespace L2
open PySem PySem.W PyProof.Rows PySem.Calls
theorem tS:typeLookup (.type "zip") "__len__"=pure none:=by rw[typeLookup_type,builtinLookup_eq_fast];kernel_rfl
theorem pR:typeLookup (.type "zip") "__length_hint__"=pure none:=by rw[typeLookup_type,builtinLookup_eq_fast];kernel_rfl
section
variable {X:Cx}{pins:List (Addr×Obj)}{σ:St}{H:Hp}{s:Shared}{A:Around}{E:Value->Shared->Prop}{z TI TO i1 i2 l1 l2:Addr}{xs ys:List Value}{xv yv:List V}
theorem Vf{Q:List Value->Shared->Prop}(hh:A.in1.handled=none)(D:ZipApart z TI TO i1 i2 l1 l2)(rx:Vals xv xs)(ry:Vals yv ys)(hl:xv.length=yv.length)(hn:xv.length<64)(h0:0<xv.length)
 (I:Inv X pins σ H s) (o:∀c ∈ [z,TO,i1,i2],Own X pins H c/\c<s.heap.objs.size) (st:rT z TI TO i1 i2 l1 l2 xs.toArray ys.toArray 0 s)
 (q:∀s' H' ts,Inv X pins σ H' s'->ae H H'->gK H' ts (xv.zip yv)->Q (ts.map Value.ref) s'):wpAny (model X.prog X.w) A (collect (.ref z)) Q E s:=by
 have hz:IsZip s.heap z TI TO .none:=by
  rcases st.2.2.2.2.2 with⟨_,hz,_⟩|⟨w,_⟩
  ·exact hz
  ·omega
 have lt:∀{c u},s.heap.get? c=some u->c<s.heap.objs.size:=λe=>lt_size e;have lz:=(o z (by simp)).2;have Vg:s.heap.objs.size≠z:=ne_of_gt lz;have oS:=I.own (b:=s.heap.objs.size) (le_refl _);unfold collect;refine wpAny_bind (wpAny_runValue (codeAny_builtin F.entry_proto_collect ?_));rw[Around.under_plainId F.plain_proto_collect _];show wpAny (model X.prog X.w) A.in1 (newList [] >>= λl=>again (.builtin "list.__iadd__" ⟨[l,.ref z],[]⟩)) _ _ s;refine wpAny_bind (wpAny_newList ?_ (zero_le _));have I1:Inv X pins σ H { s with heap:=s.heap.push { cls:=.type "list",data:=.seq ([]:List Value).toArray } }:=I.kept (t':=s.toks) λb u e=>get?_push_of_some _ e;have Bz:(s.heap.push { cls:=.type "list",data:=.seq ([]:List Value).toArray }).get? s.heap.objs.size=some { cls:=.type "list",data:=.seq ([]:List Value).toArray }:=get?_push_size _ rfl;have k1:∀b u,s.heap.get? b=some u->(s.heap.push { cls:=.type "list",data:=.seq ([]:List Value).toArray }).get? b=some u:=λb u e=>get?_push_of_some _ e;have z1:(s.heap.push { cls:=.type "list",data:=.seq ([]:List Value).toArray }).objs.size=s.heap.objs.size+1:=size_push ..;show wpAny (model X.prog X.w) A.in1 (again (.builtin "list.__iadd__" ⟨[.ref s.heap.objs.size,.ref z],[]⟩)) _ _ { s with heap:=s.heap.push { cls:=.type "list",data:=.seq ([]:List Value).toArray } };generalize s.heap.push { cls:=.type "list",data:=.seq ([]:List Value).toArray }=h1 at I1 Bz k1 z1;refine wpAny_pure ⟨plainId_quiet F.plain_list_iadd _,codeAny_builtin F.entry_list_iadd ?_⟩;rw[Around.under_plainId F.plain_list_iadd _];show wpAny (model X.prog X.w) A.in1 (Builtin.List.listExtendWith (.ref s.heap.objs.size) (.ref z) (.ref s.heap.objs.size)) _ _ _;unfold Builtin.List.listExtendWith;have tz:Shared.TypeIs { s with heap:=h1 } (.ref z) "zip":=⟨_,k1 _ _ hz,rfl⟩;refine wpAny_bind (wpAny_typeOf tz ?_);have e1:Builtin.List.listSameRef (.ref s.heap.objs.size) (.ref z)=false:=by simp[Builtin.List.listSameRef,Vg]
 have e2:(Value.type "zip" == Value.type "list")=false:=by decide
 have e3:(Value.type "zip" == Value.type "tuple")=false:=by decide
 simp only[e1,e2,e3,Bool.or_false,if_false,Bool.false_eq_true];refine wpAny_bind (wpAny_pyIter_zip (k1 _ _ hz) ?_);refine wpAny_bind (wpAny_holding ?_);unfold Builtin.List.listLengthHint;refine wpAny_bind (wpAny_specialOf tz tS ?_);show wpAny (model X.prog X.w) A.in1 (specialOf (Value.ref z) (Str.ofString "__length_hint__") >>= _) _ _ _;refine wpAny_bind (wpAny_specialOf tz pR (wpAny_pure ?_));show wpAny (model X.prog X.w) A.in1 (rule "list.extend.makes-room" >>= λ_=>Builtin.List.listTouch (.ref s.heap.objs.size) >>= λ_=>again (.builtin "list.extend.loop" ⟨[.ref s.heap.objs.size,.ref z,.ref s.heap.objs.size],[]⟩)) _ _ _;refine wpAny_bind (wpAny_rule (wpAny_bind ?_));show wpAny (model X.prog X.w) A.in1 (updateSeq s.heap.objs.size (·.push .none) >>= λ_=>updateSeq s.heap.objs.size (·.pop)) _ _ _;refine wpAny_bind (wpAny_updateSeq Bz rfl ?_);have DB:=Heap.get?_update_self (Obj.mapSeq (·.push Value.none)) Bz rfl;refine wpAny_updateSeq DB rfl ?_;have Vh:=Heap.get?_update_self (Obj.mapSeq (·.pop)) DB rfl;have I3:=(I1.swap (f:=Obj.mapSeq (·.push Value.none)) oS).swap (f:=Obj.mapSeq (·.pop)) oS;have k3:∀b u,b≠s.heap.objs.size->s.heap.get? b=some u->((h1.update s.heap.objs.size (Obj.mapSeq (·.push Value.none))).update s.heap.objs.size (Obj.mapSeq (·.pop))).get? b=some u :=
  λb u hb e=>(get?_update_other _ _ (Ne.symm hb)).trans ((get?_update_other _ _ (Ne.symm hb)).trans (k1 b u e))
 have z3:((h1.update s.heap.objs.size (Obj.mapSeq (·.push Value.none))).update s.heap.objs.size (Obj.mapSeq (·.pop))).objs.size=s.heap.objs.size+1:=by rw[size_update,size_update,z1]
 have kk:∀b u,s.heap.get? b=some u->((h1.update s.heap.objs.size (Obj.mapSeq (·.push Value.none))).update s.heap.objs.size (Obj.mapSeq (·.pop))).get? b=some u:=λb u e=>k3 b u (ne_of_lt (lt e)) e;obtain⟨a1,a2,a3,a4,a5,a6⟩:=st;refine wpAny_pure ⟨plainId_quiet F.plain_extend_loop _,pQ (S:=s.heap.objs.size) (xs:=xs) (ys:=ys) (xv:=xv) (yv:=yv) hh D (λm=>lt_irrefl _ (o _ m).2) ⟨ne_of_gt (lt a1),?_,?_⟩ rx ry hl hn _ 0 _ H [] _ rfl (zero_le _) h0 I3 (λc hc=>⟨(o c hc).1,?_⟩) oS ?_ ⟨kk _ _ a1,a2.at λu e=>kk _ u e,a3.at λu e=>kk _ u e,a4.at λu e=>kk _ u e,a5.at λu e=>kk _ u e,?_⟩ Vh rfl .nil λs' H' ts J1 J2 J3 J4 J5=>?_⟩
 ·obtain⟨u,hu,_⟩:=a4;exact ne_of_gt (lt hu)
 ·obtain⟨u,hu,_⟩:=a5;exact ne_of_gt (lt hu)
 ·show c<Array.size _;rw[z3];exact lt_succ_of_lt (o c hc).2
 ·show s.heap.objs.size<Array.size _;rw[z3];exact lt_succ_self _
 ·rcases a6 with⟨_,b1,a,b,b2⟩|⟨w,_⟩
  ·exact .inl ⟨rfl,kk _ _ b1,a,b,kk _ _ b2⟩
  ·omega
 ·obtain⟨c,J5⟩:=J5;show wpAny (model X.prog X.w) A (load s.heap.objs.size >>= _) _ _ s';refine wpAny_bind (wpAny_load J5 (wpAny_pure ?_));exact q s' H' ts J1 J2 J3
end
section
variable {X:Cx}{pins:List (Addr×Obj)}{σ:St}{H:Hp}{s:Shared}{A:Around}{E:Value->Shared->Prop}{z TI TO i1 i2 l1 l2 q:Addr}{xs ys:List Value}{xv yv:List V}{kz:List Int}
theorem Inv.An{T:Addr}{v:HO}(I:Inv X pins σ H s)(o:Own X pins H T)(new:aX X.prog X.w (upd H T v) s.heap T v):Inv X pins σ (upd H T v) s:=by
 have hf:=o.free;have up:∀b u,H b=some u->upd H T v b=some u:=λb u e=>by rw[zh (zj e hf)];exact e
 refine I.step (h':=s.heap) (g':=s.gens) (d':=s.drawn) (t':=s.toks) (ch:=[T]) (λb hb=>?_) (λb u _ _ hc e _=>e) (λb u _ _ hc e _=>⟨u.slots,e⟩)
  (λb u hc e n=>by rw[zh (λw=>hc (by simp[w]))];exact n) (λb u hc e=>⟨u,e⟩) (λb _ e=>up b _ e) (λb _ _ e=>up b _ e) (λb ps e=>⟨#[],by rw[up b _ e];simp⟩) (λm hm=>hm) (λb u e=>?_) I.bare
 ·rw[List.mem_singleton.mp hb];exact⟨.inr o.new,o.loc,o.cell,o.pin⟩
 ·by_cases hb:b=T
  ·subst hb;rw[zc]at e;cases e;exact new
  ·rw[zh hb]at e;exact(I.aC b u e).bQ (λc w hc k=>k) (λc k=>up c _ k) λc _ k=>up c _ k
theorem gK.length{ts:List Addr}{ps:List (V×V)}(h:gK H ts ps):ts.length=ps.length:=by
 induction h with
 | nil=>rfl
 | cons _ _ ih=>rw[length_cons,length_cons,ih]
theorem iW{Q:Value->Shared->Prop}(hh:A.in1.in1.handled=none)(D:ZipApart z TI TO i1 i2 l1 l2)(rx:Vals xv xs)(ry:Vals yv ys)(hl:xv.length=yv.length)(hn:xv.length<64)(h0:0<xv.length)(hk:kz.length=xv.length)
 (I:Inv X pins σ H s) (o:∀c ∈ [z,TO,i1,i2],Own X pins H c/\c<s.heap.objs.size) (st:rT z TI TO i1 i2 l1 l2 xs.toArray ys.toArray 0 s)
 (calls:∀(H':Hp)(ts:List Addr),ae H H'->gK H' ts (xv.zip yv)->∀(i:Nat)(v:Value)(pins':List (Addr×Obj)) (s':Shared),(ts.map Value.ref)[i]? = some v->Inv X pins' σ H' s' ->
   wpAny (model X.prog X.w) A.in1.in1 (call (.ref q) [v]) (λk fK=>Inv X pins' σ H' fK/\∃t,k=Value.int (kz.getD i 0) t) (λ_ _=>False) s')
 (fin:∀(s':Shared)(H':Hp)(ts:List Addr)(l:Addr)(p:Array Nat),ae H H'->gK H' ts (xv.zip yv)->H' l=none->M14.I (λk=>kz.getD k 0) xv.length p xv.length->Inv X pins σ (upd H' l (.lst (p.toList.map λi=>V.ref (ts.getD i 0)))) s'->Q (.ref l) s') :
 wpAny (model X.prog X.w) A (call (.builtin "sorted") [.ref z] [(Str.ofString "key",.ref q)]) Q E s:=by
 have cj:=zt;refine call_function_entry_kw kind_sorted plain_sorted entry_sorted (ksk_s1 _ _) ?_;unfold Builtin.«sorted»;refine wpAny_bind (m:=checkCount "sorted" 1 1 _) (wpAny_pure ?_);refine wpAny_bind (Vf hh D rx ry hl hn h0 I o st λs1 H1 ts I1 sm pr=>?_);have lt:ts.length=xv.length:=by rw[pr.length,length_zip];omega
 refine wpAny_bind (wpAny_newList ?_ (by rw[length_map];omega));have I2:Inv X pins σ H1 { s1 with heap:=s1.heap.push (seqObj "list" (ts.map Value.ref).toArray 0) }:=I1.kept (t':=s1.toks) λb u e=>get?_push_of_some _ e;have hD:(s1.heap.push (seqObj "list" (ts.map Value.ref).toArray 0)).get? s1.heap.objs.size=some (seqObj "list" (ts.map Value.ref).toArray 0):=get?_push_size _ rfl;have oD:=I1.own (b:=s1.heap.objs.size) (le_refl _);refine wpAny_bind (wpAny_holding (wpAny_call_entry_kw slot_list_sort ⟨_,hD,rfl⟩ entry_list_sort ?body (ksk_l1 _ _)))
 case body =>
  show wpAny (model X.prog X.w) A.in1.in1 (Builtin.«list.sort» ⟨[.ref s1.heap.objs.size],[(Str.ofString "key",.ref q)]⟩) _ _ _;rw[ksk_t1];refine wpAny_mono (keyed (f:=.ref q) (kz:=kz) (vs:=ts.map Value.ref) I2 oD hD (by rw[length_map];omega) (by rw[length_map];omega) (by rw[length_map];omega) (calls H1 ts sm pr)) (λr s2 w=>?_) λ_ _ w=>w;obtain⟨rfl,p,e,hp,I3,h3⟩:=w;rw[length_map,lt]at hp;refine⟨_,rfl,wpAny_pure ⟨_,rfl,?_⟩⟩;refine fin s2 H1 ts _ p sm pr oD.free hp (I3.An oD ⟨?_,p.toList.map λi=>(ts.map Value.ref).getD i Value.none,e,?_,h3⟩)
  ·rw[length_map,Array.length_toList,hp.1.size];omega
  ·have hm:∀i∈p.toList,i<ts.length:=λi hi=>by
    have:=(hp.1.pm.toList.mem_iff (a:=i)).mp hi;rw[lt]
    simpa using this
   revert hm;generalize p.toList=l;intro hm
   induction l with
   | nil=>exact .nil
   | cons a l ih =>
     have ha:=hm a (mem_cons_self ..);refine .cons ?_ (ih λi hi=>hm i (mem_cons_of_mem _ hi));have e:(ts.map Value.ref).getD a Value.none=Value.ref (ts.getD a 0):=by simp[ha]
     show RelV (V.ref (ts.getD a 0)) ((ts.map Value.ref).getD a Value.none);rw[e];rfl
end
section
variable {X:Cx}{pins:List (Addr×Obj)}{σ:St}{H:Hp}{s:Shared}{A:Around}{E:Value->Shared->Prop}{l1 l2:Addr}{xv yv:List V}
theorem pS{Q:Value->Shared->Prop}(I:Inv X pins σ H s)(h1:ag X.K H l1 xv)(h2:ag X.K H l2 yv)
 (q:∀(s':Shared)(z TI TO i1 i2:Addr)(xs ys:List Value),Vals xv xs->Vals yv ys->Inv X pins σ H s'->ZipApart z TI TO i1 i2 l1 l2->(∀c ∈ [z,TO,i1,i2],Own X pins H c/\c<s'.heap.objs.size)->rT z TI TO i1 i2 l1 l2 xs.toArray ys.toArray 0 s'->Q (.ref z) s') :
 wpAny (model X.prog X.w) A (call (.type "zip") [.ref l1,.ref l2]) Q E s:=by
 obtain⟨xs,r1,p1,_⟩:=I.list h1;obtain⟨ys,r2,p2,_⟩:=I.list h2;have b1:=p1.isList;have b2:=p2.isList;have t1:l1<s.heap.objs.size:=by obtain⟨u,hu,_⟩:=b1;exact lt_size hu
 have t2:l2<s.heap.objs.size:=by obtain⟨u,hu,_⟩:=b2;exact lt_size hu
 refine call_zip_2 b1 b2 λh' hz eY rV iA jU hsz hk=>?_;have n:∀(l:Addr)(d:Nat),l<s.heap.objs.size->l≠s.heap.objs.size+d:=λl d h=>ne_of_lt (lt_of_lt_of_le h (le_add_right _ _));have m:∀d e:Nat,d≠e->s.heap.objs.size+d≠s.heap.objs.size+e:=λd e h w=>h (Nat.add_left_cancel w);refine q _ (s.heap.objs.size+4) (s.heap.objs.size+2) (s.heap.objs.size+3) (s.heap.objs.size+0) (s.heap.objs.size+1) xs ys r1 r2 (I.kept (t':=s.toks) hk)
  ⟨m 2 4 (by decide),m 3 4 (by decide),m 0 4 (by decide),m 1 4 (by decide),m 2 3 (by decide),m 2 0 (by decide),m 2 1 (by decide),m 3 0 (by decide),m 3 1 (by decide),m 0 1 (by decide),n _ 4 t1,n _ 3 t1,n _ 0 t1,n _ 1 t1,n _ 4 t2,n _ 3 t2,n _ 0 t2,n _ 1 t2⟩ (λc hc=>?_)
  ⟨eY,iA,jU,b1.at λu e=>hk _ u e,b2.at λu e=>hk _ u e,.inl ⟨rfl,hz,_,_,rV⟩⟩
 have hb:∃d,d<5/\c=s.heap.objs.size+d:=by
  simp only[mem_cons,not_mem_nil,or_false]at hc;rcases hc with w | w | w | w
  ·exact⟨4,by decide,w⟩
  ·exact⟨3,by decide,w⟩
  ·exact⟨0,by decide,w⟩
  ·exact⟨1,by decide,w⟩
 obtain⟨d,hd,rfl⟩:=hb;refine⟨I.own (le_add_right _ _),?_⟩;show s.heap.objs.size+d<Array.size _;rw[hsz];exact Nat.add_lt_add_left hd _
end
end L2
namespace L2
open PySem PySem.W PySem.Spec PyProof.Rows PySem.Calls
def tT(mg:Str->Option Value)(h:Heap):Prop:=∃bm ob,mg "__builtins__"=some (.ref bm)/\bm≠builtinsNs/\h.get? bm=some ob/\ob.cls=.type "module"/\ob.dict=some builtinsNs/\ob.data=.plain
abbrev pT(f:Addr)(o:Obj):HO:=.ext λh=>h.get? f=some o
abbrev mW(c:Addr)(q:Str):HO:=.ext λh=>h.CodeRec (.ref c) q
def aG(H H':Hp):Prop:=(∀b u,H b=some u->(∀ps,u ≠ .bW ps)->H' b=some u)/\∀b ps,H b=some (.bW ps)->∃qs,H' b=some (.bW qs)
variable {H H':Hp}
theorem ae.toN(s:ae H H'):aG H H':=⟨λb u e _=>s b u e,λb ps e=>⟨ps,s b _ e⟩⟩
theorem aG.trans{H1 H2:Hp}(a:aG H H1)(b:aG H1 H2):aG H H2:=⟨λc u e n=>b.1 c u (a.1 c u e n) n,λc ps e=>let ⟨qs,e1⟩:=a.2 c ps e;b.2 c qs e1⟩
theorem aG.free{l:Addr}(s:aG H H')(h:H' l=none):H l=none:=by
 cases e:H l with
 | none=>rfl
 | some u =>
   by_cases hu:∃ps,u=.bW ps
   ·obtain⟨ps,rfl⟩:=hu;obtain⟨qs,e1⟩:=s.2 l ps e;rw[h]at e1;cases e1
   ·have e1:=s.1 l u e λps z=>hu ⟨ps,z⟩;rw[h]at e1;cases e1
def lG(H:Hp):Hp:=λb=>match H b with
 | some (.bW _)=>none
 | x=>x
theorem pU{b:Addr}{u:HO}(e:H b=some u)(n:∀ps,u ≠ .bW ps):lG H b=some u:=by
 unfold lG;rw[e];cases u <;> first | rfl | exact absurd rfl (n _)
theorem Ao{b:Addr}{u:HO}(e:lG H b=some u):H b=some u/\∀ps,u ≠ .bW ps:=by
 unfold lG at e;split at e
 ·cases e
 ·rename_i z;refine⟨e,λps w=>?_⟩;subst w;exact z ps e
theorem aG.same(s:aG H H'):ae (lG H) H':=λb u e=>let ⟨h,n⟩:=Ao e;s.1 b u h n
variable {K:Frag}
theorem ag.lG{a:Addr}{xs:List V}(h:ag K H a xs):ag K (L2.lG H) a xs:=by
 rcases h with(h | ⟨o,h⟩) | h
 ·exact .inl (.inl (pU h λ_ z=>by cases z))
 ·exact .inl (.inr ⟨o,pU h λ_ z=>by cases z⟩)
 ·exact .inr h
section
variable {X:Cx}{pins:List (Addr×Obj)}{σ:St}{H:Hp}{s:Shared}{E:Value->Shared->Prop}
theorem Inv.lam{P c':Addr}{ps more:Array Value}{h':Heap}{fo:Obj}{q:Str}{tk:Nat}(I:Inv X pins σ H s)(eE:fo.isFreed=false)(hP:H P=some (.bW ps))(hx:Heap.ExtBut P s.heap h')(hc:s.heap.objs.size<=c')(bI:c'<h'.objs.size)
 (di:h'.CodeRec (.ref c') q) (ht:h'.get? P=some (tabObj (ps++more))) :
 Inv X pins σ (upd (upd (upd H P (.bW (ps++more))) c' (mW c' q)) h'.objs.size (pT h'.objs.size fo)) { s with heap:=h'.push fo,toks:=tk }:=by
 have DC:P<s.heap.objs.size:=I.aC.lt hP;have KP:P≠c':=ne_of_lt (lt_of_lt_of_le DC hc);have KQ:c'≠h'.objs.size:=ne_of_lt bI;have KR:P≠h'.objs.size:=ne_of_lt (lt_trans (lt_of_lt_of_le DC hc) bI);have old:∀b,b<s.heap.objs.size->b≠P->upd (upd (upd H P (.bW (ps++more))) c' (mW c' q)) h'.objs.size (pT h'.objs.size fo) b=H b:=λb hb n=>by
  rw[zh (ne_of_lt (lt_trans (lt_of_lt_of_le hb hc) bI)),zh (ne_of_lt (lt_of_lt_of_le hb hc)),zh n]
 have DD:upd (upd (upd H P (.bW (ps++more))) c' (mW c' q)) h'.objs.size (pT h'.objs.size fo) P=some (.bW (ps++more)):=by rw[zh KR,zh KP,zc]
 have k:∀b u,b≠P->s.heap.get? b=some u->(h'.push fo).get? b=some u:=λb u n e=>get?_push_of_some _ (hx b u n e);have nP:∀b u,H b=some u->(∀w,u ≠ .bW w)->b≠P:=λb u e n z=>by rw[z,hP]at e;cases e;exact n _ rfl
 have jY:∀b u,H b=some u->(∀w,u ≠ .bW w)->upd (upd (upd H P (.bW (ps++more))) c' (mW c' q)) h'.objs.size (pT h'.objs.size fo) b=some u:=λb u e n=>by
  rw[old b (I.aC.lt e) (nP b u e n)];exact e
 refine I.step (g':=s.gens) (d':=s.drawn) (ch:=[]) (λ_ z=>nomatch z) (λb o _ _ _ e n=>k b o (λz=>by rw[z,hP]at n;cases n) e) (λb o _ _ _ e n=>⟨o.slots,k b o (λz=>by rw[z,hP]at n;cases n) e⟩)
  (λb o _ e n=>by rw[old b (lt_size e) (λz=>by rw[z,hP]at n;cases n)];exact n) (λb o _ e=>?_) (λb xs e=>jY b _ e λ_ z=>by cases z) (λb o u e=>jY b _ e λ_ z=>by cases z) (λb w e=>?_) (λm hm=>?_) (λb u e=>?_) I.bare
 ·by_cases hb:b=P
  ·subst hb;exact⟨_,get?_push_of_some _ ht⟩
  ·exact⟨o,k b o hb e⟩
 ·by_cases hb:b=P
  ·subst hb;rw[hP]at e;cases e;exact⟨more,DD⟩
  ·exact⟨#[],by rw[old b (I.aC.lt e) hb,e];simp⟩
 ·have nL:X.env.locals≠P:=λz=>by have:=I.free;rw[z,hP]at this;cases this
  obtain⟨o,es,ep,ho,r⟩:=hm;exact⟨o,es,ep,k _ o nL ho,r⟩
 ·by_cases hf:b=h'.objs.size
  ·subst hf;rw[zc]at e;cases e;exact⟨get?_push_size _ eE,⟨fo,get?_push_size _ eE⟩,λh1 h2 a b=>b _ a⟩
  ·by_cases jC:b=c'
   ·subst jC;rw[zh KQ,zc]at e;cases e;obtain⟨c,oc,vs,t,e1,e2,e3,e4⟩:=di;cases e1;exact⟨⟨b,oc,vs,t,rfl,get?_push_of_some _ e2,e3,e4⟩,⟨oc,get?_push_of_some _ e2⟩,λh1 h2 ⟨c,oc,vs,t,e1,e2,e3⟩ q=>by cases e1;exact⟨b,oc,vs,t,rfl,q _ e2,e3⟩⟩
   ·by_cases hb:b=P
    ·subst hb;rw[DD]at e;cases e;exact get?_push_of_some _ ht
    ·rw[zh hf,zh jC,zh hb]at e;refine(I.aC b u e).bQ (λc v hc q=>k c v ?_ q) (λc w=>jY c _ w λ_ z=>by cases z) λc xs w=>jY c _ w λ_ z=>by cases z
     rcases hc with rfl | hc
     ·exact hb
     ·exact nP c _ hc λ_ z=>by cases z
end
variable {P:Program}{w:World}{mg:Str->Option Value}{k:Nat}
theorem Ap{base:Heap}{f c':Addr}{name qual:Str}{params:Arguments}{body:Expr}{scope:Scope}{pm gi:Value}{N ps:List Str}{sp:Sp}(S:ah N ps scope)
 (len:∀vs H Q E,sp vs H Q E->vs.length=ps.length)
 (has:∀vs H Q E,sp vs H Q E->H f=some (pT f (kla_obj name qual params body scope [] pm c' gi))/\H c'=some (mW c' qual))
 (dn:∀(A:Around)(outer:List Env)(s:Shared)(H:Hp)(vs:List V)(Q:VK)(E:XK),aU k (A.deeper (envOfC qual scope s.heap.objs.size f (.ref c')))->sp vs H Q E ->
   ∃t,PE (eR aQ P w K mg base N qual scope f (.ref c') A outer s H E) body t/\t (iw N vs) H Q) :
 av P w K mg base aQ (k+1) f (kla_fn name qual params body scope [] pm (.ref c') gi) ps sp:=by
 refine⟨len,λA outer s H args us vs Q E hr e0 hb r fX=>?_⟩;have hl:=len _ _ _ _ fX;obtain⟨a1,a2⟩:=has _ _ _ _ fX;obtain⟨o1,_⟩:=e0.aC f _ a1;obtain⟨o2,_⟩:=e0.aC c' _ a2;have lim:s.heap.NoLimit:=e0.mod.nolimit.keeps λb o e=>(e0.bs b o e).1;have oo:∀y∈ps.zip us,scope.names.lookup y.1=some .local\/(scope.names.lookup y.1=some .cell/\((cellsFrom (s.heap.objs.size+1) scope.names []).lookup y.1).isSome=true):=λ⟨n,v⟩ hy=>by
  rcases S.par n (of_mem_zip hy).1 with q | q
  ·exact .inl q
  ·exact .inr ⟨q,cellsFrom_some _ _ _ (.inl q)⟩
 refine kla_callFunE hr.depth o1 rfl S.co S.gen rfl o2 (hb _ _ _ _ ?_);refine wpAny_newFunctionEnv_cells S.kind oo λenv he s1 x=>?_;subst he;refine⟨lim.keeps x.toInCall.keep,kla_codeExpr ?_⟩;obtain⟨t,ht,hq⟩:=dn A outer s H vs Q E (hr.deeper _) fX;have I:Inv (eR aQ P w K mg base N qual scope f (.ref c') A outer s H E) [] (iw N vs) H s1:=PV S hr.hd e0 hl r x;refine wpAny_mono (ht [] s1 (iw N vs) H _ I hq) (λu s' hs=>?_) λe s' hs=>hs;obtain⟨v,H',J,rv,q⟩:=hs;exact⟨v,H',J.os,J.bare,J.base,J.aC,rv,q⟩
def Aq(f c':Addr)(o:Obj)(q:Str):Sp:=λvs H Q _=>H f=some (pT f o)/\H c'=some (mW c' q)/\∃(t:Addr)(x y:V),vs=[.ref t]/\H t=some (.tup [x,y])/\Q x H
theorem gK.get:∀{ts:List Addr}{ps:List (V×V)},gK H ts ps->∀(i:Nat)(t:Addr),ts[i]? = some t->∃p,ps[i]? = some p/\H t=some (.tup [p.1,p.2])
 | _,_,.nil,i,t,e=>by simp at e
 | _,_,.cons h r,0,t,e=>by
   simp at e;subst e;exact⟨_,rfl,h⟩
 | _,_,.cons h r,i+1,t,e=>by
   obtain⟨p,e1,e2⟩:=gK.get r i t (by simpa using e);exact⟨p,by simpa using e1,e2⟩
section
variable {X:Cx}{ex ey:Expr}{t:TA}{c P:Addr}{y:Str}{p1 p2 p3 p4 p5 pos fM DE kp:Pos}{j:Nat}{params:Arguments}{scope:Scope}
end
def wQ(K:Frag)(x:Str):Addr:=match tabIn K x with
 | some (_,P)=>P
 | none=>0
structure KS (K:Frag) (x:Str) (f:Addr):Prop where
 ex:∃c,codeHdIn K c (wQ K x)=true/\∃(oc:Value)(od:Option Addr)(fd:FuncData)(gI:Array (Option Value)),K.lookup f=some ⟨oc,od,.func fd,gI⟩/\fd.code=.ref c
def tU(K:Frag)(x:Str):Prop:=(∃c,tabIn K x=some (c,wQ K x))/\K.lookup (wQ K x)=none
variable {x:Str}{fd:FuncData}
theorem Ar{f c P:Addr}{oc o1:Value}{od d1:Option Addr}{gI s1:Array (Option Value)}{vs:Array Value}(a:nsIn K mainGlobals x=some (some (.ref f)))(l:K.lookup f=some ⟨oc,od,.func fd,gI⟩)(e:fd.code=.ref c)
 (lk:K.lookup c=some ⟨o1,d1,.fields vs,s1⟩) (lv:vs[11]? = some (.ref P)) (lh:codeHdIn K c P=true) (ln:K.lookup P=none):KS K x f/\tU K x:=by
 have ht:tabIn K x=some (c,P):=by
  unfold tabIn;rw[a];dsimp only;rw[l];dsimp only;rw[e];dsimp only;rw[lk];dsimp only;rw[lv]
 have hp:wQ K x=P:=by unfold wQ;rw[ht]
 exact⟨⟨c,by rw[hp];exact lh,oc,od,fd,gI,l,e⟩,⟨c,by rw[hp];exact ht⟩,by rw[hp];exact ln⟩
section
variable {P:Program}{w:World}{K:Frag}{mg:Str->Option Value}{base:Heap}
theorem aN.Vi{x qual y:Str}{st:Stmt}{f:Addr}{fd:FuncData}{N ps:List Str}{k:Nat}{sp:Sp}(F:aN K x qual st f fd)(L:KS K y f)(S:ah N ps (zf st))(len:∀vs H Q E,sp vs H Q E->vs.length=ps.length)
 (dn:∀(c:Addr)(A:Around)(outer:List Env)(s:Shared)(H:Hp)(vs:List V)(Q:VK)(E:XK),codeHdIn K c (wQ K y)=true->aU k (A.deeper (envOfC qual (zf st) s.heap.objs.size f (.ref c)))->sp vs H Q E ->
   ∃t,iu (eR aQ P w K mg base N qual (zf st) f (.ref c) A outer s H E).Bj (wu st) t/\t { nx:=λ_ H'=>Q .bo H',rt:=Q } (iw N vs) H):av P w K mg base aQ (k+1) f fd ps sp:=by
 obtain⟨oc,od,kV,doc,pm,an,aE,ct,gI,rfl,lk,di⟩:=F.ex;obtain⟨c,hc,oc',od',fd',Vj,QI,e⟩:=L.ex;rw[lk]at QI;cases QI;have e:aE=.ref c:=e;subst e;refine om lk di S len λA outer s H vs Q E hr fX=>?_;obtain⟨t,h,q⟩:=dn c A outer s H vs Q E hc hr fX;exact⟨t,h.Bj,q⟩
end
theorem lH{mb:Str->Option Value}{CX:mR}{fa a c T:Addr}{sp:Sp}{s₁:Shared}{vs:List Value}{ns:List Int}
 (KX:K.In s₁.heap) (Bx:s₁.heap.Ns mainGlobals mg) (hb:s₁.heap.Ns builtinsNs mb) (Vk:∀x:Str,x≠"__name__"->mb x=bootBuiltins x) (KU:s₁.heap.NoLimit) (Vl:tT mg s₁.heap) (hg:s₁.gens = #[])
 (hC:CodeHd s₁.heap c T) (hT:s₁.heap.get? T=some (tabObj #[])) (KW:K.lookup T=none)
 (ha:s₁.heap.get? a=some { cls:=.type "list",data:=.seq vs.toArray }) (hi:IntsAre vs ns) (hl:ns.length<=sizeLine) (hr:aU k callerA)
 (F:∀base:Heap,K.In base->base.Ns mainGlobals mg->tT mg base->av P w K mg base CX k fa fd [x] sp) (pV:∀(s:Shared)(u:Value),BindsTo s fd ⟨[u],[]⟩ [(x,u)])
 (fX:∀H:Hp,H T=some (.bW #[])->ag K H a (ns.map V.int)->sp [.ref a] H (λv _=>v=.bl true) λ_ _ _=>False)
 (KY:∀H e s',CX [] H s₁ (λ_ _ _=>False) e s'->False) :
 codeAny (model P w) callerA (.call (.ref fa) ⟨[.ref a],[]⟩) (λr s'=>r=.ok (.ret (.bool true))/\OldK s₁.heap s'.heap/\s'.os=s₁.os/\AllBare s'.gens) s₁:=by
 have rv:=P1 hi;have KZ:=hi.length;have QJ:a≠T:=λz=>by rw[z,hT]at ha;cases ha
 have core:∀H:Hp,(∀b,b≠T->H b=none\/∃o xs,H b=some (.kD o (.lst xs)))->H T=some (.bW #[])->ag K H a (ns.map V.int)->cE P w H s₁.heap->(∀b,H b≠none->b=a\/b=T)->(H a≠none->K.lookup a=none) ->
  codeAny (model P w) callerA (.call (.ref fa) ⟨[.ref a],[]⟩) (λr s'=>r=.ok (.ret (.bool true))/\OldK s₁.heap s'.heap/\s'.os=s₁.os/\AllBare s'.gens) s₁:=by
  intro H hO QK hS aC hA hK;have gj:∀{b:Addr}{o:Obj},s₁.heap.get? b=some o->H b=none->(rE s₁.heap H).get? b=some o:=λe n=>ny e n;have CB:∀{b:Addr}{o:Obj},s₁.heap.get? b=some o->o.cls ≠ .type "list"->o.cls ≠ .none->H b=none:=λ{b o} e d d2=>by
   cases q:H b with
   | none=>rfl
   | some u =>
     rcases hA b (by rw[q];simp)with e' | e'
     ·subst e';rw[ha]at e;cases e;exact absurd rfl d
     ·subst e';rw[hT]at e;cases e;exact absurd rfl d2
  have Vm:∀{b:Addr}{o:Obj}{es:Array DictEntry}{ep:Nat},s₁.heap.get? b=some o->o.data=.dict es ep->H b=none:=λ{b o es ep} e d=>by
   cases q:H b with
   | none=>rfl
   | some u =>
     rcases hA b (by rw[q];simp)with e' | e'
     ·subst e';rw[ha]at e;cases e;have d':Data.seq vs.toArray _=Data.dict es ep:=d;cases d'
     ·subst e';rw[hT]at e;cases e;have d':Data.fields #[]=Data.dict es ep:=d;cases d'
  have F9:∀{b:Addr}{m:Str->Option Value},s₁.heap.Ns b m->(rE s₁.heap H).Ns b m:=λ{b m} ⟨o,es,ep,e,d,r⟩=>⟨o,es,ep,gj e (Vm e d),d,r⟩;have QL:K.In (rE s₁.heap H):=λb o e=>gj (KX b o e) (by
   cases q:H b with
   | none=>rfl
   | some u =>
     rcases hA b (by rw[q];simp)with e' | e'
     ·subst e';rw[hK (by rw[q];simp)]at e;cases e
     ·subst e';rw[KW]at e;cases e)
  have hM:Mod K mg (rE s₁.heap H):=⟨QL,F9 Bx,⟨mb,F9 hb,Vk⟩,let ⟨mc,h1,h2⟩:=KU;⟨mc,F9 h1,h2⟩⟩;have Vn:tT mg (rE s₁.heap H):=let ⟨bm,ob,b1,b2,b3,b4,r⟩:=Vl;⟨bm,ob,b1,b2,gj b3 (CB b3 (by rw[b4];decide) (by rw[b4];intro z;cases z)),b4,r⟩;have e0:fJ P w K mg (rE s₁.heap H) callerA [] s₁ H:=⟨rfl,hM,λb o e=>sF e,le_of_eq (kE _ _),trivial,λb hb=>absurd (show b∈([]:List Addr)from hb) (by simp),aC,.of_eq hg⟩;refine codeAny_mono ((F _ QL (F9 Bx) Vn).run callerA [] s₁ H ⟨[.ref a],[]⟩ [.ref a] [.ref a] _ _ hr e0 (pV s₁ (.ref a)) (.cons rfl .nil) (fX H QK hS)) λr s' h=>?_;cases r with
  | error e=>exact(KY H e s' h).elim
  | ok fl =>
    cases fl with
    | next=>exact False.elim h
    | brk=>exact False.elim h
    | cont=>exact False.elim h
    | ret u =>
      obtain⟨v,H',os,bare,un,h9,r',q⟩:=h;have q':v=.bl true:=q;subst q';obtain rfl:u=Value.bool true:=r';obtain⟨more,eT⟩:=un.bM T #[] QK;have QM:s'.heap.get? T=some (tabObj (#[]++more)):=h9 T _ eT;have kept:∀b o,b≠T->s₁.heap.get? b=some o->s'.heap.get? b=some o:=λb o n e=>by
       cases q:H b with
       | none=>exact un.keep b o e q (by intro z;exact absurd (show b∈([]:List Addr)from z) (by simp)) (by simp)
       | some u =>
         rcases hO b n with z | ⟨ob,xs,z⟩
         ·rw[q]at z;cases z
         ·have z2:=un.bB b ob _ z;obtain⟨e1,_⟩:=aC b _ z;obtain⟨e2,_⟩:=h9 b _ z2;rw[e]at e1;cases e1;exact e2
      refine⟨rfl,⟨λb o e=>?_,λb o e=>?_⟩,os,bare⟩
      ·by_cases n:b=T
       ·subst n;rw[hT]at e;cases e;exact .inr (.inl ⟨(hC.tab hT).isCodeTable,rfl,#[],more,rfl,QM⟩)
       ·exact .inl (kept b o n e)
      ·by_cases n:b=T
       ·subst n;exact⟨_,QM⟩
       ·exact⟨o,kept b o n e⟩
 cases hk:K.lookup a with
 | some o =>
   have e:=KX a o hk;rw[ha]at e;cases e;refine core (λb=>if b=T then some (.bW #[])else none) (λb n=>.inl (if_neg n)) (if_pos rfl) (.inr ⟨_,vs.toArray,_,hk,rfl,rfl,rfl,by rw[size_toArray,KZ];exact hl,by simpa using rv⟩) (λb u z=>?_) (λb z=>?_) λz=>absurd (if_neg QJ) z
   ·by_cases hb:b=T
    ·have z':=(if_pos hb).symm.trans z;cases z';subst hb;exact hT
    ·have z':=(if_neg hb).symm.trans z;cases z'
   ·by_cases hb:b=T
    ·exact .inr hb
    ·exact absurd (if_neg hb) z
 | none =>
   refine core (λb=>if b=a then some (.kD { cls:=.type "list",data:=.seq vs.toArray } (.lst (ns.map V.int)))else if b=T then some (.bW #[])else none) (λb n=>?_) ?_ (.inl (.inr ⟨{ cls:=.type "list",data:=.seq vs.toArray },if_pos rfl⟩)) (λb u z=>?_) (λb z=>?_) λ_=>hk
   ·by_cases hb:b=a
    ·exact .inr ⟨_,_,if_pos hb⟩
    ·exact .inl ((if_neg hb).trans (if_neg n))
   ·exact(if_neg (Ne.symm QJ)).trans (if_pos rfl)
   ·by_cases hb:b=a
    ·have z':=(if_pos hb).symm.trans z;cases z';subst hb;exact⟨ha,by rw[length_map];exact hl,vs,_,rv,ha⟩
    ·have z':=(if_neg hb).symm.trans z;by_cases hc:b=T
     ·have z2:=(if_pos hc).symm.trans z';cases z2;subst hc;exact hT
     ·have z2:=(if_neg hc).symm.trans z';cases z2
   ·by_cases hb:b=a
    ·exact .inl hb
    ·by_cases hc:b=T
     ·exact .inr hc
     ·exact absurd ((if_neg hb).trans (if_neg hc)) z
theorem pW{l:PySem.W.OpenLaw}{n:Nat}{q:Program}{loose:List Str}{XP:(Str->Option Value)->Heap->Prop}{YP:World->Heap->Prop}{d:DefRec}{K:Params->Frag}{CX:World->mR}{sp:World->Sp}{y:Str}
 (hn:l.most=some n) (FG:n<=sizeLine) (CK:d.params.defaults=[]) (hr:aU k callerA) (iX:∃dd,(recsOf q).find? (λe=>e.name==y)=some dd)
 (hY:∀(w:World)(h:Heap),YP w h->(K w.params).In h)
 (F:∀(w:World)(mg:Str->Option Value)(fa:Addr)(h:Heap),(K w.params).In h->h.Ns mainGlobals mg->mg d.name=some (.ref fa) ->
   tU (K w.params) y/\∃fd:FuncData,(∀(s:Shared)(u:Value),BindsTo s fd ⟨[u],[]⟩ [(x,u)]) /\
    ∀base:Heap,(K w.params).In base->base.Ns mainGlobals mg->tT mg base->av l.prog w (K w.params) mg base (CX w) k fa fd [x] (sp w))
 (fX:∀(w:World)(H:Hp)(a:Addr)(ns:List Int),ns.length<=n->H (wQ (K w.params) y)=some (.bW #[])->ag (K w.params) H a (ns.map V.int)->sp w [.ref a] H (λv _=>v=.bl true) λ_ _ _=>False)
 (KY:∀(w:World)(H:Hp)(s:Shared)(e:Value)(s':Shared),CX w [] H s (λ_ _ _=>False) e s'->False) :
 PySem.W.WalkO q loose XP YP l.row.toRowW d [] (λf vs=>PySem.call f vs):=by
 refine Att.gY hn CK λw s₀ s₁ mg mb fa o pm cd doc a vs ns G Y ho hd di hmg xV hints hlen hg=>?_;have KX:=hY w _ Y;obtain⟨⟨⟨c,ht⟩,KW⟩,fd,hb,hF⟩:=F w mg fa _ KX G.T.g hmg;obtain⟨dd,iX⟩:=iX;obtain⟨hC,hT⟩:=tab_of G.T KX iX ht;exact lH KX G.T.g G.T.b G.T.builtins G.T.nolimit G.T.bmain hg hC hT KW xV hints (le_trans hlen FG) hr hF hb (λH hO hS=>fX w H a ns hlen hO hS) λH e s'=>KY w H s₁ e s'
structure aH (sc:Scope) (N:List Str) (x x2:Str) (fr:List Str) (ix:List Nat) (scope:Scope):Prop where
 kind:scope.kind=.function
 bY:∀y∈scope.names,y.2 ≠ .cell
 vj:∀y∈scope.names,y.2=.local->scope.names.lookup y.1=some .local
 lx:scope.names.lookup x=some .local
 QN:scope.names.lookup x2=some .local
 free:∀y∈scope.names,y.2=.free->sc.names.lookup y.1=some .cell\/sc.names.lookup y.1=some .free
 at':fr.map some=ix.map λi=>N[i]?
 xW:∀y∈fr,scope.names.lookup y=some .free/\(sc.names.lookup y=some .cell\/sc.names.lookup y=some .free)
 nd:(x::x2::fr).Nodup
section
variable {X:Cx}{pins:List (Addr×Obj)}{σ:St}{H:Hp}{s:Shared}{x x2:Str}{fr:List Str}{ix:List Nat}{scope:Scope}{cl:List (Str×Addr)}{fp:List Addr}{C D:Addr}
theorem tV(S:aH X.env.scope X.N x x2 fr ix scope)(I:Inv X pins σ H s)(hf:∀b∈fp,wT X pins H b)(eE:∀b∈fp,b<s.heap.objs.size)(hC:s.heap.objs.size<=C)
 (h1:∀y c,cl.lookup y=some c->X.env.cells.lookup y=some c) (h2:∀y,(y,NameKind.free)∈scope.names->∃c,cl.lookup y=some c):(bC X (x::x2::fr) scope cl C s H fp).Ok where
 mod:=I.ok.mod
 kind:=S.kind
 glob:=I.ok.glob
 blt:=I.ok.blt
 above:=hC
 inj:=λy z c a b=>I.ok.inj y z c (h1 y c a) (h1 z c b)
 has:=λy hy=>h2 y (P2 (env:=X.env) (scope:=scope) S.bY hy)
 nz:=λy c h _=>Bool.noConfusion (show false=true from h)
 hd:=I.ok.hd
 frames:=I.ok.frames
 rF:=.inl rfl
 jz:=λb hb=>⟨λz=>absurd (eE b hb) (by rw[z];exact Nat.not_lt.mpr hC),λy c e=>(hf b hb).2.2.2.2.1 y c (h1 y c e)⟩
 bs:=I.bs
 fV:=le_trans I.ok.fV I.sz
 dB:=λb o e hb=>by
  rcases (hf b hb).2.2.2.1 with z | z
  ·exact I.ok.dB b o e z
  ·exact absurd (lt_of_lt_of_le (lt_size e) (le_trans I.ok.fV z)) (lt_irrefl _)
 dC:=λb hb z=>by
  rcases List.mem_cons.mp (I.eM b z)with e | e
  ·exact(hf b hb).2.1 e
  ·exact(hf b hb).2.2.1 e
 bX:=I.stack
 jA:=I.cU
theorem aH.len(S:aH X.env.scope X.N x x2 fr ix scope):fr.length=ix.length:=by have:=congrArg List.length S.at';simpa using this
theorem pX{s':Shared}{pn:List (Addr×Obj)}{m:Str->Option Value}(S:aH X.env.scope X.N x x2 fr ix scope)(I:Inv X pins σ H s)(hf:∀b∈fp,wT X pins H b)(eE:∀b∈fp,b<s.heap.objs.size)(hC:s.heap.objs.size<=C)
 (h1:∀y c,cl.lookup y=some c->X.env.cells.lookup y=some c) (h2:∀y,(y,NameKind.free)∈scope.names->∃c,cl.lookup y=some c)
 (ho:s'.os=s.os) (hg:s'.gens=s.gens) (k:∀b o,s.heap.get? b=some o->s'.heap.get? b=some o) (hn:s'.heap.Ns C m)
 (hp:∀p∈pn,s'.heap.get? p.1=some p.2/\s.heap.objs.size<=p.1/\p.1≠C/\∀v,p.2.data ≠ .cell v) :
 Inv (bC X (x::x2::fr) scope cl C s H fp) pn (none::none::cI ix σ) H s':=by
 obtain⟨mX,P4,CN⟩:=I.loc;refine⟨tV S I hf eE hC h1 h2,ho,by rw[hg];exact I.bare,Un.kept k,⟨m,hn,λi y v e1 e2 e3=>?_⟩,λy c e=>?_,I.aC.fresh hC,λy c e=>I.bz y c (h1 y c e),λp rM=>?_,I.aC.kept k,by
  show(none::none::cI ix σ).length=(x::x2::fr).length;simp[JT,S.len]⟩
 ·rcases i with _ | _ | j
  ·cases e2
  ·cases e2
  ·have jK:fr[j]? = some y:=e1;have eF:(cI ix σ)[j]? = some (some v):=e2;obtain⟨f1,f2⟩:=S.xW y (mem_of_getElem? jK);unfold cI at eF;rw[getElem?_map]at eF;cases ei:ix[j]? with
   | none=>rw[ei]at eF;cases eF
   | some i =>
     rw[ei]at eF;have fY:(σ[i]?).join=some v:=Option.some.inj eF;have e4:σ[i]? = some (some v):=by
      cases q:σ[i]? with
      | none=>rw[q]at fY;cases fY
      | some w=>rw[q]at fY;have:w=some v:=fY;rw[this]
     have e5:X.N[i]? = some y:=by
      have:=congrArg (λl=>l[j]?) S.at';simp only[getElem?_map,jK,ei]at this
      simpa using this.symm
     have CO:Be X.env.scope y:=by
      rcases f2 with z | z
      ·exact .inr (.inl z)
      ·exact .inr (.inr z)
     obtain⟨u,r,l⟩:=CN i y v e5 e4 CO;refine⟨u,r,.inr ⟨FO f1,?_⟩⟩;rcases l with⟨z,_⟩|⟨_,c,ec,hc⟩
     ·rcases f2 with q | q
      ·have q':=(show X.env.scope.names.lookup y=some .local from z).symm.trans q;cases q'
      ·have q':=(show X.env.scope.names.lookup y=some .local from z).symm.trans q;cases q'
     ·obtain⟨c',jC⟩:=h2 y (PySem.mem_of_lookup f1);have:c'=c:=by have:=h1 y c' jC;rw[ec]at this;exact(Option.some.inj this).symm
      subst this;refine⟨c',jC,?_⟩;obtain⟨o,dD,hd⟩:=hc;exact⟨o,k _ _ dD,hd⟩
 ·obtain⟨v,o,dD,hd⟩:=I.cell y c (h1 y c e);exact⟨v,o,k _ _ dD,hd⟩
 ·have oE:p∈pn:=by simpa [bC] using rM
  obtain⟨q1,q2,q3,q4⟩:=hp p oE;refine⟨q1,I.aC.fresh q2,q3,λz=>?_,q4⟩;obtain⟨_,o,dD,_⟩:=I.stack.mem z;exact absurd (lt_of_lt_of_le (lt_size dD) q2) (lt_irrefl _)
end
def BA(K:Frag)(J:It)(c:St)(tc:TT)(te:TE)(H1:Hp)(fin:List V->Hp->Prop):Prop :=
 ∃W:Nat->Nat->List V->Hp->Prop,(∃m,W 0 m [] H1)/\∀i m ys H,W i m ys H ->
  (J.stop i H/\ys.length<=sizeLine/\fin ys H) \/
  (J.go i H/\ys.length<sizeLine/\∃N:List V->Hp->Prop,(∀ys' H',N ys' H'->∃m',m'<m/\W (i+1) m' ys' H')/\∀x H',J.xy i H x H'->∃t a b,x=.ref t/\bN K H' t [a,b]/\tc (some a::some b::c) H' λd H2=>if d=true then te (some a::some b::c) H2 λy H3=>N (ys++[y]) H3 else N ys H2)
def pY(K:Frag)(ix:List Nat)(wi:TI)(tc:TT)(te:TE):TE:=λσ H Q=>wi σ H λJ H1=>BA K J (cI ix σ) tc te H1 λys H2=>∀l,H2 l=none->Q (.ref l) (upd H2 l (.lst ys))
section
variable {X:Cx}{x x2:Str}{fr:List Str}{ix:List Nat}{scope:Scope}{elt iter:Expr}{ifs:List Expr}{px rW tp pos:Pos}{tk:Nat}{wi:TI}{tc:TT}{te:TE}
theorem QO{use:Option (Value->Sem Unit)}{Q:Value->Shared->Prop}{pins:List (Addr×Obj)}{s2:Shared}{σ:St}{H2:Hp}{it:Addr}{fp:List Addr}{tn:Nat->Heap->Prop}{J:It}{cl:List (Str×Addr)}(S:aH X.env.scope X.N x x2 fr ix scope)(hc:X.calm=true)
 (iT:∀cl C s2 H2 fp,rN (bC X (x::x2::fr) scope cl C s2 H2 fp) ifs tc) (he:∀cl C s2 H2 fp,PE (bC X (x::x2::fr) scope cl C s2 H2 fp) elt te)
 (h1:∀y c,cl.lookup y=some c->X.env.cells.lookup y=some c) (h2:∀y,(y,NameKind.free)∈scope.names->∃c,cl.lookup y=some c)
 (I2:Inv X pins σ H2 s2) (T:Turn X.prog X.w X.K (.Tuple [.Name x px,.Name x2 rW] tk tp) J fp it tn) (fW:tn 0 s2.heap) (f2:∀b∈fp,wT X pins H2 b) {fin:List V->Hp->Prop} (wc:BA X.K J (cI ix σ) tc te H2 fin)
 (hQ:∀(D C:Addr)(ys:List V)(H':Hp)(s':Shared)(m:Str->Option Value),Inv X pins σ (upd H' D (.lst ys)) s'->H' D=none->s'.heap.Ns C m->D≠C->s2.heap.objs.size<=C->H' C=none->fin ys H' ->
   compPost (model X.prog X.w) X.A X.xe use Q (.ref D) C (.ok .next) s') :
 wpAny (model X.prog X.w) X.A (newList []) (λacc s₃=>wpAny (model X.prog X.w) X.A (newFunctionEnv scope X.env.globals cl [] X.env.qual none .none (some X.env)) (λgZ s₄ =>
  codeAny (model X.prog X.w) X.A (.compStart (.ListComp elt [⟨.Tuple [.Name x px,.Name x2 rW] tk tp,iter,ifs,0⟩] scope pos) 0 (.ref it) acc { gZ with scope:=relabel scope X.env }) (compPost (model X.prog X.w) X.A X.xe use Q acc gZ.locals) s₄) X.xe s₃) X.xe s2:=by
 have eE:∀b∈fp,b<s2.heap.objs.size:=λb hb=>by
  obtain⟨o,e,_⟩:=T.obj 0 _ fW b hb;exact lt_size e
 refine wpAny_newObj_type (wpAny_newFunctionEnv S.bY (by intro y hy;simp at hy) (λh₁ dF eW=>?_) S.kind);dsimp only at dF eW ⊢;generalize oH:s2.heap.push { cls:=.type "list",dict:=none,data:=.seq ([]:List Value).toArray }=dq at dF eW ⊢;have oI:dq.objs.size=s2.heap.objs.size+1:=by rw[<-oH,size_push]
 have dR:s2.heap.objs.size≠dq.objs.size:=by rw[oI];exact ne_of_lt (lt_succ_self _)
 have d7:s2.heap.objs.size<=dq.objs.size:=by rw[oI];exact le_succ _
 have tm:∀b,b<s2.heap.objs.size->b≠dq.objs.size:=λb hb=>by rw[oI];exact ne_of_lt (lt_succ_of_lt hb)
 have old:∀b o,s2.heap.get? b=some o->h₁.get? b=some o:=λb o e=>eW.extBut b o (tm b (lt_size e)) (get?_push_of_some _ (oH ▸ get?_push_of_some _ e));have da:h₁.get? s2.heap.objs.size=some { cls:=.type "list",data:=.seq ([]:List Value).toArray 0 }:=eW.extBut _ _ dR (get?_push_of_some _ (oH ▸ get?_push_size _ rfl));have vk:tn 0 h₁:=T.keep 0 _ _ fW λb _ o e=>old b o e;have oJ:∀b∈fp,b≠s2.heap.objs.size:=λb hb=>ne_of_lt (eE b hb);generalize hD:s2.heap.objs.size=D at da dR oJ ⊢;have g7:s2.heap.objs.size<=D:=le_of_eq hD;generalize hC:dq.objs.size=C at dF eW dR d7 ⊢;have hV:∀b o,s2.heap.get? b=some o->b≠D:=λb o e z=>absurd (lt_size e) (by rw[z,<-hD];exact lt_irrefl _);obtain⟨W,⟨m0,w0⟩,turn⟩:=wc;have loop:∀s₃:Shared,s₃={ s2 with heap:=h₁,toks:=s2.toks+([]:List (Str×Value)).length } ->
  codeAny (model X.prog X.w) X.A (.compLoop (.ListComp elt [⟨.Tuple [.Name x px,.Name x2 rW] tk tp,iter,ifs,0⟩] scope pos) 0 (.ref it) (.ref D) (compEnvC scope cl C X.env))
   (compPost (model X.prog X.w) X.A X.xe use Q (.ref D) C) s₃:=by
  rintro s₃ rfl;have I0:Inv (bC X (x::x2::fr) scope cl C s2 H2 fp) [(D,{ cls:=.type "list",data:=.seq ([]:List Value).toArray 0 })] (none::none::cI ix σ) H2 { s2 with heap:=h₁,toks:=s2.toks+([]:List (Str×Value)).length } :=
   pX S I2 f2 eE d7 h1 h2 rfl rfl old dF (λp hp=>by
    have e:p=(D,{ cls:=.type "list",data:=.seq ([]:List Value).toArray 0 }):=by simpa using hp
    subst e;exact⟨da,g7,dR,λv z=>by cases z⟩)
  have c9:∀{au:Obj}{H':Hp},(∀b∈fp,H' b=none)->∀b∈fp,wT (bC X (x::x2::fr) scope cl C s2 H2 fp) [(D,au)] H' b:=λ{au H'} hn b hb=>by
   refine⟨hn b hb,λz=>?_,λz=>(I0.ok.dC b hb z),.inl hb,λy c e=>(I0.ok.jz b hb).2 y c e,λp hp z=>?_⟩
   ·exact(I0.ok.jz b hb).1 z
   ·have e:p=(D,au):=by simpa [bC] using hp
    subst e;exact oJ b hb (Eq.symm z)
  refine JU (env:=compEnvC scope cl C X.env)
   (λn s'=>∃i ys au k v0 v1 H',Vals ys au/\Inv (bC X (x::x2::fr) scope cl C s2 H2 fp) [(D,{ cls:=.type "list",data:=.seq au.toArray k })] (v0::v1::cI ix σ) H' s'/\tn i s'.heap/\(∀b∈fp,H' b=none)/\W i n ys H') ?_ m0
   ⟨0,[],[],0,none,none,H2,.nil,I0,vk,λb hb=>(f2 b hb).1,w0⟩
  rintro n s3 ⟨i,ys,au,k,v0,v1,H3,rv,I3,kJ,nS,w3⟩;rcases turn i n ys H3 w3 with⟨stop,hz,oK⟩|⟨go,hz,N,hN,step⟩
  ·refine aF (T.done (bC X (x::x2::fr) scope cl C s2 H2 fp) rfl rfl rfl hc i _ s3 _ H3 _ I3 (c9 nS) kJ stop) λr s4 ⟨hr,I4⟩=>?_;subst hr;have pD:=I4.pin (D,{ cls:=.type "list",data:=.seq au.toArray k }) (by simp[bC]);obtain⟨mC,CP,_⟩:=I4.loc;have b9:H3 D=none:=pD.2.1;have h9:cE X.prog X.w (upd H3 D (.lst ys)) s4.heap:=λb u e=>by
    by_cases hb:b=D
    ·subst hb;rw[zc]at e;cases e;exact⟨hz,au,k,rv,pD.1⟩
    ·rw[zh hb]at e;exact(I4.aC b u e).bQ (λc v _ q=>q) (λc q=>by rw[zh (zj q b9)];exact q) λc xs q=>by rw[zh (zj q b9)];exact q
   have b4:Un (cf X.stack) fp H2 H3 s2.heap s4.heap:=I4.base;have un:Un (cf X.stack) fp H2 (upd H3 D (.lst ys)) s2.heap s4.heap :=
    ⟨b4.keep,b4.slot,λb o q n hx=>by
     rw[zh (hV b o q)];exact b4.free b o q n hx,b4.there,λb xs q=>by rw[zh (zj (b4.bH b xs q) b9)];exact b4.bH b xs q,
     λb o u q=>by rw[zh (zj (b4.bB b o u q) b9)];exact b4.bB b o u q,λb ps q=>by
      obtain⟨more,e⟩:=b4.bM b ps q;exact⟨more,by rw[zh (zj e b9)];exact e⟩⟩
   have I5:Inv X pins σ (upd H3 D (.lst ys)) s4:=I2.jD (ch:=fp) I4.os un h9 I4.bare λb hb=>by
    obtain⟨g0,g1,g2,g3,g4,g5⟩:=f2 b hb;exact⟨g3,g1,g4,g5⟩
   exact hQ D C ys H3 s4 mC I5 b9 CP dR d7 I4.free oK
  ·refine aF (T.item (bC X (x::x2::fr) scope cl C s2 H2 fp) rfl rfl rfl hc i _ s3 _ H3 _ I3 (c9 nS) kJ go) λr s4 ⟨u,hr,h4⟩=>?_;subst hr;refine aF h4 λ_ s5 ⟨y,H5,I5,r5,y5,gH,xE⟩=>?_;have xF:=I5.pinned (c9 xE) (T.obj _ _ gH);have pg:PG (bC X (x::x2::fr) scope cl C s2 H2 fp) (.Tuple [.Name x px,.Name x2 rW] tk tp) (Co X.K 2 (nJ (uV 0) (nJ (uV 1) Cn))) :=
    nK hc (FA (zN S.nd rfl (.inl (lookup_relabel_local S.lx)) (.inr (lookup_relabel_local S.lx))) (FA (zN S.nd rfl (.inl (lookup_relabel_local S.QN)) (.inr (lookup_relabel_local S.QN))) jF))
   obtain⟨t5,y1,y2,ey,Vo,q5⟩:=step y _ y5;refine aF (pg _ s5 _ H5 y u (λσ6 H6=>σ6=some y1::some y2::cI ix σ/\H6=H5) xF r5 ⟨t5,_,ey,Vo,rfl,_,_,rfl,_,_,rfl,rfl,rfl,rfl⟩) λ_ s6 ⟨σ6,H6,I6,e6,CQ⟩=>?_;subst e6 CQ;refine aF (iT cl C s2 H2 fp _ s6 _ _ _ I6 q5) λb s7 ⟨H7,I7,q7⟩=>?_;have again:∀{s8:Shared}{H8:Hp}{its':List Value}{k':Nat}{ys':List V},Vals ys' its'->Inv (bC X (x::x2::fr) scope cl C s2 H2 fp) [(D,{ cls:=.type "list",data:=.seq its'.toArray k' })] (some y1::some y2::cI ix σ) H8 s8->(∀b∈fp,∀o,s5.heap.get? b=some o->s8.heap.get? b=some o)->(∀b∈fp,H8 b=none)->N ys' H8 ->
    ∃m,m<n/\∃i ys au k v0 v1 H',Vals ys au/\Inv (bC X (x::x2::fr) scope cl C s2 H2 fp) [(D,{ cls:=.type "list",data:=.seq au.toArray k })] (v0::v1::cI ix σ) H' s8/\tn i s8.heap/\(∀b∈fp,H' b=none)/\W i m ys H' :=
    λ{s8 H8 its' k' ys'} CS I8 kp CT nn=>let ⟨m',hm,w8⟩:=hN ys' H8 nn;⟨m',hm,i+1,ys',its',k',some y1,some y2,H8,CS,I8,T.keep _ _ _ gH kp,CT,w8⟩
   cases b with
   | false =>
     rw[if_neg Bool.false_ne_true]at q7 ⊢;refine again rv I7.bt (λb hb o e=>(I7.pin (b,o) (by simp[bC];exact .inr (yJ hb e))).1) (λb hb=>?_) q7;obtain⟨o,e,d⟩:=T.obj _ _ gH b hb;exact(I7.pin (b,o) (by simp[bC];exact .inr (yJ hb e))).2.1
   | true =>
     rw[if_pos rfl]at q7 ⊢;refine aF (he cl C s2 H2 fp _ s7 _ _ _ I7 q7) λv s8 ⟨z,H8,I8,r8,q8⟩=>?_;have pD:=I8.pin (D,{ cls:=.type "list",data:=.seq au.toArray k }) (by simp[bC]);have P7:ys.length=au.length:=rv.length;refine append_at (hsz:=by show au.toArray.size<=sizeLine;rw[size_toArray];omega) pD.1 λh₉ vm vn=>?_;have eo:({ cls:=.type "list",data:=.seq (au.toArray.push v) (k+1) }:Obj)={ cls:=.type "list",data:=.seq (au++[v]).toArray (k+1) }:=by rw[push_toArray]
     rw[eo]at vn;have vo:∀b∈fp,∀o,s5.heap.get? b=some o->s8.heap.get? b=some o/\H8 b=none:=λb hb o e=>by
      have q:=I8.pin (b,o) (by simp[bC];exact .inr (yJ hb e));exact⟨q.1,q.2.1⟩
     have J8:=I8.bt.bG (pins':=[]) (λp hp=>by cases hp);have dS:wT (bC X (x::x2::fr) scope cl C s2 H2 fp) [] H8 D:=⟨pD.2.1,pD.2.2.1,pD.2.2.2.1,.inr g7,λy c e z=>by
      obtain⟨v,o,ho,_⟩:=I2.cell y c (h1 y c e);exact hV c o ho z,λp hp=>by cases hp⟩
     have I9:Inv (bC X (x::x2::fr) scope cl C s2 H2 fp) [] (some y1::some y2::cI ix σ) H8 { s8 with heap:=h₉ }:=J8.turned (t':=s8.toks) (it:=D) (λb o hb e=>(vm.2 b hb).trans e) dS.1 dS.2.1 dS.2.2.2.1 dS.2.2.2.2.1 dS.2.2.2.2.2;refine again (its':=au++[v]) (k':=k+1) (ys':=ys++[z]) (rv.append (.cons r8 .nil)) (I9.bG λp hp=>?_) (λb hb o e=>(vm.2 b (oJ b hb)).trans (vo b hb o e).1) (λb hb=>?_) q8
     ·have e:p=(D,{ cls:=.type "list",data:=.seq (au++[v]).toArray (k+1) }):=by simpa using hp
      subst e;exact⟨vn,dS.1,dS.2.1,dS.2.2.1,λv z=>by cases z⟩
     ·obtain⟨o,e,d⟩:=T.obj _ _ gH b hb;exact(vo b hb o e).2
 exact codeAny_compStart_list (loop _ rfl) (T.self X.A 0 _ _ _ vk (loop _ rfl))
theorem QP(S:aH X.env.scope X.N x x2 fr ix scope)(hc:X.calm=true)(hi:PI X (.Tuple [.Name x px,.Name x2 rW] tk tp) iter wi)(iT:∀cl C s2 H2 fp,rN (bC X (x::x2::fr) scope cl C s2 H2 fp) ifs tc)(he:∀cl C s2 H2 fp,PE (bC X (x::x2::fr) scope cl C s2 H2 fp) elt te)
 (hs:∀x,foldedSetIterable iter X.env x=pure x:=by intro _;rfl):PE X (.ListComp elt [⟨.Tuple [.Name x px,.Name x2 rW] tk tp,iter,ifs,0⟩] scope pos) (pY X.K ix wi tc te):=by
 intro pins s σ H Q I h;obtain⟨cl,tq,h1,h2⟩:=CL (env:=X.env) (scope:=scope) λy hy hf=>I.ok.has y.1 (S.free y hy hf);rw[eval_ListComp];refine wpAny_comprehension_free (use:=none) rfl hs tq S.kind S.vj (aF (hi pins s σ H _ I h) λxv s1 q1=>aF q1 λxA s2 q2=>?_);obtain⟨it,fp,tn,J,H2,rfl,I2,T,fW,f2,wc⟩:=q2;refine QO S hc iT he h1 h2 I2 T fW f2 wc λD C ys H' s' m I' hD hn dR hC rO fin=>?_;refine⟨m,hn,λh' sb=>⟨.ref D,upd H' D (.lst ys),?_,rfl,fin D hD⟩⟩;have cY:wT X pins (upd H' D (.lst ys)) C:=by
  have z:=I2.eO (H':=upd H' D (.lst ys)) hC (by rw[zh (Ne.symm dR)];exact rO);exact z
 exact I'.turned (t':=s'.toks) (it:=C) (λb o hb e=>(sb.2 b hb).trans e) cY.1 cY.2.1 cY.2.2.2.1 cY.2.2.2.2.1 cY.2.2.2.2.2
theorem K0{i:Nat}{y:Str}{py oM:Pos}(S:aH X.env.scope X.N x x2 fr ix scope)(hc:X.calm=true)(hN:X.N.Nodup)(JV:X.N[i]? = some y)(hy:Loc X.env.scope y)(hi:PI X (.Tuple [.Name x px,.Name x2 rW] tk tp) iter wi)(iT:∀cl C s2 H2 fp,rN (bC X (x::x2::fr) scope cl C s2 H2 fp) ifs tc)(he:∀cl C s2 H2 fp,PE (bC X (x::x2::fr) scope cl C s2 H2 fp) elt te)
 (JW:swapsWith (.ListComp elt [⟨.Tuple [.Name x px,.Name x2 rW] tk tp,iter,ifs,0⟩] scope pos) (some (.Name y py)) oM.line X.env=pure true:=by rfl)
 (hf:X.fn y=true\/X.env.scope.names.lookup y=some .local:=by first | exact .inl rfl | exact .inr rfl | assumption)
 (hs:∀x,foldedSetIterable iter X.env x=pure x:=by intro _;rfl) :
 PS X (.Assign [.Name y py] (.ListComp elt [⟨.Tuple [.Name x px,.Name x2 rW] tk tp,iter,ifs,0⟩] scope pos) oM) (sL (pY X.K ix wi tc te) (uV i)):=by
 intro pins s σ H Dn I h;obtain⟨cl,tq,h1,h2⟩:=CL (env:=X.env) (scope:=scope) λy hy hf=>I.ok.has y.1 (S.free y hy hf);rw[exec_Assign_Name_used _ _ _ _ JW];refine wpAny_bind (wpAny_standAt (wpAny_bind ?_));show wpAny _ X.A (do let _ <-comprehension (.ListComp elt [⟨.Tuple [.Name x px,.Name x2 rW] tk tp,iter,ifs,0⟩] scope pos) scope X.env _ (newList []) false (eval iter X.env) (some (assign (.Name y py) X.env))) _ _ s;refine wpAny_bind (aF (Q:=λ_ s'=>SP X pins Dn .next s') ?_ λ_ s' q=>wpAny_pure (wpAny_pure q));refine wpAny_comprehension_free (use:=some (assign (.Name y py) X.env)) rfl hs tq S.kind S.vj (aF (hi pins s σ H _ I h) λxv s1 q1=>aF q1 λxA s2 q2=>?_);obtain⟨it,fp,tn,J,H2,rfl,I2,T,fW,f2,wc⟩:=q2;refine QO S hc iT he h1 h2 I2 T fW f2 wc λD C ys H' s' m I' hD hn dR hC rO fin=>?_;have cY:wT X pins (upd H' D (.lst ys)) C:=I2.eO (H':=upd H' D (.lst ys)) hC (by rw[zh (Ne.symm dR)];exact rO);show wpAny _ X.A (assign (.Name y py) X.env (.ref D)) _ _ s';refine wpAny_assign_Name (Jh (v:=V.ref D) I' hN JV hy rfl (λfK JX tu=>?_) hf);obtain⟨a,sb,ha⟩:=tu;have JY:C≠a:=λz=>by
  rcases ha with q | q
  ·exact cY.2.1 (z.trans q)
  ·exact cY.2.2.2.2.1 y a q z.symm
 refine⟨m,hn.sameBut sb JY,λh' FP=>⟨_,_,JX.turned (t':=fK.toks) (it:=C) (λb o hb e=>(FP.2 b hb).trans e) cY.1 cY.2.1 cY.2.2.2.1 cY.2.2.2.2.1 cY.2.2.2.2.2,fin D hD⟩⟩
end
section
variable {X:Cx}{pins:List (Addr×Obj)}{σ:St}{H:Hp}{s:Shared}{h':Heap}{t':Nat}{ch:List Addr}
theorem Inv.pZ(I:Inv X pins σ H s)(o:∀c∈ch,wT X pins H c)(k:∀b u,b∉ch->s.heap.get? b=some u->h'.get? b=some u):Inv X pins σ H { s with heap:=h',toks:=t' }:=by
 have jB:∀b u,H b=some u->b∉ch:=λb u e z=>by rw[(o b z).1]at e;cases e
 have nL:X.env.locals∉ch:=λz=>(o _ z).2.1 rfl;refine I.step (g':=s.gens) (d':=s.drawn) (ch:=ch) (λb hb=>⟨(o b hb).2.2.2.1,(o b hb).2.1,(o b hb).2.2.2.2.1,(o b hb).2.2.2.2.2⟩) (λb u _ _ hc e _=>k b u hc e) (λb u _ _ hc e _=>⟨u.slots,k b u hc e⟩)
  (λ_ _ _ _ n=>n) (λb u hc e=>⟨u,k b u hc e⟩) (λ_ _ e=>e) (λ_ _ _ e=>e) (λb ps e=>⟨#[],by rw[e];simp⟩) (λm hm=>?_) (λb u e=>?_) I.bare
 ·obtain⟨ob,es,ep,ho,r⟩:=hm;exact⟨ob,es,ep,k _ ob nL ho,r⟩
 ·refine(I.aC b u e).bQ (λc v hc q=>k c v ?_ q) (λ_ q=>q) λ_ _ q=>q;rcases hc with z | z
  ·rw[z];exact jB b u e
  ·exact jB c _ z
theorem Inv.tW{T:Addr}{v:HO}(I:Inv X pins σ H s)(o:∀c∈ch,wT X pins H c)(k:∀b u,b∉ch->s.heap.get? b=some u->h'.get? b=some u)(hT:s.heap.objs.size<=T)(new:aX X.prog X.w (upd H T v) h' T v):
 Inv X pins σ (upd H T v) { s with heap:=h',toks:=t' }:=by
 have hf:H T=none:=I.aC.fresh hT;have jB:∀b u,H b=some u->b∉ch:=λb u e z=>by rw[(o b z).1]at e;cases e
 have nL:X.env.locals∉ch:=λz=>(o _ z).2.1 rfl;have up:∀b u,H b=some u->upd H T v b=some u:=λb u e=>by rw[zh (zj e hf)];exact e
 refine I.step (g':=s.gens) (d':=s.drawn) (ch:=ch) (λb hb=>⟨(o b hb).2.2.2.1,(o b hb).2.1,(o b hb).2.2.2.2.1,(o b hb).2.2.2.2.2⟩) (λb u _ _ hc e _=>k b u hc e) (λb u _ _ hc e _=>⟨u.slots,k b u hc e⟩)
  (λb u _ e n=>?_) (λb u hc e=>⟨u,k b u hc e⟩) (λb _ e=>up b _ e) (λb _ _ e=>up b _ e) (λb ps e=>⟨#[],by rw[up b _ e];simp⟩) (λm hm=>?_) (λb u e=>?_) I.bare
 ·rw[zh (λz=>by rw[z]at e;exact absurd (lt_size e) (Nat.not_lt.mpr hT))];exact n
 ·obtain⟨ob,es,ep,ho,r⟩:=hm;exact⟨ob,es,ep,k _ ob nL ho,r⟩
 ·by_cases hb:b=T
  ·subst hb;rw[zc]at e;cases e;exact new
  ·rw[zh hb]at e;refine(I.aC b u e).bQ (λc w hc q=>k c w ?_ q) (λc q=>up c _ q) λc _ q=>up c _ q;rcases hc with z | z
   ·rw[z];exact jB b u e
   ·exact jB c _ z
end
def As(K:Frag)(l1 l2:Addr):It :=
 ⟨λi H=>∃xs ys x y,ag K H l1 xs/\ag K H l2 ys/\xs[i]? = some x/\ys[i]? = some y,
  λi H v H'=>∃t x y,v=.ref t/\H t=none/\H'=upd H t (.tup [x,y])/\(∀xs,ag K H l1 xs->xs[i]? = some x)/\∀ys,ag K H l2 ys->ys[i]? = some y,
  λi H=>∃xs ys,ag K H l1 xs/\ag K H l2 ys/\(xs.length<=i\/ys.length<=i)⟩
theorem p7{elts:List Expr}{pos:Pos}{z TI TO i1 i2 l1 l2:Addr}(D:ZipApart z TI TO i1 i2 l1 l2):
 Turn P w K (.Tuple elts k pos) (As K l1 l2) [z,TI,TO,i1,i2] z (λi h=>IsZip h z TI TO .none/\IsPair h TI (.ref i1) (.ref i2)/\(∃a b,IsPair h TO a b)/\h.IsListIter i1 l1 i/\h.IsListIter i2 l2 i) where
 mem:=by simp
 obj:=λi h st b hb=>by
  obtain⟨a1,a2,⟨_,_,a3⟩,⟨o4,e4,c4,d4⟩,⟨o5,e5,c5,d5⟩⟩:=st;simp only[mem_cons,not_mem_nil,or_false]at hb;rcases hb with rfl | rfl | rfl | rfl | rfl
  ·exact⟨_,a1,λv z=>by cases z⟩
  ·exact⟨_,a2,λv z=>by cases z⟩
  ·exact⟨_,a3,λv z=>by cases z⟩
  ·exact⟨_,e4,λv z=>by rw[d4]at z;cases z⟩
  ·exact⟨_,e5,λv z=>by rw[d5]at z;cases z⟩
 keep:=λi h h' st k=>by
  obtain⟨a1,a2,⟨a,b,a3⟩,a4,a5⟩:=st;exact⟨k _ (by simp) _ a1,k _ (by simp) _ a2,⟨a,b,k _ (by simp) _ a3⟩,a4.at λo e=>k _ (by simp) o e,a5.at λo e=>k _ (by simp) o e⟩
 item:=by
  intro X hP hw hK hc i pins s σ H E I hf st hg;subst hP hw hK;obtain⟨xs,ys,x,y,q1,q2,hx,hy⟩:=hg;obtain⟨hz,eY,⟨a,b,rV⟩,h1,h2⟩:=st;obtain⟨us,r1,p1,z1⟩:=I.list q1;obtain⟨vs,r2,p2,z2⟩:=I.list q2;obtain⟨u,hu,ru⟩:=r1.get hx;obtain⟨v,hv,rv⟩:=r2.get hy;have KO:TI ∉ [z,TO,i1,i2]:=by simp[D.TIz,D.TITO,D.TIi1,D.TIi2]
  have ff:∀c ∈ [z,TO,i1,i2],wT X pins H c:=λc hc=>hf c (by simp only[mem_cons,not_mem_nil,or_false]at hc ⊢;rcases hc with e | e | e | e <;> simp[e]);refine wpAny_pyNext_zip_item D hz eY rV h1 h2 p1.isList p2.isList (by simpa using hu) (by simpa using hv) λh' a1 a2 a3 a4 a5 a6 hk=>?_;have kk:∀c o,c ∉ [z,TO,i1,i2]->s.heap.get? c=some o->h'.get? c=some o:=λc o hc e=>hk c o (λw=>hc (by simp[w])) (λw=>hc (by simp[w])) (λw=>hc (by simp[w])) (λw=>hc (by simp[w])) e;have I1:Inv X pins σ (upd H s.heap.objs.size (.tup [x,y])) { s with heap:=h' }:=I.tW (t':=s.toks) ff kk (le_refl _) ⟨by show 2<=sizeLine;decide,[u,v],.cons ru (.cons rv .nil),_,a5,rfl,_,rfl⟩;refine⟨_,rfl,wpAny_letOwnedTupleGo_zip a1 λBr Vp pe=>?_⟩;have lt:∀c ∈ [z,TI,TO,i1,i2],c≠s.heap.objs.size:=λc hc=>by
   have:∃o,s.heap.get? c=some o:=by
    simp only[mem_cons,not_mem_nil,or_false]at hc;rcases hc with rfl | rfl | rfl | rfl | rfl
    ·exact⟨_,hz⟩
    ·exact⟨_,eY⟩
    ·exact⟨_,rV⟩
    ·obtain⟨o,e,_⟩:=h1;exact⟨o,e⟩
    ·obtain⟨o,e,_⟩:=h2;exact⟨o,e⟩
   obtain⟨o,e⟩:=this;exact ne_of_lt (lt_size e)
  have fz:wT X pins (upd H s.heap.objs.size (.tup [x,y])) z:=by
   obtain⟨f0,f1⟩:=hf z (by simp);exact⟨by rw[zh (lt z (by simp))];exact f0,f1⟩
  have I2:Inv X pins σ (upd H s.heap.objs.size (.tup [x,y])) { s with heap:=Br }:=Inv.pZ (s:={ s with heap:=h' }) (t':=s.toks) (ch:=[z]) I1 (λc hc=>by rw[List.mem_singleton.mp hc];exact fz) λc o hc e=>pe.extBut c o (λw=>hc (by simp[w])) e;refine⟨.ref s.heap.objs.size,_,I2,rfl,⟨_,x,y,rfl,I.aC.fresh (le_refl _),rfl,λxs' q=>?_,λys' q=>?_⟩,⟨Vp,pe.extBut _ _ D.TIz (kk _ _ KO eY),⟨_,_,pe.extBut _ _ D.TOz a2⟩,a3.extBut pe.extBut D.i1z,a4.extBut pe.extBut D.i2z⟩,λc hc=>?_⟩
  ·rw[I.eN q q1];exact hx
  ·rw[I.eN q q2];exact hy
  ·rw[zh (lt c hc)];exact(hf c hc).1
 done:=by
  intro X hP hw hK hc i pins s σ H E I hf st hg;subst hP hw hK;obtain⟨xs,ys,q1,q2,K1⟩:=hg;obtain⟨hz,eY,⟨a,b,rV⟩,h1,h2⟩:=st;obtain⟨us,r1,p1,z1⟩:=I.list q1;obtain⟨vs,r2,p2,z2⟩:=I.list q2;have l1':=r1.length;have l2':=r2.length;have ff:∀c ∈ [z,TO,i1,i2],wT X pins H c:=λc hc=>hf c (by simp only[mem_cons,not_mem_nil,or_false]at hc ⊢;rcases hc with e | e | e | e <;> simp[e]);refine wpAny_pyNext_zip_end (I.ok.hd hc) D hz eY rV h1 h2 p1.isList p2.isList ?_ λh' hk=>⟨rfl,I.pZ (t':=s.toks) ff λc o hc e=>hk c o (λw=>hc (by simp[w])) (λw=>hc (by simp[w])) (λw=>hc (by simp[w])) (λw=>hc (by simp[w])) e⟩;rcases K1 with h | h
  ·exact .inl (by simp;omega)
  ·exact .inr (by simp;omega)
 self:=λ_ _ _ _ _ st h=>wpAny_pyIter_zip st.1 h
inductive vL (K:Frag) (vs:List V) (H1:Hp) (R:It->Hp->Prop):Prop
 | mk (l1:_) (l2:_) (xs:_) (ys:_):vs=[.ref l1,.ref l2]->ag K H1 l1 xs->ag K H1 l2 ys->R (As K l1 l2) H1->vL K vs H1 R
def K2(K:Frag)(ta:TA):TI:=λσ H R=>ta σ H λvs H1=>vL K vs H1 R
section
variable {X:Cx}{ex ey:Expr}{t:TA}{p pos tp:Pos}{elts:List Expr}{tk:Nat}
theorem p8(hg:Gl X "zip")(hm:X.mg "zip"=none)(ha:PA X [ex,ey] t)(he:starEach [ex,ey] X.env=(false,eval ex X.env)::starEach [ey] X.env:=by rfl)(hpl:(backTo pos (starEach [ey] X.env)).any (·.1)=false:=by rfl):
 PI X (.Tuple elts tk tp) (.Call (.Name "zip" p) [ex,ey] [] pos) (K2 X.K t):=by
 intro pins s σ H R I h;refine wpAny_Call_Name_kw (rH I hg hm boot_zip ?_ (by decide) (by decide));refine callWith_type1 (aF (ha pos pins s σ H _ I h) λus s1 hh=>?_) he hpl;obtain⟨vs,H1,I1,r1,l1,l2,xs,ys,rfl,q1,q2,q⟩:=hh;cases r1 with
 | cons e1 r=>cases r with
   | cons e2 r =>
     cases r;cases e1;cases e2;obtain⟨us,r1,p1,_⟩:=I1.list q1;obtain⟨ws,r2,p2,_⟩:=I1.list q2;have b1:=p1.isList;have b2:=p2.isList;have t1:l1<s1.heap.objs.size:=by obtain⟨u,hu,_⟩:=b1;exact lt_size hu
     have t2:l2<s1.heap.objs.size:=by obtain⟨u,hu,_⟩:=b2;exact lt_size hu
     refine call_zip_2 b1 b2 λh' hz eY rV iA jU hsz hk=>?_;have n:∀(l:Addr)(d:Nat),l<s1.heap.objs.size->l≠s1.heap.objs.size+d:=λl d h=>ne_of_lt (lt_of_lt_of_le h (le_add_right _ _));have m:∀d e:Nat,d≠e->s1.heap.objs.size+d≠s1.heap.objs.size+e:=λd e h w=>h (Nat.add_left_cancel w);refine wpAny_pyIter_zip hz ?_;refine⟨s1.heap.objs.size+4,[s1.heap.objs.size+4,s1.heap.objs.size+2,s1.heap.objs.size+3,s1.heap.objs.size+0,s1.heap.objs.size+1],_,As X.K l1 l2,H1,rfl,I1.kept (t':=s1.toks) hk,
      p7 (i1:=s1.heap.objs.size+0) (i2:=s1.heap.objs.size+1) (TI:=s1.heap.objs.size+2) (TO:=s1.heap.objs.size+3) (l1:=l1) (l2:=l2) ⟨m 2 4 (by decide),m 3 4 (by decide),m 0 4 (by decide),m 1 4 (by decide),m 2 3 (by decide),m 2 0 (by decide),m 2 1 (by decide),m 3 0 (by decide),m 3 1 (by decide),m 0 1 (by decide),n _ 4 t1,n _ 3 t1,n _ 0 t1,n _ 1 t1,n _ 4 t2,n _ 3 t2,n _ 0 t2,n _ 1 t2⟩,
      ⟨hz,eY,⟨_,_,rV⟩,iA,jU⟩,λb hb=>?_,q⟩
     have rQ:∃d,b=s1.heap.objs.size+d:=by
      simp only[mem_cons,not_mem_nil,or_false]at hb;rcases hb with w | w | w | w | w
      ·exact⟨4,w⟩
      ·exact⟨2,w⟩
      ·exact⟨3,w⟩
      ·exact⟨0,w⟩
      ·exact⟨1,w⟩
     obtain⟨d,rfl⟩:=rQ;exact I1.eO (le_add_right _ _) (I1.aC.fresh (le_add_right _ _))
end
theorem tX{l1 l2:Addr}{xs ys:List V}{g:TG}{tb:TS}{D:Ends}{σ:St}(Pv:Nat->St->Hp->Prop)(h0:Pv 0 σ H)(hl:∀i σ H,i<=min xs.length ys.length->Pv i σ H->ag K H l1 xs/\ag K H l2 ys)
 (hs:∀i x y t σ H,xs[i]? = some x->ys[i]? = some y->H t=none->Pv i σ H->g (.ref t) σ (upd H t (.tup [x,y])) λσ2 H2=>tb { D with nx:=Pv (i+1),ct:=Pv (i+1),bk:=D.nx } σ2 H2) (hd:∀σ H,Pv (min xs.length ys.length) σ H->D.nx σ H) :
 ∃W:Nat->Nat->St->Hp->Prop,(∃m,W 0 m σ H)/\∀i m σ H,W i m σ H ->
  ((As K l1 l2).stop i H/\D.nx σ H)\/((As K l1 l2).go i H/\∃N:St->Hp->Prop,(∀σ' H',N σ' H'->∃m',m'<m/\W (i+1) m' σ' H')/\∀x H',(As K l1 l2).xy i H x H'->g x σ H' λσ2 H2=>tb { D with nx:=N,ct:=N,bk:=D.nx } σ2 H2):=by
 refine⟨λi m σ H=>m=min xs.length ys.length-i/\i<=min xs.length ys.length/\Pv i σ H,⟨min xs.length ys.length,by simp,zero_le _,h0⟩,?_⟩;rintro i m σ H ⟨rfl,hi,p⟩;obtain⟨q1,q2⟩:=hl i σ H hi p;by_cases bI:i<min xs.length ys.length
 ·have h1:i<xs.length:=by omega
  have h2:i<ys.length:=by omega
  refine .inr ⟨⟨xs,ys,xs[i],ys[i],q1,q2,by simp[h1],by simp[h2]⟩,Pv (i+1),λσ' H' p'=>⟨min xs.length ys.length-(i+1),by omega,rfl,bI,p'⟩,λv H' y=>?_⟩;obtain⟨t,x,y,rfl,hn,rfl,e1,e2⟩:=y;exact hs i x y t σ _ (e1 xs q1) (e2 ys q2) hn p
 ·have e:i=min xs.length ys.length:=by omega
  subst e;exact .inl ⟨⟨xs,ys,q1,q2,by omega⟩,hd σ H p⟩
end L2
namespace L2
open PySem PySem.W PySem.Spec PyProof.Rows
variable {fin:List V->Hp->Prop}
theorem iY{K:Frag}{a:Addr}{xs:List V}{c:St}{tc:TT}{te:TE}{H:Hp}(Pv:Nat->List V->Hp->Prop)(h0:Pv 0 [] H)(hl:∀i ys H,i<=xs.length->Pv i ys H->ag K H a xs/\ys.length<=i)(hz:xs.length<=sizeLine)
 (hs:∀i x ys H,xs[i]? = some x->Pv i ys H->∃t u v,x=.ref t/\bN K H t [u,v]/\tc (some u::some v::c) H λb H2=>if b=true then te (some u::some v::c) H2 λy H3=>Pv (i+1) (ys++[y]) H3 else Pv (i+1) ys H2) (hd:∀ys H,Pv xs.length ys H->fin ys H):BA K (kF K a) c tc te H fin:=by
 refine⟨λi m ys H=>m=xs.length-i/\i<=xs.length/\Pv i ys H,⟨xs.length,by simp,zero_le _,h0⟩,?_⟩;rintro i m ys H ⟨rfl,hi,p⟩;obtain⟨q,hy⟩:=hl i ys H hi p;by_cases bI:i<xs.length
 ·refine .inr ⟨⟨xs,xs[i],q,by simp[bI]⟩,by omega,λys' H'=>Pv (i+1) ys' H',λys' H' p'=>⟨xs.length-(i+1),by omega,rfl,bI,p'⟩,λx H' y=>?_⟩;obtain⟨e,y⟩:=y;subst e;exact hs i x ys _ (y xs q) p
 ·have e:i=xs.length:=by omega
  subst e;exact .inl ⟨⟨xs,q,le_refl _⟩,by omega,hd ys H p⟩
theorem QQ{K:Frag}{a:Addr}{xs:List V}{c:St}{te:TE}{H:Hp}(Pv:Nat->List V->Hp->Prop)(h0:Pv 0 [] H)(hl:∀i ys H,i<=xs.length->Pv i ys H->ag K H a xs/\ys.length<=i)(hz:xs.length<=sizeLine)
 (hs:∀i x ys H,xs[i]? = some x->Pv i ys H->∃t u v,x=.ref t/\bN K H t [u,v]/\te (some u::some v::c) H λy H3=>Pv (i+1) (ys++[y]) H3) (hd:∀ys H,Pv xs.length ys H->fin ys H):BA K (kF K a) c iS te H fin :=
 iY Pv h0 hl hz (λi x ys H e p=>let ⟨t,u,v,e1,e2,h⟩:=hs i x ys H e p;⟨t,u,v,e1,e2,iR (B:=Pv (i+1) ys H) h⟩) hd
end L2
namespace L2
open PySem PySem.W PySem.Spec PyProof.Rows PySem.Calls
def aZ(P:Addr)(q:Str)(H:Hp):Prop:=∃ps,H P=some (.bW ps)/\TriplesOk ps.toList/\∀pos cv,codeAmong pos ps.toList=some cv->∃c',cv=.ref c'/\H c'=some (mW c' q)
theorem aZ.new{P:Addr}{q:Str}{H:Hp}(h:H P=some (.bW #[])):aZ P q H:=⟨#[],h,trivial,λpos cv e=>by simp[codeAmong]at e⟩
theorem aZ.same{P:Addr}{q:Str}{H H':Hp}(h:aZ P q H)(s:ae H H'):aZ P q H':=by
 obtain⟨ps,h1,h2,h3⟩:=h;exact⟨ps,s _ _ h1,h2,λpos cv e=>let ⟨c',e1,e2⟩:=h3 pos cv e;⟨c',e1,s _ _ e2⟩⟩
def dW:Str:=Str.ofString "by_place" ++ ".<locals>." ++ "<lambda>"
theorem Vq{pos:Pos}{a b:Int}{c x:Value}:∀(l:List Value),TriplesOk l->codeAmong pos (l++[rawInt a,rawInt b,c])=some x->codeAmong pos l=some x\/x=c:=by
 intro l h e
 fun_induction TriplesOk l with
 | case1 =>
   simp only[List.nil_append,codeAmong,rawInt]at e;split at e
   ·cases e;exact .inr rfl
   ·cases e
 | case2 a' t b' u y gR ih =>
   simp only[cons_append,codeAmong]at e ⊢;split at e
   ·rename_i hc;rw[if_pos hc];exact .inl e
   ·rename_i hc;rw[if_neg hc];exact ih h e
 | case3=>exact h.elim
section
variable {X:Cx}{pins:List (Addr×Obj)}{σ:St}{H:Hp}{s:Shared}{E:Value->Shared->Prop}
theorem lI{params:Arguments}{body:Expr}{scope:Scope}{pos:Pos}{c P:Addr}{Q:Value->Shared->Prop}(I:Inv X pins σ H s)(hL:aZ P (X.env.qual ++ "<lambda>") H)(jZ:X.env.code=.ref c)(C:CodeHd X.base c P)(B:tT X.mg X.base)
 (tY:defaultsOf params X.env=([],[])) (mT:closureFor scope X.env=pure [])
 (q:∀(f c':Addr)(pm gi:Value)(H3:Hp)(s':Shared),(∀b u,b≠P->s.heap.get? b=some u->s'.heap.get? b=some u)->s.heap.objs.size<=s'.heap.objs.size ->
   (∀a,a<s.heap.objs.size->a≠P->H3 a=H a)->H3 f=some (pT f (kla_obj "<lambda>" (X.env.qual ++ "<lambda>") params body scope [] pm c' gi))->H3 c'=some (mW c' (X.env.qual ++ "<lambda>"))->aG H H3->aZ P (X.env.qual ++ "<lambda>") H3->Inv X pins σ H3 s'->Q (.ref f) s') :
 wpAny (model X.prog X.w) X.A (eval (.Lambda params body scope pos) X.env) Q E s:=by
 obtain⟨ps,hP,ht,hh⟩:=hL;have hb:∀b o,X.base.get? b=some o->b≠P:=λb o e z=>by have:=(I.bs b o e).2;rw[z,hP]at this;cases this
 have Ga:s.heap.get? P=some (tabObj ps):=I.aC P _ hP;have DC:P<s.heap.objs.size:=I.aC.lt hP;obtain⟨bm,ob,b1,b2,b3,b4,b5,b6⟩:=B;have hG:mainGlobals≠P:=by obtain⟨o,_,_,e,_⟩:=I.mod.glob;exact hb _ o e
 have QR:bm≠mainGlobals:=λz=>by
  obtain⟨o,es,ep,e,hd,_⟩:=I.mod.glob;rw[z,e]at b3;cases b3;rw[hd]at b6;cases b6
 cases hA:codeAmong pos ps.toList with
 | none =>
   refine kla_eval tY (kla_makeFunction (ps:=ps) (mg:=X.mg) mT I.ok.glob (I.mod.glob.keeps I.bk) jZ (C.keeps I.bk) Ga ht hA hG ⟨bm,ob,b1,b2,QR,hb _ _ b3,I.bk _ _ b3,b4,b5,b6⟩ λc' gi h' tk hx BB bI iX Vr=>?_);have J:=I.lam (tk:=tk) (fo:=kla_obj "<lambda>" (X.env.qual ++ "<lambda>") params body scope [] ((X.mg "__name__").getD .none) c' gi) rfl hP hx BB bI iX Vr;have KP:P≠c':=ne_of_lt (lt_of_lt_of_le DC BB);have KQ:c'≠h'.objs.size:=ne_of_lt bI;have KR:P≠h'.objs.size:=ne_of_lt (lt_trans (lt_of_lt_of_le DC BB) bI);have old:∀a,a<s.heap.objs.size->a≠P->(upd (upd (upd H P (.bW (ps ++ #[rawInt ↑pos.line,rawInt ↑pos.col,Value.ref c']))) c' (mW c' (X.env.qual ++ "<lambda>"))) h'.objs.size (pT h'.objs.size (kla_obj "<lambda>" (X.env.qual ++ "<lambda>") params body scope [] ((X.mg "__name__").getD .none) c' gi))) a=H a:=λa h1 h2=>by
    rw[zh (ne_of_lt (lt_trans (lt_of_lt_of_le h1 BB) bI)),zh (ne_of_lt (lt_of_lt_of_le h1 BB)),zh h2]
   have DD:(upd (upd (upd H P (.bW (ps ++ #[rawInt ↑pos.line,rawInt ↑pos.col,Value.ref c']))) c' (mW c' (X.env.qual ++ "<lambda>"))) h'.objs.size (pT h'.objs.size (kla_obj "<lambda>" (X.env.qual ++ "<lambda>") params body scope [] ((X.mg "__name__").getD .none) c' gi))) P=some (.bW (ps ++ #[rawInt ↑pos.line,rawInt ↑pos.col,Value.ref c'])):=by rw[zh KR,zh KP,zc]
   have nA:(upd (upd (upd H P (.bW (ps ++ #[rawInt ↑pos.line,rawInt ↑pos.col,Value.ref c']))) c' (mW c' (X.env.qual ++ "<lambda>"))) h'.objs.size (pT h'.objs.size (kla_obj "<lambda>" (X.env.qual ++ "<lambda>") params body scope [] ((X.mg "__name__").getD .none) c' gi))) c'=some (mW c' (X.env.qual ++ "<lambda>")):=by rw[zh KQ,zc]
   refine q h'.objs.size c' ((X.mg "__name__").getD .none) gi _ _ (λb u n e=>get?_push_of_some _ (hx b u n e)) ?_ old zc nA ⟨λb u e n=>?_,λb qs e=>?_⟩ ⟨_,DD,?_,λpos' cv e=>?_⟩ J
   ·show s.heap.objs.size<=(h'.push _).objs.size;rw[size_push];exact le_of_lt (Nat.lt_of_le_of_lt BB (lt_succ_of_lt bI))
   ·rw[old b (I.aC.lt e) (λw=>by rw[w,hP]at e;cases e;exact n _ rfl)];exact e
   ·by_cases hb:b=P
    ·subst hb;exact⟨_,DD⟩
    ·exact⟨qs,by rw[old b (I.aC.lt e) hb];exact e⟩
   ·rw[Array.toList_append];exact TriplesOk_snoc _ _ _ _ ht
   ·rw[Array.toList_append]at e;rcases Vq _ ht e with e | rfl
    ·obtain⟨c2,e1,e2⟩:=hh pos' cv e;exact⟨c2,e1,by rw[old c2 (I.aC.lt e2) (λw=>by rw[w,hP]at e2;cases e2)];exact e2⟩
    ·exact⟨c',rfl,nA⟩
 | some cv =>
   obtain⟨c',rfl,nA⟩:=hh pos cv hA;refine kla_eval tY (kla_makeFunctionHit (ps:=ps) (mg:=X.mg) mT I.ok.glob (I.mod.glob.keeps I.bk) jZ (C.keeps I.bk) Ga ht hA ⟨bm,ob,b1,b2,QR,hb _ _ b3,I.bk _ _ b3,b4,b5,b6⟩ λgi h' tk hk hsz=>?_);have hn:H h'.objs.size=none:=I.aC.fresh hsz;have J:Inv X pins σ (upd H h'.objs.size (pT h'.objs.size (kla_obj "<lambda>" (X.env.qual ++ "<lambda>") params body scope [] ((X.mg "__name__").getD .none) c' gi))) { s with heap:=h'.push (kla_obj "<lambda>" (X.env.qual ++ "<lambda>") params body scope [] ((X.mg "__name__").getD .none) c' gi),toks:=tk } :=
    I.laid (t':=tk) (λb u e=>get?_push_of_some _ (hk b u e)) hsz ⟨get?_push_size _ rfl,⟨_,get?_push_size _ rfl⟩,λh1 h2 a b=>b _ a⟩
   refine q h'.objs.size c' ((X.mg "__name__").getD .none) gi _ _ (λb u n e=>get?_push_of_some _ (hk b u e)) ?_ (λa h1 h2=>zh (ne_of_lt (lt_of_lt_of_le h1 hsz))) zc ((ae.new hn) _ _ nA) (ae.new hn).toN (aZ.same ⟨ps,hP,ht,hh⟩ (ae.new hn)) J;show s.heap.objs.size<=(h'.push _).objs.size;rw[size_push];exact Nat.le_succ_of_le hsz
end
def K3(K:Frag)(P:Addr)(qq:Str)(t:TA):TE:=λσ H Q=>t σ H λvs H1=>∃(l1 l2:Addr)(xs:List Int)(yv:List V),vs=[.ref l1,.ref l2]/\ag K H1 l1 (xs.map V.int)/\ag K H1 l2 yv/\xs.length=yv.length/\0<xs.length/\xs.length<64/\aZ P qq H1 /\
 ∀(H2:Hp)(ts:List Addr)(l:Addr)(p:Array Nat),aG H1 H2->aZ P qq H2->gK H2 ts ((xs.map V.int).zip yv)->H2 l=none->M14.I (λk=>xs.getD k 0) xs.length p xs.length->Q (.ref l) (upd H2 l (.lst (p.toList.map λi=>V.ref (ts.getD i 0))))
section
variable {X:Cx}{ex ey:Expr}{t:TA}{c P:Addr}{y:Str}{p1 p2 p3 p4 p5 pos fM DE kp:Pos}{j:Nat}{params:Arguments}{scope:Scope}
theorem lJ{qq:Str}(Vs:X.env.qual ++ "<lambda>"=qq)(hr:aU 3 X.A)(Gb:Gl X "sorted")(Vt:X.mg "sorted"=none)(KD:Gl X "zip")(Dm:X.mg "zip"=none)(jZ:X.env.code=.ref c)(C:codeHdIn X.K c P=true)(B:tT X.mg X.base)(S:ah [y] [y] scope)
 (hy:scope.names.lookup y=some .local) (gU:(y==("__debug__":Str))=false) (Vu:(y==("__classdict__":Str))=false)
 (tY:defaultsOf params X.env=([],[])) (mT:closureFor scope X.env=pure [])
 (pV:∀(q:Str)(pm cv gi u:Value)(b:Expr),bindArgs (kla_fn "<lambda>" q params b scope [] pm cv gi) ⟨[u],[]⟩=pure [(y,u)])
 (ha:PA X [ex,ey] t) (he:starEach [ex,ey] X.env=(false,eval ex X.env)::starEach [ey] X.env:=by rfl) (hpl:(backTo fM (starEach [ey] X.env)).any (·.1)=false:=by rfl) :
 PE X (.Call (.Name "sorted" p1) [.Call (.Name "zip" p2) [ex,ey] [] fM] [⟨some "key",.Lambda params (.Subscript (.Name y p3) (.Constant (.int 0) j p4) p5) scope DE,kp⟩] pos) (K3 X.K P qq t):=by
 intro pins s σ H Q I h;refine wpAny_Call_Name_kw (rH I Gb Vt boot_sorted ?_ (by decide) (by decide));refine callWith_kw ?_;refine Calls.spliced_cons ?_;refine wpAny_Call_Name_kw (rH I KD Dm boot_zip ?_ (by decide) (by decide));refine callWith_type1 (aF (ha fM pins s σ H _ I h) λus s1 hh=>?_) he hpl;obtain⟨vs,H1,I1,r1,l1,l2,xs,yv,rfl,q1,q2,hl,h0,FZ,hP,q⟩:=hh;obtain⟨u1,u2,rfl⟩:∃u1 u2,us=[u1,u2]:=by
  cases r1 with
  | cons _ r=>cases r with
    | cons _ r=>cases r with
      | nil=>exact⟨_,_,rfl⟩
 cases r1 with
 | cons e1 r=>cases r with
   | cons e2 r =>
     cases (show u1=Value.ref l1 from e1);cases (show u2=Value.ref l2 from e2);refine pS I1 q1 q2 λs2 z TI TO i1 i2 Vv Vw rx ry I2 D o st=>?_;refine Calls.spliced_nil ?_;refine kws_cons ?_;subst Vs;refine lI (c:=c) (P:=P) I2 hP jZ (codeHd_of_K I2.mod.uS C) B tY mT λf c' pm gi H3 s3 k hsz old hf nA sn Vx I3=>?_;refine kws_nil ?_;obtain⟨ps,hP,_⟩:=hP;have Ga:s2.heap.get? P=some (tabObj ps):=I2.aC P _ hP;have nO:∀a ∈ [z,TO,i1,i2],a≠P:=λa ha w=>by have:=(o a ha).1.free;rw[w,hP]at this;cases this
     have nX:∀(a:Addr)(u:Obj),s2.heap.get? a=some u->u.cls ≠ .none->a≠P:=λa u e n w=>by rw[w,Ga]at e;cases e;exact n rfl
     obtain⟨a1,a2,a3,a4,a5,a6⟩:=st;obtain⟨b1,ba,bb,b2⟩:IsZip s2.heap z TI TO .none/\∃a b,IsPair s2.heap TO a b:=by
      rcases a6 with⟨_,w⟩|⟨w,_⟩
      ·exact w
      ·exact absurd w (lt_irrefl _)
     have kJ:rT z TI TO i1 i2 l1 l2 Vv.toArray Vw.toArray 0 s3:=by
      refine⟨k _ _ (nX _ _ a1 (by intro w;cases w)) a1,a2.at λu e=>k _ u (nO _ (by simp)) e,a3.at λu e=>k _ u (nO _ (by simp)) e,a4.at λu e=>k _ u ?_ e,a5.at λu e=>k _ u ?_ e,.inl ⟨rfl,k _ _ (nO _ (by simp)) b1,ba,bb,k _ _ (nO _ (by simp)) b2⟩⟩
      ·obtain⟨u',e',hc,_⟩:=a4;exact nX _ _ e' (by rw[hc];intro w;cases w)
      ·obtain⟨u',e',hc,_⟩:=a5;exact nX _ _ e' (by rw[hc];intro w;cases w)
     have o3:∀a ∈ [z,TO,i1,i2],Own X pins H3 a/\a<s3.heap.objs.size:=λa ha=>by
      obtain⟨oa,la⟩:=o a ha;exact⟨⟨by rw[old a la (nO a ha)];exact oa.free,oa.loc,oa.new,oa.cell,oa.pin,oa.fs⟩,lt_of_lt_of_le la hsz⟩
     have lx:(xs.map V.int).length=xs.length:=length_map _;have F:av X.prog X.w X.K X.mg X.base aQ 1 f (kla_fn "<lambda>" (X.env.qual ++ "<lambda>") params (.Subscript (.Name y p3) (.Constant (.int 0) j p4) p5) scope [] pm (.ref c') gi) [y] (Aq f c' (kla_obj "<lambda>" (X.env.qual ++ "<lambda>") params (.Subscript (.Name y p3) (.Constant (.int 0) j p4) p5) scope [] pm c' gi) (X.env.qual ++ "<lambda>")):=by
      refine Ap S (λvs H Q E h=>?_) (λvs H Q E h=>⟨h.1,h.2.1⟩) λA outer s H vs Q E hr h=>?_
      ·obtain⟨_,_,t,x,y',rfl,_⟩:=h;rfl
      ·obtain⟨_,_,t,x,y',rfl,ht,hq⟩:=h;exact⟨_,zu yz (nD (i:=0) rfl (.inl hy) gU Vu) zg (λ_ _=>rfl),⟨_,rfl,t,[x,y'],0,x,rfl,rfl,.inl (.inl ht),rfl,hq⟩⟩
     show wpAny (model X.prog X.w) X.A (call (.builtin "sorted") [.ref z] [(Str.ofString "key",.ref f)]) _ _ s3;refine iW (kz:=xs) (xv:=xs.map V.int) (yv:=yv) (q:=f) hr.hd D rx ry (by rw[lx];exact hl) (by rw[lx];exact FZ) (by rw[lx];exact h0) lx.symm I3 o3 kJ (λH4 ts s4 pr i v pins' s5 hv I5=>?_) λs4 H4 ts l p sm pr hn hi I4=>?_
     ·rw[getElem?_map]at hv;cases et:ts[i]? with
      | none=>rw[et]at hv;cases hv
      | some a =>
        rw[et]at hv;cases hv;obtain⟨⟨pa,pb⟩,ep,ha⟩:=pr.get i a et;have Vy:pa=.int (xs.getD i 0):=by
         rw[List.getElem?_zip_eq_some]at ep;obtain⟨ep,_⟩:=ep;rw[getElem?_map]at ep;rw[getD_eq_getElem?_getD];cases ex:xs[i]? with
         | none=>rw[ex]at ep;cases ep
         | some x=>rw[ex]at ep;cases ep;rfl
        subst Vy;refine wpAny_call (codeAny_mono (F.run X.A.in1.in1 X.stack s5 H4 ⟨[.ref a],[]⟩ [.ref a] [.ref a] (λx H'=>x=.int (xs.getD i 0)/\H'=H4) E0 hr.in1.in1 I5.sT.in1.in1 (.of_eq (pV _ _ _ _ _ _)) (.cons rfl .nil) ⟨s4 _ _ hf,s4 _ _ nA,a,_,_,rfl,ha,rfl,rfl⟩) λr s6 hq=>?_);cases r with
        | error e=>exact hq
        | ok fl =>
          cases fl with
          | next=>exact False.elim hq
          | brk=>exact False.elim hq
          | cont=>exact False.elim hq
          | ret u =>
            obtain⟨v,H',I6,rv,rfl,rfl⟩:=I5.after hq;obtain⟨tk,rfl⟩:=rv;exact⟨I6,tk,rfl⟩
     ·rw[lx]at hi;exact⟨.ref l,_,I4,rfl,q H4 ts l p (sn.trans sm.toN) (Vx.same sm) pr hn hi⟩
end
theorem lK{K:Frag}{l1 l2:Addr}{xs ys:List V}{c:St}{tc:TT}{te:TE}{H:Hp}{fin:List V->Hp->Prop}(Pv:Nat->List V->Hp->Prop)(h0:Pv 0 [] H)(hl:∀i zs H,i<=min xs.length ys.length->Pv i zs H->ag K H l1 xs/\ag K H l2 ys/\zs.length<=i)(hz:min xs.length ys.length<=sizeLine)
 (hs:∀i x y t zs H,xs[i]? = some x->ys[i]? = some y->H t=none->Pv i zs H->tc (some x::some y::c) (upd H t (.tup [x,y])) λb H2=>if b=true then te (some x::some y::c) H2 λz H3=>Pv (i+1) (zs++[z]) H3 else Pv (i+1) zs H2) (hd:∀zs H,Pv (min xs.length ys.length) zs H->fin zs H):BA K (As K l1 l2) c tc te H fin:=by
 refine⟨λi m zs H=>m=min xs.length ys.length-i/\i<=min xs.length ys.length/\Pv i zs H,⟨min xs.length ys.length,by simp,zero_le _,h0⟩,?_⟩;rintro i m zs H ⟨rfl,hi,p⟩;obtain⟨q1,q2,hy⟩:=hl i zs H hi p;by_cases bI:i<min xs.length ys.length
 ·have h1:i<xs.length:=by omega
  have h2:i<ys.length:=by omega
  refine .inr ⟨⟨xs,ys,xs[i],ys[i],q1,q2,by simp[h1],by simp[h2]⟩,by omega,Pv (i+1),λzs' H' p'=>⟨min xs.length ys.length-(i+1),by omega,rfl,bI,p'⟩,λv H' y=>?_⟩;obtain⟨t,x,y,rfl,hn,rfl,e1,e2⟩:=y;exact⟨t,x,y,rfl,.inl (.inl zc),hs i x y t zs _ (e1 xs q1) (e2 ys q2) hn p⟩
 ·have e:i=min xs.length ys.length:=by omega
  subst e;exact .inl ⟨⟨xs,ys,q1,q2,by omega⟩,by omega,hd zs H p⟩
section
variable {X:Cx}
end
section
variable {X:Cx}{tg:Expr}
end
end L2
namespace L2
open PySem PySem.Spec PyProof.Rows PySem.Builtin PySem.Builtin.Str
theorem j0:∀{ts:List Str}{us:List Value},Vals (ts.map V.str) us->∃l:List (Str×Tok),us=strValues l/\l.map (·.1)=ts
 | [],_,h=>by cases h;exact⟨[],rfl,rfl⟩
 | x::ts,_,h=>by
   cases h with
   | cons r h =>
     obtain⟨t,rfl⟩:=r;obtain⟨l,rfl,e⟩:=j0 h;exact⟨(x,t)::l,rfl,by rw[map_cons,e]⟩
theorem lL{z:Str}{ts:List Str}(hz:z.length<=10)(hl:ts.length<=200)(h:∀t∈ts,t.length<=2000):tooLong (ts.toArray.foldl (·+ ·.length+z.length) 0)=false:=by
 have go:∀(l:List Str)(n:Nat),(∀t∈l,t.length<=2000)->l.foldl (·+ ·.length+z.length) n<=n+2010*l.length:=by
  intro l
  induction l with
  | nil=>intro n _;simp
  | cons t l ih =>
    intro n h;have:=ih (n+t.length+z.length) λu hu=>h u (mem_cons_of_mem _ hu);have h1:=h t (mem_cons_self ..);rw[foldl_cons,length_cons];omega
 have:=go ts 0 h;have cj:=zt;unfold tooLong;rw[List.foldl_toArray];simp only[gt_iff_lt,decide_eq_false_iff_not];omega
section
variable {X:Cx}
theorem BC:wX X (.type "str") (λxs H Q=>(∃i:Int,xs=[.int i]/\i.natAbs.log2<1920/\Q (.str (toString i)) H)\/∃y,xs=[.str y]/\Q (.str y) H):=by
 intro pins s σ H xs us Q I r h;rcases h with⟨i,rfl,hd,q⟩|⟨y,rfl,q⟩
 ·obtain⟨u,rfl,⟨t,rfl⟩⟩:=r.one;exact P.str_of_int hd ⟨.str _,H,I.tok _,⟨_,rfl⟩,q⟩
 ·obtain⟨u,rfl,⟨t,rfl⟩⟩:=r.one;exact P.str_of_str ⟨.str _,H,I,⟨_,rfl⟩,q⟩
inductive p9 (K:Frag) (x:V) (xs:List V) (H:Hp) (Q:VK):Prop
 | mk (z:Str) (a:Addr) (ts:List Str):x=.str z->xs=[.ref a]->ag K H a (ts.map V.str)->z.length<=10->ts.length<=200->((∀t∈ts,t.length<=2000))->Q (.str (Txt.join z ts)) H->p9 K x xs H Q
def rJoin(K:Frag):V->List V->Hp->VK->Prop:=λx xs H Q=>p9 K x xs H Q
theorem j3:JI X "str.join" (rJoin X.K):=by
 intro pins s σ H x xs v us Q I rx rv h;obtain⟨z,a,ts,rfl,rfl,hq,h1,h2,h3,q⟩:=h;obtain⟨t,rfl⟩:=rx;obtain⟨u,rfl,ru⟩:=rv.one;cases ru;obtain⟨au,rr,p,_⟩:=I.list hq;obtain⟨l,rfl,rfl⟩:=j0 rr;have hf:=lL h1 h2 h3;exact call_meets F.slot_str_join (typeIs_str _ _ _) F.entry_str_join (F.args_str_join_2 _ _) (meets_str_join_list z t a l hf) ⟨p.isList,post_join l ⟨joinFit_length hf,λt' k=>⟨.str _,H,I.tok _,⟨_,rfl⟩,q⟩⟩⟩
end
def tN(n:Int):Str:=Str.ofString (toString n)
theorem vM{i:Int}(h:i.natAbs<=100000):i.natAbs.log2<1920:=by
 by_cases h0:i.natAbs=0
 ·rw[h0];decide
 ·have:i.natAbs.log2<17:=(Nat.log2_lt h0).mpr (by omega);omega
section
variable {X:Cx}
end
end L2
namespace M2
open PySem L2
def vN(z:Str):Bool:=(decide (1<=(z.length:Int)) && decide ((z.length:Int)<=8)) && (z.cps.toList.map pz).all id
def tZ(ts:List Str):Bool:=(decide (1<=(ts.length:Int)) && decide ((ts.length:Int)<=15)) && (decide ts.Nodup && (ts.map vN).all id)
theorem DG(z:Str):vN z=true↔(1<=z.length/\z.length<=8)/\∀c∈z.cps.toList,pz c=true:=by
 unfold vN;simp only[Bool.and_eq_true,decide_eq_true_eq,all_map,all_eq_true,Function.comp,id];constructor
 ·rintro ⟨⟨h1,h2⟩,h3⟩;exact⟨⟨by omega,by omega⟩,h3⟩
 ·rintro ⟨⟨h1,h2⟩,h3⟩;exact⟨⟨by omega,by omega⟩,h3⟩
theorem QS(ts:List Str):tZ ts=true↔(1<=ts.length/\ts.length<=15)/\ts.Nodup/\∀z∈ts,(1<=z.length/\z.length<=8)/\∀c∈z.cps.toList,pz c=true:=by
 unfold tZ;simp only[Bool.and_eq_true,decide_eq_true_eq,all_map,all_eq_true,Function.comp,id,DG];constructor
 ·rintro ⟨⟨h1,h2⟩,h3,h4⟩;exact⟨⟨by omega,by omega⟩,h3,h4⟩
 ·rintro ⟨⟨h1,h2⟩,h3,h4⟩;exact⟨⟨by omega,by omega⟩,h3,h4⟩
theorem K4(c:Nat):(!decide ((⟨#[c]⟩:Str).cps.toList<("a":Str).cps.toList))=decide (97<=c):=by
 have e:("a":Str).cps.toList=[97]:=by decide +kernel
 rw[e];show(!decide ([c] < [97]))=_;by_cases h:97<=c
 ·rw[decide_eq_true h,decide_eq_false];rfl;simp[cons_lt_cons_iff];omega
 ·rw[decide_eq_false h,decide_eq_true];rfl;simp[cons_lt_cons_iff];omega
theorem K5(c:Nat):(!decide (("z":Str).cps.toList<(⟨#[c]⟩:Str).cps.toList))=decide (c<=122):=by
 have e:("z":Str).cps.toList=[122]:=by decide +kernel
 rw[e];show(!decide ([122] < [c]))=_;by_cases h:c<=122
 ·rw[decide_eq_true h,decide_eq_false];rfl;simp[cons_lt_cons_iff];omega
 ·rw[decide_eq_false h,decide_eq_true];rfl;simp[cons_lt_cons_iff];omega
end M2
namespace L2
open PySem PySem.Spec PyProof.Rows
end L2
namespace M1
def gap(c:Int):Int:=[1,7,500,998].getD (c%4).toNat 1
def aa(c:Int)(m:Nat):List Int:=(List.range m).map fun(k:Nat)=>(c/4+(k:Int)*gap c)%999+1
theorem QT(c:Int)(m:Nat):(aa c m).length=m:=by unfold aa;simp
theorem Vz(c:Int)(m:Nat):aa c (m+1)=aa c m++[(c/4+(m:Int)*gap c)%999+1]:=by unfold aa;rw[range_succ,map_append];rfl
variable {x:Int}
theorem VA{c:Int}{m:Nat}(h:x∈aa c m):1<=x/\x<=999:=by
 obtain⟨k,_,rfl⟩:=List.mem_map.mp h;have h1:=Int.emod_nonneg (c/4+(k:Int)*gap c) (show(999:Int)≠0 by decide);have h2:=Int.emod_lt_of_pos (c/4+(k:Int)*gap c) (show(0:Int)<999 by decide);omega
theorem lM(c:Int):gap c=1\/gap c=7\/gap c=500\/gap c=998:=by
 have h:c%4=0\/c%4=1\/c%4=2\/c%4=3:=by omega
 unfold gap;rcases h with h | h | h | h <;> rw[h]
 ·exact .inl rfl
 ·exact .inr (.inl rfl)
 ·exact .inr (.inr (.inl rfl))
 ·exact .inr (.inr (.inr rfl))
theorem VB{c:Int}{m:Nat}(hm:m<=999):(aa c m).Nodup:=by
 unfold aa;refine List.pairwise_map.mpr (List.Pairwise.imp_of_mem (λ{i j} hi hj bI e=>?_) (pairwise_lt_range (n:=m)));have hi:=List.mem_range.mp hi;have hj:=List.mem_range.mp hj;rcases lM c with g | g | g | g <;> rw[g]at e <;> omega
theorem iZ{l r:List Int}(h:(l++x::r).Nodup):((l++x::r).filter λo => !decide (o=x))=l++r:=by
 rw[nodup_append]at h;obtain⟨_,n2,n3⟩:=h;rw[List.nodup_cons]at n2;rw[filter_append,filter_cons_of_neg (by simp)];congr 1
 ·exact List.filter_eq_self.mpr λy hy=>by simp;exact n3 y hy _ mem_cons_self
 ·exact List.filter_eq_self.mpr λy hy=>by simp;intro z;rw[z]at hy;exact n2.1 hy
variable {ms:List Int}
theorem qa{i:Nat}(hi:i<ms.length):ms.take i++ms.getD i 0::ms.drop (i+1)=ms:=by
 have e:ms.getD i 0=ms[i]:=by rw[getD_eq_getElem?_getD,getElem?_eq_getElem hi];rfl
 have:=take_append_drop i ms
 rwa [drop_eq_getElem_cons hi,<-e]at this
theorem Gd(h:ms.Nodup){i:Nat}(hi:i<ms.length):(ms.filter λo => !decide (o=ms.getD i 0))=ms.take i++ms.drop (i+1):=by
 have e:=qa hi;have:=iZ (l:=ms.take i) (x:=ms.getD i 0) (r:=ms.drop (i+1)) (by rw[e];exact h)
 rwa [e]at this
theorem lN{l:List Int}(h:l.Nodup)(hx:x∈l):l.count x=1:=by
 have h1:=List.nodup_iff_count.mp h x;have h2:=List.count_pos_iff.mpr hx;omega
theorem QU:∀{ms ns:List Int},ms.Nodup->(∀x∈ms,x∈ns)->ns.length<=ms.length->ms.Perm ns
 | [],ns,_,_,hl=>by
   have:ns=[]:=List.eq_nil_of_length_eq_zero (by simpa using hl);subst this;exact List.Perm.refl _
 | x::ms,ns,hn,hs,hl=>by
   have hx:x∈ns:=hs x mem_cons_self;rw[List.nodup_cons]at hn;have p:=List.perm_cons_erase hx;have ih:=QU (ms:=ms) (ns:=ns.erase x) hn.2 (λy hy=>(List.mem_erase_of_ne (by intro e;rw[e]at hy;exact hn.1 hy)).mpr (hs y (mem_cons_of_mem _ hy))) (by
    rw[List.length_erase_of_mem hx];simp at hl;omega)
   exact(ih.cons x).trans p.symm
def qb(ns:List Int):Bool:=(decide (1<=(ns.length:Int)) && decide ((ns.length:Int)<=24)) && (decide ns.Nodup && (ns.map λn=>decide (1<=n) && decide (n<=999)).all id)
theorem lO(ns:List Int):qb ns=true↔(1<=ns.length/\ns.length<=24)/\ns.Nodup/\∀n∈ns,1<=n/\n<=999:=by
 unfold qb;simp only[Bool.and_eq_true,decide_eq_true_eq,all_map,all_eq_true,Function.comp,id];constructor
 ·rintro ⟨⟨h1,h2⟩,h3,h4⟩;exact⟨⟨by omega,by omega⟩,h3,h4⟩
 ·rintro ⟨⟨h1,h2⟩,h3,h4⟩;exact⟨⟨by omega,by omega⟩,h3,h4⟩
end M1
namespace L2
open PySem PySem.Spec PyProof.Rows
inductive ic (x:V) (vs:List V) (H:Hp) (Q:VK):Prop
 | mk (l:Addr) (ns:List Int) (c:Int):x=.ref l->vs=[.int c]->H l=some (.lst (ns.map V.int))->ns.Nodup->c∈ns->(Q .bo (upd H l (.lst ((ns.filter λo => !decide (o=c)).map V.int))))->ic x vs H Q
def t6:V->List V->Hp->VK->Prop:=λx vs H Q=>ic x vs H Q
def K6(c:Int):Value->Bool
 | .int a _=>a==c
 | _=>false
theorem QV:∀{ns:List Int}{au:List Value},Vals (ns.map V.int) au->∀(i:Nat)(hi:i<au.length),∃t,au[i]=.int (ns.getD i 0) t
 | [],_,.nil,i,hi=>absurd hi (Nat.not_lt_zero _)
 | a::ns,v::au,.cons r rs,0,_=>by
   obtain⟨t,rfl⟩:=r;exact⟨t,rfl⟩
 | a::ns,v::au,.cons r rs,i+1,hi=>QV rs i (by simpa using hi)
theorem lQ{X:Cx}:Bm X "list.remove" t6:=by
 intro pins s σ H x vs v us Q I rx rv h;obtain⟨l,ns,c,rfl,rfl,hH,nd,hc,q⟩:=h;cases rx;obtain⟨u,rfl,ru⟩:=rv.one;obtain⟨t,rfl⟩:=ru;obtain⟨z,au,n,r,hl,e⟩:=I.oz hH;rw[length_map]at hl;have hj:ns.idxOf c<ns.length:=idxOf_lt_length_of_mem hc;have hg:ns.getD (ns.idxOf c) 0=c:=by
  rw[getD_eq_getElem?_getD,getElem?_eq_getElem hj];exact getElem_idxOf _
 have DH:=QV r;have er:(ns.map V.int).eraseIdx (ns.idxOf c)=(ns.filter λo => !decide (o=c)).map V.int:=by
  have f1:=M1.Gd nd hj;rw[hg]at f1;rw[f1,List.eraseIdx_eq_take_drop_succ,<-map_take,<-map_drop,map_append]
 refine call_meets F.slot_list_remove ⟨_,e,rfl⟩ F.entry_list_remove (F.args_list_remove_2 _ _)
  (MeetsSeq.list_remove l au.toArray n (.int c t) (K6 c) (λy hy=>?_) (ns.idxOf c) (by rw[size_toArray];omega) ?_ (λm hm bI=>?_) (by rw[size_toArray];rw[length_map]at z;omega)) ⟨e,?_⟩
 ·have hy:y∈au:=by simpa using hy
  obtain⟨i,hi,rfl⟩:=List.getElem_of_mem hy;obtain⟨t',et⟩:=DH i hi;rw[et];exact MeetsSeq.EqGives.int _ _ _ _
 ·obtain⟨t',et⟩:=DH (ns.idxOf c) (by omega);show K6 c (au.toArray[ns.idxOf c]'_)=true;rw[getElem_toArray,et,hg];show(c==c)=true;simp
 ·obtain⟨t',et⟩:=DH m (by omega);show K6 c (au.toArray[m]'_)=false;rw[getElem_toArray,et];show(ns.getD m 0==c)=false;have:ns.getD m 0≠c:=λw=>by
   have VC:m<ns.length:=by omega
   have e1:ns[m]=ns[ns.idxOf c]:=by
    rw[getElem_idxOf];rw[getD_eq_getElem?_getD,getElem?_eq_getElem VC]at w;exact w
   have:=(getElem_inj nd).mp e1;omega
  simpa using this
 rw[<-er]at q;refine⟨.bo,_,I.xS (its':=au.eraseIdx (ns.idxOf c)) hH e ?_ (r.eraseIdx (ns.idxOf c)) ?_,rfl,q⟩
 ·show au.toArray.eraseIdxIfInBounds (ns.idxOf c)=(au.eraseIdx (ns.idxOf c)).toArray;rw[List.eraseIdxIfInBounds_toArray]
 ·have:=JP (ns.map V.int) (ns.idxOf c);omega
inductive qc (K:Frag) (x y:V) (H:Hp) (Q:VK):Prop
 | mk (a:_) (b:_) (xs:_):x=.ref a->y=.ref b->ag K H a xs->ag K H b []->Q (.bl (!decide (xs.length=0))) H->qc K x y H Q
def DI(K:Frag):R2:=λx y H Q=>qc K x y H Q
theorem VD{X:Cx}(hu:X.A.units<cLine):cV X (compareOp .NotEq) (DI X.K):=by
 intro pins s σ H x y v u Q I rx ry h;obtain⟨a,b,xs,rfl,rfl,ha,hb,q⟩:=h;cases xs with
 | nil=>exact wz hu pins s σ H _ _ v u Q I rx ry ⟨a,b,[],[],rfl,rfl,ha,hb,rfl,rfl,q⟩
 | cons z xs =>
   cases rx;cases ry;obtain⟨au,r1,p1,z1⟩:=I.list ha;obtain⟨dE,r2,p2,z2⟩:=I.list hb;have l1:=r1.length;have l2:=r2.length;exact SeqAt.RcNeAt.lists_lengths p1.isList p2.isList (by simp at l1 l2;simp;omega) hu _ _ _ _ ⟨.bl true,H,I,rfl,q⟩
structure DF (K:Frag) (x:Str) (st:Stmt) (ps:List Str):Prop where
 ex:∃f fd,nsIn K mainGlobals x=some (some (.ref f))/\aN K x x st f fd/\Binds K fd ps []
structure DM (K:Frag) (C:Addr) (m qual:Str) (st:Stmt) (ps:List Str):Prop where
 ex:∃f fd,PySem.W.findIn K (.ref C) m=some (some (.ref f))/\isFn K (.ref f)=true/\aN K m qual st f fd/\Binds K fd ps []
section
variable {K:Frag}{st:Stmt}{f C:Addr}{oc:Value}{od an:Option Addr}{gI:Array (Option Value)}{kV doc pm aE ct:Value}{ps:List Str}
theorem df{x:Str}(a:nsIn K mainGlobals x=some (some (.ref f)))(l:K.lookup f=some ⟨oc,od,.func (fnOf x x (oB st) (wu st) (zf st) .none kV doc pm an aE ct),gI⟩)(c:codeIn K aE x=true)(k:keepIn K (.ref f)=true)
 (h:∀(kV doc pm:Value)(an:Option Addr)(aE ct:Value)(us:List Value),us.length=ps.length->bindArgs (fnOf x x (oB st) (wu st) (zf st) .none kV doc pm an aE ct) ⟨us,[]⟩=pure (ps.zip us)):DF K x st ps:=⟨⟨f,_,a,Bo l c k,(Bo l c k).binds h⟩⟩
theorem dm{m qual:Str}(a:PySem.W.findIn K (.ref C) m=some (some (.ref f)))(i:isFn K (.ref f)=true)(l:K.lookup f=some ⟨oc,od,.func (fnOf m qual (oB st) (wu st) (zf st) .none kV doc pm an aE ct),gI⟩)(c:codeIn K aE qual=true)(k:keepIn K (.ref f)=true)
 (h:∀(kV doc pm:Value)(an:Option Addr)(aE ct:Value)(us:List Value),us.length=ps.length->bindArgs (fnOf m qual (oB st) (wu st) (zf st) .none kV doc pm an aE ct) ⟨us,[]⟩=pure (ps.zip us)):DM K C m qual st ps:=⟨⟨f,_,a,i,Bo l c k,(Bo l c k).binds h⟩⟩
end
section
variable {K:Frag}{mg:Str->Option Value}{st:Stmt}{C:Addr}{ps:List Str}{k:Nat}{sp:Sp}{h:Heap}{x m qual:Str}(P:Program)(w:World)(base:Heap)
theorem zU(X:K.In h)(G:h.Ns mainGlobals mg)(d:DF K x st ps)(g:∀{f fd},aN K x x st f fd->av P w K mg base aQ k f fd ps sp):aB P w K mg base k x ps sp:=by
 obtain⟨f,fd,a,F,b⟩:=d.ex;exact aB.of F (g F) (mg_of X G a) b
theorem DJ(X:K.In h)(G:h.Ns mainGlobals mg)(d:DF K x st ps)(g:∀{f fd},aN K x x st f fd->av P w K mg base (fC P w) k f fd ps sp):kX P w K mg base k x ps sp:=by
 obtain⟨f,fd,a,F,b⟩:=d.ex;exact kX.of F (g F) (mg_of X G a) b
theorem Au(hC:zL K x=C)(d:DM K C m qual st ps)(g:∀{f fd},aN K m qual st f fd->av P w K mg base aQ k f fd ps sp):bD P w K mg base k (zL K x) m ps sp:=by
 obtain⟨f,fd,a,i,F,b⟩:=d.ex;exact bD.of hC (g F) ⟨a,i,F.kp⟩ b
theorem DK(hC:zL K x=C)(d:DM K C m qual st ps)(g:∀{f fd},aN K m qual st f fd->av P w K mg base (fC P w) k f fd ps sp):br P w K mg base k (zL K x) m ps sp:=by
 obtain⟨f,fd,a,i,F,b⟩:=d.ex;exact br.of hC (g F) ⟨a,i,F.kp⟩ b
theorem K7(hC:zL K x=C)(X:K.In h)(G:h.Ns mainGlobals mg)(ha:nsIn K mainGlobals x=some (some (.ref C)))(mk:makesIn K C=true)(kc:keepIn K (.ref C)=true)(d:DM K C "__init__" qual st ps)(g:∀{f fd},aN K "__init__" qual st f fd->av P w K mg base (fC P w) k f fd ps sp):lC P w K mg base k x (zL K x) ps sp:=by
 obtain⟨f,fd,a,i,F,b⟩:=d.ex;exact lC.of hC (g F) (mg_of X G ha) ⟨mk,a,i,kc⟩ b
end
section
variable {P:List Value->Prop}
theorem on0(p:P []):∀us:List Value,us.length=0->P us
 | [],_=>p
theorem onS{n:Nat}(p:∀(a:Value)(us:List Value),us.length=n->P (a::us)):∀us:List Value,us.length=n+1->P us:=by
 intro us e;cases us with
 | nil=>cases e
 | cons a r=>exact p a r (Nat.succ.inj e)
end
theorem aW{N P:List Str}{sc:Scope}(a1:sc.kind=.function:=by exact rfl)(a2:sc.isCoroutine=false:=by exact rfl)(a3:sc.isGenerator=false:=by exact rfl)(a4:N.Nodup:=by decide +kernel)(a5:N.take P.length=P:=by exact rfl)(a6:∀x∈P,sc.names.lookup x=some .local\/sc.names.lookup x=some .cell:=by decide +kernel)(a7:∀y∈sc.names,y.2 ≠ .free:=by decide +kernel):ah N P sc:=⟨a1,a2,a3,a4,a5,a6,a7⟩
section
variable {sc:Scope}{N:List Str}{x x2:Str}{fr:List Str}{ix:List Nat}{scope:Scope}
theorem cm(a1:scope.kind=.function:=by exact rfl)(a2:∀y∈scope.names,y.2 ≠ .cell:=by decide +kernel)(a3:∀y∈scope.names,y.2=.local->scope.names.lookup y.1=some .local:=by decide +kernel)(a4:scope.names.lookup x=some .local:=by exact rfl)(a5:∀y∈scope.names,y.2=.free->sc.names.lookup y.1=some .cell\/sc.names.lookup y.1=some .free:=by decide +kernel)
 (a6:fr.map some=ix.map λi=>N[i]? := by exact rfl) (a7:∀y∈fr,scope.names.lookup y=some .free/\(sc.names.lookup y=some .cell\/sc.names.lookup y=some .free):=by decide +kernel) (a8:(x::fr).Nodup:=by decide +kernel):ak sc N x fr ix scope:=⟨a1,a2,a3,a4,a5,a6,a7,a8⟩
theorem K8(a1:scope.kind=.function:=by exact rfl)(b1:∀a acc,cellsFrom a scope.names acc=(x,a)::acc:=by exact λ_ _=>rfl)(b2:∀h:Heap,pushCells h scope.names=h.push { cls:=.type "cell",data:=.cell none }:=by exact λ_=>rfl)(b3:∀y∈scope.names,y.2=.cell->y.1=x:=by decide +kernel)(a3:∀y∈scope.names,y.2=.local->scope.names.lookup y.1=some .local:=by decide +kernel)(a4:scope.names.lookup x=some .cell:=by exact rfl)(a5:∀y∈scope.names,y.2=.free->sc.names.lookup y.1=some .cell\/sc.names.lookup y.1=some .free:=by decide +kernel)
 (a6:fr.map some=ix.map λi=>N[i]? := by exact rfl) (a7:∀y∈fr,scope.names.lookup y=some .free/\(sc.names.lookup y=some .cell\/sc.names.lookup y=some .free):=by decide +kernel) (a8:(x::fr).Nodup:=by decide +kernel):aY sc N x fr ix scope:=⟨a1,b1,b2,b3,a3,a4,a5,a6,a7,a8⟩
theorem qd(a1:scope.kind=.function:=by exact rfl)(a2:∀y∈scope.names,y.2 ≠ .cell:=by decide +kernel)(a3:∀y∈scope.names,y.2=.local->scope.names.lookup y.1=some .local:=by decide +kernel)(a4:scope.names.lookup x=some .local:=by exact rfl)(b4:scope.names.lookup x2=some .local:=by exact rfl)(a5:∀y∈scope.names,y.2=.free->sc.names.lookup y.1=some .cell\/sc.names.lookup y.1=some .free:=by decide +kernel)
 (a6:fr.map some=ix.map λi=>N[i]? := by exact rfl) (a7:∀y∈fr,scope.names.lookup y=some .free/\(sc.names.lookup y=some .cell\/sc.names.lookup y=some .free):=by decide +kernel) (a8:(x::x2::fr).Nodup:=by decide +kernel):aH sc N x x2 fr ix scope:=⟨a1,a2,a3,a4,b4,a5,a6,a7,a8⟩
end
section
variable {X:Cx}{e:Expr}{p pos:Pos}{te:TE}
theorem zT(hm:X.mg "len"=none)(he:PE X e te)(hg:Gl X "len":=by rfl)(hs:starEach [e] X.env=(false,eval e X.env)::starEach [] X.env:=by rfl)(hpl:(backTo pos (starEach [] X.env)).any (·.1)=false:=by rfl):
 PE X (.Call (.Name "len" p) [e] [] pos) (FI (bp X.K) (n9 te kO)):=zD PY hg hm PySem.boot_len (za he zb (hs:=hs)) (he:=hs) (hpl:=hpl)
theorem j4{K:Frag}(hK:X.K=K)(hm:X.mg "len"=none)(he:PE X e te)(hg:Gl X "len":=by rfl)(hs:starEach [e] X.env=(false,eval e X.env)::starEach [] X.env:=by rfl)(hpl:(backTo pos (starEach [] X.env)).any (·.1)=false:=by rfl):
 PE X (.Call (.Name "len" p) [e] [] pos) (FI (bp K) (n9 te kO)):=zD (UI hK) hg hm PySem.boot_len (za he zb (hs:=hs)) (he:=hs) (hpl:=hpl)
end
section
variable {κ:Type} [DecidableEq κ]
def dH(aw:List (κ×V))(k:κ):Option V:=(aw.find? λkv=>decide (kv.1=k)).map (·.2)
def fN(aw:List (κ×V))(k:κ)(v:V):List (κ×V) :=
 if(aw.any λkv=>decide (kv.1=k))=true then aw.map (λkv=>if kv.1=k then(kv.1,v)else kv)else aw++[(k,v)]
theorem wy{p:κ×V}{r:List (κ×V)}{k:κ}(e:p.1=k):dH (p::r) k=some p.2:=by simp[dH,find?_cons,e]
theorem wE{p:κ×V}{r:List (κ×V)}{k:κ}(e:¬p.1=k):dH (p::r) k=dH r k:=by simp[dH,find?_cons,e]
theorem DL(k:κ):∀aw:List (κ×V),(aw.any λkv=>decide (kv.1=k))=(dH aw k).isSome
 | []=>rfl
 | p::r=>by
   rw[any_cons];by_cases e:p.1=k
   ·simp only[wy e,decide_eq_true e,Bool.true_or,Option.isSome_some]
   ·rw[wE e,decide_eq_false e,Bool.false_or];exact DL k r
theorem QW(k j:κ)(y:V):∀aw:List (κ×V),dH (aw.map λkv=>if kv.1=k then(kv.1,y)else kv) j=(dH aw j).map λx=>if j=k then y else x
 | []=>rfl
 | p::r=>by
   have ih:=QW k j y r;rw[map_cons];by_cases h:p.1=k
   ·rw[if_pos h];by_cases e:p.1=j
    ·rw[wy (p:=(p.1,y)) e,wy e,Option.map_some,if_pos (e.symm.trans h)]
    ·rw[wE (p:=(p.1,y)) e,wE e,ih]
   ·rw[if_neg h];by_cases e:p.1=j
    ·rw[wy (p:=p) e,wy e,Option.map_some,if_neg (λz=>h (e.trans z))]
    ·rw[wE (p:=p) e,wE e,ih]
theorem QX(k j:κ)(y:V):∀aw:List (κ×V),dH aw k=none->dH (aw++[(k,y)]) j=if j=k then some y else dH aw j
 | [],_=>by
   by_cases e:k=j
   ·rw[if_pos e.symm];exact wy (p:=(k,y)) e
   ·rw[if_neg (λz=>e z.symm)];exact wE (p:=(k,y)) e
 | p::r,hn=>by
   rw[cons_append];have hk:¬p.1=k:=λz=>by rw[wy z]at hn;cases hn
   rw[wE hk]at hn;have ih:=QX k j y r hn;by_cases e:p.1=j
   ·rw[wy e,wy e,if_neg (λz=>hk (e.trans z))]
   ·rw[wE e,wE e,ih]
theorem Ge(aw:List (κ×V))(k j:κ)(y:V):dH (fN aw k y) j=if j=k then some y else dH aw j:=by
 unfold fN;by_cases a:(aw.any λkv=>decide (kv.1=k))=true
 ·rw[if_pos a,QW];rw[DL]at a;by_cases e:j=k
  ·obtain⟨x,hx⟩:=Option.isSome_iff_exists.mp a;rw[if_pos e,e,hx,Option.map_some,if_pos rfl]
  ·rw[if_neg e];cases dH aw j with
   | none=>rfl
   | some x=>rw[Option.map_some,if_neg e]
 ·rw[if_neg a];refine QX k j y aw ?_;rw[DL]at a;cases q:dH aw k with
  | none=>rfl
  | some x=>rw[q]at a;exact(a rfl).elim
theorem La(aw:List (κ×V))(k:κ)(v:V):(fN aw k v).length<=aw.length+1:=by
 unfold fN;split
 ·rw[length_map];omega
 ·rw[length_append,length_cons,length_nil];omega
theorem cX.cb{o:Option V}{u:Option Value}(r:cX o u):o.isSome=u.isSome:=by
 cases o with
 | none=>cases u with
   | none=>rfl
   | some _=>exact(show False from r).elim
 | some _=>cases u with
   | none=>exact(show False from r).elim
   | some _=>rfl
theorem KV.val{aw:List (κ×V)}{vs:List (κ×Value)}(r:KV aw vs)(k:κ):cX (dH aw k) (valueAt vs k):=by
 unfold KV at r
 induction r with
 | nil=>exact True.intro
 | @cons p q ps qs h t ih =>
   obtain⟨h1,h2⟩:=h;by_cases e:p.1=k
   ·have e':q.1=k:=h1.symm.trans e;have b:valueAt (q::qs) k=some q.2:=by simp[valueAt,find?_cons,e']
    rw[wy e,b];exact h2
   ·have e':¬q.1=k:=λz=>e (h1.trans z);have b:valueAt (q::qs) k=valueAt qs k:=by simp[valueAt,find?_cons,e']
    rw[wE e,b];exact ih
theorem KV.any{aw:List (κ×V)}{vs:List (κ×Value)}(r:KV aw vs)(k:κ):(aw.any λkv=>decide (kv.1=k))=vs.any λkv=>decide (kv.1=k):=by
 unfold KV at r
 induction r with
 | nil=>rfl
 | cons h t ih=>rw[any_cons,any_cons,ih,h.1]
theorem KV.Av{aw:List (κ×V)}{vs:List (κ×Value)}(r:KV aw vs)(k:κ){y:V}{u:Value}(ry:RelV y u):
 KV (aw.map λkv=>if kv.1=k then(kv.1,y)else kv) (vs.map λkv=>if kv.1=k then(kv.1,u)else kv):=by
 unfold KV at r ⊢
 induction r with
 | nil=>exact .nil
 | @cons p q ps qs h t ih =>
   rw[map_cons,map_cons];refine .cons ?_ ih;obtain⟨h1,h2⟩:=h;by_cases e:p.1=k
   ·rw[if_pos e,if_pos (h1.symm.trans e)];exact⟨h1,ry⟩
   ·rw[if_neg e,if_neg (λz=>e (h1.trans z))];exact⟨h1,h2⟩
theorem KV.put{aw:List (κ×V)}{vs:List (κ×Value)}(r:KV aw vs)(k:κ){y:V}{u:Value}(ry:RelV y u):KV (fN aw k y) (stored vs k u):=by
 unfold fN stored;rw[r.any k];by_cases e:(vs.any λkv=>decide (kv.1=k))=true
 ·rw[if_pos e,if_pos e];exact r.Av k ry
 ·rw[if_neg e,if_neg e];exact Paired.snoc r ⟨rfl,ry⟩
theorem KV.length{aw:List (κ×V)}{vs:List (κ×Value)}(r:KV aw vs):aw.length=vs.length:=Paired.length r
end
variable {P:Program}{w:World}{u:Value}
theorem DN{k:Key}(r:RelV (kV k) u):(wM P w).is k u=true:=by
 cases k with
 | inl i=>obtain⟨t,e⟩:=(show ∃t,u=Value.int i t from r);subst e;exact TU P w i t
 | inr x=>obtain⟨t,e⟩:=(show ∃t,u=Value.str x t from r);subst e;exact TV P w x t
theorem QY:∀{ks:List Key}{us:List Value},Vals (ks.map kV) us->ItemsAre (wM P w) ks us
 | [],_,r=>by rw[map_nil]at r;cases r;exact .nil
 | k::ks,_,r=>by
   rw[map_cons]at r;cases r with
   | cons h t=>exact .cons (DN h) (QY t)
abbrev KT(H:Hp):List (List Key×V)->List (List Key×Addr×Value)->Prop:=Paired λp q=>p.1=q.1/\H q.2.1=some (.tup (p.1.map kV))/\RelV p.2 q.2.2
variable {H:Hp}{aw:List (List Key×V)}{xs:List (List Key×Addr×Value)}
theorem KT.val(r:KT H aw xs)(k:List Key):cX (dH aw k) ((atKey xs k).map (·.2)):=by
 induction r with
 | nil=>exact True.intro
 | @cons p q ps qs h t ih =>
   obtain⟨h1,_,h2⟩:=h;by_cases e:p.1=k
   ·have e':q.1=k:=h1.symm.trans e;have b:atKey (q::qs) k=some q.2:=by simp[atKey,find?_cons,e']
    rw[wy e,b];exact h2
   ·have e':¬q.1=k:=λz=>e (h1.trans z);have b:atKey (q::qs) k=atKey qs k:=by simp[atKey,find?_cons,e']
    rw[wE e,b];exact ih
theorem KT.Av(r:KT H aw xs)(k:List Key){y:V}(ry:RelV y u):
 KT H (aw.map λkv=>if kv.1=k then(kv.1,y)else kv) (xs.map (putAt k u)):=by
 induction r with
 | nil=>exact .nil
 | @cons p q ps qs h t ih =>
   rw[map_cons,map_cons];refine .cons ?_ ih;obtain⟨h1,h2,h3⟩:=h;unfold putAt;by_cases e:p.1=k
   ·rw[if_pos e,if_pos (h1.symm.trans e)];exact⟨h1,h2,ry⟩
   ·rw[if_neg e,if_neg (λz=>e (h1.trans z))];exact⟨h1,h2,h3⟩
theorem KT.put(r:KT H aw xs)(k:List Key){b:Addr}{y:V}(hb:H b=some (.tup (k.map kV)))(ry:RelV y u):
 KT H (fN aw k y) (storedH xs k b u):=by
 have e:(aw.any λkv=>decide (kv.1=k))=(atKey xs k).isSome:=by
  rw[DL,(r.val k).cb,Option.isSome_map]
 unfold fN storedH;rw[e];by_cases q:(atKey xs k).isSome=true
 ·rw[if_pos q,if_pos q];exact r.Av k ry
 ·rw[if_neg q,if_neg q];exact Paired.snoc r ⟨rfl,hb,ry⟩
theorem KT.keeps{H':Hp}(r:KT H aw xs)(ht:∀b ys,H b=some (.tup ys)->H' b=some (.tup ys)):KT H' aw xs :=
 Paired.xq r λ_ _ z=>⟨z.1,ht _ _ z.2.1,z.2.2⟩
section
variable {P:Program}{w:World}{H:Hp}{h:Heap}{a:Addr}
theorem vO{u:HO}(ok:cE P w H h)(e:Rd H a u):aX P w H h a u:=e.ok ok
variable {aw:List (Key×V)}
theorem DO(ok:cE P w H h)(e:Rd H a (.dK aw)):aw.length<=sizeLine/\(a==sysModules)=false/\∃vs,KV aw vs/\h.DictOf (wM P w) a vs :=
 show aX P w H h a (.dK aw)from vO ok e
theorem DP(ok:cE P w H h)(e:H a=some (.dK aw)):aw.length<=sizeLine/\(a==sysModules)=false/\∃vs,KV aw vs/\h.DictOf (wM P w) a vs:=DO ok (.inl e)
theorem DQ{ks:List Key}(ok:cE P w H h)(e:H a=some (.tup (ks.map kV))):(tupleKind (wM P w)).is h ks a:=by
 obtain⟨_,au,r,o,h1,h2,n,h3⟩:=(show aX P w H h a (.tup (ks.map kV))from ok a _ e);exact⟨o,au.toArray,n,h1,h2,h3,by simpa using QY r⟩
theorem DR{aw:List (List Key×V)}(ok:cE P w H h)(e:Rd H a (.dT aw)):aw.length<=sizeLine/\(a==sysModules)=false /\
 ∃xs,KT H aw xs/\h.DictOfH (tupleKind (wM P w)) a xs:=by
 obtain⟨z,y,xs,r,o,es,ep,h1,h2,h3,h4,h5⟩:=(show aX P w H h a (.dT aw)from vO ok e);refine⟨z,y,xs,r,o,es,ep,h1,h2,h3,h4,λx hx=>?_,h5⟩;have all:∀{l:List (List Key×V)} {m:List (List Key×Addr×Value)},KT H l m->∀x∈m,(tupleKind (wM P w)).is h x.1 x.2.1:=by
  intro l m q
  induction q with
  | nil=>intro x hx;exact nomatch hx
  | @cons p q ps qs hq t ih =>
    intro x hx;rcases List.mem_cons.mp hx with e | hx
    ·subst e;exact DQ ok (by rw[<-hq.1];exact hq.2.1)
    ·exact ih x hx
 exact all r x hx
theorem DS{aw:List (List Key×V)}(ok:cE P w H h)(e:H a=some (.dT aw)):aw.length<=sizeLine/\(a==sysModules)=false /\
 ∃xs,KT H aw xs/\h.DictOfH (tupleKind (wM P w)) a xs:=DR ok (.inl e)
end
def dI(H:Hp)(a:Addr)(y:V)(r:Option V):Prop :=
 (∃aw k,Rd H a (.dK aw)/\y=kV k/\r=dH aw k)\/∃aw k b,Rd H a (.dT aw)/\y=.ref b/\H b=some (.tup (k.map kV))/\r=dH aw k
def lR(H:Hp)(a:Addr)(y v:V)(H':Hp):Prop :=
 (∃aw k,H a=some (.dK aw)/\y=kV k/\aw.length<sizeLine/\H'=upd H a (.dK (fN aw k v))) \/
 ∃aw k b,H a=some (.dT aw)/\y=.ref b/\H b=some (.tup (k.map kV))/\aw.length<sizeLine/\H'=upd H a (.dT (fN aw k v))
theorem dI.k{H:Hp}{a:Addr}{aw:List (Key×V)}{k:Key}(e:H a=some (.dK aw)):dI H a (kV k) (dH aw k):=.inl ⟨aw,k,.inl e,rfl,rfl⟩
theorem lR.k{H:Hp}{a:Addr}{aw:List (Key×V)}{k:Key}{v:V}(e:H a=some (.dK aw))(hl:aw.length<sizeLine):lR H a (kV k) v (upd H a (.dK (fN aw k v))):=.inl ⟨aw,k,e,rfl,hl,rfl⟩
section
variable {X:Cx}{pins:List (Addr×Obj)}{σ:St}{H:Hp}{s:Shared}{a:Addr}{y v:V}{u r:Value}{o:Option V}{A:Around}{E:Value->Shared->Prop}
theorem Inv.big(I:Inv X pins σ H s):sysModules<s.heap.objs.size:=by
 have h:mainGlobals<s.heap.objs.size:=(I.mod.glob.keeps I.bk).lt;exact lt_trans (by decide) h
variable {Q:Value->Shared->Prop}
theorem lT(hu:A.units+1<cLine)(I:Inv X pins σ H s)(g:dI H a y (some v))(ry:RelV y u)(h:∀w' s',Inv X pins σ H s'->RelV v w'->Q w' s'):
 wpAny (model X.prog X.w) A (getItem (.ref a) u) Q E s:=by
 rcases g with⟨aw,k,e,ey,l⟩|⟨aw,k,b,e,ey,eb,l⟩
 ·subst ey;obtain⟨z,hd,vs,rel,dd⟩:=DO I.aC e;obtain⟨w',hw,kQ⟩:=cX.some_of (v:=v) (o:=valueAt vs k) (by rw[l];exact rel.val k);exact wpAny_getItem_of (DN ry) dd.mapOf hw (h w' _ (I.tok _) kQ)
 ·subst ey;cases (show u=Value.ref b from ry);obtain⟨z,hd,xs,rel,dd⟩:=DR I.aC e;obtain⟨w',hw,kQ⟩:=cX.some_of (v:=v) (o:=(atKey xs k).map (·.2)) (by rw[l];exact rel.val k);obtain⟨p,hp,fO⟩:=Option.map_eq_some_iff.mp hw;refine wpAny_getItem_heap (tupleKind_room_in1 hu) (DQ I.aC eb) dd hp ?_;rw[fO];exact h w' _ (I.tok _) kQ
theorem Lb(hu:A.units+1<cLine)(I:Inv X pins σ H s)(g:dI H a y o)(ry:RelV y u)(h:∀s',Inv X pins σ H s'->Q (.bool o.isSome) s'):
 wpAny (model X.prog X.w) A (compareOp .In u (.ref a)) Q E s:=by
 rcases g with⟨aw,k,e,ey,l⟩|⟨aw,k,b,e,ey,eb,l⟩
 ·subst ey;obtain⟨z,hd,vs,rel,dd⟩:=DO I.aC e;refine wpAny_in_of (DN ry) hd dd.mapOf ?_;rw[<-(rel.val k).cb,<-l];exact h _ (I.tok _)
 ·subst ey;cases (show u=Value.ref b from ry);obtain⟨z,hd,xs,rel,dd⟩:=DR I.aC e;refine wpAny_in_heap (tupleKind_room_in1 hu) (DQ I.aC eb) hd dd ?_;have q:=(rel.val k).cb;rw[Option.isSome_map]at q;rw[<-q,<-l];exact h _ (I.tok _)
theorem ua(hu:A.units+1<cLine)(I:Inv X pins σ H s)(g:dI H a y o)(ry:RelV y u)(h:∀s',Inv X pins σ H s'->Q (.bool (!o.isSome)) s'):
 wpAny (model X.prog X.w) A (compareOp .NotIn u (.ref a)) Q E s:=by
 rcases g with⟨aw,k,e,ey,l⟩|⟨aw,k,b,e,ey,eb,l⟩
 ·subst ey;obtain⟨z,hd,vs,rel,dd⟩:=DO I.aC e;refine wpAny_notIn_of (DN ry) hd dd.mapOf ?_;rw[<-(rel.val k).cb,<-l];exact h _ (I.tok _)
 ·subst ey;cases (show u=Value.ref b from ry);obtain⟨z,hd,xs,rel,dd⟩:=DR I.aC e;refine wpAny_notIn_heap (tupleKind_room_in1 hu) (DQ I.aC eb) hd dd ?_;have q:=(rel.val k).cb;rw[Option.isSome_map]at q;rw[<-q,<-l];exact h _ (I.tok _)
theorem j5{h':Heap}{t':Nat}{ob:HO}(I:Inv X pins σ H s)(mu:B9 (H a))(hs:SameBut a s.heap h')(he:∃q,h'.get? a=some q)(new:aX X.prog X.w (upd H a ob) h' a ob):
 Inv X pins σ (upd H a ob) { s with heap:=h',toks:=t' } :=
 I.write (x:=a) (e:=a) mu (.inl rfl) (λb q hb z=>(hs.2 b hb).trans z) he new
theorem Aw{P:Program}{w:World}{H':Hp}{h':Heap}{aw:List (Key×V)}{vs:List (Key×Value)}(z:aw.length<=sizeLine)(hd:(a==sysModules)=false)(rel:KV aw vs)(dd:h'.DictOf (wM P w) a vs):
 aX P w H' h' a (.dK aw):=⟨z,hd,vs,rel,dd⟩
theorem lU{H':Hp}{Q:Unit->Shared->Prop}(hu:A.units+1<cLine)(I:Inv X pins σ H s)(g:lR H a y v H')(ry:RelV y u)(rv:RelV v r)(h:∀s',Inv X pins σ H' s'->Q () s'):
 wpAny (model X.prog X.w) A (setItem (.ref a) u r) Q E s:=by
 rcases g with⟨aw,k,e,ey,l,eH⟩|⟨aw,k,b,e,ey,eb,l,eH⟩
 ·subst ey eH;obtain⟨z,hd,vs,rel,dd⟩:=DP I.aC e;have hz:vs.length<=sizeLine:=by rw[<-rel.length];exact z
  have hl:(fN aw k v).length<=sizeLine:=by have:=La aw k v;omega
  refine wpAny_setItem_pairs (hsz:=hz) (DN ry) dd λh' Di hs=>h _ ?_;have he:∃q,h'.get? a=some q:=let ⟨q,_,_,hq,_⟩:=Di;⟨q,hq⟩;exact j5 I (by rw[e];exact True.intro) hs he (Aw hl hd (rel.put k rv) Di)
 ·subst ey eH;cases (show u=Value.ref b from ry);obtain⟨z,hd,xs,rel,dd⟩:=DS I.aC e;have hz:xs.length<=sizeLine:=by rw[<-Paired.length rel];exact z
  have hl:(fN aw k v).length<=sizeLine:=by have:=La aw k v;omega
  refine wpAny_setItem_heap (hsz:=hz) (tupleKind_room_in1 hu) (DQ I.aC eb) dd λh' Di hs=>h _ ?_;obtain⟨q,es,ep,hq,h2,h3,h4,_,h5⟩:=Di;refine j5 I (by rw[e];exact True.intro) hs ⟨q,hq⟩ ⟨hl,hd,_,(rel.put k eb rv).keeps λc ys ec=>?_,q,es,ep,hq,h2,h3,h4,h5⟩;rw[zh (yV ec e (λz=>nomatch z))];exact ec
end
section
variable {X:Cx}{pins:List (Addr×Obj)}{σ:St}{H:Hp}{s:Shared}{a:Addr}{aw:List (Key×V)}{k:Key}{u:Value}{A:Around}{E:Value->Shared->Prop}
end
def DT(i:Expr):Prop:=∀ov iv,subscripted i false ov iv=operate [ov,iv] (getItem ov iv)
theorem ub{prog:Program}{A:Around}{E:Value->Shared->Prop}{s:Shared}{env:Env}{value slice:Expr}{pos:Pos}{T id:String}{Q:Value->Shared->Prop}
 (hl:typeLookup (.type T) "__getitem__"=pure (some (.builtin id))) (hs:DT slice)
 (h:wpAny (model prog w) A (eval value env) (λo s₁=>wpAny (model prog w) A (eval slice env) (λi s₂=>s₂.TypeIs o T/\wpAny (model prog w) A (getItem o i) Q E s₂) E s₁) E s) :
 wpAny (model prog w) A (eval (.Subscript value slice pos) env) Q E s:=by
 refine Subscript_ (wpAny_mono h (λo s₁ h₁=>wpAny_mono h₁ (λi s₂ h₂=>?_) λ_ _ x=>x) λ_ _ x=>x);obtain⟨hT,h₂⟩:=h₂;unfold subscriptTail;refine wpAny_bind ?_;rw[getitemInPython_of_ne hT.not_modules];refine wpAny_bind (wpAny_specialOf hT hl ?_);have fin:wpAny (model prog w) A (subscripted slice false o i) (λr s₃=>wpAny (model prog w) A (letTemporaryGo value o r >>= λ_=>pure r) Q E s₃) E s₂:=by
  rw[hs o i];exact wpAny_operating (wpAny_mono h₂ (λr s₃ h₃=>wpAny_bind (wpAny_letTemporaryGo (wpAny_pure h₃))) λ_ _ x=>x)
 first
  | exact wpAny_pure (wpAny_bind fin)
  | exact wpAny_bind (wpAny_pure (wpAny_bind fin))
  | exact wpAny_bind fin
theorem VE{X:Cx}{pins:List (Addr×Obj)}{σ:St}{s:Shared}{a:Addr}{y:V}{o:Option V}(I:Inv X pins σ H s)(g:dI H a y o):s.TypeIs (.ref a) "dict":=by
 rcases g with⟨aw,k,e,_,_⟩|⟨aw,k,b,e,_,_,_⟩
 ·obtain⟨_,_,vs,_,dd⟩:=DO I.aC e;exact dd.typeIs
 ·obtain⟨_,_,xs,_,dd⟩:=DR I.aC e;exact dd.typeIs
def DU(td ty:TE):TE:=λσ H Q=>td σ H λx H1=>ty σ H1 λy H2=>∃a v,x=.ref a/\dI H2 a y (some v)/\Q v H2
def Lc(ty td:TE):TE:=λσ H Q=>ty σ H λy H1=>td σ H1 λx H2=>∃a o,x=.ref a/\dI H2 a y o/\Q (.bl o.isSome) H2
def uc(ty td:TE):TE:=λσ H Q=>ty σ H λy H1=>td σ H1 λx H2=>∃a o,x=.ref a/\dI H2 a y o/\Q (.bl (!o.isSome)) H2
def DV(td ty tv:TE):TS:=λD σ H=>tv σ H λv H1=>td σ H1 λx H2=>ty σ H2 λy H3=>∃a H4,x=.ref a/\lR H3 a y v H4/\D.nx σ H4
section
variable {X:Cx}{o i e value:Expr}{pos pos' JD:Pos}{td ty tv:TE}
theorem j6(hu:X.A.units+1<cLine)(ho:PE X o td)(hi:PE X i ty)(hs:DT i):PE X (.Subscript o i pos) (DU td ty):=by
 intro pins s σ H Q I h;refine ub PySem.F.slot_dict_getitem.lookup hs (aF (ho pins s σ H _ I h) λu s1 ⟨x,H1,I1,rx,q1⟩=>aF (hi pins s1 σ H1 _ I1 q1) λiv s2 ⟨y,H2,I2,ry,a,v,ex,g,q2⟩=>?_);subst ex;obtain rfl:u=Value.ref a:=rx;exact⟨VE I2 g,lT hu I2 g ry λw' s3 I3 kQ=>⟨v,H2,I3,kQ,q2⟩⟩
theorem Ax(hu:X.A.units+1<cLine)(hi:PE X i ty)(ho:PE X o td):PC X .In i o (Lc ty td):=by
 intro pins s σ H Q I h;refine aF (hi pins s σ H _ I h) λiv s1 ⟨y,H1,I1,ry,q1⟩=>aF (ho pins s1 σ H1 _ I1 q1) λu s2 ⟨x,H2,I2,rx,a,ov,ex,g,q2⟩=>?_;subst ex;obtain rfl:u=Value.ref a:=rx;exact Lb hu I2 g ry λs3 I3=>⟨.bl ov.isSome,H2,I3,rfl,q2⟩
theorem lV(hu:X.A.units+1<cLine)(hi:PE X i ty)(ho:PE X o td):PC X .NotIn i o (uc ty td):=by
 intro pins s σ H Q I h;refine aF (hi pins s σ H _ I h) λiv s1 ⟨y,H1,I1,ry,q1⟩=>aF (ho pins s1 σ H1 _ I1 q1) λu s2 ⟨x,H2,I2,rx,a,ov,ex,g,q2⟩=>?_;subst ex;obtain rfl:u=Value.ref a:=rx;exact ua hu I2 g ry λs3 I3=>⟨.bl (!ov.isSome),H2,I3,rfl,q2⟩
theorem j7(hu:X.A.units+1<cLine)(ho:PE X o td)(hi:PE X i ty)(hv:PE X value tv)(hs:swapsWith value (some (.Subscript o i pos')) pos.line X.env=pure false):
 PS X (.Assign [.Subscript o i pos'] value pos) (DV td ty tv):=by
 intro pins s σ H D I h;refine wpAny_Assign_Subscript (aF (hv pins s σ H _ I h) λr s1 ⟨v,H1,I1,rv,q1⟩=>aF (ho pins s1 σ H1 _ I1 q1) λu s2 ⟨x,H2,I2,rx,q2⟩=>aF (hi pins s2 σ H2 _ I2 q2) λiv s3 ⟨y,H3,I3,ry,a,H4,ex,g,q3⟩=>?_) hs;subst ex;obtain rfl:u=Value.ref a:=rx;exact lU hu I3 g ry rv λs4 I4=>⟨σ,H4,I4,q3⟩
end
theorem qf(h:Heap)(hb:sysModules<h.objs.size):aX P w H (h.push { cls:=.type "dict",data:=.dict #[] }) h.objs.size (.dK []) :=
 ⟨zero_le _,beq_eq_false_iff_ne.mpr (Ne.symm (ne_of_lt hb)),[],.nil,Heap.DictOf.new h⟩
def Ay:TE:=λ_ H Q=>∀p,H p=none->Q (.ref p) (upd H p (.dK []))
section
variable {X:Cx}{pos:Pos}
theorem qg:PE X (.Dict [] [] pos) Ay:=λpins s σ H Q I h =>
 wpAny_Dict_empty ⟨.ref s.heap.objs.size,_,I.laid (a:=s.heap.objs.size) (o:=.dK []) (t':=s.toks) (λ_ _ q=>get?_push_of_some _ q) (le_refl _) (qf s.heap I.big),rfl,h _ (I.aC.fresh (le_refl _))⟩
end
structure M1 (X:Cx) (o:Expr) (m:Str) (apos:Pos) (e:Expr) (bu:Pos):Prop where
 base:attributeBase o m X.env (eval o X.env)=eval o X.env
 VF:((backTo bu (starEach [e] X.env)).all (λx => !x.1) && (backToKw bu (keywordEach [] X.env)).all (λx=>x.1.isSome)
  && decide (([e]:List Expr).length+([]:List Keyword).length+(if([]:List Keyword).isEmpty then 0 else 1)<30))=true
 line:(apos.endLine==bu.line)=true
 trees:backTo bu (starEach [e] X.env)=[(false,eval e X.env)]
structure M2 (X:Cx) (o:Expr) (m:Str) (apos:Pos) (e f:Expr) (bu:Pos):Prop where
 base:attributeBase o m X.env (eval o X.env)=eval o X.env
 VF:((backTo bu (starEach [e,f] X.env)).all (λx => !x.1) && (backToKw bu (keywordEach [] X.env)).all (λx=>x.1.isSome)
  && decide (([e,f]:List Expr).length+([]:List Keyword).length+(if([]:List Keyword).isEmpty then 0 else 1)<30))=true
 line:(apos.endLine==bu.line)=true
 trees:backTo bu (starEach [e,f] X.env)=[(false,eval e X.env),(false,eval f X.env)]
section
variable {X:Cx}{pins:List (Addr×Obj)}{σ:St}{H:Hp}{s:Shared}{a:Addr}{y d:V}{u r:Value}{o:Option V}{A:Around}{E:Value->Shared->Prop}
end
section
variable {X:Cx}{o e f:Expr}{apos bu:Pos}{td ty tx:TE}
end
section
variable {X:Cx}{pins:List (Addr×Obj)}{σ:St}{H:Hp}{s:Shared}{a:Addr}{aw:List (Key×V)}{A:Around}{E:Value->Shared->Prop}
end
section
variable {X:Cx}{pins:List (Addr×Obj)}{σ:St}{H:Hp}{s:Shared}{a:Addr}{y:V}{u:Value}{A:Around}{E:Value->Shared->Prop}
end
section
variable {X:Cx}
end
section
variable {κ:Type} [DecidableEq κ]
end
end L2
namespace M10
open PySem L2 M2
def BD(e0 e1:Str)(c:Int)(k:Nat):Str:=e0++⟨#[97+((c+11*(k:Int))%26).toNat]⟩++e1
def ud(e0 e1:Str)(c:Int)(m:Nat):List Str:=(List.range m).map fun(k:Nat)=>BD e0 e1 c k
theorem VG(e0 e1:Str)(c:Int)(m:Nat):ud e0 e1 c (m+1)=ud e0 e1 c m++[BD e0 e1 c m]:=by unfold ud;rw[range_succ,map_append];rfl
theorem QZ(e0 e1:Str)(c:Int)(m:Nat):(ud e0 e1 c m).length=m:=by unfold ud;simp
theorem Q0(e0 e1:Str)(c:Int)(k:Nat):(BD e0 e1 c k).cps.toList=e0.cps.toList++[97+((c+11*(k:Int))%26).toNat]++e1.cps.toList:=by
 show(e0.cps ++ #[97+((c+11*(k:Int))%26).toNat]++e1.cps).toList=_;rw[Array.toList_append,Array.toList_append]
theorem VH(e0 e1:Str)(c:Int){m:Nat}(hm:m<=26):(ud e0 e1 c m).Nodup:=by
 unfold ud;refine List.pairwise_map.mpr (List.Pairwise.imp_of_mem (λ{i j} hi hj bI e=>?_) (pairwise_lt_range (n:=m)));have hi:=List.mem_range.mp hi;have hj:=List.mem_range.mp hj;have h:=congrArg (λs:Str=>s.cps.toList) e;simp only[Q0,append_assoc]at h;have h2:=List.append_cancel_left h;have h3:97+((c+11*(i:Int))%26).toNat=97+((c+11*(j:Int))%26).toNat:=by
  have:=List.cons.inj (show(97+((c+11*(i:Int))%26).toNat)::e1.cps.toList=(97+((c+11*(j:Int))%26).toNat)::e1.cps.toList from h2);exact this.1
 omega
theorem i9{e0 e1:Str}(c:Int)(k:Nat)(hl:e0.length+e1.length<=7)(h0:∀x∈e0.cps.toList,pz x=true)(h1:∀x∈e1.cps.toList,pz x=true):vN (BD e0 e1 c k)=true:=by
 rw[DG];have hlen:(BD e0 e1 c k).length=e0.length+1+e1.length:=by unfold BD;rw[we,we];rfl
 refine⟨by omega,λx hx=>?_⟩;rw[Q0]at hx;rcases List.mem_append.mp hx with hx | hx
 ·rcases List.mem_append.mp hx with hx | hx
  ·exact h0 x hx
  ·have e:x=97+((c+11*(k:Int))%26).toNat:=List.mem_singleton.mp hx;have:=Int.emod_nonneg (c+11*(k:Int)) (show(26:Int)≠0 by decide);have:=Int.emod_lt_of_pos (c+11*(k:Int)) (show(0:Int)<26 by decide);unfold pz;rw[e,decide_eq_true (by omega),decide_eq_true (by omega)];rfl
 ·exact h1 x hx
theorem ue(z p:Fin 8)(h:p.val<=z.val):(PySem.Txt.slice "vwxyzab" none (some (p.val:Int))).length+(PySem.Txt.slice "vwxyzab" (some (p.val:Int)) (some (z.val:Int))).length<=7 /\
 (∀x∈(PySem.Txt.slice "vwxyzab" none (some (p.val:Int))).cps.toList,pz x=true)/\∀x∈(PySem.Txt.slice "vwxyzab" (some (p.val:Int)) (some (z.val:Int))).cps.toList,pz x=true:=by
 revert z p;decide +kernel
end M10
namespace M3
open PySem L2
def got(ms:List Int)(n:Int):List Int:=ms.filter λm=>decide (m<=n)
def cnt(ms:List Int)(n:Int):Nat:=(got ms n).length
def sm(ms:List Int)(n:Int):Int:=(got ms n).sum
def cO(ms:List Int)(f:Int):Prop:=ms.length<2*cnt ms f/\2*cnt ms (f-1)<=ms.length
variable {ms:List Int}
theorem Az{a b:Int}(h:a<=b):cnt ms a<=cnt ms b:=by
 unfold cnt got
 induction ms with
 | nil=>exact le_refl _
 | cons x ms ih =>
   rw[filter_cons,filter_cons];by_cases h1:x<=a
   ·rw[if_pos (decide_eq_true h1),if_pos (decide_eq_true (by omega)),length_cons,length_cons];omega
   ·rw[if_neg (by simpa using h1)];split
    ·rw[length_cons];omega
    ·exact ih
theorem DW{f g:Int}(h1:cO ms f)(h2:cO ms g):f=g:=by
 unfold cO at h1 h2;rcases Int.lt_trichotomy f g with h | h | h
 ·have:=Az (ms:=ms) (show f<=g-1 by omega);omega
 ·exact h
 ·have:=Az (ms:=ms) (show g<=f-1 by omega);omega
theorem Ld{n:Int}(h:∀x∈ms,n<x):cnt ms n=0:=by
 unfold cnt got;rw[List.filter_eq_nil_iff.mpr]
 ·rfl
 ·intro x hx;have:=h x hx;simp;omega
theorem Le{n:Int}(h:∀x∈ms,x<=n):cnt ms n=ms.length:=by
 unfold cnt got;rw[List.filter_eq_self.mpr];intro x hx;have:=h x hx;simp;omega
theorem uf(ms:List Int)(n:Int):cnt ms n<=ms.length:=length_filter_le _ _
theorem DX{f:Int}(h:cO ms f)(lo hi:Int)(hl:∀x∈ms,lo<=x/\x<=hi):lo<=f/\f<=hi:=by
 unfold cO at h;constructor
 ·by_cases c:lo<=f
  ·exact c
  ·have:=Ld (ms:=ms) (n:=f) λx hx=>by have:=(hl x hx).1;omega
   omega
 ·by_cases c:f<=hi
  ·exact c
  ·have:=Le (ms:=ms) (n:=f-1) λx hx=>by have:=(hl x hx).2;omega
   have:=uf ms f;omega
theorem Gf{i:Nat}(n:Int)(hi:i<ms.length):got (ms.take (i+1)) n=if ms.getD i 0<=n then got (ms.take i) n++[ms.getD i 0] else got (ms.take i) n:=by
 unfold got;rw[y6 hi,filter_append,filter_cons];by_cases h:ms.getD i 0<=n
 ·rw[if_pos (decide_eq_true h),if_pos h];rfl
 ·rw[if_neg (by simpa using h),if_neg h];simp
end M3
namespace L2
open PySem
inductive All2 {α β:Type} (R:α->β->Prop):List α->List β->Prop
 | nil:All2 R [] []
 | cons {a:α} {b:β} {as:List α} {bs:List β}:R a b->All2 R as bs->All2 R (a::as) (b::bs)
namespace All2
variable {α β:Type}{R S:α->β->Prop}{as DY:List α}{bs Bv:List β}
theorem length(h:All2 R as bs):as.length=bs.length:=by
 induction h with
 | nil=>rfl
 | cons _ _ ih=>rw[length_cons,length_cons,ih]
theorem imp(f:∀a b,R a b->S a b)(h:All2 R as bs):All2 S as bs:=by
 induction h with
 | nil=>exact .nil
 | cons r _ ih=>exact .cons (f _ _ r) ih
theorem append(h:All2 R as bs)(h':All2 R DY Bv):All2 R (as++DY) (bs++Bv):=by
 induction h with
 | nil=>exact h'
 | cons r _ ih=>exact .cons r ih
theorem snoc{a:α}{b:β}(h:All2 R as bs)(r:R a b):All2 R (as++[a]) (bs++[b]):=h.append (.cons r .nil)
theorem get(h:All2 R as bs):∀{i:Nat}{b:β},bs[i]? = some b->∃a,as[i]? = some a/\R a b:=by
 induction h with
 | nil=>intro i b e;simp at e
 | cons r _ ih =>
   intro i b e;cases i with
   | zero=>simp only[List.getElem?_cons_zero]at e ⊢;cases e;exact⟨_,rfl,r⟩
   | succ i=>simp only[List.getElem?_cons_succ]at e ⊢;exact ih e
theorem getL(h:All2 R as bs):∀{i:Nat}{a:α},as[i]? = some a->∃b,bs[i]? = some b/\R a b:=by
 induction h with
 | nil=>intro i b e;simp at e
 | cons r _ ih =>
   intro i b e;cases i with
   | zero=>simp only[List.getElem?_cons_zero]at e ⊢;cases e;exact⟨_,rfl,r⟩
   | succ i=>simp only[List.getElem?_cons_succ]at e ⊢;exact ih e
end All2
def Refs{α:Type}(K:Frag)(R:Hp->Addr->α->Prop)(H:Hp)(a:Addr)(xs:List α):Prop:=∃ls:List Addr,ag K H a (ls.map V.ref)/\All2 (R H) ls xs
def j8{α:Type}(R:Hp->Addr->α->Prop):Prop:=∀H H' l x,ae H H'->R H l x->R H' l x
variable {α:Type}{K:Frag}{H H':Hp}{a:Addr}
theorem Refs.same{R:Hp->Addr->α->Prop}(st:j8 R){xs:List α}(s:ae H H')(h:Refs K R H a xs):Refs K R H' a xs:=by
 obtain⟨ls,q,r⟩:=h;exact⟨ls,s.seq q,r.imp λa b=>st _ _ _ _ s⟩
def IL(K:Frag)(H:Hp)(l:Addr)(c:List Int):Prop:=ag K H l (c.map V.int)
def dg(K:Frag)(H:Hp)(l:Addr)(p:Int×Int):Prop:=bN K H l [.int p.1,.int p.2]
theorem IL.stays(K:Frag):j8 (IL K):=λ_ _ _ _ s h=>ae.seq s h
theorem dg.stays(K:Frag):j8 (dg K):=λ_ _ _ _ s h=>s.ia h
variable {ls:List Addr}{i:Nat}{l:Addr}
theorem yU(h:ls[i]? = some l):(ls.map V.ref)[i]? = some (.ref l):=by rw[getElem?_map,h];rfl
theorem uh{x:V}(h:(ls.map V.ref)[i]? = some x):∃l,ls[i]? = some l/\x=.ref l:=by
 rw[getElem?_map]at h;cases e:ls[i]? with
 | none=>rw[e]at h;cases h
 | some l=>rw[e]at h;cases h;exact⟨l,rfl,rfl⟩
theorem Gg{ms:List Int}{n:Int}{c:St}{tc:TT}{te:TE}{fin:List V->Hp->Prop}(hS:ag K H a (ms.map V.int))(hz:ms.length<=1000000)
 (hc:∀x (R:Bool->Hp->Prop),R (decide (x<=n)) H->tc (some (.int x)::c) H R) (he:∀x (R:V->Hp->Prop),R (.int x) H->te (some (.int x)::c) H R) (hd:fin ((M3.got ms n).map V.int) H):oF (kF K a) c tc te H fin:=by
 refine y9 (xs:=ms.map V.int) (λi ys H2=>H2=H/\ys=(M3.got (ms.take i) n).map V.int) ⟨rfl,rfl⟩ ?_ (by rw[length_map];have:=zt;omega) ?_ ?_
 ·rintro i ys H2 hi ⟨rfl,rfl⟩;refine⟨hS,?_⟩;rw[length_map];have:=M3.uf (ms.take i) n;unfold M3.cnt at this;rw[length_take]at this;omega
 ·rintro i x ys H2 hx ⟨rfl,rfl⟩;obtain⟨hi,rfl⟩:=yD hx;refine hc _ _ (yr (λh=>?_) (λh=>?_))
  ·refine he _ _ ⟨rfl,?_⟩;rw[M3.Gf n hi,if_pos h,map_append];rfl
  ·refine⟨rfl,?_⟩;rw[M3.Gf n hi,if_neg h]
 ·rintro ys H2 ⟨rfl,rfl⟩;rw[length_map,take_length];exact hd
variable {p:Addr}{xs:List V}{o:HO}
theorem bN.put{ys:List V}(h:bN K H a xs)(hp:H p=some (.lst ys)):bN K (upd H p o) a xs:=by
 rcases h with(h | ⟨u,h⟩) | h
 ·exact .inl (.inl (by rw[zh (λe=>by rw[e,hp]at h;cases h)];exact h))
 ·exact .inl (.inr ⟨u,by rw[zh (λe=>by rw[e,hp]at h;cases h)];exact h⟩)
 ·exact .inr h
theorem dg.put{ys:List V}{ps:List (Int×Int)}(h:All2 (dg K H) ls ps)(hp:H p=some (.lst ys)):All2 (dg K (upd H p o)) ls ps:=h.imp λ_ _ r=>bN.put r hp
theorem Lf(ls:List Addr)(x:Addr):upd H l (.lst (ls.map V.ref++[V.ref x])) l=some (.lst ((ls++[x]).map V.ref)):=zc.trans (congrArg (λl=>some (HO.lst l)) (by rw[map_append];rfl))
theorem ui{X:Cx}{e:Expr}{t u:TE}(h1:PE X e t)(h2:PE X e u):PE X e (λσ H Q=>t σ H Q\/u σ H Q):=by
 intro pins s σ H Q I h;rcases h with h | h
 ·exact h1 pins s σ H Q I h
 ·exact h2 pins s σ H Q I h
structure Sh where
 aa:List Int
 struck:List Int
 af:List Str
 card:Str->Option (List Int)
 taken:Nat
 cu:Bool
def wo(c:Int)(l:List Int):List Int:=l.filter λo => !decide (o=c)
namespace Sh
structure Ok (S:Sh):Prop where
 c1:1<=S.aa.length
 cG:S.aa.length+S.struck.length<=24
 nd:S.aa.Nodup
 fH:∀c∈S.aa,1<=c/\c<=999
 p1:1<=S.af.length
 dA:S.af.length<=15
 qi:S.af.Nodup
 cd:∀j c,S.card j=some c->j∈S.af/\c.Perm S.aa
 uj:S.taken<=200
def handed(S:Sh):List Str:=S.af.filter λj=>(S.card j).isSome
def ai(S:Sh):List (List Int):=S.handed.map λj=>(S.card j).getD []
def new(us:List Int)(ts:List Str):Sh:=⟨us,[],ts,λ_=>none,0,false⟩
def hand(S:Sh)(j:Str)(c:List Int):Sh:={ S with card:=λk=>if k=j then some c else S.card k,taken:=S.taken+1 }
def refuse(S:Sh)(j:Str)(c:List Int):Option Str :=
 if S.cu=true then some "SheetSealed" else if j∈S.af then(if c.Perm S.aa then(if 200<=S.taken then some "TooManyCards" else none)else some "BadCard")else some "UnknownJudge"
def aT(S:Sh)(c:Int):Sh:={ S with aa:=wo c S.aa,struck:=S.struck++[c],card:=λj=>(S.card j).map (wo c) }
def bh(S:Sh)(c:Int):Option Str :=
 if S.cu=true then some "SheetSealed" else if c∈S.aa then(if S.aa.length=1 then some "LastCouple" else none)else some "UnknownCouple"
theorem Ok.new{us:List Int}{ts:List Str}(h1:M1.qb us=true)(h2:M2.tZ ts=true):(new us ts).Ok:=by
 have g1:=h1;unfold M1.qb at g1;simp only[Bool.and_eq_true,decide_eq_true_eq,all_map,all_eq_true,Function.comp,id]at g1;obtain⟨⟨a1,a2⟩,a3,a4⟩:=g1;obtain⟨⟨b1,b2⟩,b3,_⟩:=(M2.QS ts).mp h2;exact⟨by show 1<=us.length;omega,by show us.length+0<=24;omega,a3,a4,b1,b2,b3,(λ_ _ h=>nomatch h),zero_le _⟩
theorem Ok.hand{S:Sh}(h:S.Ok){j:Str}{c:List Int}(hr:S.refuse j c=none):(S.hand j c).Ok/\j∈S.af/\c.Perm S.aa/\S.taken<200/\S.cu=false:=by
 unfold refuse at hr;split at hr
 ·cases hr
 rename_i h1;split at hr;rename_i h2;split at hr;rename_i h3;split at hr
 ·cases hr
 rename_i h4
 ·refine⟨⟨h.c1,h.cG,h.nd,h.fH,h.p1,h.dA,h.qi,λk d e=>?_,by show S.taken+1<=200;omega⟩,h2,h3,by omega,by simpa using h1⟩;have e:(if k=j then some c else S.card k)=some d:=e;by_cases ek:k=j
  ·rw[if_pos ek]at e;cases e;subst ek;exact⟨h2,h3⟩
  ·rw[if_neg ek]at e;exact h.cd k d e
 ·cases hr
 ·cases hr
theorem AA{c:Int}{l:List Int}(nd:l.Nodup)(hc:c∈l):(wo c l).length+1=l.length:=by
 unfold wo;have e:(l.filter λo => !decide (o=c))=l.erase c:=by
  rw[nd.erase_eq_filter];refine filter_congr λx _=>?_;by_cases h:x=c
  ·subst h;simp
  ·simp[h]
 rw[e,List.length_erase_of_mem hc];have:=length_pos_of_mem hc;omega
theorem Ok.aT{S:Sh}(h:S.Ok){c:Int}(hr:S.bh c=none):(S.aT c).Ok/\c∈S.aa/\2<=S.aa.length/\S.cu=false:=by
 unfold bh at hr;split at hr
 ·cases hr
 rename_i h1;split at hr;rename_i h2;split at hr
 ·cases hr
 rename_i h3
 ·have hl:=AA h.nd h2;have h0:=h.c1;have DZ:=h.cG;refine⟨⟨?_,?_,h.nd.filter _,λd hd=>h.fH d (List.mem_filter.mp hd).1,h.p1,h.dA,h.qi,λk d e=>?_,h.uj⟩,h2,by omega,by simpa using h1⟩
  ·show 1<=(wo c S.aa).length;omega
  ·show(wo c S.aa).length+(S.struck++[c]).length<=24;rw[length_append,length_singleton];omega
  ·have e:(S.card k).map (wo c)=some d:=e;cases q:S.card k with
   | none=>rw[q]at e;cases e
   | some b =>
     rw[q]at e;cases e;exact⟨(h.cd k b q).1,(h.cd k b q).2.filter _⟩
 ·cases hr
end Sh
def gm(a1 a2 a3 d:Addr)(S:Sh):List (Str×V):=[("standing",.ref a1),("struck_so_far",.ref a2),("panel",.ref a3),("card_by_judge",.ref d),("taken_so_far",.int S.taken),("sealed",.bl S.cu)]
structure Shape (K:Frag) (H:Hp) (p:Addr) (F:Addr->Prop) (S:Sh) (dx a1 a2 a3 d:Addr) (aw:List (Key×V)):Prop where
 ip:H p=some (.ins (zL K "Sheet") dx (gm a1 a2 a3 d S))
 i1:H a1=some (.lst (S.aa.map V.int))
 i2:H a2=some (.lst (S.struck.map V.int))
 i3:H a3=some (.lst (S.af.map V.str))
 i4:H d=some (.dK aw)
 kl:aw.length<=S.taken
 cn:∀j,S.card j=none->dH aw (Sum.inr j)=none
 cs:∀j c,S.card j=some c->∃l,dH aw (Sum.inr j)=some (.ref l)/\H l=some (.lst (c.map V.int))/\F l/\l≠a2
 fp:F p
 f1:F a1
 f2:F a2
 f3:F a3
 f4:F d
 BE:a1≠a2
 vP:a3≠a2
 fh:∀b,F b->H b≠none
structure eJ (K:Frag) (H:Hp) (p:Addr) (F:Addr->Prop) (S:Sh) (dx a1 a2 a3 d:Addr) (aw:List (Key×V)):Prop extends Shape K H p F S dx a1 a2 a3 d aw where
 ok:S.Ok
def j9(K:Frag)(H:Hp)(p:Addr)(F:Addr->Prop)(S:Sh):Prop:=∃dx a1 a2 a3 d aw,Shape K H p F S dx a1 a2 a3 d aw
def ao(K:Frag)(H:Hp)(p:Addr)(F:Addr->Prop)(S:Sh):Prop:=∃dx a1 a2 a3 d aw,eJ K H p F S dx a1 a2 a3 d aw
variable {F:Addr->Prop}{S:Sh}{aw:List (Key×V)}
theorem eJ.off{dx a1 a2 a3 d:Addr}(h:eJ K H p F S dx a1 a2 a3 d aw)(e:∀b,F b->H' b=H b):eJ K H' p F S dx a1 a2 a3 d aw :=
 ⟨⟨(e _ h.fp).trans h.ip,(e _ h.f1).trans h.i1,(e _ h.f2).trans h.i2,(e _ h.f3).trans h.i3,(e _ h.f4).trans h.i4,h.kl,h.cn,
  λj c hc=>let ⟨l,x1,x2,x3,x4⟩:=h.cs j c hc;⟨l,x1,(e _ x3).trans x2,x3,x4⟩,h.fp,h.f1,h.f2,h.f3,h.f4,h.BE,h.vP,λb hb=>by rw[e b hb];exact h.fh b hb⟩,h.ok⟩
theorem ao.off(h:ao K H p F S)(e:∀b,F b->H' b=H b):ao K H' p F S:=by
 obtain⟨dx,a1,a2,a3,d,aw,h⟩:=h;exact⟨dx,a1,a2,a3,d,aw,h.off e⟩
theorem ao.fh(h:ao K H p F S):∀b,F b->H b≠none:=by
 obtain⟨dx,a1,a2,a3,d,aw,h⟩:=h;exact h.fh
theorem ao.ok(h:ao K H p F S):S.Ok:=by
 obtain⟨dx,a1,a2,a3,d,aw,h⟩:=h;exact h.ok
theorem ao.shape(h:ao K H p F S):j9 K H p F S:=by
 obtain⟨dx,a1,a2,a3,d,aw,h⟩:=h;exact⟨dx,a1,a2,a3,d,aw,h.toShape⟩
theorem ao.same(h:ao K H p F S)(s:ae H H'):ao K H' p F S:=h.off λb hb=>by
 have:=h.fh b hb;cases e:H b with
 | none=>exact absurd e this
 | some o=>exact s b o e
theorem ao.put(h:ao K H p F S)(n:¬F l):ao K (upd H l o) p F S:=h.off λb hb=>zh λz=>n (z ▸ hb)
def bE(F:Addr->Prop)(H:Hp)(F':Addr->Prop)(H':Hp):Prop:=∀b o,H b=some o->¬F b->H' b=some o/\¬F' b
def LQ(K:Frag)(F:Addr->Prop)(H:Hp)(a:Addr)(xs:List V):Prop :=
 (Rd H a (.lst xs)/\¬F a)\/∃(o:Obj)(au:Array Value)(n:Nat),K.lookup a=some o/\o.cls=.type "list"/\o.dict=none/\o.data=.seq au n/\au.size<=sizeLine/\Vals xs au.toList
theorem LQ.sq(h:LQ K F H a xs):ag K H a xs:=h.imp (λz=>z.1) id
variable {F':Addr->Prop}
theorem LQ.eh(h:LQ K F H a xs)(d:bE F H F' H'):LQ K F' H' a xs:=by
 rcases h with⟨r | ⟨o,r⟩,n⟩ | h
 ·exact .inl ⟨.inl (d a _ r n).1,(d a _ r n).2⟩
 ·exact .inl ⟨.inr ⟨o,(d a _ r n).1⟩,(d a _ r n).2⟩
 ·exact .inr h
theorem LQ.same(h:LQ K F H a xs)(s:ae H H'):LQ K F H' a xs:=by
 rcases h with⟨r | ⟨o,r⟩,n⟩ | h
 ·exact .inl ⟨.inl (s a _ r),n⟩
 ·exact .inl ⟨.inr ⟨o,s a _ r⟩,n⟩
 ·exact .inr h
theorem LQ.of(h:H a=some (.lst xs))(n:¬F a):LQ K F H a xs:=.inl ⟨.inl h,n⟩
theorem ag.none(h:ag K H a xs):LQ K (λ_=>False) H a xs:=h.imp (λz=>⟨z,λw=>w⟩) id
theorem bE.same(s:ae H H'):bE F H F H':=λb o e n=>⟨s b o e,n⟩
theorem bE.trans{F1 F2:Addr->Prop}{H1 H2:Hp}(a:bE F H F1 H1)(b:bE F1 H1 F2 H2):bE F H F2 H2:=λc o e n=>b c o (a c o e n).1 (a c o e n).2
theorem ao.apart(h:ao K H p F S)(n:H l=none):¬F l:=λz=>h.fh l z n
theorem Gh{x:Addr}{u i:HO}(hx:H x=some i)(hl:H l=none):upd (upd H l o) x u x=some u/\upd (upd H l o) x u l=some o/\l≠x/\∀b v,H b=some v->b≠x->upd (upd H l o) x u b=some v:=by
 have n:l≠x:=λe=>by rw[e,hx]at hl;cases hl
 exact⟨zc,by rw[zh n];exact zc,n,λb v e nb=>by rw[zh nb,zh (zj e hl)];exact e⟩
theorem Q1(f:Str)(v x:V)(r:List (Str×V)):dj f v ((f,x)::r)=(f,v)::r:=by rw[dj,if_pos rfl]
theorem yE{f g:Str}(v x:V)(r:List (Str×V))(h:g≠f):dj f v ((g,x)::r)=(g,x)::dj f v r:=by rw[dj,if_neg h]
theorem VI(v:V):dj "standing" v []=([("standing",v)]:List (Str×V)):=rfl
theorem VJ(u v:V):dj "struck_so_far" v [("standing",u)]=([("standing",u),("struck_so_far",v)]:List (Str×V)):=by rw[yE _ _ _ (by decide)];rfl
theorem VL(u w v:V):dj "panel" v [("standing",u),("struck_so_far",w)]=([("standing",u),("struck_so_far",w),("panel",v)]:List (Str×V)):=by rw[yE _ _ _ (by decide),yE _ _ _ (by decide)];rfl
theorem VM(u w y v:V):dj "card_by_judge" v [("standing",u),("struck_so_far",w),("panel",y)]=([("standing",u),("struck_so_far",w),("panel",y),("card_by_judge",v)]:List (Str×V)):=by rw[yE _ _ _ (by decide),yE _ _ _ (by decide),yE _ _ _ (by decide)];rfl
theorem VN(u w y z v:V):dj "taken_so_far" v [("standing",u),("struck_so_far",w),("panel",y),("card_by_judge",z)]=([("standing",u),("struck_so_far",w),("panel",y),("card_by_judge",z),("taken_so_far",v)]:List (Str×V)):=by rw[yE _ _ _ (by decide),yE _ _ _ (by decide),yE _ _ _ (by decide),yE _ _ _ (by decide)];rfl
theorem VO(u w y z t v:V):dj "sealed" v [("standing",u),("struck_so_far",w),("panel",y),("card_by_judge",z),("taken_so_far",t)]=([("standing",u),("struck_so_far",w),("panel",y),("card_by_judge",z),("taken_so_far",t),("sealed",v)]:List (Str×V)):=by rw[yE _ _ _ (by decide),yE _ _ _ (by decide),yE _ _ _ (by decide),yE _ _ _ (by decide),yE _ _ _ (by decide)];rfl
theorem VP(a1 a2 a3 d b:Addr)(S S':Sh)(h:S'.taken=S.taken)(h2:S'.cu=S.cu):dj "standing" (.ref b) (gm a1 a2 a3 d S)=gm b a2 a3 d S':=by unfold gm;rw[Q1,h,h2]
theorem qj(a1 a2 a3 d:Addr)(S S':Sh)(h2:S'.cu=S.cu):dj "taken_so_far" (.int S'.taken) (gm a1 a2 a3 d S)=gm a1 a2 a3 d S':=by
 unfold gm;rw[yE _ _ _ (by decide),yE _ _ _ (by decide),yE _ _ _ (by decide),yE _ _ _ (by decide),Q1,h2]
theorem ql{k:Key}{v u:V}(h:dH aw k=some u):(fN aw k v).length=aw.length:=by
 unfold fN;have:(aw.any λkv=>decide (kv.1=k))=true:=by rw[DL,h];rfl
 rw[if_pos this,length_map]
theorem ao.ins(h:ao K H p F S):∃dx a1 a2 a3 d,H p=some (.ins (zL K "Sheet") dx (gm a1 a2 a3 d S)):=by
 obtain⟨dx,a1,a2,a3,d,aw,h⟩:=h;exact⟨dx,a1,a2,a3,d,h.ip⟩
def Sh.rows(S:Sh):List (List Int):=S.af.map λj=>(S.card j).getD []
theorem map_getD(l:List α)(d:α):(List.range l.length).map (λk=>l.getD k d)=l:=by
 refine ext_getElem (by simp) λi h1 h2=>?_;simp[h2]
theorem Sh.aL(S:Sh):S.rows.length=S.af.length:=by unfold rows;simp
theorem Sh.eK(S:Sh){k:Nat}(h:k<S.af.length):S.rows.getD k []=(S.card (S.af.getD k "")).getD []:=by
 unfold rows;rw[getD_eq_getElem?_getD,getD_eq_getElem?_getD,getElem?_map,getElem?_eq_getElem h];rfl
variable {c:List Int}
theorem Sh.Ok.full(h:S.Ok){j:Str}(e:S.card j=some c):c≠[]:=λz=>by
 have:=(h.cd j c e).2.length_eq;have h1:=h.c1;rw[z]at this;simp at this;omega
variable {β:Type}
theorem All2.at{R:α->β->Prop}{as:List α}{bs:List β}(h:All2 R as bs)(hi:i<bs.length)(d:β):∃a,as[i]? = some a/\R a (bs.getD i d):=by
 have e:bs[i]? = some (bs.getD i d):=by rw[getD_eq_getElem?_getD,getElem?_eq_getElem hi];rfl
 exact h.get e
theorem All2.D0{R S:α->β->Prop}{as:List α}{bs:List β}(h:All2 R as bs)(f:∀a∈as,∀b,R a b->S a b):All2 S as bs:=by
 induction h with
 | nil=>exact .nil
 | cons r _ ih=>exact .cons (f _ (mem_cons_self ..) _ r) (ih λa ha b=>f a (mem_cons_of_mem _ ha) b)
theorem All2.set{R:α->β->Prop}{as:List α}{bs:List β}(h:All2 R as bs){a:α}{b:β}(r:R a b):∀k,All2 R (as.set k a) (bs.set k b):=by
 induction h with
 | nil=>intro k;exact .nil
 | cons r' h' ih =>
   intro k;cases k with
   | zero=>exact .cons r h'
   | succ k=>exact .cons r' (ih k)
def Rows(F:Addr->Prop)(H:Hp)(lc:Addr)(ls:List Addr)(cs:List (List Int)):Prop:=H lc=some (.lst (ls.map V.ref))/\¬F lc/\All2 (λl c=>H l=some (.lst (c.map V.int))/\¬F l) ls cs
variable {lc:Addr}{cs:List (List Int)}
theorem Rows.len(h:Rows F H lc ls cs):ls.length=cs.length:=h.2.2.length
theorem Rows.eh(h:Rows F H lc ls cs)(d:bE F H F' H'):Rows F' H' lc ls cs :=
 ⟨(d _ _ h.1 h.2.1).1,(d _ _ h.1 h.2.1).2,h.2.2.imp λ_ _ z=>d _ _ z.1 z.2⟩
theorem Rows.same(h:Rows F H lc ls cs)(s:ae H H'):Rows F H' lc ls cs:=h.eh (bE.same s)
theorem All2.ja{R:α->β->Prop}{as:List α}{bs:List β}(h:All2 R as bs){a:α}(ha:a∈as):∃b,R a b:=by
 induction h with
 | nil=>cases ha
 | cons r _ ih =>
   rcases List.mem_cons.mp ha with e | e
   ·exact⟨_,e ▸ r⟩
   ·exact ih e
theorem Rows.put(h:Rows F H lc ls cs){x:Addr}(n:lc≠x/\∀l∈ls,l≠x):Rows F (upd H x o) lc ls cs :=
 ⟨by rw[zh n.1];exact h.1,h.2.1,h.2.2.D0 λl hl c z=>⟨by rw[zh (n.2 l hl)];exact z.1,z.2⟩⟩
theorem uk(h:ls≠[]):(HO.lst (c.map V.int)) ≠ .lst (ls.map V.ref):=λz=>by
 injection z with z
 cases ls with
 | nil=>exact h rfl
 | cons l ls=>cases c with
   | nil=>cases z
   | cons x c=>simp at z
theorem Rows.set(h:Rows F H lc ls cs)(aO:ls≠[]){m:Addr}(hm:H m=some (.lst (c.map V.int)))(nm:¬F m)(k:Nat):
 Rows F (upd H lc (.lst ((ls.map V.ref).set k (.ref m)))) lc (ls.set k m) (cs.set k c):=by
 refine⟨by rw[zc,map_set],h.2.1,All2.set (h.2.2.imp λl c z=>⟨?_,z.2⟩) ⟨?_,nm⟩ k⟩
 ·rw[zh (yV z.1 h.1 (uk aO))];exact z.1
 ·rw[zh (yV hm h.1 (uk aO))];exact hm
theorem Sh.dJ(h:S.af.Nodup){k:Nat}(hk:k<S.af.length)(c:List Int):(S.hand (S.af.getD k "") c).rows=S.rows.set k c:=by
 unfold Sh.rows;refine ext_getElem (by simp;rfl) λi h1 h2=>?_;have hi:i<S.af.length:=by simpa using h2
 rw[List.getElem_set];have e1:((S.hand (S.af.getD k "") c).af.map λj=>((S.hand (S.af.getD k "") c).card j).getD [])[i]=(if S.af[i]=S.af.getD k "" then some c else S.card S.af[i]).getD []:=by
  rw[getElem_map];rfl
 rw[e1];have ek:S.af.getD k ""=S.af[k]:=by rw[getD_eq_getElem?_getD,getElem?_eq_getElem hk];rfl
 by_cases Lg:k=i
 ·subst Lg;rw[if_pos ek.symm,if_pos rfl];rfl
 ·rw[if_neg Lg,if_neg (λz=>Lg (getElem_inj h |>.mp (z.trans ek)).symm),getElem_map]
theorem qm{k:Int}{n:Nat}(h0:0<=k)(h:k.toNat<n):rL n k=some k.toNat:=by
 unfold rL;rw[if_pos h0,if_pos (by omega)]
theorem qo(ns:List Int)(i j:Nat)(h:i<=j):∃zs:List Int,kP (ns.map V.int) (some (i:Int)) (some (j:Int))=zs.map V.int/\zs.length<=j-i/\zs.length<=ns.length:=by
 unfold kP;rw[HT.eD,HT.eD,length_map,<-map_drop,<-map_take];refine⟨_,rfl,?_,?_⟩
 ·rw[length_take,length_drop];omega
 ·rw[length_take,length_drop];omega
theorem Sh.ie(S:Sh)(c:Int):(S.aT c).rows=S.rows.map (wo c):=by
 unfold Sh.rows;rw[map_map];refine map_congr_left λj _=>?_;show((S.card j).map (wo c)).getD []=wo c ((S.card j).getD []);cases S.card j with
 | none=>rfl
 | some d=>rfl
theorem Sh.gn(h:S.Ok){d:List Int}(hd:d∈S.rows):d.length<=24:=by
 unfold Sh.rows at hd;obtain⟨j,_,rfl⟩:=List.mem_map.mp hd;cases e:S.card j with
 | none=>exact zero_le _
 | some c =>
   have:=(h.cd j c e).2.length_eq;have:=h.cG;show c.length<=24;omega
end L2
namespace M5
open PySem L2 M3
def key(ms:List Int):Nat->List Int
 | 0=>[]
 | k+1=>(λa:List Int=>if a=[] then [] else a++[-((got ms ((k:Int)+1)).length:Int),(got ms ((k:Int)+1)).sum])
    (if key ms k=[]/\ms.length<2*(got ms ((k:Int)+1)).length then [(k:Int)+1] else key ms k)
def zm(cs:List (List Int))(c:Int):List Int:=cs.map λcard=>(card.idxOf c:Int)+1
def um(cs:List (List Int))(us:List Int):List (List Int):=us.map λc=>key (zm cs c) us.length
def tm(rs:List (List Int))(m:List Int):Nat:=(rs.filter λr=>HT.lexLt r m).length
def ka(cs:List (List Int))(us:List Int):List Int:=(um cs us).map λm=>1+(tm (um cs us) m:Int)
def rows(ps us:List Int):List (Int×Int):=(List.range us.length).flatMap fun(i:Nat)=>(ps.zip us).filter λp=>decide (p.1=(i:Int)+1)
theorem kb(ms:List Int):∀k,(key ms k).length<=1+2*k
 | 0=>zero_le _
 | k+1=>by
   have ih:=kb ms k;unfold key;dsimp only;have go:∀a:List Int,a.length<=1+2*k->(if a=[] then [] else a++[-((got ms ((k:Int)+1)).length:Int),(got ms ((k:Int)+1)).sum]).length<=1+2*(k+1):=λa h=>by
    split
    ·simp
    ·rw[length_append,length_cons,length_cons,length_nil];omega
   refine go _ ?_;split
   ·rw[length_cons,length_nil];omega
   ·exact ih
theorem ya(cs:List (List Int))(c:Int):(zm cs c).length=cs.length:=by unfold zm;simp
theorem aL(ps us:List Int)(h:ps.length=us.length):(rows ps us).length<=us.length*us.length:=by
 unfold rows;have go:∀n:Nat,((List.range n).flatMap fun(i:Nat)=>(ps.zip us).filter λp=>decide (p.1=(i:Int)+1)).length<=n*us.length:=λn=>by
  induction n with
  | zero=>simp
  | succ n ih =>
    rw[range_succ,flatMap_append,length_append,Nat.succ_mul];have h1:=length_filter_le (λp=>decide (p.1=(n:Int)+1)) (ps.zip us);rw[length_zip,h,Nat.min_self]at h1;have e:flatMap (fun(i:Nat)=>(ps.zip us).filter λp=>decide (p.1=(i:Int)+1)) [n]=(ps.zip us).filter λp=>decide (p.1=(n:Int)+1):=by simp
    rw[e];omega
 exact go us.length
end M5
namespace M6
open PySem L2 M3 M5
abbrev Sg:=Option (Int×Int)
def sg(a:List Int)(k:Int):Sg:=if a.length<2*cnt a k then some ((cnt a k:Int),sm a k)else none
def gL:Sg->Sg->Bool
 | some _,none=>true
 | none,_=>false
 | some p,some q=>decide (q.1<p.1) || (decide (p.1=q.1) && decide (p.2<q.2))
def zE:List Sg->List Sg->Bool
 | x::xs,y::ys=>if x=y then zE xs ys else gL x y
 | _,_=>false
def ww(a:List Int)(n:Nat):List Sg:=(List.range n).map fun(i:Nat)=>sg a ((i:Int)+1)
def zZ(a b:List Int)(n:Nat):Bool:=zE (ww a n) (ww b n)
theorem Lh(k:Nat)(x:Sg)(xs ys:List Sg):zE (replicate k x++xs) (replicate k x++ys)=zE xs ys:=by
 induction k with
 | zero=>rfl
 | succ k ih=>rw[List.replicate_succ,cons_append,cons_append,zE,if_pos rfl];exact ih
def tl(a:List Int)(f m:Nat):List Int:=(List.range m).flatMap fun(i:Nat)=>[-(cnt a ((f:Int)+i):Int),sm a ((f:Int)+i)]
theorem ke(a:List Int)(f m:Nat):tl a f (m+1)=tl a f m++[-(cnt a ((f:Int)+m):Int),sm a ((f:Int)+m)]:=by
 unfold tl;rw[range_succ,flatMap_append];simp
theorem Q2{a:List Int}:∀{k:Nat},(∀j:Nat,j<=k->1<=j->2*cnt a j<=a.length)->key a k=[]
 | 0,_=>rfl
 | k+1,h=>by
   have ih:=Q2 (a:=a) (k:=k) λj hj h1=>h j (by omega) h1;have hk:=h (k+1) (le_refl _) (by omega);have e:((k+1:Nat):Int)=(k:Int)+1:=by omega
   rw[e]at hk;unfold cnt at hk;unfold key;rw[ih,if_neg (λz=>absurd z.2 (by omega))];rfl
theorem Li{a:List Int}{f:Nat}(h1:1<=f)(hf:cO a f):∀m:Nat,key a (f+m)=(f:Int)::tl a f (m+1)
 | 0=>by
   obtain⟨g,rfl⟩:∃g,f=g+1:=⟨f-1,by omega⟩;have e:((g+1:Nat):Int)=(g:Int)+1:=by omega
   have Lj:key a g=[]:=Q2 λj hj Ve=>by
    have:=Az (ms:=a) (show(j:Int)<=((g+1:Nat):Int)-1 by omega);have:=hf.2;omega
   have uo:=hf.1;rw[e]at uo;unfold cnt at uo;show key a (g+1)=_;unfold key;rw[Lj,if_pos ⟨rfl,uo⟩,ke];have e0:((g+1:Nat):Int)+((0:Nat):Int)=(g:Int)+1:=by omega
   rw[e0,e];rfl
 | m+1=>by
   have ih:=Li h1 hf m;show key a ((f+m)+1)=_;unfold key;rw[ih,if_neg (λz=>by cases z.1),ke a f (m+1)];have e:((f+m:Nat):Int)+1=(f:Int)+((m+1:Nat):Int):=by omega
   rw[e];rfl
variable {a:List Int}{k:Int}
theorem vQ(h:2*cnt a k<=a.length):sg a k=none:=by unfold sg;rw[if_neg (by omega)]
theorem wf(h:a.length<2*cnt a k):sg a k=some ((cnt a k:Int),sm a k):=by unfold sg;rw[if_pos h]
theorem Q3{f m:Nat}(h1:1<=f)(hf:cO a f):ww a (f+m)=replicate (f-1) none++(List.range (m+1)).map fun(i:Nat)=>some ((cnt a ((f:Int)+i):Int),sm a ((f:Int)+i)):=by
 refine ext_getElem ?_ λi iA jU=>?_
 ·unfold ww;simp;omega
 ·have hi:i<f+m:=by unfold ww at iA;simpa using iA
  have e1:(ww a (f+m))[i]=sg a ((i:Int)+1):=by
   have:(ww a (f+m))[i]? = some (sg a ((i:Int)+1)):=by
    show((List.range (f+m)).map fun(i:Nat)=>sg a ((i:Int)+1))[i]? = _;rw[getElem?_map,getElem?_range hi];rfl
   rw[getElem?_eq_getElem iA]at this;exact Option.some.inj this
  rw[e1];by_cases c:i<f-1
  ·rw[List.getElem_append_left (by simpa using c),List.getElem_replicate];refine vQ ?_;have:=Az (ms:=a) (show(i:Int)+1<=(f:Int)-1 by omega);have:=hf.2;omega
  ·rw[List.getElem_append_right (by simpa using c)];simp only[List.length_replicate,getElem_map,getElem_range];have e2:(f:Int)+((i-(f-1):Nat):Int)=(i:Int)+1:=by omega
   rw[e2];refine wf ?_;have:=Az (ms:=a) (show(f:Int)<=(i:Int)+1 by omega);have:=hf.1;omega
theorem Q4(c s c' s':Nat->Int):∀(m j:Nat),HT.lexLt ((range' j m).flatMap fun(i:Nat)=>[-c i,s i]) ((range' j m).flatMap fun(i:Nat)=>[-c' i,s' i])=zE ((range' j m).map fun(i:Nat)=>some (c i,s i)) ((range' j m).map fun(i:Nat)=>some (c' i,s' i))
 | 0,j=>rfl
 | m+1,j=>by
   rw[List.range'_succ,List.flatMap_cons,List.flatMap_cons,map_cons,map_cons];show HT.lexLt (-c j::s j::_) (-c' j::s' j::_)=_;rw[HT.cg,HT.cg,zE,<-Q4 c s c' s' m (j+1)];by_cases h1:c j=c' j
   ·rw[if_pos (by rw[h1])];by_cases h2:s j=s' j
    ·rw[if_pos h2,if_pos (by rw[h1,h2])];rfl
    ·rw[if_neg h2,if_neg (λz=>h2 (by injection z with z;exact(Prod.mk.inj z).2))];show _=(decide (c' j<c j) || (decide (c j=c' j) && decide (s j<s' j)));rw[decide_eq_false (show ¬c' j<c j by omega),decide_eq_true h1];rfl
   ·rw[if_neg (λz=>h1 (by omega)),if_neg (λz=>h1 (by injection z with z;exact(Prod.mk.inj z).1))];show _=(decide (c' j<c j) || (decide (c j=c' j) && decide (s j<s' j)));rw[decide_eq_false h1,Bool.false_and,Bool.or_false];by_cases h3:c' j<c j
    ·rw[decide_eq_true h3,decide_eq_true (by omega)]
    ·rw[decide_eq_false h3,decide_eq_false (by omega)]
theorem kf{α:Type}(m n:Nat)(x:α):replicate (m+n) x=replicate m x++replicate n x:=by simp
variable {b:List Int}{n:Nat}
theorem lW{f g:Nat}(Q5:1<=f)(Gb:1<=g)(hf:cO a f)(hg:cO b g)(Fv:f<=n)(hgn:g<=n):HT.lexLt (key a n) (key b n)=zZ a b n:=by
 obtain⟨m,rfl⟩:∃m,n=f+m:=⟨n-f,by omega⟩;obtain⟨k,hk⟩:∃k,f+m=g+k:=⟨f+m-g,by omega⟩;unfold zZ;rw[Li Q5 hf m,Q3 Q5 hf];rw[hk,Li Gb hg k,Q3 Gb hg,HT.cg];rcases Nat.lt_trichotomy f g with h | h | h
 ·rw[if_neg (by omega),decide_eq_true (show(f:Int)<g by omega)];obtain⟨d,hd⟩:∃d,g-1=(f-1)+(d+1):=⟨g-1-(f-1)-1,by omega⟩;rw[hd,kf,append_assoc,Lh,range_succ_eq_map,map_cons,List.replicate_succ,cons_append,zE,if_neg (by intro z;cases z)];rfl
 ·subst h;have:k=m:=by omega
  subst this;rw[if_pos rfl,Lh];have:=Q4 (λi=>(cnt a ((f:Int)+i):Int)) (λi=>sm a ((f:Int)+i)) (λi=>(cnt b ((f:Int)+i):Int)) (λi=>sm b ((f:Int)+i)) (k+1) 0;rw[<-List.range_eq_range']at this;exact this
 ·rw[if_neg (by omega),decide_eq_false (show ¬(f:Int)<g by omega)];obtain⟨d,hd⟩:∃d,f-1=(g-1)+(d+1):=⟨f-1-(g-1)-1,by omega⟩;rw[hd,kf,append_assoc,Lh,range_succ_eq_map (n:=k),map_cons,List.replicate_succ,cons_append,zE,if_neg (by intro z;cases z)];rfl
theorem Q6{a:List Int}(xU:∀x∈a,1<=x):∀n:Nat,a.length<2*cnt a n->∃f:Nat,1<=f/\f<=n/\cO a f
 | 0,h=>by
   have:=Ld (ms:=a) (n:=((0:Nat):Int)) λx hx=>by have:=xU x hx;omega
   omega
 | n+1,h=>by
   by_cases c:a.length<2*cnt a n
   ·obtain⟨f,h1,h2,h3⟩:=Q6 xU n c;exact⟨f,h1,by omega,h3⟩
   ·refine⟨n+1,by omega,le_refl _,h,?_⟩;have e:((n+1:Nat):Int)-1=(n:Int):=by omega
    rw[e];omega
theorem Q7(aO:a≠[])(h:∀x∈a,1<=x/\x<=n):∃f:Nat,1<=f/\f<=n/\cO a f :=
 Q6 (λx hx=>(h x hx).1) n (by
  rw[Le λx hx=>(h x hx).2];have:=List.length_pos_iff.mpr aO;omega)
theorem kh{n:Int}(h:∀x∈a,x<=n)(hk:n<=k):sg a k=sg a n:=by
 have e:got a k=got a n:=by
  unfold got;exact filter_congr λx hx=>by
   have:=h x hx;rw[decide_eq_true (by omega),decide_eq_true this]
 unfold sg cnt sm;rw[e]
theorem Q8(a:List Int)(n:Nat):ww a (n+1)=ww a n++[sg a ((n:Int)+1)]:=by unfold ww;rw[range_succ,map_append];rfl
theorem BF(a:List Int)(n:Nat):(ww a n).length=n:=by unfold ww;simp
theorem Q9:∀{xs ys:List Sg}{x y:Sg},xs.length=ys.length->(x=y\/xs≠ys)->zE (xs++[x]) (ys++[y])=zE xs ys
 | [],[],x,y,_,h=>by
   rcases h with h | h
   ·subst h;show(if x=x then false else gL x x)=false;rw[if_pos rfl]
   ·exact absurd rfl h
 | p::xs,q::ys,x,y,hl,h=>by
   rw[cons_append,cons_append,zE,zE];by_cases e:p=q
   ·subst e;rw[if_pos rfl,if_pos rfl];exact Q9 (by simpa using hl) (h.imp id λz w=>z (by rw[w]))
   ·rw[if_neg e,if_neg e]
theorem Lk(h1:1<=n)(ha:∀x∈a,x<=n)(hb:∀x∈b,x<=n):∀k,zZ a b (n+k)=zZ a b n
 | 0=>rfl
 | k+1=>by
   rw[<-Lk h1 ha hb k];show zE (ww a ((n+k)+1)) (ww b ((n+k)+1))=_;rw[Q8,Q8];refine Q9 (by rw[BF,BF]) ?_;by_cases e:ww a (n+k)=ww b (n+k)
   ·left;have:(ww a (n+k))[n-1]? = (ww b (n+k))[n-1]? := by rw[e]
    unfold ww at this;rw[getElem?_map,getElem?_map,getElem?_range (by omega)]at this;have this:sg a (((n-1:Nat):Int)+1)=sg b (((n-1:Nat):Int)+1):=Option.some.inj this;have en:((n-1:Nat):Int)+1=(n:Int):=by omega
    rw[en]at this;rw[kh ha (by omega),kh hb (by omega)];exact this
   ·exact .inr e
theorem lX{m:Nat}(h1:1<=n)(hm:1<=m)(ha:∀x∈a,x<=n/\x<=m)(hb:∀x∈b,x<=n/\x<=m):zZ a b n=zZ a b m:=by
 rcases Nat.le_total n m with h | h
 ·obtain⟨k,rfl⟩:=Nat.exists_eq_add_of_le h;exact(Lk h1 (λx hx=>(ha x hx).1) (λx hx=>(hb x hx).1) k).symm
 ·obtain⟨k,rfl⟩:=Nat.exists_eq_add_of_le h;exact Lk hm (λx hx=>(ha x hx).2) (λx hx=>(hb x hx).2) k
def word:Sg->Sg->Str
 | some p,some q=>if p.1=q.1 then "sum" else "count"
 | _,_=> "half"
def wb(a b:List Int)(n:Nat):Option (Nat×Str)->Prop
 | none=>∀k:Nat,1<=k->k<=n->sg a k=sg b k
 | some r=>1<=r.1/\r.1<=n/\(∀j:Nat,1<=j->j<r.1->sg a j=sg b j)/\sg a r.1≠sg b r.1/\r.2=word (sg a r.1) (sg b r.1)
theorem Gi{r r':Option (Nat×Str)}(h:wb a b n r)(h':wb a b n r'):r=r':=by
 cases r with
 | none =>
   cases r' with
   | none=>rfl
   | some q=>exact absurd (h q.1 h'.1 h'.2.1) h'.2.2.2.1
 | some p =>
   cases r' with
   | none=>exact absurd (h' p.1 h.1 h.2.1) h.2.2.2.1
   | some q =>
     obtain⟨k,w⟩:=p;obtain⟨j,v⟩:=q;obtain⟨a1,a2,a3,a4,a5⟩:=h;obtain⟨b1,b2,b3,b4,b5⟩:=h';dsimp only at a1 a2 a3 a4 a5 b1 b2 b3 b4 b5;have e:k=j:=by
      rcases Nat.lt_trichotomy k j with c | c | c
      ·exact absurd (b3 k a1 c) a4
      ·exact c
      ·exact absurd (a3 j b1 c) b4
     subst e;rw[a5,b5]
theorem Ra:∀{xs ys:List Sg}(k:Nat)(h1:k<xs.length)(h2:k<ys.length),(∀j,j<k->xs[j]? = ys[j]?)->xs[k]≠ys[k]->zE xs ys=gL xs[k] ys[k]
 | x::xs,y::ys,0,_,_,_,aO=>by rw[zE,if_neg (show ¬x=y from aO)];rfl
 | x::xs,y::ys,k+1,h1,h2,he,aO=>by
   have e:x=y:=by have:=he 0 (by omega);simpa using this
   rw[zE,if_pos e];exact Ra k (by simpa using h1) (by simpa using h2) (λj hj=>by have:=he (j+1) (by omega);simpa using this) (by simpa using aO)
theorem Ll:∀(xs:List Sg),zE xs xs=false
 | []=>rfl
 | x::xs=>by rw[zE,if_pos rfl];exact Ll xs
theorem Gj(a:List Int){k:Nat}(h:k<n):(ww a n)[k]? = some (sg a ((k:Int)+1)):=by
 unfold ww;rw[getElem?_map,getElem?_range h];rfl
theorem jb(h:wb a b n none):zZ a b n=false:=by
 have e:ww a n=ww b n:=by
  unfold ww;refine map_congr_left λi hi=>?_;have hi:=List.mem_range.mp hi;have:=h (i+1) (by omega) (by omega);have ei:((i+1:Nat):Int)=(i:Int)+1:=by omega
  rw[ei]at this;exact this
 unfold zZ;rw[e];exact Ll _
theorem Lm{r:Nat×Str}(h:wb a b n (some r)):zZ a b n=gL (sg a r.1) (sg b r.1):=by
 obtain⟨k,w⟩:=r;obtain⟨a1,a2,a3,a4,a5⟩:=h;dsimp only at a1 a2 a3 a4 a5 ⊢;obtain⟨j,rfl⟩:∃j,k=j+1:=⟨k-1,by omega⟩;have ej:((j+1:Nat):Int)=(j:Int)+1:=by omega
 have l1:j<(ww a n).length:=by rw[BF];omega
 have l2:j<(ww b n).length:=by rw[BF];omega
 have g1:(ww a n)[j]=sg a ((j+1:Nat):Int):=by
  have:=Gj a (n:=n) (k:=j) (by omega);rw[getElem?_eq_getElem l1]at this;rw[ej];exact Option.some.inj this
 have g2:(ww b n)[j]=sg b ((j+1:Nat):Int):=by
  have:=Gj b (n:=n) (k:=j) (by omega);rw[getElem?_eq_getElem l2]at this;rw[ej];exact Option.some.inj this
 unfold zZ;rw[Ra j l1 l2 (λi hi=>?_) (by rw[g1,g2];exact a4),g1,g2];rw[Gj a (by omega),Gj b (by omega)];have:=a3 (i+1) (by omega) (by omega);have ei:((i+1:Nat):Int)=(i:Int)+1:=by omega
 rw[ei]at this;rw[this]
end M6
namespace L2
open PySem
end L2
namespace M6
open PySem L2 M3 M5
def zw(cs:List (List Int))(us:List Int):List Int:=us.map λc=>1+((us.filter λd=>zZ (zm cs d) (zm cs c) us.length).length:Int)
variable {cs:List (List Int)}{us:List Int}{c:Int}
theorem yG(hp:∀d∈cs,d.Perm us)(hc:c∈us):∀x∈zm cs c,1<=x/\x<=us.length:=λx hx=>by
 unfold zm at hx;obtain⟨d,hd,rfl⟩:=List.mem_map.mp hx;have h:=hp d hd;have:d.idxOf c<d.length:=idxOf_lt_length_of_mem (h.mem_iff.mpr hc);have:=h.length_eq;omega
theorem Rb(h:1<=cs.length):zm cs c≠[]:=λe=>by
 have:=ya cs c;rw[e]at this;simp at this;omega
theorem AB{d:Int}(hp:∀d∈cs,d.Perm us)(h1:1<=cs.length)(hc:c∈us)(hd:d∈us):HT.lexLt (key (zm cs c) us.length) (key (zm cs d) us.length)=zZ (zm cs c) (zm cs d) us.length:=by
 obtain⟨f,f1,f2,f3⟩:=Q7 (Rb h1) (yG hp hc);obtain⟨g,g1,g2,g3⟩:=Q7 (Rb h1) (yG hp hd);exact lW f1 g1 f3 g3 f2 g2
theorem D1(hp:∀d∈cs,d.Perm us)(h1:1<=cs.length):ka cs us=zw cs us:=by
 unfold ka zw um;rw[map_map];refine map_congr_left λc hc=>?_;show 1+(M5.tm (us.map λc=>key (zm cs c) us.length) (key (zm cs c) us.length):Int)=_;unfold M5.tm;rw[filter_map,length_map];congr 3;exact filter_congr λd hd=>AB hp h1 hd hc
theorem yp(cs:List (List Int))(us:List Int):(zw cs us).length=us.length:=by unfold zw;simp
def mY(ms:List Int)(n:Nat):List (Int×Int):=(List.range n).map fun(i:Nat)=>((cnt ms ((i:Int)+1):Int),sm ms ((i:Int)+1))
theorem Rc(ms:List Int)(n:Nat):mY ms (n+1)=mY ms n++[((cnt ms ((n:Int)+1):Int),sm ms ((n:Int)+1))]:=by unfold mY;rw[range_succ,map_append];rfl
theorem Gk(ms:List Int)(n:Nat):(mY ms n).length=n:=by unfold mY;simp
theorem lY(p q:Sg):word p q=word q p:=by
 cases p with
 | none=>cases q <;> rfl
 | some p=>cases q with
   | none=>rfl
   | some q =>
     show(if p.1=q.1 then("sum":Str)else("count":Str))=if q.1=p.1 then("sum":Str)else("count":Str)
     by_cases h:p.1=q.1
     ·rw[if_pos h,if_pos h.symm]
     ·rw[if_neg h,if_neg λz=>h z.symm]
theorem VQ{a b:List Int}{n:Nat}{r:Option (Nat×Str)}(h:wb a b n r):wb b a n r:=by
 cases r with
 | none=>exact λk h1 h2=>(h k h1 h2).symm
 | some r=>exact⟨h.1,h.2.1,λj h1 h2=>(h.2.2.1 j h1 h2).symm,λz=>h.2.2.2.1 z.symm,by rw[lY];exact h.2.2.2.2⟩
end M6
namespace L2
open PySem
def Told(K:Frag)(H:Hp)(x:V):Option (Nat×Str)->Prop
 | none=>x=.bo
 | some r=>∃l,x=.ref l/\bN K H l [.int (r.1:Nat),.str r.2]
end L2
namespace M3
open PySem L2
theorem Rf{a b:List Int}(h:a.Perm b)(n:Int):cnt a n=cnt b n:=(h.filter _).length_eq
theorem Rg(a b:List Int)(n:Int):cnt (a++b) n=cnt a n+cnt b n:=by
 unfold cnt got;rw[filter_append,length_append]
theorem qp{a b:List Int}(h:a.Perm b){f:Int}(hf:cO a f):cO b f:=by
 unfold cO at *;rw[<-Rf h,<-Rf h,<-h.length_eq];exact hf
theorem VR{ns:List Int}(hs:ns.Pairwise (·<= ·))(aO:ns≠[]):cO ns (ns.getD (ns.length/2) 0):=by
 have hn:=List.length_pos_iff.mpr aO;have hk:ns.length/2<ns.length:=by omega
 generalize hK:ns.length/2=k at hk ⊢;have e:ns=ns.take k++ns.drop k:=(take_append_drop k ns).symm;have ed:ns.drop k=ns.getD k 0::ns.drop (k+1):=by rw[Bq hk];exact drop_eq_getElem_cons hk
 generalize ns.getD k 0=f at ed ⊢;have lt:(ns.take k).length=k:=by rw[length_take];omega
 rw[e]at hs;obtain⟨h1,h2,h3⟩:=List.pairwise_append.mp hs;rw[ed]at h2 h3;have h4:=List.pairwise_cons.mp h2;unfold cO;constructor
 ·have a1:cnt (ns.take k) f=k:=by rw[Le λx hx=>h3 x hx f (mem_cons_self ..),lt]
  have a2:1<=cnt (ns.drop k) f:=by
   rw[ed];unfold cnt got;rw[filter_cons,if_pos (decide_eq_true (Int.le_refl f)),length_cons];omega
  have a3:cnt ns f=cnt (ns.take k) f+cnt (ns.drop k) f:=by rw[<-Rg,<-e]
  omega
 ·have a1:=uf (ns.take k) (f-1);have a2:cnt (ns.drop k) (f-1)=0:=by
   refine Ld λx hx=>?_;rw[ed]at hx;rcases List.mem_cons.mp hx with z | z
   ·omega
   ·have:=h4.1 x z;omega
  have a3:cnt ns (f-1)=cnt (ns.take k) (f-1)+cnt (ns.drop k) (f-1):=by rw[<-Rg,<-e]
  omega
end M3
namespace M6
open PySem L2 M3 M5
def D2(a b:List Int)(f:Int):Option Int->Prop
 | none=>∀k,f<=k->cnt a k=cnt b k/\sm a k=sm b k
 | some n=>f<=n/\n<=24/\(∀j,f<=j->j<n->cnt a j=cnt b j/\sm a j=sm b j)/\¬(cnt a n=cnt b n/\sm a n=sm b n)
variable {a:List Int}{f:Int}
theorem rX{j:Int}(hf:cO a f)(hj:j<f):sg a j=none:=by
 refine vQ ?_;have:=Az (ms:=a) (show j<=f-1 by omega);have:=hf.2;omega
theorem lZ{j:Int}(hf:cO a f)(hj:f<=j):sg a j=some ((cnt a j:Int),sm a j):=by
 refine wf ?_;have:=Az (ms:=a) hj;have:=hf.1;omega
variable {b:List Int}{g:Int}
theorem Ln(hf:cO a f)(hg:cO b g)(h:f<g)(h1:1<=f)(h2:f<=24):wb a b 24 (some (f.toNat,"half")):=by
 have e:((f.toNat:Nat):Int)=f:=by omega
 refine⟨by dsimp only;omega,by dsimp only;omega,λj j1 j2=>?_,?_,?_⟩
 ·dsimp only at j2;rw[rX hf (by omega),rX hg (by omega)]
 ·dsimp only;rw[e,lZ hf (Int.le_refl _),rX hg h];exact λz=>nomatch z
 ·dsimp only;rw[e,lZ hf (Int.le_refl _),rX hg h];rfl
theorem ki(hf:cO a f)(hg:cO b g)(h:g<f)(h1:1<=g)(h2:g<=24):wb a b 24 (some (g.toNat,"half")):=VQ (Ln hg hf h h1 h2)
theorem Rh(hf:cO a f)(hg:cO b f)(h:D2 a b f none):wb a b 24 none:=λk k1 k2=>by
 by_cases c:(k:Int)<f
 ·rw[rX hf c,rX hg c]
 ·obtain⟨e1,e2⟩:=h k (by omega);rw[lZ hf (by omega),lZ hg (by omega),e1,e2]
theorem Ri{n:Int}(hf:cO a f)(hg:cO b f)(h1:1<=f)(h:D2 a b f (some n)):wb a b 24 (some (n.toNat,if(cnt a n:Int)=cnt b n then "sum" else "count")):=by
 obtain⟨a1,a2,a3,a4⟩:=h;have e:((n.toNat:Nat):Int)=n:=by omega
 refine⟨by dsimp only;omega,by dsimp only;omega,λj j1 j2=>?_,?_,?_⟩
 ·dsimp only at j2;by_cases c:(j:Int)<f
  ·rw[rX hf c,rX hg c]
  ·obtain⟨e1,e2⟩:=a3 j (by omega) (by omega);rw[lZ hf (by omega),lZ hg (by omega),e1,e2]
 ·dsimp only;rw[e,lZ hf a1,lZ hg a1];intro z;injection z with z
  injection z with z1 z2
  exact a4 ⟨by omega,z2⟩
 ·dsimp only;rw[e,lZ hf a1,lZ hg a1];rfl
theorem qr(hf:cO a f)(hg:cO b g)(h:f<g)(h1:1<=f)(h2:f<=24):zZ a b 24=true:=by
 rw[Lm (Ln hf hg h h1 h2)];dsimp only;have e:((f.toNat:Nat):Int)=f:=by omega
 rw[e,lZ hf (Int.le_refl _),rX hg h];rfl
theorem qu(hf:cO a f)(hg:cO b g)(h:g<f)(h1:1<=g)(h2:g<=24):zZ a b 24=false:=by
 rw[Lm (ki hf hg h h1 h2)];dsimp only;have e:((g.toNat:Nat):Int)=g:=by omega
 rw[e,rX hf h];rfl
theorem qw{n:Int}(hf:cO a f)(hg:cO b f)(h1:1<=f)(h:D2 a b f (some n)):zZ a b 24=if(cnt a n:Int)=cnt b n then decide (sm a n<sm b n)else decide ((cnt b n:Int)<cnt a n):=by
 rw[Lm (Ri hf hg h1 h)];dsimp only;have e:((n.toNat:Nat):Int)=n:=by have:=h.1;omega
 rw[e,lZ hf h.1,lZ hg h.1];show(decide ((cnt b n:Int)<cnt a n) || (decide ((cnt a n:Int)=cnt b n) && decide (sm a n<sm b n)))=_;by_cases c:(cnt a n:Int)=cnt b n
 ·rw[if_pos c,decide_eq_true c,decide_eq_false (show ¬(cnt b n:Int)<cnt a n by omega)];rfl
 ·rw[if_neg c,decide_eq_false c,Bool.false_and,Bool.or_false]
theorem jc{M:Int}(ha:∀x∈a,x<=M)(hb:∀x∈b,x<=M)(hM:f<=M)(h:∀j,f<=j->j<=M->cnt a j=cnt b j/\sm a j=sm b j):D2 a b f none:=λk hk=>by
 by_cases c:k<=M
 ·exact h k hk c
 ·have ea:got a k=got a M:=by
   unfold got;exact filter_congr λx hx=>by have:=ha x hx;rw[decide_eq_true (by omega),decide_eq_true this]
  have eb:got b k=got b M:=by
   unfold got;exact filter_congr λx hx=>by have:=hb x hx;rw[decide_eq_true (by omega),decide_eq_true this]
  have:=h M hM (Int.le_refl _);unfold cnt sm at *;rw[ea,eb];exact this
theorem me{cs:List (List Int)}{us:List Int}(hp:∀d∈cs,d.Perm us)(h1:1<=us.length)(DZ:us.length<=24):zw cs us=us.map λc=>1+(((us.map (zm cs)).filter λr=>zZ r (zm cs c) 24).length:Int):=by
 unfold zw;refine map_congr_left λc hc=>?_;rw[filter_map,length_map];congr 3;refine filter_congr λd hd=>?_;refine lX h1 (by omega) (λx hx=>?_) (λx hx=>?_)
 ·have:=yG hp hd x hx;omega
 ·have:=yG hp hc x hx;omega
end M6
namespace L2
open PySem
variable {S:Sh}
theorem Sh.aJ(ok:S.Ok):∀d∈S.ai,d.Perm S.aa:=λd hd=>by
 obtain⟨j,hj,rfl⟩:=List.mem_map.mp hd;have h2:=(List.mem_filter.mp hj).2;cases e:S.card j with
 | none=>rw[e]at h2;cases h2
 | some c=>exact(ok.cd j c e).2
theorem Sh.aA(S:Sh):S.ai.length=S.handed.length:=by unfold Sh.ai;simp
def Sh.bc(S:Sh)(j:Str):List (List Int):=(S.handed.filter λi => !decide (i=j)).map λi=>(S.card i).getD []
theorem Sh.cw(ok:S.Ok)(j:Str):∀d∈S.bc j,d.Perm S.aa:=λd hd=>by
 obtain⟨i,hi,rfl⟩:=List.mem_map.mp hd;exact Sh.aJ ok _ (List.mem_map_of_mem (List.mem_filter.mp hi).1)
theorem Sh.eZ(ok:S.Ok)(j:Str):(!decide ((S.card j).getD []=[]))=(S.card j).isSome:=by
 cases e:S.card j with
 | none=>rfl
 | some c=>rw[show(some c).getD ([]:List Int)=c from rfl,decide_eq_false (ok.full e)];rfl
theorem Sh.bj(ok:S.Ok):S.ai=S.rows.filter λd => !decide (d=[]):=by
 unfold Sh.ai Sh.handed Sh.rows;rw[filter_map];congr 1;exact filter_congr λj _=>(Sh.eZ ok j).symm
theorem Gd:∀{l:List Str},l.Nodup->∀{k:Nat}(hk:k<l.length),(l.filter λi => !decide (i=l[k]))=l.take k++l.drop (k+1)
 | a::l,nd,0,_=>by
   have h:=List.nodup_cons.mp nd;show((a::l).filter λi => !decide (i=a))=l;rw[filter_cons,if_neg (by rw[decide_eq_true rfl];decide),List.filter_eq_self];intro x hx;have:¬x=a:=λz=>h.1 (z ▸ hx);rw[decide_eq_false this];rfl
 | a::l,nd,k+1,hk=>by
   have h:=List.nodup_cons.mp nd;have qx:k<l.length:=by simpa using hk
   show((a::l).filter λi => !decide (i=l[k]))=a::(l.take k++l.drop (k+1));have:¬a=l[k]:=λz=>h.1 (z ▸ getElem_mem qx);rw[filter_cons,if_pos (by rw[decide_eq_false this];rfl),Gd h.2 qx]
theorem Sh.du(ok:S.Ok){k:Nat}(hk:k<S.af.length):S.bc (S.af.getD k "")=(S.rows.take k++S.rows.drop (k+1)).filter λd => !decide (d=[]):=by
 have e:S.af.getD k ""=S.af[k]:=by rw[getD_eq_getElem?_getD,getElem?_eq_getElem hk];rfl
 unfold Sh.bc Sh.handed Sh.rows;rw[e,filter_filter,<-map_take,<-map_drop,<-map_append,<-Gd ok.qi hk,filter_map,filter_filter];congr 1;refine filter_congr λj _=>?_;show((!decide (j=S.af[k])) && (S.card j).isSome)=((!decide ((S.card j).getD []=[])) && (!decide (j=S.af[k])));rw[Sh.eZ ok j,Bool.and_comm]
theorem Sh.dc(ok:S.Ok):S.handed.length=(S.rows.filter λd => !decide (d=[])).length:=by rw[<-Sh.bj ok,Sh.aA]
theorem Sh.cP{j:Str}(nd:S.af.Nodup)(hj:j∈S.handed):(S.bc j).length+1=S.handed.length:=by
 unfold Sh.bc;rw[length_map];have hn:S.handed.Nodup:=nd.filter _;have e:(S.handed.filter λi => !decide (i=j))=S.handed.erase j:=by
  rw[hn.erase_eq_filter];refine filter_congr λx _=>?_;by_cases h:x=j
  ·simp[h]
  ·simp[h]
 rw[e,List.length_erase_of_mem hj];have:=length_pos_of_mem hj;omega
theorem wJ{K:Frag}{a:Addr}{ls:List Addr}{cs:List (List Int)}{c:St}{tc:TT}{te:TE}{H:Hp}{fin:List V->Hp->Prop}(hA:ag K H a (ls.map V.ref))(hR:All2 (IL K H) ls cs)(hz:cs.length<=1000)
 (VS:∀(m:Addr)(d:List Int)(H':Hp)(Q:Bool->Hp->Prop),ag K H' m (d.map V.int)->(∀H2,ae H' H2->Q (!decide (d=[])) H2)->tc (some (.ref m)::c) H' Q)
 (D4:∀(m:Addr)(H':Hp)(Q:VK),Q (.ref m) H'->te (some (.ref m)::c) H' Q)
 (hd:∀(ks:List Addr)(H':Hp),ae H H'->All2 (IL K H') ks (cs.filter λd => !decide (d=[]))->fin (ks.map V.ref) H'):oF (kF K a) c tc te H fin:=by
 have cj:=zt;have hl:=hR.length;refine y9 (xs:=ls.map V.ref) (λi ys H2=>∃ks:List Addr,ys=ks.map V.ref/\ae H H2/\All2 (IL K H2) ks ((cs.take i).filter λd => !decide (d=[]))) ⟨[],rfl,ae.refl _,.nil⟩ ?_ (by rw[length_map];omega) ?_ ?_
 ·rintro i ys H2 hi ⟨ks,rfl,s2,r2⟩;refine⟨s2.seq hA,?_⟩;have h3:=r2.length;have h4:=length_filter_le (λd:List Int => !decide (d=[])) (cs.take i);rw[length_take]at h4;rw[length_map];omega
 ·rintro i x ys H2 hx ⟨ks,rfl,s2,r2⟩;obtain⟨m,em,rfl⟩:=uh hx;obtain⟨d,ed,rd⟩:=hR.getL em;refine VS m d H2 _ (s2.seq rd) λH3 s3=>?_;have e:(cs.take (i+1)).filter (λd => !decide (d=[]))=(cs.take i).filter (λd => !decide (d=[]))++if(!decide (d=[]))=true then [d] else []:=by
   rw[take_succ,ed,filter_append];congr 1;show filter _ [d]=_;rw[filter_cons];rfl
  refine vp (λhb=>?_) (λhb=>?_)
  ·refine D4 m H3 _ ⟨ks++[m],by rw[map_append];rfl,s2.trans s3,?_⟩;rw[e,if_pos hb];exact(r2.imp λ_ _=>IL.stays K _ _ _ _ s3).snoc ((s2.trans s3).seq rd)
  ·refine⟨ks,rfl,s2.trans s3,?_⟩;rw[e,if_neg (by rw[hb];exact Bool.false_ne_true),append_nil];exact r2.imp λ_ _=>IL.stays K _ _ _ _ s3
 ·rintro ys H2 ⟨ks,rfl,s2,r2⟩;rw[length_map,hl,take_length]at r2;exact hd ks H2 s2 r2
variable {α β:Type}
theorem All2.qy{R:α->β->Prop}{as:List α}{bs:List β}(h:All2 R as bs):∀k,All2 R (as.take k) (bs.take k):=by
 induction h with
 | nil=>intro k;rw[take_nil,take_nil];exact .nil
 | cons r _ ih =>
   intro k;cases k with
   | zero=>exact .nil
   | succ k=>exact .cons r (ih k)
theorem All2.qz{R:α->β->Prop}{as:List α}{bs:List β}(h:All2 R as bs):∀k,All2 R (as.drop k) (bs.drop k):=by
 induction h with
 | nil=>intro k;rw[drop_nil,drop_nil];exact .nil
 | cons r h' ih =>
   intro k;cases k with
   | zero=>exact .cons r h'
   | succ k=>exact ih k
theorem All2.app{R:α->β->Prop}{as DY:List α}{bs Bv:List β}(h:All2 R as bs)(h2:All2 R DY Bv):All2 R (as++DY) (bs++Bv):=by
 induction h with
 | nil=>exact h2
 | cons r _ ih=>exact .cons r ih
end L2
namespace M6
open PySem L2 M3 M5
theorem uq:∀p:Sg,gL p p=false
 | none=>rfl
 | some p=>by show(decide (p.1<p.1) || (decide (p.1=p.1) && decide (p.2<p.2)))=false;simp
theorem ur:∀{p q r:Sg},gL p q=true->gL q r=true->gL p r=true
 | none,_,_,h,_=>by cases h
 | some p,none,_,_,h=>by cases h
 | some p,some q,none,_,_=>rfl
 | some p,some q,some r,h1,h2=>by
   simp only[gL,Bool.or_eq_true,Bool.and_eq_true,decide_eq_true_eq]at h1 h2 ⊢;omega
theorem Rj:∀{xs ys zs:List Sg},zE xs ys=true->zE ys zs=true->zE xs zs=true
 | x::xs,y::ys,z::zs,h1,h2=>by
   rw[zE]at h1 h2 ⊢;by_cases e1:x=y
   ·rw[if_pos e1]at h1;by_cases e2:y=z
    ·rw[if_pos e2]at h2;rw[if_pos (e1.trans e2)];exact Rj h1 h2
    ·rw[if_neg e2]at h2;rw[e1,if_neg e2];exact h2
   ·rw[if_neg e1]at h1;by_cases e2:y=z
    ·rw[if_pos e2]at h2;rw[<-e2,if_neg e1];exact h1
    ·rw[if_neg e2]at h2;have h:=ur h1 h2;rw[if_neg (λe=>by rw[e,uq]at h;cases h)];exact h
 | [],_,_,h,_=>by simp[zE]at h
 | _::_,[],_,h,_=>by simp[zE]at h
 | _::_,_::_,[],_,h=>by simp[zE]at h
theorem Rk(a:List Int)(n:Nat):zZ a a n=false:=Ll _
theorem VT{a b c:List Int}{n:Nat}(h1:zZ a b n=true)(h2:zZ b c n=true):zZ a c n=true:=Rj h1 h2
def D5(cs:List (List Int))(us:List Int)(c:Int):Nat:=(us.filter λd=>zZ (zm cs d) (zm cs c) us.length).length
variable {cs:List (List Int)}{us:List Int}
theorem mf{i:Nat}(h:i<us.length):(zw cs us).getD i 0=1+(D5 cs us (us.getD i 0):Int):=by
 unfold zw D5;rw[getD_eq_getElem?_getD,getElem?_map,getD_eq_getElem?_getD,getElem?_eq_getElem h];rfl
theorem Rl{cs:List (List Int)}{us:List Int}(n:Nat):∀{vs:List Int},vs≠[]->∃c∈vs,∀d∈vs,zZ (zm cs d) (zm cs c) n=false
 | [c],_=>⟨c,List.mem_singleton.mpr rfl,λd hd=>by rw[List.mem_singleton.mp hd];exact Rk _ _⟩
 | c::v::vs,_=>by
   obtain⟨m,hm,hd⟩:=Rl (cs:=cs) (us:=us) n (vs:=v::vs) (by simp);cases h:zZ (zm cs c) (zm cs m) n with
   | false =>
     refine⟨m,mem_cons_of_mem _ hm,λd h'=>?_⟩;rcases List.mem_cons.mp h' with e | e
     ·rw[e];exact h
     ·exact hd d e
   | true =>
     refine⟨c,mem_cons_self ..,λd h'=>?_⟩;rcases List.mem_cons.mp h' with e | e
     ·rw[e];exact Rk _ _
     ·cases h2:zZ (zm cs d) (zm cs c) n with
      | false=>rfl
      | true=>have:=hd d e;rw[VT h2 h]at this;cases this
theorem AD(h:us≠[]):(1:Int)∈zw cs us:=by
 obtain⟨c,hc,hd⟩:=Rl (cs:=cs) (us:=us) us.length h;unfold zw;refine List.mem_map.mpr ⟨c,hc,?_⟩;rw[List.filter_eq_nil_iff.mpr λd h'=>by rw[hd d h'];exact Bool.false_ne_true];rfl
end M6
namespace L2
open PySem
end L2
namespace M6
open PySem L2 M3 M5
variable {cs:List (List Int)}{us:List Int}{c:Int}
end M6
namespace L2
open PySem
end L2
namespace M6
open PySem L2 M3 M5
theorem mh{cs:List (List Int)}{us:List Int}:zw cs us=us.map λc=>1+(D5 cs us c:Int):=rfl
end M6
namespace L2
open PySem
end L2
namespace M6
open PySem L2 M3 M5
def Gm(a b:List Int)(n:Nat):Option (Nat×Str):=((List.range n).find? fun(i:Nat)=>decide (sg a ((i:Int)+1)≠sg b ((i:Int)+1))).map fun(i:Nat)=>(i+1,word (sg a ((i:Int)+1)) (sg b ((i:Int)+1)))
theorem Rm{p:Nat->Bool}:∀{n j i:Nat},(range' j n).find? p=some i->p i=true/\j<=i/\i<j+n/\∀k,j<=k->k<i->p k=false
 | 0,j,i,h=>by cases h
 | n+1,j,i,h=>by
   rw[List.range'_succ,find?_cons]at h;cases hp:p j with
   | true =>
     rw[hp]at h;have e:j=i:=Option.some.inj h;subst e;exact⟨hp,le_refl _,by omega,λk h1 h2=>by omega⟩
   | false =>
     rw[hp]at h;obtain⟨h1,h2,h3,h4⟩:=Rm h;refine⟨h1,by omega,by omega,λk k1 k2=>?_⟩;by_cases e:k=j
     ·subst e;exact hp
     ·exact h4 k (by omega) k2
theorem Gn(a b:List Int)(n:Nat):wb a b n (Gm a b n):=by
 unfold Gm;rw[List.range_eq_range'];cases h:(range' 0 n).find? fun(i:Nat)=>decide (sg a ((i:Int)+1)≠sg b ((i:Int)+1))with
 | none =>
   rw[List.find?_eq_none]at h;show wb a b n none;intro k h1 h2;have:=h (k-1) (by rw[List.mem_range'_1];omega);have e:((k-1:Nat):Int)+1=(k:Int):=by omega
   rw[e]at this;by_cases c:sg a k=sg b k
   ·exact c
   ·exact absurd (decide_eq_true c) this
 | some i =>
   obtain⟨h1,h2,h3,h4⟩:=Rm h;have e:((i+1:Nat):Int)=(i:Int)+1:=by omega
   show wb a b n (some (i+1,word (sg a ((i:Int)+1)) (sg b ((i:Int)+1))));refine⟨by show 1<=i+1;omega,by show i+1<=n;omega,λj j1 j2=>?_,?_,?_⟩
   ·have j2:j<i+1:=j2;have:=h4 (j-1) (by omega) (by omega);have ej:((j-1:Nat):Int)+1=(j:Int):=by omega
    rw[ej]at this;by_cases c:sg a j=sg b j
    ·exact c
    ·rw[decide_eq_true c]at this;cases this
   ·show sg a ((i+1:Nat):Int)≠sg b ((i+1:Nat):Int);rw[e];exact of_decide_eq_true h1
   ·show _=word (sg a ((i+1:Nat):Int)) (sg b ((i+1:Nat):Int));rw[e]
abbrev R4:=Int×Int×Int×Str
def nb(cs:List (List Int))(us:List Int)(p q:Int×Int):Option R4:=if p.1=q.1 then none else(Gm (zm cs p.2) (zm cs q.2) us.length).map λr=>(p.2,q.2,(r.1:Int),r.2)
def AE(cs:List (List Int))(us:List Int):List R4:=((rows (zw cs us) us).zip (rows (zw cs us) us).tail).filterMap λpq=>nb cs us pq.1 pq.2
def yS(cs:List (List Int))(us:List Int)(c:Int):Int:=1+((us.filter λd=>zZ (zm cs d) (zm cs c) us.length).length:Int)
variable {cs:List (List Int)}{us:List Int}
theorem Gp{p:Int×Int}(h:p∈rows (zw cs us) us):p.2∈us/\p.1=yS cs us p.2:=by
 unfold rows at h;obtain⟨i,_,hi⟩:=List.mem_flatMap.mp h;have hz:=(List.mem_filter.mp hi).1;have e:(zw cs us).zip us=us.map λc=>(yS cs us c,c):=by
  show(us.map λc=>yS cs us c).zip us=_;rw[List.zip_map_left];have:us.zip us=us.map λc=>(c,c):=by
   induction us with
   | nil=>rfl
   | cons a us ih=>rw[List.zip_cons_cons,map_cons];congr 1;rw[List.zip_eq_zipWith,List.zipWith_self]
  rw[this,map_map];rfl
 rw[e]at hz;obtain⟨c,hc,rfl⟩:=List.mem_map.mp hz;exact⟨hc,rfl⟩
theorem VU{c d:Int}(h:yS cs us c≠yS cs us d):Gm (zm cs c) (zm cs d) us.length≠none:=λe=>by
 have hp:=Gn (zm cs c) (zm cs d) us.length;rw[e]at hp;apply h;have es:ww (zm cs c) us.length=ww (zm cs d) us.length:=by
  unfold ww;refine map_congr_left λi hi=>?_;have hi:=List.mem_range.mp hi;have:=hp (i+1) (by omega) (by omega);have ei:((i+1:Nat):Int)=(i:Int)+1:=by omega
  rw[ei]at this;exact this
 unfold yS zZ;rw[es]
end M6
namespace L2
open PySem
def F4(K:Frag)(H:Hp)(l:Addr)(p:M6.R4):Prop:=bN K H l [.int p.1,.int p.2.1,.int p.2.2.1,.str p.2.2.2]
theorem F4.stays(K:Frag):j8 (F4 K):=λ_ _ _ _ s h=>s.ia h
theorem F4.put{K:Frag}{H:Hp}{p:Addr}{ys:List V}{o:HO}{ls:List Addr}{ps:List M6.R4}(h:All2 (F4 K H) ls ps)(hp:H p=some (.lst ys)):All2 (F4 K (upd H p o)) ls ps:=h.imp λ_ _ r=>bN.put r hp
end L2
namespace M9
open PySem L2 M3 M5
end M9
namespace M6
open PySem L2 M3 M5 M9
variable {cs:List (List Int)}{us:List Int}{c d f:Int}
end M6
namespace L2
open PySem
def iC(d:List Int)(i:Nat):List Int:=d.take (i-1)++[d.getD i 0,d.getD (i-1) 0]++d.drop (i+1)
variable {d:List Int}{i:Nat}
theorem qA(h0:0<i)(hi:i<d.length):∃p q,p.length=i-1/\d=p++[d.getD (i-1) 0,d.getD i 0]++q/\iC d i=p++[d.getD i 0,d.getD (i-1) 0]++q:=by
 refine⟨d.take (i-1),d.drop (i+1),by rw[length_take];omega,?_,rfl⟩;have h1:i-1<d.length:=by omega
 have e1:d.getD (i-1) 0=d[i-1]:=by rw[getD_eq_getElem?_getD,getElem?_eq_getElem h1];rfl
 have e2:d.getD i 0=d[i]:=by rw[getD_eq_getElem?_getD,getElem?_eq_getElem hi];rfl
 rw[e1,e2,append_assoc]
 conv=>lhs;rw[<-take_append_drop (i-1) d]
 congr 1;rw[drop_eq_getElem_cons h1];show d[i-1]::d.drop (i-1+1)=d[i-1]::(d[i]::d.drop (i+1));congr 1;have:i-1+1=i:=by omega
 rw[this];exact drop_eq_getElem_cons hi
theorem Rn(h0:0<i)(hi:i<d.length):(iC d i).Perm d:=by
 obtain⟨p,q,_,e1,e2⟩:=qA h0 hi;rw[e2]
 conv=>rhs;rw[e1]
 refine List.Perm.append_right _ (List.Perm.append_left _ ?_);exact List.Perm.swap _ _ _
theorem AF(h0:0<i)(hi:i<d.length):(iC d i)[i]? = some (d.getD (i-1) 0):=by
 obtain⟨p,q,hp,_,e2⟩:=qA h0 hi;rw[e2,append_assoc,List.getElem?_append_right (by omega),hp,show i-(i-1)=1 by omega];rfl
def Sh.cy(S:Sh)(j:Str)(d:List Int):List (List Int):=S.handed.map λi=>if i=j then d else(S.card i).getD []
theorem Sh.dv{S:Sh}(ok:S.Ok){j:Str}(h:d.Perm S.aa):∀e∈S.cy j d,e.Perm S.aa:=λe he=>by
 obtain⟨i,hi,rfl⟩:=List.mem_map.mp he;by_cases c:i=j
 ·rw[if_pos c];exact h
 ·rw[if_neg c];exact Sh.aJ ok _ (List.mem_map_of_mem hi)
theorem Sh.cQ(S:Sh)(j:Str)(d:List Int):(S.cy j d).length=S.handed.length:=by unfold Sh.cy;simp
def Sh.qB(S:Sh)(j:Str)(d:List Int):Sh:={ S with card:=λk=>if k=j then some d else S.card k }
theorem Sh.Ok.qB{S:Sh}(h:S.Ok){j:Str}(hj:j∈S.af)(hd:d.Perm S.aa):(S.qB j d).Ok:=by
 refine⟨h.c1,h.cG,h.nd,h.fH,h.p1,h.dA,h.qi,λk e z=>?_,h.uj⟩;have z:(if k=j then some d else S.card k)=some e:=z;by_cases ek:k=j
 ·rw[if_pos ek]at z;cases z;subst ek;exact⟨hj,hd⟩
 ·rw[if_neg ek]at z;exact h.cd k e z
theorem uu{α:Type}{l:List α}{k:Nat}(hk:k<l.length)(x:α):l.take k++[x]++l.drop (k+1)=l.set k x:=by
 rw[List.set_eq_take_append_cons_drop,if_pos hk,append_assoc];rfl
theorem Sh.gp{S:Sh}(ok:S.Ok){w:Nat}(hw:w<S.af.length)(hd:d.Perm S.aa)(hs:(S.card (S.af.getD w "")).isSome=true):S.cy (S.af.getD w "") d=(S.rows.take w++[d]++S.rows.drop (w+1)).filter λd => !decide (d=[]):=by
 have hj:S.af.getD w "" ∈ S.af:=wn hw;rw[uu (by rw[S.aL];exact hw),<-Sh.dJ ok.qi hw d];rw[show(S.hand (S.af.getD w "") d).rows=(S.qB (S.af.getD w "") d).rows from rfl,<-Sh.bj (ok.qB hj hd)];unfold Sh.cy Sh.ai;have e:(S.qB (S.af.getD w "") d).handed=S.handed:=by
  unfold Sh.handed;refine filter_congr λi _=>?_;show(if i=S.af.getD w "" then some d else S.card i).isSome=_;by_cases c:i=S.af.getD w ""
  ·rw[if_pos c,c,hs];rfl
  ·rw[if_neg c]
 rw[e];refine map_congr_left λi _=>?_;show _=(if i=S.af.getD w "" then some d else S.card i).getD [];by_cases c:i=S.af.getD w ""
 ·rw[if_pos c,if_pos c];rfl
 ·rw[if_neg c,if_neg c]
end L2
namespace M6
open PySem L2 M3 M5
variable {cs VV:List (List Int)}{us:List Int}{c:Int}
theorem qD{d:List Int}{e:Int}(h:e∈d):d.getD (d.idxOf e) 0=e:=by
 rw[Bq (idxOf_lt_length_of_mem h)];exact getElem_idxOf _
end M6
namespace L2
open PySem M6 M5
def Sh.more(S:Sh)(n:Nat):Sh:={ S with taken:=S.taken+n }
section
variable {S:Sh}{j:Str}{d:List Int}{k:Nat}
end
end L2
namespace M6
open PySem L2 M3 M5
section
variable {A B C:List Int}{c:Int}
end
end M6
namespace L2
open PySem
def vR(ps us:List Int)(n:Nat):List Int:=((List.range n).filter λk=>decide (ps.getD k 0=1)).map λk=>us.getD k 0
theorem Gq(ps us:List Int)(n:Nat):vR ps us (n+1)=vR ps us n++if ps.getD n 0=1 then [us.getD n 0] else []:=by
 unfold vR;rw[range_succ,filter_append,map_append];congr 1;by_cases h:ps.getD n 0=1
 ·rw[if_pos h,filter_cons,if_pos (by rw[decide_eq_true h])];rfl
 ·rw[if_neg h,filter_cons,if_neg (by rw[decide_eq_false h];decide)];rfl
theorem Lo(ps us:List Int)(n:Nat):(vR ps us n).length<=n:=by
 unfold vR;rw[length_map];exact le_trans (length_filter_le _ _) (by rw[length_range];exact le_refl _)
def mZ(cs:List (List Int))(us:List Int):List Int:=vR (M6.zw cs us) us us.length
def Sh.decide(S:Sh):List Str:=S.handed.filter λj => !Decidable.decide (mZ (S.bc j) S.aa=mZ S.ai S.aa)
theorem Sh.jd(S:Sh)(j:Str):(S.bc j).length<=S.handed.length:=by
 unfold Sh.bc;rw[length_map];exact length_filter_le _ _
theorem Sh.je{S:Sh}(nd:S.af.Nodup)(j:Str):S.handed.length<=(S.bc j).length+1:=by
 by_cases hj:j∈S.handed
 ·exact le_of_eq (Sh.cP nd hj).symm
 ·unfold Sh.bc;rw[length_map,List.filter_eq_self.mpr]
  ·exact le_succ _
  ·intro x hx;have:¬x=j:=λz=>hj (z ▸ hx);rw[decide_eq_false this];rfl
end L2
namespace M6
open PySem L2 M3 M5
variable {cs:List (List Int)}{us:List Int}{c:Int}
end M6
namespace L2
open PySem
end L2
namespace M6
open PySem L2 M3 M5
theorem qF(f:Int->Int):∀us:List Int,(us.map f).zip us=us.map λc=>(f c,c)
 | []=>rfl
 | c::us=>by rw[map_cons,List.zip_cons_cons,qF f us];rfl
def bC(f:Int->Int)(us:List Int)(i:Nat):List (Int×Int):=(us.filter λc=>decide (f c=(i:Int)+1)).map λc=>(f c,c)
theorem qG(f:Int->Int)(us:List Int):rows (us.map f) us=(List.range us.length).flatMap (bC f us):=by
 unfold rows bC;congr 1;funext i;rw[qF,filter_map];rfl
variable {cs:List (List Int)}{us:List Int}{c:Int}
def vS(cs:List (List Int))(us:List Int)(c:Int):Int:=1+(D5 cs us c:Int)
theorem VW(cs:List (List Int))(us:List Int):rows (zw cs us) us=(List.range us.length).flatMap (bC (vS cs us) us):=qG _ _
end M6
namespace L2
open PySem
def vT(cs:List (List Int))(us:List Int)(k:Nat):Bool := !decide (cs.getD k []=[]) && !decide (mZ ((cs.take k++cs.drop (k+1)).filter λd => !decide (d=[])) us=mZ (cs.filter λd => !decide (d=[])) us)
def uv(ts:List Str)(cs:List (List Int))(us:List Int)(n:Nat):List Str:=((List.range n).filter (vT cs us)).map λk=>ts.getD k ""
theorem Lp(ts:List Str)(cs:List (List Int))(us:List Int)(n:Nat):uv ts cs us (n+1)=uv ts cs us n++if vT cs us n=true then [ts.getD n ""] else []:=by
 unfold uv;rw[range_succ,filter_append,map_append];congr 1;by_cases h:vT cs us n=true
 ·rw[if_pos h,filter_cons,if_pos h];rfl
 ·rw[if_neg h,filter_cons,if_neg h];rfl
theorem Ro(ts:List Str)(cs:List (List Int))(us:List Int)(n:Nat):(uv ts cs us n).length<=n:=by
 unfold uv;rw[length_map];exact le_trans (length_filter_le _ _) (by rw[length_range];exact le_refl _)
theorem Sh.ig{S:Sh}(ok:S.Ok):S.decide=uv S.af S.rows S.aa S.af.length:=by
 unfold Sh.decide Sh.handed uv;rw[filter_filter]
 conv=>lhs;rw[<-map_getD S.af ""]
 rw[filter_map];congr 1;refine filter_congr λk hk=>?_;have hk:=List.mem_range.mp hk;show((!Decidable.decide (mZ (S.bc (S.af.getD k "")) S.aa=mZ S.ai S.aa)) && (S.card (S.af.getD k "")).isSome)=vT S.rows S.aa k;unfold vT;rw[Sh.du ok hk,Sh.bj ok,S.eK hk,Sh.eZ ok,Bool.and_comm]
variable {K:Frag}{H H':Hp}
theorem ao.bJ{p:Addr}{F:Addr->Prop}{S:Sh}(h:ao K H p F S)(s:aG H H'):∃F':Addr->Prop,(∀b,F' b->F b)/\ao K H' p F' S:=by
 obtain⟨dx,a1,a2,a3,d,aw,h⟩:=h;refine⟨λb=>F b/\∀ps,H b≠some (.bW ps),λb z=>z.1,dx,a1,a2,a3,d,aw,⟨⟨s.1 _ _ h.ip (λ_ z=>by cases z),s.1 _ _ h.i1 (λ_ z=>by cases z),s.1 _ _ h.i2 (λ_ z=>by cases z),s.1 _ _ h.i3 (λ_ z=>by cases z),s.1 _ _ h.i4 (λ_ z=>by cases z),h.kl,h.cn,λj c hc=>?_,⟨h.fp,λps z=>by rw[h.ip]at z;cases z⟩,⟨h.f1,λps z=>by rw[h.i1]at z;cases z⟩,⟨h.f2,λps z=>by rw[h.i2]at z;cases z⟩,⟨h.f3,λps z=>by rw[h.i3]at z;cases z⟩,⟨h.f4,λps z=>by rw[h.i4]at z;cases z⟩,h.BE,h.vP,λb hb=>?_⟩,h.ok⟩⟩
 ·obtain⟨l,x1,x2,x3,x4⟩:=h.cs j c hc;exact⟨l,x1,s.1 _ _ x2 (λ_ z=>by cases z),⟨x3,λps z=>by rw[x2]at z;cases z⟩,x4⟩
 ·cases e:H b with
  | none=>exact absurd e (h.fh b hb.1)
  | some u =>
    rw[s.1 b u e λps z=>hb.2 ps (by rw[e,z])];simp
variable {a:Addr}{xs:List V}
theorem aG.lst(s:aG H H')(e:H a=some (.lst xs)):H' a=some (.lst xs):=s.1 _ _ e λ_ z=>by cases z
theorem aG.seq(s:aG H H')(h:ag K H a xs):ag K H' a xs:=s.same.seq h.lG
variable {ls:List Addr}
theorem All2.bJ{cs:List (List Int)}(h:All2 (IL K H) ls cs)(s:aG H H'):All2 (IL K H') ls cs:=h.imp λ_ _ (z:ag K H _ _)=>(show ag K H' _ _ from s.seq z)
theorem aG.ia(s:aG H H')(h:bN K H a xs):bN K H' a xs:=by
 rcases h with(r | ⟨o,r⟩) | h
 ·exact .inl (.inl (s.1 _ _ r λ_ z=>by cases z))
 ·exact .inl (.inr ⟨o,s.1 _ _ r λ_ z=>by cases z⟩)
 ·exact .inr h
theorem dg.bJ(s:aG H H'){rs:List (Int×Int)}(h:All2 (dg K H) ls rs):All2 (dg K H') ls rs:=h.imp λ_ _ z=>s.ia z
end L2
namespace M6
open PySem L2 M3 M5 M9
section
variable {φ:Sg->Sg}{cs VV:List (List Int)}{us:List Int}
end
theorem VX(cs:List (List Int))(us:List Int):(AE cs us).length<=us.length*us.length:=by
 have h1:=aL (zw cs us) us (yp cs us);have h2:=List.length_filterMap_le (λpq=>nb cs us pq.1 pq.2) ((rows (zw cs us) us).zip (rows (zw cs us) us).tail);rw[length_zip]at h2;unfold AE;omega
end M6
namespace M6
open PySem L2 M3 M5
section
variable {cs:List (List Int)}{us d:List Int}
end
end M6
namespace L2
open PySem
end L2
namespace M6
open PySem L2 M3 M5
def bar:Str:=Str.ofString "|"
def sl:Str:=Str.ofString "/"
def blank:Str:=Str.ofString " "
def D6(p:Int×Int):Str:=tN p.1++sl++tN p.2
def gM(ms:List Int)(n:Nat):List Str:=(mY ms n).map D6
def jf(p c:Int)(ms:List Int)(n:Nat):List Str:=[tN p,tN c]++[bar]++ms.map tN++[bar]++gM ms n
def uw(p c:Int)(ms:List Int)(n:Nat):Str:=Txt.join blank (jf p c ms n)
theorem jg{n:Int}(h:n.natAbs<=990):(tN n).length<=992:=by
 have:=len_str_of_int n;unfold tN;omega
theorem Rp:∀{ms:List Int},(∀x∈ms,1<=x/\x<=24)->0<=ms.sum/\ms.sum<=24*ms.length
 | [],_=>by simp
 | x::ms,h=>by
   have h1:=h x (mem_cons_self ..);have h2:=Rp (ms:=ms) λy hy=>h y (mem_cons_of_mem _ hy);simp only[List.sum_cons,length_cons];omega
variable {ms:List Int}
theorem Lq(h:∀x∈ms,1<=x/\x<=24)(n:Int):0<=sm ms n/\sm ms n<=24*ms.length:=by
 have h1:=Rp (ms:=got ms n) λx hx=>h x (List.mem_filter.mp hx).1;have h2:=uf ms n;unfold cnt at h2;unfold sm;omega
theorem Gr:sl.length=1:=by decide +kernel
theorem kj:bar.length=1:=by decide +kernel
theorem Rq(ms:List Int)(n:Nat):gM ms (n+1)=gM ms n++[tN (cnt ms ((n:Int)+1))++sl++tN (sm ms ((n:Int)+1))]:=by
 unfold gM;rw[Rc,map_append];rfl
theorem Lr(hl:ms.length<=15)(h:∀x∈ms,1<=x/\x<=24)(n:Int):(tN (cnt ms n)).length<=992/\(tN (sm ms n)).length<=992:=by
 have h1:=uf ms n;have h2:=Lq h n;exact⟨jg (by omega),jg (by omega)⟩
theorem Rr(ms:List Int)(n:Nat):(gM ms n).length=n:=by unfold gM;rw[length_map,Gk]
theorem jh(hl:ms.length<=15)(h:∀x∈ms,1<=x/\x<=24)(n:Nat):∀w∈gM ms n,w.length<=2000:=λw hw=>by
 induction n with
 | zero=>unfold gM mY at hw;simp at hw
 | succ n ih =>
   rw[Rq]at hw;rcases List.mem_append.mp hw with z | z
   ·exact ih z
   ·rw[List.mem_singleton.mp z,we,we,Gr];have:=Lr hl h ((n:Int)+1);omega
theorem Rt(hl:ms.length<=15)(h:∀x∈ms,1<=x/\x<=24){p c:Int}(hp:p.natAbs<=990)(hc:c.natAbs<=1000)(n:Nat):∀w∈jf p c ms n,w.length<=2000:=λw hw=>by
 unfold jf at hw;simp only[mem_append,mem_cons,not_mem_nil,or_false,List.mem_map]at hw;have l1:=len_str_of_int p;have l2:=len_str_of_int c;rcases hw with((((rfl | rfl) | rfl) | ⟨x,hx,rfl⟩) | rfl) | hw
 ·unfold tN;omega
 ·unfold tN;omega
 ·rw[kj];omega
 ·have:=h x hx;have:=jg (n:=x) (by omega);omega
 ·rw[kj];omega
 ·exact jh hl h n w hw
def km(cs:List (List Int))(us:List Int):List Str:=(rows (zw cs us) us).map λp=>uw p.1 p.2 (zm cs p.2) us.length
theorem ux(y:Str):Str.empty++y=y:=by
 refine PySem.Str.ext' ?_;show(#[]:Array Nat)++y.cps=y.cps;simp
end M6
namespace L2
open PySem
inductive dM:V->Str->Prop
 | int {i:Int}:i.natAbs<=100000->dM (.int i) (tN i)
 | str {y:Str}:dM (.str y) y
theorem Ru:∀{ns:List Int},(∀n∈ns,n.natAbs<=100000)->All2 dM (ns.map V.int) (ns.map tN)
 | [],_=>.nil
 | n::ns,h=>.cons (.int (h n (mem_cons_self ..))) (Ru λm hm=>h m (mem_cons_of_mem _ hm))
theorem Ls:∀(ts:List Str),All2 dM (ts.map V.str) ts
 | []=>.nil
 | t::ts=>.cons .str (Ls ts)
variable {fin:List V->Hp->Prop}
theorem Lu{K:Frag}{a:Addr}{ls:List Addr}{rs:List (Int×Int)}{f:Int×Int->Str}{c:St}{te:TE}{H:Hp}(hA:ag K H a (ls.map V.ref))(hR:All2 (dg K H) ls rs)(hz:rs.length<=1000)
 (D4:∀(p:Int×Int)(H':Hp)(Q:VK),p∈rs->ae H H'->(∀H2,ae H' H2->Q (.str (f p)) H2)->te (some (.int p.1)::some (.int p.2)::c) H' Q)
 (hd:∀(H':Hp),ae H H'->fin ((rs.map f).map V.str) H'):BA K (kF K a) c iS te H fin:=by
 have cj:=zt;have hl:=hR.length;refine QQ (xs:=ls.map V.ref) (λi ys H3=>ae H H3/\ys=((rs.take i).map f).map V.str) ⟨ae.refl _,rfl⟩ ?_ (by rw[length_map];omega) ?_ ?_
 ·rintro i ys H3 hi ⟨s3,rfl⟩;refine⟨s3.seq hA,?_⟩;rw[length_map,length_map,length_take];omega
 ·rintro i x ys H3 hx ⟨s3,rfl⟩;obtain⟨p,ep,rfl⟩:=uh hx;obtain⟨m,em,rm⟩:=hR.getL ep;refine⟨p,.int m.1,.int m.2,rfl,s3.ia rm,D4 m H3 _ (mem_of_getElem? em) s3 λH4 s4=>⟨s3.trans s4,?_⟩⟩;rw[take_succ,em,map_append,map_append];rfl
 ·rintro ys H3 ⟨s3,rfl⟩;rw[length_map,hl,take_length];exact hd H3 s3
theorem mi{K:Frag}{a:Addr}{us:List Int}{f:Int->Str}{c:St}{te:TE}{H:Hp}(hA:ag K H a (us.map V.int))(hz:us.length<=1000)
 (D4:∀(x:Int)(H':Hp)(Q:VK),x∈us->ae H H'->(∀(H2:Hp),ae H' H2->Q (.str (f x)) H2)->te (some (.int x)::c) H' Q)
 (hd:∀(H':Hp),ae H H'->fin ((us.map f).map V.str) H'):oF (kF K a) c iS te H fin:=by
 have cj:=zt;refine yq (xs:=us.map V.int) (λk ys H5=>ys=((us.take k).map f).map V.str/\ae H H5) ⟨rfl,ae.refl _⟩ ?_ (by rw[length_map];omega) ?_ ?_
 ·rintro k ys H5 hk ⟨rfl,s5⟩;refine⟨s5.seq hA,?_⟩;rw[length_map,length_map,length_take];omega
 ·rintro k x ys H5 hx ⟨rfl,s5⟩;obtain⟨hk,rfl⟩:=yD hx;refine D4 _ H5 _ (oU hk) s5 λH2 s2=>⟨?_,s5.trans s2⟩;rw[y6 hk,map_append,map_append];rfl
 ·rintro ys H5 ⟨rfl,s5⟩;rw[length_map,take_length];exact hd H5 s5
end L2
namespace M6
open PySem L2 M3 M5
theorem uy{cs:List (List Int)}{us:List Int}(h:us≠[]):rows (zw cs us) us≠[]:=λz=>by
 have h1:=AD (cs:=cs) h;rw[mh]at h1;obtain⟨c,hc,e⟩:=List.mem_map.mp h1;have:(vS cs us c,c)∈rows (zw cs us) us:=by
  rw[VW];refine List.mem_flatMap.mpr ⟨0,List.mem_range.mpr (length_pos_of_mem hc),?_⟩;unfold bC;exact List.mem_map.mpr ⟨c,List.mem_filter.mpr ⟨hc,decide_eq_true (by unfold vS;rw[e];rfl)⟩,rfl⟩
 rw[z]at this;cases this
end M6
namespace L2
open PySem
def bU(G:Addr->Prop)(H:Hp)(G':Addr->Prop)(H':Hp):Prop:=∀b o,H b=some o->(∀ps,o ≠ .bW ps)->¬G b->H' b=some o/\¬G' b
theorem bU.trans{G G1 G2:Addr->Prop}{H H1 H2:Hp}(a:bU G H G1 H1)(b:bU G1 H1 G2 H2):bU G H G2 H2:=λc o e n m=>b c o (a c o e n m).1 n (a c o e n m).2
theorem bU.same{G:Addr->Prop}{H H':Hp}(s:ae H H'):bU G H G H':=λb o e _ n=>⟨s b o e,n⟩
theorem bU.bJ{G:Addr->Prop}{H H':Hp}(s:aG H H'):bU G H G H':=λb o e t n=>⟨s.1 b o e t,n⟩
def KB:HO->Prop
 | .lst _=>True
 | .ins _ _ _=>True
 | .dK _=>True
 | _=>False
theorem KB.bW{o:HO}(h:KB o):∀ps,o ≠ .bW ps:=λps z=>by rw[z]at h;exact h
theorem ao.kinds{K:Frag}{H:Hp}{p:Addr}{F:Addr->Prop}{S:Sh}(h:ao K H p F S):ao K H p (λb=>F b/\∃o,H b=some o/\KB o) S:=by
 obtain⟨dx,a1,a2,a3,d,aw,h⟩:=h;refine⟨dx,a1,a2,a3,d,aw,⟨⟨h.ip,h.i1,h.i2,h.i3,h.i4,h.kl,h.cn,λj c hc=>?_,⟨h.fp,_,h.ip,trivial⟩,⟨h.f1,_,h.i1,trivial⟩,⟨h.f2,_,h.i2,trivial⟩,⟨h.f3,_,h.i3,trivial⟩,⟨h.f4,_,h.i4,trivial⟩,h.BE,h.vP,λb hb=>?_⟩,h.ok⟩⟩
 ·obtain⟨l,x1,x2,x3,x4⟩:=h.cs j c hc;exact⟨l,x1,x2,⟨x3,_,x2,trivial⟩,x4⟩
 ·obtain⟨_,o,e,_⟩:=hb;rw[e];simp
variable {K:Frag}{H H':Hp}{G G':Addr->Prop}{S:Sh}{st n u g k x:Addr}{F:Addr->Prop}{ls:List Addr}
theorem aZ.eh{P:Addr}{q:Str}(h:aZ P q H)(kd:∀b,G b->∃o,H b=some o/\KB o)(d:∀b o,H b=some o->¬G b->H' b=some o):aZ P q H':=by
 obtain⟨ps,e,t,c⟩:=h;have no:∀{b:Addr}{o:HO},H b=some o->¬KB o->¬G b:=λ{b o} e n z=>by
  obtain⟨o',e',t'⟩:=kd b z;rw[e]at e';cases e';exact n t'
 refine⟨ps,d _ _ e (no e λz=>z),t,λpos cv hc=>?_⟩;obtain⟨c',rfl,ec⟩:=c pos cv hc;exact⟨c',rfl,d _ _ ec (no ec λz=>z)⟩
structure m5 (K:Frag) (H:Hp) (G:Addr->Prop) (S:Sh) (n u g k x:Addr) (F:Addr->Prop) (ls:List Addr):Prop where
 sh:ao K H x F S
 hn:H n=some (.lst (S.af.map V.str))
 nn:¬G n
 hu:H u=some (.lst (S.aa.map V.int))
 hg:H g=some (.lst (S.struck.map V.int))
 hr:Rows F H k ls S.rows
 fu:¬F u
 fg:¬F g
 ug:u≠g
 lg:∀l∈ls,l≠g/\l≠u
 gF:∀b,F b->G b
 gu:G u
 gg:G g
 gk:G k
 gl:∀l∈ls,G l
 kd:∀b,G b->∃o,H b=some o/\KB o
variable {K:Frag}{H H':Hp}{G G':Addr->Prop}{S:Sh}{n u g k x:Addr}{F:Addr->Prop}{ls:List Addr}
theorem m5.same(h:m5 K H G S n u g k x F ls)(s:ae H H'):m5 K H' G S n u g k x F ls :=
 ⟨h.sh.same s,s _ _ h.hn,h.nn,s _ _ h.hu,s _ _ h.hg,h.hr.same s,h.fu,h.fg,h.ug,h.lg,h.gF,h.gu,h.gg,h.gk,h.gl,λb z=>let ⟨o,e,t⟩:=h.kd b z;⟨o,s _ _ e,t⟩⟩
theorem m5.bJ(h:m5 K H G S n u g k x F ls)(s:aG H H'):m5 K H' G S n u g k x F ls:=by
 have put:∀{a:Addr}{xs:List V},H a=some (.lst xs)->H' a=some (.lst xs):=λ{a xs} e=>s.1 _ _ e (λ_ z=>by cases z);refine⟨h.sh.off λb fb=>?_,put h.hn,h.nn,put h.hu,put h.hg,⟨put h.hr.1,h.hr.2.1,h.hr.2.2.imp λl c z=>⟨put z.1,z.2⟩⟩,h.fu,h.fg,h.ug,h.lg,h.gF,h.gu,h.gg,h.gk,h.gl,λb z=>?_⟩
 ·obtain⟨o,e,t⟩:=h.kd b (h.gF b fb);rw[e];exact s.1 b o e t.bW
 ·obtain⟨o,e,t⟩:=h.kd b z;exact⟨o,s.1 b o e t.bW,t⟩
def dh(gs l:List Int):List Int:=l.filter λo => !decide (o∈gs)
theorem Lv(l:List Int):dh [] l=l:=by
 unfold dh;exact List.filter_eq_self.mpr λx _=>by simp
theorem ji(c:Int)(gs l:List Int):wo c (dh gs l)=dh (gs++[c]) l:=by
 unfold wo dh;rw[filter_filter];refine filter_congr λx _=>?_;by_cases h1:x=c <;> by_cases h2:x∈gs <;> simp[h1,h2]
variable {gs l:List Int}
theorem kn{x:Int}:x∈dh gs l↔x∈l/\x∉gs:=by
 unfold dh;rw[List.mem_filter];simp
theorem Rv{ms:List Int}(h:∀x,x∈gs↔x∈ms)(l:List Int):dh gs l=dh ms l:=by
 unfold dh;refine filter_congr λx _=>?_;by_cases h1:x∈gs
 ·simp[h1,(h x).mp h1]
 ·rw[decide_eq_false h1,decide_eq_false λz=>h1 ((h x).mpr z)]
theorem mj(h:∀x∈l,x∉gs):dh gs l=l:=by
 unfold dh;exact List.filter_eq_self.mpr λx hx=>by simp[h x hx]
theorem uz{c:Int}(nd:l.Nodup)(hc:c∈l):(c::wo c l).Perm l:=by
 have e:wo c l=l.erase c:=by
  unfold wo;rw[nd.erase_eq_filter];refine filter_congr λx _=>?_;by_cases h:x=c
  ·subst h;simp
  ·simp[h]
 rw[e];exact(List.perm_cons_erase hc).symm
structure dN (f:List Int) (S:Sh):Prop where
 cp:S.aa=dh S.struck f
 pm:(S.aa++S.struck).Perm f
theorem dN.aT{f:List Int}{c:Int}(h:dN f S)(nd:S.aa.Nodup)(hc:c∈S.aa):dN f (S.aT c):=by
 refine⟨?_,?_⟩
 ·show wo c S.aa=dh (S.struck++[c]) f;rw[<-ji,<-h.cp]
 ·show(wo c S.aa++(S.struck++[c])).Perm f;refine List.Perm.trans ?_ h.pm;refine List.Perm.trans ?_ ((uz nd hc).append_right S.struck);rw[<-append_assoc];exact List.perm_append_comm
theorem dN.new{f:List Int}{ts:List Str}:dN f (Sh.new f ts):=⟨(Lv f).symm,by show(f++[]).Perm f;rw[append_nil]⟩
theorem dN.nd{f:List Int}(h:dN f S)(nd:f.Nodup):S.struck.Nodup/\(∀x∈S.aa,x∉S.struck)/\∀x∈S.struck,x∈f:=by
 have z:=h.pm.nodup_iff.mpr nd;rw[nodup_append]at z;exact⟨z.2.1,λx h1 h2=>z.2.2 x h1 x h2 rfl,λx hx=>h.pm.mem_iff.mp (mem_append_right _ hx)⟩
structure dX (gs d m:List Int):Prop where
 pm:m.Perm (d++gs)
 cut:∀D7,(∀x∈gs,x∈D7)->dh D7 m=dh D7 d
theorem dX.nil(d:List Int):dX [] d d:=⟨by rw[append_nil],λ_ _=>rfl⟩
theorem dX.step{d m:List Int}(h:dX gs d m)(c:Int)(p:Nat):dX (gs++[c]) d (m.take p++[c]++m.drop p):=by
 refine⟨?_,λD7 hs=>?_⟩
 ·have e:(m.take p++[c]++m.drop p).Perm (m++[c]):=by
   rw[append_assoc];refine(List.perm_append_comm (l₁:=[c]) (l₂:=m.drop p)).append_left (m.take p) |>.trans ?_;rw[<-append_assoc,take_append_drop]
  rw[<-append_assoc];exact e.trans (h.pm.append_right [c])
 ·rw[<-h.cut D7 λx hx=>hs x (mem_append_left _ hx)];have hc:=hs c (mem_append_right _ (List.mem_singleton.mpr rfl));unfold dh;rw[filter_append,filter_append,filter_cons,if_neg (by simp[hc]),filter_nil,append_nil,<-filter_append,take_append_drop]
end L2
namespace M15
open M14
def idx(key:Nat->Int)(n:Nat):List Nat:=(List.range n).flatMap fun(i:Nat)=>(List.range n).filter λk=>decide (key k=(i:Int)+1)
theorem jj(key:Nat->Int)(n:Nat):(idx key n).Pairwise (R key):=by
 unfold idx;rw[List.pairwise_flatMap];refine⟨λi _=>?_,?_⟩
 ·rw[List.pairwise_filter];refine List.Pairwise.imp ?_ (pairwise_lt_range (n:=n));intro a b l ha hb;have ha:=of_decide_eq_true ha;have hb:=of_decide_eq_true hb;exact .inr ⟨by omega,l⟩
 ·refine List.Pairwise.imp ?_ (pairwise_lt_range (n:=n));intro i j l x hx y hy;have hx:=of_decide_eq_true (List.mem_filter.mp hx).2;have hy:=of_decide_eq_true (List.mem_filter.mp hy).2;exact .inl (by omega)
theorem kq(key:Nat->Int)(n:Nat)(h:∀k,k<n->1<=key k/\key k<=n)(x:Nat):x∈idx key n↔x∈List.range n:=by
 unfold idx;rw[List.mem_flatMap];constructor
 ·rintro ⟨i,_,z⟩;exact(List.mem_filter.mp z).1
 ·intro z;have hx:=List.mem_range.mp z;have:=h x hx;exact⟨(key x-1).toNat,List.mem_range.mpr (by omega),List.mem_filter.mpr ⟨z,decide_eq_true (by omega)⟩⟩
variable {key:Nat->Int}
theorem R.asymm{a b:Nat}(h:R key a b)(k:R key b a):False:=by
 rcases h with h | h <;> rcases k with k | k <;> omega
theorem one{key:Nat->Int}:∀{l m:List Nat},l.Pairwise (R key)->m.Pairwise (R key)->(∀x,x∈l↔x∈m)->l=m
 | [],[],_,_,_=>rfl
 | [],b::m,_,_,h=>absurd ((h b).mpr (mem_cons_self ..)) (not_mem_nil)
 | a::l,[],_,_,h=>absurd ((h a).mp (mem_cons_self ..)) (not_mem_nil)
 | a::l,b::m,hl,hm,h=>by
   rw[List.pairwise_cons]at hl hm;have e:a=b:=by
    rcases List.mem_cons.mp ((h a).mp (mem_cons_self ..))with e | z
    ·exact e
    ·rcases List.mem_cons.mp ((h b).mpr (mem_cons_self ..))with e | y
     ·exact e.symm
     ·exact(R.asymm (hm.1 a z) (hl.1 b y)).elim
   subst e;refine congrArg _ (one hl.2 hm.2 λx=>?_);have nl:∀{l:List Nat},(∀y,y∈l->R key a y)->a∉l:=λq z=>R.asymm (q a z) (q a z);constructor
   ·intro z;rcases List.mem_cons.mp ((h x).mp (mem_cons_of_mem _ z))with e | y
    ·subst e;exact(nl hl.1 z).elim
    ·exact y
   ·intro z;rcases List.mem_cons.mp ((h x).mpr (mem_cons_of_mem _ z))with e | y
    ·subst e;exact(nl hm.1 z).elim
    ·exact y
variable {p:Array Nat}
theorem VY{n:Nat}(h:I key n p n):p.toList.Pairwise (R key):=by
 rw[List.pairwise_iff_getElem];intro i j hi hj l;have hz:=h.1.size;have e:∀(k:Nat)(hk:k<p.toList.length),p.toList[k]=g p k:=λk hk=>by
  have qx:k<p.size:=by simpa using hk
  show _=p.getD k 0;simp[Array.getD,qx]
 rw[e i hi,e j hj];refine h.2 i j l ?_;rw[<-hz]
 simpa using hj
theorem qH{n:Nat}(h:I key n p n)(hk:∀k,k<n->1<=key k/\key k<=n):p.toList=idx key n:=by
 refine one (VY h) (jj key n) λx=>?_;rw[kq key n hk];have:=h.1.pm.toList.mem_iff (a:=x)
 simpa using this
theorem zip_get(ps us:List Int)(h:ps.length=us.length):(List.range us.length).map (λk=>(ps.getD k 0,us.getD k 0))=ps.zip us:=by
 refine ext_getElem (by simp[h]) λi h1 h2=>?_;have hi:i<us.length:=by simpa using h1
 have hp:i<ps.length:=by omega
 simp[hi,hp]
theorem uA{ps us:List Int}(hl:ps.length=us.length)(hk:∀k,k<us.length->1<=ps.getD k 0/\ps.getD k 0<=us.length)(h:I (λk=>ps.getD k 0) us.length p us.length):
 p.toList.map (λk=>(ps.getD k 0,us.getD k 0))=M5.rows ps us:=by
 rw[qH h hk];unfold idx M5.rows;rw[List.map_flatMap];congr 1;funext i;rw[<-zip_get ps us hl,filter_map];rfl
end M15
namespace L2
open PySem PySem.W
theorem Refs.lG{K:Frag}{H:Hp}{a:Addr}{cs:List (List Int)}(h:Refs K (IL K) H a cs):Refs K (IL K) (L2.lG H) a cs:=by
 obtain⟨ls,h1,h2⟩:=h;exact⟨ls,h1.lG,h2.imp λ_ _ r=>ag.lG r⟩
theorem Rw{K:Frag}{H:Hp}{ts:List Addr}{ps us:List Int}(hl:ps.length=us.length)(pr:gK H ts ((ps.map V.int).zip (us.map V.int))):∀(l:List Nat),(∀i∈l,i<us.length)->All2 (dg K H) (l.map λi=>ts.getD i 0) (l.map λi=>(ps.getD i 0,us.getD i 0))
 | [],_=>.nil
 | i::l,h=>by
   have hi:=h i (mem_cons_self ..);have lt:ts.length=us.length:=by rw[pr.length,length_zip,length_map,length_map];omega
   refine .cons ?_ (Rw hl pr l λj hj=>h j (mem_cons_of_mem _ hj));have ht:ts[i]? = some (ts.getD i 0):=by rw[getD_eq_getElem?_getD,getElem?_eq_getElem (by omega)];rfl
   obtain⟨⟨pa,pb⟩,ep,e⟩:=pr.get i _ ht;rw[List.getElem?_zip_eq_some]at ep;obtain⟨e1,e2⟩:=ep;rw[getElem?_map,getElem?_eq_getElem (by omega)]at e1 e2;cases e1;cases e2;have h1:ps.getD i 0=ps[i]:=by rw[getD_eq_getElem?_getD,getElem?_eq_getElem (by omega)];rfl
   have h2:us.getD i 0=us[i]:=by rw[getD_eq_getElem?_getD,getElem?_eq_getElem (by omega)];rfl
   show bN K H (ts.getD i 0) [.int (ps.getD i 0),.int (us.getD i 0)];rw[h1,h2];exact .inl (.inl e)
end L2
namespace M6
open M5
theorem VZ(xs:List Sg):zE xs xs=false:=by
 induction xs with
 | nil=>rfl
 | cons x xs ih=>rw[zE,if_pos rfl];exact ih
theorem Rx(a:List Int)(n:Nat):zZ a a n=false:=VZ _
theorem Ry{α:Type}{p:α->Bool}:∀{l:List α}{x:α},x∈l->p x=false->(l.filter p).length<l.length
 | y::l,x,h,hp=>by
   rcases List.mem_cons.mp h with e | h
   ·subst e;rw[filter_cons_of_neg (by rw[hp];exact Bool.false_ne_true),length_cons];exact Nat.lt_succ_of_le (length_filter_le _ _)
   ·have:=Ry h hp;rw[filter_cons];split
    ·rw[length_cons,length_cons];omega
    ·rw[length_cons];omega
theorem V0(cs:List (List Int))(us:List Int):∀k,k<us.length->1<=(zw cs us).getD k 0/\(zw cs us).getD k 0<=us.length:=λk hk=>by
 have e:(zw cs us).getD k 0=1+((us.filter λd=>zZ (zm cs d) (zm cs us[k]) us.length).length:Int):=by
  unfold zw;rw[getD_eq_getElem?_getD,getElem?_map,getElem?_eq_getElem hk];rfl
 have:=Ry (p:=λd=>zZ (zm cs d) (zm cs us[k]) us.length) (getElem_mem hk) (Rx _ _);rw[e];omega
end M6
namespace M6
open PySem L2 M3 M5
theorem ml{x y z:Sg}(h:gL x y=true)(k:gL y z=true):gL x z=true:=by
 cases x with
 | none=>cases h
 | some p =>
   cases y with
   | none=>cases k
   | some q =>
     cases z with
     | none=>rfl
     | some r =>
       simp only[gL,Bool.or_eq_true,Bool.and_eq_true,decide_eq_true_eq]at h k ⊢;omega
theorem AG{x y:Sg}(h:gL x y=true):x≠y:=λe=>by
 subst e;cases x with
 | none=>cases h
 | some p=>simp only[gL,Bool.or_eq_true,Bool.and_eq_true,decide_eq_true_eq]at h;omega
theorem mm{x y:Sg}(h:x≠y):gL x y=true\/gL y x=true:=by
 cases x with
 | none=>cases y with
   | none=>exact absurd rfl h
   | some q=>exact .inr rfl
 | some p=>cases y with
   | none=>exact .inl rfl
   | some q =>
     obtain⟨p1,p2⟩:=p;obtain⟨q1,q2⟩:=q;have:¬(p1=q1/\p2=q2):=λz=>h (by rw[z.1,z.2]);simp only[gL,Bool.or_eq_true,Bool.and_eq_true,decide_eq_true_eq];omega
theorem Rz:∀{xs ys zs:List Sg},zE xs ys=true->zE ys zs=true->zE xs zs=true
 | [],_,_,h,_=>by cases h
 | _::_,[],_,h,_=>by cases h
 | _::_,_::_,[],_,k=>by cases k
 | x::xs,y::ys,z::zs,h,k=>by
   rw[zE]at h k ⊢;by_cases c:x=y
   ·rw[if_pos c]at h;subst c;by_cases d:x=z
    ·rw[if_pos d]at k ⊢;exact Rz h k
    ·rw[if_neg d]at k ⊢;exact k
   ·rw[if_neg c]at h;by_cases d:y=z
    ·subst d;rw[if_neg c];exact h
    ·rw[if_neg d]at k;have:=ml h k;rw[if_neg (AG this)];exact this
theorem RA:∀{xs ys:List Sg},xs.length=ys.length->xs≠ys->zE xs ys=true\/zE ys xs=true
 | [],[],_,h=>absurd rfl h
 | [],_::_,l,_=>by cases l
 | _::_,[],l,_=>by cases l
 | x::xs,y::ys,l,h=>by
   rw[zE,zE];by_cases c:x=y
   ·rw[if_pos c,if_pos c.symm];exact RA (by simpa using l) λz=>h (by rw[c,z])
   ·rw[if_neg c,if_neg λz=>c z.symm];exact mm c
theorem RB{α:Type}{p q:α->Bool}:∀{l:List α},(∀x∈l,p x=true->q x=true)->(l.filter p).length<=(l.filter q).length
 | [],_=>le_refl _
 | x::l,h=>by
   have ih:=RB (p:=p) (q:=q) λy hy=>h y (mem_cons_of_mem _ hy);rw[filter_cons,filter_cons];cases hp:p x with
   | false =>
     cases hq:q x with
     | false=>exact ih
     | true=>exact Nat.le_succ_of_le ih
   | true =>
     rw[h x (mem_cons_self ..) hp];exact Nat.succ_le_succ ih
theorem RC{α:Type}{p q:α->Bool}:∀{l:List α}{x:α},x∈l->p x=false->q x=true->(∀x∈l,p x=true->q x=true)->(l.filter p).length<(l.filter q).length
 | y::l,x,hx,hp,hq,h=>by
   have le:=RB (p:=p) (q:=q) λy hy=>h y (mem_cons_of_mem _ hy);rw[filter_cons,filter_cons];rcases List.mem_cons.mp hx with e | hx
   ·subst e;rw[hp,hq];exact Nat.lt_succ_of_le le
   ·have ih:=RC hx hp hq λy hy=>h y (mem_cons_of_mem _ hy);cases rM:p y with
    | false =>
      cases Bw:q y with
      | false=>exact ih
      | true=>exact lt_succ_of_lt ih
    | true =>
      rw[h y (mem_cons_self ..) rM];exact Nat.succ_lt_succ ih
variable {cs:List (List Int)}{us:List Int}{c d:Int}
theorem RD(hc:c∈us)(h:zZ (zm cs c) (zm cs d) us.length=true):yS cs us c<yS cs us d:=by
 unfold yS;have:=RC (p:=λe=>zZ (zm cs e) (zm cs c) us.length) (q:=λe=>zZ (zm cs e) (zm cs d) us.length) hc (Rx _ _) h λx _ hx=>Rz hx h;omega
theorem qI(hc:c∈us)(hd:d∈us)(h:yS cs us c=yS cs us d):ww (zm cs c) us.length=ww (zm cs d) us.length:=by
 by_cases e:ww (zm cs c) us.length=ww (zm cs d) us.length
 ·exact e
 ·rcases RA (by rw[BF,BF]) e with z | z
  ·have:=RD (d:=d) hc z;omega
  ·have:=RD (d:=c) hd z;omega
theorem RE{a:List Int}{n:Nat}(ha:∀x∈a,x<=n){k:Nat}(h:n<=k):sg a k=sg a n:=by
 have e:got a k=got a n:=by
  unfold got;exact filter_congr λx hx=>by have:=ha x hx;rw[decide_eq_true (by omega),decide_eq_true this]
 unfold sg cnt sm;rw[e]
variable {r:Option (Nat×Str)}
theorem V1{a b:List Int}{n m:Nat}(ha:∀x∈a,x<=n)(hb:∀x∈b,x<=n)(h1:1<=n)(hm:n<=m)(h:wb a b m r):wb a b n r:=by
 cases r with
 | none=>exact λk k1 k2=>h k k1 (by omega)
 | some r =>
   refine⟨h.1,?_,h.2.2.1,h.2.2.2⟩;by_cases c:r.1<=n
   ·exact c
   ·refine absurd ?_ h.2.2.2.1;rw[RE ha (by omega),RE hb (by omega)];exact h.2.2.1 n h1 (by omega)
theorem uB(hp:∀d∈cs,d.Perm us)(h1:1<=us.length)(DZ:us.length<=24)(hc:c∈us)(hd:d∈us)(h:wb (zm cs c) (zm cs d) 24 r):
 nb cs us (yS cs us c,c) (yS cs us d,d)=r.map λr=>(c,d,(r.1:Int),r.2):=by
 have h':=V1 (λx hx=>(yG hp hc x hx).2) (λx hx=>(yG hp hd x hx).2) h1 DZ h;have e:=Gi h' (Gn (zm cs c) (zm cs d) us.length);unfold nb;dsimp only;by_cases z:yS cs us c=yS cs us d
 ·rw[if_pos z];have es:=qI hc hd z;have:wb (zm cs c) (zm cs d) us.length none:=λk k1 k2=>by
   have:=congrArg (λl=>l[k-1]?) es;unfold ww at this;simp only[getElem?_map]at this;rw[getElem?_range (by omega)]at this;have ek:((k-1:Nat):Int)+1=(k:Int):=by omega
   simpa [ek] using this
  rw[Gi h' this];rfl
 ·rw[if_neg z,e]
end M6
set_option maxHeartbeats 4000000
namespace Pp
open PySem L2
def top(i:Nat):Stmt:=PySem.Challenge.pw_panelplace_k36_whole_cards_as_they_stand.main.body.getD i (.Pass ⟨0,0,0,0⟩)
structure Txt (K:Frag) (mg:Str->Option Value):Prop where
 qK:mg "all"=none
 AH:mg "bool"=none
 D8:mg "int"=none
 ay:mg "isinstance"=none
 aq:mg "len"=none
 aV:mg "list"=none
 D9:mg "max"=none
 Ea:mg "min"=none
 aK:mg "range"=none
 vU:mg "set"=none
 dw:mg "sorted"=none
 dY:mg "str"=none
 ij:mg "sum"=none
 gq:mg "tuple"=none
 qL:mg "zip"=none
 fc:∃t,mg "MOST_COUPLES"=some (.int 24 t)
 fP:∃t,mg "MOST_JUDGES"=some (.int 15 t)
 fQ:∃t,mg "MOST_NUMBER"=some (.int 999 t)
 gv:∃t,mg "MOST_SIGNS"=some (.int 8 t)
 gw:∃t,mg "MOST_CARDS"=some (.int 200 t)
 cz:∃C,bg K "PanelError" C/\mg "PanelError"=some (.ref C)/\gJ K C
 cA:∃C,bg K "BadCouples" C/\mg "BadCouples"=some (.ref C)/\gJ K C
 cR:∃C,bg K "BadJudges" C/\mg "BadJudges"=some (.ref C)/\gJ K C
 bZ:∃C,bg K "SheetSealed" C/\mg "SheetSealed"=some (.ref C)/\gJ K C
 bS:∃C,bg K "UnknownJudge" C/\mg "UnknownJudge"=some (.ref C)/\gJ K C
 bO:∃C,bg K "BadCard" C/\mg "BadCard"=some (.ref C)/\gJ K C
 mn:∀C,bg K "BadCard" C->Du K C=true
 cS:∀C D,bg K "BadCard" C->bg K "PanelError" D->tG K C D=true
 dz:∀C D,bg K "BadCard" C->bg K "BadCard" D->kitOne K (.ref C) (.ref D)=some true
 bT:∃C,bg K "TooManyCards" C/\mg "TooManyCards"=some (.ref C)/\gJ K C
 bL:∃C,bg K "UnknownCouple" C/\mg "UnknownCouple"=some (.ref C)/\gJ K C
 cC:∃C,bg K "LastCouple" C/\mg "LastCouple"=some (.ref C)/\gJ K C
 fe:∃C,bg K "NoCard" C/\mg "NoCard"=some (.ref C)/\gJ K C
 gx:∃C,bg K "AtTop" C/\mg "AtTop"=some (.ref C)/\gJ K C
 aj:mQ K (zL K "Sheet")
 aI:bK K (zL K "Sheet") "standing"
 bA:bK K (zL K "Sheet") "struck_so_far"
 b7:bK K (zL K "Sheet") "panel"
 ax:bK K (zL K "Sheet") "card_by_judge"
 aR:bK K (zL K "Sheet") "taken_so_far"
 cT:bK K (zL K "Sheet") "sealed"
abbrev yX:Stmt:=sZ (top 62) 12
theorem V2:ah ["self"] ["self"] (zf yX):=aW
abbrev yC:Stmt:=sZ (top 62) 13
abbrev zJ:List Str:=["self","judge"]
theorem V3:ah ["self","judge"] zJ (zf yC):=aW
abbrev Lw:Stmt:=sZ (top 62) 4
abbrev zA:List Str:=["self"]
theorem V4:ah ["self"] zA (zf Lw):=aW
abbrev Gs:Stmt:=sZ (top 62) 7
abbrev yd:List Str:=["self"]
theorem V5:ah ["self"] yd (zf Gs):=aW
abbrev Lx:Stmt:=top 15
abbrev Gu:List Str:=["card","couples"]
theorem V6:ah ["card","couples"] Gu (zf Lx):=aW
abbrev Ly:Stmt:=top 16
abbrev Gv:List Str:=["card","couple"]
theorem V7:ah ["card","couple"] Gv (zf Ly):=aW
abbrev wI:Stmt:=top 17
abbrev wv:List Str:=["card","couple"]
theorem V8:ah ["card","couple"] wv (zf wI):=aW
abbrev Lz:Stmt:=top 18
abbrev Gw:List Str:=["card","couple"]
theorem LA:ah ["card","couple","place","passed"] Gw (zf Lz):=aW
abbrev LB:Stmt:=top 20
theorem V9:ah ["many"] ["many"] (zf LB):=aW
abbrev Gx:Stmt:=top 24
abbrev Eb:List Str:=["marks","number"]
theorem Wa:ah ["marks","number"] Eb (zf Gx):=aW
abbrev LC:Stmt:=top 55
theorem Wb:ah ["couple"] ["couple"] (zf LC):=aW
abbrev LD:Stmt:=top 57
theorem Wc:ah ["sign"] ["sign"] (zf LD):=aW
abbrev LF:Stmt:=top 58
abbrev y7:List Str:=["things","most"]
theorem Wd:ah ["things","most"] y7 (zf LF):=aW
abbrev LG:Stmt:=top 59
theorem We:ah ["things"] ["things"] (zf LG):=aW
abbrev LH:Stmt:=top 68
abbrev wk:List Str:=["_law_found"]
theorem Wf:ah ["_law_found"] wk (zf LH):=aW
abbrev LJ:Stmt:=top 69
abbrev Gy:List Str:=["_law_script","_law_k"]
theorem mq:ah ["_law_script","_law_k"] Gy (zf LJ):=aW
abbrev LL:Stmt:=top 71
abbrev Gz:List Str:=["_law_found","_law_due"]
theorem RF:ah ["_law_found","_law_due","_law_k"] Gz (zf LL):=aW
abbrev LM:Stmt:=top 75
abbrev Ec:List Str:=["_law_cell","_law_place"]
theorem RG:ah ["_law_cell","_law_place","_law_once"] Ec (zf LM):=aW
abbrev LN:Stmt:=top 76
abbrev GA:List Str:=["_law_mode","_law_cell","_law_least","_law_few","_law_most"]
theorem Wg:ah ["_law_mode","_law_cell","_law_least","_law_few","_law_most"] GA (zf LN):=aW
abbrev GB:Stmt:=top 77
abbrev RH:List Str:=["_law_cell","_law_many_here","_law_gap"]
abbrev GC:List Str:=["_law_cell","_law_many_here"]
theorem RI:ah RH GC (zf GB):=aW
abbrev GD:Stmt:=top 78
abbrev RJ:List Str:=["_law_cell","_law_many_here","_law_letters","_law_size","_law_spot","_law_ends"]
abbrev GF:List Str:=["_law_cell","_law_many_here"]
theorem wZ:ah RJ GF (zf GD):=aW
abbrev GG:Stmt:=top 81
abbrev wH:List Str:=["_law_cards","_law_couple"]
theorem Wh:ah ["_law_cards","_law_couple"] wH (zf GG):=aW
abbrev GH:Stmt:=top 82
abbrev RK:List Str:=["_law_marks_here","_law_last","_law_key_here","_law_number","_law_got"]
abbrev GI:List Str:=["_law_marks_here","_law_last"]
theorem GJ:ah RK GI (zf GH):=aW
abbrev LO:Stmt:=top 84
abbrev Ed:List Str:=["_law_spots_here","_law_couples_here"]
theorem GK:ah ["_law_spots_here","_law_couples_here","_law_rows_here","_law_place","_law_k"] Ed (zf LO):=aW
abbrev Ee:Stmt:=top 85
abbrev LP:List Str:=["_law_one","_law_other","_law_last","_law_number","_law_got","_law_had"]
abbrev GL:List Str:=["_law_one","_law_other","_law_last"]
theorem GN:ah LP GL (zf Ee):=aW
abbrev LR:Stmt:=top 87
abbrev GO:List Str:=["_law_card_here","_law_couples_here"]
theorem RL:ah ["_law_card_here","_law_couples_here","_law_couple"] GO (zf LR):=aW
abbrev LS:Stmt:=top 88
abbrev GP:List Str:=["_law_card_here","_law_cell"]
theorem GQ:ah ["_law_card_here","_law_cell","_law_spot","_law_twin","_law_stray"] GP (zf LS):=aW
abbrev GR:Stmt:=top 89
abbrev RM:List Str:=["_law_card_here","_law_couple"]
abbrev GS:List Str:=["_law_card_here","_law_couple"]
theorem Wi:ah RM GS (zf GR):=aW
abbrev GU:Stmt:=top 90
abbrev GV:List Str:=["_law_things"]
theorem Wj:ah ["_law_things"] GV (zf GU):=aW
abbrev GW:Stmt:=top 91
abbrev RN:List Str:=["_law_marks_here","_law_last","_law_steps","_law_number","_law_got"]
abbrev GX:List Str:=["_law_marks_here","_law_last"]
theorem GY:ah RN GX (zf GW):=aW
abbrev GZ:Stmt:=top 95
abbrev RO:List Str:=["_law_cards","_law_who","_law_k","_law_card_here","_law_up"]
abbrev G3:List Str:=["_law_cards","_law_who","_law_k"]
theorem LU:ah RO G3 (zf GZ):=aW
abbrev LV:Stmt:=top 99
abbrev G4:List Str:=["_law_card_here","_law_gone","_law_cell"]
theorem yZ:ah ["_law_card_here","_law_gone","_law_cell","_law_made","_law_left","_law_number","_law_spot"] G4 (zf LV):=aW
abbrev LW:Stmt:=sZ (top 62) 1
abbrev yn:List Str:=["self","judge","card"]
theorem Wk:ah ["self","judge","card"] yn (zf LW):=aW
abbrev LX:Stmt:=sZ (top 62) 2
abbrev wq:List Str:=["self","couple"]
theorem RP:ah ["self","couple","judge"] wq (zf LX):=aW
abbrev LY:Stmt:=sZ (top 62) 9
abbrev yo:List Str:=["self","judge"]
theorem Wl:ah ["self","judge"] yo (zf LY):=aW
abbrev G5:Stmt:=top 21
abbrev BG:List Str:=["cards","couple"]
theorem Wm:ah ["cards","couple"] BG (zf G5):=aW
abbrev LZ:Stmt:=top 22
abbrev AI:List Str:=["marks","number"]
theorem jk:ah ["marks","number"] AI (zf LZ):=aW
abbrev L4:Stmt:=top 23
abbrev wd:List Str:=["marks","number"]
theorem Wn:ah ["marks","number"] wd (zf L4):=aW
abbrev L5:Stmt:=top 25
theorem Wo:ah ["marks"] ["marks"] (zf L5):=aW
abbrev wA:Stmt:=top 45
abbrev zB:List Str:=["sheet","least"]
theorem Wq:ah ["sheet","least"] zB (zf wA):=aW
abbrev G6:Stmt:=top 53
theorem Wr:ah ["couples"] ["couples"] (zf G6):=aW
abbrev G7:Stmt:=top 56
theorem Ws:ah ["judge"] ["judge"] (zf G7):=aW
abbrev L8:Stmt:=top 70
abbrev wB:List Str:=["_law_found","_law_due"]
theorem RQ:ah ["_law_found","_law_due","_law_k"] wB (zf L8):=aW
abbrev Ma:Stmt:=top 73
abbrev G8:List Str:=["_law_found","_law_due"]
theorem RR:ah ["_law_found","_law_due","_law_k"] G8 (zf Ma):=aW
abbrev Mb:Stmt:=top 74
abbrev G9:List Str:=["_law_found","_law_due"]
theorem Mc:ah ["_law_found","_law_due","_law_k","_law_j"] G9 (zf Mb):=aW
abbrev Me:Stmt:=top 79
abbrev Ha:List Str:=["_law_cell","_law_couples_here","_law_style"]
theorem yl:ah ["_law_cell","_law_couples_here","_law_style","_law_pool","_law_turn","_law_left","_law_made","_law_k","_law_spot"] Ha (zf Me):=aW
abbrev Ef:Stmt:=top 83
abbrev Mf:List Str:=["_law_cards","_law_couples_here","_law_ranks"]
abbrev wG:List Str:=["_law_cards","_law_couples_here"]
theorem RS:ah Mf wG (zf Ef):=aW
abbrev Mg:Stmt:=top 86
abbrev Hb:List Str:=["_law_cards","_law_couples_here","_law_spots_here"]
theorem wj:ah ["_law_cards","_law_couples_here","_law_spots_here","_law_rows_here","_law_made","_law_k","_law_one","_law_other","_law_what"] Hb (zf Mg):=aW
abbrev Mh:Stmt:=top 92
abbrev Hc:List Str:=["_law_place","_law_couple","_law_cards","_law_last"]
theorem RT:ah ["_law_place","_law_couple","_law_cards","_law_last","_law_marks_here"] Hc (zf Mh):=aW
abbrev Hd:Stmt:=sZ (top 62) 8
abbrev yh:List Str:=["self"]
theorem Wt:ah ["self"] yh (zf Hd):=aW
abbrev He:Stmt:=top 100
abbrev RU:List Str:=["_law_sheet","_law_names","_law_gone","_law_cards","_law_turn","_law_cell","_law_order","_law_late","_law_left","_law_k","_law_number"]
abbrev Hf:List Str:=["_law_sheet","_law_names","_law_gone","_law_cards","_law_turn","_law_cell"]
theorem yu:ah RU Hf (zf He):=aW
abbrev Hg:Stmt:=top 26
abbrev Hh:List Str:=["marks","last"]
theorem Wu:ah ["marks","last"] Hh (zf Hg):=aW
abbrev Mi:Stmt:=top 29
abbrev Eg:List Str:=["one","other"]
theorem RV:ah ["one","other","number"] Eg (zf Mi):=aW
abbrev Hi:Stmt:=top 47
abbrev wa:List Str:=["sheet","judge"]
theorem Wv:ah ["sheet","judge"] wa (zf Hi):=aW
abbrev Hj:Stmt:=top 54
theorem Ww:ah ["judges"] ["judges"] (zf Hj):=aW
abbrev Mj:Stmt:=top 72
abbrev Hk:List Str:=["_law_found","_law_due"]
theorem RW:ah ["_law_found","_law_due","_law_k"] Hk (zf Mj):=aW
abbrev Ml:Stmt:=top 80
abbrev Hl:List Str:=["_law_cell","_law_used","_law_couples_here","_law_style"]
theorem Wx:ah ["_law_cell","_law_used","_law_couples_here","_law_style"] Hl (zf Ml):=aW
abbrev Hm:Stmt:=top 93
abbrev RX:List Str:=["_law_cards","_law_couples_here","_law_spots_here"]
abbrev wS:List Str:=["_law_cards","_law_couples_here"]
theorem RY:ah RX wS (zf Hm):=aW
abbrev Mm:Stmt:=top 97
abbrev Hn:List Str:=["_law_sheet","_law_judge","_law_card_here"]
theorem RZ:ah ["_law_sheet","_law_judge","_law_card_here","e"] Hn (zf Mm):=aW
abbrev Mn:Stmt:=sZ (top 62) 0
abbrev Ho:List Str:=["self","couples","judges"]
theorem Wy:ah ["self","couples","judges"] Ho (zf Mn):=aW
abbrev Mo:Stmt:=top 28
abbrev Hq:List Str:=["one","other"]
theorem R0:ah ["one","other","number"] Hq (zf Mo):=aW
abbrev Mp:Stmt:=top 35
abbrev Hr:List Str:=["one","other"]
theorem R1:ah ["one","other","number"] Hr (zf Mp):=aW
abbrev Eh:Stmt:=top 66
abbrev Mq:List Str:=["sheet","place","couple","marks","ladder","head","steps"]
abbrev Ei:List Str:=["sheet","place","couple"]
theorem Ej:ah Mq Ei (zf Eh):=aW
abbrev wF:Stmt:=top 94
abbrev Mr:List Str:=["_law_names","_law_cards","_law_couples_here","_law_now","_law_made","_law_k","_law_rest"]
abbrev Hs:List Str:=["_law_names","_law_cards","_law_couples_here"]
theorem wm:ah Mr Hs (zf wF):=aW
abbrev Ht:Stmt:=top 31
abbrev Hu:List Str:=["rows","own"]
theorem Wz:ah ["rows","own"] Hu (zf Ht):=aW
abbrev Ek:Stmt:=top 30
abbrev Ms:List Str:=["cards","couples","rows"]
abbrev yW:List Str:=["cards","couples"]
theorem R3:ah Ms yW (zf Ek):=aW
abbrev Mt:Stmt:=top 38
abbrev AJ:List Str:=["sheet"]
theorem mr:ah ["sheet"] AJ (zf Mt):=aW
abbrev Mu:Stmt:=top 42
abbrev Hv:List Str:=["sheet","judge"]
theorem WA:ah ["sheet","judge"] Hv (zf Mu):=aW
abbrev Hw:Stmt:=top 44
abbrev R5:List Str:=["sheet","judge","couple","card","stepped","passed","cards"]
abbrev Hx:List Str:=["sheet","judge","couple"]
theorem El:ah R5 Hx (zf Hw):=aW
abbrev Hy:Stmt:=top 46
abbrev Em:List Str:=["cards","couples"]
theorem WB:ah ["cards","couples"] Em (zf Hy):=aW
abbrev Mv:Stmt:=top 40
theorem mv:ah ["sheet"] ["sheet"] (zf Mv):=aW
abbrev Mw:Stmt:=top 64
abbrev Hz:List Str:=["sheet","couple"]
theorem R6:ah ["sheet","couple","all_places"] Hz (zf Mw):=aW
abbrev HA:Stmt:=top 43
theorem R7:ah ["sheet","now"] ["sheet"] (zf HA):=aW
abbrev BH:Stmt:=top 33
theorem WC:ah ["places","couples"] ["places","couples"] (zf BH):=aW
abbrev Mx:Stmt:=top 32
abbrev wW:List Str:=["cards","couples"]
theorem WD:ah ["cards","couples"] wW (zf Mx):=aW
abbrev HB:Stmt:=top 36
abbrev R8:List Str:=["cards","couples","ranked","rows","one","other","parting"]
abbrev HF:List Str:=["cards","couples"]
theorem y8:ah R8 HF (zf HB):=aW
abbrev My:Stmt:=top 39
theorem jl:ah ["sheet"] ["sheet"] (zf My):=aW
abbrev Mz:Stmt:=top 41
theorem WE:ah ["sheet"] ["sheet"] (zf Mz):=aW
abbrev HG:Stmt:=top 65
theorem qM:ah ["sheet"] ["sheet"] (zf HG):=aW
abbrev BI:Stmt:=top 96
abbrev HH:List Str:=["_law_sheet","_law_names","_law_couples_here","_law_cards","_law_who","_law_spot","_law_into","_law_spots_here","_law_rows_here","_law_lines","_law_pick","_law_rest","_law_k","_law_found"]
abbrev En:List Str:=["_law_sheet","_law_names","_law_couples_here","_law_cards","_law_who","_law_spot"]
theorem yP:ah HH En (zf BI):=aW
abbrev Eo:Stmt:=top 98
abbrev MA:List Str:=["_law_sheet","_law_names","_law_couples_here","_law_gone","_law_cards","_law_cells","_law_style","_law_cell","_law_kind","_law_who","_law_card_here","_law_number","_law_k","_law_into"]
abbrev HI:List Str:=["_law_sheet","_law_names","_law_couples_here","_law_gone","_law_cards","_law_cells","_law_style"]
theorem yt:ah MA HI (zf Eo):=aW
abbrev m8:Stmt:=top 101
abbrev HJ:List Str:=["_law_script","_law_mode","_law_first","_law_names","_law_style","_law_sheet","_law_couples_here","_law_gone","_law_cards","_law_other","_law_into","_law_who","_law_each"]
theorem mw:ah HJ ["_law_script"] (zf m8):=aW
inductive ym (K:Frag) (vs:List V) (H:Hp) (Q:VK) (E:XK):Prop
 | mk (p:Addr) (F:Addr->Prop) (S:Sh):vs=[.ref p]->ao K H p F S->((S.cu=true->∀C,bg K "SheetSealed" C->E (.ref C) none H))->((S.cu=false->Q .bo H))->ym K vs H Q E
section
variable {P:Program}{w:World}{K:Frag}{mg:Str->Option Value}{base:Heap}
variable {f:Addr}{fd:FuncData}
theorem WG(F:aN K "refuse_if_sealed" "Sheet.refuse_if_sealed" yX f fd)(T:Txt K mg):av P w K mg base (fC P w) 1 f fd ["self"] (ym K):=by
 obtain⟨rY,fR,fS,bZ⟩:=T.bZ;refine F.Aa V2 (λvs H Q E h=>?_) (λX W aE A outer s H vs Q E hX hW fl md hr h=>?_)
 ·obtain⟨p,F,S,rfl,_⟩:=h;rfl
 ·obtain⟨p,F,S,rfl,⟨dx,a1,a2,a3,d,aw,h⟩,qE,q⟩:=h;subst hX;refine⟨_,(ze (zv (zQ (wD (pv 0) rfl)) (ze (wU rfl md rfl fS bZ (za ye zb))) zp)),?_⟩;refine⟨_,rfl,p,_,dx,_,_,rfl,h.ip,T.aj,T.cT,rfl,_,rfl,vp (λhs=>?_) (λhs=>q hs)⟩;exact⟨(by show 1<=sizeLine;decide),by rw[hW];exact qE hs _ fR⟩
inductive zY (K:Frag) (vs:List V) (H:Hp) (Q:VK) (E:XK):Prop
 | mk (p:Addr) (F:Addr->Prop) (S:Sh) (j:Str):vs=[.ref p,.str j]->ao K H p F S->((j∉S.af->∀C,bg K "UnknownJudge" C->E (.ref C) none H))->((j∈S.af->Q .bo H))->zY K vs H Q E
theorem WH(F:aN K "refuse_unknown_judge" "Sheet.refuse_unknown_judge" yC f fd)(T:Txt K mg):av P w K mg base (fC P w) 1 f fd zJ (zY K):=by
 obtain⟨qO,fi,fj,bS⟩:=T.bS;refine F.Aa V3 (λvs H Q E h=>?_) (λX W aE A outer s H vs Q E hX hW fl md hr h=>?_)
 ·obtain⟨p,F,S,j,rfl,_⟩:=h;rfl
 ·obtain⟨p,F,S,j,rfl,⟨dx,a1,a2,a3,d,aw,h⟩,qE,q⟩:=h;subst hX;refine⟨_,(ze (zv (zl FK (pv 1) (wD (pv 0) rfl) (by first | exact zn _ | rfl)) (ze (wU rfl md rfl fj bS (za ye zb))) zp)),?_⟩;refine⟨_,rfl,_,rfl,p,_,dx,_,_,rfl,h.ip,T.aj,T.b7,rfl,_,_,rfl,.inl (ag.of h.i3),rfl,lA _,_,rfl,?_⟩;rw[pw];refine yi (λhj=>?_) (λhj=>q hj);exact⟨(by show 1<=sizeLine;decide),by rw[hW];exact qE hj _ fi⟩
inductive zF (K:Frag) (vs:List V) (H:Hp) (Q:VK) (E:XK):Prop
 | mk (p:Addr) (F:Addr->Prop) (S:Sh):vs=[.ref p]->ao K H p F S->(∀(l:Addr)(H':Hp),ae H H'->H l=none->H' l=some (.lst (S.aa.map V.int))->Q (.ref l) H')->zF K vs H Q E
theorem WI(F:aN K "couples" "Sheet.couples" Lw f fd)(T:Txt K mg):av P w K mg base aQ 1 f fd zA (zF K):=by
 refine F.ok V4 (λvs H Q E h=>?_) (λaE A outer s H vs Q E hr h=>?_)
 ·obtain⟨p,F,S,rfl,_⟩:=h;rfl
 ·obtain⟨p,F,S,rfl,⟨dx,a1,a2,a3,d,aw,h⟩,q⟩:=h;refine⟨_,(ze (zk (zK zM (by rfl) T.aV boot_list (za (wD (pv 0) rfl) zb)))),?_⟩;exact⟨_,rfl,p,_,dx,_,_,rfl,h.ip,T.aj,T.aI,rfl,_,_,rfl,.inl (ag.of h.i1),λl hl=>q l _ (ae.new hl) hl zc⟩
inductive yk (K:Frag) (vs:List V) (H:Hp) (Q:VK) (E:XK):Prop
 | mk (p:Addr) (F:Addr->Prop) (S:Sh):vs=[.ref p]->j9 K H p F S->S.af.length<=15->(∀(l:Addr)(H':Hp),ae H H'->H l=none->H' l=some (.lst (S.handed.map V.str))->Q (.ref l) H')->yk K vs H Q E
theorem WJ(F:aN K "handed" "Sheet.handed" Gs f fd)(T:Txt K mg):av P w K mg base aQ 1 f fd yd (yk K):=by
 refine F.ok V5 (λvs H Q E h=>?_) (λaE A outer s H vs Q E hr h=>?_)
 ·obtain⟨p,F,S,rfl,_⟩:=h;rfl
 ·obtain⟨p,F,S,rfl,⟨dx,a1,a2,a3,d,aw,h⟩,fD,q⟩:=h;refine⟨_,(ze (zk (zS (show ak (zf Gs) ["self"] "judge" ["self"] [0] _ from cm) rfl (zx (wD (pv 0) rfl)) (λ_ _ _ _ _=>(yL (nE (Ax (Bp hr) (pv 0) (tP (K:=K) rfl (pv 1) rfl))))) (λ_ _ _ _ _=>(pv 0))))),?_⟩;have cj:=zt;refine⟨_,rfl,p,_,dx,_,_,rfl,h.ip,T.aj,T.b7,rfl,a3,rfl,⟨_,ag.of h.i3⟩,?_⟩;refine y9 (xs:=S.af.map V.str) (λi ys H2=>H2=H/\ys=((S.af.take i).filter λj=>(S.card j).isSome).map V.str) ⟨rfl,rfl⟩ ?_ (by rw[length_map];omega) ?_ ?_
  ·rintro i ys H2 hi ⟨rfl,rfl⟩;refine⟨ag.of h.i3,?_⟩;rw[length_map];exact le_trans (length_filter_le _ _) (by rw[length_take];omega)
  ·rintro i x ys H2 hx ⟨rfl,rfl⟩;obtain⟨hi,rfl⟩:=Ag hx;refine⟨_,rfl,_,rfl,p,_,dx,_,_,rfl,h.ip,T.aj,T.ax,rfl,d,_,rfl,dI.k (k:=Sum.inr (S.af.getD i "")) h.i4,_,rfl,?_⟩;have hv:(dH aw (Sum.inr (S.af.getD i ""))).isSome=(S.card (S.af.getD i "")).isSome:=by
    cases e:S.card (S.af.getD i "")with
    | none=>rw[h.cn _ e];rfl
    | some c=>obtain⟨l,e1,_⟩:=h.cs _ _ e;rw[e1];rfl
   rw[hv];refine vp (λhb=>?_) (λhb=>?_)
   ·refine⟨_,rfl,rfl,?_⟩;rw[yA hi,filter_append,filter_cons,if_pos hb,map_append];rfl
   ·refine⟨rfl,?_⟩;rw[yA hi,filter_append,filter_cons,if_neg (by rw[hb];exact Bool.false_ne_true)];simp
  ·rintro ys H2 ⟨rfl,rfl⟩ l hl;rw[length_map,take_length];exact q l _ (ae.new hl) hl zc
inductive MB (K:Frag) (vs:List V) (H:Hp) (Q:VK) (E:XK):Prop
 | mk (a b:Addr) (ns ms:List Int):vs=[.ref a,.ref b]->ag K H a (ns.map V.int)->ag K H b (ms.map V.int)->ns.length<64->ms.length<64->(∀H',ae H H'->Q (.bl (decide (ns.Perm ms))) H')->MB K vs H Q E
variable {ns ms:List Int}
theorem WK{vt HK:List Int}(h1:vt.Perm ns)(h2:vt.Pairwise (·<= ·))(h3:HK.Perm ms)(h4:HK.Pairwise (·<= ·)):decide (vt=HK)=decide (ns.Perm ms):=by
 by_cases h:ns.Perm ms
 ·rw[decide_eq_true h];exact decide_eq_true (List.Perm.eq_of_pairwise (λa b _ _ x y=>Int.le_antisymm x y) h2 h4 (h1.trans (h.trans h3.symm)))
 ·rw[decide_eq_false h];refine decide_eq_false λe=>h ?_;subst e;exact h1.symm.trans h3
theorem WL(F:aN K "whole_card" "whole_card" Lx f fd)(T:Txt K mg):av P w K mg base aQ 1 f fd Gu (MB K):=by
 refine F.ok V6 (λvs H Q E h=>?_) (λaE A outer s H vs Q E hr h=>?_)
 ·obtain⟨a,b,ns,ms,rfl,_⟩:=h;rfl
 ·obtain⟨a,b,ns,ms,rfl,hA,hB,WM,FY,q⟩:=h;refine⟨_,(ze (zk (u4 (Kb hr.aS) (zD Kc (by rfl) T.dw PyProof.Rows.boot_sorted (za (pv 0) zb)) (zD Kc (by rfl) T.dw PyProof.Rows.boot_sorted (za (pv 1) zb)) (zn _)))),?_⟩;refine⟨_,rfl,a,ns,rfl,hA,WM,λl1 vt cJ p1 w1=>?_⟩;refine⟨_,rfl,b,ms,rfl,(ae.new cJ).seq hB,FY,λl2 HK b8 p2 w2=>?_⟩;refine⟨l1,l2,_,_,rfl,rfl,(ae.new b8).seq ag.new,ag.new,zy _,zy _,?_⟩;rw[yx,WK p1 w1 p2 w2];exact q _ ((ae.new cJ).ar b8)
inductive MC (K:Frag) (vs:List V) (H:Hp) (Q:VK) (E:XK):Prop
 | mk (a:Addr) (ns:List Int) (c:Int):vs=[.ref a,.int c]->ag K H a (ns.map V.int)->c∈ns->Q (.int ((ns.idxOf c:Nat)+1)) H->MC K vs H Q E
theorem jm(F:aN K "mark_on" "mark_on" Ly f fd)(T:Txt K mg):av P w K mg base aQ 1 f fd Gv (MC K):=by
 refine F.ok V7 (λvs H Q E h=>?_) (λaE A outer s H vs Q E hr h=>?_)
 ·obtain⟨a,ns,c,rfl,_⟩:=h;rfl
 ·obtain⟨a,ns,c,rfl,hS,hc,q⟩:=h;refine⟨_,(ze (zk (zo zR (wP PySem.F.plainAttrs_list PySem.F.slot_list_index PySem.F.type_list_index CV (pv 0) (za (pv 1) zb)) zg))),?_⟩;refine⟨_,rfl,.inl ⟨rfl,_,hS⟩,_,rfl,a,_,_,rfl,rfl,hS,rfl,zy _,?_,_,_,rfl,rfl,?_⟩
  ·rw[tD,length_map];exact List.idxOf_lt_length_iff.mpr hc
  ·rw[tD];exact q
inductive MD (K:Frag) (vs:List V) (H:Hp) (Q:VK) (E:XK):Prop
 | mk (a:Addr) (ns:List Int) (c:Int):vs=[.ref a,.int c]->ag K H a (ns.map V.int)->ns.length<=1000->(∀l H',ae H H'->H l=none->H' l=some (.lst ((ns.filter λo => !decide (o=c)).map V.int))->Q (.ref l) H')->MD K vs H Q E
theorem WN(F:aN K "without_couple" "without_couple" wI f fd)(T:Txt K mg):av P w K mg base aQ 1 f fd wv (MD K):=by
 refine F.ok V8 (λvs H Q E h=>?_) (λaE A outer s H vs Q E hr h=>?_)
 ·obtain⟨a,ns,c,rfl,_⟩:=h;rfl
 ·obtain⟨a,ns,c,rfl,hS,hz,q⟩:=h;refine⟨_,(ze (zk (zS (show ak (zf wI) ["card","couple"] "other" ["couple"] [1] _ from cm) rfl (zx (pv 0)) (λ_ _ _ _ _=>(yL (zl yQ (pv 0) (pv 1) (zn _)))) (λ_ _ _ _ _=>(pv 0))))),?_⟩;refine⟨_,rfl,a,rfl,⟨_,hS⟩,?_⟩;refine y9 (xs:=ns.map V.int) (λi ys H2=>H2=H/\ys=((ns.take i).filter λo => !decide (o=c)).map V.int) ⟨rfl,rfl⟩ ?_ (by rw[length_map];exact le_trans hz (le_trans (by decide) zt)) ?_ ?_
  ·rintro i ys H2 hi ⟨rfl,rfl⟩;refine⟨hS,?_⟩;rw[length_map];exact le_trans (length_filter_le _ _) (by rw[length_take];omega)
  ·rintro i x ys H2 hx ⟨rfl,rfl⟩;obtain⟨hi,rfl⟩:=yD hx;refine⟨_,rfl,_,rfl,rfl,_,rfl,yi (λaO=>?_) (λhe=>?_)⟩
   ·refine⟨_,rfl,rfl,?_⟩;have:¬ns.getD i 0=c:=λe=>aO (by rw[e]);rw[y6 hi,filter_append,filter_cons_of_pos (by show(!decide (ns.getD i 0=c))=true;rw[decide_eq_false this];rfl),map_append];rfl
   ·refine⟨rfl,?_⟩;have:ns.getD i 0=c:=by injection he
    rw[y6 hi,filter_append,filter_cons_of_neg (by show ¬(!decide (ns.getD i 0=c))=true;rw[decide_eq_true this];decide),map_append];simp
  ·rintro ys H2 ⟨rfl,rfl⟩ l hl;rw[length_map,take_length];exact q l _ (ae.new hl) hl zc
inductive ME (K:Frag) (vs:List V) (H:Hp) (Q:VK) (E:XK):Prop
 | mk (a:Addr) (ns:List Int) (i:Nat):vs=[.ref a,.int (ns.getD i 0)]->ag K H a (ns.map V.int)->ns.Nodup->i<ns.length->ns.length<=1000->((∀n∈ns,1<=n/\n<=999))->((i=0->∀C,bg K "AtTop" C->E (.ref C) none H))->((0<i->∀l H',ae H H'->H l=none->H' l=some (.lst ((ns.take (i-1)++[ns.getD i 0,ns.getD (i-1) 0]++ns.drop (i+1)).map V.int))->Q (.ref l) H'))->ME K vs H Q E
theorem mx(F:aN K "one_up" "one_up" Lz f fd)(T:Txt K mg):av P w K mg base (fC P w) 1 f fd Gw (ME K):=by
 obtain⟨HL,uC,uD,gx⟩:=T.gx;refine F.Aa LA (λvs H Q E h=>?_) (λX W aE A outer s H vs Q E hX hW fl md hr h=>?_)
 ·obtain⟨a,ns,i,rfl,_⟩:=h;rfl
 ·obtain⟨a,ns,i,rfl,hS,hn,hi,hz,WO,qE,qQ⟩:=h;subst hX;refine⟨_,(zd (zr (i:=2) LA.nd rfl (Or.inl rfl) (wP PySem.F.plainAttrs_list PySem.F.slot_list_index PySem.F.type_list_index CV (pv 0) (za (pv 1) zb)))
   (zd (zv (zl wl (pv 2) zg (zn _)) (ze (wU rfl md rfl uD gx (za (jO (Bt ye (Bt (Kk (pv 1)) (Bt ye oZ)))) zb))) zp)
   (zd (zr (i:=3) LA.nd rfl (Or.inl rfl) (zu zq (pv 0) (zo nT (pv 2) zg) (λ_ _=>rfl)))
   (ze (zk (zo yg (zo yg (zG zX (pv 0) yb (zO (zo nT (pv 2) zg))) (zz (za (pv 1) (za (pv 3) zb)))) (zG zX (pv 0) (zO (zo zR (pv 2) zg)) yb))))))),?_⟩
  have qP:ns.idxOf (ns.getD i 0)=i:=by rw[Bq hi];exact hn.idxOf_getElem i hi
  have hl:=zt;have Ep:(ns.getD i 0).natAbs.log2<1920:=by
   have:=WO _ (oU hi);exact(Nat.log2_lt (by omega)).mpr (lt_of_lt_of_le (show(ns.getD i 0).natAbs<2 ^ 10 by omega) (Nat.pow_le_pow_right (by decide) (by decide)))
  refine⟨_,rfl,.inl ⟨rfl,_,hS⟩,_,rfl,a,_,_,rfl,rfl,hS,rfl,zy _,by rw[tD,qP,length_map];exact hi,?_⟩;rw[tD,qP];refine⟨_,rfl,rfl,_,rfl,yr (λh0=>?_) (λh0=>?_)⟩
  ·have h0:i=0:=by injection h0 with h0;omega
   have hL:=PyProof.Rows.int_text_len_1921 Ep;have l1:(Str.empty++Str.ofString "couple ").length<=0+7:=Kl (by decide) (by decide);have l2:=Kl l1 hL;have l3:=Kl l2 (show(Str.ofString " is the first one on the card").length<=29 by decide);exact⟨_,rfl,le_trans l1 (by decide),_,rfl,.inl ⟨_,rfl,Ep,_,rfl,le_trans l2 (by decide),_,rfl,le_trans l3 (by decide),le_trans l3 (by decide),(by show 1<=sizeLine;decide),by rw[hW];exact qE h0 _ uC⟩⟩
  ·have h0:0<i:=Nat.pos_of_ne_zero λz=>h0 (by rw[z];rfl);refine⟨_,rfl,_,rfl,_,_,rfl,rfl,a,_,_,_,rfl,rfl,hS,tw (by omega) (by omega),?_⟩;refine⟨_,rfl,_,rfl,_,_,rfl,rfl,_,rfl,a,_,rfl,hS,λl1 cJ=>?_⟩;rw[wN (by omega),show((i:Int)-1).toNat=i-1 by omega];refine⟨_,rfl,_,rfl,(by show 2<=sizeLine;decide),λl2 b8=>?_⟩;have s1:=ae.new (o:=.lst ((ns.take (i-1)).map V.int)) cJ;have s2:=s1.ar (o:=.lst ([ns.getD i 0,ns.getD (i-1) 0].map V.int)) b8;have BE:l1≠l2:=zj zc b8;refine⟨l1,l2,_,[ns.getD i 0,ns.getD (i-1) 0].map V.int,rfl,rfl,by rw[zh BE];exact zc,zc,by simp only[length_map,length_take,length_cons,length_nil];omega,λl3 c8=>?_⟩;rw[<-map_append];have s3:=s2.ar (o:=.lst ((ns.take (i-1)++[ns.getD i 0,ns.getD (i-1) 0]).map V.int)) c8;refine⟨_,rfl,_,rfl,_,_,rfl,rfl,_,rfl,a,_,rfl,s3.seq hS,λl4 ng=>?_⟩;rw[wt (by omega),show((i:Int)+1).toNat=i+1 by omega];have s4:=s3.ar (o:=.lst ((ns.drop (i+1)).map V.int)) ng;have my:l3≠l4:=zj zc ng;refine⟨l3,l4,_,_,rfl,rfl,by rw[zh my];exact zc,zc,by simp only[length_map,length_append,length_take,length_drop,length_cons,length_nil];omega,λl5 iD=>?_⟩;rw[<-map_append];exact qQ h0 l5 _ (s4.ar iD) (s4.free iD) zc
inductive MF (K:Frag) (vs:List V) (H:Hp) (Q:VK) (E:XK):Prop
 | mk (n:Int):vs=[.int n]->Q (.int (n/2+1)) H->MF K vs H Q E
theorem WQ(F:aN K "majority_of" "majority_of" LB f fd)(T:Txt K mg):av P w K mg base aQ 1 f fd ["many"] (MF K):=by
 refine F.ok V9 (λvs H Q E h=>?_) (λaE A outer s H vs Q E hr h=>?_)
 ·obtain⟨n,rfl,_⟩:=h;rfl
 ·obtain⟨n,rfl,q⟩:=h;refine⟨_,(ze (zk (zo zR (zo yM (pv 0) zg) zg))),?_⟩;exact⟨_,rfl,_,_,rfl,rfl,⟨by decide,by decide⟩,_,_,rfl,rfl,q⟩
inductive HM (K:Frag) (vs:List V) (H:Hp) (Q:VK) (E:XK):Prop
 | mk (a:Addr) (ms:List Int) (n:Int):vs=[.ref a,.int n]->ag K H a (ms.map V.int)->ms.length<=1000->(∀(l:Addr)(H':Hp),ae H H'->H l=none->H' l=some (.lst ((M3.got ms n).map V.int))->Q (.ref l) H')->HM K vs H Q E
theorem WR(F:aN K "granting" "granting" Gx f fd)(T:Txt K mg):av P w K mg base aQ 1 f fd Eb (HM K):=by
 refine F.ok Wa (λvs H Q E h=>?_) (λaE A outer s H vs Q E hr h=>?_)
 ·obtain⟨a,ms,n,rfl,_⟩:=h;rfl
 ·obtain⟨a,ms,n,rfl,hS,hz,q⟩:=h;refine⟨_,(ze (zk (zS (show ak (zf Gx) ["marks","number"] "mark" ["number"] [1] _ from cm) rfl (zx (pv 0)) (λ_ _ _ _ _=>(yL (zl sO (pv 0) (pv 1) (zn _)))) (λ_ _ _ _ _=>(pv 0))))),?_⟩;refine⟨_,rfl,a,rfl,⟨_,hS⟩,?_⟩;refine y9 (xs:=ms.map V.int) (λi ys H2=>H2=H/\ys=(M3.got (ms.take i) n).map V.int) ⟨rfl,rfl⟩ ?_ (by rw[length_map];have:=zt;omega) ?_ ?_
  ·rintro i ys H2 hi ⟨rfl,rfl⟩;refine⟨hS,?_⟩;rw[length_map];have:=M3.uf (ms.take i) n;unfold M3.cnt at this;rw[length_take]at this;omega
  ·rintro i x ys H2 hx ⟨rfl,rfl⟩;obtain⟨hi,rfl⟩:=yD hx;refine⟨_,rfl,_,rfl,_,_,rfl,rfl,_,rfl,yr (λh=>?_) (λh=>?_)⟩
   ·refine⟨_,rfl,rfl,?_⟩;rw[M3.Gf n hi,if_pos h,map_append];rfl
   ·refine⟨rfl,?_⟩;rw[M3.Gf n hi,if_neg h]
  ·rintro ys H2 ⟨rfl,rfl⟩ l hl;rw[length_map,take_length];exact q l _ (ae.new hl) hl zc
inductive MG (K:Frag) (vs:List V) (H:Hp) (Q:VK) (E:XK):Prop
 | mk (n:Int):vs=[.int n]->Q (.bl (decide (1<=n) && decide (n<=999))) H->MG K vs H Q E
theorem WS(F:aN K "good_number" "good_number" LC f fd)(T:Txt K mg):av P w K mg base aQ 1 f fd ["couple"] (MG K):=by
 refine F.ok Wb (λvs H Q E h=>?_) (λaE A outer s H vs Q E hr h=>?_)
 ·obtain⟨n,rfl,_⟩:=h;rfl
 ·obtain⟨n,rfl,q⟩:=h;refine⟨_,(ze (zk (Jx sO sO zg (pv 0) (CY T.fQ rfl)))),?_⟩;refine⟨_,rfl,_,_,rfl,rfl,_,rfl,yr (λh1=>?_) (λh1=>?_)⟩
  ·rw[decide_eq_true h1,Bool.true_and]at q;exact⟨_,_,rfl,rfl,q⟩
  ·rw[decide_eq_false h1,Bool.false_and]at q;exact q
inductive MH (K:Frag) (vs:List V) (H:Hp) (Q:VK) (E:XK):Prop
 | mk (c:Nat):vs=[.str ⟨#[c]⟩]->Q (.bl (pz c)) H->MH K vs H Q E
theorem WT(F:aN K "small_letter" "small_letter" LD f fd)(T:Txt K mg):av P w K mg base aQ 1 f fd ["sign"] (MH K):=by
 refine F.ok Wc (λvs H Q E h=>?_) (λaE A outer s H vs Q E hr h=>?_)
 ·obtain⟨c,rfl,_⟩:=h;rfl
 ·obtain⟨c,rfl,q⟩:=h;refine⟨_,(ze (zk (Jx Qo Qo ye (pv 0) ye))),?_⟩;unfold pz at q;refine⟨_,rfl,_,_,rfl,rfl,_,rfl,?_⟩;rw[M2.K4];refine yr (λh1=>?_) (λh1=>?_)
  ·rw[decide_eq_true h1,Bool.true_and]at q;refine⟨_,_,rfl,rfl,?_⟩;rw[M2.K5];exact q
  ·rw[decide_eq_false h1,Bool.false_and]at q;exact q
inductive wx (K:Frag) (vs:List V) (H:Hp) (Q:VK) (E:XK):Prop
 | mk (x:V) (n:Nat) (m:Int):vs=[x,.int m]->Cw K x H n->Q (.bl (decide (1<=(n:Int)) && decide ((n:Int)<=m))) H->wx K vs H Q E
theorem WU(F:aN K "good_length" "good_length" LF f fd)(T:Txt K mg):av P w K mg base aQ 1 f fd y7 (wx K):=by
 refine F.ok Wd (λvs H Q E h=>?_) (λaE A outer s H vs Q E hr h=>?_)
 ·obtain⟨x,n,m,rfl,_⟩:=h;rfl
 ·obtain⟨x,n,m,rfl,hx,q⟩:=h;refine⟨_,(ze (zk (Jx sO sO zg (zD nZ (by rfl) T.aq PySem.boot_len (za (pv 0) zb)) (pv 1)))),?_⟩;refine⟨_,rfl,x,n,rfl,hx,_,_,rfl,rfl,_,rfl,yr (λh1=>?_) (λh1=>?_)⟩
  ·rw[decide_eq_true h1,Bool.true_and]at q;exact⟨_,rfl,_,_,rfl,rfl,q⟩
  ·rw[decide_eq_false h1,Bool.false_and]at q;exact q
inductive HN (K:Frag) (vs:List V) (H:Hp) (Q:VK) (E:XK):Prop
 | mk (a:Addr):vs=[.ref a]->(((∃ns:List Int,ag K H a (ns.map V.int)/\ns.length<4000/\∀H',ae H H'->Q (.bl (decide ns.Nodup)) H')\/∃ts:List Str,ag K H a (ts.map V.str)/\ts.length<4000/\Q (.bl (decide ts.Nodup)) H))->HN K vs H Q E
theorem WV(F:aN K "all_unlike" "all_unlike" LG f fd)(T:Txt K mg):av P w K mg base aQ 1 f fd ["things"] (HN K):=by
 refine F.ok We (λvs H Q E h=>?_) (λaE A outer s H vs Q E hr h=>?_)
 ·obtain⟨a,rfl,_⟩:=h;rfl
 ·obtain⟨a,rfl,h⟩:=h;refine⟨_,(ze (zk (u4 wl (ui (zD call_len_set (by rfl) T.aq PySem.boot_len (za (zK (Uy rfl) (by rfl) T.vU boot_set (za (pv 0) zb)) zb)) (iV rfl (by rfl) T.aq (by rfl) T.vU (pv 0))) (zT T.aq (pv 0)) (zn _)))),?_⟩;rcases h with⟨ns,hS,hz,q⟩|⟨ts,hS,hz,q⟩
  ·refine .inl ⟨_,rfl,a,ns,rfl,hS,hz,λl hl=>?_⟩;refine⟨l,_,_,rfl,zc,_,rfl,a,_,rfl,.inl ((ae.new hl).seq hS),rfl,?_⟩;have e:decide (V.int ((PyProof.Rows.firstMet (λi=>ns.getD i 0) ns.length).length:Int)=V.int ((ns.map V.int).length:Int))=decide ns.Nodup:=by
    rw[length_map];by_cases h:ns.Nodup
    ·rw[decide_eq_true h,(Qe ns).mpr h];exact decide_eq_true rfl
    ·rw[decide_eq_false h];refine decide_eq_false λz=>h ((Qe ns).mp ?_);injection z with z
     exact Int.ofNat.inj z
   rw[e];exact q _ (ae.new hl)
  ·refine .inr ⟨_,rfl,a,ts,rfl,hS,hz,?_⟩;refine⟨_,rfl,a,_,rfl,.inl hS,rfl,?_⟩;have e:decide (V.int ((met (λi=>ts.getD i "") ts.length).length:Int)=V.int ((ts.map V.str).length:Int))=decide ts.Nodup:=by
    rw[length_map];by_cases h:ts.Nodup
    ·rw[decide_eq_true h,(Qi ts "").mpr h];exact decide_eq_true rfl
    ·rw[decide_eq_false h];refine decide_eq_false λz=>h ((Qi ts "").mp ?_);injection z with z
     exact Int.ofNat.inj z
   rw[e];exact q
inductive wK (K:Frag) (vs:List V) (H:Hp) (Q:VK) (E:XK):Prop
 | mk (x:_) (b1:_) (b2:_):vs=[x]->isInt x=some b1->isBool x=some b2->Q (.bl (b1 && !b2)) H->wK K vs H Q E
theorem WW(F:aN K "_law_whole" "_law_whole" LH f fd)(T:Txt K mg):av P w K mg base aQ 1 f fd wk (wK K):=by
 refine F.ok Wf (λvs H Q E h=>?_) (λaE A outer s H vs Q E hr h=>?_)
 ·obtain⟨x,b1,b2,rfl,_⟩:=h;rfl
 ·obtain⟨x,b1,b2,rfl,h1,h2,k⟩:=h;refine⟨_,(ze (zk (Bi (zD Ut (by rfl) T.ay boot_isinstance (za (pv 0) (za (mP (v:=V.ty "int") rfl T.D8 boot_int rfl) zb))) (Fx (xt (zD Uu (by rfl) T.ay boot_isinstance (za (pv 0) (za (mP (v:=V.ty "bool") rfl T.AH boot_bool rfl) zb)))))))),?_⟩;refine⟨_,rfl,x,b1,rfl,h1,_,rfl,?_⟩;cases b1 with
  | false=>exact yY k
  | true=>exact iR ⟨_,rfl,x,b2,rfl,h2,_,rfl,k⟩
inductive MI (K:Frag) (vs:List V) (H:Hp) (Q:VK) (E:XK):Prop
 | mk (a:Addr) (ns:List Int) (k:Int):vs=[.ref a,.int k]->ag K H a (ns.map V.int)->0<=k->Q (.int (ns.getD k.toNat 0)) H->MI K vs H Q E
theorem mz(F:aN K "_law_at" "_law_at" LJ f fd)(T:Txt K mg):av P w K mg base aQ 1 f fd Gy (MI K):=by
 refine F.ok mq (λvs H Q E h=>?_) (λaE A outer s H vs Q E hr h=>?_)
 ·obtain⟨a,ns,k,rfl,_⟩:=h;rfl
 ·obtain⟨a,ns,k,rfl,hS,h0,q⟩:=h;refine⟨_,(zd (zv (zl nV (pv 1) (zT T.aq (pv 0)) (zn _)) (ze (zk (zu zq (pv 0) (pv 1) (λ_ _=>rfl)))) zp)
   (ze (zk zg))),?_⟩
  refine⟨_,rfl,_,rfl,a,_,rfl,.inl hS,_,_,rfl,rfl,_,rfl,yr (λhk=>?_) (λhk=>?_)⟩
  ·rw[length_map]at hk;exact⟨_,rfl,_,rfl,a,_,k,_,rfl,rfl,hS,tw h0 hk,q⟩
  ·rw[length_map]at hk;show Q (.int 0) H;rw[getD_eq_getElem?_getD,List.getElem?_eq_none (by omega)]at q;exact q
inductive MJ (K:Frag) (vs:List V) (H:Hp) (Q:VK) (E:XK):Prop
 | mk (a b:Addr) (ts us:List Str):vs=[.ref a,.ref b]->ag K H a (ts.map V.str)->ag K H b (us.map V.str)->us.length<=1000000->Q (.bl (decide (ts=us))) H->MJ K vs H Q E
theorem mB{ts us:List Str}(hl:ts.length=us.length)(h:∀j,j<us.length->ts.getD j ""=us.getD j ""):ts=us:=by
 refine ext_getElem hl λj h1 h2=>?_;have:=h j h2
 rwa [getD_eq_getElem?_getD,getD_eq_getElem?_getD,getElem?_eq_getElem h1,getElem?_eq_getElem h2]at this
theorem WX(F:aN K "_law_texts" "_law_texts" LL f fd)(T:Txt K mg):av P w K mg base aQ 1 f fd Gz (MJ K):=by
 refine F.ok RF (λvs H Q E h=>?_) (λaE A outer s H vs Q E hr h=>?_)
 ·obtain⟨a,b,ts,us,rfl,_⟩:=h;rfl
 ·obtain⟨a,b,ts,us,rfl,hA,hB,hz,q⟩:=h;refine⟨_,(zd (zv (PW.pt (gS (zV (zQ (zD wY (by rfl) T.ay boot_isinstance (za (pv 0) (za (mP (v:=V.ty "list") rfl T.aV boot_list rfl) zb))))) (wR (zl yQ (zT T.aq (pv 0)) (zT T.aq (pv 1)) (zn _))))) (ze (zk yf)) zp)
   (zd (yB PassesOwn.never rfl (yy rfl T.aK (za (zT T.aq (pv 1)) zb)) (zN (i:=2) RF.nd rfl (Or.inl rfl))
     (ze (zv (PW.pt (gS (zV (zQ (zD Qa (by rfl) T.ay boot_isinstance (za (zu zq (pv 0) (pv 2) (λ_ _=>rfl)) (za (mP (v:=V.ty "str") rfl T.dY boot_str rfl) zb))))) (wR (zl yQ (zu zq (pv 0) (pv 2) (λ_ _=>rfl)) (zu zq (pv 1) (pv 2) (λ_ _=>rfl)) (zn _))))) (ze (zk yf)) zp)))
   (ze (zk yf)))),?_⟩
  refine⟨_,rfl,_,_,rfl,.yes hA,_,rfl,yY ?_⟩;refine⟨_,rfl,a,_,rfl,.inl hA,_,rfl,b,_,rfl,.inl hB,rfl,_,rfl,?_⟩;rw[length_map,length_map];refine yi (λaO=>?_) (λhe=>?_)
  ·show Q (.bl false) H;have:ts≠us:=λe=>aO (by rw[e]);rw[decide_eq_false this]at q;exact q
  ·have hl:ts.length=us.length:=by injection he with he;exact Int.ofNat.inj he
   refine⟨_,rfl,b,_,rfl,.inl hB,_,rfl,by omega,by rw[length_map];omega,?_⟩;rw[length_map];refine yj (λi σ H2=>∃v,σ=[some (.ref a),some (.ref b),v]/\H2=H/\∀j,j<i->ts.getD j ""=us.getD j "") ⟨_,rfl,rfl,λj hj=>by omega⟩ ?_ ?_
   ·rintro i σ H2 hi ⟨v,rfl,rfl,hj⟩;have iB:i<us.length:=by simpa using hi
    have e1:cH (ts.map V.str) (0+(i:Int))=some (.str (ts.getD i "")):=by rw[Int.zero_add];exact zC (tK (by omega))
    have e2:cH (us.map V.str) (0+(i:Int))=some (.str (us.getD i "")):=by rw[Int.zero_add];exact zC (tK iB)
    refine⟨_,rfl,_,rfl,a,_,_,_,rfl,rfl,hA,e1,_,_,rfl,rfl,_,rfl,yY ?_⟩;refine⟨_,rfl,_,rfl,a,_,_,_,rfl,rfl,hA,e1,_,rfl,_,rfl,b,_,_,_,rfl,rfl,hB,e2,rfl,_,rfl,yi (λaO=>?_) (λhe=>?_)⟩
    ·show Q (.bl false) _;have:ts≠us:=λe=>aO (by rw[e]);rw[decide_eq_false this]at q;exact q
    ·refine⟨_,rfl,rfl,λj FQ=>?_⟩;by_cases Bu:j=i
     ·subst Bu;injection he
     ·exact hj j (by omega)
   ·rintro σ H2 ⟨v,rfl,rfl,hj⟩;show Q (.bl true) _;have:ts=us:=mB hl λj h=>hj j (by simpa using h);rw[decide_eq_true this]at q;exact q
def MK(c p:Int):Int:=(c*48271%2147483647+p+1)*69621%2147483647
inductive HQ (K:Frag) (vs:List V) (H:Hp) (Q:VK) (E:XK):Prop
 | mk (c:_) (p:_):vs=[.int c,.int p]->Q (.int (MK c p)) H->HQ K vs H Q E
theorem jn(F:aN K "_law_mix" "_law_mix" LM f fd)(T:Txt K mg):av P w K mg base aQ 1 f fd Ec (HQ K):=by
 refine F.ok RG (λvs H Q E h=>?_) (λaE A outer s H vs Q E hr h=>?_)
 ·obtain⟨c,p,rfl,_⟩:=h;rfl
 ·obtain⟨c,p,rfl,q⟩:=h;refine⟨_,(zd (zr (i:=2) RG.nd rfl (Or.inl rfl) (zo yc (zo rJ (pv 0) zg) zg))
   (ze (zk (zo yc (zo rJ (zo zR (zo zR (pv 2) (pv 1)) zg) zg) zg)))),?_⟩
  refine⟨_,rfl,_,_,rfl,rfl,.inr ⟨by decide,by decide⟩,_,_,rfl,rfl,(by show(0:Int)<2147483647;decide),?_⟩;exact⟨_,rfl,_,rfl,_,_,rfl,rfl,_,_,rfl,rfl,_,_,rfl,rfl,.inr ⟨by decide,by decide⟩,_,_,rfl,rfl,(by show(0:Int)<2147483647;decide),q⟩
inductive ML (K:Frag) (vs:List V) (H:Hp) (Q:VK) (E:XK):Prop
 | mk (md c a b d:Int):vs=[.int md,.int c,.int a,.int b,.int d]->a<=b->b<=d->(∀r:Int,a<=r->r<=d->Q (.int r) H)->ML K vs H Q E
theorem WY(F:aN K "_law_many" "_law_many" LN f fd)(T:Txt K mg):av P w K mg base aQ 1 f fd GA (ML K):=by
 refine F.ok Wg (λvs H Q E h=>?_) (λaE A outer s H vs Q E hr h=>?_)
 ·obtain⟨md,c,a,b,d,rfl,_⟩:=h;rfl
 ·obtain⟨md,c,a,b,d,rfl,h1,h2,q⟩:=h;refine⟨_,(zd (zv (zl wl (pv 0) zg (zn _)) (ze (zk (pv 4))) zp)
   (zd (zv (zl wl (pv 0) zg (zn _)) (ze (zk (zo zR (pv 2) (zo yc (pv 1) (zo nT (zo zR (pv 4) zg) (pv 2)))))) zp)
   (ze (zk (zo zR (pv 2) (zo yc (pv 1) (zo nT (zo zR (pv 3) zg) (pv 2)))))))),?_⟩
  have e1:=Int.emod_nonneg c (show d+1-a≠0 by omega);have e2:=Int.emod_lt_of_pos c (show 0<d+1-a by omega);have e3:=Int.emod_nonneg c (show b+1-a≠0 by omega);have e4:=Int.emod_lt_of_pos c (show 0<b+1-a by omega);refine⟨_,rfl,rfl,_,rfl,yr (λ_=>⟨_,rfl,q d (by omega) (by omega)⟩) (λ_=>?_)⟩;refine⟨_,rfl,rfl,_,rfl,yr (λ_=>?_) (λ_=>?_)⟩
  ·exact⟨_,rfl,_,rfl,_,rfl,_,_,rfl,rfl,_,rfl,_,_,rfl,rfl,_,_,rfl,rfl,(by show 0<d+1-a;omega),_,_,rfl,rfl,q _ (by omega) (by omega)⟩
  ·exact⟨_,rfl,_,rfl,_,rfl,_,_,rfl,rfl,_,rfl,_,_,rfl,rfl,_,_,rfl,rfl,(by show 0<b+1-a;omega),_,_,rfl,rfl,q _ (by omega) (by omega)⟩
inductive MM (K:Frag) (vs:List V) (H:Hp) (Q:VK) (E:XK):Prop
 | mk (c:_) (m:_):vs=[.int c,.int m]->0<=m->m<=1000->(∀l H',ae H H'->H l=none->H' l=some (.lst ((M1.aa c m.toNat).map V.int))->Q (.ref l) H')->MM K vs H Q E
theorem WZ(F:aN K "_law_couples" "_law_couples" GB f fd)(T:Txt K mg):av P w K mg base aQ 1 f fd GC (MM K):=by
 refine F.ok RI (λvs H Q E h=>?_) (λaE A outer s H vs Q E hr h=>?_)
 ·obtain⟨c,m,rfl,_⟩:=h;rfl
 ·obtain⟨c,m,rfl,h0,h1,q⟩:=h;refine⟨_,(zd (zr (i:=2) RI.nd rfl (Or.inr rfl) (zu zq (zz (za zg (za zg (za zg (za zg zb))))) (zo yc (pv 0) zg) (λ_ _=>rfl)))
   (ze (zk (zS (show ak (zf GB) RH "_law_k" ["_law_cell","_law_gap"] [0,2] _ from cm) rfl (yy rfl T.aK (za (pv 1) zb)) (λ_ _ _ _ _=>yN) (λ_ _ _ _ _=>(zo zR (zo yc (zo zR (zo yM (pv 1) zg) (zo rJ (pv 0) (pv 2))) zg) zg)))))),?_⟩
  refine⟨by decide,λp hp=>?_⟩;have g4:0<=c%4/\c%4<4:=⟨Int.emod_nonneg _ (by decide),Int.emod_lt_of_pos _ (by decide)⟩;have eg:cH [V.int 1,V.int 7,V.int 500,V.int 998] (c%4)=some (.int (M1.gap c)):=by
   have h:c%4=0\/c%4=1\/c%4=2\/c%4=3:=by omega
   unfold M1.gap;rcases h with h | h | h | h <;> rw[h] <;> rfl
  refine⟨_,rfl,_,_,rfl,rfl,(by show(0:Int)<4;decide),p,_,_,_,rfl,rfl,ag.new,eg,?_⟩;refine⟨_,rfl,m,rfl,by omega,by omega,?_⟩;refine FR (λi ys H2=>H2=upd H p (.lst [V.int 1,V.int 7,V.int 500,V.int 998])/\ys=(M1.aa c i).map V.int) ⟨rfl,rfl⟩ ?_ (le_trans (by omega) zt) ?_ ?_
  ·rintro i ys H2 hi ⟨_,rfl⟩;rw[length_map,M1.QT];exact le_refl _
  ·rintro i ys H2 hi ⟨rfl,rfl⟩;refine⟨_,rfl,_,_,rfl,rfl,⟨by decide,by decide⟩,_,rfl,_,rfl,_,_,rfl,rfl,.inl ⟨by omega,by omega⟩,_,_,rfl,rfl,_,_,rfl,rfl,(by show(0:Int)<999;decide),_,_,rfl,rfl,rfl,?_⟩;rw[M1.Vz,map_append,Int.zero_add];rfl
  ·rintro ys H2 ⟨rfl,rfl⟩ l hl;exact q l _ ((ae.new hp).ar hl) (ae.free (ae.new hp) hl) zc
inductive MN (K:Frag) (vs:List V) (H:Hp) (Q:VK) (E:XK):Prop
 | mk (c m:Int):vs=[.int c,.int m]->0<=m->m<=15->(∀(l:Addr)(H':Hp)(ts:List Str),ae H H'->H l=none->H' l=some (.lst (ts.map V.str))->ts.length=m.toNat->ts.Nodup->(∀z∈ts,M2.vN z=true)->Q (.ref l) H')->MN K vs H Q E
theorem AK{i:Int}(h0:0<=i)(h1:i<26):cH KG.cps.toList i=some (97+i.toNat):=by
 have:∀k:Fin 26,KG.cps.toList[k.val]? = some (97+k.val):=by decide +kernel
 have:=zC (this ⟨i.toNat,by omega⟩)
 rwa [show((i.toNat:Nat):Int)=i by omega]at this
theorem W0(F:aN K "_law_judges" "_law_judges" GD f fd)(T:Txt K mg):av P w K mg base aQ 1 f fd GF (MN K):=by
 refine F.ok wZ (λvs H Q E h=>?_) (λaE A outer s H vs Q E hr h=>?_)
 ·obtain⟨c,m,rfl,_⟩:=h;rfl
 ·obtain⟨c,m,rfl,m0,m1,q⟩:=h;refine⟨_,(zd (zr (i:=2) wZ.nd rfl (Or.inr rfl) ye)
   (zd (zr (i:=3) wZ.nd rfl (Or.inl rfl) (zo yc (pv 0) zg))
   (zd (zr (i:=4) wZ.nd rfl (Or.inl rfl) (zo yc (zo yM (pv 0) zg) (zo zR (pv 3) zg)))
   (zd (zr (i:=5) wZ.nd rfl (Or.inr rfl) (zz (za (zG pf ye yb (zO (pv 4))) (za (zG pf ye (zO (pv 4)) (zO (pv 3))) zb))))
   (ze (zk (zS (show ak (zf GD) RJ "_law_k" ["_law_cell","_law_letters","_law_ends"] [0,2,5] _ from cm) rfl (yy rfl T.aK (za (pv 1) zb)) (λ_ _ _ _ _=>yN) (λ_ _ _ _ _=>(zo FF (zo FF (zu (FX (K:=K) rfl) (pv 3) zg (λ_ _=>rfl)) (zu xO (pv 2) (zo yc (zo zR (zo yM (pv 1) zg) (zo rJ zg (pv 0))) zg) (λ_ _=>rfl))) (zu (FX (K:=K) rfl) (pv 3) zg (λ_ _=>rfl))))))))))),?_⟩
  have cj:=zt;have z0:0<=c%8:=Int.emod_nonneg _ (by decide);have z1:c%8<8:=Int.emod_lt_of_pos _ (by decide);refine⟨_,rfl,_,_,rfl,rfl,(by show(0:Int)<8;decide),?_⟩;dsimp only;generalize c%8=size at z0 z1 ⊢;have p0:0<=c/8%(size+1):=Int.emod_nonneg _ (by omega);have p1:c/8%(size+1)<size+1:=Int.emod_lt_of_pos _ (by omega);refine⟨_,rfl,_,_,rfl,rfl,⟨by decide,by decide⟩,_,rfl,_,_,rfl,rfl,_,_,rfl,rfl,(by show 0<size+1;omega),?_⟩;dsimp only;generalize c/8%(size+1)=mD at p0 p1 ⊢;have he:=M10.ue ⟨size.toNat,by omega⟩ ⟨mD.toNat,by omega⟩ (by show mD.toNat<=size.toNat;omega);dsimp only at he;rw[show((mD.toNat:Nat):Int)=mD by omega,show((size.toNat:Nat):Int)=size by omega]at he;refine⟨_,rfl,_,rfl,_,rfl,(by show 7<=sizeLine;decide),_,rfl,_,rfl,_,rfl,_,rfl,_,rfl,(by show 7<=sizeLine;decide),(by show 2<=sizeLine;decide),λp3 gy=>?_⟩;generalize PySem.Txt.slice "vwxyzab" none (some mD)=e0 at he ⊢;generalize PySem.Txt.slice "vwxyzab" (some mD) (some size)=e1 at he ⊢;obtain⟨hl,h0,h1⟩:=he;have s3:=ae.new (o:=.lst [.str e0,.str e1]) gy;have q3:=ag.new (K:=K) (H:=H) (l:=p3) (xs:=[.str e0,.str e1]);generalize gN:upd H p3 _=H3 at s3 q3 ⊢;refine⟨_,rfl,m,rfl,by omega,by omega,?_⟩;refine FR (λi ys H4=>H4=H3/\ys=(M10.ud e0 e1 (c/64) i).map V.str) ⟨rfl,rfl⟩ ?_ (by omega) ?_ ?_
  ·rintro i ys H4 hi ⟨rfl,rfl⟩;rw[length_map,M10.QZ];omega
  ·rintro i ys H4 hi ⟨rfl,rfl⟩;have i0:=Int.emod_nonneg (c/64+11*(0+(i:Int))) (show(26:Int)≠0 by decide);have i1:=Int.emod_lt_of_pos (c/64+11*(0+(i:Int))) (show(0:Int)<26 by decide);refine⟨_,rfl,p3,_,_,_,rfl,rfl,q3,rfl,_,rfl,_,rfl,_,_,rfl,rfl,⟨by decide,by decide⟩,_,rfl,_,_,rfl,rfl,.inl ⟨by decide,by decide⟩,_,_,rfl,rfl,_,_,rfl,rfl,(by show(0:Int)<26;decide),KG,_,_,rfl,rfl,(by decide),AK i0 i1,_,_,rfl,rfl,(by show e0.length+1<=sizeLine;omega),_,rfl,p3,_,_,_,rfl,rfl,q3,rfl,_,_,rfl,rfl,(by rw[we];show e0.length+1+e1.length<=sizeLine;omega),rfl,?_⟩;rw[M10.VG,map_append,Int.zero_add];rfl
  ·rintro ys H4 ⟨rfl,rfl⟩ l rZ;refine q l _ _ (s3.ar rZ) (s3.free rZ) zc (M10.QZ _ _ _ _) (M10.VH _ _ _ (by omega)) λz hz=>?_;unfold M10.ud at hz;obtain⟨k,_,rfl⟩:=List.mem_map.mp hz;exact M10.i9 _ _ hl h0 h1
inductive Er (K:Frag) (vs:List V) (H:Hp) (Q:VK) (E:XK):Prop
 | mk (a:Addr) (cs:List (List Int)) (c:Int):vs=[.ref a,.int c]->Refs K (IL K) H a cs->cs.length<=1000->((∀d∈cs,c∈d))->(∀(l:Addr)(H':Hp),ae H H'->H l=none->H' l=some (.lst ((M5.zm cs c).map V.int))->Q (.ref l) H')->Er K vs H Q E
theorem W2(F:aN K "_law_marks" "_law_marks" GG f fd)(T:Txt K mg):av P w K mg base aQ 1 f fd wH (Er K):=by
 refine F.ok Wh (λvs H Q E h=>?_) (λaE A outer s H vs Q E hr h=>?_)
 ·obtain⟨a,cs,c,rfl,_⟩:=h;rfl
 ·obtain⟨a,cs,c,rfl,⟨ls,hS,hR⟩,hz,hm,q⟩:=h;refine⟨_,(ze (zk (zS (show ak (zf GG) ["_law_cards","_law_couple"] "_law_card_here" ["_law_couple"] [1] _ from cm) rfl (zx (pv 0)) (λ_ _ _ _ _=>yN) (λ_ _ _ _ _=>(zo zR (Ae (K:=K) rfl PySem.F.plainAttrs_list PySem.F.slot_list_index PySem.F.type_list_index (k7 (K:=K) rfl) (pv 0) (za (pv 1) zb)) zg))))),?_⟩;have hl:=hR.length;refine⟨_,rfl,a,rfl,⟨_,hS⟩,?_⟩;refine yq (xs:=ls.map V.ref) (λi ys H2=>H2=H/\ys=(M5.zm (cs.take i) c).map V.int) ⟨rfl,rfl⟩ ?_ (by rw[length_map];have:=zt;omega) ?_ ?_
  ·rintro i ys H2 hi ⟨rfl,rfl⟩;refine⟨hS,?_⟩;rw[length_map,M5.ya,length_take];omega
  ·rintro i x ys H2 hx ⟨rfl,rfl⟩;obtain⟨l,el,rfl⟩:=uh hx;obtain⟨d,ed,rd⟩:=hR.getL el;have ee:=hm d (mem_of_getElem? ed);refine⟨_,rfl,.inl ⟨rfl,_,rd⟩,_,rfl,l,_,_,rfl,rfl,rd,rfl,zy _,?_⟩;rw[tD,length_map];refine⟨idxOf_lt_length_of_mem ee,_,_,rfl,rfl,rfl,?_⟩;rw[take_succ,ed];unfold M5.zm;rw[map_append,map_append];rfl
  ·rintro ys H2 ⟨rfl,rfl⟩ l rZ;rw[length_map,hl,take_length];exact q l _ (ae.new rZ) rZ zc
inductive MO (K:Frag) (vs:List V) (H:Hp) (Q:VK) (E:XK):Prop
 | mk (a:Addr) (ms:List Int) (n:Int):vs=[.ref a,.int n]->ag K H a (ms.map V.int)->ms.length<=1000->0<=n->n<=1000->(∀(l:Addr)(H':Hp),ae H H'->H l=none->H' l=some (.lst ((M5.key ms n.toNat).map V.int))->Q (.ref l) H')->MO K vs H Q E
theorem kx(ns:List Int):dG (ns.map V.int) []=decide (ns=[]):=by cases ns <;> rfl
theorem jo(F:aN K "_law_key" "_law_key" GH f fd)(T:Txt K mg):av P w K mg base aQ 1 f fd GI (MO K):=by
 refine F.ok GJ (λvs H Q E h=>?_) (λaE A outer s H vs Q E hr h=>?_)
 ·obtain⟨a,ms,n,rfl,_⟩:=h;rfl
 ·obtain⟨a,ms,n,rfl,hS,hz,n0,n1,q⟩:=h;refine⟨_,(zd (zr (i:=2) GJ.nd rfl (Or.inl rfl) (zz zb))
   (zd (yB PassesOwn.never rfl (xB rfl T.aK (za zg (za (zo zR (pv 1) zg) zb))) (zN (i:=3) GJ.nd rfl (Or.inr rfl))
     (zd (yK (i:=4) (show ak (zf GH) RK "_law_mark" ["_law_number"] [3] _ from cm) rfl GJ.nd rfl (Or.inl rfl) (zx (pv 0)) (λ_ _ _ _ _=>(yL (zl sO (pv 0) (pv 1) (zn _)))) (λ_ _ _ _ _=>(pv 0)))
   (zd (jN (zv (PW.pt (sJ (zl (Kb hr.aS) (pv 2) (zz zb) (zn _)) (sI (zl uZ (zo rJ zg (zT T.aq (pv 4))) (zT T.aq (pv 0)) (zn _))))) (ze (zI (wP PySem.F.plainAttrs_list PySem.F.slot_list_append PySem.F.type_list_append yO (pv 2) (za (pv 3) zb)))) zp))
   (ze (jN (zv (zl (wz hr.aS) (pv 2) (zz zb) (zn _)) (zd (zI (wP PySem.F.plainAttrs_list PySem.F.slot_list_append PySem.F.type_list_append yO (pv 2) (za (xH xK (zT T.aq (pv 4))) zb)))
   (ze (zI (wP PySem.F.plainAttrs_list PySem.F.slot_list_append PySem.F.type_list_append yO (pv 2) (za (zD (Dp rfl) (by rfl) T.ij boot_sum (za (pv 4) zb)) zb))))) zp))))))
   (ze (zk (pv 2))))),?_⟩
  have cj:=zt;refine⟨by decide,λp0 gO=>?_⟩;refine⟨_,rfl,_,_,rfl,rfl,_,_,rfl,⟨by decide,by decide,by omega,by omega⟩,?_⟩;refine yj (λi σ H2=>∃(v3 v4:Option V),σ=[some (.ref a),some (.int n),some (.ref p0),v3,v4]/\ae H H2/\H2 p0=some (.lst ((M5.key ms i).map V.int))) ⟨_,_,rfl,ae.new gO,zc⟩ ?_ ?_
  ·rintro i σ H2 hi ⟨v3,v4,rfl,s2,e2⟩;have hi:i<1000:=by omega
   have jW:=M5.kb ms i;have DB:=s2.seq hS;refine⟨_,rfl,a,rfl,⟨_,DB⟩,?_⟩;refine Gg (ms:=ms) (n:=1+(i:Int)) DB (by omega) (λx R h=>⟨_,rfl,_,rfl,_,_,rfl,rfl,_,rfl,h⟩) (λx R h=>⟨_,rfl,h⟩) ?_;intro l3 c8;have en:(1:Int)+(i:Int)=(i:Int)+1:=by omega
   rw[en];have W3:(M3.got ms ((i:Int)+1)).length<=ms.length:=M3.uf ms _;have kM:M5.key ms (i+1)=(λa:List Int=>if a=[] then [] else a++[-((M3.got ms ((i:Int)+1)).length:Int),(M3.got ms ((i:Int)+1)).sum]) (if M5.key ms i=[]/\ms.length<2*(M3.got ms ((i:Int)+1)).length then [(i:Int)+1] else M5.key ms i):=rfl;generalize M3.got ms ((i:Int)+1)=g at W3 kM ⊢;generalize M5.key ms i=ks at jW kM e2 ⊢;generalize gN:upd H2 l3 _=H3;have s3:ae H H3:=by rw[<-gN];exact s2.ar c8
   have MP:p0≠l3:=zj e2 c8;have e3:H3 p0=some (.lst (ks.map V.int)):=by rw[<-gN,zh MP];exact e2
   have t3:H3 l3=some (.lst (g.map V.int)):=by rw[<-gN];exact zc
   have f3:H l3=none:=s2.free c8;refine⟨λσ' H'=>σ'=[some (.ref a),some (.int n),some (.ref p0),some (.int ((i:Int)+1)),some (.ref l3)]/\ae H H'/\H' l3=some (.lst (g.map V.int))/\H' p0=some (.lst ((if ks=[]/\ms.length<2*g.length then [(i:Int)+1] else ks).map V.int)),?_,?_⟩
   ·refine⟨_,rfl,by decide,λp4 dZ=>?_⟩;have s4:=s3.ar (o:=.lst []) dZ;have r0:p0≠p4:=zj e3 dZ;have my:l3≠p4:=zj t3 dZ;refine⟨p0,p4,_,_,rfl,rfl,ag.of (by rw[zh r0];exact e3),ag.new,zy _,rfl,_,rfl,?_⟩;rw[kx];refine yr (λhk=>?_) (λhk=>yY ⟨rfl,s4,by rw[zh my];exact t3,by rw[zh r0,if_neg (λz=>hk z.1)];exact e3⟩);refine⟨_,rfl,l3,_,rfl,.inl (ag.of (by rw[zh my];exact t3)),_,_,rfl,rfl,.inl ⟨by decide,by decide⟩,_,rfl,a,_,rfl,.inl (s4.seq hS),_,_,rfl,rfl,_,rfl,?_⟩;rw[length_map,length_map];refine yr (λh2=>?_) (λh2=>⟨rfl,s4,by rw[zh my];exact t3,by rw[zh r0,if_neg (λz=>h2 (by omega))];exact e3⟩);refine⟨_,rfl,.inl ⟨rfl,_,ag.of (by rw[zh r0];exact e3)⟩,_,rfl,p0,_,_,rfl,rfl,(by rw[zh r0];exact e3),(by rw[length_map];omega),?_⟩;refine⟨rfl,s4.put gO,by rw[zh (Ne.symm MP),zh my];exact t3,?_⟩;rw[jL,if_pos ⟨hk,by omega⟩,hk];rfl
   rintro σ' H5 ⟨rfl,s5,t5,e5⟩;have W4:(if ks=[]/\ms.length<2*g.length then [(i:Int)+1] else ks).length<=1+2*i:=by
    split
    ·rw[length_cons,length_nil];omega
    ·exact jW
   generalize (if ks=[]/\ms.length<2*g.length then [(i:Int)+1] else ks)=as at e5 kM W4;refine⟨λσ' H'=>σ'=[some (.ref a),some (.int n),some (.ref p0),some (.int ((i:Int)+1)),some (.ref l3)]/\ae H H'/\H' p0=some (.lst ((if as=[] then [] else as++[-(g.length:Int),g.sum]).map V.int)),?_,?_⟩
   ·refine⟨_,rfl,by decide,λp4 dZ=>?_⟩;have s4:=s5.ar (o:=.lst []) dZ;have r0:p0≠p4:=zj e5 dZ;have my:l3≠p4:=zj t5 dZ;refine⟨p0,p4,_,_,rfl,rfl,ag.of (by rw[zh r0];exact e5),ag.new,zy _,rfl,_,rfl,?_⟩;rw[kx];refine yi (λhk=>?_) (λhk=>⟨rfl,s4,by rw[zh r0,if_pos hk];rw[hk]at e5;exact e5⟩);refine⟨_,rfl,.inl ⟨rfl,_,ag.of (by rw[zh r0];exact e5)⟩,_,rfl,l3,_,rfl,.inl (ag.of (by rw[zh my];exact t5)),_,rfl,p0,_,_,rfl,rfl,(by rw[zh r0];exact e5),(by rw[length_map];omega),?_⟩;rw[length_map];refine⟨_,rfl,.inl ⟨rfl,_,ag.of zc⟩,_,rfl,l3,g,rfl,ag.of (by rw[zh (Ne.symm MP),zh my];exact t5),p0,_,_,rfl,rfl,zc,(by rw[length_append,length_map,length_cons,length_nil];omega),?_⟩;refine⟨rfl,(s4.put gO).put gO,?_⟩;rw[zc,if_neg hk,map_append,append_assoc];rfl
   rintro σ' H6 ⟨rfl,s6,e6⟩;exact⟨_,_,rfl,s6,by rw[kM];exact e6⟩
  ·rintro σ H2 ⟨v3,v4,rfl,s2,e2⟩;have e:(n+1-1).toNat=n.toNat:=by omega
   rw[e]at e2;exact⟨_,rfl,q p0 _ s2 gO e2⟩
inductive HR (K:Frag) (vs:List V) (H:Hp) (Q:VK) (E:XK):Prop
 | mk (a b:Addr) (ps us:List Int):vs=[.ref a,.ref b]->ag K H a (ps.map V.int)->ag K H b (us.map V.int)->ps.length=us.length->us.length<=500->(∀(l:Addr)(H':Hp)(ls:List Addr),ae H H'->H l=none->H' l=some (.lst (ls.map V.ref))->All2 (dg K H') ls (M5.rows ps us)->Q (.ref l) H')->HR K vs H Q E
theorem R9{ps us:List Int}{j:Nat}(h1:j<ps.length)(h2:j<us.length):(ps.zip us).take (j+1)=(ps.zip us).take j++[(ps.getD j 0,us.getD j 0)]:=by
 have e:(ps.zip us)[j]? = some (ps.getD j 0,us.getD j 0):=by
  rw[getElem?_eq_getElem (by rw[length_zip];omega),List.getElem_zip,Bq h1,Bq h2]
 rw[take_succ,e];rfl
theorem W5(F:aN K "_law_rows" "_law_rows" LO f fd)(T:Txt K mg):av P w K mg base aQ 1 f fd Ed (HR K):=by
 refine F.ok GK (λvs H Q E h=>?_) (λaE A outer s H vs Q E hr h=>?_)
 ·obtain⟨a,b,ps,us,rfl,_⟩:=h;rfl
 ·obtain⟨a,b,ps,us,rfl,hA,hB,hl,hz,q⟩:=h;refine⟨_,(zd (zr (i:=2) GK.nd rfl (Or.inl rfl) (zz zb))
   (zd (yB PassesOwn.never rfl (xB rfl T.aK (za zg (za (zo zR (zT T.aq (pv 1)) zg) zb))) (zN (i:=3) GK.nd rfl (Or.inl rfl))
     (ze (yB PassesOwn.never rfl (yy rfl T.aK (za (zT T.aq (pv 1)) zb)) (zN (i:=4) GK.nd rfl (Or.inl rfl))
     (ze (zv (zl wl (zu zq (pv 0) (pv 4) (λ_ _=>rfl)) (pv 3) (zn _)) (ze (zI (wP PySem.F.plainAttrs_list PySem.F.slot_list_append PySem.F.type_list_append yO (pv 2) (za (og (za (pv 3) (za (zu zq (pv 1) (pv 4) (λ_ _=>rfl)) zb))) zb)))) zp)))))
   (ze (zk (pv 2))))),?_⟩
  have cj:=zt;let F:=fun(i:Nat)=>(ps.zip us).filter λp=>decide (p.1=(i:Int)+1);have hF:∀i,(F i).length<=us.length:=λi=>by
   have:=length_filter_le (λp=>decide (p.1=(i:Int)+1)) (ps.zip us);rw[length_zip]at this;show(filter _ _).length<=_;omega
  have hR:∀i,((List.range i).flatMap F).length<=i*us.length:=λi=>by
   induction i with
   | zero=>simp
   | succ i ih =>
     rw[range_succ,flatMap_append,length_append];have e:flatMap F [i]=F i:=by simp
     rw[e,Nat.succ_mul];have:=hF i;omega
  refine⟨by decide,λp0 gO=>?_⟩;refine⟨_,rfl,b,_,rfl,.inl ((ae.new gO).seq hB),_,_,rfl,rfl,_,_,rfl,⟨by decide,by decide,by rw[length_map];omega,by rw[length_map];omega⟩,?_⟩;refine yj (λi σ H2=>∃(v3 v4:Option V)(ls:List Addr),σ=[some (.ref a),some (.ref b),some (.ref p0),v3,v4]/\ae H H2/\H2 p0=some (.lst (ls.map V.ref))/\All2 (dg K H2) ls ((List.range i).flatMap F)) ⟨_,_,[],rfl,ae.new gO,zc,.nil⟩ ?_ ?_
  ·rintro i σ H2 hi ⟨v3,v4,ls,rfl,s2,e2,r2⟩;have hi:i<us.length:=by rw[length_map]at hi;omega
   have Qu:=hR i;have hmul:i*us.length<=500*500:=mul_le_mul (by omega) hz;refine⟨_,rfl,b,_,rfl,.inl (s2.seq hB),_,rfl,by omega,by rw[length_map];omega,?_⟩;refine yj (λj σ H3=>∃(v4:Option V)(ls:List Addr),σ=[some (.ref a),some (.ref b),some (.ref p0),some (.int (1+(i:Int))),v4]/\ae H H3/\H3 p0=some (.lst (ls.map V.ref))/\All2 (dg K H3) ls ((List.range i).flatMap F++(((ps.zip us).take j).filter λp=>decide (p.1=(i:Int)+1)))) ⟨_,ls,rfl,s2,e2,by rw[List.take_zero,filter_nil,append_nil];exact r2⟩ ?_ ?_
   ·rintro j σ H3 hj ⟨v4,ls,rfl,s3,e3,r3⟩;have hj:j<us.length:=by rw[length_map]at hj;omega
    have BJ:j<ps.length:=by omega
    have e1:cH (ps.map V.int) (0+(j:Int))=some (.int (ps.getD j 0)):=by rw[Int.zero_add];exact zC (mS BJ)
    have e4:cH (us.map V.int) (0+(j:Int))=some (.int (us.getD j 0)):=by rw[Int.zero_add];exact zC (mS hj)
    have hlen:=r3.length;rw[length_append]at hlen;have eG:=length_filter_le (λp=>decide (p.1=(i:Int)+1)) ((ps.zip us).take j);rw[length_take]at eG;refine⟨_,rfl,_,rfl,a,_,_,_,rfl,rfl,s3.seq hA,e1,_,rfl,rfl,_,rfl,yr (λh=>?_) (λh=>?_)⟩
    ·have h:ps.getD j 0=(i:Int)+1:=by injection h with h;omega
     refine⟨_,rfl,.inl ⟨rfl,_,ag.of e3⟩,_,rfl,_,rfl,_,rfl,b,_,_,_,rfl,rfl,s3.seq hB,e4,(by show 2<=sizeLine;decide),λp5 jq=>?_⟩;have MQ:p0≠p5:=zj e3 jq;refine⟨p0,_,_,rfl,rfl,(by rw[zh MQ];exact e3),(by rw[length_map];omega),?_⟩;refine⟨_,ls++[p5],rfl,(s3.ar jq).put gO,Lf ls p5,?_⟩;rw[R9 BJ hj,filter_append,filter_cons_of_pos (by simpa using h),filter_nil,<-append_assoc];refine All2.snoc (dg.put (r3.imp λ_ _=>dg.stays K _ _ _ _ (ae.new jq)) (by rw[zh MQ];exact e3)) ?_;refine bN.put (ys:=ls.map V.ref) ?_ (by rw[zh MQ];exact e3);show bN K _ p5 [.int (ps.getD j 0),.int (us.getD j 0)];rw[h,Int.add_comm];exact bN.new
    ·have h:¬ps.getD j 0=(i:Int)+1:=λz=>h (by rw[z,Int.add_comm]);refine⟨_,ls,rfl,s3,e3,?_⟩;rw[R9 BJ hj,filter_append,filter_cons_of_neg (by simpa using h),filter_nil,append_nil];exact r3
   ·rintro σ H3 ⟨v4,ls,rfl,s3,e3,r3⟩;refine⟨_,_,ls,rfl,s3,e3,?_⟩;rw[range_succ,flatMap_append];have e:flatMap F [i]=F i:=by simp
    have et:(ps.zip us).take ((us.map V.int).length:Int).toNat=ps.zip us:=take_of_length_le (by rw[length_zip,length_map];omega);rw[et]at r3;rw[e];exact r3
  ·rintro σ H2 ⟨v3,v4,ls,rfl,s2,e2,r2⟩;have e:(((us.map V.int).length:Int)+1-1).toNat=us.length:=by rw[length_map];omega
   rw[e]at r2;exact⟨_,rfl,q p0 _ ls s2 gO e2 r2⟩
inductive MR (K:Frag) (vs:List V) (H:Hp) (Q:VK) (E:XK):Prop
 | mk (a b:Addr) (ms us:List Int) (n:Nat):vs=[.ref a,.ref b,.int n]->ag K H a (ms.map V.int)->ag K H b (us.map V.int)->ms.length=us.length->ms.length<=1000->n<=1000->((M6.wb ms us n none->∀H',ae H H'->Q .bo H'))->((∀r,M6.wb ms us n (some r)->∀(l:Addr)(H':Hp),ae H H'->bN K H' l [.int (r.1:Nat),.str r.2]->Q (.ref l) H'))->MR K vs H Q E
theorem W6(F:aN K "_law_part" "_law_part" Ee f fd)(T:Txt K mg):av P w K mg base aQ 1 f fd GL (MR K):=by
 refine F.ok GN (λvs H Q E h=>?_) (λaE A outer s H vs Q E hr h=>?_)
 ·obtain⟨a,b,ms,us,n,rfl,_⟩:=h;rfl
 ·obtain⟨a,b,ms,us,n,rfl,hA,hB,hl,hz,hn,qn,qs⟩:=h;refine⟨_,(zd (yB PassesOwn.never rfl (xB rfl T.aK (za zg (za (zo zR (pv 2) zg) zb))) (zN (i:=3) GN.nd rfl (Or.inr rfl))
   (zd (yK (i:=4) (show ak (zf Ee) LP "_law_mark" ["_law_number"] [3] _ from cm) rfl GN.nd rfl (Or.inl rfl) (zx (pv 0)) (λ_ _ _ _ _=>(yL (zl sO (pv 0) (pv 1) (zn _)))) (λ_ _ _ _ _=>(pv 0)))
   (zd (yK (i:=5) (show ak (zf Ee) LP "_law_mark" ["_law_number"] [3] _ from cm) rfl GN.nd rfl (Or.inl rfl) (zx (pv 1)) (λ_ _ _ _ _=>(yL (zl sO (pv 0) (pv 1) (zn _)))) (λ_ _ _ _ _=>(pv 0)))
   (zd (jN (zv (zl yQ (u4 uZ (zo rJ zg (zT T.aq (pv 4))) (zT T.aq (pv 0)) (zn _)) (u4 uZ (zo rJ zg (zT T.aq (pv 5))) (zT T.aq (pv 0)) (zn _)) (zn _)) (ze (zk (og (za (pv 3) (za ye zb))))) zp))
   (zd (jN (zv (PW.pt (sJ (zl uZ (zo rJ zg (zT T.aq (pv 4))) (zT T.aq (pv 0)) (zn _)) (sI (zl yQ (zT T.aq (pv 4)) (zT T.aq (pv 5)) (zn _))))) (ze (zk (og (za (pv 3) (za ye zb))))) zp))
   (ze (zv (PW.pt (sJ (zl uZ (zo rJ zg (zT T.aq (pv 4))) (zT T.aq (pv 0)) (zn _)) (sI (zl yQ (zD (Dp rfl) (by rfl) T.ij boot_sum (za (pv 4) zb)) (zD (Dp rfl) (by rfl) T.ij boot_sum (za (pv 5) zb)) (zn _))))) (ze (zk (og (za (pv 3) (za ye zb))))) zp)))))))
   (ze (zk Bg))),?_⟩
  have cj:=zt;refine⟨_,rfl,_,_,rfl,rfl,_,_,rfl,⟨by decide,by decide,by omega,by omega⟩,?_⟩;refine yj (λi σ H2=>∃(v3 v4 v5:Option V),σ=[some (.ref a),some (.ref b),some (.int n),v3,v4,v5]/\ae H H2/\∀j:Nat,1<=j->j<=i->M6.sg ms j=M6.sg us j) ⟨_,_,_,rfl,ae.refl _,λj h1 h2=>by omega⟩ ?_ ?_
  ·rintro i σ H2 hi ⟨v3,v4,v5,rfl,s2,hj⟩;have hi:i<n:=by omega
   refine⟨_,rfl,a,rfl,⟨_,s2.seq hA⟩,?_⟩;refine Gg (ms:=ms) (n:=1+(i:Int)) (s2.seq hA) (by omega) (λx R h=>⟨_,rfl,_,rfl,_,_,rfl,rfl,_,rfl,h⟩) (λx R h=>⟨_,rfl,h⟩) ?_;intro l3 c8;have s3:=s2.ar (o:=.lst ((M3.got ms (1+(i:Int))).map V.int)) c8;refine⟨_,rfl,b,rfl,⟨_,s3.seq hB⟩,?_⟩;refine Gg (ms:=us) (n:=1+(i:Int)) (s3.seq hB) (by omega) (λx R h=>⟨_,rfl,_,rfl,_,_,rfl,rfl,_,rfl,h⟩) (λx R h=>⟨_,rfl,h⟩) ?_;intro l4 ng;have en:(1:Int)+(i:Int)=((i+1:Nat):Int):=by omega
   have my:l3≠l4:=zj zc ng;generalize uE:upd (upd H2 l3 _) l4 _=H4;have s4:ae H H4:=by rw[<-uE];exact s3.ar ng
   have t3:H4 l3=some (.lst ((M3.got ms (1+(i:Int))).map V.int)):=by rw[<-uE,zh my];exact zc
   have t4:H4 l4=some (.lst ((M3.got us (1+(i:Int))).map V.int)):=by rw[<-uE];exact zc
   rw[en]at t3 t4 ⊢;have c3:(M3.got ms ((i+1:Nat):Int)).length=M3.cnt ms ((i+1:Nat):Int):=rfl;have c4:(M3.got us ((i+1:Nat):Int)).length=M3.cnt us ((i+1:Nat):Int):=rfl;have m3:(M3.got ms ((i+1:Nat):Int)).sum=M3.sm ms ((i+1:Nat):Int):=rfl;have m4:(M3.got us ((i+1:Nat):Int)).sum=M3.sm us ((i+1:Nat):Int):=rfl;have told:∀(w:Str),M6.sg ms ((i+1:Nat):Int)≠M6.sg us ((i+1:Nat):Int)->w=M6.word (M6.sg ms ((i+1:Nat):Int)) (M6.sg us ((i+1:Nat):Int))->∀(H5:Hp),ae H H5->∀p,H5 p=none->Q (.ref p) (upd H5 p (.tup [.int ((i+1:Nat):Int),.str w])):=λw aO hw H5 s5 p hp =>
    qs (i+1,w) ⟨Nat.succ_le_succ (zero_le _),hi,λj h1 h2=>hj j h1 (Nat.le_of_lt_succ h2),aO,hw⟩ p _ (s5.ar hp) bN.new
   generalize hk:((i+1:Nat):Int)=k at *;have q3:=ag.of (K:=K) t3;have q4:=ag.of (K:=K) t4;have g1:(M3.got ms k).length=M3.cnt ms k:=rfl;have g2:(M3.got us k).length=M3.cnt us k:=rfl;refine⟨λσ' H'=>σ'=[some (.ref a),some (.ref b),some (.int n),some (.int k),some (.ref l3),some (.ref l4)]/\H'=H4/\(us.length<2*M3.cnt us k↔ms.length<2*M3.cnt ms k),?_,?_⟩
   ·refine⟨_,rfl,l3,_,rfl,.inl q3,_,_,rfl,rfl,.inl ⟨by decide,by decide⟩,_,rfl,a,_,rfl,.inl (s4.seq hA),_,_,rfl,rfl,_,rfl,l4,_,rfl,.inl q4,_,_,rfl,rfl,.inl ⟨by decide,by decide⟩,_,rfl,a,_,rfl,.inl (s4.seq hA),_,_,rfl,rfl,rfl,_,rfl,?_⟩;rw[length_map,length_map,length_map,g1,g2];refine yi (λaO=>?_) (λhe=>?_)
    ·have ik:¬(ms.length<2*M3.cnt ms k↔us.length<2*M3.cnt us k):=λz=>aO (by
      show V.bl (decide ((ms.length:Int)<2*(M3.cnt ms k:Int)))=V.bl (decide ((ms.length:Int)<2*(M3.cnt us k:Int)));rw[decide_eq_decide.mpr (show(ms.length:Int)<2*(M3.cnt ms k:Int)↔(ms.length:Int)<2*(M3.cnt us k:Int)by omega)])
     refine⟨_,rfl,(by show 2<=sizeLine;decide),told "half" (λz=>ik ?_) ?_ H4 s4⟩
     ·by_cases c1:ms.length<2*M3.cnt ms k
      ·by_cases c2:us.length<2*M3.cnt us k
       ·exact⟨λ_=>c2,λ_=>c1⟩
       ·rw[M6.wf c1,M6.vQ (by omega)]at z;cases z
      ·by_cases c2:us.length<2*M3.cnt us k
       ·rw[M6.vQ (by omega),M6.wf c2]at z;cases z
       ·exact⟨λz=>absurd z c1,λz=>absurd z c2⟩
     ·by_cases c1:ms.length<2*M3.cnt ms k
      ·by_cases c2:us.length<2*M3.cnt us k
       ·exact absurd ⟨λ_=>c2,λ_=>c1⟩ ik
       ·rw[M6.wf c1,M6.vQ (by omega)];rfl
      ·rw[M6.vQ (show 2*M3.cnt ms k<=ms.length by omega)];rfl
    ·refine⟨rfl,rfl,?_⟩;injection he with he
     have:=decide_eq_decide.mp he;omega
   rintro σ' H' ⟨rfl,rfl,uo⟩;refine⟨λσ' MS=>σ'=[some (.ref a),some (.ref b),some (.int n),some (.int k),some (.ref l3),some (.ref l4)]/\MS=H'/\(ms.length<2*M3.cnt ms k->M3.cnt ms k=M3.cnt us k),?_,?_⟩
   ·refine⟨_,rfl,l3,_,rfl,.inl q3,_,_,rfl,rfl,.inl ⟨by decide,by decide⟩,_,rfl,a,_,rfl,.inl (s4.seq hA),_,_,rfl,rfl,_,rfl,?_⟩;rw[length_map,length_map,g1];refine yr (λh1=>?_) (λh1=>yY ⟨rfl,rfl,λz=>absurd (show(ms.length:Int)<2*(M3.cnt ms k:Int)by omega) h1⟩);refine⟨_,rfl,l3,_,rfl,.inl q3,_,rfl,l4,_,rfl,.inl q4,rfl,_,rfl,?_⟩;rw[length_map,length_map,g1,g2];refine yi (λaO=>?_) (λhe=>⟨rfl,rfl,λ_=>by injection he with he;omega⟩);have c1:ms.length<2*M3.cnt ms k:=by omega
    have AL:¬M3.cnt ms k=M3.cnt us k:=λz=>aO (by rw[z]);refine⟨_,rfl,(by show 2<=sizeLine;decide),told "count" (λz=>AL ?_) ?_ _ s4⟩
    ·rw[M6.wf c1,M6.wf (uo.mpr c1)]at z;injection z with z
     have:=(Prod.mk.inj z).1;omega
    ·rw[M6.wf c1,M6.wf (uo.mpr c1)];show _=if((M3.cnt ms k:Nat):Int)=(M3.cnt us k:Nat)then _ else _
     rw[if_neg (by omega)]
   rintro σ' MS ⟨rfl,rfl,MT⟩;refine⟨_,rfl,l3,_,rfl,.inl q3,_,_,rfl,rfl,.inl ⟨by decide,by decide⟩,_,rfl,a,_,rfl,.inl (s4.seq hA),_,_,rfl,rfl,_,rfl,?_⟩;rw[length_map,length_map,g1];have same:M6.sg ms k=M6.sg us k->∀j:Nat,1<=j->j<=i+1->M6.sg ms j=M6.sg us j:=λe j h1 h2=>by
    by_cases c:j<=i
    ·exact hj j h1 c
    ·have:j=i+1:=by omega
     subst this;rw[hk];exact e
   refine yr (λh1=>?_) (λh1=>yY ⟨_,_,_,rfl,s4,same ?_⟩)
   ·have c1:ms.length<2*M3.cnt ms k:=by omega
    refine⟨_,rfl,l3,_,rfl,q3,_,rfl,l4,_,rfl,q4,rfl,_,rfl,yi (λaO=>?_) (λhe=>⟨_,_,_,rfl,s4,same ?_⟩)⟩
    ·have AL:¬M3.sm ms k=M3.sm us k:=λz=>aO (by show V.int (M3.sm ms k)=V.int (M3.sm us k);rw[z]);refine⟨_,rfl,(by show 2<=sizeLine;decide),told "sum" (λz=>AL ?_) ?_ _ s4⟩
     ·rw[M6.wf c1,M6.wf (uo.mpr c1)]at z;injection z with z
      exact(Prod.mk.inj z).2
     ·rw[M6.wf c1,M6.wf (uo.mpr c1)];show _=if((M3.cnt ms k:Nat):Int)=(M3.cnt us k:Nat)then _ else _
      rw[if_pos (by rw[MT c1])]
    ·injection he with he
     have he:M3.sm ms k=M3.sm us k:=he;rw[M6.wf c1,M6.wf (uo.mpr c1),MT c1,he]
   ·rw[M6.vQ (by omega),M6.vQ (by omega)]
  ·rintro σ H2 ⟨v3,v4,v5,rfl,s2,hj⟩;have e:((n:Int)+1-1).toNat=n:=by omega
   rw[e]at hj;exact qn (λk h1 h2=>hj k h1 h2) _ s2
inductive MU (K:Frag) (vs:List V) (H:Hp) (Q:VK) (E:XK):Prop
 | mk (a b:Addr) (ns ms:List Int):vs=[.ref a,.ref b]->ag K H a (ns.map V.int)->ag K H b (ms.map V.int)->ms.Nodup->Q (.bl (decide (ns.Perm ms))) H->MU K vs H Q E
theorem mE(hn:ms.Nodup)(h:∀x∈ms,ns.count x=1)(hl:ns.length=ms.length):ns.Perm ms :=
 (M1.QU hn (λx hx=>List.count_pos_iff.mp (by rw[h x hx];decide)) (le_of_eq hl)).symm
theorem W7(hn:ms.Nodup)(h:ns.Perm ms){x:Int}(hx:x∈ms):ns.count x=1:=by
 rw[h.count_eq];exact M1.lN hn hx
theorem W8(F:aN K "_law_good" "_law_good" LR f fd)(T:Txt K mg):av P w K mg base aQ 1 f fd GO (MU K):=by
 refine F.ok RL (λvs H Q E h=>?_) (λaE A outer s H vs Q E hr h=>?_)
 ·obtain⟨a,b,ns,ms,rfl,_⟩:=h;rfl
 ·obtain⟨a,b,ns,ms,rfl,hA,hB,hn,q⟩:=h;refine⟨_,(zd (yB PassesOwn.never rfl (zx (pv 1)) (zN (i:=2) RL.nd rfl (Or.inl rfl))
   (ze (zv (zl yQ (wP PySem.F.plainAttrs_list PySem.F.slot_list_count PySem.F.type_list_count oO (pv 0) (za (pv 2) zb)) zg (zn _)) (ze (zk yf)) zp)))
   (ze (zk (u4 wl (zT T.aq (pv 0)) (zT T.aq (pv 1)) (zn _))))),?_⟩
  refine⟨_,rfl,b,rfl,⟨_,hB⟩,uX (K:=K) (a:=b) (xs:=ms.map V.int) (λi σ H3=>∃(v2:Option V),σ=[some (.ref a),some (.ref b),v2]/\H3=H/\∀x∈ms.take i,ns.count x=1)
   ⟨_,rfl,rfl,λx hx=>by simp at hx⟩ (λi σ H3 _ ⟨_,_,e,_⟩=>by rw[e];exact hB) ?_ ?_⟩
  ·rintro i x σ H3 hx ⟨v2,rfl,rfl,hc⟩;obtain⟨hi,rfl⟩:=yD hx;refine⟨_,rfl,.inl ⟨rfl,_,hA⟩,_,rfl,a,_,_,rfl,rfl,hA,rfl,zy _,?_⟩;rw[Uv];refine⟨rfl,_,rfl,yi (λaO=>?_) (λhe=>?_)⟩
   ·show Q (.bl false) _;have:¬ns.Perm ms:=λp=>aO (by rw[W7 hn p (oU hi)];rfl);rw[decide_eq_false this]at q;exact q
   ·refine⟨_,rfl,rfl,λx hx=>?_⟩;rw[y6 hi]at hx;rcases List.mem_append.mp hx with h | h
    ·exact hc x h
    ·rw[List.mem_singleton.mp h];injection he with he
     exact Int.ofNat.inj he
  ·rintro σ H3 ⟨v2,rfl,rfl,hc⟩;rw[length_map,take_length]at hc;refine⟨_,rfl,a,_,rfl,.inl hA,_,rfl,b,_,rfl,.inl hB,rfl,?_⟩;rw[length_map,length_map];have e:decide (V.int (ns.length:Int)=V.int (ms.length:Int))=decide (ns.Perm ms):=by
    by_cases h:ns.Perm ms
    ·rw[decide_eq_true h,h.length_eq];exact decide_eq_true rfl
    ·rw[decide_eq_false h];refine decide_eq_false λz=>h (mE hn hc ?_);injection z with z
     exact Int.ofNat.inj z
   rw[e];exact q
inductive MV (K:Frag) (vs:List V) (H:Hp) (Q:VK) (E:XK):Prop
 | mk (a:Addr) (ns:List Int) (c:Int):vs=[.ref a,.int c]->ag K H a (ns.map V.int)->ns≠[]->ns.length<=30->(∀(l:Addr)(H':Hp)(ms:List Int),ae H H'->H l=none->H' l=some (.lst (ms.map V.int))->ms.length<=31->Q (.ref l) H')->MV K vs H Q E
theorem W9(F:aN K "_law_spoiled" "_law_spoiled" LS f fd)(T:Txt K mg):av P w K mg base aQ 1 f fd GP (MV K):=by
 refine F.ok GQ (λvs H Q E h=>?_) (λaE A outer s H vs Q E hr h=>?_)
 ·obtain⟨a,ns,c,rfl,_⟩:=h;rfl
 ·obtain⟨a,ns,c,rfl,hA,aO,hz,q⟩:=h;refine⟨_,(zd (zr (i:=2) GQ.nd rfl (Or.inl rfl) (zo yc (zo yM (pv 1) zg) (zT T.aq (pv 0))))
   (zd (zr (i:=3) GQ.nd rfl (Or.inl rfl) (zu zq (pv 0) (zo yc (zo yM (pv 1) zg) (zT T.aq (pv 0))) (λ_ _=>rfl)))
   (zd (zr (i:=4) GQ.nd rfl (Or.inl rfl) (zu zq (zz (za zg (za (xH xK zg) (za zg (za (zo xJ zg zg) (za (zo zR (zu zq (pv 0) (pv 2) (λ_ _=>rfl)) zg) zb)))))) (zo yc (zo yM (pv 1) zg) zg) (λ_ _=>rfl)))
   (zd (zv (zl wl (zo yc (pv 1) zg) zg (zn _)) (ze (zk (zo yg (zG zX (pv 0) yb (zO (pv 2))) (zG zX (pv 0) (zO (zo zR (pv 2) zg)) yb)))) zp)
   (zd (zv (zl wl (zo yc (pv 1) zg) zg (zn _)) (ze (zk (zo yg (zo yg (zG zX (pv 0) yb (zO (pv 2))) (zz (za (pv 3) zb))) (zG zX (pv 0) (zO (zo zR (pv 2) zg)) yb)))) zp)
   (zd (zv (zl wl (zo yc (pv 1) zg) zg (zn _)) (ze (zk (zo yg (zo yg (zG zX (pv 0) yb (zO (pv 2))) (zz (za (pv 3) zb))) (zG zX (pv 0) (zO (pv 2)) yb)))) zp)
   (zd (zv (zl wl (zo yc (pv 1) zg) zg (zn _)) (ze (zk (zo yg (zo yg (zG zX (pv 0) yb (zO (pv 2))) (zz (za (pv 4) zb))) (zG zX (pv 0) (zO (zo zR (pv 2) zg)) yb)))) zp)
   (zd (zv (zl wl (zo yc (pv 1) zg) zg (zn _)) (ze (zk (zo yg (zo yg (zG zX (pv 0) yb (zO (pv 2))) (zz (za (pv 4) zb))) (zG zX (pv 0) (zO (pv 2)) yb)))) zp)
   (ze (zk (zz zb))))))))))),?_⟩
  have hl:=zt;have tJ:=List.length_pos_iff.mpr aO;have hL:((ns.map V.int).length:Int)=ns.length:=by rw[length_map]
  refine⟨_,rfl,_,_,rfl,rfl,⟨by decide,by decide⟩,_,rfl,a,_,rfl,.inl hA,?_⟩;rw[hL];refine⟨_,_,rfl,rfl,(by show(0:Int)<ns.length;omega),?_⟩;dsimp only;have h0:=Int.emod_nonneg (c/6) (b:=(ns.length:Int)) (by omega);have h1:=Int.emod_lt_of_pos (c/6) (b:=(ns.length:Int)) (by omega);generalize c/6%(ns.length:Int)=sp at h0 h1 ⊢;have g0:=Int.emod_nonneg (c/144) (b:=(ns.length:Int)) (by omega);have g1:=Int.emod_lt_of_pos (c/144) (b:=(ns.length:Int)) (by omega);refine⟨_,rfl,_,rfl,_,_,rfl,rfl,⟨by decide,by decide⟩,_,rfl,a,_,rfl,.inl hA,?_⟩;rw[hL];refine⟨_,_,rfl,rfl,(by show(0:Int)<ns.length;omega),a,_,_,_,rfl,rfl,hA,tw g0 g1,?_⟩;generalize ns.getD (c/144%(ns.length:Int)).toNat 0=twin;refine⟨_,rfl,_,_,rfl,rfl,⟨by decide,by decide,by decide⟩,_,rfl,_,rfl,a,_,_,_,rfl,rfl,hA,tw h0 h1,_,_,rfl,rfl,(by show 5<=sizeLine;decide),λp1 eL=>?_⟩;generalize Es:upd H p1 _=H1;have s1:ae H H1:=by rw[<-Es];exact ae.new eL
  have t1:H1 p1=some (.lst ([0,-1,1000,10 ^ (30:Int).toNat,ns.getD sp.toNat 0+1].map V.int)):=by rw[<-Es];exact zc
  have h5:0<=c/3456%5/\c/3456%5<5:=⟨Int.emod_nonneg _ (by decide),Int.emod_lt_of_pos _ (by decide)⟩;refine⟨_,rfl,_,_,rfl,rfl,⟨by decide,by decide⟩,_,_,rfl,rfl,(by show(0:Int)<5;decide),p1,[0,-1,1000,10 ^ (30:Int).toNat,ns.getD sp.toNat 0+1].map V.int,_,_,rfl,rfl,ag.of t1,tw h5.1 (by simpa using h5.2),?_⟩;generalize [0,-1,1000,10 ^ (30:Int).toNat,ns.getD sp.toNat 0+1].getD (c/3456%5).toNat 0=gc;have Et:=s1.seq hA;refine⟨_,rfl,_,_,rfl,rfl,(by show(0:Int)<6;decide),rfl,_,rfl,yr (λ_=>?_) (λ_=>?_)⟩
  ·refine⟨_,rfl,_,rfl,_,rfl,a,_,rfl,Et,λp2 fO=>?_⟩;rw[wN h0];have s2:=s1.ar (o:=.lst ((ns.take sp.toNat).map V.int)) fO;refine⟨_,rfl,_,rfl,_,_,rfl,rfl,_,rfl,a,_,rfl,s2.seq hA,λp3 gy=>?_⟩;rw[wt (by omega)];have s3:=s2.ar (o:=.lst ((ns.drop (sp+1).toNat).map V.int)) gy;have uF:p2≠p3:=zj zc gy;refine⟨p2,p3,_,_,rfl,rfl,by rw[zh uF];exact zc,zc,by simp only[length_map,length_take,length_drop];omega,λp4 dZ=>?_⟩;rw[<-map_append];exact q p4 _ _ (s3.ar dZ) (s3.free dZ) zc (by simp only[length_append,length_take,length_drop];omega)
  refine⟨_,rfl,_,_,rfl,rfl,(by show(0:Int)<6;decide),rfl,_,rfl,yr (λ_=>?_) (λ_=>?_)⟩
  ·refine⟨_,rfl,_,rfl,_,rfl,a,_,rfl,Et,λp2 fO=>?_⟩;rw[wN h0];have s2:=s1.ar (o:=.lst ((ns.take sp.toNat).map V.int)) fO;refine⟨_,rfl,(by show 1<=sizeLine;decide),λp3 gy=>?_⟩;have s3:=s2.ar (o:=.lst ([twin].map V.int)) gy;have uF:p2≠p3:=zj zc gy;refine⟨p2,p3,_,[twin].map V.int,rfl,rfl,by rw[zh uF];exact zc,zc,by simp only[length_map,length_take,length_cons,length_nil];omega,λp4 dZ=>?_⟩;rw[<-map_append];have s4:=s3.ar (o:=.lst ((ns.take sp.toNat++[twin]).map V.int)) dZ;refine⟨_,rfl,_,rfl,_,_,rfl,rfl,_,rfl,a,_,rfl,s4.seq hA,λp5 jq=>?_⟩;rw[wt (by omega)];have s5:=s4.ar (o:=.lst ((ns.drop (sp+1).toNat).map V.int)) jq;have sd:p4≠p5:=zj zc jq;refine⟨p4,p5,_,_,rfl,rfl,by rw[zh sd];exact zc,zc,by simp only[length_map,length_append,length_take,length_drop,length_cons,length_nil];omega,λp6 mF=>?_⟩;rw[<-map_append];exact q p6 _ _ (s5.ar mF) (s5.free mF) zc (by simp only[length_append,length_take,length_drop,length_cons,length_nil];omega)
  refine⟨_,rfl,_,_,rfl,rfl,(by show(0:Int)<6;decide),rfl,_,rfl,yr (λ_=>?_) (λ_=>?_)⟩
  ·refine⟨_,rfl,_,rfl,_,rfl,a,_,rfl,Et,λp2 fO=>?_⟩;rw[wN h0];have s2:=s1.ar (o:=.lst ((ns.take sp.toNat).map V.int)) fO;refine⟨_,rfl,(by show 1<=sizeLine;decide),λp3 gy=>?_⟩;have s3:=s2.ar (o:=.lst ([twin].map V.int)) gy;have uF:p2≠p3:=zj zc gy;refine⟨p2,p3,_,[twin].map V.int,rfl,rfl,by rw[zh uF];exact zc,zc,by simp only[length_map,length_take,length_cons,length_nil];omega,λp4 dZ=>?_⟩;rw[<-map_append];have s4:=s3.ar (o:=.lst ((ns.take sp.toNat++[twin]).map V.int)) dZ;refine⟨_,rfl,_,rfl,_,rfl,a,_,rfl,s4.seq hA,λp5 jq=>?_⟩;rw[wt (by omega)];have s5:=s4.ar (o:=.lst ((ns.drop sp.toNat).map V.int)) jq;have sd:p4≠p5:=zj zc jq;refine⟨p4,p5,_,_,rfl,rfl,by rw[zh sd];exact zc,zc,by simp only[length_map,length_append,length_take,length_drop,length_cons,length_nil];omega,λp6 mF=>?_⟩;rw[<-map_append];exact q p6 _ _ (s5.ar mF) (s5.free mF) zc (by simp only[length_append,length_take,length_drop,length_cons,length_nil];omega)
  refine⟨_,rfl,_,_,rfl,rfl,(by show(0:Int)<6;decide),rfl,_,rfl,yr (λ_=>?_) (λ_=>?_)⟩
  ·refine⟨_,rfl,_,rfl,_,rfl,a,_,rfl,Et,λp2 fO=>?_⟩;rw[wN h0];have s2:=s1.ar (o:=.lst ((ns.take sp.toNat).map V.int)) fO;refine⟨_,rfl,(by show 1<=sizeLine;decide),λp3 gy=>?_⟩;have s3:=s2.ar (o:=.lst ([gc].map V.int)) gy;have uF:p2≠p3:=zj zc gy;refine⟨p2,p3,_,[gc].map V.int,rfl,rfl,by rw[zh uF];exact zc,zc,by simp only[length_map,length_take,length_cons,length_nil];omega,λp4 dZ=>?_⟩;rw[<-map_append];have s4:=s3.ar (o:=.lst ((ns.take sp.toNat++[gc]).map V.int)) dZ;refine⟨_,rfl,_,rfl,_,_,rfl,rfl,_,rfl,a,_,rfl,s4.seq hA,λp5 jq=>?_⟩;rw[wt (by omega)];have s5:=s4.ar (o:=.lst ((ns.drop (sp+1).toNat).map V.int)) jq;have sd:p4≠p5:=zj zc jq;refine⟨p4,p5,_,_,rfl,rfl,by rw[zh sd];exact zc,zc,by simp only[length_map,length_append,length_take,length_drop,length_cons,length_nil];omega,λp6 mF=>?_⟩;rw[<-map_append];exact q p6 _ _ (s5.ar mF) (s5.free mF) zc (by simp only[length_append,length_take,length_drop,length_cons,length_nil];omega)
  refine⟨_,rfl,_,_,rfl,rfl,(by show(0:Int)<6;decide),rfl,_,rfl,yr (λ_=>?_) (λ_=>?_)⟩
  ·refine⟨_,rfl,_,rfl,_,rfl,a,_,rfl,Et,λp2 fO=>?_⟩;rw[wN h0];have s2:=s1.ar (o:=.lst ((ns.take sp.toNat).map V.int)) fO;refine⟨_,rfl,(by show 1<=sizeLine;decide),λp3 gy=>?_⟩;have s3:=s2.ar (o:=.lst ([gc].map V.int)) gy;have uF:p2≠p3:=zj zc gy;refine⟨p2,p3,_,[gc].map V.int,rfl,rfl,by rw[zh uF];exact zc,zc,by simp only[length_map,length_take,length_cons,length_nil];omega,λp4 dZ=>?_⟩;rw[<-map_append];have s4:=s3.ar (o:=.lst ((ns.take sp.toNat++[gc]).map V.int)) dZ;refine⟨_,rfl,_,rfl,_,rfl,a,_,rfl,s4.seq hA,λp5 jq=>?_⟩;rw[wt (by omega)];have s5:=s4.ar (o:=.lst ((ns.drop sp.toNat).map V.int)) jq;have sd:p4≠p5:=zj zc jq;refine⟨p4,p5,_,_,rfl,rfl,by rw[zh sd];exact zc,zc,by simp only[length_map,length_append,length_take,length_drop,length_cons,length_nil];omega,λp6 mF=>?_⟩;rw[<-map_append];exact q p6 _ _ (s5.ar mF) (s5.free mF) zc (by simp only[length_append,length_take,length_drop,length_cons,length_nil];omega)
  exact⟨(by show 0<=sizeLine;decide),λp2 fO=>q p2 _ [] (s1.ar fO) (s1.free fO) zc (by decide)⟩
inductive MW (K:Frag) (vs:List V) (H:Hp) (Q:VK) (E:XK):Prop
 | mk (a:Addr) (ns:List Int) (c:Int):vs=[.ref a,.int c]->ag K H a (ns.map V.int)->ns.length<=1000->(∀(l:Addr)(H':Hp),ae H H'->H l=none->H' l=some (.lst ((ns.filter λo => !decide (o=c)).map V.int))->Q (.ref l) H')->MW K vs H Q E
theorem Xa(F:aN K "_law_without" "_law_without" GR f fd)(T:Txt K mg):av P w K mg base aQ 1 f fd GS (MW K):=by
 refine F.ok Wi (λvs H Q E h=>?_) (λaE A outer s H vs Q E hr h=>?_)
 ·obtain⟨a,ns,c,rfl,_⟩:=h;rfl
 ·obtain⟨a,ns,c,rfl,hS,hz,q⟩:=h;refine⟨_,(ze (zk (zS (show ak (zf GR) RM "_law_other" ["_law_couple"] [1] _ from cm) rfl (zx (pv 0)) (λ_ _ _ _ _=>(yL (zl yQ (pv 0) (pv 1) (zn _)))) (λ_ _ _ _ _=>(pv 0))))),?_⟩;refine⟨_,rfl,a,rfl,⟨_,hS⟩,?_⟩;refine y9 (xs:=ns.map V.int) (λi ys H2=>H2=H/\ys=((ns.take i).filter λo => !decide (o=c)).map V.int) ⟨rfl,rfl⟩ ?_ (by rw[length_map];have:=zt;omega) ?_ ?_
  ·rintro i ys H2 hi ⟨rfl,rfl⟩;refine⟨hS,?_⟩;rw[length_map];have:=length_filter_le (λo => !decide (o=c)) (ns.take i);rw[length_take]at this;omega
  ·rintro i x ys H2 hx ⟨rfl,rfl⟩;obtain⟨hi,rfl⟩:=yD hx;refine⟨_,rfl,_,rfl,rfl,_,rfl,yi (λh=>?_) (λh=>?_)⟩
   ·have h:¬ns.getD i 0=c:=λz=>h (by rw[z]);refine⟨_,rfl,rfl,?_⟩;rw[y6 hi,filter_append,filter_cons_of_pos (by simpa using h),map_append];rfl
   ·have h:ns.getD i 0=c:=by injection h
    refine⟨rfl,?_⟩;rw[y6 hi,filter_append,filter_cons_of_neg (by simpa using h),filter_nil,append_nil]
  ·rintro ys H2 ⟨rfl,rfl⟩ l hl;rw[length_map,take_length];exact q l _ (ae.new hl) hl zc
inductive MX (K:Frag) (vs:List V) (H:Hp) (Q:VK) (E:XK):Prop
 | mk (a:Addr) (xs:List V) (ws:List Str):vs=[.ref a]->ag K H a xs->All2 dM xs ws->ws.length<=200->((∀w∈ws,w.length<=2000))->(∀H',ae H H'->Q (.str (Txt.join M6.blank ws)) H')->MX K vs H Q E
theorem Xb(F:aN K "_law_words" "_law_words" GU f fd)(T:Txt K mg):av P w K mg base aQ 1 f fd GV (MX K):=by
 refine F.ok Wj (λvs H Q E h=>?_) (λaE A outer s H vs Q E hr h=>?_)
 ·obtain⟨a,xs,ws,rfl,_⟩:=h;rfl
 ·obtain⟨a,xs,ws,rfl,hA,hW,hl,hw,q⟩:=h;refine⟨_,(ze (zk (wP PySem.F.plainAttrs_str PySem.F.slot_str_join PySem.F.type_str_join j3 ye (za (zS (show ak (zf GU) ["_law_things"] "_law_thing" [] [] _ from cm) rfl (zx (pv 0)) (λ_ _ _ _ _=>yN) (λ_ _ _ _ _=>(zK BC (by rfl) T.dY boot_str (za (pv 0) zb)))) zb)))),?_⟩;have cj:=zt;have Xc:=hW.length;refine⟨rfl,_,rfl,a,rfl,⟨_,hA⟩,?_⟩;refine yq (xs:=xs) (λi ys H2=>H2=H/\ys=(ws.take i).map V.str) ⟨rfl,rfl⟩ ?_ (by omega) ?_ ?_
  ·rintro i ys H2 hi ⟨rfl,rfl⟩;exact⟨hA,by rw[length_map,length_take];omega⟩
  ·rintro i x ys H2 hx ⟨rfl,rfl⟩;obtain⟨w,ew,kQ⟩:=hW.getL hx;have e:(ws.take (i+1)).map V.str=(ws.take i).map V.str++[.str w]:=by rw[take_succ,ew,map_append];rfl
   cases kQ with
   | int hb=>exact⟨_,rfl,.inl ⟨_,rfl,vM hb,rfl,e.symm⟩⟩
   | str=>exact⟨_,rfl,.inr ⟨_,rfl,rfl,e.symm⟩⟩
  rintro ys H2 ⟨rfl,rfl⟩ l rZ;rw[Xc,take_length];refine⟨_,l,ws,rfl,rfl,ag.new,by decide +kernel,hl,hw,?_⟩;exact q _ (ae.new rZ)
inductive MY (K:Frag) (vs:List V) (H:Hp) (Q:VK) (E:XK):Prop
 | mk (a:Addr) (ms:List Int) (n:Nat):vs=[.ref a,.int n]->ag K H a (ms.map V.int)->ms.length<=15->((∀x∈ms,1<=x/\x<=24))->n<=24->(∀(l:Addr)(H':Hp),ae H H'->H l=none->H' l=some (.lst ((M6.gM ms n).map V.str))->Q (.ref l) H')->MY K vs H Q E
theorem Xd(F:aN K "_law_ladder" "_law_ladder" GW f fd)(T:Txt K mg):av P w K mg base aQ 1 f fd GX (MY K):=by
 refine F.ok GY (λvs H Q E h=>?_) (λaE A outer s H vs Q E hr h=>?_)
 ·obtain⟨a,ms,n,rfl,_⟩:=h;rfl
 ·obtain⟨a,ms,n,rfl,hA,hz,hx,hn,q⟩:=h;refine⟨_,(zd (zr (i:=2) GY.nd rfl (Or.inl rfl) (zz zb))
   (zd (yB PassesOwn.never rfl (xB rfl T.aK (za zg (za (zo zR (pv 1) zg) zb))) (zN (i:=3) GY.nd rfl (Or.inr rfl))
     (zd (yK (i:=4) (show ak (zf GW) RN "_law_mark" ["_law_number"] [3] _ from cm) rfl GY.nd rfl (Or.inl rfl) (zx (pv 0)) (λ_ _ _ _ _=>(yL (zl sO (pv 0) (pv 1) (zn _)))) (λ_ _ _ _ _=>(pv 0)))
   (ze (zI (wP PySem.F.plainAttrs_list PySem.F.slot_list_append PySem.F.type_list_append yO (pv 2) (za (zo FF (zo FF (zK BC (by rfl) T.dY boot_str (za (zT T.aq (pv 4)) zb)) ye) (zK BC (by rfl) T.dY boot_str (za (zD (Dp rfl) (by rfl) T.ij boot_sum (za (pv 4) zb)) zb))) zb))))))
   (ze (zk (pv 2))))),?_⟩
  have cj:=zt;refine⟨(by show 0<=sizeLine;decide),λl hl=>?_⟩;have s1:=ae.new (o:=.lst []) hl;have e1:upd H l (.lst []) l=some (.lst ((M6.gM ms 0).map V.str)):=zc;generalize Es:upd H l _=H1 at s1 e1 ⊢;refine⟨_,rfl,_,_,rfl,rfl,_,_,rfl,⟨by decide,by decide,by omega,by omega⟩,?_⟩;rw[show((n:Int)+1-1).toNat=n by omega];refine yj (λi σ H2=>∃v w,σ=[some (.ref a),some (.int n),some (.ref l),v,w]/\ae H H2/\H2 l=some (.lst ((M6.gM ms i).map V.str))) ⟨_,_,rfl,s1,e1⟩ ?_ ?_
  ·rintro i σ H2 hi ⟨v,w,rfl,s2,e2⟩;refine⟨_,rfl,a,rfl,⟨_,s2.seq hA⟩,?_⟩;refine Gg (ms:=ms) (n:=1+(i:Int)) (s2.seq hA) (by omega) (λx R h=>⟨_,rfl,_,rfl,_,_,rfl,rfl,_,rfl,h⟩) (λx R h=>⟨_,rfl,h⟩) ?_;intro l3 c8;have s3:=s2.ar (o:=.lst ((M3.got ms (1+(i:Int))).map V.int)) c8;have e3:=(ae.new (o:=.lst ((M3.got ms (1+(i:Int))).map V.int)) c8) _ _ e2;have g3:ag K (upd H2 l3 (.lst ((M3.got ms (1+(i:Int))).map V.int))) l3 ((M3.got ms (1+(i:Int))).map V.int):=ag.new;generalize gN:upd H2 l3 _=H3 at s3 e3 g3 ⊢;have hc:=M3.uf ms (1+(i:Int));have hs:0<=M3.sm ms (1+(i:Int))/\M3.sm ms (1+(i:Int))<=24*ms.length:=M6.Lq hx _;have vV:=M6.Lr hz hx (1+(i:Int));have MZ:(M6.gM ms i).length=i:=by unfold M6.gM;rw[length_map,M6.Gk]
   refine⟨_,rfl,.inl ⟨rfl,_,ag.of e3⟩,_,rfl,l3,_,rfl,.inl g3,.inl ⟨_,rfl,?_,_,_,rfl,rfl,?_,_,rfl,l3,_,rfl,g3,.inl ⟨_,rfl,?_,_,_,rfl,rfl,?_,?_⟩⟩⟩
   ·rw[length_map];exact vM (by show((M3.cnt ms (1+(i:Int)):Nat):Int).natAbs<=100000;omega)
   ·rw[length_map];show(tN ((M3.cnt ms (1+(i:Int)):Nat):Int)).length+M6.sl.length<=sizeLine;rw[M6.Gr];omega
   ·exact vM (by show(M3.sm ms (1+(i:Int))).natAbs<=100000;omega)
   ·rw[length_map];show(tN ((M3.cnt ms (1+(i:Int)):Nat):Int)++M6.sl).length+(tN (M3.sm ms (1+(i:Int)))).length<=sizeLine;rw[we,M6.Gr];omega
   ·rw[length_map];refine⟨l,_,_,rfl,rfl,e3,by rw[length_map,MZ];omega,_,_,rfl,s3.put hl,?_⟩;rw[zc,M6.Rq,map_append,show(i:Int)+1=1+(i:Int)by omega];rfl
  ·rintro σ H2 ⟨v,w,rfl,s2,e2⟩;exact⟨_,rfl,q l H2 s2 hl e2⟩
inductive M0 (K:Frag) (vs:List V) (H:Hp) (Q:VK) (E:XK):Prop
 | mk (a:Addr) (cs:List (List Int)) (w k:Nat):vs=[.ref a,.int w,.int k]->Refs K (IL K) H a cs->w<cs.length->cs.length<=500->0<k->k<(cs.getD w []).length->(cs.getD w []).length<=500->(∀(l:Addr)(H':Hp),ae H H'->H l=none->Refs K (IL K) H' l ((cs.take w++[iC (cs.getD w []) k]++cs.drop (w+1)).filter λd => !decide (d=[]))->Q (.ref l) H')->M0 K vs H Q E
theorem Xe(F:aN K "_law_moved" "_law_moved" GZ f fd)(T:Txt K mg):av P w K mg base aQ 1 f fd G3 (M0 K):=by
 refine F.ok LU (λvs H Q E h=>?_) (λaE A outer s H vs Q E hr h=>?_)
 ·obtain⟨a,cs,w,k,rfl,_⟩:=h;rfl
 ·obtain⟨a,cs,w,k,rfl,⟨ls,hA,rA⟩,hw,hz,k0,hk,hkz,q⟩:=h;refine⟨_,(zd (zr (i:=3) LU.nd rfl (Or.inl rfl) (zu zq (pv 0) (pv 1) (λ_ _=>rfl)))
   (zd (zr (i:=4) LU.nd rfl (Or.inl rfl) (zo yg (zo yg (zG zX (pv 3) yb (zO (zo nT (pv 2) zg))) (zz (za (zu zq (pv 3) (pv 2) (λ_ _=>rfl)) (za (zu zq (pv 3) (zo nT (pv 2) zg) (λ_ _=>rfl)) zb)))) (zG zX (pv 3) (zO (zo zR (pv 2) zg)) yb)))
   (ze (zk (zS (show ak (zf GZ) RO "_law_other" [] [] _ from cm) rfl (zx (zo yg (zo yg (zG zX (pv 0) yb (zO (pv 1))) (zz (za (pv 4) zb))) (zG zX (pv 0) (zO (zo zR (pv 1) zg)) yb))) (λ_ _ _ _ _=>(yL (zl (yF (K:=K) rfl hr.aS) (pv 0) (zz zb) (zn _)))) (λ_ _ _ _ _=>(pv 0))))))),?_⟩
  have cj:=zt;have MZ:=rA.length;obtain⟨m,em,rm⟩:=rA.at (i:=w) hw [];have am:cH (ls.map V.ref) (w:Int)=some (.ref m):=zC (yU em);generalize hd:cs.getD w []=d at *;have rm:ag K H m (d.map V.int):=rm;refine⟨_,rfl,_,rfl,a,_,_,_,rfl,rfl,hA,am,?_⟩;refine⟨_,rfl,_,rfl,_,_,rfl,rfl,_,rfl,m,_,rfl,rm,λl1 cJ=>?_⟩;rw[wN (by omega),show((k:Int)-1).toNat=k-1 by omega];have s1:=ae.new (o:=.lst ((d.take (k-1)).map V.int)) cJ;have e1:upd H l1 (.lst ((d.take (k-1)).map V.int)) l1=some (.lst ((d.take (k-1)).map V.int)):=zc;generalize Es:upd H l1 _=H1 at s1 e1 ⊢;refine⟨_,rfl,_,rfl,m,_,_,_,rfl,rfl,s1.seq rm,tw (by omega) (by omega),_,rfl,_,rfl,_,_,rfl,rfl,m,_,_,_,rfl,rfl,s1.seq rm,tw (by omega) (by omega),(by show 2<=sizeLine;decide),λl2 b8=>?_⟩;rw[show((k:Int)).toNat=k by omega,show((k:Int)-1).toNat=k-1 by omega];have s2:=ae.new (o:=.lst ([d.getD k 0,d.getD (k-1) 0].map V.int)) b8;refine⟨l1,l2,_,[d.getD k 0,d.getD (k-1) 0].map V.int,rfl,rfl,s2 _ _ e1,zc,by simp only[length_map,length_take,length_cons,length_nil];omega,λl3 c8=>?_⟩;rw[<-map_append];have s3:=(s1.trans s2).ar (o:=.lst ((d.take (k-1)++[d.getD k 0,d.getD (k-1) 0]).map V.int)) c8;have e3:=zc (H:=upd H1 l2 (.lst ([d.getD k 0,d.getD (k-1) 0].map V.int))) (a:=l3) (o:=.lst ((d.take (k-1)++[d.getD k 0,d.getD (k-1) 0]).map V.int));change ae H (upd (upd H1 l2 (.lst [.int (d.getD k 0),.int (d.getD (k-1) 0)])) l3 _)at s3;change upd (upd H1 l2 (.lst [.int (d.getD k 0),.int (d.getD (k-1) 0)])) l3 _ l3=_ at e3;generalize gN:upd (upd H1 l2 _) l3 _=H3 at s3 e3 ⊢;refine⟨_,rfl,_,rfl,_,_,rfl,rfl,_,rfl,m,_,rfl,s3.seq rm,λl4 ng=>?_⟩;rw[wt (by omega),show((k:Int)+1).toNat=k+1 by omega];have s4:=ae.new (o:=.lst ((d.drop (k+1)).map V.int)) ng;refine⟨l3,l4,_,_,rfl,rfl,s4 _ _ e3,zc,by simp only[length_map,length_append,length_take,length_drop,length_cons,length_nil];omega,λl5 iD=>?_⟩;rw[<-map_append];have s5:=(s3.trans s4).ar (o:=.lst ((d.take (k-1)++[d.getD k 0,d.getD (k-1) 0]++d.drop (k+1)).map V.int)) iD;have e5:=zc (H:=upd H3 l4 (.lst ((d.drop (k+1)).map V.int))) (a:=l5) (o:=.lst ((d.take (k-1)++[d.getD k 0,d.getD (k-1) 0]++d.drop (k+1)).map V.int));change _=some (HO.lst ((iC d k).map V.int))at e5;generalize se:upd (upd H3 l4 _) l5 _=H5 at s5 e5 ⊢;refine⟨_,rfl,_,rfl,_,rfl,a,_,rfl,s5.seq hA,λl6 fE=>?_⟩;rw[FU (by omega),show((w:Int)).toNat=w by omega];have s6:=ae.new (o:=.lst ((ls.map V.ref).take w)) fE;have e6:upd H5 l6 (.lst ((ls.map V.ref).take w)) l6=some (.lst ((ls.map V.ref).take w)):=zc;generalize qR:upd H5 l6 _=H6 at s6 e6 ⊢;refine⟨_,rfl,(by show 1<=sizeLine;decide),λl7 nh=>?_⟩;have s7:=ae.new (o:=.lst [.ref l5]) nh;refine⟨l6,l7,_,[.ref l5],rfl,rfl,s7 _ _ e6,zc,by rw[length_take,length_map];simp only[length_cons,length_nil];omega,λl8 Eu=>?_⟩;have s8:=(s6.trans s7).ar (o:=.lst ((ls.map V.ref).take w++[.ref l5])) Eu;have e8:=zc (H:=upd H6 l7 (.lst [.ref l5])) (a:=l8) (o:=.lst ((ls.map V.ref).take w++[.ref l5]));generalize Sa:upd (upd H6 l7 _) l8 _=H8 at s8 e8 ⊢;have t8:=s5.trans s8;refine⟨_,rfl,_,rfl,_,_,rfl,rfl,_,rfl,a,_,rfl,t8.seq hA,λl9 vW=>?_⟩;rw[FT (by omega),show((w:Int)+1).toNat=w+1 by omega];have s9:=ae.new (o:=.lst ((ls.map V.ref).drop (w+1))) vW;refine⟨l8,l9,_,_,rfl,rfl,s9 _ _ e8,zc,by simp only[length_map,length_append,length_take,length_drop,length_cons,length_nil];omega,λgz jr=>?_⟩;have ex:(ls.map V.ref).take w++[.ref l5]++(ls.map V.ref).drop (w+1)=(ls.take w++[l5]++ls.drop (w+1)).map V.ref:=by rw[map_append,map_append,map_take,map_drop];rfl
  rw[ex];have de:=(s8.trans s9).ar (o:=.lst ((ls.take w++[l5]++ls.drop (w+1)).map V.ref)) jr;have js:=zc (H:=upd H8 l9 (.lst ((ls.map V.ref).drop (w+1)))) (a:=gz) (o:=.lst ((ls.take w++[l5]++ls.drop (w+1)).map V.ref));generalize M7:upd (upd H8 l9 _) gz _=uG at de js ⊢;have Sb:=s5.trans de;have Xf:All2 (IL K uG) (ls.take w++[l5]++ls.drop (w+1)) (cs.take w++[iC d k]++cs.drop (w+1)):=by
   have z:=rA.imp λ_ _=>IL.stays K _ _ _ _ Sb;exact((z.qy w).app (.cons (show IL K uG l5 (iC d k)from ag.of (de _ _ e5)) .nil)).app (z.qz (w+1))
  refine⟨gz,rfl,⟨_,ag.of js⟩,?_⟩;refine wJ (ag.of js) Xf (by simp only[length_append,length_take,length_drop,length_cons,length_nil];omega) (λm d H' R hm h=>?_) (λm H' R h=>⟨_,rfl,h⟩) λks AM cc BK=>?_
  ·refine⟨_,rfl,(by show 0<=sizeLine;decide),λmG fq=>?_⟩;have cc:=ae.new (o:=.lst []) fq;refine⟨m,mG,_,[],rfl,rfl,cc.seq hm,ag.new,zy _,rfl,_,rfl,?_⟩;rw[show dG (d.map V.int) []=decide (d=[])from yx _ []];exact h _ cc
  intro qS il;have ni:=Sb.trans cc;exact q qS _ (ni.ar il) (ni.free il) ⟨ks,ag.of zc,BK.imp λ_ _=>IL.stays K _ _ _ _ (ae.new il)⟩
inductive M8 (K:Frag) (vs:List V) (H:Hp) (Q:VK) (E:XK):Prop
 | mk (a b:Addr) (ns gs:List Int) (c:Int):vs=[.ref a,.ref b,.int c]->ag K H a (ns.map V.int)->ag K H b (gs.map V.int)->ns.length+gs.length<=1000->(∀(l:Addr)(H':Hp)(ms:List Int),ae H H'->H l=none->H' l=some (.lst (ms.map V.int))->dX gs ns ms->Q (.ref l) H')->M8 K vs H Q E
theorem Xg(F:aN K "_law_filled" "_law_filled" LV f fd)(T:Txt K mg):av P w K mg base aQ 1 f fd G4 (M8 K):=by
 refine F.ok yZ (λvs H Q E h=>?_) (λaE A outer s H vs Q E hr h=>?_)
 ·obtain⟨a,b,ns,gs,c,rfl,_⟩:=h;rfl
 ·obtain⟨a,b,ns,gs,c,rfl,hA,hB,hz,q⟩:=h;refine⟨_,(zd (zr (i:=3) yZ.nd rfl (Or.inl rfl) (zK zM (by rfl) T.aV boot_list (za (pv 0) zb)))
   (zd (zr (i:=4) yZ.nd rfl (Or.inl rfl) (pv 2))
   (zd (yB PassesOwn.never rfl (zx (pv 1)) (zN (i:=5) yZ.nd rfl (Or.inl rfl))
     (zd (zr (i:=6) yZ.nd rfl (Or.inl rfl) (zo yc (pv 4) (zo zR (zT T.aq (pv 3)) zg)))
   (zd (zr (i:=4) yZ.nd rfl (Or.inl rfl) (zo yM (pv 4) zg))
   (ze (zr (i:=3) yZ.nd rfl (Or.inl rfl) (zo yg (zo yg (zG zX (pv 3) yb (zO (pv 6))) (zz (za (pv 5) zb))) (zG zX (pv 3) (zO (pv 6)) yb)))))))
   (ze (zk (pv 3)))))),?_⟩
  have cj:=zt;refine⟨_,rfl,a,_,rfl,.inl hA,λl hl=>?_⟩;have s1:=ae.new (o:=.lst (ns.map V.int)) hl;have e1:upd H l (.lst (ns.map V.int)) l=some (.lst (ns.map V.int)):=zc;generalize Es:upd H l _=H1 at s1 e1 ⊢;refine⟨_,rfl,?_⟩;refine⟨_,rfl,b,rfl,⟨_,s1.seq hB⟩,?_⟩;refine uX (xs:=gs.map V.int) (λi σ H'=>∃(l:Addr)(ms:List Int)(r:Int)(v w:Option V),σ=[some (.ref a),some (.ref b),some (.int c),some (.ref l),some (.int r),v,w]/\ae H H'/\H l=none/\H' l=some (.lst (ms.map V.int))/\dX (gs.take i) ns ms) ⟨l,ns,c,none,none,rfl,s1,hl,e1,dX.nil ns⟩ ?_ ?_ ?_
  ·rintro i σ H' hi ⟨l,ms,r,v,w,rfl,s,_⟩;exact s.seq hB
  ·rintro i y σ H2 hy ⟨l,ms,r,v,w,rfl,s2,f2,e2,hf⟩;obtain⟨hi,rfl⟩:=yD hy;have hlen:ms.length=ns.length+i:=by
    have:=hf.pm.length_eq;rw[length_append,length_take]at this;omega
   refine⟨_,rfl,_,rfl,l,_,rfl,.inl (ag.of e2),?_⟩;rw[length_map];refine⟨_,_,rfl,rfl,_,_,rfl,rfl,(by show(0:Int)<(ms.length:Int)+1;omega),?_⟩;dsimp only;have w0:=Int.emod_nonneg r (b:=(ms.length:Int)+1) (by omega);have w1:=Int.emod_lt_of_pos r (b:=(ms.length:Int)+1) (by omega);obtain⟨p,hp,eL⟩:∃p:Nat,r%((ms.length:Int)+1)=(p:Int)/\p<=ms.length:=⟨(r%((ms.length:Int)+1)).toNat,by omega,by omega⟩;rw[hp];refine⟨_,rfl,_,_,rfl,rfl,⟨by decide,by decide⟩,?_⟩;refine⟨_,rfl,_,rfl,_,rfl,l,_,rfl,ag.of e2,λl3 c8=>?_⟩;rw[wN (by omega)];have s3:=ae.new (o:=.lst ((ms.take (p:Int).toNat).map V.int)) c8;refine⟨_,rfl,(by show 1<=sizeLine;decide),λl4 ng=>?_⟩;have s4:=s3.ar (o:=.lst ([gs.getD i 0].map V.int)) ng;have my:l3≠l4:=zj zc ng;refine⟨l3,l4,_,[gs.getD i 0].map V.int,rfl,rfl,by rw[zh my];exact zc,zc,by simp only[length_map,length_take,length_cons,length_nil];omega,λl5 iD=>?_⟩;rw[<-map_append];have s5:=s4.ar (o:=.lst ((ms.take (p:Int).toNat++[gs.getD i 0]).map V.int)) iD;refine⟨_,rfl,_,rfl,_,rfl,l,_,rfl,ag.of (s5 _ _ e2),λl6 fE=>?_⟩;rw[wt (by omega)];have s6:=s5.ar (o:=.lst ((ms.drop (p:Int).toNat).map V.int)) fE;have Xh:l5≠l6:=zj zc fE;refine⟨l5,l6,_,_,rfl,rfl,by rw[zh Xh];exact zc,zc,by simp only[length_map,length_append,length_take,length_drop,length_cons,length_nil];omega,λl7 nh=>?_⟩;rw[<-map_append];have s7:=s6.ar (o:=.lst ((ms.take (p:Int).toNat++[gs.getD i 0]++ms.drop (p:Int).toNat).map V.int)) nh;refine⟨l7,_,_,_,_,rfl,s2.trans s7,s2.free (s6.free nh),zc,?_⟩;have e:gs.take (i+1)=gs.take i++[gs.getD i 0]:=by
    rw[take_succ,getD_eq_getElem?_getD,getElem?_eq_getElem hi];rfl
   rw[e];exact hf.step _ _
  ·rintro σ H2 ⟨l,ms,r,v,w,rfl,s2,f2,e2,hf⟩;rw[length_map,take_length]at hf;exact⟨_,rfl,q l H2 ms s2 f2 e2 hf⟩
inductive yH (K:Frag) (vs:List V) (H:Hp) (Q:VK) (E:XK):Prop
 | mk (p:Addr) (F:Addr->Prop) (S:Sh) (j:Str) (a:Addr) (ns:List Int):vs=[.ref p,.str j,.ref a]->ao K H p F S->ag K H a (ns.map V.int)->ns.length<64->((∀c,S.refuse j ns=some c->∀C H',bg K c C->ae H H'->E (.ref C) none H'))->((S.refuse j ns=none->∀H' F',ao K H' p F' (S.hand j ns)->bE F H F' H'->Q .bo H'))->yH K vs H Q E
theorem Xi(F:aN K "hand_in" "Sheet.hand_in" LW f fd)(T:Txt K mg)(Xj:aB P w K mg base 1 "whole_card" Gu (MB K))(Na:br P w K mg base 1 (zL K "Sheet") "refuse_if_sealed" ["self"] (ym K))(Nb:br P w K mg base 1 (zL K "Sheet") "refuse_unknown_judge" zJ (zY K)):av P w K mg base (fC P w) 2 f fd yn (yH K):=by
 obtain⟨bP,bF,dO,bO⟩:=T.bO;obtain⟨qT,fw,fA,bT⟩:=T.bT;refine F.Aa Wk (λvs H Q E h=>?_) (λX W aE A outer s H vs Q E hX hW fl md hr h=>?_)
 ·obtain⟨p,F,S,j,a,ns,rfl,_⟩:=h;rfl
 ·obtain⟨p,F,S,j,a,ns,rfl,aP,hA,hz,qE,q⟩:=h;obtain⟨dx,a1,a2,a3,d,aw,h⟩:=id aP;subst hX;refine⟨_,(zd (zI (Qv Na T.aj fl (hM hr) (pv 0)))
   (zd (zI (yT Nb T.aj fl (hM hr) (pv 0) (za (pv 1) zb)))
   (zd (zv (zV (zQ (zi Xj (hM hr) rfl (za (pv 2) (za (wD (pv 0) rfl) zb))))) (ze (wU rfl md rfl dO bO (za ye zb))) zp)
   (zd (zv (zl Cu (wD (pv 0) rfl) (CY T.gw rfl) (zn _)) (ze (wU rfl md rfl fA bT (za ye zb))) zp)
   (zd (j7 (Bp hr) (wD (pv 0) rfl) (pv 1) (zK zM (by rfl) T.aV boot_list (za (pv 2) zb)) rfl)
   (ze (va (pv 0) (zo zR (wD (pv 0) rfl) zg) rfl))))))),?_⟩
  have cj:=zt;have DZ:=h.ok.cG;refine⟨_,rfl,p,dx,_,rfl,h.ip,rfl,p,F,S,rfl,aP,(λhs C hC=>?_),λhs=>?_⟩
  ·rw[hW];exact qE "SheetSealed" (by unfold Sh.refuse;rw[if_pos hs]) C _ hC (ae.refl _)
  refine⟨_,rfl,p,dx,_,rfl,h.ip,rfl,_,rfl,p,F,S,j,rfl,aP,(λhj C hC=>?_),λhj=>?_⟩
  ·rw[hW];exact qE "UnknownJudge" (by unfold Sh.refuse;rw[if_neg (by rw[hs];exact Bool.false_ne_true),if_neg hj]) C _ hC (ae.refl _)
  refine⟨_,rfl,_,rfl,p,_,dx,_,_,rfl,h.ip,T.aj,T.aI,rfl,a,a1,ns,S.aa,rfl,hA,ag.of h.i1,hz,by omega,λH2 s2=>⟨_,rfl,?_⟩⟩;refine yi (λhp=>?_) (λhp=>?_)
  ·refine⟨(by show 1<=sizeLine;decide),?_⟩;rw[hW];exact qE "BadCard" (by unfold Sh.refuse;rw[if_neg (by rw[hs];exact Bool.false_ne_true),if_pos hj,if_neg hp]) _ _ bF s2
  have ip:=s2 _ _ h.ip;have i1:=s2 _ _ h.i1;have i2:=s2 _ _ h.i2;have i3:=s2 _ _ h.i3;have i4:=s2 _ _ h.i4;refine⟨_,rfl,p,_,dx,_,_,rfl,ip,T.aj,T.aR,rfl,_,_,rfl,rfl,_,rfl,yr (λht=>?_) (λht=>?_)⟩
  ·refine⟨(by show 1<=sizeLine;decide),?_⟩;rw[hW];exact qE "TooManyCards" (by unfold Sh.refuse;rw[if_neg (by rw[hs];exact Bool.false_ne_true),if_pos hj,if_pos hp,if_pos (by omega)]) _ _ fw s2
  have hn:S.refuse j ns=none:=by unfold Sh.refuse;rw[if_neg (by rw[hs];exact Bool.false_ne_true),if_pos hj,if_pos hp,if_neg (by omega)]
  have hk:=h.kl;have Sd:=h.ok.uj;refine⟨_,rfl,a,_,rfl,.inl (s2.seq hA),λl hl=>?_⟩;have kp:∀b o,H2 b=some o->upd H2 l (.lst (ns.map V.int)) b=some o:=λb o e=>ae.new hl b o e;refine⟨_,rfl,p,_,dx,_,_,rfl,kp _ _ ip,T.aj,T.ax,rfl,_,rfl,d,_,rfl,lR.k (k:=Sum.inr j) (kp _ _ i4) (by omega),?_⟩;have n1:a1≠p:=yV i1 ip (by intro z;cases z);have n2:a2≠p:=yV i2 ip (by intro z;cases z);have n3:a3≠p:=yV i3 ip (by intro z;cases z);have n4:d≠p:=yV i4 ip (by intro z;cases z);have m1:a1≠d:=yV i1 i4 (by intro z;cases z);have m2:a2≠d:=yV i2 i4 (by intro z;cases z);have m3:a3≠d:=yV i3 i4 (by intro z;cases z);have lp:l≠p:=λz=>by rw[z,ip]at hl;cases hl
  have ld:l≠d:=λz=>by rw[z,i4]at hl;cases hl
  have l2:l≠a2:=λz=>by rw[z,i2]at hl;cases hl
  have Se:upd (upd H2 l (.lst (ns.map V.int))) d (.dK (fN aw (Sum.inr j) (.ref l))) p=some (.ins (zL K "Sheet") dx (gm a1 a2 a3 d S)):=by rw[zh (Ne.symm n4)];exact kp _ _ ip
  refine⟨_,rfl,p,_,dx,_,_,rfl,Se,T.aj,T.aR,rfl,_,_,rfl,rfl,?_⟩;refine⟨_,rfl,p,_,dx,_,rfl,Se,T.aj,T.aR,(by show 6<1000;decide),?_⟩;have et:(V.int ((S.taken:Int)+1))=.int ((S.hand j ns).taken:Nat):=by show V.int _=V.int ((S.taken+1:Nat):Int);congr 1
  show _;dsimp only;rw[et,qj a1 a2 a3 d S (S.hand j ns) rfl];obtain⟨Al,_⟩:=h.ok.hand hn;have up:∀b o,H2 b=some o->b≠p->b≠d->upd (upd (upd H2 l (.lst (ns.map V.int))) d (.dK (fN aw (Sum.inr j) (.ref l)))) p (.ins (zL K "Sheet") dx (gm a1 a2 a3 d (S.hand j ns))) b=some o:=λb o e nb nd=>by rw[zh nb,zh nd];exact kp b o e
  have el:upd (upd (upd H2 l (.lst (ns.map V.int))) d (.dK (fN aw (Sum.inr j) (.ref l)))) p (.ins (zL K "Sheet") dx (gm a1 a2 a3 d (S.hand j ns))) l=some (.lst (ns.map V.int)):=by rw[zh lp,zh ld];exact zc
  refine q hn _ (λb=>F b\/b=l) ⟨dx,a1,a2,a3,d,fN aw (Sum.inr j) (.ref l),⟨⟨zc,up _ _ i1 n1 m1,up _ _ i2 n2 m2,up _ _ i3 n3 m3,by rw[zh n4];exact zc,?_,λk qx=>?_,λk c hc=>?_,.inl h.fp,.inl h.f1,.inl h.f2,.inl h.f3,.inl h.f4,h.BE,h.vP,λb hb=>?_⟩,Al⟩⟩ λb o e n=>⟨up b o (s2 _ _ e) (λz=>n (z ▸ h.fp)) (λz=>n (z ▸ h.f4)),?_⟩
  ·have:=La aw (Sum.inr j) (.ref l);show _<=S.taken+1;omega
  ·have qx:(if k=j then some ns else S.card k)=none:=qx;rw[Ge];by_cases ek:k=j
   ·rw[if_pos ek]at qx;cases qx
   ·rw[if_neg ek]at qx;rw[if_neg (λz=>ek (by injection z))];exact h.cn k qx
  ·have hc:(if k=j then some ns else S.card k)=some c:=hc;rw[Ge];by_cases ek:k=j
   ·rw[if_pos ek]at hc;cases hc;rw[if_pos (by rw[ek])];exact⟨l,rfl,el,.inr rfl,l2⟩
   ·rw[if_neg ek]at hc;rw[if_neg (λz=>ek (by injection z))];obtain⟨l',x1,x2,x3,x4⟩:=h.cs k c hc;exact⟨l',x1,up _ _ (s2 _ _ x2) (yV x2 h.ip (by intro z;cases z)) (yV x2 h.i4 (by intro z;cases z)),.inl x3,x4⟩
  ·by_cases Ew:b=p
   ·rw[Ew,zc];exact λz=>nomatch z
   rw[zh Ew];by_cases Ex:b=d
   ·rw[Ex,zc];exact λz=>nomatch z
   rw[zh Ex];rcases hb with hb | hb
   ·have:=h.fh b hb;cases e:H b with
    | none=>exact absurd e this
    | some o=>rw[kp _ _ (s2 _ _ e)];exact λz=>nomatch z
   ·rw[hb,zc];exact λz=>nomatch z
  ·rintro (z | z)
   ·exact n z
   ·have:=s2 _ _ e;rw[z,hl]at this;cases this
inductive HS (K:Frag) (vs:List V) (H:Hp) (Q:VK) (E:XK):Prop
 | mk (p:Addr) (F:Addr->Prop) (S:Sh) (c:Int):vs=[.ref p,.int c]->ao K H p F S->((∀x,S.bh c=some x->∀C,bg K x C->E (.ref C) none H))->((S.bh c=none->∀H' F',ao K H' p F' (S.aT c)->bE F H F' H'->Q .bo H'))->HS K vs H Q E
theorem Xk(F:aN K "strike" "Sheet.strike" LX f fd)(T:Txt K mg)(Sf:aB P w K mg base 1 "without_couple" wv (MD K))(qV:bD P w K mg base 1 (zL K "Sheet") "handed" yd (yk K))(Na:br P w K mg base 1 (zL K "Sheet") "refuse_if_sealed" ["self"] (ym K)):av P w K mg base (fC P w) 2 f fd wq (HS K):=by
 obtain⟨nj,eA,eB,bL⟩:=T.bL;obtain⟨uH,gA,gB,cC⟩:=T.cC;refine F.Aa RP (λvs H Q E h=>?_) (λX W aE A outer s H vs Q E hX hW fl md hr h=>?_)
 ·obtain⟨p,F,S,c,rfl,_⟩:=h;rfl
 ·obtain⟨p,F,S,c,rfl,aP,qE,q⟩:=h;obtain⟨dx,a1,a2,a3,d,aw,h⟩:=id aP;subst hX;refine⟨_,(zd (zI (Qv Na T.aj fl (hM hr) (pv 0)))
   (zd (zv (zl FK (pv 1) (wD (pv 0) rfl) (by first | exact zn _ | rfl)) (ze (wU rfl md rfl eB bL (za ye zb))) zp)
   (zd (zv (zl wl (zT T.aq (wD (pv 0) rfl)) zg (zn _)) (ze (wU rfl md rfl gB cC (za ye zb))) zp)
   (zd (va (pv 0) (zi Sf (hM hr) rfl (za (wD (pv 0) rfl) (za (pv 1) zb))) rfl)
   (zd (zI (wP PySem.F.plainAttrs_list PySem.F.slot_list_append PySem.F.type_list_append yO (wD (pv 0) rfl) (za (pv 1) zb)))
   (ze (yB PassesOwn.leaving rfl (zx (zP qV T.aj (hM hr) (pv 0))) (zN (i:=2) RP.nd rfl (Or.inl rfl))
     (ze (j7 (Bp hr) (wD (pv 0) rfl) (pv 2) (zi Sf (hM hr) rfl (za (j6 (Bp hr) (wD (pv 0) rfl) (pv 2) (λ_ _=>rfl)) (za (pv 1) zb))) rfl))))))))),?_⟩
  have cj:=zt;have DZ:=h.ok.cG;refine⟨_,rfl,p,dx,_,rfl,h.ip,rfl,p,F,S,rfl,aP,(λhs C hC=>?_),λhs=>?_⟩
  ·rw[hW];exact qE "SheetSealed" (by unfold Sh.bh;rw[if_pos hs]) C hC
  have pe:¬S.cu=true:=by rw[hs];exact Bool.false_ne_true
  refine⟨_,rfl,_,rfl,p,_,dx,_,_,rfl,h.ip,T.aj,T.aI,rfl,a1,_,rfl,.inl (ag.of h.i1),rfl,zy _,_,rfl,?_⟩;rw[J6];refine yi (λhc=>?_) (λhc=>?_)
  ·refine⟨(by show 1<=sizeLine;decide),?_⟩;rw[hW];exact qE "UnknownCouple" (by unfold Sh.bh;rw[if_neg pe,if_neg hc]) _ eA
  refine⟨_,rfl,p,_,dx,_,_,rfl,h.ip,T.aj,T.aI,rfl,a1,_,rfl,.inl (ag.of h.i1),rfl,_,rfl,?_⟩;rw[length_map];refine yr (λh1=>?_) (λh1=>?_)
  ·refine⟨(by show 1<=sizeLine;decide),?_⟩;rw[hW];injection h1 with h1
   exact qE "LastCouple" (by unfold Sh.bh;rw[if_neg pe,if_pos hc,if_pos (by omega)]) _ gA
  have h1:S.aa.length≠1:=λz=>h1 (by rw[z];rfl);have hn:S.bh c=none:=by unfold Sh.bh;rw[if_neg pe,if_pos hc,if_neg h1]
  refine⟨_,rfl,p,_,dx,_,_,rfl,h.ip,T.aj,T.aI,rfl,_,rfl,a1,S.aa,c,rfl,ag.of h.i1,by omega,λb1 H2 s2 f2 e2=>?_⟩;have ip:=s2 _ _ h.ip;have i2:=s2 _ _ h.i2;have i3:=s2 _ _ h.i3;have i4:=s2 _ _ h.i4;refine⟨_,rfl,p,_,dx,_,rfl,ip,T.aj,T.aI,(by show 6<1000;decide),?_⟩;rw[VP a1 a2 a3 d b1 S (S.aT c) rfl rfl];have n2:a2≠p:=yV i2 ip (by intro z;cases z);have n3:a3≠p:=yV i3 ip (by intro z;cases z);have n4:d≠p:=yV i4 ip (by intro z;cases z);have n1:b1≠p:=yV e2 ip (by intro z;cases z);have m2:a2≠d:=yV i2 i4 (by intro z;cases z);have b2:b1≠a2:=λz=>by rw[z,h.i2]at f2;cases f2
  have Si:upd H2 p (.ins (zL K "Sheet") dx (gm b1 a2 a3 d (S.aT c))) a2=some (.lst (S.struck.map V.int)):=by rw[zh n2];exact i2
  refine⟨_,rfl,p,_,dx,_,_,rfl,zc,T.aj,T.bA,rfl,.inl ⟨rfl,_,ag.of Si⟩,_,rfl,a2,_,_,rfl,rfl,Si,(by rw[length_map];omega),?_⟩;have up:∀b o,H2 b=some o->b≠p->b≠a2->upd (upd H2 p (.ins (zL K "Sheet") dx (gm b1 a2 a3 d (S.aT c)))) a2 (.lst (S.struck.map V.int++[V.int c])) b=some o:=λb o e nb nd=>by rw[zh nd,zh nb];exact e
  have up1:upd (upd H2 p (.ins (zL K "Sheet") dx (gm b1 a2 a3 d (S.aT c)))) a2 (.lst (S.struck.map V.int++[V.int c])) p=some (.ins (zL K "Sheet") dx (gm b1 a2 a3 d (S.aT c))):=by rw[zh (Ne.symm n2)];exact zc
  have vz:upd (upd H2 p (.ins (zL K "Sheet") dx (gm b1 a2 a3 d (S.aT c)))) a2 (.lst (S.struck.map V.int++[V.int c])) a2=some (.lst ((S.aT c).struck.map V.int)):=jL _ _;generalize gN:upd (upd H2 p _) a2 _=H3 at up up1 vz ⊢;have F3:∀b,(F b\/b=b1)->H3 b≠none:=λb hb=>by
   by_cases Ew:b=p
   ·rw[Ew,up1];exact λz=>nomatch z
   by_cases Sj:b=a2
   ·rw[Sj,vz];exact λz=>nomatch z
   rcases hb with hb | hb
   ·have:=h.fh b hb;cases e:H b with
    | none=>exact absurd e this
    | some o=>rw[up _ _ (s2 _ _ e) Ew Sj];exact λz=>nomatch z
   ·rw[hb,up _ _ e2 n1 b2];exact λz=>nomatch z
  have D3:bE F H (λb=>F b\/b=b1) H3:=λb o e n=>⟨up b o (s2 _ _ e) (λz=>n (z ▸ h.fp)) (λz=>n (z ▸ h.f2)),λz=>z.elim n λz=>by rw[z,f2]at e;cases e⟩;have vH:∀j cd,S.card j=some cd->∃l,dH aw (Sum.inr j)=some (.ref l)/\H3 l=some (.lst (cd.map V.int))/\(F l\/l=b1)/\l≠a2:=λj cd e=>by
   obtain⟨l,x1,x2,x3,x4⟩:=h.cs j cd e;exact⟨l,x1,up _ _ (s2 _ _ x2) (yV x2 h.ip (by intro z;cases z)) x4,.inl x3,x4⟩
  obtain⟨Al,_⟩:=h.ok.aT hn;refine⟨_,rfl,p,dx,_,rfl,up1,rfl,p,(λb=>F b\/b=b1),⟨wo c S.aa,S.struck++[c],S.af,S.card,S.taken,S.cu⟩,rfl,⟨dx,b1,a2,a3,d,aw,⟨up1,up _ _ e2 n1 b2,vz,up _ _ i3 n3 h.vP,up _ _ i4 n4 (Ne.symm m2),h.kl,h.cn,vH,.inl h.fp,.inr rfl,.inl h.f2,.inl h.f3,.inl h.f4,b2,h.vP,F3⟩⟩,h.ok.dA,λa H4 s4 f4 e4=>?_⟩;have HU:S.handed.length<=15:=le_trans (length_filter_le _ _) h.ok.dA;refine⟨a,rfl,⟨_,ag.of e4⟩,?_⟩;refine uX (xs:=S.handed.map V.str) (λi σ H5=>∃(v:Option V)(fT:List (Key×V)) (F':Addr->Prop),σ=[some (.ref p),some (.int c),v]/\H5 p=some (.ins (zL K "Sheet") dx (gm b1 a2 a3 d (S.aT c)))/\H5 b1=some (.lst ((wo c S.aa).map V.int))/\H5 a2=some (.lst ((S.aT c).struck.map V.int))/\H5 a3=some (.lst (S.af.map V.str))/\H5 d=some (.dK fT)/\H5 a=some (.lst (S.handed.map V.str)) /\
   fT.length<=S.taken/\(∀j,S.card j=none->dH fT (Sum.inr j)=none)/\(∀j cd,S.card j=some cd->∃l,dH fT (Sum.inr j)=some (.ref l)/\H5 l=some (.lst ((if j∈S.handed.take i then wo c cd else cd).map V.int))/\F' l/\l≠a2)/\(∀b,F b->F' b)/\F' b1/\(∀b,F' b->H5 b≠none)/\bE F H F' H5)
   ⟨_,aw,λb=>F b\/b=b1,rfl,s4 _ _ up1,s4 _ _ (up _ _ e2 n1 b2),s4 _ _ vz,s4 _ _ (up _ _ i3 n3 h.vP),s4 _ _ (up _ _ i4 n4 (Ne.symm m2)),e4,h.kl,h.cn,(λj cd e=>?_),(λb hb=>.inl hb),.inr rfl,(λb hb=>?_),λb o e n=>⟨s4 _ _ (D3 b o e n).1,(D3 b o e n).2⟩⟩ ?_ ?_ ?_
  ·obtain⟨l,x1,x2,x3,x4⟩:=vH j cd e;exact⟨l,x1,by rw[if_neg (by rw[List.take_zero];exact not_mem_nil)];exact s4 _ _ x2,x3,x4⟩
  ·have:=F3 b hb;cases e:H3 b with
   | none=>exact absurd e this
   | some o=>rw[s4 _ _ e];exact λz=>nomatch z
  ·rintro i σ H5 hi ⟨v,fT,F',rfl,w1,w2,w3,w4,w5,w6,_⟩;exact ag.of w6
  ·rintro i x σ H5 hx ⟨v,fT,F',rfl,w1,w2,w3,w4,w5,w6,w7,w8,w9,BL,Nc,Nd,Nf⟩;obtain⟨hi,rfl⟩:=Ag hx;have hm:=List.mem_filter.mp (show S.handed.getD i "" ∈ S.af.filter λj=>(S.card j).isSome from wn hi);generalize hj:S.handed.getD i ""=j at hm;cases e:S.card j with
   | none=>rw[e]at hm;exact absurd hm.2 Bool.false_ne_true
   | some cd =>
     have BM:S.handed.Nodup:=h.ok.qi.filter _;have Xl:j∉S.handed.take i:=λz=>by
      have e1:S.handed.take (i+1)=S.handed.take i++[j]:=by rw[yA hi,hj]
      have e2:(S.handed.take (i+1)).Nodup:=BM.sublist (List.take_sublist _ _);rw[e1]at e2;exact(List.nodup_append.mp e2).2.2 j z j (List.mem_singleton.mpr rfl) rfl
     obtain⟨l,x1,x2,x3,x4⟩:=w9 j cd e;rw[if_neg Xl]at x2;have mT:cd.length<=24:=by have:=(h.ok.cd j cd e).2.length_eq;omega
     refine⟨_,rfl,p,_,dx,_,_,rfl,w1,T.aj,T.ax,rfl,_,rfl,d,.ref l,rfl,x1 ▸ dI.k (k:=Sum.inr j) w5,_,rfl,l,cd,c,rfl,ag.of x2,by omega,λl' H6 s6 f6 e6=>?_⟩;refine⟨_,rfl,p,_,dx,_,_,rfl,s6 _ _ w1,T.aj,T.ax,rfl,_,rfl,d,_,rfl,lR.k (k:=Sum.inr j) (s6 _ _ w5) (by have:=h.ok.uj;omega),?_⟩;have nd:∀b o,H6 b=some o->(∀k,o ≠ .dK k)->upd H6 d (.dK (fN fT (Sum.inr j) (.ref l'))) b=some o:=λb o e n=>by rw[zh (yV e (s6 _ _ w5) (n _))];exact e
     have ld:l'≠d:=yV e6 (s6 _ _ w5) (by intro z;cases z);refine⟨_,fN fT (Sum.inr j) (.ref l'),λb=>F' b\/b=l',rfl,nd _ _ (s6 _ _ w1) (λ_ z=>nomatch z),nd _ _ (s6 _ _ w2) (λ_ z=>nomatch z),nd _ _ (s6 _ _ w3) (λ_ z=>nomatch z),nd _ _ (s6 _ _ w4) (λ_ z=>nomatch z),zc,nd _ _ (s6 _ _ w6) (λ_ z=>nomatch z),by rw[ql x1];exact w7,λk hk=>?_,λk b hk=>?_,λb hb=>.inl (BL b hb),.inl Nc,λb hb=>?_,λb o e' n=>?_⟩
     ·rw[Ge,if_neg (λz=>by injection z with z;rw[z,e]at hk;cases hk)];exact w8 k hk
     ·rw[Ge,yA hi,hj];by_cases ek:k=j
      ·subst ek;rw[e]at hk;cases hk;rw[if_pos rfl];refine⟨l',rfl,?_,.inr rfl,λz=>by rw[z,w3]at f6;cases f6⟩;rw[if_pos (mem_append_right _ (List.mem_singleton.mpr rfl))];exact nd _ _ e6 (λ_ z=>nomatch z)
      ·rw[if_neg (λz=>ek (by injection z))];obtain⟨m,y1,y2,y3,y4⟩:=w9 k b hk;refine⟨m,y1,?_,.inl y3,y4⟩;have:(k∈S.handed.take i++[j])↔k∈S.handed.take i:=by
        rw[mem_append,mem_singleton];exact⟨λz=>z.elim id λw=>absurd w ek,.inl⟩
       simp only[this];exact nd _ _ (s6 _ _ y2) (λ_ z=>nomatch z)
     ·by_cases Ex:b=d
      ·rw[Ex,zc];exact λz=>nomatch z
      rw[zh Ex];rcases hb with hb | hb
      ·have:=Nd b hb;cases e7:H5 b with
       | none=>exact absurd e7 this
       | some o=>rw[s6 _ _ e7];exact λz=>nomatch z
      ·rw[hb,e6];exact λz=>nomatch z
     ·obtain⟨y1,y2⟩:=Nf b o e' n;refine⟨?_,λz=>z.elim y2 λw=>by rw[w,f6]at y1;cases y1⟩;have Xm:b≠d:=λz=>n (by rw[z];exact h.f4);rw[zh Xm];exact s6 _ _ y1
  ·rintro σ H5 ⟨v,fT,F',rfl,w1,w2,w3,w4,w5,w6,w7,w8,w9,BL,Nc,Nd,Nf⟩;rw[length_map,take_length]at w9;refine q hn H5 F' ⟨dx,b1,a2,a3,d,fT,⟨⟨w1,w2,w3,w4,w5,w7,λj hj=>?_,λj b hj=>?_,BL _ h.fp,Nc,BL _ h.f2,BL _ h.f3,BL _ h.f4,b2,h.vP,Nd⟩,Al⟩⟩ Nf
   ·have hj:(S.card j).map (wo c)=none:=hj;exact w8 j (Option.map_eq_none_iff.mp hj)
   ·have hj:(S.card j).map (wo c)=some b:=hj;obtain⟨cd,e,rfl⟩:=Option.map_eq_some_iff.mp hj;obtain⟨l,x1,x2,x3,x4⟩:=w9 j cd e;refine⟨l,x1,?_,x3,x4⟩;have Ey:j∈S.handed:=List.mem_filter.mpr ⟨(h.ok.cd j cd e).1,by rw[e];rfl⟩;rw[if_pos Ey]at x2;exact x2
inductive yI (K:Frag) (vs:List V) (H:Hp) (Q:VK) (E:XK):Prop
 | mk (p:Addr) (F:Addr->Prop) (S:Sh) (j:Str):vs=[.ref p,.str j]->ao K H p F S->((j∉S.af->∀C,bg K "UnknownJudge" C->E (.ref C) none H))->((j∈S.af->S.card j=none->∀C,bg K "NoCard" C->E (.ref C) none H))->((∀c,S.card j=some c->∀(l:Addr)(H':Hp),ae H H'->H l=none->H' l=some (.lst (c.map V.int))->Q (.ref l) H'))->yI K vs H Q E
theorem Xn(F:aN K "card_of" "Sheet.card_of" LY f fd)(T:Txt K mg)(Nb:br P w K mg base 1 (zL K "Sheet") "refuse_unknown_judge" zJ (zY K)):av P w K mg base (fC P w) 2 f fd yo (yI K):=by
 obtain⟨Ez,qW,qX,fe⟩:=T.fe;refine F.Aa Wl (λvs H Q E h=>?_) (λX W aE A outer s H vs Q E hX hW fl md hr h=>?_)
 ·obtain⟨p,F,S,j,rfl,_⟩:=h;rfl
 ·obtain⟨p,F,S,j,rfl,⟨dx,a1,a2,a3,d,aw,h⟩,qU,qN,q⟩:=h;subst hX;refine⟨_,(zd (zI (yT Nb T.aj fl (hM hr) (pv 0) (za (pv 1) zb)))
   (zd (zv (nE (lV (Bp hr) (pv 1) (wD (pv 0) rfl))) (ze (wU rfl md rfl qX fe (za ye zb))) zp)
   (ze (zk (zK zM (by rfl) T.aV boot_list (za (j6 (Bp hr) (wD (pv 0) rfl) (pv 1) (λ_ _=>rfl)) zb)))))),?_⟩
  refine⟨_,rfl,p,dx,_,rfl,h.ip,rfl,_,rfl,p,F,S,j,rfl,⟨dx,a1,a2,a3,d,aw,h⟩,λhj C hC=>by rw[hW];exact qU hj C hC,λhj=>?_⟩;refine⟨_,rfl,_,rfl,p,_,dx,_,_,rfl,h.ip,T.aj,T.ax,rfl,d,_,rfl,dI.k (k:=Sum.inr j) h.i4,_,rfl,?_⟩;cases e:S.card j with
  | none =>
    rw[h.cn _ e];exact⟨(by show 1<=sizeLine;decide),by rw[hW];exact qN hj e _ qW⟩
  | some c =>
    obtain⟨l,e1,e2,_⟩:=h.cs _ _ e;rw[e1];refine⟨_,rfl,p,_,dx,_,_,rfl,h.ip,T.aj,T.ax,rfl,_,rfl,d,.ref l,rfl,e1 ▸ dI.k (k:=Sum.inr j) h.i4,l,_,rfl,.inl (ag.of e2),λl' rZ=>?_⟩;exact q c e l' _ (ae.new rZ) rZ zc
inductive EA (K:Frag) (vs:List V) (H:Hp) (Q:VK) (E:XK):Prop
 | mk (a:Addr) (cs:List (List Int)) (c:Int):vs=[.ref a,.int c]->Refs K (IL K) H a cs->cs.length<=1000->((∀d∈cs,c∈d))->(∀(l:Addr)(H':Hp),ae H H'->H l=none->H' l=some (.lst ((M5.zm cs c).map V.int))->Q (.ref l) H')->EA K vs H Q E
theorem Xo(F:aN K "marks_of" "marks_of" G5 f fd)(T:Txt K mg)(Xp:aB P w K mg base 1 "mark_on" Gv (MC K)):av P w K mg base aQ 2 f fd BG (EA K):=by
 refine F.ok Wm (λvs H Q E h=>?_) (λaE A outer s H vs Q E hr h=>?_)
 ·obtain⟨a,cs,c,rfl,_⟩:=h;rfl
 ·obtain⟨a,cs,c,rfl,⟨ls,hS,hR⟩,hz,hc,q⟩:=h;refine⟨_,(ze (zk (zS (show ak (zf G5) ["cards","couple"] "card" ["couple"] [1] _ from cm) rfl (zx (pv 0)) (λ_ _ _ _ _=>yN) (λ_ _ _ _ _=>(zi Xp (hM hr) rfl (za (pv 0) (za (pv 1) zb))))))),?_⟩;have hlen:=hR.length;refine⟨_,rfl,a,rfl,⟨_,hS⟩,?_⟩;refine yq (xs:=ls.map V.ref) (λi ys H2=>H2=H/\ys=(M5.zm (cs.take i) c).map V.int) ⟨rfl,rfl⟩ ?_ (by rw[length_map];have:=zt;omega) ?_ ?_
  ·rintro i ys H2 hi ⟨rfl,rfl⟩;refine⟨hS,?_⟩;rw[length_map,M5.ya,length_take];omega
  ·rintro i x ys H2 hx ⟨rfl,rfl⟩;obtain⟨l,el,rfl⟩:=uh hx;obtain⟨d,ed,rd⟩:=hR.getL el;refine⟨_,rfl,_,rfl,l,d,c,rfl,rd,hc d (mem_of_getElem? ed),rfl,?_⟩;rw[take_succ,ed];unfold M5.zm;rw[map_append,map_append];rfl
  ·rintro ys H2 ⟨rfl,rfl⟩ l hl;rw[length_map,hlen,take_length];exact q l _ (ae.new hl) hl zc
inductive BN (K:Frag) (vs:List V) (H:Hp) (Q:VK) (E:XK):Prop
 | mk (a:Addr) (ms:List Int) (n:Int):vs=[.ref a,.int n]->ag K H a (ms.map V.int)->ms.length<=1000->(∀(H':Hp),ae H H'->Q (.int (M3.cnt ms n)) H')->BN K vs H Q E
theorem Xq(F:aN K "granted" "granted" LZ f fd)(T:Txt K mg)(Ng:aB P w K mg base 1 "granting" Eb (HM K)):av P w K mg base aQ 2 f fd AI (BN K):=by
 refine F.ok jk (λvs H Q E h=>?_) (λaE A outer s H vs Q E hr h=>?_)
 ·obtain⟨a,ms,n,rfl,_⟩:=h;rfl
 ·obtain⟨a,ms,n,rfl,hS,hz,q⟩:=h;refine⟨_,(ze (zk (zT T.aq (zi Ng (hM hr) rfl (za (pv 0) (za (pv 1) zb)))))),?_⟩;refine⟨_,rfl,_,rfl,a,ms,n,rfl,hS,hz,λl H1 s1 f1 e1=>?_⟩;refine⟨l,_,rfl,.inl (ag.of e1),?_⟩;rw[length_map];exact q _ s1
inductive wC (K:Frag) (vs:List V) (H:Hp) (Q:VK) (E:XK):Prop
 | mk (a:Addr) (ms:List Int) (n:Int):vs=[.ref a,.int n]->ag K H a (ms.map V.int)->ms.length<=1000->(∀(H':Hp),ae H H'->Q (.int (M3.sm ms n)) H')->wC K vs H Q E
theorem Xr(F:aN K "granted_sum" "granted_sum" L4 f fd)(T:Txt K mg)(Ng:aB P w K mg base 1 "granting" Eb (HM K)):av P w K mg base aQ 2 f fd wd (wC K):=by
 refine F.ok Wn (λvs H Q E h=>?_) (λaE A outer s H vs Q E hr h=>?_)
 ·obtain⟨a,ms,n,rfl,_⟩:=h;rfl
 ·obtain⟨a,ms,n,rfl,hS,hz,q⟩:=h;refine⟨_,(ze (zk (zD (Dp rfl) (by rfl) T.ij boot_sum (za (zi Ng (hM hr) rfl (za (pv 0) (za (pv 1) zb))) zb)))),?_⟩;refine⟨_,rfl,_,rfl,a,ms,n,rfl,hS,hz,λl H1 s1 f1 e1=>?_⟩;exact⟨l,_,rfl,ag.of e1,q _ s1⟩
inductive wp (K:Frag) (vs:List V) (H:Hp) (Q:VK) (E:XK):Prop
 | mk (a:Addr) (ms:List Int):vs=[.ref a]->ag K H a (ms.map V.int)->ms≠[]->ms.length<=60->((∀x∈ms,1<=x/\x<=24))->(∀(H':Hp)(f:Int),ae H H'->M3.cO ms f->Q (.int f) H')->wp K vs H Q E
theorem Xs(F:aN K "first_number" "first_number" L5 f fd)(T:Txt K mg)(Xt:aB P w K mg base 1 "majority_of" ["many"] (MF K)):av P w K mg base aQ 2 f fd ["marks"] (wp K):=by
 refine F.ok Wo (λvs H Q E h=>?_) (λaE A outer s H vs Q E hr h=>?_)
 ·obtain⟨a,ms,rfl,_⟩:=h;rfl
 ·obtain⟨a,ms,rfl,hS,aO,hz,hx,q⟩:=h;refine⟨_,(ze (zk (zu zq (zD Kc (by rfl) T.dw PyProof.Rows.boot_sorted (za (pv 0) zb)) (zo nT (zi Xt (hM hr) rfl (za (zT T.aq (pv 0)) zb)) zg) (λ_ _=>rfl)))),?_⟩;refine⟨_,rfl,a,ms,rfl,hS,by omega,λl ns hl p w=>?_⟩;refine⟨_,rfl,a,_,rfl,.inl ((ae.new hl).seq hS),_,rfl,_,_,rfl,rfl,?_⟩;have hlen:=p.length_eq;have hn:=List.length_pos_iff.mpr aO;rw[length_map];refine⟨l,_,_,_,rfl,rfl,ag.new,tw (by omega) (by omega),?_⟩;have e:(((ms.length:Nat):Int)/2+1-1).toNat=ns.length/2:=by omega
  rw[e];exact q _ _ (ae.new hl) (M3.qp p (M3.VR w λz=>by rw[z]at hlen;simp at hlen;omega))
inductive zH (K:Frag) (vs:List V) (H:Hp) (Q:VK) (E:XK):Prop
 | mk (p:Addr) (F:Addr->Prop) (S:Sh) (n:Int):vs=[.ref p,.int n]->ao K H p F S->n<=S.handed.length->(∀H',ae H H'->Q .bo H')->zH K vs H Q E
theorem Xu(F:aN K "refuse_fewer_cards" "refuse_fewer_cards" wA f fd)(T:Txt K mg)(qV:bD P w K mg base 1 (zL K "Sheet") "handed" yd (yk K)):av P w K mg base aQ 2 f fd zB (zH K):=by
 refine F.ok Wq (λvs H Q E h=>?_) (λaE A outer s H vs Q E hr h=>?_)
 ·obtain⟨p,F,S,n,rfl,_⟩:=h;rfl
 ·obtain⟨p,F,S,n,rfl,aP,hn,q⟩:=h;refine⟨_,(ze (zv (zl nV (zT T.aq (zP qV T.aj (hM hr) (pv 0))) (pv 1) (zn _)) (ze Jq) zp)),?_⟩;obtain⟨dx,b1,b2,b3,d,bx⟩:=aP.ins;refine⟨_,rfl,p,dx,_,rfl,bx,rfl,p,F,S,rfl,aP.shape,aP.ok.dA,λl1 H1 s1 f1 e1=>?_⟩;refine⟨l1,_,rfl,.inl (ag.of e1),_,rfl,_,_,rfl,rfl,_,rfl,yr (λh=>?_) (λ_=>q H1 s1)⟩;rw[length_map]at h;exact absurd h (by omega)
inductive Nh (K:Frag) (vs:List V) (H:Hp) (Q:VK) (E:XK):Prop
 | mk (a:Addr) (ns:List Int):vs=[.ref a]->ag K H a (ns.map V.int)->ns.length<4000->(∀H',ae H H'->Q (.bl (M1.qb ns)) H')->Nh K vs H Q E
theorem Xv(F:aN K "good_couples" "good_couples" G6 f fd)(T:Txt K mg)(Xw:aB P w K mg base 1 "good_number" ["couple"] (MG K))(EB:aB P w K mg base 1 "good_length" y7 (wx K))(Ni:aB P w K mg base 1 "all_unlike" ["things"] (HN K)):av P w K mg base aQ 2 f fd ["couples"] (Nh K):=by
 refine F.ok Wr (λvs H Q E h=>?_) (λaE A outer s H vs Q E hr h=>?_)
 ·obtain⟨a,ns,rfl,_⟩:=h;rfl
 ·obtain⟨a,ns,rfl,hS,hz,q⟩:=h;refine⟨_,(ze (zk (Bi (zi EB (hM hr) rfl (za (pv 0) (za (CY T.fc rfl) zb))) (Bi (zi Ni (hM hr) rfl (za (pv 0) zb)) (Fx (zD (Kd rfl) (by rfl) T.qK boot_all (za (zS (show ak (zf G6) ["couples"] "couple" [] [] _ from cm) rfl (zx (pv 0)) (λ_ _ _ _ _=>yN) (λ_ _ _ _ _=>(zi Xw (hM hr) rfl (za (pv 0) zb)))) zb))))))),?_⟩;refine⟨_,rfl,_,_,_,rfl,.inl ⟨_,hS,rfl⟩,_,rfl,?_⟩;rw[length_map];unfold M1.qb at q;refine vp (λh1=>?_) (λh1=>?_)
  ·rw[h1,Bool.true_and]at q;refine⟨_,rfl,a,rfl,.inl ⟨ns,hS,hz,λH1 s1=>⟨_,rfl,yr (λh2=>?_) (λh2=>?_)⟩⟩⟩
   ·rw[decide_eq_true h2,Bool.true_and]at q;have Bz:=s1.seq hS;refine⟨_,rfl,a,rfl,⟨_,Bz⟩,?_⟩;refine yq (xs:=ns.map V.int) (λi ys H2=>H2=H1/\ys=((ns.take i).map λn=>decide (1<=n) && decide (n<=999)).map V.bl) ⟨rfl,rfl⟩ ?_ (by rw[length_map];have:=zt;omega) ?_ ?_
    ·rintro i ys H2 hi ⟨rfl,rfl⟩;exact⟨Bz,by simp only[length_map,length_take];omega⟩
    ·rintro i x ys H2 hx ⟨rfl,rfl⟩;obtain⟨hi,rfl⟩:=yD hx;refine⟨_,rfl,_,rfl,rfl,?_⟩;rw[y6 hi,map_append,map_append];rfl
    ·rintro ys H2 ⟨rfl,rfl⟩ l hl;rw[length_map,take_length];exact⟨l,_,rfl,ag.new,q _ (s1.ar hl)⟩
   ·rw[decide_eq_false h2,Bool.false_and]at q;exact q _ s1
  ·rw[h1,Bool.false_and]at q;exact q _ (ae.refl _)
inductive Nj (K:Frag) (vs:List V) (H:Hp) (Q:VK) (E:XK):Prop
 | mk (z:Str):vs=[.str z]->z.length<=1000->(∀H',ae H H'->Q (.bl (M2.vN z)) H')->Nj K vs H Q E
theorem Xx(F:aN K "good_name" "good_name" G7 f fd)(T:Txt K mg)(Xy:aB P w K mg base 1 "small_letter" ["sign"] (MH K))(EB:aB P w K mg base 1 "good_length" y7 (wx K)):av P w K mg base aQ 2 f fd ["judge"] (Nj K):=by
 refine F.ok Ws (λvs H Q E h=>?_) (λaE A outer s H vs Q E hr h=>?_)
 ·obtain⟨z,rfl,_⟩:=h;rfl
 ·obtain⟨z,rfl,hz,q⟩:=h;refine⟨_,(ze (zk (Bi (zi EB (hM hr) rfl (za (pv 0) (za (CY T.gv rfl) zb))) (Fx (zD (Kd rfl) (by rfl) T.qK boot_all (za (zS (show ak (zf G7) ["judge"] "sign" [] [] _ from cm) rfl (Af (pv 0)) (λ_ _ _ _ _=>yN) (λ_ _ _ _ _=>(zi Xy (hM hr) rfl (za (pv 0) zb)))) zb)))))),?_⟩;have hl:=zt;refine⟨_,rfl,_,_,_,rfl,⟨by omega,rfl⟩,_,rfl,?_⟩;unfold M2.vN at q;refine vp (λh1=>?_) (λh1=>?_)
  ·rw[h1,Bool.true_and]at q;refine⟨_,rfl,z,rfl,?_⟩;refine lq (λi ys H2=>H2=H/\ys=((z.cps.toList.take i).map pz).map V.bl) ⟨rfl,rfl⟩ ?_ (by omega) ?_ ?_
   ·rintro i ys H2 hi ⟨rfl,rfl⟩;simp only[length_map,length_take];omega
   ·rintro i d ys H2 hx ⟨rfl,rfl⟩;refine⟨_,rfl,d,rfl,rfl,?_⟩;rw[take_succ,hx,map_append,map_append];rfl
   ·rintro ys H2 ⟨rfl,rfl⟩ l hl;have e:z.cps.toList.take z.length=z.cps.toList:=take_of_length_le (by show z.cps.toList.length<=z.cps.size;rw[Array.length_toList];exact le_refl _);rw[e];exact⟨l,_,rfl,ag.new,q _ (ae.new hl)⟩
  ·rw[h1,Bool.false_and]at q;exact q _ (ae.refl _)
inductive BO (K:Frag) (vs:List V) (H:Hp) (Q:VK) (E:XK):Prop
 | mk (a b:Addr) (ns ms:List Int):vs=[.ref a,.ref b]->ag K H a (ns.map V.int)->ag K H b (ms.map V.int)->ms.length<=1000000->Q (.bl (decide (ns=ms))) H->BO K vs H Q E
theorem qY(hl:ns.length=ms.length)(h:∀j,j<ms.length->ns.getD j 0=ms.getD j 0):ns=ms:=by
 refine ext_getElem hl λj h1 h2=>?_;have:=h j h2
 rwa [getD_eq_getElem?_getD,getD_eq_getElem?_getD,getElem?_eq_getElem h1,getElem?_eq_getElem h2]at this
theorem Xz(F:aN K "_law_same" "_law_same" L8 f fd)(T:Txt K mg)(vX:aB P w K mg base 1 "_law_whole" wk (wK K)):av P w K mg base aQ 2 f fd wB (BO K):=by
 refine F.ok RQ (λvs H Q E h=>?_) (λaE A outer s H vs Q E hr h=>?_)
 ·obtain⟨a,b,ns,ms,rfl,_⟩:=h;rfl
 ·obtain⟨a,b,ns,ms,rfl,hA,hB,hz,q⟩:=h;refine⟨_,(zd (zv (PW.pt (gS (zV (zQ (zD wY (by rfl) T.ay boot_isinstance (za (pv 0) (za (mP (v:=V.ty "list") rfl T.aV boot_list rfl) zb))))) (wR (zl yQ (zT T.aq (pv 0)) (zT T.aq (pv 1)) (zn _))))) (ze (zk yf)) zp)
   (zd (yB PassesOwn.never rfl (yy rfl T.aK (za (zT T.aq (pv 1)) zb)) (zN (i:=2) RQ.nd rfl (Or.inl rfl))
     (ze (zv (PW.pt (gS (zV (zQ (zi vX (hM hr) rfl (za (zu zq (pv 0) (pv 2) (λ_ _=>rfl)) zb)))) (wR (zl yQ (zu zq (pv 0) (pv 2) (λ_ _=>rfl)) (zu zq (pv 1) (pv 2) (λ_ _=>rfl)) (zn _))))) (ze (zk yf)) zp)))
   (ze (zk yf)))),?_⟩
  refine⟨_,rfl,_,_,rfl,.yes hA,_,rfl,yY ?_⟩;refine⟨_,rfl,a,_,rfl,.inl hA,_,rfl,b,_,rfl,.inl hB,rfl,_,rfl,?_⟩;rw[length_map,length_map];refine yi (λaO=>?_) (λhe=>?_)
  ·show Q (.bl false) H;have:ns≠ms:=λe=>aO (by rw[e]);rw[decide_eq_false this]at q;exact q
  ·have hl:ns.length=ms.length:=by injection he with he;exact Int.ofNat.inj he
   refine⟨_,rfl,b,_,rfl,.inl hB,_,rfl,by omega,by rw[length_map];omega,?_⟩;rw[length_map];refine yj (λi σ H2=>∃v,σ=[some (.ref a),some (.ref b),v]/\H2=H/\∀j,j<i->ns.getD j 0=ms.getD j 0) ⟨_,rfl,rfl,λj hj=>by omega⟩ ?_ ?_
   ·rintro i σ H2 hi ⟨v,rfl,rfl,hj⟩;have iB:i<ms.length:=by simpa using hi
    have e1:cH (ns.map V.int) (0+(i:Int))=some (.int (ns.getD i 0)):=by rw[Int.zero_add];exact zC (mS (by omega))
    have e2:cH (ms.map V.int) (0+(i:Int))=some (.int (ms.getD i 0)):=by rw[Int.zero_add];exact zC (mS iB)
    refine⟨_,rfl,_,rfl,a,_,_,_,rfl,rfl,hA,e1,_,true,false,rfl,rfl,rfl,_,rfl,yY ?_⟩;refine⟨_,rfl,_,rfl,a,_,_,_,rfl,rfl,hA,e1,_,rfl,_,rfl,b,_,_,_,rfl,rfl,hB,e2,rfl,_,rfl,yi (λaO=>?_) (λhe=>?_)⟩
    ·show Q (.bl false) _;have:ns≠ms:=λe=>aO (by rw[e]);rw[decide_eq_false this]at q;exact q
    ·refine⟨_,rfl,rfl,λj FQ=>?_⟩;by_cases Bu:j=i
     ·subst Bu;injection he
     ·exact hj j (by omega)
   ·rintro σ H2 ⟨v,rfl,rfl,hj⟩;show Q (.bl true) _;have:ns=ms:=qY hl λj h=>hj j (by simpa using h);rw[decide_eq_true this]at q;exact q
inductive Nk (K:Frag) (vs:List V) (H:Hp) (Q:VK) (E:XK):Prop
 | mk (a b:Addr) (ps:List (Int×Int)):vs=[.ref a,.ref b]->Refs K (dg K) H a ps->Refs K (dg K) H b ps->ps.length<=1000->Q (.bl true) H->Nk K vs H Q E
theorem XA(F:aN K "_law_pairs" "_law_pairs" Ma f fd)(T:Txt K mg)(vX:aB P w K mg base 1 "_law_whole" wk (wK K)):av P w K mg base aQ 2 f fd G8 (Nk K):=by
 refine F.ok RR (λvs H Q E h=>?_) (λaE A outer s H vs Q E hr h=>?_)
 ·obtain⟨a,b,ps,rfl,_⟩:=h;rfl
 ·obtain⟨a,b,ps,rfl,⟨ls,hA,rA⟩,⟨ks,hB,rB⟩,hz,q⟩:=h;refine⟨_,(zd (zv (PW.pt (gS (zV (zQ (zD wY (by rfl) T.ay boot_isinstance (za (pv 0) (za (mP (v:=V.ty "list") rfl T.aV boot_list rfl) zb))))) (wR (zl yQ (zT T.aq (pv 0)) (zT T.aq (pv 1)) (zn _))))) (ze (zk yf)) zp)
   (zd (yB PassesOwn.never rfl (yy rfl T.aK (za (zT T.aq (pv 1)) zb)) (zN (i:=2) RR.nd rfl (Or.inl rfl))
     (zd (zv (PW.pt (gS (zV (zQ (zD JZ (by rfl) T.ay boot_isinstance (za (zu zq (pv 0) (pv 2) (λ_ _=>rfl)) (za (mP (v:=V.ty "tuple") rfl T.gq boot_tuple rfl) zb))))) (wR (zl yQ (zT T.aq (zu zq (pv 0) (pv 2) (λ_ _=>rfl))) zg (zn _))))) (ze (zk yf)) zp)
   (zd (zv (PW.pt (gS (zV (zQ (zi vX (hM hr) rfl (za (zu yz (zu zq (pv 0) (pv 2) (λ_ _=>rfl)) zg (λ_ _=>rfl)) zb)))) (wR (zV (zQ (zi vX (hM hr) rfl (za (zu yz (zu zq (pv 0) (pv 2) (λ_ _=>rfl)) zg (λ_ _=>rfl)) zb))))))) (ze (zk yf)) zp)
   (ze (zv (PW.pt (gS (zl yQ (zu yz (zu zq (pv 0) (pv 2) (λ_ _=>rfl)) zg (λ_ _=>rfl)) (zu yz (zu zq (pv 1) (pv 2) (λ_ _=>rfl)) zg (λ_ _=>rfl)) (zn _)) (wR (zl yQ (zu yz (zu zq (pv 0) (pv 2) (λ_ _=>rfl)) zg (λ_ _=>rfl)) (zu yz (zu zq (pv 1) (pv 2) (λ_ _=>rfl)) zg (λ_ _=>rfl)) (zn _))))) (ze (zk yf)) zp)))))
   (ze (zk yf)))),?_⟩
  have la:=rA.length;have lb:=rB.length;refine⟨_,rfl,_,_,rfl,.yes hA,_,rfl,yY ?_⟩;refine⟨_,rfl,a,_,rfl,.inl hA,_,rfl,b,_,rfl,.inl hB,rfl,_,rfl,?_⟩;rw[length_map,length_map];refine yi (λaO=>absurd (by rw[la,lb]) aO) (λhe=>?_);refine⟨_,rfl,b,_,rfl,.inl hB,_,rfl,by omega,by rw[length_map];omega,?_⟩;rw[length_map];refine yj (λi σ H2=>∃v,σ=[some (.ref a),some (.ref b),v]/\H2=H) ⟨_,rfl,rfl⟩ ?_ ?_
  ·rintro i σ H2 hi ⟨v,rfl,rfl⟩;have iB:i<ps.length:=by rw[<-lb];simpa using hi
   obtain⟨l,el,rl⟩:=rA.get (getElem?_eq_getElem iB);obtain⟨k,ek,rk⟩:=rB.get (getElem?_eq_getElem iB);generalize ps[i]=p at rl rk;have e1:cH (ls.map V.ref) (0+(i:Int))=some (.ref l):=by rw[Int.zero_add];exact zC (yU el)
   have e2:cH (ks.map V.ref) (0+(i:Int))=some (.ref k):=by rw[Int.zero_add];exact zC (yU ek)
   refine⟨_,rfl,_,rfl,a,_,_,_,rfl,rfl,hA,e1,_,_,rfl,.yes rl,_,rfl,yY ?_⟩;refine⟨_,rfl,_,rfl,a,_,_,_,rfl,rfl,hA,e1,l,_,rfl,.inr rl,rfl,_,rfl,yi (λh=>absurd rfl h) (λ_=>?_)⟩;refine⟨_,rfl,_,rfl,a,_,_,_,rfl,rfl,hA,e1,l,_,_,_,rfl,rfl,rl,rfl,_,true,false,rfl,rfl,rfl,_,rfl,yY ?_⟩;refine⟨_,rfl,_,rfl,a,_,_,_,rfl,rfl,hA,e1,l,_,_,_,rfl,rfl,rl,rfl,_,true,false,rfl,rfl,rfl,_,rfl,yY ?_⟩;refine⟨_,rfl,_,rfl,a,_,_,_,rfl,rfl,hA,e1,l,_,_,_,rfl,rfl,rl,rfl,_,rfl,_,rfl,b,_,_,_,rfl,rfl,hB,e2,k,_,_,_,rfl,rfl,rk,rfl,rfl,_,rfl,yi (λh=>absurd rfl h) (λ_=>?_)⟩;refine⟨_,rfl,_,rfl,a,_,_,_,rfl,rfl,hA,e1,l,_,_,_,rfl,rfl,rl,rfl,_,rfl,_,rfl,b,_,_,_,rfl,rfl,hB,e2,k,_,_,_,rfl,rfl,rk,rfl,rfl,_,rfl,yi (λh=>absurd rfl h) (λ_=>?_)⟩;exact⟨_,rfl,rfl⟩
  ·rintro σ H2 ⟨v,rfl,rfl⟩;exact q
inductive Nl (K:Frag) (vs:List V) (H:Hp) (Q:VK) (E:XK):Prop
 | mk (a b:Addr) (ps:List M6.R4):vs=[.ref a,.ref b]->Refs K (F4 K) H a ps->Refs K (F4 K) H b ps->ps.length<=1000->Q (.bl true) H->Nl K vs H Q E
theorem XB(F:aN K "_law_fours" "_law_fours" Mb f fd)(T:Txt K mg)(vX:aB P w K mg base 1 "_law_whole" wk (wK K)):av P w K mg base aQ 2 f fd G9 (Nl K):=by
 refine F.ok Mc (λvs H Q E h=>?_) (λaE A outer s H vs Q E hr h=>?_)
 ·obtain⟨a,b,ps,rfl,_⟩:=h;rfl
 ·obtain⟨a,b,ps,rfl,⟨ls,hA,rA⟩,⟨ks,hB,rB⟩,hz,q⟩:=h;refine⟨_,(zd (zv (PW.pt (gS (zV (zQ (zD wY (by rfl) T.ay boot_isinstance (za (pv 0) (za (mP (v:=V.ty "list") rfl T.aV boot_list rfl) zb))))) (wR (zl yQ (zT T.aq (pv 0)) (zT T.aq (pv 1)) (zn _))))) (ze (zk yf)) zp)
   (zd (yB PassesOwn.never rfl (yy rfl T.aK (za (zT T.aq (pv 1)) zb)) (zN (i:=2) Mc.nd rfl (Or.inl rfl))
     (zd (zv (PW.pt (gS (zV (zQ (zD JZ (by rfl) T.ay boot_isinstance (za (zu zq (pv 0) (pv 2) (λ_ _=>rfl)) (za (mP (v:=V.ty "tuple") rfl T.gq boot_tuple rfl) zb))))) (gS (zl yQ (zT T.aq (zu zq (pv 0) (pv 2) (λ_ _=>rfl))) zg (zn _)) (wR (zV (zQ (zD Qa (by rfl) T.ay boot_isinstance (za (zu yz (zu zq (pv 0) (pv 2) (λ_ _=>rfl)) zg (λ_ _=>rfl)) (za (mP (v:=V.ty "str") rfl T.dY boot_str rfl) zb))))))))) (ze (zk yf)) zp)
   (zd (yB PassesOwn.never rfl (yy rfl T.aK (za zg zb)) (zN (i:=3) Mc.nd rfl (Or.inl rfl))
     (ze (zv (PW.pt (gS (zV (zQ (zi vX (hM hr) rfl (za (zu yz (zu zq (pv 0) (pv 2) (λ_ _=>rfl)) (pv 3) (λ_ _=>rfl)) zb)))) (wR (zl yQ (zu yz (zu zq (pv 0) (pv 2) (λ_ _=>rfl)) (pv 3) (λ_ _=>rfl)) (zu yz (zu zq (pv 1) (pv 2) (λ_ _=>rfl)) (pv 3) (λ_ _=>rfl)) (zn _))))) (ze (zk yf)) zp)))
   (ze (zv (zl yQ (zu yz (zu zq (pv 0) (pv 2) (λ_ _=>rfl)) zg (λ_ _=>rfl)) (zu yz (zu zq (pv 1) (pv 2) (λ_ _=>rfl)) zg (λ_ _=>rfl)) (zn _)) (ze (zk yf)) zp)))))
   (ze (zk yf)))),?_⟩
  have la:=rA.length;have lb:=rB.length;refine⟨_,rfl,_,_,rfl,.yes hA,_,rfl,yY ?_⟩;refine⟨_,rfl,a,_,rfl,.inl hA,_,rfl,b,_,rfl,.inl hB,rfl,_,rfl,?_⟩;rw[length_map,length_map];refine yi (λaO=>absurd (by rw[la,lb]) aO) (λhe=>?_);refine⟨_,rfl,b,_,rfl,.inl hB,_,rfl,by omega,by rw[length_map];omega,?_⟩;rw[length_map];refine yj (λi σ H2=>∃v w,σ=[some (.ref a),some (.ref b),v,w]/\H2=H) ⟨_,_,rfl,rfl⟩ ?_ ?_
  ·rintro i σ H2 hi ⟨v,w,rfl,rfl⟩;have iB:i<ps.length:=by rw[<-lb];simpa using hi
   obtain⟨l,el,rl⟩:=rA.get (getElem?_eq_getElem iB);obtain⟨k,ek,rk⟩:=rB.get (getElem?_eq_getElem iB);generalize ps[i]=p at rl rk;have e1:cH (ls.map V.ref) (0+(i:Int))=some (.ref l):=by rw[Int.zero_add];exact zC (yU el)
   have e2:cH (ks.map V.ref) (0+(i:Int))=some (.ref k):=by rw[Int.zero_add];exact zC (yU ek)
   refine⟨_,rfl,_,rfl,a,_,_,_,rfl,rfl,hA,e1,_,_,rfl,.yes rl,_,rfl,yY ?_⟩;refine⟨_,rfl,_,rfl,a,_,_,_,rfl,rfl,hA,e1,l,_,rfl,.inr rl,rfl,_,rfl,yi (λh=>absurd rfl h) (λ_=>?_)⟩;refine⟨_,rfl,_,rfl,a,_,_,_,rfl,rfl,hA,e1,l,_,_,_,rfl,rfl,rl,rfl,_,_,rfl,rfl,_,rfl,yY ?_⟩;refine⟨_,rfl,by decide,by decide,yj (λj σ H3=>∃w,σ=[some (.ref a),some (.ref b),some (.int (0+(i:Int))),w]/\H3=H2) ⟨_,rfl,rfl⟩ ?_ ?_⟩
   ·rintro j σ H3 hj ⟨w,rfl,rfl⟩;have hj:j<3:=hj;obtain⟨z,ez⟩:∃z:Int,cH [V.int p.1,.int p.2.1,.int p.2.2.1,.str p.2.2.2] (0+(j:Int))=some (.int z):=by
     match j,hj with
     | 0,_=>exact⟨_,rfl⟩
     | 1,_=>exact⟨_,rfl⟩
     | 2,_=>exact⟨_,rfl⟩
    refine⟨_,rfl,_,rfl,a,_,_,_,rfl,rfl,hA,e1,_,rfl,l,_,_,_,rfl,rfl,rl,ez,_,true,false,rfl,rfl,rfl,_,rfl,yY ?_⟩;refine⟨_,rfl,_,rfl,a,_,_,_,rfl,rfl,hA,e1,_,rfl,l,_,_,_,rfl,rfl,rl,ez,_,rfl,_,rfl,b,_,_,_,rfl,rfl,hB,e2,_,rfl,k,_,_,_,rfl,rfl,rk,ez,rfl,_,rfl,yi (λh=>absurd rfl h) (λ_=>⟨_,rfl,rfl⟩)⟩
   ·rintro σ H3 ⟨w,rfl,rfl⟩;refine⟨_,rfl,_,rfl,a,_,_,_,rfl,rfl,hA,e1,l,_,_,_,rfl,rfl,rl,rfl,_,rfl,_,rfl,b,_,_,_,rfl,rfl,hB,e2,k,_,_,_,rfl,rfl,rk,rfl,rfl,_,rfl,yi (λh=>absurd rfl h) (λ_=>⟨_,_,rfl,rfl⟩)⟩
  ·rintro σ H2 ⟨v,w,rfl,rfl⟩;exact q
inductive Nm (K:Frag) (vs:List V) (H:Hp) (Q:VK) (E:XK):Prop
 | mk (c:Int) (a:Addr) (ns:List Int) (y:Int):vs=[.int c,.ref a,.int y]->ag K H a (ns.map V.int)->ns≠[]->ns.length<=1000->(∀(l:Addr)(H':Hp)(ms:List Int),ae H H'->H l=none->H' l=some (.lst (ms.map V.int))->ms.Perm ns->Q (.ref l) H')->Nm K vs H Q E
theorem XC(F:aN K "_law_card" "_law_card" Me f fd)(T:Txt K mg)(HV:aB P w K mg base 1 "_law_mix" Ec (HQ K)):av P w K mg base aQ 2 f fd Ha (Nm K):=by
 refine F.ok yl (λvs H Q E h=>?_) (λaE A outer s H vs Q E hr h=>?_)
 ·obtain⟨c,a,ns,y,rfl,_⟩:=h;rfl
 ·obtain⟨c,a,ns,y,rfl,hS,aO,hz,q⟩:=h;refine⟨_,(zd (zr (i:=3) yl.nd rfl (Or.inl rfl) (zK zM (by rfl) T.aV boot_list (za (pv 1) zb)))
   (zd (zv (zl wl (pv 2) zg (zn _)) (zd (zr (i:=4) yl.nd rfl (Or.inl rfl) (zo yc (pv 0) (zT T.aq (pv 1))))
   (zd (zr (i:=3) yl.nd rfl (Or.inl rfl) (zo yg (zG zX (pv 3) (zO (pv 4)) yb) (zG zX (pv 3) yb (zO (pv 4)))))
   (zd (zv (zl wl (zo yc (zo yM (pv 0) (zT T.aq (pv 1))) zg) zg (zn _)) (ze (zr (i:=3) yl.nd rfl (Or.inl rfl) (CW (pv 3) (xH xK zg)))) zp)
   (ze (zk (pv 3)))))) zp)
   (zd (zr (i:=5) yl.nd rfl (Or.inl rfl) (pv 0))
   (zd (zv (zl wl (pv 2) zg (zn _)) (ze (zr (i:=5) yl.nd rfl (Or.inl rfl) (zi HV (hM hr) rfl (za (pv 0) (za (zT T.aq (pv 1)) zb))))) zp)
   (zd (zr (i:=6) yl.nd rfl (Or.inl rfl) (zz zb))
   (zd (yB PassesOwn.never rfl (yy rfl T.aK (za (zT T.aq (pv 1)) zb)) (zN (i:=7) yl.nd rfl (Or.inl rfl))
     (zd (zr (i:=8) yl.nd rfl (Or.inl rfl) (zo yc (pv 5) (zT T.aq (pv 3))))
   (zd (zr (i:=5) yl.nd rfl (Or.inl rfl) (zo yM (pv 5) (zT T.aq (pv 3))))
   (zd (zI (wP PySem.F.plainAttrs_list PySem.F.slot_list_append PySem.F.type_list_append yO (pv 6) (za (wP PySem.F.plainAttrs_list PySem.F.slot_list_pop PySem.F.type_list_pop oA (pv 3) (za (pv 8) zb)) zb)))
   (ze (zv (zl wl (pv 2) zg (zn _)) (ze (zr (i:=5) yl.nd rfl (Or.inl rfl) (zi HV (hM hr) rfl (za (zo zR (pv 5) (pv 8)) (za (pv 7) zb))))) zp))))))
   (ze (zk (pv 6))))))))),?_⟩
  have tJ:0<ns.length:=List.length_pos_iff.mpr aO;refine⟨_,rfl,a,_,rfl,.inl hS,λp0 gO=>?_⟩;have s0:ae H (upd H p0 (.lst (ns.map V.int))):=ae.new gO;refine⟨_,rfl,rfl,_,rfl,yr (λ_=>?_) (λ_=>?_)⟩
  ·
   have ht:0<=c%(ns.map V.int).length:=Int.emod_nonneg _ (by rw[length_map];omega);refine⟨_,rfl,_,rfl,a,_,rfl,.inl (s0.seq hS),_,_,rfl,rfl,(by show(0:Int)<(ns.map V.int).length;rw[length_map];omega),?_⟩;refine⟨_,rfl,_,rfl,_,rfl,p0,_,rfl,ag.new,λp1 eL=>?_⟩;rw[wt ht];refine⟨_,rfl,_,rfl,_,rfl,p0,_,rfl,(ae.new eL).seq ag.new,λp2 fO=>?_⟩;rw[wN ht];have XD:p1≠p2:=zj zc fO;refine⟨p1,p2,_,_,rfl,rfl,by rw[zh XD];exact zc,zc,?_,λp3 gy=>?_⟩
   ·simp only[length_map,length_take,length_drop];have:=zt;omega
   rw[<-map_append];have f1:H p1=none:=s0.free eL;have s1:=s0.ar (o:=.lst ((ns.drop (c%(ns.map V.int).length).toNat).map V.int)) eL;have s2:=s1.ar (o:=.lst ((ns.take (c%(ns.map V.int).length).toNat).map V.int)) fO;have s3:=s2.ar (o:=.lst ((ns.drop (c%(ns.map V.int).length).toNat++ns.take (c%(ns.map V.int).length).toNat).map V.int)) gy;have pm:(ns.drop (c%(ns.map V.int).length).toNat++ns.take (c%(ns.map V.int).length).toNat).Perm ns:=by
    have:=List.perm_append_comm (l₁:=ns.drop (c%(ns.map V.int).length).toNat) (l₂:=ns.take (c%(ns.map V.int).length).toNat)
    rwa [take_append_drop]at this
   refine⟨_,rfl,_,rfl,a,_,rfl,.inl (s3.seq hS),_,_,rfl,rfl,⟨by rw[length_map];omega,by rw[length_map];omega⟩,_,_,rfl,rfl,(by show(0:Int)<2;decide),rfl,_,rfl,yr (λ_=>?_) (λ_=>?_)⟩
   ·refine⟨_,rfl,_,rfl,rfl,p3,_,rfl,ag.new,λp4 dZ=>?_⟩;rw[<-map_reverse];exact⟨_,rfl,q p4 _ _ (s3.ar dZ) (s3.free dZ) zc ((reverse_perm _).trans pm)⟩
   ·exact⟨_,rfl,q p3 _ _ s3 (s2.free gy) zc pm⟩
  ·
   refine⟨_,rfl,?_⟩;refine⟨_,rfl,rfl,_,rfl,yr (λ_=>?_) (λ_=>?_)⟩
   all_goals
    first
     | refine⟨by decide,λm0 HW=>?_⟩
     | refine⟨_,rfl,_,rfl,a,_,rfl,.inl (s0.seq hS),_,_,rfl,?_⟩
       refine⟨by decide,λm0 HW=>?_⟩
    have s1:=s0.ar (o:=.lst []) HW;have fm:H m0=none:=s0.free HW;have Nn:p0≠m0:=zj zc HW;refine⟨_,rfl,a,_,rfl,.inl (s1.seq hS),_,rfl,by omega,by rw[length_map];omega,?_⟩;rw[length_map];refine yj (λi σ H2=>∃(bq made:List Int)(left:Int)(v4 v7 v8:Option V),σ=[some (.int c),some (.ref a),some (.int y),some (.ref p0),v4,some (.int left),some (.ref m0),v7,v8]/\ae H H2/\H2 p0=some (.lst (bq.map V.int))/\H2 m0=some (.lst (made.map V.int))/\bq.length+i=ns.length/\(made++bq).Perm ns)
     ⟨ns,[],_,_,_,_,rfl,s1,by rw[zh Nn];exact zc,zc,rfl,List.Perm.refl _⟩ ?_ ?_
    ·rintro i σ H2 hi ⟨bq,made,left,v4,v7,v8,rfl,s2,e1,e2,hlen,pm⟩;have iB:i<ns.length:=by simpa using hi
     have hpl:0<bq.length:=by omega
     have XE:0<=left%((bq.map V.int).length:Int):=Int.emod_nonneg _ (by rw[length_map];omega);have Sk:left%((bq.map V.int).length:Int)<bq.length:=by
      have:=Int.emod_lt_of_pos left (b:=((bq.map V.int).length:Int)) (by rw[length_map];omega)
      rwa [length_map]at this ⊢
     have vV:(left%((bq.map V.int).length:Int)).toNat<bq.length:=by omega
     have qP:seqIndex? (left%((bq.map V.int).length:Int)) (bq.map V.int).length=some (left%((bq.map V.int).length:Int)).toNat:=oT XE (by rw[length_map]at Sk ⊢;exact Sk);refine⟨_,rfl,_,rfl,p0,_,rfl,.inl (ag.of e1),_,_,rfl,rfl,(by show(0:Int)<(bq.map V.int).length;rw[length_map];omega),?_⟩;refine⟨_,rfl,_,rfl,p0,_,rfl,.inl (ag.of e1),_,_,rfl,rfl,⟨by rw[length_map];omega,by rw[length_map];omega⟩,?_⟩;refine⟨_,rfl,.inl ⟨rfl,_,ag.of e2⟩,_,rfl,.inl ⟨rfl,_,ag.of e1⟩,_,rfl,p0,_,_,_,_,rfl,rfl,e1,by omega,by omega,qP,mS vV,?_⟩;generalize (left%((bq.map V.int).length:Int)).toNat=j at vV;rw[Qc];have s3:ae H (upd H2 p0 (.lst ((bq.eraseIdx j).map V.int))):=s2.put gO;refine⟨m0,_,_,rfl,rfl,by rw[zh (Ne.symm Nn)];exact e2,by rw[length_map];have:=pm.length_eq;rw[length_append]at this;have:=zt;omega,?_⟩;have s4:ae H (upd (upd H2 p0 (.lst ((bq.eraseIdx j).map V.int))) m0 (.lst ((made++[bq.getD j 0]).map V.int))):=s3.put fm;have Sl:(made++[bq.getD j 0]++bq.eraseIdx j).Perm ns:=by
      refine List.Perm.trans ?_ pm;rw[append_assoc];refine List.Perm.append_left _ ?_;have e:bq.getD j 0=bq[j]:=by rw[getD_eq_getElem?_getD,getElem?_eq_getElem vV];rfl
      rw[e];exact Qd bq j vV
     have b8:(bq.eraseIdx j).length+(i+1)=ns.length:=by rw[List.length_eraseIdx_of_lt vV];omega
     have jK:upd (upd H2 p0 (.lst ((bq.eraseIdx j).map V.int))) m0 (.lst ((made++[bq.getD j 0]).map V.int)) p0=some (.lst ((bq.eraseIdx j).map V.int)):=by rw[zh Nn];exact zc
     have XF:made.map V.int++[V.int (bq.getD j 0)]=(made++[bq.getD j 0]).map V.int:=by rw[map_append];rfl
     rw[XF];refine⟨_,rfl,rfl,_,rfl,yr (λ_=>?_) (λ_=>?_)⟩
     ·refine⟨_,rfl,_,rfl,_,_,rfl,rfl,_,rfl,_,_,rfl,?_⟩;exact⟨_,_,_,_,_,_,rfl,s4,jK,zc,b8,Sl⟩
     ·exact⟨_,_,_,_,_,_,rfl,s4,jK,zc,b8,Sl⟩
    ·rintro σ H2 ⟨bq,made,left,v4,v7,v8,rfl,s2,e1,e2,hlen,pm⟩;have hl0:(ns.length:Int).toNat=ns.length:=Int.toNat_natCast _;have hp:bq=[]:=List.eq_nil_of_length_eq_zero (by omega);subst hp;rw[append_nil]at pm;exact⟨_,rfl,q m0 _ _ s2 fm e2 pm⟩
inductive EC (K:Frag) (vs:List V) (H:Hp) (Q:VK) (E:XK):Prop
 | mk (a b:Addr) (cs:List (List Int)) (us:List Int):vs=[.ref a,.ref b]->Refs K (IL K) H a cs->ag K H b (us.map V.int)->cs.length<=500->us.length<=500->((∀u∈us,∀d∈cs,u∈d))->(∀(l:Addr)(H':Hp),ae H H'->H l=none->H' l=some (.lst ((M5.ka cs us).map V.int))->Q (.ref l) H')->EC K vs H Q E
theorem XG(F:aN K "_law_spots" "_law_spots" Ef f fd)(T:Txt K mg)(BP:aB P w K mg base 1 "_law_marks" wH (Er K))(XH:aB P w K mg base 1 "_law_key" GI (MO K)):av P w K mg base aQ 2 f fd wG (EC K):=by
 refine F.ok RS (λvs H Q E h=>?_) (λaE A outer s H vs Q E hr h=>?_)
 ·obtain⟨a,b,cs,us,rfl,_⟩:=h;rfl
 ·obtain⟨a,b,cs,us,rfl,hA,hB,hz,hu,hm,q⟩:=h;refine⟨_,(zd (zr (i:=2) RS.nd rfl (Or.inr rfl) (zS (show ak (zf Ef) Mf "_law_couple" ["_law_cards","_law_couples_here"] [0,1] _ from cm) rfl (zx (pv 1)) (λ_ _ _ _ _=>yN) (λ_ _ _ _ _=>(zi XH (hM hr) rfl (za (zi BP (hM hr) rfl (za (pv 1) (za (pv 0) zb))) (za (j4 (K:=K) rfl T.aq (pv 2)) zb))))))
   (ze (zk (pB (show aY (zf Ef) Mf "_law_mine" ["_law_ranks"] [2] _ from K8) rfl (zx (pv 2)) (λ_ _ _ _ _ _=>yN) (λ_ _ _ _ _ _=>(zo zR zg (j4 (K:=K) rfl T.aq (zS (ak.under (show ak _ ["_law_mine","_law_ranks"] "_law_rank" ["_law_mine"] [0] _ from cm)) rfl (o8 (K:=K) rfl (pv 1)) (λ_ _ _ _ _=>(yL (zl (U1 (K:=K) rfl hr.aS) (pv 0) (pv 1) (zn _)))) (λ_ _ _ _ _=>(pv 0)))))))))),?_⟩
  have cj:=zt;refine⟨_,rfl,b,rfl,⟨_,hB⟩,?_⟩;refine yq (xs:=us.map V.int) (λi ys H2=>ae H H2/\∃ls:List Addr,ys=ls.map V.ref/\All2 (IL K H2) ls ((us.take i).map λc=>M5.key (M5.zm cs c) us.length)) ⟨ae.refl _,[],rfl,.nil⟩ ?_ (by rw[length_map];omega) ?_ ?_
  ·rintro i ys H2 hi ⟨s2,ls,rfl,r⟩;refine⟨s2.seq hB,?_⟩;have:=r.length;rw[length_map,length_take]at this;rw[length_map];omega
  ·rintro i x ys H2 hx ⟨s2,ls,rfl,r⟩;obtain⟨hi,rfl⟩:=yD hx;refine⟨_,rfl,_,rfl,a,cs,_,rfl,hA.same (IL.stays K) s2,by omega,hm _ (oU hi),λl3 H3 s3 f3 e3=>?_⟩;have ED:=s2.trans s3;refine⟨_,rfl,b,_,rfl,.inl (ED.seq hB),l3,_,_,rfl,ag.of e3,by rw[M5.ya];omega,by omega,by rw[length_map];omega,λl4 H4 s4 f4 e4=>?_⟩;have el:(((us.map V.int).length:Nat):Int).toNat=us.length:=by rw[length_map];omega
   rw[el]at e4;refine⟨ED.trans s4,ls++[l4],by rw[map_append];rfl,?_⟩;rw[y6 hi,map_append];exact(r.imp λx y=>IL.stays K _ _ _ _ (s3.trans s4)).snoc (show IL K H4 l4 _ from ag.of e4)
  rintro ys H2 ⟨s2,ls,rfl,r⟩ l5 iD;rw[length_map,take_length]at r;generalize se:upd H2 l5 _=H5;have s5:ae H2 H5:=by rw[<-se];exact ae.new iD
  have t5:H5 l5=some (.lst (ls.map V.ref)):=by rw[<-se];exact zc
  have r5:All2 (IL K H5) ls (M5.um cs us):=r.imp λx y=>IL.stays K _ _ _ _ s5;have lr:(M5.um cs us).length=us.length:=by unfold M5.um;rw[length_map]
  have ll:=r5.length;have fX:M5.ka cs us=(M5.um cs us).map λm=>1+(M5.tm (M5.um cs us) m:Int):=rfl;rw[fX]at q;generalize M5.um cs us=rs at r5 lr ll q;refine⟨_,rfl,l5,rfl,⟨_,ag.of t5⟩,?_⟩;refine yq (xs:=ls.map V.ref) (λi ys H6=>ae H5 H6/\ys=((rs.take i).map λm=>1+(M5.tm rs m:Int)).map V.int) ⟨ae.refl _,rfl⟩ ?_ (by rw[length_map];omega) ?_ ?_
  ·rintro i ys H6 hi ⟨s6,rfl⟩;refine⟨s6.seq (ag.of t5),?_⟩;rw[length_map,length_map,length_take];omega
  ·rintro i x ys H6 hx ⟨s6,rfl⟩;obtain⟨l,el,rfl⟩:=uh hx;obtain⟨m,em,rm⟩:=r5.getL el;have q6:ag K H6 l5 (ls.map V.ref):=s6.seq (ag.of t5);have m6:=IL.stays K _ _ _ _ s6 rm;refine⟨_,rfl,l5,rfl,⟨_,q6⟩,?_⟩;refine y9 (xs:=ls.map V.ref) (λj zs H7=>H7=H6/\zs.length=((rs.take j).filter λr=>HT.lexLt r m).length) ⟨rfl,rfl⟩ ?_ (by rw[length_map];omega) ?_ ?_
   ·rintro j zs H7 hj ⟨rfl,e⟩;refine⟨q6,?_⟩;have:=length_filter_le (λr=>HT.lexLt r m) (rs.take j);rw[length_take]at this;omega
   ·rintro j y zs H7 hy ⟨rfl,e⟩;obtain⟨k,ek,rfl⟩:=uh hy;obtain⟨r',er,rr⟩:=r5.getL ek;have r6:=IL.stays K _ _ _ _ s6 rr;refine⟨_,rfl,_,rfl,k,l,_,_,rfl,rfl,r6,m6,_,rfl,vp (λh=>?_) (λh=>?_)⟩
    ·refine⟨_,rfl,rfl,?_⟩;rw[take_succ,er,filter_append,length_append,length_append,e];show _+1=_+(filter (λr=>HT.lexLt r m) [r']).length;rw[filter_cons_of_pos (by simpa using h)];rfl
    ·refine⟨rfl,?_⟩;rw[take_succ,er,filter_append,length_append,e];show _=_+(filter (λr=>HT.lexLt r m) [r']).length;rw[filter_cons_of_neg (by simpa using h)];rfl
   rintro zs H7 ⟨rfl,e⟩ l8 Eu;rw[length_map,ll,take_length]at e;refine⟨l8,_,rfl,.inl ag.new,_,_,rfl,rfl,s6.ar Eu,?_⟩;rw[e,take_succ,em,map_append,map_append];rfl
  ·rintro ys H6 ⟨s6,rfl⟩ l9 vW;rw[length_map,ll,take_length];exact q l9 _ ((s2.trans (s5.trans s6)).ar vW) ((s2.trans (s5.trans s6)).free vW) zc
inductive Np (K:Frag) (vs:List V) (H:Hp) (Q:VK) (E:XK):Prop
 | mk (a b c:Addr) (cs:List (List Int)) (us:List Int):vs=[.ref a,.ref b,.ref c]->Refs K (IL K) H a cs->ag K H b (us.map V.int)->ag K H c ((M6.zw cs us).map V.int)->cs.length<=500->us.length<=500->((∀u∈us,∀d∈cs,u∈d))->(∀(l:Addr)(H':Hp)(ls:List Addr),ae H H'->H l=none->H' l=some (.lst (ls.map V.ref))->All2 (F4 K H') ls (M6.AE cs us)->Q (.ref l) H')->Np K vs H Q E
theorem XI(F:aN K "_law_parts" "_law_parts" Mg f fd)(T:Txt K mg)(BP:aB P w K mg base 1 "_law_marks" wH (Er K))(HX:aB P w K mg base 1 "_law_rows" Ed (HR K))(XJ:aB P w K mg base 1 "_law_part" GL (MR K)):av P w K mg base aQ 2 f fd Hb (Np K):=by
 refine F.ok wj (λvs H Q E h=>?_) (λaE A outer s H vs Q E hr h=>?_)
 ·obtain⟨a,b,c,cs,us,rfl,_⟩:=h;rfl
 ·obtain⟨a,b,c,cs,us,rfl,hA,hB,hC,hz,hu,hm,q⟩:=h;refine⟨_,(zd (zr (i:=3) wj.nd rfl (Or.inl rfl) (zi HX (hM hr) rfl (za (pv 2) (za (pv 1) zb))))
   (zd (zr (i:=4) wj.nd rfl (Or.inl rfl) (zz zb))
   (zd (yB PassesOwn.never rfl (xB rfl T.aK (za zg (za (zT T.aq (pv 3)) zb))) (zN (i:=5) wj.nd rfl (Or.inl rfl))
     (ze (zv (zl yQ (zu yz (zu zq (pv 3) (pv 5) (λ_ _=>rfl)) zg (λ_ _=>rfl)) (zu yz (zu zq (pv 3) (zo nT (pv 5) zg) (λ_ _=>rfl)) zg (λ_ _=>rfl)) (zn _)) (zd (zr (i:=6) wj.nd rfl (Or.inl rfl) (zu yz (zu zq (pv 3) (zo nT (pv 5) zg) (λ_ _=>rfl)) zg (λ_ _=>rfl)))
   (zd (zr (i:=7) wj.nd rfl (Or.inl rfl) (zu yz (zu zq (pv 3) (pv 5) (λ_ _=>rfl)) zg (λ_ _=>rfl)))
   (zd (zr (i:=8) wj.nd rfl (Or.inl rfl) (zi XJ (hM hr) rfl (za (zi BP (hM hr) rfl (za (pv 0) (za (pv 6) zb))) (za (zi BP (hM hr) rfl (za (pv 0) (za (pv 7) zb))) (za (zT T.aq (pv 1)) zb)))))
   (ze (zI (wP PySem.F.plainAttrs_list PySem.F.slot_list_append PySem.F.type_list_append yO (pv 4) (za (og (za (pv 6) (za (pv 7) (za (zu yz (pv 8) zg (λ_ _=>rfl)) (za (zu yz (pv 8) zg (λ_ _=>rfl)) zb))))) zb))))))) zp)))
   (ze (zk (pv 4)))))),?_⟩
  have cj:=zt;refine⟨_,rfl,_,rfl,c,b,_,us,rfl,hC,hB,M6.yp cs us,hu,λl1 H1 ls s1 f1 e1 r1=>?_⟩;have AN:=M5.aL (M6.zw cs us) us (M6.yp cs us);have hmul:us.length*us.length<=500*500:=mul_le_mul hu hu;have ee:=λp (hp:p∈M5.rows (M6.zw cs us) us)=>M6.Gp hp;unfold M6.AE at q;generalize M5.rows (M6.zw cs us) us=rs at r1 AN ee q;have cJ:=r1.length;refine⟨by decide,λp2 fO=>?_⟩;have s2:=ae.new (o:=.lst []) fO;refine⟨_,rfl,l1,_,rfl,.inl (ag.of (s2 _ _ e1)),_,_,rfl,⟨by decide,by decide,by rw[length_map];omega,by rw[length_map];omega⟩,?_⟩;refine yj (λi σ H2=>∃(v5 v6 v7 v8:Option V)(ms:List Addr),σ=[some (.ref a),some (.ref b),some (.ref c),some (.ref l1),some (.ref p2),v5,v6,v7,v8]/\ae H1 H2/\H2 p2=some (.lst (ms.map V.ref))/\All2 (F4 K H2) ms (((rs.zip rs.tail).take i).filterMap λpq=>M6.nb cs us pq.1 pq.2)) ⟨_,_,_,_,[],rfl,s2,zc,.nil⟩ ?_ ?_
  ·rintro i σ H2 hi ⟨v5,v6,v7,v8,ms,rfl,bV,e2,r2⟩;rw[length_map]at hi;have iA:i+1<rs.length:=by omega
   have Sm:i<rs.length:=by omega
   have ez:(rs.zip rs.tail)[i]? = some (rs[i],rs[i+1]):=by
    rw[getElem?_eq_getElem (by rw[length_zip,length_tail];omega),List.getElem_zip,List.getElem_tail]
   obtain⟨la,XM,ra⟩:=r1.get (getElem?_eq_getElem Sm);obtain⟨lb,XN,rb⟩:=r1.get (getElem?_eq_getElem iA);obtain⟨BQ,HY⟩:=ee _ (getElem_mem Sm);obtain⟨BR,HZ⟩:=ee _ (getElem_mem iA);rw[take_succ,ez,List.filterMap_append];generalize rs[i]=pa at ra BQ HY ⊢;generalize rs[i+1]=pb at rb BR HZ ⊢;have q1:ag K H2 l1 (ls.map V.ref):=ag.of (bV _ _ e1);have ta:=bV.ia ra;have tb:=bV.ia rb;have ea:cH (ls.map V.ref) (1+(i:Int)-1)=some (.ref la):=by
    have:(1:Int)+(i:Int)-1=(i:Int):=by omega
    rw[this];exact zC (yU XM)
   have eb:cH (ls.map V.ref) (1+(i:Int))=some (.ref lb):=by
    have:(1:Int)+(i:Int)=((i+1:Nat):Int):=by omega
    rw[this];exact zC (yU XN)
   refine⟨_,rfl,_,rfl,l1,_,_,_,rfl,rfl,q1,eb,lb,_,_,_,rfl,rfl,tb,rfl,_,rfl,_,rfl,_,_,rfl,rfl,l1,_,_,_,rfl,rfl,q1,ea,la,_,_,_,rfl,rfl,ta,rfl,rfl,_,rfl,yi (λaO=>?_) (λhe=>?_)⟩
   ·have aO:¬pa.1=pb.1:=λz=>aO (by rw[z]);refine⟨_,rfl,_,rfl,_,_,rfl,rfl,l1,_,_,_,rfl,rfl,q1,ea,la,_,_,_,rfl,rfl,ta,rfl,?_⟩;refine⟨_,rfl,_,rfl,l1,_,_,_,rfl,rfl,q1,eb,lb,_,_,_,rfl,rfl,tb,rfl,?_⟩;have Sn:=s1.trans bV;refine⟨_,rfl,_,rfl,a,cs,_,rfl,hA.same (IL.stays K) Sn,by omega,hm _ BQ,λl3 H3 s3 f3 e3=>?_⟩;have ED:=Sn.trans s3;refine⟨_,rfl,_,rfl,a,cs,_,rfl,hA.same (IL.stays K) ED,by omega,hm _ BR,λl4 H4 s4 f4 e4=>?_⟩;have XO:=ED.trans s4;refine⟨_,rfl,b,_,rfl,.inl (XO.seq hB),l3,l4,_,_,us.length,?_,ag.of (s4 _ _ e3),ag.of e4,by rw[M5.ya,M5.ya],by rw[M5.ya];omega,by omega,?_,?_⟩
    ·rw[length_map];rfl
    ·intro hn;have hp:=M6.Gn (M5.zm cs pa.2) (M5.zm cs pb.2) us.length;exact absurd (M6.Gi hp hn) (M6.VU (by rw[<-HY,<-HZ];exact aO))
    ·intro r hr l5 H5 s5 hT;have hp:=M6.Gi (M6.Gn (M5.zm cs pa.2) (M5.zm cs pb.2) us.length) hr;have Nq:=s3.trans (s4.trans s5);have Ia:=Nq _ _ e2;refine⟨_,rfl,.inl ⟨rfl,_,ag.of Ia⟩,_,rfl,_,rfl,_,rfl,l5,_,_,_,rfl,rfl,hT,rfl,_,rfl,l5,_,_,_,rfl,rfl,hT,rfl,(by show 4<=sizeLine;decide),λp6 mF=>?_⟩;have s6:=ae.new (o:=.tup [.int pa.2,.int pb.2,.int (r.1:Nat),.str r.2]) mF;have b8:=r2.length;have eG:=List.length_filterMap_le (λpq:(Int×Int)×(Int×Int)=>M6.nb cs us pq.1 pq.2) ((rs.zip rs.tail).take i);rw[length_take]at eG;refine⟨p2,_,_,rfl,rfl,s6 _ _ Ia,by rw[length_map];omega,?_⟩;refine⟨_,_,_,_,ms++[p6],rfl,(bV.trans (Nq.trans s6)).put fO,Lf ms p6,?_⟩;have en:M6.nb cs us pa pb=some (pa.2,pb.2,(r.1:Int),r.2):=by unfold M6.nb;rw[if_neg aO,hp];rfl
     have ef:filterMap (λpq:(Int×Int)×(Int×Int)=>M6.nb cs us pq.1 pq.2) (some (pa,pb)).toList=[(pa.2,pb.2,(r.1:Int),r.2)]:=by
      show filterMap _ [(pa,pb)]=_;rw[List.filterMap_cons_some (f:=λpq:(Int×Int)×(Int×Int)=>M6.nb cs us pq.1 pq.2) (a:=(pa,pb)) en,filterMap_nil]
     rw[ef];refine All2.snoc (F4.put (r2.imp λ_ _=>F4.stays K _ _ _ _ (Nq.trans s6)) (s6 _ _ Ia)) ?_;exact bN.put (ys:=ms.map V.ref) bN.new (s6 _ _ Ia)
   ·have he:pb.1=pa.1:=by injection he
    have en:M6.nb cs us pa pb=none:=by unfold M6.nb;rw[if_pos he.symm]
    have ef:filterMap (λpq:(Int×Int)×(Int×Int)=>M6.nb cs us pq.1 pq.2) (some (pa,pb)).toList=[]:=by
     show filterMap _ [(pa,pb)]=_;rw[List.filterMap_cons_none (f:=λpq:(Int×Int)×(Int×Int)=>M6.nb cs us pq.1 pq.2) (a:=(pa,pb)) en,filterMap_nil]
    rw[ef,append_nil];exact⟨_,_,_,_,ms,rfl,bV,e2,r2⟩
  ·rintro σ H2 ⟨v5,v6,v7,v8,ms,rfl,bV,e2,r2⟩;have et:(rs.zip rs.tail).take ((((ls.map V.ref).length:Nat):Int)-1).toNat=rs.zip rs.tail:=take_of_length_le (by rw[length_zip,length_tail,length_map];omega);rw[et]at r2;exact⟨_,rfl,q p2 _ ms (s1.trans bV) (s1.free fO) e2 r2⟩
inductive Nr (K:Frag) (vs:List V) (H:Hp) (Q:VK) (E:XK):Prop
 | mk (p c:Int) (a:Addr) (cs:List (List Int)) (n:Nat):vs=[.int p,.int c,.ref a,.int n]->Refs K (IL K) H a cs->cs.length<=15->((∀d∈cs,c∈d))->((∀x∈M5.zm cs c,1<=x/\x<=24))->n<=24->p.natAbs<=990->c.natAbs<=1000->(∀H',ae H H'->Q (.str (M6.uw p c (M5.zm cs c) n)) H')->Nr K vs H Q E
theorem XQ(F:aN K "_law_line" "_law_line" Mh f fd)(T:Txt K mg)(BP:aB P w K mg base 1 "_law_marks" wH (Er K))(XR:aB P w K mg base 1 "_law_words" GV (MX K))(XS:aB P w K mg base 1 "_law_ladder" GX (MY K)):av P w K mg base aQ 2 f fd Hc (Nr K):=by
 refine F.ok RT (λvs H Q E h=>?_) (λaE A outer s H vs Q E hr h=>?_)
 ·obtain⟨p,c,a,cs,n,rfl,_⟩:=h;rfl
 ·obtain⟨p,c,a,cs,n,rfl,hA,hz,hc,hx,hn,hp,nA,q⟩:=h;refine⟨_,(zd (zr (i:=4) RT.nd rfl (Or.inl rfl) (zi BP (hM hr) rfl (za (pv 2) (za (pv 1) zb))))
   (ze (zk (zi XR (hM hr) rfl (za (zo yg (zo yg (zo yg (zz (za (pv 0) (za (pv 1) (za ye zb)))) (pv 4)) (zz (za ye zb))) (zi XS (hM hr) rfl (za (pv 4) (za (pv 3) zb)))) zb))))),?_⟩
  have cj:=zt;refine⟨_,rfl,_,rfl,a,cs,c,rfl,hA,by omega,hc,λl1 H1 s1 f1 e1=>?_⟩;have BS:=M5.ya cs c;generalize M5.zm cs c=ms at e1 BS hx q;refine⟨_,rfl,_,rfl,(by show 3<=sizeLine;decide),λl2 b8=>?_⟩;have s2:=s1.ar (o:=.lst [.int p,.int c,.str M6.bar]) b8;have e2:upd H1 l2 (.lst [.int p,.int c,.str M6.bar]) l2=some (.lst [.int p,.int c,.str M6.bar]):=zc;have jt:=(ae.new (o:=.lst [.int p,.int c,.str M6.bar]) b8) _ _ e1;change ae H (upd H1 l2 (.lst [.int p,.int c,.str (Str.ofString "|")]))at s2;change upd H1 l2 (.lst [.int p,.int c,.str (Str.ofString "|")]) l2=_ at e2;change upd H1 l2 (.lst [.int p,.int c,.str (Str.ofString "|")]) l1=_ at jt;generalize Ib:upd H1 l2 _=H2 at s2 e2 jt ⊢;refine⟨_,rfl,l2,l1,_,_,rfl,rfl,e2,jt,by rw[length_map];simp only[length_cons,length_nil];omega,λl3 c8=>?_⟩;have s3:=s2.ar (o:=.lst ([.int p,.int c,.str M6.bar]++ms.map V.int)) c8;have e3:upd H2 l3 (.lst ([.int p,.int c,.str M6.bar]++ms.map V.int)) l3=some (.lst ([.int p,.int c,.str M6.bar]++ms.map V.int)):=zc;have EE:=(ae.new (o:=.lst ([.int p,.int c,.str M6.bar]++ms.map V.int)) c8) _ _ jt;generalize gN:upd H2 l3 _=H3 at s3 e3 EE ⊢;refine⟨(by show 1<=sizeLine;decide),λl4 ng=>?_⟩;have s4:=ae.new (o:=.lst [.str M6.bar]) ng;change ae H3 (upd H3 l4 (.lst [.str (Str.ofString "|")]))at s4;refine⟨l3,l4,_,[.str M6.bar],rfl,rfl,s4 _ _ e3,zc,by rw[length_append,length_map];simp only[length_cons,length_nil];omega,λl5 iD=>?_⟩;have s5:=s4.ar (o:=.lst ([.int p,.int c,.str M6.bar]++ms.map V.int++[.str M6.bar])) iD;have e5:upd (upd H3 l4 (.lst [.str (Str.ofString "|")])) l5 (.lst ([.int p,.int c,.str M6.bar]++ms.map V.int++[.str M6.bar])) l5=some (.lst ([.int p,.int c,.str M6.bar]++ms.map V.int++[.str M6.bar])):=zc;generalize se:upd (upd H3 l4 _) l5 _=H5 at s5 e5 ⊢;have t5:=s3.trans s5;refine⟨_,rfl,_,rfl,l1,ms,n,rfl,ag.of (s5 _ _ EE),by omega,hx,hn,λl6 H6 s6 f6 e6=>?_⟩;have XT:=M6.Rr ms n;refine⟨l5,l6,_,_,rfl,rfl,s6 _ _ e5,e6,by simp only[length_append,length_map,length_cons,length_nil];omega,λl7 nh=>?_⟩;have s7:=(t5.trans s6).ar (o:=.lst ([.int p,.int c,.str M6.bar]++ms.map V.int++[.str M6.bar]++(M6.gM ms n).map V.str)) nh;refine⟨l7,_,M6.jf p c ms n,rfl,ag.new,?_,?_,?_,λH' s'=>q H' (s7.trans s')⟩
  ·have XU:All2 dM [.int p,.int c,.str M6.bar] ([tN p,tN c]++[M6.bar]):=.cons (.int (by omega)) (.cons (.int (by omega)) (.cons .str .nil));exact((XU.append (Ru λx h=>by have:=hx x h;omega)).append (Ls [M6.bar])).append (Ls _)
  ·unfold M6.jf;simp only[length_append,length_map,length_cons,length_nil];omega
  ·intro w hw;exact M6.Rt (by omega) hx hp nA n w hw
inductive yw (K:Frag) (vs:List V) (H:Hp) (Q:VK) (E:XK):Prop
 | mk (p:Addr) (F:Addr->Prop) (S:Sh):vs=[.ref p]->ao K H p F S->(∀(l:Addr)(H':Hp)(ks:List Addr),ae H H'->H l=none->H' l=some (.lst (ks.map V.ref))->All2 (λk c=>H k=none/\H' k=some (.lst (c.map V.int))) ks S.ai->Q (.ref l) H')->yw K vs H Q E
theorem XX(F:aN K "cards" "Sheet.cards" Hd f fd)(T:Txt K mg)(qV:bD P w K mg base 1 (zL K "Sheet") "handed" yd (yk K))(vY:br P w K mg base 2 (zL K "Sheet") "card_of" yo (yI K)):av P w K mg base aQ 3 f fd yh (yw K):=by
 refine F.ok Wt (λvs H Q E h=>?_) (λaE A outer s H vs Q E hr h=>?_)
 ·obtain⟨p,F,S,rfl,_⟩:=h;rfl
 ·obtain⟨p,F,S,rfl,aP,q⟩:=h;refine⟨_,(ze (zk (zS (show ak (zf Hd) ["self"] "judge" ["self"] [0] _ from cm) rfl (zx (zP qV T.aj (hM hr) (pv 0))) (λ_ _ _ _ _=>yN) (λ_ _ _ _ _=>(yT vY T.aj jQ (hM hr) (pv 1) (za (pv 0) zb)))))),?_⟩;have cj:=zt;have fD:=aP.ok.dA;have bx:∃dx fs,H p=some (.ins (zL K "Sheet") dx fs)/\fs.lookup ("handed":Str)=none/\fs.lookup ("card_of":Str)=none:=by
   obtain⟨dx,a1,a2,a3,d,aw,h⟩:=aP;exact⟨dx,_,h.ip,rfl,rfl⟩
  obtain⟨dx,fs,bx,XY,XZ⟩:=bx;refine⟨_,rfl,p,dx,_,rfl,bx,XY,p,F,S,rfl,aP.shape,fD,λa H1 s1 f1 e1=>?_⟩;have b8:S.handed.length<=15:=le_trans (length_filter_le _ _) fD;refine⟨a,rfl,⟨_,ag.of e1⟩,?_⟩;refine yq (xs:=S.handed.map V.str) (λi ys H2=>∃ks:List Addr,ys=ks.map V.ref/\ae H1 H2/\All2 (λk c=>H k=none/\H2 k=some (.lst (c.map V.int))) ks ((S.handed.take i).map λj=>(S.card j).getD [])) ⟨[],rfl,ae.refl _,.nil⟩ ?_ (by rw[length_map];omega) ?_ ?_
  ·rintro i ys H2 hi ⟨ks,rfl,s2,r2⟩;refine⟨s2.seq (ag.of e1),?_⟩;have:=r2.length;rw[length_map,length_take]at this;rw[length_map];omega
  ·rintro i x ys H2 hx ⟨ks,rfl,s2,r2⟩;obtain⟨hi,rfl⟩:=Ag hx;have hm:=List.mem_filter.mp (show S.handed.getD i "" ∈ S.af.filter λj=>(S.card j).isSome from wn hi);have bV:=s1.trans s2;cases e:S.card (S.handed.getD i "")with
   | none=>rw[e]at hm;exact absurd hm.2 Bool.false_ne_true
   | some c =>
     refine⟨_,rfl,p,dx,_,rfl,bV _ _ bx,XZ,_,rfl,p,F,S,_,rfl,aP.same bV,λhj=>absurd hm.1 hj,(λ_ z=>by rw[e]at z;cases z),λc' e' l H3 s3 f3 e3=>?_⟩;rw[e]at e';cases e';refine⟨ks++[l],by rw[map_append];rfl,s2.trans s3,?_⟩;rw[yA hi,map_append];refine(r2.imp λ_ _ z=>⟨z.1,s3 _ _ z.2⟩).snoc ⟨bV.free f3,?_⟩;dsimp only;rw[e];exact e3
  ·rintro ys H2 ⟨ks,rfl,s2,r2⟩ l hl;rw[length_map,take_length]at r2;exact q l _ ks ((s1.trans s2).ar hl) ((s1.trans s2).free hl) zc (r2.imp λ_ _ z=>⟨z.1,ae.new hl _ _ z.2⟩)
theorem uI{P G:Prop}(hG:P->G)(h:P):G:=hG h
inductive Nt (K:Frag) (vs:List V) (H:Hp) (Q:VK) (E:XK):Prop
 | mk (y n g k:Addr) (F:Addr->Prop) (S:Sh) (f:List Int) (ls:List Addr) (turn cell:Int):vs=[.ref y,.ref n,.ref g,.ref k,.int turn,.int cell]->ao K H y F (Sh.new f S.af)->(H n=some (.lst (S.af.map V.str))/\¬F n)->(H g=some (.lst (S.struck.map V.int))/\¬F g)->Rows F H k ls S.rows->S.Ok->dN f S->(∀(H':Hp)(F':Addr->Prop)(T:Sh),ao K H' y F' T->T.aa=S.aa->T.af=S.af->T.card=S.card->bE F H F' H'->Q .bo H')->Nt K vs H Q E
def vZ(K:Frag)(H0 H:Hp)(F0 F:Addr->Prop)(S T:Sh)(f os lt:List Int)(y la lo:Addr)(i:Nat):Prop :=
 ao K H y F T/\(T.af=S.af/\T.aa=f/\T.cu=false/\T.taken<=i)/\(H la=some (.lst (lt.map V.int))/\¬F la)/\(H lo=some (.lst (os.map V.int))/\¬F lo)/\bE F0 H0 F H/\(lt.length<=i/\∀x∈lt,0<=x/\x<S.af.length)/\(∀j m,T.card j=some m->∃c,S.card j=some c/\dh S.struck m=c)/\∀x∈os.take i,S.card (S.af.getD x.toNat "")=none\/T.card (S.af.getD x.toNat "")≠none\/x∈lt
theorem xa{S:Sh}{p:Nat}(hp:p<S.af.length)(aO:¬S.rows.getD p []=[]):S.card (S.af.getD p "")=some (S.rows.getD p []):=by
 have e:=S.eK hp;cases hc:S.card (S.af.getD p "")with
 | none=>rw[hc]at e;exact absurd e aO
 | some d=>rw[hc]at e;rw[e];rfl
variable {i:Nat}
theorem Nu{os:List Int}(hi:i<os.length):os.take (i+1)=os.take i++[os.getD i 0]:=by
 rw[take_succ,getD_eq_getElem?_getD,getElem?_eq_getElem hi];rfl
theorem EF{N:Nat}(t:Int){p:Nat}(hp:p<N):(p:Int)∈(List.range N).map fun(k:Nat)=>(t+(k:Int))%(N:Int):=by
 have w0:=Int.emod_nonneg ((p:Int)-t) (b:=(N:Int)) (by omega);have w1:=Int.emod_lt_of_pos ((p:Int)-t) (b:=(N:Int)) (by omega);refine List.mem_map.mpr ⟨(((p:Int)-t)%(N:Int)).toNat,List.mem_range.mpr (by omega),?_⟩;rw[show(((((p:Int)-t)%(N:Int)).toNat:Nat):Int)=((p:Int)-t)%(N:Int)by omega,Int.add_emod,Int.emod_emod,<-Int.add_emod,show t+((p:Int)-t)=(p:Int)by omega];exact Int.emod_eq_of_lt (by omega) (by omega)
theorem uJ{rs:List Int}(hi:i<rs.length)(nd:rs.Nodup):rs.getD i 0∉rs.take i:=by
 have e:=take_append_drop (i+1) rs;rw[Nu hi,append_assoc]at e;rw[<-e,nodup_append]at nd;intro z;exact nd.2.2 _ z (rs.getD i 0) (by simp) rfl
theorem X0(F:aN K "_law_second" "_law_second" He f fd)(T:Txt K mg)(X1:aB P w K mg base 1 "_law_filled" G4 (M8 K))(xb:br P w K mg base 2 (zL K "Sheet") "hand_in" yn (yH K))(Nv:br P w K mg base 2 (zL K "Sheet") "strike" wq (HS K)):av P w K mg base aQ 3 f fd Hf (Nt K):=by
 refine F.ok yu (λvs H Q E h=>?_) (λaE A outer s H vs Q E hr h=>?_)
 ·obtain⟨y,n,g,k,F,S,f,ls,turn,cell,rfl,_⟩:=h;rfl
 ·obtain⟨y,n,g,k,F,S,f,ls,turn,cell,rfl,hY,hN,hG,hR,ok,hh,q⟩:=h;refine⟨_,(zd (yK (i:=6) (show ak (zf He) RU "_law_k" ["_law_names","_law_turn"] [1,4] _ from cm) rfl yu.nd rfl (Or.inl rfl) (yy rfl T.aK (za (zT T.aq (pv 1)) zb)) (λ_ _ _ _ _=>yN) (λ_ _ _ _ _=>(zo yc (zo zR (pv 2) (pv 0)) (j4 (K:=K) rfl T.aq (pv 1)))))
   (zd (jN (zv (zl wl (zo yc (zo yM (pv 4) zg) zg) zg (zn _)) (ze (zr (i:=6) yu.nd rfl (Or.inl rfl) (CW (pv 6) (xH xK zg)))) zp))
   (zd (zr (i:=7) yu.nd rfl (Or.inl rfl) (zz zb))
   (zd (zr (i:=8) yu.nd rfl (Or.inl rfl) (pv 5))
   (zd (yB PassesOwn.never rfl (zx (pv 6)) (zN (i:=9) yu.nd rfl (Or.inl rfl))
     (zd (jN (zv (PW.pt (sJ (zl (wz hr.aS) (zu zq (pv 3) (pv 9) (λ_ _=>rfl)) (zz zb) (zn _)) (sI (zl wl (zo yc (pv 8) zg) zg (zn _))))) (ze (zI (yT xb T.aj jQ (hM hr) (pv 0) (za (zu zq (pv 1) (pv 9) (λ_ _=>rfl)) (za (zi X1 (hM hr) rfl (za (zu zq (pv 3) (pv 9) (λ_ _=>rfl)) (za (pv 2) (za (zo zR (zo yM (pv 5) zg) (zo rJ zg (pv 9))) zb)))) zb))))) (ze (zI (wP PySem.F.plainAttrs_list PySem.F.slot_list_append PySem.F.type_list_append yO (pv 7) (za (pv 9) zb))))))
   (ze (zr (i:=8) yu.nd rfl (Or.inl rfl) (zo yM (pv 8) zg)))))
   (zd (yB PassesOwn.never rfl (zx (CW (pv 2) (xH xK zg))) (zN (i:=10) yu.nd rfl (Or.inl rfl))
     (ze (zI (yT Nv T.aj jQ (hM hr) (pv 0) (za (pv 10) zb)))))
   (ze (yB PassesOwn.never rfl (zx (pv 7)) (zN (i:=9) yu.nd rfl (Or.inl rfl))
     (ze (zv (zl (wz hr.aS) (zu zq (pv 3) (pv 9) (λ_ _=>rfl)) (zz zb) (zn _)) (ze (zI (yT xb T.aj jQ (hM hr) (pv 0) (za (zu zq (pv 1) (pv 9) (λ_ _=>rfl)) (za (zK zM (by rfl) T.aV boot_list (za (zu zq (pv 3) (pv 9) (λ_ _=>rfl)) zb)) zb))))) zp)))))))))),?_⟩
  have cj:=zt;have X2:f.Nodup:=hY.ok.nd;have p1:=ok.p1;have dA:=ok.dA;have c1:=ok.c1;have cG:=ok.cG;have EG:=hh.nd X2;have eG:S.aa.length+S.struck.length=f.length:=by
   have:=hh.pm.length_eq;rw[length_append]at this;exact this
  refine⟨_,rfl,n,_,rfl,.inl (ag.of hN.1),_,rfl,by omega,by rw[length_map];omega,?_⟩;rw[length_map,show((S.af.length:Nat):Int).toNat=S.af.length by omega];refine FR (λi ys H2=>ae H H2/\ys=((List.range i).map fun(k:Nat)=>(turn+(k:Int))%(S.af.length:Int)).map V.int) ⟨ae.refl _,rfl⟩ ?_ (by omega) ?_ ?_
  ·rintro i ys H2 hi ⟨_,rfl⟩;rw[length_map,length_map,length_range];exact le_refl _
  ·rintro i ys H2 hi ⟨s2,rfl⟩;refine⟨_,rfl,_,rfl,_,_,rfl,rfl,_,rfl,n,_,rfl,.inl (ag.of (s2 _ _ hN.1)),?_⟩;rw[length_map];refine⟨_,_,rfl,rfl,(by show(0:Int)<S.af.length;omega),s2,?_⟩;rw[range_succ,map_append,map_append,Int.zero_add];rfl
  rintro ys H1 ⟨s1,rfl⟩ lo xU;have o1:∀x∈(List.range S.af.length).map (fun(k:Nat)=>(turn+(k:Int))%(S.af.length:Int)),0<=x/\x<S.af.length:=λx hx=>by
   obtain⟨k,_,rfl⟩:=List.mem_map.mp hx;exact⟨Int.emod_nonneg _ (by omega),Int.emod_lt_of_pos _ (by omega)⟩
  have o2:∀p:Nat,p<S.af.length->(p:Int)∈(List.range S.af.length).map (fun(k:Nat)=>(turn+(k:Int))%(S.af.length:Int)):=λp hp=>EF turn hp;have o3:((List.range S.af.length).map (fun(k:Nat)=>(turn+(k:Int))%(S.af.length:Int))).length=S.af.length:=by rw[length_map,length_range]
  generalize X3:(List.range S.af.length).map (fun(k:Nat)=>(turn+(k:Int))%(S.af.length:Int))=os at o1 o2 o3 ⊢;have s2:=s1.ar (o:=.lst (os.map V.int)) xU;have e2:upd H1 lo (.lst (os.map V.int)) lo=some (.lst (os.map V.int)):=zc;have f2:=s1.free xU;generalize Ib:upd H1 lo _=H2 at s2 e2 ⊢;refine⟨λσ H'=>∃(lo:Addr)(os:List Int),σ=[some (.ref y),some (.ref n),some (.ref g),some (.ref k),some (.int turn),some (.int cell),some (.ref lo),none,none,none,none]/\ae H H'/\H lo=none/\H' lo=some (.lst (os.map V.int))/\(∀x∈os,0<=x/\x<S.af.length)/\(∀p:Nat,p<S.af.length->(p:Int)∈os)/\os.length=S.af.length,?_,?_⟩
  ·refine⟨_,rfl,_,_,rfl,rfl,⟨by decide,by decide⟩,_,_,rfl,rfl,(by show(0:Int)<2;decide),rfl,_,rfl,yr (λ_=>?_) (λ_=>⟨lo,os,rfl,s2,f2,e2,o1,o2,o3⟩)⟩;refine⟨_,rfl,_,rfl,rfl,lo,_,rfl,ag.of e2,λl hl=>?_⟩;rw[<-map_reverse];exact⟨l,os.reverse,rfl,s2.ar hl,s2.free hl,zc,λx hx=>o1 x (List.mem_reverse.mp hx),λp hp=>List.mem_reverse.mpr (o2 p hp),by rw[List.length_reverse];exact o3⟩
  clear s1 xU o1 o2 o3 X3 s2 e2 f2 Ib;rintro σ H3 ⟨lo,os,rfl,s3,f3,e3,o1,o2,o3⟩;refine⟨(by show 0<=sizeLine;decide),λla sf=>?_⟩;have s4:=s3.ar (o:=.lst []) sf;have e4:upd H3 la (.lst []) la=some (.lst (([]:List Int).map V.int)):=zc;have Nw:=(ae.new (o:=.lst []) sf) _ _ e3;have X4:lo≠la:=zj e3 sf;have fla:=s3.free sf;generalize uE:upd H3 la _=H4 at s4 e4 Nw ⊢;refine⟨_,rfl,?_⟩;refine⟨_,rfl,lo,rfl,⟨_,ag.of Nw⟩,?_⟩;refine uX (xs:=os.map V.int) (λi σ H'=>∃(F1:Addr->Prop)(T:Sh)(lt:List Int)(r:Int)(v:Option V),σ=[some (.ref y),some (.ref n),some (.ref g),some (.ref k),some (.int turn),some (.int cell),some (.ref lo),some (.ref la),some (.int r),v,none]/\vZ K H H' F F1 S T f os lt y la lo i) ⟨F,Sh.new f S.af,[],cell,none,rfl,hY.same s4,⟨rfl,rfl,rfl,zero_le _⟩,⟨e4,hY.apart fla⟩,⟨Nw,hY.apart f3⟩,bE.same s4,⟨zero_le _,by simp⟩,(λ_ _ z=>nomatch z),by simp⟩ ?_ ?_ ?_
  ·rintro i σ H5 hi ⟨F1,T,lt,r,v,rfl,w⟩;exact ag.of w.2.2.2.1.1
  ·rintro i yv σ H5 hy ⟨F1,T,lt,r,v,rfl,hT,⟨tp,tc,ts,tt⟩,⟨ea,na⟩,⟨eo,no⟩,d,⟨ll,lr⟩,A,B⟩;obtain⟨hi,rfl⟩:=yD hy;obtain⟨x0,x1⟩:=o1 _ (oU hi);obtain⟨p,hp,eL⟩:∃p:Nat,os.getD i 0=(p:Int)/\p<S.af.length:=⟨(os.getD i 0).toNat,by omega,by omega⟩;have tk:=Nu hi;rw[hp]at tk ⊢;have Nx:=d _ _ hN.1 hN.2;have Ny:=d _ _ hG.1 hG.2;have AO:=hR.eh d;have AQ:p<S.rows.length:=by rw[S.aL];exact eL
   obtain⟨lp,EH,EI⟩:=AO.2.2.at AQ [];have vD:(S.rows.getD p []).length<=24:=Sh.gn ok (by rw[getD_eq_getElem?_getD,getElem?_eq_getElem AQ];exact getElem_mem _);refine⟨λσ H'=>∃(F1:Addr->Prop)(T:Sh)(lt:List Int),σ=[some (.ref y),some (.ref n),some (.ref g),some (.ref k),some (.int turn),some (.int cell),some (.ref lo),some (.ref la),some (.int r),some (.int p),none]/\vZ K H H' F F1 S T f os lt y la lo (i+1),?_,?_⟩
   ·refine⟨_,rfl,_,rfl,k,_,_,_,rfl,rfl,ag.of AO.1,zC (yU EH),(by show 0<=sizeLine;decide),λl6 fE=>?_⟩;have s6:=ae.new (o:=.lst []) fE;refine⟨lp,l6,_,[],rfl,rfl,ag.of (s6 _ _ EI.1),ag.new,zy _,rfl,_,rfl,?_⟩;rw[show dG ((S.rows.getD p []).map V.int) []=decide (S.rows.getD p []=[])from yx _ []];generalize qR:upd H5 l6 _=H6 at s6 ⊢;have BU:=hT.same s6;apply uI
    ·intro AR;refine yi (λaO=>?_) (λ_=>yY AR);refine⟨_,rfl,_,_,rfl,rfl,(by show(0:Int)<2;decide),rfl,_,rfl,yr (λ_=>?_) (λ_=>AR)⟩;clear AR;have EJ:=xa eL aO;have AS:=(ok.cd _ _ EJ).2;obtain⟨dx,b1,b2,b3,dd,bx⟩:=BU.ins;refine⟨_,rfl,y,dx,_,rfl,bx,rfl,_,rfl,_,rfl,n,_,_,_,rfl,rfl,ag.of (s6 _ _ Nx.1),zC (tK eL),_,rfl,_,rfl,k,_,_,_,rfl,rfl,ag.of (s6 _ _ AO.1),zC (yU EH),_,rfl,_,rfl,_,_,rfl,rfl,⟨by decide,by decide⟩,_,rfl,_,_,rfl,rfl,.inl ⟨by decide,by decide⟩,_,_,rfl,rfl,lp,g,S.rows.getD p [],S.struck,_,rfl,ag.of (s6 _ _ EI.1),ag.of (s6 _ _ Ny.1),by omega,λlm H7 ms s7 f7 e7 hf=>?_⟩;have So:ms.Perm f:=hf.pm.trans ((AS.append_right _).trans hh.pm);have BS:=So.length_eq;have uK:T.refuse (S.af.getD p "") ms=none:=by
      unfold Sh.refuse;rw[ts,if_neg Bool.false_ne_true,if_pos (by rw[tp];exact wn eL),if_pos (by rw[tc];exact So),if_neg (by omega)]
     refine⟨y,F1,T,_,lm,ms,rfl,BU.same s7,ag.of e7,by omega,λc hc=>(by rw[uK]at hc;cases hc),λ_ H8 F8 h8 d8=>?_⟩;have t7:=s6.trans s7;refine⟨F8,T.hand (S.af.getD p "") ms,lt,rfl,h8,⟨tp,tc,ts,by show T.taken+1<=i+1;omega⟩,d8 _ _ (t7 _ _ ea) na,d8 _ _ (t7 _ _ eo) no,d.trans ((bE.same t7).trans d8),⟨by omega,lr⟩,λj m z=>?_,λx hx=>?_⟩
     ·have z:(if j=S.af.getD p "" then some ms else T.card j)=some m:=z;by_cases hj:j=S.af.getD p ""
      ·rw[if_pos hj]at z;cases z;exact⟨_,by rw[hj];exact EJ,by rw[hf.cut S.struck (λx hx=>hx)];exact mj λx hx=>EG.2.1 x (AS.mem_iff.mp hx)⟩
      ·rw[if_neg hj]at z;exact A j m z
     ·rw[tk]at hx;rcases List.mem_append.mp hx with hx | hx
      ·rcases B x hx with w | w | w
       ·exact .inl w
       ·refine .inr (.inl ?_);show(if _=_ then some ms else T.card _)≠none;split
        ·exact λz=>by cases z
        ·exact w
       ·exact .inr (.inr w)
      ·rw[List.mem_singleton.mp hx];refine .inr (.inl ?_);show(if S.af.getD ((p:Int)).toNat ""=S.af.getD p "" then some ms else _)≠none;rw[show((p:Int)).toNat=p by omega,if_pos rfl];exact λz=>by cases z
    ·refine⟨_,rfl,.inl ⟨rfl,_,ag.of (s6 _ _ ea)⟩,_,rfl,la,_,_,rfl,rfl,s6 _ _ ea,by rw[length_map];omega,?_⟩;refine⟨F1,T,lt++[(p:Int)],rfl,BU.put na,⟨tp,tc,ts,by omega⟩,⟨by rw[zc,map_append];rfl,na⟩,⟨by rw[zh X4];exact s6 _ _ eo,no⟩,λb o e nb=>⟨by rw[zh (zj e fla)];exact s6 _ _ (d b o e nb).1,(d b o e nb).2⟩,⟨by rw[length_append];show lt.length+1<=i+1;omega,λx hx=>?_⟩,A,λx hx=>?_⟩
     ·rcases List.mem_append.mp hx with hx | hx
      ·exact lr x hx
      ·rw[List.mem_singleton.mp hx];omega
     ·rw[tk]at hx;rcases List.mem_append.mp hx with hx | hx
      ·rcases B x hx with w | w | w
       ·exact .inl w
       ·exact .inr (.inl w)
       ·exact .inr (.inr (mem_append_left _ w))
      ·exact .inr (.inr (mem_append_right _ hx))
   ·rintro σ H7 ⟨F7,T7,X5,rfl,w⟩;exact⟨_,rfl,_,_,rfl,rfl,⟨by decide,by decide⟩,F7,T7,X5,_,_,rfl,w⟩
  rintro σ H5 ⟨F1,T,lt,r,v,rfl,hT,⟨tp,tc,ts,tt⟩,⟨ea,na⟩,⟨eo,no⟩,d,⟨ll,lr⟩,A,B⟩;rw[length_map]at tt ll B;rw[take_length]at B;have Ny:=d _ _ hG.1 hG.2;refine⟨_,rfl,_,rfl,rfl,g,_,rfl,ag.of Ny.1,λlv Sq=>?_⟩;rw[<-map_reverse];have Sr:S.struck.reverse.Nodup:=(reverse_perm S.struck).nodup_iff.mpr EG.1;have rm:∀x,x∈S.struck.reverse↔x∈S.struck:=λx=>List.mem_reverse;generalize S.struck.reverse=rs at Sr rm ⊢;have s6:=ae.new (o:=.lst (rs.map V.int)) Sq;have e6:upd H5 lv (.lst (rs.map V.int)) lv=some (.lst (rs.map V.int)):=zc;have nv:¬F1 lv:=hT.apart Sq;generalize qR:upd H5 lv _=H6 at s6 e6 ⊢;refine⟨lv,rfl,⟨_,ag.of e6⟩,?_⟩;refine uX (xs:=rs.map V.int) (λi σ H'=>∃(F2:Addr->Prop)(T2:Sh)(w:Option V),σ=[some (.ref y),some (.ref n),some (.ref g),some (.ref k),some (.int turn),some (.int cell),some (.ref lo),some (.ref la),some (.int r),v,w]/\ao K H' y F2 T2/\(T2.af=S.af/\T2.aa=dh (rs.take i) f/\T2.cu=false/\T2.taken<=15/\T2.card=λj=>(T.card j).map (dh (rs.take i)))/\(H' la=some (.lst (lt.map V.int))/\¬F2 la)/\(H' lv=some (.lst (rs.map V.int))/\¬F2 lv)/\bE F H F2 H') ⟨F1,T,none,rfl,hT.same s6,⟨tp,by rw[tc];exact(Lv f).symm,ts,by omega,?_⟩,⟨s6 _ _ ea,na⟩,⟨e6,nv⟩,d.trans (bE.same s6)⟩ ?_ ?_ ?_
  ·funext j;cases T.card j with
   | none=>rfl
   | some m=>show some m=some (dh [] m);rw[Lv]
  ·rintro i σ H7 hi ⟨F2,T2,w,rfl,_,_,_,z,_⟩;exact ag.of z.1
  ·rintro i yv σ H7 hy ⟨F2,T2,w,rfl,Ic,⟨Nz,AU,By,NA,EK⟩,⟨Ie,NB⟩,⟨X6,X7⟩,d2⟩;obtain⟨hi,rfl⟩:=yD hy;have tk:=Nu hi;have Ig:=uJ hi Sr;have vH:=(rm _).mp (oU hi);generalize rs.getD i 0=c at tk Ig vH ⊢;have hc:c∈T2.aa:=by rw[AU];exact kn.mpr ⟨EG.2.2 c vH,Ig⟩
   have h2:T2.aa.length≠1:=λz=>by
    obtain⟨a,ha⟩:=List.length_eq_one_iff.mp z;have e0:S.aa.getD 0 0∈S.aa:=oU (by omega);have e1:S.aa.getD 0 0∈T2.aa:=by
     rw[AU];exact kn.mpr ⟨hh.pm.mem_iff.mp (mem_append_left _ e0),λz=>EG.2.1 _ e0 ((rm _).mp (List.mem_of_mem_take z))⟩
    rw[ha,mem_singleton]at hc e1;exact EG.2.1 _ e0 (by rw[e1,<-hc];exact vH)
   have EL:T2.bh c=none:=by
    unfold Sh.bh;rw[By,if_neg (by decide),if_pos hc,if_neg h2]
   obtain⟨dx,b1,b2,b3,dd,bx⟩:=Ic.ins;refine⟨_,rfl,y,dx,_,rfl,bx,rfl,_,rfl,y,F2,T2,c,rfl,Ic,λz hz=>(by rw[EL]at hz;cases hz),λ_ H8 F8 h8 d8=>?_⟩;refine⟨F8,T2.aT c,_,rfl,h8,⟨Nz,?_,By,NA,?_⟩,d8 _ _ Ie NB,d8 _ _ X6 X7,d2.trans d8⟩
   ·show wo c T2.aa=_;rw[AU,ji,tk]
   ·show(λj=>(T2.card j).map (wo c))=_;rw[EK,tk];funext j;show((T.card j).map (dh (rs.take i))).map (wo c)=(T.card j).map (dh (rs.take i++[c]));cases T.card j with
    | none=>rfl
    | some m=>show some (wo c (dh (rs.take i) m))=some (dh (rs.take i++[c]) m);rw[ji]
  rintro σ H7 ⟨F2,T2,w,rfl,Ic,⟨Nz,AU,By,NA,EK⟩,⟨Ie,NB⟩,_,d2⟩;rw[length_map,take_length]at AU EK;rw[Rv rm,<-hh.cp]at AU;refine⟨_,rfl,la,rfl,⟨_,ag.of Ie⟩,?_⟩;refine uX (xs:=lt.map V.int) (λi σ H'=>∃(F3:Addr->Prop)(T3:Sh)(v w:Option V),σ=[some (.ref y),some (.ref n),some (.ref g),some (.ref k),some (.int turn),some (.int cell),some (.ref lo),some (.ref la),some (.int r),v,w]/\ao K H' y F3 T3/\(T3.af=S.af/\T3.aa=S.aa/\T3.cu=false/\T3.taken<=15+i)/\(H' la=some (.lst (lt.map V.int))/\¬F3 la)/\bE F H F3 H'/\(∀j m,T3.card j=some m->S.card j=some m)/\∀x∈os,S.card (S.af.getD x.toNat "")=none\/T3.card (S.af.getD x.toNat "")≠none\/x∈lt.drop i) ⟨F2,T2,v,w,rfl,Ic,⟨Nz,AU,By,NA⟩,⟨Ie,NB⟩,d2,λj m z=>?_,λx hx=>?_⟩ ?_ ?_ ?_
  ·rw[EK]at z;cases hc:T.card j with
   | none=>rw[show(λj=>(T.card j).map (dh rs)) j=(T.card j).map (dh rs)from rfl,hc]at z;cases z
   | some m0 =>
     rw[show(λj=>(T.card j).map (dh rs)) j=(T.card j).map (dh rs)from rfl,hc]at z;cases z;obtain⟨c,a1,a2⟩:=A j m0 hc;rw[a1,<-a2,Rv rm]
  ·rcases B x hx with z | z | z
   ·exact .inl z
   ·refine .inr (.inl ?_);rw[EK];show(T.card _).map (dh rs)≠none;cases hc:T.card (S.af.getD x.toNat "")with
    | none=>exact absurd hc z
    | some m0=>exact λz=>by cases z
   ·exact .inr (.inr z)
  ·rintro i σ H8 hi ⟨F3,T3,v,w,rfl,_,_,z,_⟩;exact ag.of z.1
  ·rintro i yv σ H8 hy ⟨F3,T3,v,w,rfl,Ih,⟨EM,EN,Ii,X8⟩,⟨NC,ND⟩,d3,A3,B3⟩;obtain⟨hi,rfl⟩:=yD hy;obtain⟨x0,x1⟩:=lr _ (oU hi);obtain⟨p,hp,eL⟩:∃p:Nat,lt.getD i 0=(p:Int)/\p<S.af.length:=⟨(lt.getD i 0).toNat,by omega,by omega⟩;have dk:lt.drop i=(p:Int)::lt.drop (i+1):=by
    rw[drop_eq_getElem_cons hi,<-hp,getD_eq_getElem?_getD,getElem?_eq_getElem hi];rfl
   rw[hp];have Nx:=d3 _ _ hN.1 hN.2;have AO:=hR.eh d3;have AQ:p<S.rows.length:=by rw[S.aL];exact eL
   obtain⟨lp,EH,EI⟩:=AO.2.2.at AQ [];have vD:(S.rows.getD p []).length<=24:=Sh.gn ok (by rw[getD_eq_getElem?_getD,getElem?_eq_getElem AQ];exact getElem_mem _);refine⟨_,rfl,_,rfl,k,_,_,_,rfl,rfl,ag.of AO.1,zC (yU EH),(by show 0<=sizeLine;decide),λl6 fE=>?_⟩;have s6:=ae.new (o:=.lst []) fE;refine⟨lp,l6,_,[],rfl,rfl,ag.of (s6 _ _ EI.1),ag.new,zy _,rfl,_,rfl,?_⟩;rw[show dG ((S.rows.getD p []).map V.int) []=decide (S.rows.getD p []=[])from yx _ []];generalize qR:upd H8 l6 _=H9 at s6 ⊢;have BU:=Ih.same s6;refine yi (λaO=>?_) (λhe=>⟨F3,T3,_,_,rfl,BU,⟨EM,EN,Ii,by omega⟩,⟨s6 _ _ NC,ND⟩,d3.trans (bE.same s6),A3,λx hx=>?_⟩)
   ·have EJ:=xa eL aO;have AS:=(ok.cd _ _ EJ).2;have BS:=AS.length_eq;obtain⟨dx,b1,b2,b3,dd,bx⟩:=BU.ins;refine⟨_,rfl,y,dx,_,rfl,bx,rfl,_,rfl,_,rfl,n,_,_,_,rfl,rfl,ag.of (s6 _ _ Nx.1),zC (tK eL),_,rfl,_,rfl,k,_,_,_,rfl,rfl,ag.of (s6 _ _ AO.1),zC (yU EH),lp,_,rfl,.inl (ag.of (s6 _ _ EI.1)),λlm X9=>?_⟩;have s7:=s6.ar (o:=.lst ((S.rows.getD p []).map V.int)) X9;have e7:upd H9 lm (.lst ((S.rows.getD p []).map V.int)) lm=some (.lst ((S.rows.getD p []).map V.int)):=zc;generalize M7:upd H9 lm _=uG at s7 e7 ⊢;have uK:T3.refuse (S.af.getD p "") (S.rows.getD p [])=none:=by
     unfold Sh.refuse;rw[Ii,if_neg Bool.false_ne_true,if_pos (by rw[EM];exact wn eL),if_pos (by rw[EN];exact AS),if_neg (by omega)]
    refine⟨y,F3,T3,_,lm,_,rfl,Ih.same s7,ag.of e7,by omega,λc hc=>(by rw[uK]at hc;cases hc),λ_ EO F8 h8 d8=>?_⟩;refine⟨F8,T3.hand (S.af.getD p "") (S.rows.getD p []),_,_,rfl,h8,⟨EM,EN,Ii,by show T3.taken+1<=15+(i+1);omega⟩,d8 _ _ (s7 _ _ NC) ND,d3.trans ((bE.same s7).trans d8),λj m z=>?_,λx hx=>?_⟩
    ·have z:(if j=S.af.getD p "" then some (S.rows.getD p [])else T3.card j)=some m:=z;by_cases hj:j=S.af.getD p ""
     ·rw[if_pos hj]at z;rw[hj,EJ,z]
     ·rw[if_neg hj]at z;exact A3 j m z
    ·have ky:∀{j:Str},(T3.card j≠none\/j=S.af.getD p "")->(T3.hand (S.af.getD p "") (S.rows.getD p [])).card j≠none:=λ{j} h=>by
      show(if j=S.af.getD p "" then some (S.rows.getD p [])else T3.card j)≠none;by_cases hj:j=S.af.getD p ""
      ·rw[if_pos hj];exact λz=>by cases z
      ·rw[if_neg hj];exact h.elim id λz=>absurd z hj
     rcases B3 x hx with z | z | z
     ·exact .inl z
     ·exact .inr (.inl (ky (.inl z)))
     ·rw[dk]at z;rcases List.mem_cons.mp z with z | z
      ·exact .inr (.inl (ky (.inr (by rw[z];rfl))))
      ·exact .inr (.inr z)
   ·rcases B3 x hx with z | z | z
    ·exact .inl z
    ·exact .inr (.inl z)
    ·rw[dk]at z;rcases List.mem_cons.mp z with z | z
     ·refine .inl ?_;rw[z];show S.card (S.af.getD p "")=none;have he:S.rows.getD p []=[]:=he;rw[S.eK eL]at he;cases hc:S.card (S.af.getD p "")with
      | none=>rfl
      | some c=>rw[hc]at he;exact absurd he (ok.full hc)
     ·exact .inr (.inr z)
  rintro σ H8 ⟨F3,T3,v,w,rfl,Ih,⟨EM,EN,Ii,X8⟩,⟨NC,ND⟩,d3,A3,B3⟩;rw[length_map,List.drop_length]at B3;refine q H8 F3 T3 Ih EN EM ?_ d3;funext j;cases hc:T3.card j with
  | some m=>exact(A3 j m hc).symm
  | none =>
    cases hs:S.card j with
    | none=>rfl
    | some c =>
      have hj:=(ok.cd j c hs).1;obtain⟨p,hp,e⟩:=List.mem_iff_getElem.mp hj;have e2:S.af.getD ((p:Int)).toNat ""=j:=by
       show S.af.getD p ""=j;rw[getD_eq_getElem?_getD,getElem?_eq_getElem hp,<-e];rfl
      rcases B3 _ (o2 p hp)with z | z | z
      ·rw[e2,hs]at z;cases z
      ·rw[e2,hc]at z;exact absurd rfl z
      ·cases z
inductive NF (K:Frag) (vs:List V) (H:Hp) (Q:VK) (E:XK):Prop
 | mk (a:Addr) (ms:List Int) (n:Int):vs=[.ref a,.int n]->ag K H a (ms.map V.int)->ms.length<=1000->0<=n->n<=1000->(∀(l:Addr)(H':Hp)(ls:List Addr),ae H H'->H l=none->H' l=some (.lst (ls.map V.ref))->All2 (dg K H') ls (M6.mY ms n.toNat)->Q (.ref l) H')->NF K vs H Q E
theorem Ya(F:aN K "ladder_of" "ladder_of" Hg f fd)(T:Txt K mg)(nq:aB P w K mg base 2 "granted" AI (BN K))(AV:aB P w K mg base 2 "granted_sum" wd (wC K)):av P w K mg base aQ 3 f fd Hh (NF K):=by
 refine F.ok Wu (λvs H Q E h=>?_) (λaE A outer s H vs Q E hr h=>?_)
 ·obtain⟨a,ms,n,rfl,_⟩:=h;rfl
 ·obtain⟨a,ms,n,rfl,hS,hz,h0,h1,q⟩:=h;refine⟨_,(ze (zk (zS (show ak (zf Hg) ["marks","last"] "number" ["marks"] [0] _ from cm) rfl (xB rfl T.aK (za zg (za (zo zR (pv 1) zg) zb))) (λ_ _ _ _ _=>yN) (λ_ _ _ _ _=>(og (za (zi nq (hM hr) rfl (za (pv 1) (za (pv 0) zb))) (za (zi AV (hM hr) rfl (za (pv 1) (za (pv 0) zb))) zb))))))),?_⟩;refine⟨_,rfl,_,_,rfl,rfl,_,_,rfl,⟨by omega,by omega,by omega,by omega⟩,?_⟩;have en:(n+1-1).toNat=n.toNat:=by omega
  rw[en];refine FR (λi ys H2=>∃ks:List Addr,ys=ks.map V.ref/\ae H H2/\All2 (dg K H2) ks (M6.mY ms i)) ⟨[],rfl,ae.refl _,.nil⟩ ?_ (by have:=zt;omega) ?_ ?_
  ·rintro i ys H2 hi ⟨ks,rfl,s2,r2⟩;have:=r2.length;rw[M6.Gk]at this;rw[length_map];omega
  ·rintro i ys H2 hi ⟨ks,rfl,s2,r2⟩;refine⟨_,rfl,_,rfl,a,ms,_,rfl,s2.seq hS,hz,λH3 s3=>?_⟩;refine⟨_,rfl,_,rfl,a,ms,_,rfl,(s2.trans s3).seq hS,hz,λH4 s4=>?_⟩;refine⟨by show 2<=sizeLine;decide,λt ht=>?_⟩;have s5:=(s2.trans s3).trans s4;refine⟨ks++[t],by rw[map_append];rfl,s5.ar ht,?_⟩;rw[M6.Rc,Int.add_comm (i:Int) 1];exact(r2.imp λ_ _=>dg.stays K _ _ _ _ ((s3.trans s4).ar ht)).snoc (show dg K _ t _ from bN.new)
  ·rintro ys H2 ⟨ks,rfl,s2,r2⟩ l hl;refine q l _ ks (s2.ar hl) ?_ zc (r2.imp λ_ _=>dg.stays K _ _ _ _ (ae.new hl));cases e:H l with
   | none=>rfl
   | some u=>have:=s2 l u e;rw[hl]at this;cases this
def NG:Option Int->V
 | none=>.bo
 | some n=>.int n
inductive Ij (K:Frag) (vs:List V) (H:Hp) (Q:VK) (E:XK):Prop
 | mk (a b:Addr) (ms us:List Int) (f:Int):vs=[.ref a,.ref b]->ag K H a (ms.map V.int)->ag K H b (us.map V.int)->1<=ms.length->ms.length<=60->us.length<=60->((∀x∈ms,1<=x/\x<=24))->((∀x∈us,1<=x/\x<=24))->M3.cO ms f->M3.cO us f->(∀(r:Option Int)(H':Hp),ae H H'->M6.D2 ms us f r->Q (NG r) H')->Ij K vs H Q E
theorem Yb(F:aN K "unlike_at" "unlike_at" Mi f fd)(T:Txt K mg)(nq:aB P w K mg base 2 "granted" AI (BN K))(AV:aB P w K mg base 2 "granted_sum" wd (wC K))(qZ:aB P w K mg base 2 "first_number" ["marks"] (wp K)):av P w K mg base aQ 3 f fd Eg (Ij K):=by
 refine F.ok RV (λvs H Q E h=>?_) (λaE A outer s H vs Q E hr h=>?_)
 ·obtain⟨a,b,ms,us,f,rfl,_⟩:=h;rfl
 ·obtain⟨a,b,ms,us,f,rfl,hA,hB,h1,hz,FY,hm,hu,fF,fG,q⟩:=h;refine⟨_,(zd (yB PassesOwn.never rfl (xB rfl T.aK (za (zi qZ (hM hr) rfl (za (pv 0) zb)) (za (zo zR (zD (U2 rfl) (by rfl) T.D9 boot_max (za (zo tR (pv 0) (pv 1)) zb)) zg) zb))) (zN (i:=2) RV.nd rfl (Or.inl rfl))
   (zd (jN (zv (zl yQ (zi nq (hM hr) rfl (za (pv 0) (za (pv 2) zb))) (zi nq (hM hr) rfl (za (pv 1) (za (pv 2) zb))) (zn _)) (ze (zk (pv 2))) zp))
   (ze (jN (zv (zl yQ (zi AV (hM hr) rfl (za (pv 0) (za (pv 2) zb))) (zi AV (hM hr) rfl (za (pv 1) (za (pv 2) zb))) (zn _)) (ze (zk (pv 2))) zp)))))
   (ze (zk Bg))),?_⟩
  have cj:=zt;have aO:ms≠[]:=by intro z;rw[z]at h1;simp at h1
  refine⟨_,rfl,a,ms,rfl,hA,aO,hz,hm,λH1 f' s1 si=>?_⟩;have ef:=M3.DW si fF;subst ef;refine⟨_,rfl,_,rfl,a,b,_,_,rfl,rfl,s1.seq hA,s1.seq hB,(by rw[length_map,length_map];omega),λl hl=>?_⟩;rw[<-map_append];refine⟨l,ms++us,rfl,ag.new,(by rw[length_append];omega),λM hM Ss=>?_⟩;have hMr:1<=M/\M<=24:=by
   rcases List.mem_append.mp hM with z | z
   ·exact hm M z
   ·exact hu M z
  have Su:∀x∈ms,x<=M:=λx hx=>Ss x (mem_append_left _ hx);have Yc:∀x∈us,x<=M:=λx hx=>Ss x (mem_append_right _ hx);have Ig:=M3.DX si 1 M λx hx=>⟨(hm x hx).1,Su x hx⟩;refine⟨_,_,rfl,rfl,_,_,rfl,⟨by omega,by omega,by omega,by omega⟩,?_⟩;generalize Ib:upd H1 l _=H2;have s2:ae H H2:=by rw[<-Ib];exact s1.ar hl
  refine yj (λi σ H3=>∃v,σ=[some (.ref a),some (.ref b),v]/\ae H H3/\∀j,f'<=j->j<f'+i->M3.cnt ms j=M3.cnt us j/\M3.sm ms j=M3.sm us j) ⟨_,rfl,s2,λj j1 j2=>by omega⟩ ?_ ?_
  ·rintro i σ H3 hi ⟨v,rfl,s3,hj⟩;refine⟨λσ' H'=>σ'=[some (.ref a),some (.ref b),some (.int (f'+i))]/\ae H H'/\M3.cnt ms (f'+i)=M3.cnt us (f'+i),?_,?_⟩
   ·refine⟨_,rfl,_,rfl,a,ms,_,rfl,s3.seq hA,by omega,λH4 s4=>?_⟩;refine⟨_,rfl,_,rfl,b,us,_,rfl,(s3.trans s4).seq hB,by omega,λH5 s5=>?_⟩;refine⟨rfl,_,rfl,yi (λaO=>?_) (λhe=>?_)⟩
    ·refine⟨_,rfl,q (some (f'+i)) _ ((s3.trans s4).trans s5) ⟨by omega,by omega,hj,λz=>aO (by rw[z.1])⟩⟩
    ·refine⟨rfl,(s3.trans s4).trans s5,?_⟩;injection he with he
     omega
   ·rintro σ' H' ⟨rfl,s4,NH⟩;refine⟨λσ' H'=>σ'=[some (.ref a),some (.ref b),some (.int (f'+i))]/\ae H H'/\M3.sm ms (f'+i)=M3.sm us (f'+i),?_,?_⟩
    ·refine⟨_,rfl,_,rfl,a,ms,_,rfl,s4.seq hA,by omega,λH5 s5=>?_⟩;refine⟨_,rfl,_,rfl,b,us,_,rfl,(s4.trans s5).seq hB,by omega,λH6 s6=>?_⟩;refine⟨rfl,_,rfl,yi (λaO=>?_) (λhe=>?_)⟩
     ·refine⟨_,rfl,q (some (f'+i)) _ ((s4.trans s5).trans s6) ⟨by omega,by omega,hj,λz=>aO (by rw[z.2])⟩⟩
     ·refine⟨rfl,(s4.trans s5).trans s6,?_⟩;injection he with he
    ·rintro σ' MS ⟨rfl,s5,Sv⟩;refine⟨_,rfl,s5,λj j1 j2=>?_⟩;by_cases c:j<f'+i
     ·exact hj j j1 c
     ·have:j=f'+i:=by omega
      subst this;exact⟨NH,Sv⟩
  ·rintro σ H3 ⟨v,rfl,s3,hj⟩;exact q none _ s3 (M6.jc Su Yc Ig.2 λj j1 j2=>hj j j1 (by omega))
inductive wL (K:Frag) (vs:List V) (H:Hp) (Q:VK) (E:XK):Prop
 | mk (p:Addr) (F:Addr->Prop) (S:Sh) (j:Str):vs=[.ref p,.str j]->ao K H p F S->(∀(l:Addr)(H':Hp)(ks:List Addr),ae H H'->H l=none->H' l=some (.lst (ks.map V.ref))->All2 (IL K H') ks (S.bc j)->Q (.ref l) H')->wL K vs H Q E
theorem Yd(F:aN K "cards_without" "cards_without" Hi f fd)(T:Txt K mg)(qV:bD P w K mg base 1 (zL K "Sheet") "handed" yd (yk K))(vY:br P w K mg base 2 (zL K "Sheet") "card_of" yo (yI K)):av P w K mg base aQ 3 f fd wa (wL K):=by
 refine F.ok Wv (λvs H Q E h=>?_) (λaE A outer s H vs Q E hr h=>?_)
 ·obtain⟨p,F,S,j,rfl,_⟩:=h;rfl
 ·obtain⟨p,F,S,j,rfl,aP,q⟩:=h;refine⟨_,(ze (zk (zS (show ak (zf Hi) ["sheet","judge"] "other" ["sheet","judge"] [0,1] _ from cm) rfl (zx (zP qV T.aj (hM hr) (pv 0))) (λ_ _ _ _ _=>(yL (zl yQ (pv 0) (pv 2) (zn _)))) (λ_ _ _ _ _=>(yT vY T.aj jQ (hM hr) (pv 1) (za (pv 0) zb)))))),?_⟩;have cj:=zt;have fD:=aP.ok.dA;obtain⟨dx,b1,b2,b3,d,bx⟩:=aP.ins;refine⟨_,rfl,p,dx,_,rfl,bx,rfl,p,F,S,rfl,aP.shape,fD,λa H1 s1 f1 e1=>?_⟩;have b8:S.handed.length<=15:=le_trans (length_filter_le _ _) fD;refine⟨a,rfl,⟨_,ag.of e1⟩,?_⟩;refine y9 (xs:=S.handed.map V.str) (λi ys H2=>∃ks:List Addr,ys=ks.map V.ref/\ae H1 H2/\All2 (IL K H2) ks (((S.handed.take i).filter λi => !decide (i=j)).map λi=>(S.card i).getD [])) ⟨[],rfl,ae.refl _,.nil⟩ ?_ (by rw[length_map];omega) ?_ ?_
  ·rintro i ys H2 hi ⟨ks,rfl,s2,r2⟩;refine⟨s2.seq (ag.of e1),?_⟩;have h3:=r2.length;have h4:=length_filter_le (λi => !decide (i=j)) (S.handed.take i);rw[length_map]at h3;rw[length_take]at h4;rw[length_map];omega
  ·rintro i x ys H2 hx ⟨ks,rfl,s2,r2⟩;obtain⟨hi,rfl⟩:=Ag hx;have hm:=List.mem_filter.mp (show S.handed.getD i "" ∈ S.af.filter λj=>(S.card j).isSome from wn hi);have bV:=s1.trans s2;refine⟨_,rfl,_,rfl,rfl,_,rfl,yi (λaO=>?_) (λhe=>?_)⟩
   ·have aO:¬S.handed.getD i ""=j:=λz=>aO (by rw[z]);cases e:S.card (S.handed.getD i "")with
    | none=>rw[e]at hm;exact absurd hm.2 Bool.false_ne_true
    | some c =>
      refine⟨_,rfl,p,dx,_,rfl,bV _ _ bx,rfl,_,rfl,p,F,S,_,rfl,aP.same bV,λhj=>absurd hm.1 hj,(λ_ z=>by rw[e]at z;cases z),λc' e' l H3 s3 f3 e3=>?_⟩;rw[e]at e';cases e';refine⟨ks++[l],by rw[map_append];rfl,s2.trans s3,?_⟩;rw[yA hi,filter_append,filter_cons,if_pos (by rw[decide_eq_false aO];rfl),map_append];refine(r2.imp λ_ _=>IL.stays K _ _ _ _ s3).snoc ?_;show IL K H3 l ((S.card (S.handed.getD i "")).getD []);rw[e];exact ag.of e3
   ·have he:S.handed.getD i ""=j:=by injection he
    refine⟨ks,rfl,s2,?_⟩;rw[yA hi,filter_append,filter_cons,if_neg (by rw[decide_eq_true he];decide),filter_nil,append_nil];exact r2
  ·rintro ys H2 ⟨ks,rfl,s2,r2⟩ l hl;rw[length_map,take_length]at r2;have bV:=s1.trans s2;exact q l _ ks (bV.ar hl) (bV.free hl) zc (r2.imp λ_ _=>IL.stays K _ _ _ _ (ae.new hl))
inductive NI (K:Frag) (vs:List V) (H:Hp) (Q:VK) (E:XK):Prop
 | mk (a:Addr) (ts:List Str):vs=[.ref a]->ag K H a (ts.map V.str)->ts.length<4000->((∀z∈ts,z.length<=1000))->(∀H',ae H H'->Q (.bl (M2.tZ ts)) H')->NI K vs H Q E
theorem Ye(F:aN K "good_judges" "good_judges" Hj f fd)(T:Txt K mg)(Yf:aB P w K mg base 2 "good_name" ["judge"] (Nj K))(EB:aB P w K mg base 1 "good_length" y7 (wx K))(Ni:aB P w K mg base 1 "all_unlike" ["things"] (HN K)):av P w K mg base aQ 3 f fd ["judges"] (NI K):=by
 refine F.ok Ww (λvs H Q E h=>?_) (λaE A outer s H vs Q E hr h=>?_)
 ·obtain⟨a,ts,rfl,_⟩:=h;rfl
 ·obtain⟨a,ts,rfl,hS,hz,ht,q⟩:=h;refine⟨_,(ze (zk (Bi (zi EB (hM hr) rfl (za (pv 0) (za (CY T.fP rfl) zb))) (Bi (zi Ni (hM hr) rfl (za (pv 0) zb)) (Fx (zD (Kd rfl) (by rfl) T.qK boot_all (za (zS (show ak (zf Hj) ["judges"] "judge" [] [] _ from cm) rfl (zx (pv 0)) (λ_ _ _ _ _=>yN) (λ_ _ _ _ _=>(zi Yf (hM hr) rfl (za (pv 0) zb)))) zb))))))),?_⟩;refine⟨_,rfl,_,_,_,rfl,.inl ⟨_,hS,rfl⟩,_,rfl,?_⟩;rw[length_map];unfold M2.tZ at q;refine vp (λh1=>?_) (λh1=>?_)
  ·rw[h1,Bool.true_and]at q;refine⟨_,rfl,a,rfl,.inr ⟨ts,hS,hz,_,rfl,yr (λh2=>?_) (λh2=>?_)⟩⟩
   ·rw[decide_eq_true h2,Bool.true_and]at q;refine⟨_,rfl,a,rfl,⟨_,hS⟩,?_⟩;refine yq (xs:=ts.map V.str) (λi ys H2=>ae H H2/\ys=((ts.take i).map M2.vN).map V.bl) ⟨ae.refl _,rfl⟩ ?_ (by rw[length_map];have:=zt;omega) ?_ ?_
    ·rintro i ys H2 hi ⟨s2,rfl⟩;exact⟨s2.seq hS,by simp only[length_map,length_take];omega⟩
    ·rintro i x ys H2 hx ⟨s2,rfl⟩;obtain⟨hi,rfl⟩:=Ag hx;refine⟨_,rfl,_,rfl,ht _ (wn hi),λH3 s3=>⟨s2.trans s3,?_⟩⟩;rw[yA hi,map_append,map_append];rfl
    ·rintro ys H2 ⟨s2,rfl⟩ l hl;rw[length_map,take_length];exact⟨l,_,rfl,ag.new,q _ (s2.ar hl)⟩
   ·rw[decide_eq_false h2,Bool.false_and]at q;exact q _ (ae.refl _)
  ·rw[h1,Bool.false_and]at q;exact q _ (ae.refl _)
inductive NJ (K:Frag) (vs:List V) (H:Hp) (Q:VK) (E:XK):Prop
 | mk (a b:Addr) (cs:List (List Int)):vs=[.ref a,.ref b]->Refs K (IL K) H a cs->Refs K (IL K) H b cs->cs.length<=1000->((∀d∈cs,d.length<=1000))->Q (.bl true) H->NJ K vs H Q E
theorem Yg(F:aN K "_law_lists" "_law_lists" Mj f fd)(T:Txt K mg)(sj:aB P w K mg base 2 "_law_same" wB (BO K)):av P w K mg base aQ 3 f fd Hk (NJ K):=by
 refine F.ok RW (λvs H Q E h=>?_) (λaE A outer s H vs Q E hr h=>?_)
 ·obtain⟨a,b,cs,rfl,_⟩:=h;rfl
 ·obtain⟨a,b,cs,rfl,⟨ls,hA,rA⟩,⟨ks,hB,rB⟩,hz,hd,q⟩:=h;refine⟨_,(zd (zv (PW.pt (gS (zV (zQ (zD wY (by rfl) T.ay boot_isinstance (za (pv 0) (za (mP (v:=V.ty "list") rfl T.aV boot_list rfl) zb))))) (wR (zl yQ (zT T.aq (pv 0)) (zT T.aq (pv 1)) (zn _))))) (ze (zk yf)) zp)
   (zd (yB PassesOwn.never rfl (yy rfl T.aK (za (zT T.aq (pv 1)) zb)) (zN (i:=2) RW.nd rfl (Or.inl rfl))
     (ze (zv (zV (zQ (zi sj (hM hr) rfl (za (zu zq (pv 0) (pv 2) (λ_ _=>rfl)) (za (zu zq (pv 1) (pv 2) (λ_ _=>rfl)) zb))))) (ze (zk yf)) zp)))
   (ze (zk yf)))),?_⟩
  have la:=rA.length;have lb:=rB.length;refine⟨_,rfl,_,_,rfl,.yes hA,_,rfl,yY ?_⟩;refine⟨_,rfl,a,_,rfl,.inl hA,_,rfl,b,_,rfl,.inl hB,rfl,_,rfl,?_⟩;rw[length_map,length_map];refine yi (λaO=>absurd (by rw[la,lb]) aO) (λhe=>?_);refine⟨_,rfl,b,_,rfl,.inl hB,_,rfl,by omega,by rw[length_map];omega,?_⟩;rw[length_map];refine yj (λi σ H2=>∃v,σ=[some (.ref a),some (.ref b),v]/\H2=H) ⟨_,rfl,rfl⟩ ?_ ?_
  ·rintro i σ H2 hi ⟨v,rfl,rfl⟩;have iB:i<cs.length:=by rw[<-lb];simpa using hi
   obtain⟨l,el,rl⟩:=rA.get (getElem?_eq_getElem iB);obtain⟨k,ek,rk⟩:=rB.get (getElem?_eq_getElem iB);have e1:cH (ls.map V.ref) (0+(i:Int))=some (.ref l):=by rw[Int.zero_add];exact zC (yU el)
   have e2:cH (ks.map V.ref) (0+(i:Int))=some (.ref k):=by rw[Int.zero_add];exact zC (yU ek)
   refine⟨_,rfl,_,rfl,a,_,_,_,rfl,rfl,hA,e1,_,rfl,_,rfl,b,_,_,_,rfl,rfl,hB,e2,l,k,_,_,rfl,rl,rk,by have:=hd _ (getElem_mem iB);omega,?_⟩;rw[decide_eq_true rfl];exact⟨_,rfl,yY ⟨_,rfl,rfl⟩⟩
  ·rintro σ H2 ⟨v,rfl,rfl⟩;exact q
inductive NK (K:Frag) (vs:List V) (H:Hp) (Q:VK) (E:XK):Prop
 | mk (c u:Int) (a:Addr) (ns:List Int) (y:Int):vs=[.int c,.int u,.ref a,.int y]->1<=u->u<=1000000->ag K H a (ns.map V.int)->ns≠[]->ns.length<=1000->(∀(l:Addr)(H':Hp)(ms:List Int),ae H H'->H l=none->H' l=some (.lst (ms.map V.int))->ms.Perm ns->Q (.ref l) H')->NK K vs H Q E
theorem Yh(F:aN K "_law_dealt" "_law_dealt" Ml f fd)(T:Txt K mg)(HV:aB P w K mg base 1 "_law_mix" Ec (HQ K))(NL:aB P w K mg base 2 "_law_card" Ha (Nm K)):av P w K mg base aQ 3 f fd Hl (NK K):=by
 refine F.ok Wx (λvs H Q E h=>?_) (λaE A outer s H vs Q E hr h=>?_)
 ·obtain⟨c,u,a,ns,y,rfl,_⟩:=h;rfl
 ·obtain⟨c,u,a,ns,y,rfl,u0,u1,hS,aO,hz,q⟩:=h;refine⟨_,(zd (zv (zl wl (pv 3) zg (zn _)) (ze (zk (zi NL (hM hr) rfl (za (pv 0) (za (pv 2) (za zg zb)))))) zp)
   (zd (zv (zl wl (pv 3) zg (zn _)) (ze (zk (zi NL (hM hr) rfl (za (zi HV (hM hr) rfl (za (pv 0) (za zg zb))) (za (pv 2) (za zg zb)))))) zp)
   (ze (zk (zi NL (hM hr) rfl (za (zo yM (pv 0) (pv 1)) (za (pv 2) (za (pv 3) zb)))))))),?_⟩
  refine⟨_,rfl,rfl,_,rfl,yr (λ_=>?_) (λ_=>?_)⟩
  ·exact⟨_,rfl,_,rfl,_,a,ns,_,rfl,hS,aO,hz,q⟩
  refine⟨_,rfl,rfl,_,rfl,yr (λ_=>?_) (λ_=>?_)⟩
  ·exact⟨_,rfl,_,_,rfl,_,rfl,_,a,ns,_,rfl,hS,aO,hz,q⟩
  ·exact⟨_,rfl,_,rfl,_,_,rfl,rfl,⟨by omega,by omega⟩,_,rfl,_,rfl,_,a,ns,_,rfl,hS,aO,hz,q⟩
inductive Ik (K:Frag) (vs:List V) (H:Hp) (Q:VK) (E:XK):Prop
 | mk (a b:Addr) (cs:List (List Int)) (us:List Int):vs=[.ref a,.ref b]->Refs K (IL K) H a cs->ag K H b (us.map V.int)->((∀d∈cs,d.Perm us))->1<=cs.length->cs.length<=500->us.length<=500->(∀(l:Addr)(H':Hp),ae H H'->H l=none->H' l=some (.lst ((mZ cs us).map V.int))->Q (.ref l) H')->Ik K vs H Q E
theorem Yi(F:aN K "_law_firsts" "_law_firsts" Hm f fd)(T:Txt K mg)(AW:aB P w K mg base 2 "_law_spots" wG (EC K)):av P w K mg base aQ 3 f fd wS (Ik K):=by
 refine F.ok RY (λvs H Q E h=>?_) (λaE A outer s H vs Q E hr h=>?_)
 ·obtain⟨a,b,cs,us,rfl,_⟩:=h;rfl
 ·obtain⟨a,b,cs,us,rfl,hA,hB,hp,c1,NM,NN,q⟩:=h;refine⟨_,(zd (zr (i:=2) RY.nd rfl (Or.inr rfl) (zi AW (hM hr) rfl (za (pv 0) (za (pv 1) zb))))
   (ze (zk (zS (show ak (zf Hm) RX "_law_k" ["_law_couples_here","_law_spots_here"] [1,2] _ from cm) rfl (yy rfl T.aK (za (zT T.aq (pv 1)) zb)) (λ_ _ _ _ _=>(yL (zl wl (zu (FX (K:=K) rfl) (pv 2) (pv 0) (λ_ _=>rfl)) zg (zn _)))) (λ_ _ _ _ _=>(zu (FX (K:=K) rfl) (pv 1) (pv 0) (λ_ _=>rfl))))))),?_⟩
  have cj:=zt;refine⟨_,rfl,_,rfl,a,b,cs,us,rfl,hA,hB,NM,NN,λu hu d hd=>(hp d hd).mem_iff.mpr hu,λl1 H1 s1 f1 e1=>?_⟩;rw[M6.D1 hp c1]at e1;have hpl:=M6.yp cs us;refine⟨_,rfl,b,_,rfl,.inl (s1.seq hB),_,rfl,by omega,by rw[length_map];omega,?_⟩;rw[length_map,show((us.length:Nat):Int).toNat=us.length by omega];refine Qb (λi zs H2=>ae H1 H2/\zs=(vR (M6.zw cs us) us i).map V.int) ⟨ae.refl _,rfl⟩ ?_ (by omega) ?_ ?_
  ·rintro i zs H2 hi ⟨s2,rfl⟩;rw[length_map];exact Lo _ _ _
  ·rintro i zs H2 hi ⟨s2,rfl⟩;refine⟨_,rfl,_,rfl,l1,_,_,_,rfl,rfl,ag.of (s2 _ _ e1),(by rw[Int.zero_add];exact zC (mS (by omega))),rfl,_,rfl,yr (λhe=>?_) (λaO=>?_)⟩
   ·have he:(M6.zw cs us).getD i 0=1:=by injection he
    refine⟨_,rfl,_,rfl,b,_,_,_,rfl,rfl,(s1.trans s2).seq hB,(by rw[Int.zero_add];exact zC (mS hi)),s2,?_⟩;rw[Gq,if_pos he,map_append];rfl
   ·have aO:¬(M6.zw cs us).getD i 0=1:=λz=>aO (by rw[z]);refine⟨s2,?_⟩;rw[Gq,if_neg aO,append_nil]
  ·rintro zs H2 ⟨s2,rfl⟩ l hl;have t2:=s1.trans s2;exact q l _ (t2.ar hl) (t2.free hl) zc
inductive NO (K:Frag) (vs:List V) (H:Hp) (Q:VK) (E:XK):Prop
 | mk (p:Addr) (F:Addr->Prop) (S:Sh) (j:Str) (a:Addr) (ns:List Int):vs=[.ref p,.str j,.ref a]->ao K H p F S->S.refuse j ns=some ("BadCard":Str)->ag K H a (ns.map V.int)->ns.length<64->(∀H',ae H H'->Q (.bl true) H')->NO K vs H Q E
theorem Yj(F:aN K "_law_refused" "_law_refused" Mm f fd)(T:Txt K mg)(xb:br P w K mg base 2 (zL K "Sheet") "hand_in" yn (yH K)):av P w K mg base aQ 3 f fd Hn (NO K):=by
 obtain⟨uL,gC,gD,cz⟩:=T.cz;obtain⟨bP,bF,dO,bO⟩:=T.bO;refine F.ok RZ (λvs H Q E h=>?_) (λaE A outer s H vs Q E hr h=>?_)
 ·obtain⟨p,F,S,j,a,ns,rfl,_⟩:=h;rfl
 ·obtain⟨p,F,S,j,a,ns,rfl,aP,r1,hA,hz,q⟩:=h;refine⟨_,(zd (Ac rfl rfl (λ_ _ _ fl=>(ze (zI (yT xb T.aj fl (hM hr) (pv 0) (za (pv 1) (za (pv 2) zb)))))) (Dj (i:=3) rfl gD cz RZ.nd rfl rfl (λ_=>(ze (zk (zD (Vb (K:=K) rfl) (by rfl) T.ay boot_isinstance (za (pv 3) (za (Ad rfl dO) zb)))))) o7))
   (ze (zk yf))),?_⟩
  obtain⟨dx,b1,b2,b3,d,bx⟩:=aP.ins;refine⟨λσ1 cls H2=>σ1=[some (.ref p),some (.str j),some (.ref a),none]/\ae H H2/\∃C,bg K "BadCard" C/\cls=.ref C,?_,?_⟩
  ·exact⟨_,rfl,p,dx,_,rfl,bx,rfl,_,rfl,_,rfl,p,F,S,j,a,ns,rfl,aP,hA,hz,λx hx C H' hC s'=>⟨rfl,s',C,by rw[r1]at hx;cases hx;exact hC,rfl⟩,λhn=>by rw[r1]at hn;cases hn⟩
  ·rintro σ1 cls H2 ⟨rfl,s2,C,hC,rfl⟩;cases bg.inj hC bF;have i0:=T.mn _ bF;refine⟨bP,rfl,bO,Kr (T.cS _ _ bF gC) λy hy=>?_⟩;have s3:=s2.ar (o:=vw y (.ref bP)) hy;have e3:upd H2 y (vw y (.ref bP)) y=some (vw y (.ref bP)):=zc;generalize gN:upd H2 y _=H3 at s3 e3 ⊢;exact⟨_,rfl,y,bP,_,_,_,rfl,rfl,e3,i0,T.dz _ _ bF bF,q _ s3⟩
inductive NP (K:Frag) (vs:List V) (H:Hp) (Q:VK) (E:XK):Prop
 | mk (x dx a b:Addr) (us:List Int) (ts:List Str):vs=[.ref x,.ref a,.ref b]->H x=some (.ins (zL K "Sheet") dx [])->ag K H a (us.map V.int)->us.length<4000->ag K H b (ts.map V.str)->ts.length<4000->((∀z∈ts,z.length<=1000))->((M1.qb us=false->∀C H',bg K "BadCouples" C->ae H H'->E (.ref C) none H'))->((M1.qb us=true->M2.tZ ts=false->∀C H',bg K "BadJudges" C->ae H H'->E (.ref C) none H'))->((M1.qb us=true->M2.tZ ts=true->∀H' F,ao K H' x F (Sh.new us ts)->(∀b o,H b=some o->b≠x->H' b=some o/\¬F b)->Q .bo H'))->NP K vs H Q E
theorem Yk(F:aN K "__init__" "Sheet.__init__" Mn f fd)(T:Txt K mg)(Yl:aB P w K mg base 2 "good_couples" ["couples"] (Nh K))(Ym:aB P w K mg base 3 "good_judges" ["judges"] (NI K)):av P w K mg base (fC P w) 4 f fd Ho (NP K):=by
 obtain⟨uM,gE,gG,cA⟩:=T.cA;obtain⟨xc,iq,ir,cR⟩:=T.cR;refine F.Aa Wy (λvs H Q E h=>?_) (λX W aE A outer s H vs Q E hX hW fl md hr h=>?_)
 ·obtain⟨x,dx,a,b,us,ts,rfl,_⟩:=h;rfl
 ·obtain⟨x,dx,a,b,us,ts,rfl,hx,hA,Yn,hB,Yo,Yp,qC,qJ,q⟩:=h;subst hX;refine⟨_,(zd (zv (zV (zQ (zi Yl (hM hr) rfl (za (pv 1) zb)))) (ze (wU rfl md rfl gG cA (za ye zb))) zp)
   (zd (zv (zV (zQ (zi Ym (hM hr) rfl (za (pv 2) zb)))) (ze (wU rfl md rfl ir cR (za ye zb))) zp)
   (zd (va (pv 0) (zK zM (by rfl) T.aV boot_list (za (pv 1) zb)) rfl)
   (zd (va (pv 0) (zz zb) rfl)
   (zd (va (pv 0) (zK zM (by rfl) T.aV boot_list (za (pv 2) zb)) rfl)
   (zd (va (pv 0) qg rfl)
   (zd (va (pv 0) zg rfl)
   (ze (va (pv 0) yf rfl))))))))),?_⟩
  refine⟨_,rfl,a,us,rfl,hA,Yn,λH1 s1=>⟨_,rfl,?_⟩⟩;cases hg:M1.qb us with
  | false=>exact⟨(by show 1<=sizeLine;decide),by rw[hW];exact qC hg _ _ gE s1⟩
  | true =>
    refine⟨_,rfl,b,ts,rfl,s1.seq hB,Yo,Yp,λH2 s2=>⟨_,rfl,?_⟩⟩;have bV:=s1.trans s2;cases hj:M2.tZ ts with
    | false=>exact⟨(by show 1<=sizeLine;decide),by rw[hW];exact qJ hg hj _ _ iq bV⟩
    | true =>
      have x2:=bV _ _ hx;have k2:∀c o,H c=some o->c≠x->H2 c=some o:=λc o e _=>bV c o e;refine⟨_,rfl,a,_,rfl,.inl (bV.seq hA),λl1 cJ=>?_⟩;have f1:=bV.free cJ;obtain⟨x3,e1,n1,k3⟩:=Gh (o:=.lst (us.map V.int)) (u:=.ins (zL K "Sheet") dx [("standing",.ref l1)]) x2 cJ;refine⟨_,rfl,x,_,dx,_,rfl,(by rw[zh (zj x2 cJ)];exact x2),T.aj,T.aI,(by decide),?_⟩;rw[VI];generalize gN:upd (upd H2 l1 _) x _=H3 at x3 e1 k3 ⊢;refine⟨(by show 0<=sizeLine;decide),λl2 b8=>?_⟩;obtain⟨x4,e2,n2,k4⟩:=Gh (o:=.lst []) (u:=.ins (zL K "Sheet") dx [("standing",.ref l1),("struck_so_far",.ref l2)]) x3 b8;refine⟨_,rfl,x,_,dx,_,rfl,(by rw[zh (zj x3 b8)];exact x3),T.aj,T.bA,(by show 1<1000;decide),?_⟩;rw[VJ];generalize uE:upd (upd H3 l2 _) x _=H4 at x4 e2 k4 ⊢;have NQ:∀c o,H c=some o->c≠x->H4 c=some o:=λc o e n=>k4 c o (k3 c o (k2 c o e n) n) n;have Yq:ag K H4 b (ts.map V.str):=by
       rcases hB with(e | ⟨o,e⟩) | e
       ·exact .inl (.inl (NQ _ _ e (yV e hx (by intro z;cases z))))
       ·exact .inl (.inr ⟨o,NQ _ _ e (yV e hx (by intro z;cases z))⟩)
       ·exact .inr e
      refine⟨_,rfl,b,_,rfl,.inl Yq,λl3 c8=>?_⟩;obtain⟨x5,e3,n3,k5⟩:=Gh (o:=.lst (ts.map V.str)) (u:=.ins (zL K "Sheet") dx [("standing",.ref l1),("struck_so_far",.ref l2),("panel",.ref l3)]) x4 c8;refine⟨_,rfl,x,_,dx,_,rfl,(by rw[zh (zj x4 c8)];exact x4),T.aj,T.b7,(by show 2<1000;decide),?_⟩;rw[VL];generalize se:upd (upd H4 l3 _) x _=H5 at x5 e3 k5 ⊢;intro d hd;obtain⟨x6,e4,n4,k6⟩:=Gh (o:=.dK []) (u:=.ins (zL K "Sheet") dx [("standing",.ref l1),("struck_so_far",.ref l2),("panel",.ref l3),("card_by_judge",.ref d)]) x5 hd;refine⟨_,rfl,x,_,dx,_,rfl,(by rw[zh (zj x5 hd)];exact x5),T.aj,T.ax,(by show 3<1000;decide),?_⟩;rw[VM];generalize qR:upd (upd H5 d _) x _=H6 at x6 e4 k6 ⊢;refine⟨_,rfl,x,_,dx,_,rfl,x6,T.aj,T.aR,(by show 4<1000;decide),?_⟩;rw[VN];refine⟨_,rfl,x,_,dx,_,rfl,zc,T.aj,T.cT,(by show 5<1000;decide),?_⟩;rw[VO,sE];have keep:∀c o,H6 c=some o->c≠x->upd H6 x (.ins (zL K "Sheet") dx (gm l1 l2 l3 d (Sh.new us ts))) c=some o:=λc o e n=>by rw[zh n];exact e
      have g1:H6 l1=some (.lst (us.map V.int)):=k6 _ _ (k5 _ _ (k4 _ _ e1 n1) n1) n1;have g2:H6 l2=some (.lst []):=k6 _ _ (k5 _ _ e2 n2) n2;have g3:H6 l3=some (.lst (ts.map V.str)):=k6 _ _ e3 n3;refine q hg hj (upd H6 x (.ins (zL K "Sheet") dx (gm l1 l2 l3 d (Sh.new us ts)))) (λc=>c=x\/c=l1\/c=l2\/c=l3\/c=d) ⟨dx,l1,l2,l3,d,[],?_⟩ λc o e n=>⟨?_,?_⟩
      ·refine⟨⟨zc,keep _ _ g1 n1,keep _ _ g2 n2,keep _ _ g3 n3,keep _ _ e4 n4,zero_le _,λ_ _=>rfl,(λ_ _ z=>nomatch z),.inl rfl,.inr (.inl rfl),.inr (.inr (.inl rfl)),.inr (.inr (.inr (.inl rfl))),.inr (.inr (.inr (.inr rfl))),?_,?_,?_⟩,Sh.Ok.new hg hj⟩
       ·exact zj e1 b8
       ·exact λz=>zj (k4 _ _ (show H3 l1=_ from e1) n1) c8 (by rw[z]at c8;rw[e2]at c8;cases c8)
       ·rintro c (rfl | rfl | rfl | rfl | rfl)
        ·rw[zc];exact λz=>nomatch z
        ·rw[keep _ _ g1 n1];exact λz=>nomatch z
        ·rw[keep _ _ g2 n2];exact λz=>nomatch z
        ·rw[keep _ _ g3 n3];exact λz=>nomatch z
        ·rw[keep _ _ e4 n4];exact λz=>nomatch z
      ·exact keep _ _ (k6 _ _ (k5 _ _ (NQ _ _ e n) n) n) n
      ·have eF:=k2 _ _ e n;have fY:=k3 _ _ eF n;have NR:=k4 _ _ fY n;have Sw:=k5 _ _ NR n;rintro (z | z | z | z | z)
       ·exact n z
       ·rw[z,cJ]at eF;cases eF
       ·rw[z,b8]at fY;cases fY
       ·rw[z,c8]at NR;cases NR
       ·rw[z,hd]at Sw;cases Sw
inductive NS (K:Frag) (vs:List V) (H:Hp) (Q:VK) (E:XK):Prop
 | mk (a b:Addr) (ms us:List Int):vs=[.ref a,.ref b]->ag K H a (ms.map V.int)->ag K H b (us.map V.int)->ms.length=us.length->1<=ms.length->ms.length<=60->((∀x∈ms,1<=x/\x<=24))->((∀x∈us,1<=x/\x<=24))->(∀H',ae H H'->Q (.bl (M6.zZ ms us 24)) H')->NS K vs H Q E
theorem Yr(F:aN K "is_ahead" "is_ahead" Mo f fd)(T:Txt K mg)(nq:aB P w K mg base 2 "granted" AI (BN K))(AV:aB P w K mg base 2 "granted_sum" wd (wC K))(qZ:aB P w K mg base 2 "first_number" ["marks"] (wp K))(NT:aB P w K mg base 3 "unlike_at" Eg (Ij K)):av P w K mg base aQ 4 f fd Hq (NS K):=by
 refine F.ok R0 (λvs H Q E h=>?_) (λaE A outer s H vs Q E hr h=>?_)
 ·obtain⟨a,b,ms,us,rfl,_⟩:=h;rfl
 ·obtain⟨a,b,ms,us,rfl,hA,hB,hl,h1,hz,hm,hu,q⟩:=h;refine⟨_,(zd (zv (zl yQ (zi qZ (hM hr) rfl (za (pv 0) zb)) (zi qZ (hM hr) rfl (za (pv 1) zb)) (zn _)) (ze (zk (u4 nV (zi qZ (hM hr) rfl (za (pv 0) zb)) (zi qZ (hM hr) rfl (za (pv 1) zb)) (zn _)))) zp)
   (zd (zr (i:=2) R0.nd rfl (Or.inl rfl) (zi NT (hM hr) rfl (za (pv 0) (za (pv 1) zb))))
   (zd (zv (zl nW (pv 2) Bg (zn _)) (ze (zk yf)) zp)
   (zd (zv (zl yQ (zi nq (hM hr) rfl (za (pv 0) (za (pv 2) zb))) (zi nq (hM hr) rfl (za (pv 1) (za (pv 2) zb))) (zn _)) (ze (zk (u4 uZ (zi nq (hM hr) rfl (za (pv 0) (za (pv 2) zb))) (zi nq (hM hr) rfl (za (pv 1) (za (pv 2) zb))) (zn _)))) zp)
   (ze (zk (u4 nV (zi AV (hM hr) rfl (za (pv 0) (za (pv 2) zb))) (zi AV (hM hr) rfl (za (pv 1) (za (pv 2) zb))) (zn _)))))))),?_⟩
  have aO:ms≠[]:=by intro z;rw[z]at h1;simp at h1
  have ik:us≠[]:=by intro z;rw[z]at hl;have:ms.length=0:=hl;omega
  refine⟨_,rfl,a,ms,rfl,hA,aO,hz,hm,λH1 f s1 hf=>?_⟩;refine⟨_,rfl,b,us,rfl,s1.seq hB,ik,by omega,hu,λH2 g s2 hg=>?_⟩;have fr:=M3.DX hf 1 24 hm;have gr:=M3.DX hg 1 24 hu;have t2:=s1.trans s2;refine⟨rfl,_,rfl,yi (λmH=>?_) (λmH=>?_)⟩
  ·refine⟨_,rfl,a,ms,rfl,t2.seq hA,aO,hz,hm,λH3 f' s3 si=>?_⟩;have t3:=t2.trans s3;refine⟨_,rfl,b,us,rfl,t3.seq hB,ik,by omega,hu,λH4 g' s4 AX=>?_⟩;have ef:=M3.DW si hf;have eg:=M3.DW AX hg;subst ef eg;refine⟨_,_,rfl,rfl,?_⟩;have mH:f'≠g':=λz=>mH (by rw[z]);have e:decide (f'<g')=M6.zZ ms us 24:=by
    by_cases c:f'<g'
    ·rw[decide_eq_true c,M6.qr si AX c fr.1 fr.2]
    ·rw[decide_eq_false c,M6.qu si AX (by omega) gr.1 gr.2]
   show Q (.bl (decide (f'<g'))) H4;rw[e];exact q _ (t3.trans s4)
  ·injection mH with mH
   subst mH;refine⟨_,rfl,_,rfl,a,b,ms,us,f,rfl,t2.seq hA,t2.seq hB,h1,hz,by omega,hm,hu,hf,hg,λr H3 s3 BV=>?_⟩;have t3:=t2.trans s3;cases r with
   | none =>
     refine⟨_,rfl,rfl,_,rfl,yr (λ_=>?_) (λz=>absurd rfl z)⟩;rw[M6.jb (M6.Rh hf hg BV)]at q;exact q _ t3
   | some n =>
     refine⟨_,rfl,rfl,_,rfl,yr (λz=>nomatch z) (λ_=>?_)⟩;rw[M6.qw hf hg fr.1 BV]at q;refine⟨_,rfl,_,rfl,a,ms,_,rfl,t3.seq hA,by omega,λH4 s4=>?_⟩;refine⟨_,rfl,_,rfl,b,us,_,rfl,(t3.trans s4).seq hB,by omega,λH5 s5=>?_⟩;have t5:=(t3.trans s4).trans s5;refine⟨rfl,_,rfl,yi (λhc=>?_) (λhc=>?_)⟩
     ·rw[if_neg λz=>hc (by rw[z])]at q;refine⟨_,rfl,_,rfl,a,ms,_,rfl,t5.seq hA,by omega,λH6 s6=>?_⟩;refine⟨_,rfl,_,rfl,b,us,_,rfl,(t5.trans s6).seq hB,by omega,λH7 s7=>?_⟩;exact⟨_,_,rfl,rfl,q _ ((t5.trans s6).trans s7)⟩
     ·injection hc with hc
      rw[if_pos hc]at q;refine⟨_,rfl,_,rfl,a,ms,_,rfl,t5.seq hA,by omega,λH6 s6=>?_⟩;refine⟨_,rfl,_,rfl,b,us,_,rfl,(t5.trans s6).seq hB,by omega,λH7 s7=>?_⟩;exact⟨_,_,rfl,rfl,q _ ((t5.trans s6).trans s7)⟩
inductive NU (K:Frag) (vs:List V) (H:Hp) (Q:VK) (E:XK):Prop
 | mk (a b:Addr) (ms us:List Int):vs=[.ref a,.ref b]->ag K H a (ms.map V.int)->ag K H b (us.map V.int)->ms.length=us.length->1<=ms.length->ms.length<=60->((∀x∈ms,1<=x/\x<=24))->((∀x∈us,1<=x/\x<=24))->(∀r,M6.wb ms us 24 r->∀(x:V)(H':Hp),ae H H'->Told K H' x r->Q x H')->NU K vs H Q E
theorem Ys(F:aN K "parting_of" "parting_of" Mp f fd)(T:Txt K mg)(nq:aB P w K mg base 2 "granted" AI (BN K))(qZ:aB P w K mg base 2 "first_number" ["marks"] (wp K))(NT:aB P w K mg base 3 "unlike_at" Eg (Ij K)):av P w K mg base aQ 4 f fd Hr (NU K):=by
 refine F.ok R1 (λvs H Q E h=>?_) (λaE A outer s H vs Q E hr h=>?_)
 ·obtain⟨a,b,ms,us,rfl,_⟩:=h;rfl
 ·obtain⟨a,b,ms,us,rfl,hA,hB,hl,h1,hz,hm,hu,q⟩:=h;refine⟨_,(zd (zv (zl yQ (zi qZ (hM hr) rfl (za (pv 0) zb)) (zi qZ (hM hr) rfl (za (pv 1) zb)) (zn _)) (ze (zk (og (za (zD (kK rfl) (by rfl) T.Ea boot_min (za (zi qZ (hM hr) rfl (za (pv 0) zb)) (za (zi qZ (hM hr) rfl (za (pv 1) zb)) zb))) (za ye zb))))) zp)
   (zd (zr (i:=2) R1.nd rfl (Or.inl rfl) (zi NT (hM hr) rfl (za (pv 0) (za (pv 1) zb))))
   (zd (zv (zl nW (pv 2) Bg (zn _)) (ze (zk Bg)) zp)
   (zd (zv (zl yQ (zi nq (hM hr) rfl (za (pv 0) (za (pv 2) zb))) (zi nq (hM hr) rfl (za (pv 1) (za (pv 2) zb))) (zn _)) (ze (zk (og (za (pv 2) (za ye zb))))) zp)
   (ze (zk (og (za (pv 2) (za ye zb))))))))),?_⟩
  have aO:ms≠[]:=by intro z;rw[z]at h1;simp at h1
  have ik:us≠[]:=by intro z;rw[z]at hl;have:ms.length=0:=hl;omega
  refine⟨_,rfl,a,ms,rfl,hA,aO,hz,hm,λH1 f s1 hf=>?_⟩;refine⟨_,rfl,b,us,rfl,s1.seq hB,ik,by omega,hu,λH2 g s2 hg=>?_⟩;have fr:=M3.DX hf 1 24 hm;have gr:=M3.DX hg 1 24 hu;have t2:=s1.trans s2;refine⟨rfl,_,rfl,yi (λmH=>?_) (λmH=>?_)⟩
  ·refine⟨_,rfl,a,ms,rfl,t2.seq hA,aO,hz,hm,λH3 f' s3 si=>?_⟩;have t3:=t2.trans s3;refine⟨_,rfl,b,us,rfl,t3.seq hB,ik,by omega,hu,λH4 g' s4 AX=>?_⟩;have ef:=M3.DW si hf;have eg:=M3.DW AX hg;subst ef eg;refine⟨_,_,rfl,(by show 2<=sizeLine;decide),λt ht=>?_⟩;have mH:f'≠g':=λz=>mH (by rw[z]);by_cases c:g'<f'
   ·rw[if_pos c];refine q (some (g'.toNat,"half")) (M6.ki si AX c gr.1 gr.2) _ _ ((t3.trans s4).ar ht) ⟨t,rfl,?_⟩;have e:((g'.toNat:Nat):Int)=g':=by omega
    dsimp only;rw[e];exact bN.new
   ·rw[if_neg c];refine q (some (f'.toNat,"half")) (M6.Ln si AX (by omega) fr.1 fr.2) _ _ ((t3.trans s4).ar ht) ⟨t,rfl,?_⟩;have e:((f'.toNat:Nat):Int)=f':=by omega
    dsimp only;rw[e];exact bN.new
  ·injection mH with mH
   subst mH;refine⟨_,rfl,_,rfl,a,b,ms,us,f,rfl,t2.seq hA,t2.seq hB,h1,hz,by omega,hm,hu,hf,hg,λr H3 s3 BV=>?_⟩;have t3:=t2.trans s3;cases r with
   | none =>
     refine⟨_,rfl,rfl,_,rfl,yr (λ_=>?_) (λz=>absurd rfl z)⟩;exact q none (M6.Rh hf hg BV) _ _ t3 rfl
   | some n =>
     refine⟨_,rfl,rfl,_,rfl,yr (λz=>nomatch z) (λ_=>?_)⟩;have hp:=M6.Ri hf hg fr.1 BV;have e:((n.toNat:Nat):Int)=n:=by have:=BV.1;omega
     refine⟨_,rfl,_,rfl,a,ms,_,rfl,t3.seq hA,by omega,λH4 s4=>?_⟩;refine⟨_,rfl,_,rfl,b,us,_,rfl,(t3.trans s4).seq hB,by omega,λH5 s5=>?_⟩;have t5:=(t3.trans s4).trans s5;refine⟨rfl,_,rfl,yi (λhc=>?_) (λhc=>?_)⟩
     ·rw[if_neg λz=>hc (by rw[z])]at hp;refine⟨_,rfl,(by show 2<=sizeLine;decide),λt ht=>?_⟩;refine q _ hp _ _ (t5.ar ht) ⟨t,rfl,?_⟩;dsimp only;rw[e];exact bN.new
     ·injection hc with hc
      rw[if_pos hc]at hp;refine⟨_,rfl,(by show 2<=sizeLine;decide),λt ht=>?_⟩;refine q _ hp _ _ (t5.ar ht) ⟨t,rfl,?_⟩;dsimp only;rw[e];exact bN.new
inductive Il (K:Frag) (vs:List V) (H:Hp) (Q:VK) (E:XK):Prop
 | mk (x:Addr) (F:Addr->Prop) (S:Sh) (p c:Int):vs=[.ref x,.int p,.int c]->ao K H x F S->c∈S.aa->p.natAbs<=990->(∀H',ae H H'->Q (.str (M6.uw p c (M5.zm S.ai c) S.aa.length)) H')->Il K vs H Q E
theorem Yt(F:aN K "row_text" "row_text" Eh f fd)(T:Txt K mg)(BW:aB P w K mg base 2 "marks_of" BG (EA K))(Yu:aB P w K mg base 3 "ladder_of" Hh (NF K))(c0:bD P w K mg base 1 (zL K "Sheet") "couples" zA (zF K))(q9:bD P w K mg base 3 (zL K "Sheet") "cards" yh (yw K)):av P w K mg base aQ 4 f fd Ei (Il K):=by
 refine F.ok Ej (λvs H Q E h=>?_) (λaE A outer s H vs Q E hr h=>?_)
 ·obtain⟨x,F,S,p,c,rfl,_⟩:=h;rfl
 ·obtain⟨x,F,S,p,c,rfl,aP,hc,hp,q⟩:=h;refine⟨_,(zd (zr (i:=3) Ej.nd rfl (Or.inl rfl) (zi BW (hM hr) rfl (za (zP q9 T.aj (hM hr) (pv 0)) (za (pv 2) zb))))
   (zd (zr (i:=4) Ej.nd rfl (Or.inl rfl) (zi Yu (hM hr) rfl (za (pv 3) (za (zT T.aq (zP c0 T.aj (hM hr) (pv 0))) zb))))
   (zd (zr (i:=5) Ej.nd rfl (Or.inl rfl) (zz (za (zK BC (by rfl) T.dY boot_str (za (pv 1) zb)) (za (zK BC (by rfl) T.dY boot_str (za (pv 2) zb)) zb))))
   (zd (K0 (i:=6) (show aH (zf Eh) Mq "many" "total" [] [] _ from qd) rfl Ej.nd rfl (Or.inl rfl) (zx (pv 4)) (λ_ _ _ _ _=>yN) (λ_ _ _ _ _=>(jO (Bt (Kk (pv 0)) (Bt ye (Bt (Kk (pv 1)) oZ))))))
   (ze (zk (wP PySem.F.plainAttrs_str PySem.F.slot_str_join PySem.F.type_str_join j3 ye (za (zo yg (zo yg (zo yg (zo yg (pv 5) (zz (za ye zb))) (zS (show ak (zf Eh) Mq "mark" [] [] _ from cm) rfl (zx (pv 3)) (λ_ _ _ _ _=>yN) (λ_ _ _ _ _=>(zK BC (by rfl) T.dY boot_str (za (pv 0) zb))))) (zz (za ye zb))) (pv 6)) zb)))))))),?_⟩
  have cj:=zt;have ok:=aP.ok;have fD:S.handed.length<=15:=le_trans (length_filter_le _ _) ok.dA;have Sx:=Sh.aA S;have bx:=Sh.aJ ok;have cG:=ok.cG;have Yv:=ok.fH c hc;obtain⟨dx,b1,b2,b3,d,hi⟩:=aP.ins;refine⟨_,rfl,x,dx,_,rfl,hi,rfl,x,F,S,rfl,aP,λl1 H1 ks s1 f1 e1 r1=>?_⟩;refine⟨_,rfl,l1,S.ai,c,rfl,⟨ks,ag.of e1,r1.imp λ_ _ z=>ag.of z.2⟩,by omega,λd hd=>(bx d hd).mem_iff.mpr hc,λl2 H2 s2 f2 e2=>?_⟩;have hx:∀y∈M5.zm S.ai c,1<=y/\y<=24:=λy hy=>by have:=M6.yG bx hc y hy;omega
  have BS:=M5.ya S.ai c;generalize M5.zm S.ai c=ms at e2 BS hx q;have t2:=s1.trans s2;refine⟨_,rfl,_,rfl,x,dx,_,rfl,t2 _ _ hi,rfl,x,F,S,rfl,aP.same t2,λl3 H3 s3 f3 e3=>?_⟩;refine⟨l3,_,rfl,.inl (ag.of e3),?_⟩;rw[length_map];refine⟨l2,ms,_,rfl,ag.of (s3 _ _ e2),by omega,by omega,by omega,λl4 H4 ls s4 f4 e4 r4=>?_⟩;rw[show((S.aa.length:Nat):Int).toNat=S.aa.length by omega]at r4;have t4:=(t2.trans s3).trans s4;refine⟨_,rfl,.inl ⟨_,rfl,vM (by omega),_,rfl,.inl ⟨_,rfl,vM (by omega),(by show 2<=sizeLine;decide),λl5 iD=>?_⟩⟩⟩;have s5:=ae.new (o:=.lst ([tN p,tN c].map V.str)) iD;have e5:upd H4 l5 (.lst ([tN p,tN c].map V.str)) l5=some (.lst ([tN p,tN c].map V.str)):=zc;change ae H4 (upd H4 l5 (.lst [.str (Str.ofString (toString p)),.str (Str.ofString (toString c))]))at s5;change upd H4 l5 (.lst [.str (Str.ofString (toString p)),.str (Str.ofString (toString c))]) l5=_ at e5;generalize se:upd H4 l5 _=H5 at s5 e5 ⊢;have Sy:=s5 _ _ e4;have Yw:=r4.imp λ_ _=>dg.stays K _ _ _ _ s5;refine⟨_,rfl,l4,rfl,⟨_,ag.of Sy⟩,?_⟩;refine Lu (f:=M6.D6) (ag.of Sy) Yw (by rw[M6.Gk];omega) (λpr H' R AQ s' h=>?_) λH6 s6=>?_
  ·obtain⟨k,hk,rfl⟩:=List.mem_map.mp AQ;have MT:=M3.uf ms ((k:Int)+1);have Sv:=M6.Lq hx ((k:Int)+1);have vV:=M6.Lr (by omega) hx ((k:Int)+1);dsimp only at h ⊢;refine⟨_,rfl,.inl ⟨_,rfl,vM (by omega),_,rfl,?_,_,rfl,?_,_,rfl,.inl ⟨_,rfl,vM (by omega),_,rfl,?_,?_,?_⟩⟩⟩
   all_goals unfold tN at vV
   all_goals have l0:Str.empty.length=0:=rfl
   all_goals have l1:(Str.ofString "/").length=1:=M6.Gr
   ·rw[we];omega
   ·rw[we,we];omega
   ·rw[we,we,we];omega
   ·rw[we,we,we];omega
   ·rw[M6.ux];exact h H' (ae.refl _)
  intro l6 fE;have s7:=(s5.trans s6).ar (o:=.lst ((M6.gM ms S.aa.length).map V.str)) fE;have e7:upd H6 l6 (.lst ((M6.gM ms S.aa.length).map V.str)) l6=some (.lst ((M6.gM ms S.aa.length).map V.str)):=zc;have NV:=(s6.ar (o:=.lst ((M6.gM ms S.aa.length).map V.str)) fE) _ _ e5;change ae H4 (upd H6 l6 (.lst (((M6.mY ms S.aa.length).map M6.D6).map V.str)))at s7;change upd H6 l6 (.lst (((M6.mY ms S.aa.length).map M6.D6).map V.str)) l6=_ at e7;change upd H6 l6 (.lst (((M6.mY ms S.aa.length).map M6.D6).map V.str)) l5=_ at NV;generalize NW:upd H6 l6 _=H7 at s7 e7 NV ⊢;have m7:H7 l2=some (.lst (ms.map V.int)):=s7 _ _ (s4 _ _ (s3 _ _ e2));refine⟨rfl,_,rfl,(by show 1<=sizeLine;decide),λl7 nh=>?_⟩;have s8:=ae.new (o:=.lst [.str M6.bar]) nh;change ae H7 (upd H7 l7 (.lst [.str (Str.ofString "|")]))at s8;refine⟨l5,l7,_,[.str M6.bar],rfl,rfl,s8 _ _ NV,zc,(by show 3<=sizeLine;decide),λl8 Eu=>?_⟩;have s9:=s8.ar (o:=.lst (([tN p,tN c]++[M6.bar]).map V.str)) Eu;have e9:upd (upd H7 l7 (.lst [.str (Str.ofString "|")])) l8 (.lst (([tN p,tN c]++[M6.bar]).map V.str)) l8=some (.lst (([tN p,tN c]++[M6.bar]).map V.str)):=zc;change ae H7 (upd (upd H7 l7 (.lst [.str (Str.ofString "|")])) l8 (.lst ([tN p,tN c].map V.str++[.str M6.bar])))at s9;change upd (upd H7 l7 (.lst [.str (Str.ofString "|")])) l8 (.lst ([tN p,tN c].map V.str++[.str M6.bar])) l8=_ at e9;generalize Im:upd (upd H7 l7 _) l8 _=H9 at s9 e9 ⊢;have m9:=s9 _ _ m7;refine⟨_,rfl,l2,rfl,⟨_,ag.of m9⟩,?_⟩;refine mi (f:=tN) (ag.of m9) (by omega) (λy H' R hy s' h=>⟨_,rfl,.inl ⟨_,rfl,vM (by have:=hx y hy;omega),h H' (ae.refl _)⟩⟩) λuG de=>?_;intro l9 vW;have fU:=de.ar (o:=.lst ((ms.map tN).map V.str)) vW;refine⟨l8,l9,_,_,rfl,rfl,fU _ _ e9,zc,by rw[length_map,length_map,length_map];simp only[length_append,length_cons,length_nil];omega,λgz jr=>?_⟩;rw[<-map_append];have bV:=fU.ar (o:=.lst (([tN p,tN c]++[M6.bar]++ms.map tN).map V.str)) jr;have jt:upd (upd uG l9 (.lst ((ms.map tN).map V.str))) gz (.lst (([tN p,tN c]++[M6.bar]++ms.map tN).map V.str)) gz=some (.lst (([tN p,tN c]++[M6.bar]++ms.map tN).map V.str)):=zc;generalize ER:upd (upd uG l9 _) gz _=xf at bV jt ⊢;refine⟨(by show 1<=sizeLine;decide),λnr rf=>?_⟩;have cc:=ae.new (o:=.lst [.str M6.bar]) rf;change ae xf (upd xf nr (.lst [.str (Str.ofString "|")]))at cc;refine⟨gz,nr,_,[.str M6.bar],rfl,rfl,cc _ _ jt,zc,by rw[length_map];simp only[length_append,length_map,length_cons,length_nil];omega,λgP rg=>?_⟩;rw[show([tN p,tN c]++[M6.bar]++ms.map tN).map V.str++[V.str M6.bar]=([tN p,tN c]++[M6.bar]++ms.map tN++[M6.bar]).map V.str by rw[map_append (l₂:=[M6.bar])];rfl];have iE:=cc.ar (o:=.lst (([tN p,tN c]++[M6.bar]++ms.map tN++[M6.bar]).map V.str)) rg;have xg:upd (upd xf nr (.lst [.str (Str.ofString "|")])) gP (.lst (([tN p,tN c]++[M6.bar]++ms.map tN++[M6.bar]).map V.str)) gP=some (.lst (([tN p,tN c]++[M6.bar]++ms.map tN++[M6.bar]).map V.str)):=zc;generalize NX:upd (upd xf nr _) gP _=NY at iE xg ⊢;have XT:=M6.Rr ms S.aa.length;refine⟨_,rfl,gP,l6,_,_,rfl,rfl,xg,iE _ _ (bV _ _ (s9 _ _ e7)),by simp only[length_append,length_map,length_cons,length_nil];omega,λmG fq=>?_⟩;rw[<-map_append];refine⟨_,mG,M6.jf p c ms S.aa.length,rfl,rfl,ag.new,by decide +kernel,?_,M6.Rt (by omega) hx hp (by omega) _,?_⟩
  ·unfold M6.jf;simp only[length_append,length_map,length_cons,length_nil];omega
  ·exact q _ ((((((t4.trans s7).trans s9).trans bV).trans iE)).ar fq)
inductive NZ (K:Frag) (vs:List V) (H:Hp) (Q:VK) (E:XK):Prop
 | mk (a b c:Addr) (ts:List Str) (cs:List (List Int)) (us:List Int):vs=[.ref a,.ref b,.ref c]->ag K H a (ts.map V.str)->Refs K (IL K) H b cs->ag K H c (us.map V.int)->cs.length=ts.length->ts.length<=500->us.length<=500->((∀d∈cs,d=[]\/d.Perm us))->(2<=(cs.filter λd => !decide (d=[])).length)->(∀(l:Addr)(H':Hp),ae H H'->H l=none->H' l=some (.lst ((uv ts cs us ts.length).map V.str))->Q (.ref l) H')->NZ K vs H Q E
theorem Yx{cs:List (List Int)}{k:Nat}(hk:k<cs.length):(cs.filter λd => !decide (d=[])).length<=((cs.take k++cs.drop (k+1)).filter λd => !decide (d=[])).length+1:=by
 conv=>lhs;rw[<-take_append_drop k cs,drop_eq_getElem_cons hk,filter_append,length_append,filter_cons]
 rw[filter_append,length_append];split
 ·rw[length_cons];omega
 ·omega
theorem Yy(F:aN K "_law_deciding" "_law_deciding" wF f fd)(T:Txt K mg)(Io:aB P w K mg base 3 "_law_firsts" wS (Ik K)):av P w K mg base aQ 4 f fd Hs (NZ K):=by
 refine F.ok wm (λvs H Q E h=>?_) (λaE A outer s H vs Q E hr h=>?_)
 ·obtain⟨a,b,c,ts,cs,us,rfl,_⟩:=h;rfl
 ·obtain⟨a,b,c,ts,cs,us,rfl,hA,⟨ls,hB,rB⟩,hC,mT,hz,Sz,di,h2,q⟩:=h;refine⟨_,(zd (zr (i:=3) wm.nd rfl (Or.inl rfl) (zi Io (hM hr) rfl (za (zS (show ak (zf wF) Mr "_law_card_here" [] [] _ from cm) rfl (zx (pv 1)) (λ_ _ _ _ _=>(yL (zl (yF (K:=K) rfl hr.aS) (pv 0) (zz zb) (zn _)))) (λ_ _ _ _ _=>(pv 0))) (za (pv 2) zb))))
   (zd (zr (i:=4) wm.nd rfl (Or.inl rfl) (zz zb))
   (zd (yB PassesOwn.never rfl (yy rfl T.aK (za (zT T.aq (pv 0)) zb)) (zN (i:=5) wm.nd rfl (Or.inl rfl))
     (zd (yK (i:=6) (show ak (zf wF) Mr "_law_card_here" [] [] _ from cm) rfl wm.nd rfl (Or.inl rfl) (zx (zo yg (zG zX (pv 1) yb (zO (pv 5))) (zG zX (pv 1) (zO (zo zR (pv 5) zg)) yb))) (λ_ _ _ _ _=>(yL (zl (yF (K:=K) rfl hr.aS) (pv 0) (zz zb) (zn _)))) (λ_ _ _ _ _=>(pv 0)))
   (ze (zv (PW.pt (sJ (zl (wz hr.aS) (zu zq (pv 1) (pv 5) (λ_ _=>rfl)) (zz zb) (zn _)) (sI (zl (wz hr.aS) (zi Io (hM hr) rfl (za (pv 6) (za (pv 2) zb))) (pv 3) (zn _))))) (ze (zI (wP PySem.F.plainAttrs_list PySem.F.slot_list_append PySem.F.type_list_append yO (pv 4) (za (zu zq (pv 0) (pv 5) (λ_ _=>rfl)) zb)))) zp))))
   (ze (zk (pv 4)))))),?_⟩
  have cj:=zt;have MZ:=rB.length;have SA:∀ds:List (List Int),(∀d∈ds,d∈cs)->∀d∈ds.filter (λd => !decide (d=[])),d.Perm us:=λds hs d hd=>by
   have h:=List.mem_filter.mp hd;refine(di d (hs d h.1)).resolve_left λz=>?_;have h2:=h.2;rw[decide_eq_true z]at h2;exact absurd h2 (by decide)
  refine⟨_,rfl,b,rfl,⟨_,hB⟩,?_⟩;refine wJ hB rB (by omega) (λm d H' R hm h=>?_) (λm H' R h=>⟨_,rfl,h⟩) λks H1 s1 r1=>?_
  ·refine⟨_,rfl,(by show 0<=sizeLine;decide),λmG fq=>?_⟩;have cc:=ae.new (o:=.lst []) fq;refine⟨m,mG,_,[],rfl,rfl,cc.seq hm,ag.new,zy _,rfl,_,rfl,?_⟩;rw[show dG (d.map V.int) []=decide (d=[])from yx _ []];exact h _ cc
  intro l1 cJ;have s2:=ae.new (o:=.lst (ks.map V.ref)) cJ;have t2:=s1.trans s2;refine⟨_,rfl,l1,c,_,us,rfl,⟨ks,ag.new,r1.imp λ_ _=>IL.stays K _ _ _ _ s2⟩,t2.seq hC,SA cs λ_ h=>h,by omega,le_trans (length_filter_le _ _) (by omega),Sz,λl3 H3 s3 f3 e3=>?_⟩;have t3:=t2.trans s3;refine⟨(by show 0<=sizeLine;decide),λp0 gO=>?_⟩;have Yz:=t3.ar (o:=.lst []) gO;refine⟨_,rfl,a,_,rfl,.inl (Yz.seq hA),_,rfl,by omega,by rw[length_map];omega,?_⟩;rw[length_map,show((ts.length:Nat):Int).toNat=ts.length by omega];refine yj (λi σ H4=>∃(v5 v6:Option V),σ=[some (.ref a),some (.ref b),some (.ref c),some (.ref l3),some (.ref p0),v5,v6]/\ae H3 H4/\H4 p0=some (.lst ((uv ts cs us i).map V.str))) ⟨_,_,rfl,ae.new gO,zc⟩ ?_ ?_
  ·rintro i σ H4 hi ⟨v5,v6,rfl,s4,e4⟩;have t4:=t3.trans s4;rw[show(0:Int)+(i:Int)=(i:Int)by omega];refine⟨_,rfl,_,rfl,_,rfl,b,_,rfl,t4.seq hB,λgz jr=>?_⟩;rw[FU (by omega),show((i:Int)).toNat=i by omega];have de:=ae.new (o:=.lst ((ls.map V.ref).take i)) jr;refine⟨_,rfl,_,rfl,_,_,rfl,rfl,_,rfl,b,_,rfl,(t4.trans de).seq hB,λnr rf=>?_⟩;rw[FT (by omega),show((i:Int)+1).toNat=i+1 by omega];have fU:=ae.new (o:=.lst ((ls.map V.ref).drop (i+1))) rf;have js:=fU _ _ (zc (H:=H4) (a:=gz) (o:=.lst ((ls.map V.ref).take i)));refine⟨gz,nr,_,_,rfl,rfl,js,zc,by rw[length_take,length_drop,length_map];omega,λgP rg=>?_⟩;rw[<-map_take,<-map_drop,<-map_append]at *;have bV:=(de.trans fU).ar (o:=.lst ((ls.take i++ls.drop (i+1)).map V.ref)) rg;have jt:upd (upd (upd H4 gz (.lst ((ls.take i).map V.ref))) nr (.lst ((ls.drop (i+1)).map V.ref))) gP (.lst ((ls.take i++ls.drop (i+1)).map V.ref)) gP=some (.lst ((ls.take i++ls.drop (i+1)).map V.ref)):=zc;generalize ER:upd (upd (upd H4 gz _) nr _) gP _=xf at bV jt ⊢;have N0:=t4.trans bV;have AY:All2 (IL K xf) (ls.take i++ls.drop (i+1)) (cs.take i++cs.drop (i+1)):=by
    have z:=rB.imp λ_ _=>IL.stays K _ _ _ _ N0;exact(z.qy i).app (z.qz (i+1))
   refine⟨gP,rfl,⟨_,ag.of jt⟩,?_⟩;refine wJ (ag.of jt) AY (by rw[length_append,length_take,length_drop];omega) (λm d H' R hm h=>?_) (λm H' R h=>⟨_,rfl,h⟩) λks AM cc BK=>?_
   ·refine⟨_,rfl,(by show 0<=sizeLine;decide),λmG fq=>?_⟩;have cc:=ae.new (o:=.lst []) fq;refine⟨m,mG,_,[],rfl,rfl,cc.seq hm,ag.new,zy _,rfl,_,rfl,?_⟩;rw[show dG (d.map V.int) []=decide (d=[])from yx _ []];exact h _ cc
   intro qS il;have iE:=ae.new (o:=.lst (ks.map V.ref)) il;have xg:upd AM qS (.lst (ks.map V.ref)) qS=some (.lst (ks.map V.ref)):=zc;have ES:=BK.imp λ_ _=>IL.stays K _ _ _ _ iE;generalize NX:upd AM qS _=NY at iE xg ES ⊢;have ET:=(bV.trans cc).trans iE;obtain⟨m,em,rm⟩:=rB.at (i:=i) (by omega) [];have rm:ag K H m ((cs.getD i []).map V.int):=rm;have SD:=t4.trans ET;refine⟨_,rfl,_,rfl,b,_,_,_,rfl,rfl,SD.seq hB,zC (yU em),(by show 0<=sizeLine;decide),λxh N1=>?_⟩;have kA:=ae.new (o:=.lst []) N1;refine⟨m,xh,_,[],rfl,rfl,(SD.trans kA).seq rm,ag.new,zy _,rfl,_,rfl,?_⟩;rw[show dG ((cs.getD i []).map V.int) []=decide (cs.getD i []=[])from yx _ []];generalize YA:upd NY xh _=SE at kA ⊢;have sk:=ET.trans kA;refine yi (λaO=>?_) (λhe=>?_)
   ·have hf:=Yx (cs:=cs) (k:=i) (by omega);have Dl:∀d∈cs.take i++cs.drop (i+1),d∈cs:=λd hd=>by
     rcases List.mem_append.mp hd with h | h
     ·exact List.mem_of_mem_take h
     ·exact List.mem_of_mem_drop h
    have hle:=length_filter_le (λd:List Int => !decide (d=[])) (cs.take i++cs.drop (i+1));rw[length_append,length_take,length_drop]at hle;refine⟨_,rfl,_,rfl,qS,c,_,us,rfl,⟨ks,ag.of (kA _ _ xg),ES.imp λ_ _=>IL.stays K _ _ _ _ kA⟩,(t4.trans sk).seq hC,SA _ Dl,by omega,by omega,Sz,λN2 YB so YC Ip=>?_⟩;have ju:=sk.trans so;refine⟨_,rfl,N2,l3,_,_,rfl,rfl,ag.of Ip,ag.of ((s4.trans ju) _ _ e3),zy _,zy _,_,rfl,?_⟩;rw[yx];refine yi (λhb=>?_) (λhb=>?_)
    ·have Iq:cH (ts.map V.str) (i:Int)=some (.str (ts.getD i "")):=by
      have:=Qq (ts:=ts) (i:=(i:Int)) (by omega) (by omega);rw[show((i:Int)).toNat=i by omega]at this;exact this
     refine⟨_,rfl,.inl ⟨rfl,_,ag.of (ju _ _ e4)⟩,_,rfl,_,rfl,a,_,_,_,rfl,rfl,(t4.trans ju).seq hA,Iq,p0,_,_,rfl,rfl,ju _ _ e4,?_,_,_,rfl,(s4.trans ju).put gO,?_⟩
     ·have:=Ro ts cs us i;rw[length_map];omega
     ·rw[zc,Lp,if_pos (by unfold vT;rw[decide_eq_false aO,decide_eq_false hb];rfl),map_append];rfl
    ·refine⟨_,_,rfl,s4.trans ju,?_⟩;rw[Lp,if_neg (by unfold vT;rw[decide_eq_true hb];simp),append_nil];exact ju _ _ e4
   ·refine⟨_,_,rfl,s4.trans sk,?_⟩;rw[Lp,if_neg (by unfold vT;rw[decide_eq_true he];simp),append_nil];exact sk _ _ e4
  ·rintro σ H4 ⟨v5,v6,rfl,s4,e4⟩;exact⟨_,rfl,q p0 H4 (t3.trans s4) (t3.free gO) e4⟩
inductive N3 (K:Frag) (vs:List V) (H:Hp) (Q:VK) (E:XK):Prop
 | mk (a b:Addr) (rs:List (List Int)) (ms:List Int):vs=[.ref a,.ref b]->Refs K (IL K) H a rs->ag K H b (ms.map V.int)->((∀r∈rs,r.length=ms.length/\∀x∈r,1<=x/\x<=24))->((∀x∈ms,1<=x/\x<=24))->1<=ms.length->ms.length<=60->rs.length<=1000->(∀H',ae H H'->Q (.int (1+((rs.filter λr=>M6.zZ r ms 24).length:Int))) H')->N3 K vs H Q E
theorem YD(F:aN K "place_among" "place_among" Ht f fd)(T:Txt K mg)(YE:aB P w K mg base 4 "is_ahead" Hq (NS K)):av P w K mg base aQ 5 f fd Hu (N3 K):=by
 refine F.ok Wz (λvs H Q E h=>?_) (λaE A outer s H vs Q E hr h=>?_)
 ·obtain⟨a,b,rs,ms,rfl,_⟩:=h;rfl
 ·obtain⟨a,b,rs,ms,rfl,⟨ls,hS,hR⟩,hB,EL,hm,h1,hz,hzr,q⟩:=h;refine⟨_,(ze (zk (zo zR zg (zT T.aq (zS (show ak (zf Ht) ["rows","own"] "marks" ["own"] [1] _ from cm) rfl (zx (pv 0)) (λ_ _ _ _ _=>(yL (zQ (zi YE (hM hr) rfl (za (pv 0) (za (pv 1) zb)))))) (λ_ _ _ _ _=>(pv 0))))))),?_⟩;have hlen:=hR.length;refine⟨_,rfl,a,rfl,⟨_,hS⟩,?_⟩;refine y9 (xs:=ls.map V.ref) (λi ys H2=>ae H H2/\ys.length=((rs.take i).filter λr=>M6.zZ r ms 24).length) ⟨ae.refl _,rfl⟩ ?_ (by rw[length_map];have:=zt;omega) ?_ ?_
  ·rintro i ys H2 hi ⟨s2,e2⟩;refine⟨s2.seq hS,?_⟩;rw[e2];have:=length_filter_le (λr=>M6.zZ r ms 24) (rs.take i);rw[length_take]at this;omega
  ·rintro i x ys H2 hx ⟨s2,e2⟩;obtain⟨l,el,rfl⟩:=uh hx;obtain⟨d,ed,rd⟩:=hR.getL el;have hd:=EL d (mem_of_getElem? ed);refine⟨_,rfl,_,rfl,l,b,d,ms,rfl,s2.seq rd,s2.seq hB,hd.1,by omega,by omega,hd.2,hm,λH3 s3=>⟨_,rfl,vp (λhb=>?_) (λhb=>?_)⟩⟩
   ·refine⟨_,rfl,s2.trans s3,?_⟩;rw[take_succ,ed,filter_append,length_append,length_append,e2];show _=_+(filter (λr=>M6.zZ r ms 24) [d]).length;rw[filter_cons,if_pos hb];rfl
   ·refine⟨s2.trans s3,?_⟩;rw[take_succ,ed,filter_append,length_append,e2];show _=_+(filter (λr=>M6.zZ r ms 24) [d]).length;rw[filter_cons,if_neg (by rw[hb];exact Bool.false_ne_true)];rfl
  ·rintro ys H2 ⟨s2,e2⟩ l hl;rw[length_map,hlen,take_length]at e2;refine⟨l,_,rfl,.inl ag.new,_,_,rfl,rfl,?_⟩;rw[e2];exact q _ (s2.ar hl)
inductive wg (K:Frag) (vs:List V) (H:Hp) (Q:VK) (E:XK):Prop
 | mk (a b:Addr) (cs:List (List Int)) (us:List Int):vs=[.ref a,.ref b]->Refs K (IL K) H a cs->ag K H b (us.map V.int)->us.Nodup->((∀d∈cs,d.Perm us))->1<=cs.length->cs.length<=15->1<=us.length->us.length<=24->(∀(l:Addr)(H':Hp),ae H H'->H l=none->H' l=some (.lst ((M6.zw cs us).map V.int))->Q (.ref l) H')->wg K vs H Q E
theorem YF(F:aN K "places_of" "places_of" Ek f fd)(T:Txt K mg)(BW:aB P w K mg base 2 "marks_of" BG (EA K))(YG:aB P w K mg base 5 "place_among" Hu (N3 K)):av P w K mg base aQ 6 f fd yW (wg K):=by
 refine F.ok R3 (λvs H Q E h=>?_) (λaE A outer s H vs Q E hr h=>?_)
 ·obtain⟨a,b,cs,us,rfl,_⟩:=h;rfl
 ·obtain⟨a,b,cs,us,rfl,hC,hU,BM,hp,c1,c2,u1,u2,q⟩:=h;refine⟨_,(zd (zr (i:=2) R3.nd rfl (Or.inr rfl) (zS (show ak (zf Ek) Ms "couple" ["cards"] [0] _ from cm) rfl (zx (pv 1)) (λ_ _ _ _ _=>yN) (λ_ _ _ _ _=>(zi BW (hM hr) rfl (za (pv 1) (za (pv 0) zb))))))
   (ze (zk (zS (show ak (zf Ek) Ms "own" ["rows"] [2] _ from cm) rfl (zx (pv 2)) (λ_ _ _ _ _=>yN) (λ_ _ _ _ _=>(zi YG (hM hr) rfl (za (pv 1) (za (pv 0) zb)))))))),?_⟩
  have cj:=zt;refine⟨_,rfl,b,rfl,⟨_,hU⟩,?_⟩;refine yq (xs:=us.map V.int) (λi ys H2=>∃ks:List Addr,ys=ks.map V.ref/\ae H H2/\All2 (IL K H2) ks ((us.take i).map (M5.zm cs))) ⟨[],rfl,ae.refl _,.nil⟩ ?_ (by rw[length_map];omega) ?_ ?_
  ·rintro i ys H2 hi ⟨ks,rfl,s2,r2⟩;refine⟨s2.seq hU,?_⟩;have:=r2.length;rw[length_map,length_take]at this;rw[length_map];omega
  ·rintro i x ys H2 hx ⟨ks,rfl,s2,r2⟩;obtain⟨hi,rfl⟩:=yD hx;refine⟨_,rfl,_,rfl,a,cs,_,rfl,hC.same (IL.stays K) s2,by omega,λd hd=>(hp d hd).mem_iff.mpr (oU hi),λl H3 s3 f3 e3=>?_⟩;refine⟨ks++[l],by rw[map_append];rfl,s2.trans s3,?_⟩;rw[y6 hi,map_append];exact(r2.imp λ_ _=>IL.stays K _ _ _ _ s3).snoc (show IL K _ l _ from ag.of e3)
  ·rintro ys H2 ⟨ks,rfl,s2,r2⟩ l hl;rw[length_map,take_length]at r2;generalize gN:upd H2 l _=H3;have EU:ae H2 H3:=by rw[<-gN];exact ae.new hl
   have e3:H3 l=some (.lst (ks.map V.ref)):=by rw[<-gN];exact zc
   have r3:=r2.imp λ_ _=>IL.stays K _ _ _ _ EU;have s3:=s2.trans EU;have hk:=r3.length;rw[length_map]at hk;refine⟨_,rfl,l,rfl,⟨_,ag.of e3⟩,?_⟩;refine yq (xs:=ks.map V.ref) (λi ys H4=>ae H3 H4/\ys=((us.take i).map λc=>1+(((us.map (M5.zm cs)).filter λr=>M6.zZ r (M5.zm cs c) 24).length:Int)).map V.int) ⟨ae.refl _,rfl⟩ ?_ (by rw[length_map];omega) ?_ ?_
   ·rintro i ys H4 hi ⟨s4,rfl⟩;refine⟨s4.seq (ag.of e3),?_⟩;rw[length_map,length_map,length_take];omega
   ·rintro i x ys H4 hx ⟨s4,rfl⟩;obtain⟨p,ep,rfl⟩:=uh hx;obtain⟨m,em,rm⟩:=r3.getL ep;rw[getElem?_map]at em;cases eu:us[i]? with
    | none=>rw[eu]at em;cases em
    | some c =>
      rw[eu]at em;cases em;have hc:=mem_of_getElem? eu;have fH:∀d∈us,(M5.zm cs d).length=cs.length/\∀x∈M5.zm cs d,1<=x/\x<=24:=λd hd=>⟨M5.ya cs d,λx hx=>by have:=M6.yG hp hd x hx;omega⟩;refine⟨_,rfl,_,rfl,l,p,us.map (M5.zm cs),M5.zm cs c,rfl,⟨ks,s4.seq (ag.of e3),r3.imp λ_ _=>IL.stays K _ _ _ _ s4⟩,s4.seq rm,λr hr=>?_,(fH c hc).2,by rw[(fH c hc).1];exact c1,by rw[(fH c hc).1];omega,by rw[length_map];omega,λH5 s5=>⟨s4.trans s5,?_⟩⟩
      ·obtain⟨d,hd,rfl⟩:=List.mem_map.mp hr;exact⟨by rw[(fH d hd).1,(fH c hc).1],(fH d hd).2⟩
      ·rw[take_succ,eu,map_append,map_append];rfl
   ·rintro ys H4 ⟨s4,rfl⟩ p rM;rw[length_map,hk,take_length];have st:=s3.trans s4;refine q p _ (st.ar rM) ?_ ?_
    ·cases e:H p with
     | none=>rfl
     | some u=>have:=st p u e;rw[rM]at this;cases this
    ·rw[M6.me hp u1 u2];exact zc
inductive BX (K:Frag) (vs:List V) (H:Hp) (Q:VK) (E:XK):Prop
 | mk (p:Addr) (F:Addr->Prop) (S:Sh):vs=[.ref p]->ao K H p F S->1<=S.handed.length->(∀(l:Addr)(H':Hp),ae H H'->H l=none->H' l=some (.lst ((M6.zw S.ai S.aa).map V.int))->Q (.ref l) H')->BX K vs H Q E
theorem mI(F:aN K "places" "places" Mt f fd)(T:Txt K mg)(uN:aB P w K mg base 6 "places_of" yW (wg K))(rh:aB P w K mg base 2 "refuse_fewer_cards" zB (zH K))(c0:bD P w K mg base 1 (zL K "Sheet") "couples" zA (zF K))(q9:bD P w K mg base 3 (zL K "Sheet") "cards" yh (yw K)):av P w K mg base aQ 7 f fd AJ (BX K):=by
 refine F.ok mr (λvs H Q E h=>?_) (λaE A outer s H vs Q E hr h=>?_)
 ·obtain⟨p,F,S,rfl,_⟩:=h;rfl
 ·obtain⟨p,F,S,rfl,aP,h1,q⟩:=h;refine⟨_,(zd (zI (zi rh (hM hr) rfl (za (pv 0) (za zg zb))))
   (ze (zk (zi uN (hM hr) rfl (za (zP q9 T.aj (hM hr) (pv 0)) (za (zP c0 T.aj (hM hr) (pv 0)) zb)))))),?_⟩
  have ok:=aP.ok;have fD:S.handed.length<=15:=le_trans (length_filter_le _ _) ok.dA;have cG:=ok.cG;obtain⟨dx,b1,b2,b3,d,bx⟩:=aP.ins;refine⟨_,rfl,p,F,S,1,rfl,aP,by omega,λH1 s1=>?_⟩;refine⟨_,rfl,p,dx,_,rfl,s1 _ _ bx,rfl,p,F,S,rfl,aP.same s1,λl2 H2 ls s2 f2 e2 r2=>?_⟩;have t2:=s1.trans s2;refine⟨_,rfl,p,dx,_,rfl,t2 _ _ bx,rfl,p,F,S,rfl,aP.same t2,λl3 H3 s3 f3 e3=>?_⟩;have t3:=t2.trans s3;refine⟨l2,l3,S.ai,S.aa,rfl,⟨ls,ag.of (s3 _ _ e2),r2.imp λ_ _ z=>ag.of (s3 _ _ z.2)⟩,ag.of e3,ok.nd,Sh.aJ ok,by rw[Sh.aA];exact h1,by rw[Sh.aA];exact fD,ok.c1,by omega,λl4 H4 s4 f4 e4=>?_⟩;exact q l4 H4 (t3.trans s4) (t3.free f4) e4
inductive N4 (K:Frag) (vs:List V) (H:Hp) (Q:VK) (E:XK):Prop
 | mk (p:Addr) (F:Addr->Prop) (S:Sh) (j:Str):vs=[.ref p,.str j]->ao K H p F S->j∈S.handed->2<=S.handed.length->(∀(l:Addr)(H':Hp),ae H H'->H l=none->H' l=some (.lst ((M6.zw (S.bc j) S.aa).map V.int))->Q (.ref l) H')->N4 K vs H Q E
theorem YH(F:aN K "left_out" "left_out" Mu f fd)(T:Txt K mg)(uN:aB P w K mg base 6 "places_of" yW (wg K))(rh:aB P w K mg base 2 "refuse_fewer_cards" zB (zH K))(N5:aB P w K mg base 3 "cards_without" wa (wL K))(c0:bD P w K mg base 1 (zL K "Sheet") "couples" zA (zF K))(vY:br P w K mg base 2 (zL K "Sheet") "card_of" yo (yI K)):av P w K mg base aQ 7 f fd Hv (N4 K):=by
 refine F.ok WA (λvs H Q E h=>?_) (λaE A outer s H vs Q E hr h=>?_)
 ·obtain⟨p,F,S,j,rfl,_⟩:=h;rfl
 ·obtain⟨p,F,S,j,rfl,aP,hj,h2,q⟩:=h;refine⟨_,(zd (zI (yT vY T.aj jQ (hM hr) (pv 0) (za (pv 1) zb)))
   (zd (zI (zi rh (hM hr) rfl (za (pv 0) (za zg zb))))
   (ze (zk (zi uN (hM hr) rfl (za (zi N5 (hM hr) rfl (za (pv 0) (za (pv 1) zb))) (za (zP c0 T.aj (hM hr) (pv 0)) zb))))))),?_⟩
  have cj:=zt;have ok:=aP.ok;have fD:=ok.dA;have cG:=ok.cG;obtain⟨dx,b1,b2,b3,d,bx⟩:=aP.ins;have hm:=List.mem_filter.mp hj;cases e:S.card j with
  | none=>rw[e]at hm;exact absurd hm.2 Bool.false_ne_true
  | some c =>
    refine⟨_,rfl,p,dx,_,rfl,bx,rfl,_,rfl,p,F,S,j,rfl,aP,λhn=>absurd hm.1 hn,(λ_ z=>by rw[e]at z;cases z),λc' e' l1 H1 s1 f1 e1=>?_⟩;refine⟨_,rfl,p,F,S,2,rfl,aP.same s1,by omega,λH2 s2=>?_⟩;have t2:=s1.trans s2;refine⟨_,rfl,_,rfl,p,F,S,j,rfl,aP.same t2,λl3 H3 ks s3 f3 e3 r3=>?_⟩;have t3:=t2.trans s3;refine⟨_,rfl,p,dx,_,rfl,t3 _ _ bx,rfl,p,F,S,rfl,aP.same t3,λl4 H4 s4 f4 e4=>?_⟩;have t4:=t3.trans s4;have Bn:=Sh.cP ok.qi hj;have b8:S.handed.length<=15:=le_trans (length_filter_le _ _) fD;refine⟨l3,l4,S.bc j,S.aa,rfl,⟨ks,ag.of (s4 _ _ e3),r3.imp λ_ _=>IL.stays K _ _ _ _ s4⟩,ag.of e4,ok.nd,Sh.cw ok j,by omega,by omega,ok.c1,by omega,λl5 H5 s5 f5 e5=>?_⟩;exact q l5 H5 (t4.trans s5) (t4.free f5) e5
inductive N6 (K:Frag) (vs:List V) (H:Hp) (Q:VK) (E:XK):Prop
 | mk (p:Addr) (F:Addr->Prop) (S:Sh) (j:Str) (d:List Int) (i:Nat):vs=[.ref p,.str j,.int (d.getD i 0)]->ao K H p F S->S.card j=some d->0<i->i<d.length->(∀(t l:Addr)(H':Hp),ae H H'->H t=none->H l=none->H' t=some (.tup [.int (d.getD (i-1) 0),.ref l])->H' l=some (.lst ((M6.zw (S.cy j (iC d i)) S.aa).map V.int))->Q (.ref t) H')->N6 K vs H Q E
theorem jv(F:aN K "step_up" "step_up" Hw f fd)(T:Txt K mg)(YI:kX P w K mg base 1 "one_up" Gw (ME K))(uN:aB P w K mg base 6 "places_of" yW (wg K))(c0:bD P w K mg base 1 (zL K "Sheet") "couples" zA (zF K))(qV:bD P w K mg base 1 (zL K "Sheet") "handed" yd (yk K))(vY:br P w K mg base 2 (zL K "Sheet") "card_of" yo (yI K)):av P w K mg base aQ 7 f fd Hx (N6 K):=by
 refine F.ok El (λvs H Q E h=>?_) (λaE A outer s H vs Q E hr h=>?_)
 ·obtain⟨p,F,S,j,d,i,rfl,_⟩:=h;rfl
 ·obtain⟨p,F,S,j,d,i,rfl,aP,hd,h0,hi,q⟩:=h;refine⟨_,(zd (zr (i:=3) El.nd rfl (Or.inl rfl) (yT vY T.aj jQ (hM hr) (pv 0) (za (pv 1) zb)))
   (zd (zv (zl FK (pv 2) (zP c0 T.aj (hM hr) (pv 0)) (by first | exact zn _ | rfl)) (ze Jq) zp)
   (zd (zr (i:=4) El.nd rfl (Or.inr rfl) (tH YI jQ (hM hr) rfl (za (pv 3) (za (pv 2) zb))))
   (zd (zr (i:=5) El.nd rfl (Or.inl rfl) (zu zq (pv 4) (wP PySem.F.plainAttrs_list PySem.F.slot_list_index PySem.F.type_list_index CV (pv 3) (za (pv 2) zb)) (λ_ _=>rfl)))
   (zd (yK (i:=6) (show ak (zf Hw) R5 "other" ["sheet","judge","stepped"] [0,1,4] _ from cm) rfl El.nd rfl (Or.inl rfl) (zx (zP qV T.aj (hM hr) (pv 0))) (λ_ _ _ _ _=>yN) (λ_ _ _ _ _=>(nI (zl wl (pv 0) (pv 2) (zn _)) (pv 3) (yT vY T.aj jQ (hM hr) (pv 1) (za (pv 0) zb)))))
   (ze (zk (og (za (pv 5) (za (zi uN (hM hr) rfl (za (pv 6) (za (zP c0 T.aj (hM hr) (pv 0)) zb))) zb)))))))))),?_⟩
  have cj:=zt;have ok:=aP.ok;have fD:=ok.dA;have cG:=ok.cG;obtain⟨BJ,xi⟩:=ok.cd j d hd;have vD:=xi.length_eq;have SF:d.Nodup:=xi.nodup_iff.mpr ok.nd;obtain⟨dx,b1,b2,b3,dd,bx⟩:=aP.ins;refine⟨_,rfl,p,dx,_,rfl,bx,rfl,_,rfl,p,F,S,j,rfl,aP,λhn=>absurd BJ hn,(λ_ z=>by rw[hd]at z;cases z),λd' e' l1 H1 s1 f1 e1=>?_⟩;rw[hd]at e';cases e';refine⟨_,rfl,_,rfl,p,dx,_,rfl,s1 _ _ bx,rfl,p,F,S,rfl,aP.same s1,λl2 H2 s2 f2 e2=>?_⟩;have YJ:d.getD i 0∈S.aa:=xi.mem_iff.mp (oU hi);refine⟨l2,_,rfl,.inl (ag.of e2),rfl,zy _,_,rfl,vB ?_ ?_⟩
  ·show(!vg (.int (d.getD i 0)) (S.aa.map V.int))=false;rw[J6,decide_eq_true YJ];rfl
  have t2:=s1.trans s2;refine⟨_,rfl,_,rfl,l1,d,i,rfl,ag.of (s2 _ _ e1),SF,hi,by omega,λn hn=>ok.fH n (xi.mem_iff.mp hn),λz=>absurd z (by omega),λ_ l3 H3 s3 f3 e3=>?_⟩;have t3:=t2.trans s3;have jK:=s3 _ _ (s2 _ _ e1);have qP:d.idxOf (d.getD i 0)=i:=by
   have:d.getD i 0=d[i]:=by rw[getD_eq_getElem?_getD,getElem?_eq_getElem hi];rfl
   rw[this];exact SF.idxOf_getElem i hi
  refine⟨_,rfl,_,rfl,.inl ⟨rfl,_,ag.of jK⟩,_,rfl,l1,_,_,rfl,rfl,ag.of jK,rfl,zy _,?_,l3,_,_,.int (d.getD (i-1) 0),rfl,rfl,ag.of e3,?_,?_⟩
  ·rw[tD,length_map,qP];exact hi
  ·rw[tD,qP];refine zC ?_;rw[getElem?_map,show d.take (i-1)++[d.getD i 0,d.getD (i-1) 0]++d.drop (i+1)=iC d i from rfl,AF h0 hi];rfl
  refine⟨_,rfl,p,dx,_,rfl,t3 _ _ bx,rfl,p,F,S,rfl,(aP.same t3).shape,fD,λl4 H4 s4 f4 e4=>?_⟩;have b8:S.handed.length<=15:=le_trans (length_filter_le _ _) fD;have fY:H4 l3=some (.lst ((iC d i).map V.int)):=s4 _ _ e3;have t4:=t3.trans s4;refine⟨l4,rfl,⟨_,ag.of e4⟩,?_⟩;refine yq (xs:=S.handed.map V.str) (λk ys H5=>∃ks:List Addr,ys=ks.map V.ref/\ae H4 H5/\All2 (IL K H5) ks ((S.handed.take k).map λi'=>if i'=j then iC d i else(S.card i').getD [])) ⟨[],rfl,ae.refl _,.nil⟩ ?_ (by rw[length_map];omega) ?_ ?_
  ·rintro k ys H5 hk ⟨ks,rfl,s5,r5⟩;refine⟨s5.seq (ag.of e4),?_⟩;have:=r5.length;rw[length_map,length_take]at this;rw[length_map];omega
  ·rintro k x ys H5 hx ⟨ks,rfl,s5,r5⟩;obtain⟨hk,rfl⟩:=Ag hx;have hm:=List.mem_filter.mp (show S.handed.getD k "" ∈ S.af.filter λj=>(S.card j).isSome from wn hk);have t5:=t4.trans s5;refine⟨_,rfl,_,rfl,rfl,_,rfl,yr (λhe=>?_) (λaO=>?_)⟩
   ·have he:S.handed.getD k ""=j:=by injection he
    refine⟨_,rfl,ks++[l3],by rw[map_append];rfl,s5,?_⟩;rw[yA hk,map_append];refine r5.snoc ?_;show IL K H5 l3 (if S.handed.getD k ""=j then iC d i else _);rw[if_pos he];exact ag.of (s5 _ _ fY)
   ·have aO:¬S.handed.getD k ""=j:=λz=>aO (by rw[z]);cases e:S.card (S.handed.getD k "")with
    | none=>rw[e]at hm;exact absurd hm.2 Bool.false_ne_true
    | some c =>
      refine⟨_,rfl,p,dx,_,rfl,t5 _ _ bx,rfl,_,rfl,p,F,S,_,rfl,aP.same t5,λhj=>absurd hm.1 hj,(λ_ z=>by rw[e]at z;cases z),λc' e' l6 H6 s6 f6 e6=>?_⟩;rw[e]at e';cases e';refine⟨ks++[l6],by rw[map_append];rfl,s5.trans s6,?_⟩;rw[yA hk,map_append];refine(r5.imp λ_ _=>IL.stays K _ _ _ _ s6).snoc ?_;show IL K H6 l6 (if S.handed.getD k ""=j then iC d i else(S.card (S.handed.getD k "")).getD []);rw[if_neg aO,e];exact ag.of e6
  ·rintro ys H5 ⟨ks,rfl,s5,r5⟩ l7 nh;rw[length_map,take_length]at r5;have s7:=s5.ar (o:=.lst (ks.map V.ref)) nh;have e7:upd H5 l7 (.lst (ks.map V.ref)) l7=some (.lst (ks.map V.ref)):=zc;have r7:=r5.imp λ_ _=>IL.stays K _ _ _ _ (ae.new (o:=.lst (ks.map V.ref)) nh);generalize NW:upd H5 l7 _=H7 at s7 e7 r7 ⊢;have t7:=t4.trans s7;refine⟨_,rfl,_,rfl,_,rfl,p,dx,_,rfl,t7 _ _ bx,rfl,p,F,S,rfl,aP.same t7,λl8 H8 s8 f8 e8=>?_⟩;have t8:=t7.trans s8;have Ir:1<=S.handed.length:=length_pos_of_mem (List.mem_filter.mpr ⟨BJ,by rw[hd];rfl⟩);refine⟨l7,l8,S.cy j (iC d i),S.aa,rfl,⟨ks,ag.of (s8 _ _ e7),r7.imp λ_ _=>IL.stays K _ _ _ _ s8⟩,ag.of e8,ok.nd,Sh.dv ok ((Rn h0 hi).trans xi),by rw[Sh.cQ];exact Ir,by rw[Sh.cQ];exact b8,ok.c1,by omega,λl9 H9 s9 f9 e9=>⟨(by show 2<=sizeLine;decide),λt hT=>?_⟩⟩;have t9:=t8.trans s9;exact q t l9 _ (t9.ar hT) (t9.free hT) (t8.free f9) zc ((ae.new hT) _ _ e9)
inductive Iu (K:Frag) (vs:List V) (H:Hp) (Q:VK) (E:XK):Prop
 | mk (a b:Addr) (cs:List (List Int)) (us:List Int):vs=[.ref a,.ref b]->Refs K (IL K) H a cs->ag K H b (us.map V.int)->us.Nodup->((∀d∈cs,d.Perm us))->1<=cs.length->cs.length<=15->1<=us.length->us.length<=24->(∀(l:Addr)(H':Hp),ae H H'->H l=none->H' l=some (.lst ((mZ cs us).map V.int))->Q (.ref l) H')->Iu K vs H Q E
theorem YK(F:aN K "firsts_of" "firsts_of" Hy f fd)(T:Txt K mg)(uN:aB P w K mg base 6 "places_of" yW (wg K)):av P w K mg base aQ 7 f fd Em (Iu K):=by
 refine F.ok WB (λvs H Q E h=>?_) (λaE A outer s H vs Q E hr h=>?_)
 ·obtain⟨a,b,cs,us,rfl,_⟩:=h;rfl
 ·obtain⟨a,b,cs,us,rfl,hA,hB,nd,hp,c1,NM,u1,NN,q⟩:=h;refine⟨_,(ze (zk (QP (show aH (zf Hy) ["cards","couples"] "place" "couple" [] [] _ from qd) rfl (p8 rfl T.qL (za (zi uN (hM hr) rfl (za (pv 0) (za (pv 1) zb))) (za (pv 1) zb))) (λ_ _ _ _ _=>(yL (zl wl (pv 0) zg (zn _)))) (λ_ _ _ _ _=>(pv 1))))),?_⟩;have cj:=zt;refine⟨_,rfl,_,rfl,a,b,cs,us,rfl,hA,hB,nd,hp,c1,NM,u1,NN,λl1 H1 s1 f1 e1=>?_⟩;have hpl:=M6.yp cs us;refine⟨_,rfl,l1,b,_,_,rfl,ag.of e1,s1.seq hB,?_⟩;refine lK (xs:=(M6.zw cs us).map V.int) (ys:=us.map V.int) (λi zs H2=>ae H1 H2/\zs=(vR (M6.zw cs us) us i).map V.int) ⟨ae.refl _,rfl⟩ ?_ (by rw[length_map,length_map];omega) ?_ ?_
  ·rintro i zs H2 hi ⟨s2,rfl⟩;refine⟨ag.of (s2 _ _ e1),(s1.trans s2).seq hB,?_⟩;rw[length_map];exact Lo _ _ _
  ·rintro i x y t zs H2 hx hy ht ⟨s2,rfl⟩;obtain⟨hi,rfl⟩:=yD hx;obtain⟨jU,rfl⟩:=yD hy;refine⟨_,rfl,rfl,_,rfl,yr (λhe=>?_) (λaO=>?_)⟩
   ·have he:(M6.zw cs us).getD i 0=1:=by injection he
    refine⟨_,rfl,s2.ar ht,?_⟩;rw[Gq,if_pos he,map_append];rfl
   ·have aO:¬(M6.zw cs us).getD i 0=1:=λz=>aO (by rw[z]);refine⟨s2.ar ht,?_⟩;rw[Gq,if_neg aO,append_nil]
  ·rintro zs H2 ⟨s2,rfl⟩ l hl;rw[length_map,length_map,hpl,Nat.min_self]at *;have t2:=s1.trans s2;exact q l _ (t2.ar hl) (t2.free hl) zc
inductive Iv (K:Frag) (vs:List V) (H:Hp) (Q:VK) (E:XK):Prop
 | mk (p:Addr) (F:Addr->Prop) (S:Sh):vs=[.ref p]->ao K H p F S->1<=S.handed.length->(∀(l:Addr)(H':Hp),ae H H'->H l=none->H' l=some (.lst ((mZ S.ai S.aa).map V.int))->Q (.ref l) H')->Iv K vs H Q E
theorem mJ(F:aN K "firsts" "firsts" Mv f fd)(T:Txt K mg)(rh:aB P w K mg base 2 "refuse_fewer_cards" zB (zH K))(N7:aB P w K mg base 7 "firsts_of" Em (Iu K))(c0:bD P w K mg base 1 (zL K "Sheet") "couples" zA (zF K))(q9:bD P w K mg base 3 (zL K "Sheet") "cards" yh (yw K)):av P w K mg base aQ 8 f fd ["sheet"] (Iv K):=by
 refine F.ok mv (λvs H Q E h=>?_) (λaE A outer s H vs Q E hr h=>?_)
 ·obtain⟨p,F,S,rfl,_⟩:=h;rfl
 ·obtain⟨p,F,S,rfl,aP,h1,q⟩:=h;refine⟨_,(zd (zI (zi rh (hM hr) rfl (za (pv 0) (za zg zb))))
   (ze (zk (zi N7 (hM hr) rfl (za (zP q9 T.aj (hM hr) (pv 0)) (za (zP c0 T.aj (hM hr) (pv 0)) zb)))))),?_⟩
  have ok:=aP.ok;have fD:S.handed.length<=15:=le_trans (length_filter_le _ _) ok.dA;have cG:=ok.cG;obtain⟨dx,b1,b2,b3,d,bx⟩:=aP.ins;refine⟨_,rfl,p,F,S,1,rfl,aP,by omega,λH1 s1=>?_⟩;refine⟨_,rfl,p,dx,_,rfl,s1 _ _ bx,rfl,p,F,S,rfl,aP.same s1,λl2 H2 ls s2 f2 e2 r2=>?_⟩;have t2:=s1.trans s2;refine⟨_,rfl,p,dx,_,rfl,t2 _ _ bx,rfl,p,F,S,rfl,aP.same t2,λl3 H3 s3 f3 e3=>?_⟩;have t3:=t2.trans s3;refine⟨l2,l3,S.ai,S.aa,rfl,⟨ls,ag.of (s3 _ _ e2),r2.imp λ_ _ z=>ag.of (s3 _ _ z.2)⟩,ag.of e3,ok.nd,Sh.aJ ok,by rw[Sh.aA];exact h1,by rw[Sh.aA];exact fD,ok.c1,by omega,λl4 H4 s4 f4 e4=>?_⟩;exact q l4 H4 (t3.trans s4) (t3.free f4) e4
inductive N8 (K:Frag) (vs:List V) (H:Hp) (Q:VK) (E:XK):Prop
 | mk (x:Addr) (F:Addr->Prop) (S:Sh) (c:Int):vs=[.ref x,.int c]->ao K H x F S->1<=S.handed.length->c∈S.aa->(∀H',ae H H'->Q (.str (M6.uw (M6.vS S.ai S.aa c) c (M5.zm S.ai c) S.aa.length)) H')->N8 K vs H Q E
theorem YL(F:aN K "table_row" "table_row" Mw f fd)(T:Txt K mg)(BY:aB P w K mg base 7 "places" AJ (BX K))(Oa:aB P w K mg base 4 "row_text" Ei (Il K))(c0:bD P w K mg base 1 (zL K "Sheet") "couples" zA (zF K)):av P w K mg base aQ 8 f fd Hz (N8 K):=by
 refine F.ok R6 (λvs H Q E h=>?_) (λaE A outer s H vs Q E hr h=>?_)
 ·obtain⟨x,F,S,c,rfl,_⟩:=h;rfl
 ·obtain⟨x,F,S,c,rfl,aP,h1,hc,q⟩:=h;refine⟨_,(zd (zr (i:=2) R6.nd rfl (Or.inl rfl) (zi BY (hM hr) rfl (za (pv 0) zb)))
   (zd (zv (zl FK (pv 1) (zP c0 T.aj (hM hr) (pv 0)) (by first | exact zn _ | rfl)) (ze Jq) zp)
   (ze (zk (zi Oa (hM hr) rfl (za (pv 0) (za (zu zq (pv 2) (wP PySem.F.plainAttrs_list PySem.F.slot_list_index PySem.F.type_list_index CV (zP c0 T.aj (hM hr) (pv 0)) (za (pv 1) zb)) (λ_ _=>rfl)) (za (pv 1) zb)))))))),?_⟩
  have cj:=zt;have ok:=aP.ok;have cG:=ok.cG;obtain⟨dx,b1,b2,b3,d,hi⟩:=aP.ins;refine⟨_,rfl,x,F,S,rfl,aP,h1,λl1 H1 s1 f1 e1=>?_⟩;refine⟨_,rfl,_,rfl,x,dx,_,rfl,s1 _ _ hi,rfl,x,F,S,rfl,aP.same s1,λl2 H2 s2 f2 e2=>?_⟩;refine⟨l2,_,rfl,.inl (ag.of e2),rfl,zy _,_,rfl,vB ?_ ?_⟩
  ·show(!vg (.int c) (S.aa.map V.int))=false;rw[J6,decide_eq_true hc];rfl
  have t2:=s1.trans s2;have qP:=idxOf_lt_length_of_mem hc;refine⟨_,rfl,_,rfl,_,rfl,x,dx,_,rfl,t2 _ _ hi,rfl,x,F,S,rfl,aP.same t2,λl3 H3 s3 f3 e3=>?_⟩;refine⟨.inl ⟨rfl,_,ag.of e3⟩,_,rfl,l3,_,_,rfl,rfl,ag.of e3,rfl,zy _,(by rw[tD,length_map];exact qP),?_⟩;rw[tD];have DH:cH ((M6.zw S.ai S.aa).map V.int) (S.aa.idxOf c:Int)=some (.int (M6.vS S.ai S.aa c)):=by
   have:=zC (mS (ns:=M6.zw S.ai S.aa) (i:=S.aa.idxOf c) (by rw[M6.yp];exact qP));rw[M6.mf qP,M6.qD hc]at this;exact this
  have hb:(M6.vS S.ai S.aa c).natAbs<=990:=by
   unfold M6.vS M6.D5;have:=length_filter_le (λd=>M6.zZ (M5.zm S.ai d) (M5.zm S.ai c) S.aa.length) S.aa;omega
  have t3:=t2.trans s3;refine⟨l1,_,_,_,rfl,rfl,ag.of (s3 _ _ (s2 _ _ e1)),DH,_,rfl,x,F,S,_,c,rfl,aP.same t3,hc,hb,λH4 s4=>q H4 (t3.trans s4)⟩
inductive Ob (K:Frag) (vs:List V) (H:Hp) (Q:VK) (E:XK):Prop
 | mk (p:Addr) (F:Addr->Prop) (S:Sh):vs=[.ref p]->ao K H p F S->2<=S.handed.length->(∀(l:Addr)(H':Hp),ae H H'->H l=none->H' l=some (.lst (S.decide.map V.str))->Q (.ref l) H')->Ob K vs H Q E
theorem YM(F:aN K "deciders" "deciders" HA f fd)(T:Txt K mg)(Oc:aB P w K mg base 8 "firsts" ["sheet"] (Iv K))(rh:aB P w K mg base 2 "refuse_fewer_cards" zB (zH K))(N7:aB P w K mg base 7 "firsts_of" Em (Iu K))(N5:aB P w K mg base 3 "cards_without" wa (wL K))(c0:bD P w K mg base 1 (zL K "Sheet") "couples" zA (zF K))(qV:bD P w K mg base 1 (zL K "Sheet") "handed" yd (yk K)):av P w K mg base aQ 9 f fd ["sheet"] (Ob K):=by
 refine F.ok R7 (λvs H Q E h=>?_) (λaE A outer s H vs Q E hr h=>?_)
 ·obtain⟨p,F,S,rfl,_⟩:=h;rfl
 ·obtain⟨p,F,S,rfl,aP,h2,q⟩:=h;refine⟨_,(zd (zI (zi rh (hM hr) rfl (za (pv 0) (za zg zb))))
   (zd (zr (i:=1) R7.nd rfl (Or.inr rfl) (zi Oc (hM hr) rfl (za (pv 0) zb)))
   (ze (zk (zS (show ak (zf HA) ["sheet","now"] "judge" ["sheet","now"] [0,1] _ from cm) rfl (zx (zP qV T.aj (hM hr) (pv 0))) (λ_ _ _ _ _=>(yL (zl (yF (K:=K) rfl hr.aS) (zi N7 (hM hr) rfl (za (zi N5 (hM hr) rfl (za (pv 1) (za (pv 0) zb))) (za (zP c0 T.aj (hM hr) (pv 1)) zb))) (pv 2) (zn _)))) (λ_ _ _ _ _=>(pv 0))))))),?_⟩
  have cj:=zt;have ok:=aP.ok;have fD:S.handed.length<=15:=le_trans (length_filter_le _ _) ok.dA;have cG:=ok.cG;obtain⟨dx,b1,b2,b3,d,bx⟩:=aP.ins;refine⟨_,rfl,p,F,S,2,rfl,aP,by omega,λH1 s1=>?_⟩;refine⟨_,rfl,p,F,S,rfl,aP.same s1,by omega,λl2 H2 s2 f2 e2=>?_⟩;have t2:=s1.trans s2;refine⟨_,rfl,p,dx,_,rfl,t2 _ _ bx,rfl,p,F,S,rfl,(aP.same t2).shape,ok.dA,λl3 H3 s3 f3 e3=>?_⟩;have t3:=t2.trans s3;refine⟨l3,rfl,⟨_,ag.of e3⟩,?_⟩;refine y9 (xs:=S.handed.map V.str) (λi ys H4=>ae H3 H4/\ys=((S.handed.take i).filter λj => !Decidable.decide (mZ (S.bc j) S.aa=mZ S.ai S.aa)).map V.str) ⟨ae.refl _,rfl⟩ ?_ (by rw[length_map];omega) ?_ ?_
  ·rintro i ys H4 hi ⟨s4,rfl⟩;refine⟨s4.seq (ag.of e3),?_⟩;rw[length_map];exact le_trans (length_filter_le _ _) (by rw[length_take];omega)
  ·rintro i x ys H4 hx ⟨s4,rfl⟩;obtain⟨hi,rfl⟩:=Ag hx;have t4:=t3.trans s4;refine⟨_,rfl,_,rfl,p,F,S,_,rfl,aP.same t4,λl5 H5 ks s5 f5 e5 r5=>?_⟩;have t5:=t4.trans s5;refine⟨_,rfl,p,dx,_,rfl,t5 _ _ bx,rfl,p,F,S,rfl,aP.same t5,λl6 H6 s6 f6 e6=>?_⟩;have g1:=Sh.je ok.qi (S.handed.getD i "");have g2:=Sh.jd S (S.handed.getD i "");refine⟨l5,l6,_,S.aa,rfl,⟨ks,ag.of (s6 _ _ e5),r5.imp λ_ _=>IL.stays K _ _ _ _ s6⟩,ag.of e6,ok.nd,Sh.cw ok _,by omega,by omega,ok.c1,by omega,λl7 H7 s7 f7 e7=>?_⟩;have u7:=((s4.trans s5).trans s6).trans s7;refine⟨_,rfl,l7,l2,_,_,rfl,rfl,ag.of e7,ag.of ((s3.trans u7) _ _ e2),zy _,zy _,_,rfl,?_⟩;rw[yx];refine yi (λaO=>?_) (λhe=>?_)
   ·refine⟨_,rfl,u7,?_⟩;rw[yA hi,filter_append,filter_cons,if_pos (by rw[decide_eq_false aO];rfl),map_append];rfl
   ·refine⟨u7,?_⟩;rw[yA hi,filter_append,filter_cons,if_neg (by rw[decide_eq_true he];decide),filter_nil,append_nil]
  ·rintro ys H4 ⟨s4,rfl⟩ l hl;rw[length_map,take_length]at *;have t4:=t3.trans s4;exact q l _ (t4.ar hl) (t4.free hl) zc
inductive Iw (K:Frag) (vs:List V) (H:Hp) (Q:VK) (E:XK):Prop
 | mk (a b:Addr) (ps us:List Int):vs=[.ref a,.ref b]->ag K H a (ps.map V.int)->ag K H b (us.map V.int)->ps.length=us.length->((∀k,k<us.length->1<=ps.getD k 0/\ps.getD k 0<=us.length))->1<=us.length->us.length<=24->aZ (wQ K "by_place") dW H->(∀(l:Addr)(H':Hp)(ls:List Addr),aG H H'->aZ (wQ K "by_place") dW H'->H l=none->H' l=some (.lst (ls.map V.ref))->All2 (dg K H') ls (M5.rows ps us)->Q (.ref l) H')->Iw K vs H Q E
theorem YN(F:aN K "by_place" "by_place" BH f fd)(T:Txt K mg)(L:KS K "by_place" f)(B:tT mg base)(BY:aB P w K mg base 7 "places" AJ (BX K)):av P w K mg base aQ 11 f fd ["places","couples"] (Iw K):=by
 refine F.Vi L WC (λvs H Q E h=>?_) (λc A outer s H vs Q E hC hr h=>?_)
 ·obtain⟨a,b,ps,us,rfl,_⟩:=h;rfl
 ·obtain⟨a,b,ps,us,rfl,hA,hB,hl,hk,u1,u2,hT,q⟩:=h;refine⟨_,(ze (zk (lJ rfl (hM hr) (by rfl) T.dw (by rfl) T.qL rfl hC B ⟨rfl,rfl,rfl,by decide,rfl,by decide +kernel,by decide +kernel⟩ rfl (by decide) (by decide) rfl rfl (λ_ _ _ _ _ _=>rfl) (za (pv 0) (za (pv 1) zb))))),?_⟩;refine⟨_,rfl,_,rfl,a,b,ps,us.map V.int,rfl,hA,hB,by rw[length_map];exact hl,by omega,by omega,hT,λH2 ts l p sn ls pr hn hi=>?_⟩;rw[hl]at hi;have hm:∀i∈p.toList,i<us.length:=λi h=>by
   rw[M15.qH hi hk]at h;exact List.mem_range.mp ((M15.kq _ _ hk i).mp h)
  have rr:=Rw (K:=K) hl pr p.toList hm;rw[M15.uA hl hk hi]at rr;refine q l _ (p.toList.map λi=>ts.getD i 0) (sn.trans (ae.new hn).toN) (ls.same (ae.new hn)) (sn.free hn) ?_ (rr.imp λ_ _=>dg.stays K _ _ _ _ (ae.new hn));rw[map_map];exact zc
inductive Iy (K:Frag) (vs:List V) (H:Hp) (Q:VK) (E:XK):Prop
 | mk (a b:Addr) (cs:List (List Int)) (us:List Int):vs=[.ref a,.ref b]->Refs K (IL K) H a cs->ag K H b (us.map V.int)->us.Nodup->((∀d∈cs,d.Perm us))->1<=cs.length->cs.length<=15->1<=us.length->us.length<=24->aZ (wQ K "by_place") dW H->(∀(l:Addr)(H':Hp)(ls:List Addr),aG H H'->aZ (wQ K "by_place") dW H'->H l=none->H' l=some (.lst (ls.map V.ref))->All2 (dg K H') ls (M5.rows (M6.zw cs us) us)->Q (.ref l) H')->Iy K vs H Q E
theorem YO(F:aN K "ranking_of" "ranking_of" Mx f fd)(T:Txt K mg)(uN:aB P w K mg base 6 "places_of" yW (wg K))(YQ:aB P w K mg base 11 "by_place" ["places","couples"] (Iw K)):av P w K mg base aQ 12 f fd wW (Iy K):=by
 refine F.ok WD (λvs H Q E h=>?_) (λaE A outer s H vs Q E hr h=>?_)
 ·obtain⟨a,b,cs,us,rfl,_⟩:=h;rfl
 ·obtain⟨a,b,cs,us,rfl,hC,hU,BM,hp,c1,c2,u1,u2,hT,q⟩:=h;refine⟨_,(ze (zk (zi YQ (hM hr) rfl (za (zi uN (hM hr) rfl (za (pv 0) (za (pv 1) zb))) (za (pv 1) zb))))),?_⟩;refine⟨_,rfl,_,rfl,a,b,cs,us,rfl,hC,hU,BM,hp,c1,c2,u1,u2,λl1 H1 s1 f1 e1=>?_⟩;refine⟨_,rfl,l1,b,M6.zw cs us,us,rfl,ag.of e1,s1.seq hU,M6.yp cs us,M6.V0 cs us,u1,u2,hT.same s1,λl H' ls s2 z2 f2 e2 r2=>?_⟩;exact q l H' ls (s1.toN.trans s2) z2 (s1.toN.free f2) e2 r2
inductive Od (K:Frag) (vs:List V) (H:Hp) (Q:VK) (E:XK):Prop
 | mk (a b:Addr) (cs:List (List Int)) (us:List Int):vs=[.ref a,.ref b]->Refs K (IL K) H a cs->ag K H b (us.map V.int)->us.Nodup->((∀d∈cs,d.Perm us))->1<=cs.length->cs.length<=15->1<=us.length->us.length<=24->aZ (wQ K "by_place") dW H->(∀(l:Addr)(H':Hp)(ls:List Addr),aG H H'->aZ (wQ K "by_place") dW H'->H l=none->H' l=some (.lst (ls.map V.ref))->All2 (F4 K H') ls (M6.AE cs us)->Q (.ref l) H')->Od K vs H Q E
theorem YR(F:aN K "partings_of" "partings_of" HB f fd)(T:Txt K mg)(BW:aB P w K mg base 2 "marks_of" BG (EA K))(Oe:aB P w K mg base 12 "ranking_of" wW (Iy K))(YS:aB P w K mg base 4 "parting_of" Hr (NU K)):av P w K mg base aQ 13 f fd HF (Od K):=by
 refine F.ok y8 (λvs H Q E h=>?_) (λaE A outer s H vs Q E hr h=>?_)
 ·obtain⟨a,b,cs,us,rfl,_⟩:=h;rfl
 ·obtain⟨a,b,cs,us,rfl,hC,hU,BM,hp,c1,c2,u1,u2,hT,q⟩:=h;refine⟨_,(zd (K0 (i:=2) (show aH (zf HB) R8 "place" "couple" [] [] _ from qd) rfl y8.nd rfl (Or.inl rfl) (zx (zi Oe (hM hr) rfl (za (pv 0) (za (pv 1) zb)))) (λ_ _ _ _ _=>yN) (λ_ _ _ _ _=>(pv 1)))
   (zd (zr (i:=3) y8.nd rfl (Or.inl rfl) (zz zb))
   (zd (yB PassesOwn.never rfl (p8 rfl T.qL (za (pv 2) (za (zG zX (pv 2) (zO zg) yb) zb))) (nK rfl (FA (zN (i:=4) y8.nd rfl (Or.inl rfl)) (FA (zN (i:=5) y8.nd rfl (Or.inl rfl)) jF)))
     (zd (zr (i:=6) y8.nd rfl (Or.inl rfl) (zi YS (hM hr) rfl (za (zi BW (hM hr) rfl (za (pv 0) (za (pv 4) zb))) (za (zi BW (hM hr) rfl (za (pv 0) (za (pv 5) zb))) zb))))
   (ze (zv (zl sQ (pv 6) Bg (zn _)) (ze (zI (wP PySem.F.plainAttrs_list PySem.F.slot_list_append PySem.F.type_list_append yO (pv 3) (za (og (za (pv 4) (za (pv 5) (za (zu yz (pv 6) zg (λ_ _=>rfl)) (za (zu yz (pv 6) zg (λ_ _=>rfl)) zb))))) zb)))) zp))))
   (ze (zk (pv 3)))))),?_⟩
  have cj:=zt;refine⟨_,rfl,_,rfl,a,b,cs,us,rfl,hC,hU,BM,hp,c1,c2,u1,u2,hT,λl1 H1 ls s1 z1 f1 e1 r1=>?_⟩;refine⟨l1,rfl,⟨_,ag.of e1⟩,?_⟩;have t1:=s1.same;have SG:=hC.lG;have ee:=λp (hp:p∈M5.rows (M6.zw cs us) us)=>M6.Gp hp;have AN:=M5.aL (M6.zw cs us) us (M6.yp cs us);have hmul:us.length*us.length<=24*24:=mul_le_mul u2 u2;unfold M6.AE at q;generalize M5.rows (M6.zw cs us) us=rs at r1 AN ee q;have cJ:=r1.length;refine QQ (xs:=ls.map V.ref) (λi ys H2=>ae H1 H2/\ys=((rs.take i).map λp=>p.2).map V.int) ⟨ae.refl _,rfl⟩ ?_ (by rw[length_map];omega) ?_ ?_
  ·rintro i ys H2 hi ⟨s2,rfl⟩;refine⟨s2.seq (ag.of e1),?_⟩;rw[length_map,length_map,length_take];omega
  ·rintro i x ys H2 hx ⟨s2,rfl⟩;obtain⟨p,ep,rfl⟩:=uh hx;obtain⟨m,em,rm⟩:=r1.getL ep;refine⟨p,_,_,rfl,s2.ia rm,_,rfl,s2,?_⟩;rw[take_succ,em,map_append,map_append];rfl
  ·rintro ys H2 ⟨s2,rfl⟩ l2 b8;rw[length_map,cJ,take_length];generalize gN:upd H2 l2 _=H3;have EU:ae H2 H3:=by rw[<-gN];exact ae.new b8
   have e3:H3 l2=some (.lst ((rs.map λp=>p.2).map V.int)):=by rw[<-gN];exact zc
   have cc:=s2.trans EU;refine⟨by decide,λp4 dZ=>?_⟩;have e4:(upd H3 p4 (.lst [])) l2=some (.lst ((rs.map λp=>p.2).map V.int)):=(ae.new dZ) _ _ e3;refine⟨_,rfl,_,rfl,_,rfl,l2,_,rfl,ag.of e4,λl5 iD=>?_⟩;rw[wt (by decide)];have s4:=ae.new (o:=.lst []) dZ;have s5:=ae.new (o:=.lst (((rs.map λp=>p.2).drop (1:Int).toNat).map V.int)) iD;have sd:p4≠l5:=zj zc iD;have e6:upd (upd H3 p4 (.lst [])) l5 (.lst (((rs.map λp=>p.2).drop (1:Int).toNat).map V.int)) p4=some (.lst (([]:List Addr).map V.ref)):=by rw[zh sd];exact zc
   have e5:upd (upd H3 p4 (.lst [])) l5 (.lst (((rs.map λp=>p.2).drop (1:Int).toNat).map V.int)) l5=some (.lst (((rs.map λp=>p.2).drop 1).map V.int)):=zc;have Of:=s4.trans s5;generalize qR:upd (upd H3 p4 (.lst [])) l5 _=H6 at e6 e5 Of ⊢;have hf5:H3 l5=none:=s4.free iD;refine⟨l2,l5,_,_,rfl,ag.of (Of _ _ e3),ag.of e5,?_⟩;refine tX (xs:=(rs.map λp=>p.2).map V.int) (ys:=((rs.map λp=>p.2).drop 1).map V.int) (λi σ H7=>∃(v4 v5 v6:Option V)(ms:List Addr),σ=[some (.ref a),some (.ref b),some (.ref l2),some (.ref p4),v4,v5,v6]/\ae H3 H7/\H7 l5=some (.lst (((rs.map λp=>p.2).drop 1).map V.int))/\H7 p4=some (.lst (ms.map V.ref))/\All2 (F4 K H7) ms (((rs.zip rs.tail).take i).filterMap λpq=>M6.nb cs us pq.1 pq.2)) ⟨_,_,_,[],rfl,Of,e5,e6,.nil⟩ ?_ ?_ ?_
   ·rintro i σ H7 hi ⟨v4,v5,v6,ms,rfl,s7,f5,f4,r7⟩;exact⟨ag.of (s7 _ _ e3),ag.of f5⟩
   ·rintro i x y t σ H7 hx hy hn ⟨v4,v5,v6,ms,rfl,s7,f5,f4,r7⟩;rw[getElem?_map,getElem?_map]at hx;rw[getElem?_map,List.getElem?_drop,getElem?_map,Nat.add_comm]at hy;cases ea:rs[i]? with
    | none=>rw[ea]at hx;cases hx
    | some pa =>
      cases eb:rs[i+1]? with
      | none=>rw[eb]at hy;cases hy
      | some pb =>
        rw[ea]at hx;rw[eb]at hy;cases hx;cases hy;have ez:(rs.zip rs.tail)[i]? = some (pa,pb):=by rw[List.getElem?_zip_eq_some];exact⟨ea,by rw[List.getElem?_tail];exact eb⟩
        obtain⟨BQ,HY⟩:=ee _ (mem_of_getElem? ea);obtain⟨BR,HZ⟩:=ee _ (mem_of_getElem? eb);have s8:=ae.new (o:=.tup [.int pa.2,.int pb.2]) hn;refine⟨t,_,rfl,bN.new,rfl,_,_,rfl,_,_,rfl,rfl,?_⟩;have t8:=((t1.trans (s2.trans EU)).trans s7).trans s8;have SH:=s8 _ _ f4;have SI:=s8 _ _ f5;have r8:=r7.imp λ_ _=>F4.stays K _ _ _ _ s8;have SJ:=s7.trans s8;generalize Sa:upd H7 t _=H8 at s8 t8 SH SI r8 SJ ⊢;refine⟨_,rfl,_,rfl,a,cs,_,rfl,SG.same (IL.stays K) t8,by omega,λd hd=>(hp d hd).mem_iff.mpr BQ,λl9 H9 s9 f9 e9=>?_⟩;refine⟨_,rfl,_,rfl,a,cs,_,rfl,SG.same (IL.stays K) (t8.trans s9),by omega,λd hd=>(hp d hd).mem_iff.mpr BR,λgz uG de Og js=>?_⟩;have fH:∀d∈us,∀x∈M5.zm cs d,1<=x/\x<=24:=λd hd x hx=>by have:=M6.yG hp hd x hx;omega
        refine⟨l9,gz,_,_,rfl,ag.of (de _ _ e9),ag.of js,by rw[M5.ya,M5.ya],by rw[M5.ya];omega,by rw[M5.ya];omega,fH _ BQ,fH _ BR,λr hr v EO fU told=>?_⟩;have Oh:=M6.uB hp u1 u2 BQ BR hr;rw[<-HY,<-HZ]at Oh;have uO:=s9.trans (de.trans fU);have EV:=uO _ _ SH;have SK:=uO _ _ SI;have SM:=r8.imp λ_ _=>F4.stays K _ _ _ _ uO;have EW:=SJ.trans uO;cases r with
        | none =>
          have told:v=.bo:=told;subst told;have ef:filterMap (λpq:(Int×Int)×(Int×Int)=>M6.nb cs us pq.1 pq.2) (some (pa,pb)).toList=[]:=by
           show filterMap _ [(pa,pb)]=_;rw[List.filterMap_cons_none (f:=λpq:(Int×Int)×(Int×Int)=>M6.nb cs us pq.1 pq.2) (a:=(pa,pb)) Oh,filterMap_nil]
          refine⟨_,rfl,rfl,_,rfl,oC rfl ?_⟩;refine⟨_,_,_,ms,rfl,EW,SK,EV,?_⟩;rw[take_succ,ez,List.filterMap_append,ef,append_nil];exact SM
        | some r =>
          obtain⟨gP,rfl,EX⟩:=told;have ef:filterMap (λpq:(Int×Int)×(Int×Int)=>M6.nb cs us pq.1 pq.2) (some (pa,pb)).toList=[(pa.2,pb.2,(r.1:Int),r.2)]:=by
           show filterMap _ [(pa,pb)]=_;rw[List.filterMap_cons_some (f:=λpq:(Int×Int)×(Int×Int)=>M6.nb cs us pq.1 pq.2) (a:=(pa,pb)) Oh,filterMap_nil]
          refine⟨_,rfl,rfl,_,rfl,yi (λ_=>?_) (λz=>by cases z)⟩;refine⟨_,rfl,.inl ⟨rfl,_,ag.of EV⟩,_,rfl,_,rfl,_,rfl,gP,_,_,_,rfl,rfl,EX,rfl,_,rfl,gP,_,_,_,rfl,rfl,EX,rfl,(by show 4<=sizeLine;decide),λSN Oi=>?_⟩;have cc:=ae.new (o:=.tup [.int pa.2,.int pb.2,.int (r.1:Nat),.str r.2]) Oi;have b8:=r7.length;have eG:=List.length_filterMap_le (λpq:(Int×Int)×(Int×Int)=>M6.nb cs us pq.1 pq.2) ((rs.zip rs.tail).take i);rw[length_take,length_zip]at eG;refine⟨p4,_,_,rfl,rfl,cc _ _ EV,by rw[length_map];omega,?_⟩;refine⟨_,_,_,ms++[SN],rfl,(EW.trans cc).put dZ,by rw[zh (Ne.symm sd)];exact cc _ _ SK,Lf ms SN,?_⟩;rw[take_succ,ez,List.filterMap_append,ef];refine All2.snoc (F4.put (SM.imp λ_ _=>F4.stays K _ _ _ _ cc) (cc _ _ EV)) ?_;exact bN.put (ys:=ms.map V.ref) bN.new (cc _ _ EV)
   ·rintro σ H7 ⟨v4,v5,v6,ms,rfl,s7,f5,f4,r7⟩;rw[length_map,length_map,length_map,length_drop,length_map,take_of_length_le (by rw[length_zip,length_tail];omega)]at r7;refine⟨_,rfl,q p4 H7 ms ?_ (z1.same (cc.trans s7)) ?_ f4 r7⟩
    ·exact s1.trans (ae.toN (cc.trans s7))
    ·exact s1.free (cc.free dZ)
inductive Iz (K:Frag) (vs:List V) (H:Hp) (Q:VK) (E:XK):Prop
 | mk (p:Addr) (F:Addr->Prop) (S:Sh):vs=[.ref p]->ao K H p F S->1<=S.handed.length->aZ (wQ K "by_place") dW H->(∀(l:Addr)(H':Hp)(ls:List Addr),aG H H'->aZ (wQ K "by_place") dW H'->H l=none->H' l=some (.lst (ls.map V.ref))->All2 (dg K H') ls (M5.rows (M6.zw S.ai S.aa) S.aa)->Q (.ref l) H')->Iz K vs H Q E
theorem jw(F:aN K "ranking" "ranking" My f fd)(T:Txt K mg)(Oe:aB P w K mg base 12 "ranking_of" wW (Iy K))(rh:aB P w K mg base 2 "refuse_fewer_cards" zB (zH K))(c0:bD P w K mg base 1 (zL K "Sheet") "couples" zA (zF K))(q9:bD P w K mg base 3 (zL K "Sheet") "cards" yh (yw K)):av P w K mg base aQ 13 f fd ["sheet"] (Iz K):=by
 refine F.ok jl (λvs H Q E h=>?_) (λaE A outer s H vs Q E hr h=>?_)
 ·obtain⟨p,F,S,rfl,_⟩:=h;rfl
 ·obtain⟨p,F,S,rfl,aP,h1,hT,q⟩:=h;refine⟨_,(zd (zI (zi rh (hM hr) rfl (za (pv 0) (za zg zb))))
   (ze (zk (zi Oe (hM hr) rfl (za (zP q9 T.aj (hM hr) (pv 0)) (za (zP c0 T.aj (hM hr) (pv 0)) zb)))))),?_⟩
  have ok:=aP.ok;have fD:S.handed.length<=15:=le_trans (length_filter_le _ _) ok.dA;have cG:=ok.cG;obtain⟨dx,b1,b2,b3,d,bx⟩:=aP.ins;refine⟨_,rfl,p,F,S,1,rfl,aP,by omega,λH1 s1=>?_⟩;refine⟨_,rfl,p,dx,_,rfl,s1 _ _ bx,rfl,p,F,S,rfl,aP.same s1,λl2 H2 ls s2 f2 e2 r2=>?_⟩;have t2:=s1.trans s2;refine⟨_,rfl,p,dx,_,rfl,t2 _ _ bx,rfl,p,F,S,rfl,aP.same t2,λl3 H3 s3 f3 e3=>?_⟩;have t3:=t2.trans s3;refine⟨l2,l3,S.ai,S.aa,rfl,⟨ls,ag.of (s3 _ _ e2),r2.imp λ_ _ z=>ag.of (s3 _ _ z.2)⟩,ag.of e3,ok.nd,Sh.aJ ok,by rw[Sh.aA];exact h1,by rw[Sh.aA];exact fD,ok.c1,by omega,hT.same t3,λl4 H4 Oj s4 z4 f4 e4 r4=>?_⟩;exact q l4 H4 Oj (t3.toN.trans s4) z4 (t3.free f4) e4 r4
inductive Ol (K:Frag) (vs:List V) (H:Hp) (Q:VK) (E:XK):Prop
 | mk (p:Addr) (F:Addr->Prop) (S:Sh):vs=[.ref p]->ao K H p F S->1<=S.handed.length->aZ (wQ K "by_place") dW H->(∀(l:Addr)(H':Hp)(ls:List Addr),aG H H'->aZ (wQ K "by_place") dW H'->H l=none->H' l=some (.lst (ls.map V.ref))->All2 (F4 K H') ls (M6.AE S.ai S.aa)->Q (.ref l) H')->Ol K vs H Q E
theorem YT(F:aN K "partings" "partings" Mz f fd)(T:Txt K mg)(YU:aB P w K mg base 13 "partings_of" HF (Od K))(rh:aB P w K mg base 2 "refuse_fewer_cards" zB (zH K))(c0:bD P w K mg base 1 (zL K "Sheet") "couples" zA (zF K))(q9:bD P w K mg base 3 (zL K "Sheet") "cards" yh (yw K)):av P w K mg base aQ 14 f fd ["sheet"] (Ol K):=by
 refine F.ok WE (λvs H Q E h=>?_) (λaE A outer s H vs Q E hr h=>?_)
 ·obtain⟨p,F,S,rfl,_⟩:=h;rfl
 ·obtain⟨p,F,S,rfl,aP,h1,hT,q⟩:=h;refine⟨_,(zd (zI (zi rh (hM hr) rfl (za (pv 0) (za zg zb))))
   (ze (zk (zi YU (hM hr) rfl (za (zP q9 T.aj (hM hr) (pv 0)) (za (zP c0 T.aj (hM hr) (pv 0)) zb)))))),?_⟩
  have ok:=aP.ok;have fD:S.handed.length<=15:=le_trans (length_filter_le _ _) ok.dA;have cG:=ok.cG;obtain⟨dx,b1,b2,b3,d,bx⟩:=aP.ins;refine⟨_,rfl,p,F,S,1,rfl,aP,by omega,λH1 s1=>?_⟩;refine⟨_,rfl,p,dx,_,rfl,s1 _ _ bx,rfl,p,F,S,rfl,aP.same s1,λl2 H2 ls s2 f2 e2 r2=>?_⟩;have t2:=s1.trans s2;refine⟨_,rfl,p,dx,_,rfl,t2 _ _ bx,rfl,p,F,S,rfl,aP.same t2,λl3 H3 s3 f3 e3=>?_⟩;have t3:=t2.trans s3;refine⟨l2,l3,S.ai,S.aa,rfl,⟨ls,ag.of (s3 _ _ e2),r2.imp λ_ _ z=>ag.of (s3 _ _ z.2)⟩,ag.of e3,ok.nd,Sh.aJ ok,by rw[Sh.aA];exact h1,by rw[Sh.aA];exact fD,ok.c1,by omega,hT.same t3,λl4 H4 Oj s4 z4 f4 e4 r4=>?_⟩;exact q l4 H4 Oj (t3.toN.trans s4) z4 (t3.free f4) e4 r4
inductive Om (K:Frag) (vs:List V) (H:Hp) (Q:VK) (E:XK):Prop
 | mk (x:Addr) (F:Addr->Prop) (S:Sh):vs=[.ref x]->ao K H x F S->1<=S.handed.length->aZ (wQ K "by_place") dW H->(∀(l:Addr)(H':Hp),aG H H'->aZ (wQ K "by_place") dW H'->H l=none->H' l=some (.lst ((M6.km S.ai S.aa).map V.str))->Q (.ref l) H')->Om K vs H Q E
theorem rn(F:aN K "table" "table" HG f fd)(T:Txt K mg)(Oo:aB P w K mg base 13 "ranking" ["sheet"] (Iz K))(Oa:aB P w K mg base 4 "row_text" Ei (Il K)):av P w K mg base aQ 14 f fd ["sheet"] (Om K):=by
 refine F.ok qM (λvs H Q E h=>?_) (λaE A outer s H vs Q E hr h=>?_)
 ·obtain⟨x,F,S,rfl,_⟩:=h;rfl
 ·obtain⟨x,F,S,rfl,aP,h1,hL,q⟩:=h;refine⟨_,(ze (zk (QP (show aH (zf HG) ["sheet"] "place" "couple" ["sheet"] [0] _ from qd) rfl (zx (zi Oo (hM hr) rfl (za (pv 0) zb))) (λ_ _ _ _ _=>yN) (λ_ _ _ _ _=>(zi Oa (hM hr) rfl (za (pv 2) (za (pv 0) (za (pv 1) zb)))))))),?_⟩;have cj:=zt;have ok:=aP.ok;have cG:=ok.cG;refine⟨_,rfl,x,F,S,rfl,aP,h1,hL,λl1 H1 ls s1 z1 f1 e1 r1=>?_⟩;obtain⟨F1,hF1,g1⟩:=aP.bJ s1;have AN:=M5.aL (M6.zw S.ai S.aa) S.aa (M6.yp _ _);have hmul:S.aa.length*S.aa.length<=24*24:=mul_le_mul (by omega) (by omega);refine⟨l1,rfl,⟨_,ag.of e1⟩,?_⟩;refine Lu (f:=λp=>M6.uw p.1 p.2 (M5.zm S.ai p.2) S.aa.length) (ag.of e1) r1 (by omega) (λp H' R hp s' h=>?_) λH2 s2=>?_
  ·obtain⟨m1,m2⟩:=M6.Gp hp;have hb:p.1.natAbs<=990:=by
    rw[m2];unfold M6.yS;have:=length_filter_le (λd=>M6.zZ (M5.zm S.ai d) (M5.zm S.ai p.2) S.aa.length) S.aa;omega
   exact⟨_,rfl,_,rfl,_,rfl,x,F1,S,p.1,p.2,rfl,g1.same s',m1,hb,λH2 s2=>h H2 s2⟩
  ·intro l2 b8;exact q l2 _ (s1.trans (s2.ar b8).toN) (z1.same (s2.ar b8)) (s1.free (s2.free b8)) zc
inductive IA (K:Frag) (vs:List V) (H:Hp) (Q:VK) (E:XK):Prop
 | mk (x n u k:Addr) (F:Addr->Prop) (S:Sh) (kl:List Addr) (bf:Nat) (sp:Int):vs=[.ref x,.ref n,.ref u,.ref k,.int bf,.int sp]->ao K H x F S->H n=some (.lst (S.af.map V.str))->H u=some (.lst (S.aa.map V.int))->H k=some (.lst (kl.map V.ref))->(All2 (λl c=>H l=some (.lst (c.map V.int))) kl S.rows)->bf<S.af.length->1<=S.handed.length->aZ (wQ K "by_place") dW H->(∀H',aG H H'->aZ (wQ K "by_place") dW H'->Q (.bl true) H')->IA K vs H Q E
theorem YV(F:aN K "_law_told" "_law_told" BI f fd)(T:Txt K mg)(BY:aB P w K mg base 7 "places" AJ (BX K))(Oo:aB P w K mg base 13 "ranking" ["sheet"] (Iz K))(Oc:aB P w K mg base 8 "firsts" ["sheet"] (Iv K))(YW:aB P w K mg base 14 "partings" ["sheet"] (Ol K))(YX:aB P w K mg base 7 "left_out" Hv (N4 K))(YY:aB P w K mg base 9 "deciders" ["sheet"] (Ob K))(YZ:aB P w K mg base 7 "step_up" Hx (N6 K))(Y0:aB P w K mg base 8 "table_row" Hz (N8 K))(Y1:aB P w K mg base 14 "table" ["sheet"] (Om K))(vX:aB P w K mg base 1 "_law_whole" wk (wK K))(sj:aB P w K mg base 2 "_law_same" wB (BO K))(SO:aB P w K mg base 1 "_law_texts" Gz (MJ K))(Y2:aB P w K mg base 2 "_law_pairs" G8 (Nk K))(Y3:aB P w K mg base 2 "_law_fours" G9 (Nl K))(AW:aB P w K mg base 2 "_law_spots" wG (EC K))(HX:aB P w K mg base 1 "_law_rows" Ed (HR K))(Y4:aB P w K mg base 2 "_law_parts" Hb (Np K))(Y5:aB P w K mg base 2 "_law_line" Hc (Nr K))(Io:aB P w K mg base 3 "_law_firsts" wS (Ik K))(Y6:aB P w K mg base 4 "_law_deciding" Hs (NZ K))(Y7:aB P w K mg base 1 "_law_moved" G3 (M0 K)):av P w K mg base aQ 15 f fd En (IA K):=by
 refine F.ok yP (λvs H Q E h=>?_) (λaE A outer s H vs Q E hr h=>?_)
 ·obtain⟨x,n,u,k,F,S,kl,bf,sp,rfl,_⟩:=h;rfl
 ·obtain⟨x,n,u,k,F,S,kl,bf,sp,rfl,aP,hN,hU,hK,rK,hw,mU,hL,q⟩:=h;refine⟨_,(zd (zr (i:=6) yP.nd rfl (Or.inr rfl) (zS (show ak (zf BI) HH "_law_card_here" [] [] _ from cm) rfl (zx (pv 3)) (λ_ _ _ _ _=>(yL (zl (yF (K:=K) rfl hr.aS) (pv 0) (zz zb) (zn _)))) (λ_ _ _ _ _=>(pv 0))))
   (zd (zr (i:=7) yP.nd rfl (Or.inl rfl) (zi AW (hM hr) rfl (za (pv 6) (za (pv 2) zb))))
   (zd (zv (PW.pt (gS (zV (zQ (zi sj (hM hr) rfl (za (zi BY (hM hr) rfl (za (pv 0) zb)) (za (pv 7) zb))))) (wR (zV (zQ (zi Y2 (hM hr) rfl (za (zi Oo (hM hr) rfl (za (pv 0) zb)) (za (zi HX (hM hr) rfl (za (pv 7) (za (pv 2) zb))) zb)))))))) (ze (zk yf)) zp)
   (zd (zv (zV (zQ (zi Y3 (hM hr) rfl (za (zi YW (hM hr) rfl (za (pv 0) zb)) (za (zi Y4 (hM hr) rfl (za (pv 6) (za (pv 2) (za (pv 7) zb)))) zb))))) (ze (zk yf)) zp)
   (zd (zv (zV (zQ (zi sj (hM hr) rfl (za (zi Oc (hM hr) rfl (za (pv 0) zb)) (za (zi Io (hM hr) rfl (za (pv 6) (za (pv 2) zb))) zb))))) (ze (zk yf)) zp)
   (zd (jN (zv (zl nV (zT T.aq (pv 2)) zg (zn _)) (zd (zr (i:=8) yP.nd rfl (Or.inl rfl) (zi HX (hM hr) rfl (za (pv 7) (za (pv 2) zb))))
   (zd (K0 (i:=9) (show aH (zf BI) HH "_law_place" "_law_couple" ["_law_couples_here","_law_into"] [2,6] _ from qd) rfl yP.nd rfl (Or.inl rfl) (zx (pv 8)) (λ_ _ _ _ _=>yN) (λ_ _ _ _ _=>(zi Y5 (hM hr) rfl (za (pv 0) (za (pv 1) (za (pv 3) (za (j4 (K:=K) rfl T.aq (pv 2)) zb)))))))
   (zd (zr (i:=10) yP.nd rfl (Or.inl rfl) (zo yc (pv 5) (zT T.aq (pv 8))))
   (ze (zv (zV (zQ (zi SO (hM hr) rfl (za (zo yg (zi Y1 (hM hr) rfl (za (pv 0) zb)) (zz (za (zi Y0 (hM hr) rfl (za (pv 0) (za (zu yz (zu zq (pv 8) (pv 10) (λ_ _=>rfl)) zg (λ_ _=>rfl)) zb))) zb))) (za (zo yg (pv 9) (zz (za (zu zq (pv 9) (pv 10) (λ_ _=>rfl)) zb))) zb))))) (ze (zk yf)) zp))))) zp))
   (zd (jN (zv (PW.pt (sJ (zl nV zg (zT T.aq (pv 6)) (zn _)) (sI (zl nV (zT T.aq (pv 6)) zg (zn _))))) (ze (zv (zV (zQ (zi SO (hM hr) rfl (za (zi YY (hM hr) rfl (za (pv 0) zb)) (za (zi Y6 (hM hr) rfl (za (pv 1) (za (pv 3) (za (pv 2) zb)))) zb))))) (ze (zk yf)) zp)) zp))
   (zd (jN (zv (PW.pt (sJ (zl uZ (zT T.aq (pv 6)) zg (zn _)) (sI (zl (wz hr.aS) (zu zq (pv 3) (pv 4) (λ_ _=>rfl)) (zz zb) (zn _))))) (zd (yK (i:=11) (show ak (zf BI) HH "_law_card_here" [] [] _ from cm) rfl yP.nd rfl (Or.inl rfl) (zx (zo yg (zG zX (pv 3) yb (zO (pv 4))) (zG zX (pv 3) (zO (zo zR (pv 4) zg)) yb))) (λ_ _ _ _ _=>(yL (zl (yF (K:=K) rfl hr.aS) (pv 0) (zz zb) (zn _)))) (λ_ _ _ _ _=>(pv 0)))
   (ze (zv (zV (zQ (zi sj (hM hr) rfl (za (zi YX (hM hr) rfl (za (pv 0) (za (zu zq (pv 1) (pv 4) (λ_ _=>rfl)) zb))) (za (zi AW (hM hr) rfl (za (pv 11) (za (pv 2) zb))) zb))))) (ze (zk yf)) zp))) zp))
   (zd (zv (zl nV (zT T.aq (zu zq (pv 3) (pv 4) (λ_ _=>rfl))) zg (zn _)) (ze (zk yf)) zp)
   (zd (zr (i:=12) yP.nd rfl (Or.inl rfl) (zo zR zg (zo yc (pv 5) (zo nT (zT T.aq (pv 2)) zg))))
   (zd (zr (i:=13) yP.nd rfl (Or.inl rfl) (zi YZ (hM hr) rfl (za (pv 0) (za (zu zq (pv 1) (pv 4) (λ_ _=>rfl)) (za (zu zq (zu zq (pv 3) (pv 4) (λ_ _=>rfl)) (pv 12) (λ_ _=>rfl)) zb)))))
   (zd (zv (PW.pt (gS (zV (zQ (zD JZ (by rfl) T.ay boot_isinstance (za (pv 13) (za (mP (v:=V.ty "tuple") rfl T.gq boot_tuple rfl) zb))))) (wR (zl yQ (zT T.aq (pv 13)) zg (zn _))))) (ze (zk yf)) zp)
   (zd (zv (PW.pt (gS (zV (zQ (zi vX (hM hr) rfl (za (zu yz (pv 13) zg (λ_ _=>rfl)) zb)))) (wR (zl yQ (zu yz (pv 13) zg (λ_ _=>rfl)) (zu zq (zu zq (pv 3) (pv 4) (λ_ _=>rfl)) (zo nT (pv 12) zg) (λ_ _=>rfl)) (zn _))))) (ze (zk yf)) zp)
   (ze (zk (zi sj (hM hr) rfl (za (zu yz (pv 13) zg (λ_ _=>rfl)) (za (zi AW (hM hr) rfl (za (zi Y7 (hM hr) rfl (za (pv 3) (za (pv 4) (za (pv 12) zb)))) (za (pv 2) zb))) zb)))))))))))))))))),?_⟩
  have cj:=zt;have ok:=aP.ok;have cG:=ok.cG;have c1:=ok.c1;have Ey:=Sh.bj ok;have bx:=Sh.aJ ok;have Sx:=Sh.aA S;have HU:=Sh.dc ok;have fD:S.handed.length<=15:=le_trans (length_filter_le _ _) ok.dA;have Y8:=rK.length;have EY:=Sh.aL S;have dA:=ok.dA;have Oq:∀i,i<S.af.length->S.rows.getD i []≠[]->S.card (S.af.getD i "")=some (S.rows.getD i []):=λi hi aO=>by
   have e:=S.eK hi;cases hc:S.card (S.af.getD i "")with
   | none=>rw[hc]at e;exact absurd e aO
   | some d=>rw[hc]at e;rw[e];rfl
  have di:∀d∈S.rows,d=[]\/d.Perm S.aa:=λd hd=>by
   obtain⟨j,_,rfl⟩:=List.mem_map.mp hd;cases e:S.card j with
   | none=>exact .inl rfl
   | some c=>exact .inr (ok.cd j c e).2
  refine⟨_,rfl,k,rfl,⟨_,ag.of hK⟩,?_⟩;refine wJ (ag.of hK) (rK.imp λ_ _ z=>ag.of z) (by omega) (λm d H' Q hm h=>?_) (λm H' Q h=>⟨_,rfl,h⟩) λks H8 s8 r8=>?_
  ·refine⟨_,rfl,(by show 0<=sizeLine;decide),λmG fq=>?_⟩;have cc:=ae.new (o:=.lst []) fq;refine⟨m,mG,_,[],rfl,rfl,cc.seq hm,ag.new,zy _,rfl,_,rfl,?_⟩;rw[show dG (d.map V.int) []=decide (d=[])from yx _ []];exact h _ cc
  rw[<-Ey]at r8;intro li AZ;have s9:=s8.ar (o:=.lst (ks.map V.ref)) AZ;have e9:upd H8 li (.lst (ks.map V.ref)) li=some (.lst (ks.map V.ref)):=zc;have r9:=r8.imp λ_ _=>IL.stays K _ _ _ _ (ae.new (o:=.lst (ks.map V.ref)) AZ);generalize Ot:upd H8 li _=H9' at s9 e9 r9 ⊢;have jW:ks.length=S.handed.length:=by rw[r8.length,Sx]
  have kT:∀u∈S.aa,∀d∈S.ai,u∈d:=λu hu d hd=>(bx d hd).mem_iff.mpr hu;generalize jx:S.aa=vs at hU bx kT c1 cG di;have hvn:vs.Nodup:=by rw[<-jx];exact ok.nd
  have Y9:∀c∈vs,1<=c/\c<=999:=by rw[<-jx];exact ok.fH
  refine⟨_,rfl,_,rfl,li,u,S.ai,vs,rfl,⟨ks,ag.of e9,r9⟩,ag.of (s9 _ _ hU),by omega,by omega,kT,λA0 H9 de Og js=>?_⟩;rw[M6.D1 bx (by omega)]at js;have hpl:=M6.yp S.ai vs;have t9:=s9.trans de;have BZ:=de _ _ e9;have Ou:=r9.imp λ_ _=>IL.stays K _ _ _ _ de;have U9:=t9 _ _ hU;have N9:=t9 _ _ hN;have K9:=t9 _ _ hK;have IB:=rK.imp fun(l:Addr) (c:List Int) (z:H l=some (.lst (c.map V.int)))=>t9 _ _ z;have L9:=hL.same t9;have g9:=aP.same t9;clear s9 e9 r9 de Og s8 r8 Ot;have AN:=M5.aL (M6.zw S.ai vs) vs hpl;have hmul:vs.length*vs.length<=24*24:=mul_le_mul (by omega) (by omega);refine⟨_,rfl,x,F,S,rfl,g9,mU,λl1 uG s1 f1 e1=>?_⟩;rw[jx]at e1;refine⟨_,rfl,l1,A0,_,_,rfl,ag.of e1,ag.of (s1 _ _ js),by omega,?_⟩;rw[decide_eq_true rfl];refine⟨_,rfl,yY ?_⟩;refine⟨_,rfl,x,F,S,rfl,g9.same s1,mU,L9.same s1,λl2 EO k2 s2 z2 f2 e2 r2=>?_⟩;rw[jx]at r2;obtain⟨Za,_,Ov⟩:=(g9.same s1).bJ s2;have B0:aG H9 EO:=s1.toN.trans s2;refine⟨_,rfl,_,rfl,A0,u,_,vs,rfl,ag.of (B0.lst js),ag.of (B0.lst U9),hpl,by omega,λl3 xf k3 s3 f3 e3 r3=>?_⟩;refine⟨l2,l3,_,rfl,⟨k2,ag.of (s3 _ _ e2),r2.imp λ_ _=>dg.stays K _ _ _ _ s3⟩,⟨k3,ag.of e3,r3⟩,by omega,?_⟩;refine⟨_,rfl,yY ?_⟩;refine⟨_,rfl,x,Za,S,rfl,Ov.same s3,mU,z2.same s3,λl4 AM k4 s4 z4 f4 e4 r4=>?_⟩;rw[jx]at r4;obtain⟨Ow,_,Ox⟩:=(Ov.same s3).bJ s4;have ni:=(B0.trans s3.toN).trans s4;have EZ:All2 (IL K AM) ks S.ai:=Ou.bJ ni;refine⟨_,rfl,_,rfl,_,rfl,li,u,A0,S.ai,vs,rfl,⟨ks,ag.of (ni.lst BZ),EZ⟩,ag.of (ni.lst U9),ag.of (ni.lst js),by omega,by omega,kT,λl5 NY k5 s5 f5 e5 r5=>?_⟩;have hpp:=M6.VX S.ai vs;refine⟨l4,l5,_,rfl,⟨k4,ag.of (s5 _ _ e4),r4.imp λ_ _=>F4.stays K _ _ _ _ s5⟩,⟨k5,ag.of e5,r5⟩,by omega,?_⟩;refine⟨_,rfl,yY ?_⟩;have ET:=ni.trans s5.toN;refine⟨_,rfl,x,Ow,S,rfl,Ox.same s5,mU,λl6 SE s6 f6 e6=>?_⟩;rw[jx]at e6;have sk:=ET.trans s6.toN;have E1:All2 (IL K SE) ks S.ai:=Ou.bJ sk;refine⟨_,rfl,_,rfl,li,u,S.ai,vs,rfl,⟨ks,ag.of (sk.lst BZ),E1⟩,ag.of (sk.lst U9),bx,by omega,by omega,by omega,λl7 YB s7 f7 e7=>?_⟩;have eG:(mZ S.ai vs).length<=24:=le_trans (Lo _ _ _) (by omega);refine⟨l6,l7,_,_,rfl,ag.of (s7 _ _ e6),ag.of e7,by omega,?_⟩;rw[decide_eq_true rfl];refine⟨_,rfl,yY ?_⟩;have ju:=sk.trans s7.toN;have IC:=(Ox.same s5).same (s6.trans s7);have Oy:=(z4.same s5).same (s6.trans s7);clear e1 e2 r2 e3 r3 e4 r4 e5 r5 e6 e7 f1 f2 f3 f4 f5 f6 f7;refine⟨λσ' H'=>∃(v8 v9 v10:Option V)(F':Addr->Prop),σ'=[some (.ref x),some (.ref n),some (.ref u),some (.ref k),some (.int bf),some (.int sp),some (.ref li),some (.ref A0),v8,v9,v10,none,none,none]/\aG H9 H'/\aZ (wQ K "by_place") dW H'/\ao K H' x F' S,?_,?_⟩
  ·refine⟨_,rfl,u,_,rfl,.inl (ag.of (ju.lst U9)),_,_,rfl,rfl,_,rfl,yr (λ_=>?_) (λ_=>⟨_,_,_,Ow,rfl,ju,Oy,IC⟩)⟩;refine⟨_,rfl,_,rfl,A0,u,_,vs,rfl,ag.of (ju.lst js),ag.of (ju.lst U9),hpl,by omega,λlr SQ kr s8 f8 e8 r8=>?_⟩;have ID:=λp (hp:p∈M5.rows (M6.zw S.ai vs) vs)=>M6.Gp hp;have E2:M5.rows (M6.zw S.ai vs) vs≠[]:=M6.uy (by intro z;rw[z]at c1;simp at c1);have IE:M6.km S.ai vs=(M5.rows (M6.zw S.ai vs) vs).map λp=>M6.uw p.1 p.2 (M5.zm S.ai p.2) vs.length:=rfl;generalize M5.rows (M6.zw S.ai vs) vs=rs at r8 AN ID E2 IE;have Zb:0<rs.length:=List.length_pos_iff.mpr E2;have Zc:∀p∈rs,p.1.natAbs<=990:=λp hp=>by
    rw[(ID p hp).2];unfold M6.yS;have:=length_filter_le (λd=>M6.zZ (M5.zm S.ai d) (M5.zm S.ai p.2) vs.length) vs;omega
   have sr:=ju.trans s8.toN;have Zd:=sr.lst BZ;have Ze:=sr.lst U9;have Oz:All2 (IL K SQ) ks S.ai:=Ou.bJ sr;refine⟨_,rfl,lr,rfl,⟨_,ag.of e8⟩,?_⟩;refine Lu (f:=λp=>M6.uw p.1 p.2 (M5.zm S.ai p.2) vs.length) (ag.of e8) r8 (by omega) (λp H' R hp s' h=>?_) λA1 s9=>?_
   ·obtain⟨m1,m2⟩:=ID p hp;have Yv:=Y9 _ m1;refine⟨_,rfl,_,rfl,_,rfl,_,rfl,u,_,rfl,.inl (ag.of (s' _ _ Ze)),?_⟩;rw[length_map];exact⟨p.1,p.2,li,S.ai,vs.length,rfl,⟨ks,ag.of (s' _ _ Zd),Oz.imp λ_ _=>IL.stays K _ _ _ _ s'⟩,by omega,kT _ m1,λy hy=>(by have:=M6.yG bx m1 y hy;omega),by omega,Zc p hp,by omega,λH2 s2=>h H2 s2⟩
   rw[<-IE];intro ln OA;have de:=s9.ar (o:=.lst ((M6.km S.ai vs).map V.str)) OA;have E3:upd A1 ln (.lst ((M6.km S.ai vs).map V.str)) ln=some (.lst ((M6.km S.ai vs).map V.str)):=zc;generalize OB:upd A1 ln _=B1 at de E3 ⊢;have OC:(M6.km S.ai vs).length=rs.length:=by rw[IE,length_map]
   have SR:=de _ _ e8;have Zf:=r8.imp λ_ _=>dg.stays K _ _ _ _ de;have Zg:=r8.length;refine⟨_,rfl,_,rfl,lr,_,rfl,.inl (ag.of SR),?_⟩;rw[length_map,Zg];refine⟨_,_,rfl,rfl,(by show(0:Int)<rs.length;omega),?_⟩;dsimp only;have q0:=Int.emod_nonneg sp (b:=(rs.length:Int)) (by omega);have q1:=Int.emod_lt_of_pos sp (b:=(rs.length:Int)) (by omega);generalize sp%(rs.length:Int)=pk at q0 q1 ⊢;obtain⟨pk,rfl⟩:=Int.eq_ofNat_of_zero_le q0;have OD:pk<rs.length:=by omega
   have gQ:=s8.trans de;refine⟨_,rfl,x,Ow,S,rfl,IC.same gQ,mU,Oy.same gQ,λlt xj fU Zh Zi E4=>?_⟩;rw[jx]at E4;obtain⟨SS,_,SU⟩:=(IC.same gQ).bJ fU;have OE:=dg.bJ fU Zf;obtain⟨t,et,rt⟩:=OE.get (getElem?_eq_getElem OD);have Zj:cH (kr.map V.ref) (pk:Int)=some (.ref t):=zC (yU et);obtain⟨m1,m2⟩:=ID _ (getElem_mem OD);have OF:cH ((M6.km S.ai vs).map V.str) (pk:Int)=some (.str (M6.uw (rs[pk]).1 (rs[pk]).2 (M5.zm S.ai (rs[pk]).2) vs.length)):=by
    refine zC ?_;rw[IE,map_map,getElem?_map,getElem?_eq_getElem OD];rfl
   generalize rs[pk]=pr at rt m1 m2 OF;have rt:bN K xj t [.int pr.1,.int pr.2]:=rt;refine⟨_,rfl,_,rfl,_,rfl,lr,_,_,_,rfl,rfl,ag.of (fU.lst SR),Zj,t,_,_,_,rfl,rfl,rt,rfl,x,SS,S,pr.2,rfl,SU,mU,by rw[jx];exact m1,λE5 bV=>?_⟩;rw[jx];have e:M6.vS S.ai vs pr.2=pr.1:=m2.symm;rw[e];generalize M6.uw pr.1 pr.2 (M5.zm S.ai pr.2) vs.length=tx at OF ⊢;refine⟨(by show 1<=sizeLine;decide),λla sf=>?_⟩;have cc:=ae.new (o:=.lst [.str tx]) sf;refine⟨lt,la,_,[.str tx],rfl,rfl,cc _ _ (bV _ _ E4),zc,by rw[length_map,OC];simp only[length_cons,length_nil];omega,λlb E6=>?_⟩;have iE:=(bV.trans cc).ar (o:=.lst ((M6.km S.ai vs).map V.str++[.str tx])) E6;have eb:upd (upd E5 la (.lst [.str tx])) lb (.lst ((M6.km S.ai vs).map V.str++[.str tx])) lb=some (.lst ((M6.km S.ai vs++[tx]).map V.str)):=by rw[zc,map_append];rfl
   generalize OG:upd (upd E5 la _) lb _=IF at iE eb ⊢;have SV:IF ln=some (.lst ((M6.km S.ai vs).map V.str)):=iE _ _ (fU.lst E3);refine⟨_,rfl,_,rfl,_,rfl,ln,_,_,_,rfl,rfl,ag.of SV,OF,(by show 1<=sizeLine;decide),λlc Zk=>?_⟩;have kA:=ae.new (o:=.lst [.str tx]) Zk;refine⟨ln,lc,_,[.str tx],rfl,rfl,kA _ _ SV,zc,by rw[length_map,OC];simp only[length_cons,length_nil];omega,λld Zl=>?_⟩;have so:=kA.ar (o:=.lst ((M6.km S.ai vs).map V.str++[.str tx])) Zl;have ed:upd (upd IF lc (.lst [.str tx])) ld (.lst ((M6.km S.ai vs).map V.str++[.str tx])) ld=some (.lst ((M6.km S.ai vs++[tx]).map V.str)):=by rw[zc,map_append];rfl
   generalize Zm:upd (upd IF lc _) ld _=Zn at so ed ⊢;refine⟨lb,ld,_,_,rfl,ag.of (so _ _ eb),ag.of ed,by rw[length_append,OC];simp only[length_cons,length_nil];omega,?_⟩;rw[decide_eq_true rfl];have B2:=iE.trans so;exact⟨_,rfl,yY ⟨_,_,_,SS,rfl,((ju.trans gQ.toN).trans fU).trans B2.toN,Zh.same B2,SU.same B2⟩⟩
  clear ju IC Oy sk ET ni B0 EZ E1 Ox Ov;rintro σ' SQ ⟨v8,v9,v10,IG,rfl,sr,IH,E7⟩;refine⟨λσ' H'=>∃(F':Addr->Prop),σ'=[some (.ref x),some (.ref n),some (.ref u),some (.ref k),some (.int bf),some (.int sp),some (.ref li),some (.ref A0),v8,v9,v10,none,none,none]/\aG H9 H'/\aZ (wQ K "by_place") dW H'/\ao K H' x F' S,?_,?_⟩
  ·refine⟨_,rfl,li,_,rfl,.inl (ag.of (sr.lst BZ)),_,_,rfl,rfl,_,rfl,yr (λh2=>?_) (λ_=>yY ⟨IG,rfl,sr,IH,E7⟩)⟩;rw[length_map,jW]at h2;refine⟨_,rfl,li,_,rfl,.inl (ag.of (sr.lst BZ)),_,_,rfl,rfl,_,rfl,yr (λ_=>?_) (λ_=>⟨IG,rfl,sr,IH,E7⟩)⟩;refine⟨_,rfl,x,IG,S,rfl,E7,by omega,λl8 A1 s8 f8 e8=>?_⟩;have nt:=sr.trans s8.toN;have OH:All2 (IL K A1) kl S.rows:=IB.imp fun(l:Addr) (c:List Int) (z:H9 l=some (.lst (c.map V.int)))=>(show ag K A1 l _ from ag.of (nt.lst z));refine⟨_,rfl,_,rfl,_,rfl,n,k,u,S.af,S.rows,vs,rfl,ag.of (nt.lst N9),⟨kl,ag.of (nt.lst K9),OH⟩,ag.of (nt.lst U9),EY,by omega,by omega,di,by rw[<-HU];omega,λl9 B1 s9 f9 e9=>?_⟩;have SW:=Sh.ig ok;rw[jx]at SW;rw[SW]at e8;have vD:=Ro S.af S.rows vs S.af.length;refine⟨l8,l9,_,_,rfl,ag.of (s9 _ _ e8),ag.of e9,by omega,?_⟩;rw[decide_eq_true rfl];exact⟨_,rfl,yY ⟨IG,rfl,nt.trans s9.toN,(IH.same s8).same s9,(E7.same s8).same s9⟩⟩
  clear sr IH E7;rintro σ' A1 ⟨II,rfl,nt,IJ,IK⟩;obtain⟨m,em,rm⟩:=IB.at (i:=bf) (by omega) [];have am:cH (kl.map V.ref) (bf:Int)=some (.ref m):=zC (yU em);have Iq:cH (S.af.map V.str) (bf:Int)=some (.str (S.af.getD bf "")):=by
   have:=Qq (ts:=S.af) (i:=(bf:Int)) (by omega) (by omega);rw[show((bf:Int)).toNat=bf by omega]at this;exact this
  generalize hd:S.rows.getD bf []=d at rm;have xk:d≠[]->S.card (S.af.getD bf "")=some d:=λaO=>by rw[<-hd]at aO ⊢;exact Oq bf hw aO
  refine⟨λσ' H'=>∃(v11:Option V)(F':Addr->Prop),σ'=[some (.ref x),some (.ref n),some (.ref u),some (.ref k),some (.int bf),some (.int sp),some (.ref li),some (.ref A0),v8,v9,v10,v11,none,none]/\aG H9 H'/\aZ (wQ K "by_place") dW H'/\ao K H' x F' S,?_,?_⟩
  ·refine⟨_,rfl,li,_,rfl,.inl (ag.of (nt.lst BZ)),_,_,rfl,rfl,_,rfl,yr (λh2=>?_) (λ_=>yY ⟨_,II,rfl,nt,IJ,IK⟩)⟩;rw[length_map,jW]at h2;refine⟨_,rfl,_,rfl,k,_,_,_,rfl,rfl,ag.of (nt.lst K9),am,(by show 0<=sizeLine;decide),λl9 vW=>?_⟩;have s9:=ae.new (o:=.lst []) vW;refine⟨m,l9,_,[],rfl,rfl,ag.of (s9 _ _ (nt.lst rm)),ag.new,zy _,rfl,_,rfl,?_⟩;rw[show dG (d.map V.int) []=decide (d=[])from yx _ []];generalize OB:upd A1 l9 _=B1 at s9 ⊢;have gQ:=nt.trans s9.toN;refine yi (λaO=>?_) (λ_=>⟨_,II,rfl,gQ,IJ.same s9,IK.same s9⟩);have SX:=gQ.lst K9;refine⟨_,rfl,_,rfl,_,rfl,k,_,rfl,ag.of SX,λgz jr=>?_⟩;rw[FU (by omega),show((bf:Int)).toNat=bf by omega,<-map_take];have de:=ae.new (o:=.lst ((kl.take bf).map V.ref)) jr;refine⟨_,rfl,_,rfl,_,_,rfl,rfl,_,rfl,k,_,rfl,ag.of (de _ _ SX),λnr rf=>?_⟩;rw[FT (by omega),show((bf:Int)+1).toNat=bf+1 by omega,<-map_drop];have fU:=ae.new (o:=.lst ((kl.drop (bf+1)).map V.ref)) rf;refine⟨gz,nr,_,_,rfl,rfl,fU _ _ zc,zc,by rw[length_map,length_map,length_take,length_drop];omega,λgP rg=>?_⟩;rw[<-map_append];have bV:=(de.trans fU).ar (o:=.lst ((kl.take bf++kl.drop (bf+1)).map V.ref)) rg;have jt:=zc (H:=upd (upd B1 gz (.lst ((kl.take bf).map V.ref))) nr (.lst ((kl.drop (bf+1)).map V.ref))) (a:=gP) (o:=.lst ((kl.take bf++kl.drop (bf+1)).map V.ref));generalize ER:upd (upd (upd B1 gz _) nr _) gP _=xj at bV jt ⊢;have xl:=gQ.trans bV.toN;have AY:All2 (IL K xj) (kl.take bf++kl.drop (bf+1)) (S.rows.take bf++S.rows.drop (bf+1)):=by
    have z:=IB.imp fun(l:Addr) (c:List Int) (w:H9 l=some (.lst (c.map V.int)))=>(show IL K xj l c from ag.of (xl.lst w));exact(z.qy bf).app (z.qz (bf+1))
   refine⟨gP,rfl,⟨_,ag.of jt⟩,?_⟩;refine wJ (ag.of jt) AY (by rw[length_append,length_take,length_drop];omega) (λm d H' R hm h=>?_) (λm H' R h=>⟨_,rfl,h⟩) λE8 E5 cc BK=>?_
   ·refine⟨_,rfl,(by show 0<=sizeLine;decide),λmG fq=>?_⟩;have cc:=ae.new (o:=.lst []) fq;refine⟨m,mG,_,[],rfl,rfl,cc.seq hm,ag.new,zy _,rfl,_,rfl,?_⟩;rw[show dG (d.map V.int) []=decide (d=[])from yx _ []];exact h _ cc
   rw[<-Sh.du ok hw]at BK;intro qS il;have iE:=cc.ar (o:=.lst (E8.map V.ref)) il;have xg:upd E5 qS (.lst (E8.map V.ref)) qS=some (.lst (E8.map V.ref)):=zc;have ES:=BK.imp λ_ _=>IL.stays K _ _ _ _ (ae.new (o:=.lst (E8.map V.ref)) il);generalize OG:upd E5 qS _=IF at iE xg ES ⊢;have SY:=xl.trans iE.toN;have S3:=(IK.same s9).same (bV.trans iE);have Zo:=(IJ.same s9).same (bV.trans iE);have Ir:S.af.getD bf "" ∈ S.handed:=List.mem_filter.mpr ⟨wn hw,by rw[xk aO];rfl⟩;have A2:=Sh.cw ok (S.af.getD bf "");rw[jx]at A2;have Bn:=Sh.cP ok.qi Ir;refine⟨_,rfl,_,rfl,_,rfl,n,_,_,_,rfl,rfl,ag.of (SY.lst N9),Iq,x,II,S,_,rfl,S3,Ir,by omega,λxh Zn kA f15 S4=>?_⟩;rw[jx]at S4;have B2:=SY.trans kA.toN;refine⟨_,rfl,_,rfl,qS,u,_,vs,rfl,⟨E8,ag.of (kA _ _ xg),ES.imp λ_ _=>IL.stays K _ _ _ _ kA⟩,ag.of (B2.lst U9),by omega,by omega,λy hy d hd=>(A2 d hd).mem_iff.mpr hy,λN2 H24 so YC Ip=>?_⟩;rw[M6.D1 A2 (by omega)]at Ip;refine⟨xh,N2,_,_,rfl,ag.of (so _ _ S4),ag.of Ip,by rw[M6.yp];omega,?_⟩;rw[decide_eq_true rfl];exact⟨_,rfl,yY ⟨_,II,rfl,B2.trans so.toN,(Zo.same kA).same so,(S3.same kA).same so⟩⟩
  clear nt IJ IK;rintro σ' B1 ⟨v11,Zp,rfl,gQ,S5,Zq⟩;refine⟨_,rfl,_,rfl,k,_,_,_,rfl,rfl,ag.of (gQ.lst K9),am,m,_,rfl,.inl (ag.of (gQ.lst rm)),_,_,rfl,rfl,_,rfl,yr (λ_=>q B1 (t9.toN.trans gQ) S5) (λh2=>?_)⟩;rw[length_map]at h2;have OI:d≠[]:=by intro z;rw[z]at h2;simp at h2
  have OJ:=xk OI;have xi:d.Perm vs:=by rw[<-jx];exact(ok.cd _ _ OJ).2
  have vD:=xi.length_eq;have q0:=Int.emod_nonneg sp (b:=(vs.length:Int)-1) (by omega);have q1:=Int.emod_lt_of_pos sp (b:=(vs.length:Int)-1) (by omega);refine⟨_,rfl,_,rfl,u,_,rfl,.inl (ag.of (gQ.lst U9)),?_⟩;rw[length_map];refine⟨_,_,rfl,rfl,_,_,rfl,rfl,(by show(0:Int)<(vs.length:Int)-1;omega),_,_,rfl,rfl,?_⟩;dsimp only;generalize hkk:1+sp%((vs.length:Int)-1)=kk;obtain⟨kk,rfl⟩:=Int.eq_ofNat_of_zero_le (show 0<=kk by omega);have k0:0<kk:=by omega
  have k1:kk<d.length:=by omega
  have Zr:cH (d.map V.int) (kk:Int)=some (.int (d.getD kk 0)):=zC (mS k1);have OK:cH (d.map V.int) ((kk:Int)-1)=some (.int (d.getD (kk-1) 0)):=by
   rw[show(kk:Int)-1=((kk-1:Nat):Int)by omega];exact zC (mS (by omega))
  refine⟨_,rfl,_,rfl,_,rfl,n,_,_,_,rfl,rfl,ag.of (gQ.lst N9),Iq,_,rfl,_,rfl,k,_,_,_,rfl,rfl,ag.of (gQ.lst K9),am,_,rfl,m,_,_,_,rfl,rfl,ag.of (gQ.lst rm),Zr,x,Zp,S,_,d,kk,rfl,Zq,OJ,k0,k1,λt l xj S6 ft fl et el=>?_⟩;have xl:=gQ.trans S6.toN;have qt:bN K xj t [.int (d.getD (kk-1) 0),.ref l]:=.inl (.inl et);refine⟨_,rfl,_,_,rfl,.yes qt,_,rfl,yY ?_⟩;refine⟨_,rfl,t,_,rfl,.inr qt,rfl,_,rfl,oC rfl ?_⟩;refine⟨_,rfl,t,_,_,_,rfl,rfl,qt,rfl,_,true,false,rfl,rfl,rfl,_,rfl,yY ?_⟩;refine⟨_,rfl,t,_,_,_,rfl,rfl,qt,rfl,_,rfl,_,rfl,k,_,_,_,rfl,rfl,ag.of (xl.lst K9),am,_,rfl,_,_,rfl,rfl,m,_,_,_,rfl,rfl,ag.of (xl.lst rm),OK,rfl,_,rfl,oC rfl ?_⟩;have OL:All2 (IL K xj) kl S.rows:=IB.imp fun(l:Addr) (c:List Int) (z:H9 l=some (.lst (c.map V.int)))=>(show ag K xj l _ from ag.of (xl.lst z));refine⟨_,rfl,t,_,_,_,rfl,rfl,qt,rfl,_,rfl,_,rfl,_,rfl,k,S.rows,bf,kk,rfl,⟨kl,ag.of (xl.lst K9),OL⟩,by omega,by omega,k0,by rw[hd];exact k1,by rw[hd];omega,λgP xf bV f12 AY=>?_⟩;rw[hd]at AY;have E9:(iC d kk).Perm S.aa:=by rw[jx];exact(Rn k0 k1).trans xi
  have Zs:=Sh.gp ok (w:=bf) hw E9 (by rw[OJ];rfl);rw[<-Zs]at AY;have A2:=Sh.dv (j:=S.af.getD bf "") ok E9;have Bn:=Sh.cQ S (S.af.getD bf "") (iC d kk);rw[jx]at A2 el;have N0:=xl.trans bV.toN;refine⟨_,rfl,gP,u,_,vs,rfl,AY,ag.of (N0.lst U9),by omega,by omega,λy hy d hd=>(A2 d hd).mem_iff.mpr hy,λmG AM cc f13 EE=>?_⟩;rw[M6.D1 A2 (by omega)]at EE;refine⟨l,mG,_,_,rfl,ag.of (cc _ _ (bV _ _ el)),ag.of EE,by rw[M6.yp];omega,?_⟩;rw[decide_eq_true rfl];have ni:=S6.trans (bV.trans cc);exact q AM ((t9.toN.trans gQ).trans ni.toN) (S5.same ni)
theorem rp{P G:Prop}(hG:P->G)(h:P):G:=hG h
variable {rs:List (List Int)}
theorem mK(f:List Int->List Int)(hi:i<rs.length):((rs.take i).map f++rs.drop i).set i (f (rs.getD i []))=(rs.take (i+1)).map f++rs.drop (i+1):=by
 have hl:((rs.take i).map f).length=i:=by rw[length_map,length_take];omega
 have e:rs.getD i []=rs[i]:=by rw[getD_eq_getElem?_getD,getElem?_eq_getElem hi];rfl
 rw[List.set_append_right _ _ (by omega),hl,Nat.sub_self,drop_eq_getElem_cons hi,List.set_cons_zero,e,take_succ,getElem?_eq_getElem hi,map_append,append_assoc];rfl
theorem mL(f:List Int->List Int)(hi:i<rs.length):((rs.take i).map f++rs.drop i)[i]? = some (rs.getD i []):=by
 have hl:((rs.take i).map f).length=i:=by rw[length_map,length_take];omega
 rw[List.getElem?_append_right (by omega),hl,Nat.sub_self,List.getElem?_drop,Nat.add_zero,getD_eq_getElem?_getD,getElem?_eq_getElem hi];rfl
inductive OM (K:Frag) (vs:List V) (H:Hp) (Q:VK) (E:XK):Prop
 | mk (G:Addr->Prop) (S:Sh) (n u g k x cl:Addr) (F:Addr->Prop) (ls:List Addr) (f cs:List Int) (y:Int):vs=[.ref x,.ref n,.ref u,.ref g,.ref k,.ref cl,.int y]->m5 K H G S n u g k x F ls->dN f S->S.cu=false->S.taken+cs.length<=200->(H cl=some (.lst (cs.map V.int))/\¬G cl)->aZ (wQ K "by_place") dW H->(∀(H':Hp)(G':Addr->Prop)(S':Sh)(F':Addr->Prop)(nu:List Addr),m5 K H' G' S' n u g k x F' nu->dN f S'->S'.af=S.af->S'.cu=false->S'.taken<=S.taken+cs.length->bU G H G' H'->aZ (wQ K "by_place") dW H'->Q (.bl true) H')->OM K vs H Q E
def Fb(K:Frag)(H0 H:Hp)(G0:Addr->Prop)(S0:Sh)(f:List Int)(n u g k x:Addr)(i:Nat):Prop :=
 ∃(G:Addr->Prop)(S:Sh)(F:Addr->Prop)(ls:List Addr),m5 K H G S n u g k x F ls/\dN f S/\S.af=S0.af/\S.cu=false/\S.taken<=S0.taken+i/\bU G0 H0 G H/\aZ (wQ K "by_place") dW H
theorem Zt(F:aN K "_law_played" "_law_played" Eo f fd)(T:Txt K mg)(BY:aB P w K mg base 7 "places" AJ (BX K))(sj:aB P w K mg base 2 "_law_same" wB (BO K))(Zu:aB P w K mg base 3 "_law_dealt" Hl (NK K))(AW:aB P w K mg base 2 "_law_spots" wG (EC K))(Zv:aB P w K mg base 1 "_law_good" GO (MU K))(Zw:aB P w K mg base 1 "_law_spoiled" GP (MV K))(Zx:aB P w K mg base 1 "_law_without" GS (MW K))(ON:aB P w K mg base 15 "_law_told" En (IA K))(Zy:aB P w K mg base 3 "_law_refused" Hn (NO K))(xb:br P w K mg base 2 (zL K "Sheet") "hand_in" yn (yH K))(Nv:br P w K mg base 2 (zL K "Sheet") "strike" wq (HS K)):av P w K mg base aQ 16 f fd HI (OM K):=by
 refine F.ok yt (λvs H Q E h=>?_) (λaE A outer s H vs Q E hr h=>?_)
 ·obtain⟨G,S,n,u,g,k,x,cl,F,ls,f,cs,y,rfl,_⟩:=h;rfl
 ·obtain⟨G0,S0,n,u,g,k,x,cl,F0,Zz,f,cs,y,rfl,ZA,ZC,ZD,ht0,⟨mT,ZE⟩,ZF,q⟩:=h;refine⟨_,(zd (yB PassesOwn.never rfl (zx (pv 5)) (zN (i:=7) yt.nd rfl (Or.inl rfl))
   (zd (zr (i:=8) yt.nd rfl (Or.inl rfl) (zo yc (pv 7) zg))
   (zd (zr (i:=9) yt.nd rfl (Or.inl rfl) (zo yc (zo yM (pv 7) zg) (zT T.aq (pv 1))))
   (zd (zr (i:=10) yt.nd rfl (Or.inl rfl) (zi Zu (hM hr) rfl (za (pv 7) (za zg (za (pv 2) (za (pv 6) zb))))))
   (zd (jN (zv (zl wl (pv 8) zg (zn _)) (ze (zr (i:=10) yt.nd rfl (Or.inl rfl) (zi Zw (hM hr) rfl (za (pv 10) (za (zo yM (pv 7) zg) zb))))) zp))
   (ze (zv (PW.pt (sJ (zl wl (pv 8) zg (zn _)) (sI (zl uZ (zT T.aq (pv 2)) zg (zn _))))) (zd (zr (i:=11) yt.nd rfl (Or.inl rfl) (zu zq (pv 2) (zo yc (zo yM (pv 7) zg) (zT T.aq (pv 2))) (λ_ _=>rfl)))
   (zd (zI (yT Nv T.aj jQ (hM hr) (pv 0) (za (pv 11) zb)))
   (zd (zI (wP PySem.F.plainAttrs_list PySem.F.slot_list_append PySem.F.type_list_append yO (pv 3) (za (pv 11) zb)))
   (zd (zI (wP PySem.F.plainAttrs_list PySem.F.slot_list_remove PySem.F.type_list_remove lQ (pv 2) (za (pv 11) zb)))
   (ze (yB PassesOwn.never rfl (yy rfl T.aK (za (zT T.aq (pv 4)) zb)) (zN (i:=12) yt.nd rfl (Or.inl rfl))
     (ze (Js (zi Zx (hM hr) rfl (za (zu zq (pv 4) (pv 12) (λ_ _=>rfl)) (za (pv 11) zb))) (iI (pv 4) (pv 12) JL))))))))) (ze (zv (PW.pt (sJ (zl nV (pv 8) zg (zn _)) (sI (zQ (zi Zv (hM hr) rfl (za (pv 10) (za (pv 2) zb))))))) (zd (zI (yT xb T.aj jQ (hM hr) (pv 0) (za (zu zq (pv 1) (pv 9) (λ_ _=>rfl)) (za (zK zM (by rfl) T.aV boot_list (za (pv 10) zb)) zb))))
   (ze (Js (pv 10) (iI (pv 4) (pv 9) JL)))) (ze (zv (zl nV (pv 8) zg (zn _)) (ze (zv (zV (zQ (zi Zy (hM hr) rfl (za (pv 0) (za (zu zq (pv 1) (pv 9) (λ_ _=>rfl)) (za (zK zM (by rfl) T.aV boot_list (za (pv 10) zb)) zb)))))) (ze (zk yf)) zp)) (ze (zv (zl (VD hr.aS) (zS (show ak (zf Eo) MA "_law_other" [] [] _ from cm) rfl (zx (pv 4)) (λ_ _ _ _ _=>(yL (zl (yF (K:=K) rfl hr.aS) (pv 0) (zz zb) (zn _)))) (λ_ _ _ _ _=>(pv 0))) (zz zb) (zn _)) (zd (jN (zv (zl nV (zT T.aq (pv 2)) zg (zn _)) (ze (zv (zV (zQ (zi ON (hM hr) rfl (za (pv 0) (za (pv 1) (za (pv 2) (za (pv 4) (za (pv 9) (za (zo yM (pv 7) zg) zb))))))))) (ze (zk yf)) zp)) zp))
   (zd (yK (i:=13) (show ak (zf Eo) MA "_law_other" [] [] _ from cm) rfl yt.nd rfl (Or.inl rfl) (zx (pv 4)) (λ_ _ _ _ _=>(yL (zl (yF (K:=K) rfl hr.aS) (pv 0) (zz zb) (zn _)))) (λ_ _ _ _ _=>(pv 0)))
   (ze (zv (zV (zQ (zi sj (hM hr) rfl (za (zi BY (hM hr) rfl (za (pv 0) zb)) (za (zi AW (hM hr) rfl (za (pv 13) (za (pv 2) zb))) zb))))) (ze (zk yf)) zp)))) zp)))))))))))))
   (ze (zk yf))),?_⟩
  have cj:=zt;refine⟨_,rfl,cl,rfl,⟨_,ag.of mT⟩,?_⟩;refine uX (xs:=cs.map V.int) (λi σ H'=>∃(v7 v8 v9 v10 v11 su rq:Option V),σ=[some (.ref x),some (.ref n),some (.ref u),some (.ref g),some (.ref k),some (.ref cl),some (.int y),v7,v8,v9,v10,v11,su,rq]/\Fb K H H' G0 S0 f n u g k x i) ⟨_,_,_,_,_,_,_,rfl,G0,S0,F0,Zz,ZA,ZC,rfl,ZD,le_refl _,bU.same (ae.refl _),ZF⟩ ?_ ?_ ?_
  ·rintro i σ H' hi ⟨v7,v8,v9,v10,v11,su,rq,rfl,G,S,F,ls,hT,hh,hp,hs,ht,d,hL⟩;exact ag.of (d _ _ mT (λ_ z=>by cases z) ZE).1
  ·rintro i yv σ H1 hy ⟨v7,v8,v9,v10,v11,su,rq,rfl,G,S,F,ls,hT,hh,hp,hs,ht,d,hL⟩;obtain⟨hi,rfl⟩:=yD hy;generalize cs.getD i 0=cell;have ok:=hT.sh.ok;have c1:=ok.c1;have cG:=ok.cG;have p1:=ok.p1;have dA:=ok.dA;have hlen:=hT.hr.len;rw[S.aL]at hlen;have uP:ls≠[]:=λz=>by rw[z]at hlen;simp at hlen;omega
   have rz:S.rows.length<=15:=by rw[S.aL];exact dA
   have OO:S.aa≠[]:=λz=>by rw[z]at c1;simp at c1
   refine⟨_,rfl,_,_,rfl,rfl,(by show(0:Int)<10;decide),?_⟩;dsimp only;have x0:=Int.emod_nonneg cell (b:=10) (by decide);have x1:=Int.emod_lt_of_pos cell (b:=10) (by decide);generalize cell%10=kind at x0 x1 ⊢;refine⟨_,rfl,_,_,rfl,rfl,⟨by decide,by decide⟩,_,rfl,n,_,rfl,.inl (ag.of hT.hn),?_⟩;rw[length_map];refine⟨_,_,rfl,rfl,(by show(0:Int)<S.af.length;omega),?_⟩;dsimp only;have w0:=Int.emod_nonneg (cell/10) (b:=(S.af.length:Int)) (by omega);have w1:=Int.emod_lt_of_pos (cell/10) (b:=(S.af.length:Int)) (by omega);obtain⟨bf,OP,jy⟩:∃bf:Nat,cell/10%(S.af.length:Int)=(bf:Int)/\bf<S.af.length:=⟨(cell/10%(S.af.length:Int)).toNat,by omega,by omega⟩;rw[OP];have hj:=wn (ts:=S.af) jy;refine⟨_,rfl,_,rfl,_,rfl,cell,150,u,S.aa,y,rfl,by decide,by decide,ag.of hT.hu,OO,by omega,λla H2 ma s2 f2 e2 S7=>?_⟩;have A4:=S7.length_eq;refine⟨λσ H'=>∃(lk:Addr)(ms:List Int),σ=[some (.ref x),some (.ref n),some (.ref u),some (.ref g),some (.ref k),some (.ref cl),some (.int y),some (.int cell),some (.int kind),some (.int bf),some (.ref lk),v11,su,rq]/\ae H1 H'/\H1 lk=none/\H' lk=some (.lst (ms.map V.int))/\ms.length<=31,?_,?_⟩
   ·refine⟨_,rfl,rfl,_,rfl,yr (λ_=>?_) (λ_=>⟨la,ma,rfl,s2,f2,e2,by omega⟩)⟩;exact⟨_,rfl,_,rfl,_,_,rfl,rfl,⟨by decide,by decide⟩,la,ma,_,rfl,ag.of e2,(λz=>by rw[z]at A4;simp at A4;omega),by omega,λlk H3 ms s3 f3 e3 hm=>⟨lk,ms,rfl,s2.trans s3,s2.free f3,e3,hm⟩⟩
   clear s2 f2 e2 S7 A4;rintro σ H3 ⟨lk,ms,rfl,s3,f3,e3,BS⟩;have T3:=hT.same s3;have L3:=hL.same s3;have fk:¬F lk:=hT.sh.apart f3;obtain⟨dx,b1,b2,b3,dd,bx⟩:=T3.sh.ins;have bQ:∀(H':Hp)(σ':St),ae H3 H'->(∃(v7 v8 v9 v10 v11 su rq:Option V),σ'=[some (.ref x),some (.ref n),some (.ref u),some (.ref g),some (.ref k),some (.ref cl),some (.int y),v7,v8,v9,v10,v11,su,rq])->∃(v7 v8 v9 v10 v11 su rq:Option V),σ'=[some (.ref x),some (.ref n),some (.ref u),some (.ref g),some (.ref k),some (.ref cl),some (.int y),v7,v8,v9,v10,v11,su,rq]/\Fb K H H' G0 S0 f n u g k x (i+1):=λH' σ' s' ⟨a1,a2,a3,a4,a5,a6,a7,e⟩=>⟨a1,a2,a3,a4,a5,a6,a7,e,G,S,F,ls,T3.same s',hh,hp,hs,by omega,d.trans (bU.same (s3.trans s')),L3.same s'⟩;have Dz:(0:Int)<=(bf:Int):=by omega
   have OQ:((bf:Int)).toNat<(ls.map V.ref).length:=by rw[length_map];omega
   have Sd:S.taken<200:=by omega
   apply rp
   ·intro last;refine⟨_,rfl,rfl,_,rfl,yr (λh7=>?_) (λh7=>yY ?_)⟩
    ·refine⟨_,rfl,u,_,rfl,.inl (ag.of T3.hu),_,_,rfl,rfl,_,rfl,yr (λh2=>?_) (λ_=>?_)⟩
     ·
      clear last bQ;rw[length_map]at h2;have h2:2<=S.aa.length:=by omega
      refine⟨_,rfl,_,rfl,_,_,rfl,rfl,⟨by decide,by decide⟩,_,rfl,u,_,rfl,.inl (ag.of T3.hu),?_⟩;rw[length_map];have q0:=Int.emod_nonneg (cell/10) (b:=(S.aa.length:Int)) (by omega);have q1:=Int.emod_lt_of_pos (cell/10) (b:=(S.aa.length:Int)) (by omega);refine⟨_,_,rfl,rfl,(by show(0:Int)<S.aa.length;omega),u,_,_,_,rfl,rfl,ag.of T3.hu,tw q0 (by omega),?_⟩;dsimp only;have hc:=oU (ns:=S.aa) (i:=(cell/10%(S.aa.length:Int)).toNat) (by omega);generalize S.aa.getD (cell/10%(S.aa.length:Int)).toNat 0=c at hc ⊢;have EL:S.bh c=none:=by
       unfold Sh.bh;rw[hs,if_neg (by decide),if_pos hc,if_neg (by omega)]
      refine⟨_,rfl,x,dx,_,rfl,bx,rfl,_,rfl,x,F,S,c,rfl,T3.sh,λz hz=>(by rw[EL]at hz;cases hz),λ_ H4 F' h0 d0=>?_⟩;obtain⟨F1,h1,d1,OR⟩:∃F1:Addr->Prop,ao K H4 x F1 (S.aT c)/\bE F H3 F1 H4/\∀b,F1 b->∃o,H4 b=some o/\KB o:=⟨_,h0.kinds,λb o e n=>⟨(d0 b o e n).1,λz=>(d0 b o e n).2 z.1⟩,λb z=>z.2⟩;have u1:=d1 _ _ T3.hu T3.fu;have g1:=d1 _ _ T3.hg T3.fg;have r1:=T3.hr.eh d1;have kg:k≠g:=(yV g1.1 r1.1 (uk uP)).symm;refine⟨_,rfl,.inl ⟨rfl,_,ag.of g1.1⟩,_,rfl,g,_,_,rfl,rfl,g1.1,by rw[length_map];omega,?_⟩;have u2:upd H4 g (.lst (S.struck.map V.int++[V.int c])) u=some (.lst (S.aa.map V.int)):=by rw[zh T3.ug];exact u1.1
      have g2:upd H4 g (.lst (S.struck.map V.int++[V.int c])) g=some (.lst ((S.struck++[c]).map V.int)):=by rw[zc,map_append];rfl
      have Br:=h1.put (o:=.lst (S.struck.map V.int++[V.int c])) g1.2;have r2:=r1.put (o:=.lst (S.struck.map V.int++[V.int c])) ⟨kg,λl hl=>(T3.lg l hl).1⟩;have A5:∀b o,H3 b=some o->¬G b->upd H4 g (.lst (S.struck.map V.int++[V.int c])) b=some o/\¬F1 b:=λb o e nb=>by
       obtain⟨z1,z2⟩:=d1 b o e (λw=>nb (T3.gF b w));exact⟨by rw[zh (fun(w:b=g)=>nb (by rw[w];exact T3.gg))];exact z1,z2⟩
      have IM:∀b,F1 b->∃o,upd H4 g (.lst (S.struck.map V.int++[V.int c])) b=some o/\KB o:=λb z=>by
       rw[zh (fun(w:b=g)=>g1.2 (by rw[<-w];exact z))];exact OR b z
      generalize se:upd H4 g _=H5 at u2 g2 Br r2 A5 IM ⊢;refine⟨_,rfl,.inl ⟨rfl,_,ag.of u2⟩,_,rfl,u,S.aa,c,rfl,rfl,u2,ok.nd,hc,?_⟩;have ku:k≠u:=(yV u2 r2.1 (uk uP)).symm;have u3:upd H5 u (.lst ((wo c S.aa).map V.int)) u=some (.lst ((wo c S.aa).map V.int)):=zc;have g3:upd H5 u (.lst ((wo c S.aa).map V.int)) g=some (.lst ((S.struck++[c]).map V.int)):=by rw[zh T3.ug.symm];exact g2
      have h3:=Br.put (o:=.lst ((wo c S.aa).map V.int)) u1.2;have r3:=r2.put (o:=.lst ((wo c S.aa).map V.int)) ⟨ku,λl hl=>(T3.lg l hl).2⟩;have Fc:∀b o,H3 b=some o->¬G b->upd H5 u (.lst ((wo c S.aa).map V.int)) b=some o/\¬F1 b:=λb o e nb=>⟨by rw[zh (fun(w:b=u)=>nb (by rw[w];exact T3.gu))];exact(A5 b o e nb).1,(A5 b o e nb).2⟩;have S8:∀b,F1 b->∃o,upd H5 u (.lst ((wo c S.aa).map V.int)) b=some o/\KB o:=λb z=>by
       rw[zh (fun(w:b=u)=>u1.2 (by rw[<-w];exact z))];exact IM b z
      have ZG:HO.lst ((S.aa.filter λo => !decide (o=c)).map V.int)=.lst ((wo c S.aa).map V.int):=rfl;rw[ZG];generalize qR:upd H5 u _=H6 at u3 g3 h3 r3 Fc S8 ⊢;have AN:S.rows.length=S.af.length:=S.aL;refine⟨_,rfl,k,_,rfl,.inl (ag.of r3.1),_,rfl,by omega,by rw[length_map];omega,?_⟩;rw[length_map,show((ls.length:Nat):Int).toNat=ls.length by omega];refine yj (λj σ H7=>∃(v:Option V)(nu:List Addr),σ=[some (.ref x),some (.ref n),some (.ref u),some (.ref g),some (.ref k),some (.ref cl),some (.int y),some (.int cell),some (.int kind),some (.int bf),some (.ref lk),some (.int c),v,rq]/\ao K H7 x F1 (S.aT c)/\H7 u=some (.lst ((wo c S.aa).map V.int))/\H7 g=some (.lst ((S.struck++[c]).map V.int))/\H7 k=some (.lst (nu.map V.ref))/\All2 (λl d=>H7 l=some (.lst (d.map V.int))/\¬F1 l/\l≠g/\l≠u/\(∀o,H3 l=some o->G l)) nu ((S.rows.take j).map (wo c)++S.rows.drop j)/\(∀b o,H3 b=some o->¬G b->H7 b=some o/\¬F1 b)/\∀b,F1 b->∃o,H7 b=some o/\KB o) ⟨_,ls,rfl,h3,u3,g3,r3.1,?_,Fc,S8⟩ ?_ ?_
      ·show All2 _ ls (map (wo c) []++S.rows);exact r3.2.2.D0 λl hl d z=>⟨z.1,z.2,(T3.lg l hl).1,(T3.lg l hl).2,λ_ _=>T3.gl l hl⟩
      ·rintro j σ H7 hj7 ⟨v,nu,rfl,i1,i3,i4,i5,i6,i7,i8⟩;have jU:j<S.rows.length:=by omega
       have fE:=i6.length;have nh:((S.rows.take j).map (wo c)++S.rows.drop j).length=S.rows.length:=by rw[length_append,length_map,length_take,length_drop];omega
       have OS:nu≠[]:=λz=>by rw[z]at fE;simp at fE;omega
       obtain⟨l,el,rl⟩:=i6.get (mL (wo c) jU);have vD:(S.rows.getD j []).length<=24:=Sh.gn ok (by rw[getD_eq_getElem?_getD,getElem?_eq_getElem jU];exact getElem_mem _);rw[Int.zero_add];refine⟨_,rfl,_,rfl,k,_,_,_,rfl,rfl,ag.of i5,zC (yU el),_,rfl,l,_,c,rfl,ag.of rl.1,by omega,λlv H8 s5 f5 e5=>?_⟩;have e5:H8 lv=some (.lst ((wo c (S.rows.getD j [])).map V.int)):=e5;refine⟨_,rfl,_,rfl,k,_,_,j,rfl,rfl,s5 _ _ i5,qm (by omega) (by rw[length_map];show j<nu.length;omega),?_⟩;have nk:∀{b:Addr}{w:List Int},H8 b=some (.lst (w.map V.int))->b≠k:=λ{b w} z=>yV z (s5 _ _ i5) (uk OS);have fv:¬F1 lv:=i1.apart f5;have ZH:∀o,H3 lv=some o->G lv:=λo e=>by
        by_cases hg:G lv
        ·exact hg
        ·rw[(i7 lv o e hg).1]at f5;cases f5
       refine⟨_,nu.set j lv,rfl,(i1.same s5).put r3.2.1,by rw[zh (nk (s5 _ _ i3))];exact s5 _ _ i3,by rw[zh (nk (s5 _ _ i4))];exact s5 _ _ i4,by rw[zc,map_set],?_,λb o e nb=>⟨by rw[zh (fun(w:b=k)=>nb (by rw[w];exact T3.gk))];exact s5 _ _ (i7 b o e nb).1,(i7 b o e nb).2⟩,λb z=>by
        rw[zh (fun(w:b=k)=>r3.2.1 (by rw[<-w];exact z))];obtain⟨o,e,t⟩:=i8 b z;exact⟨o,s5 _ _ e,t⟩⟩
       rw[<-mK (wo c) jU];refine All2.set (i6.imp λl d z=>⟨by rw[zh (nk (s5 _ _ z.1))];exact s5 _ _ z.1,z.2⟩) ⟨by rw[zh (nk e5)];exact e5,fv,(λz=>by rw[z,i4]at f5;cases f5),(λz=>by rw[z,i3]at f5;cases f5),ZH⟩ j
      ·rintro σ H7 ⟨v,nu,rfl,i1,i3,i4,i5,i6,i7,i8⟩;rw[show ls.length=S.rows.length by omega,take_length,List.drop_length,append_nil]at i6;have keep:∀b o,H3 b=some o->¬G b->H7 b=some o/\¬(F1 b\/b=u\/b=g\/b=k\/b∈nu):=λb o e nb=>by
        refine⟨(i7 b o e nb).1,?_⟩;rintro (z | z | z | z | z)
        ·exact(i7 b o e nb).2 z
        ·exact nb (by rw[z];exact T3.gu)
        ·exact nb (by rw[z];exact T3.gg)
        ·exact nb (by rw[z];exact T3.gk)
        ·obtain⟨d,w⟩:=i6.ja z;exact nb (w.2.2.2.2 _ e)
       refine⟨_,_,_,_,_,_,_,rfl,(λb=>F1 b\/b=u\/b=g\/b=k\/b∈nu),S.aT c,F1,nu,⟨i1,(keep _ _ T3.hn T3.nn).1,(keep _ _ T3.hn T3.nn).2,i3,i4,⟨i5,r3.2.1,by rw[Sh.ie];exact i6.imp λl d z=>⟨z.1,z.2.1⟩⟩,u1.2,g1.2,T3.ug,λl hl=>?_,λb z=>.inl z,.inr (.inl rfl),.inr (.inr (.inl rfl)),.inr (.inr (.inr (.inl rfl))),λl hl=>.inr (.inr (.inr (.inr hl))),λb z=>?_⟩,hh.aT ok.nd hc,hp,hs,(by show S.taken<=S0.taken+(i+1);omega),d.trans (λb o e t nb=>keep b o (s3 _ _ e) nb),L3.eh T3.kd λb o e nb=>(keep b o e nb).1⟩
       ·obtain⟨d,w⟩:=i6.ja hl;exact⟨w.2.2.1,w.2.2.2.1⟩
       ·rcases z with z | rfl | rfl | rfl | z
        ·exact i8 b z
        ·exact⟨_,i3,trivial⟩
        ·exact⟨_,i4,trivial⟩
        ·exact⟨_,i5,trivial⟩
        ·obtain⟨d,w⟩:=i6.ja z;exact⟨_,w.1,trivial⟩
     ·have h7:kind=7:=V.int.inj h7;exact⟨_,rfl,_,_,rfl,rfl,_,rfl,yr (λw=>absurd w (by omega)) (λ_=>yY ⟨_,rfl,_,_,rfl,rfl,_,rfl,yr (λw=>absurd w (by omega)) (λ_=>last)⟩)⟩
    ·refine⟨_,rfl,_,_,rfl,rfl,_,rfl,yr (λh6=>?_) (λh6=>yY ⟨_,rfl,_,_,rfl,rfl,_,rfl,yr (λw=>absurd w h6) (λ_=>last)⟩)⟩;clear last;refine⟨_,rfl,_,rfl,lk,u,ms,S.aa,rfl,ag.of e3,ag.of T3.hu,ok.nd,_,rfl,yr (λAS=>?_) (λZI=>?_)⟩
     ·
      clear bQ;have uK:S.refuse (S.af.getD bf "") ms=none:=by
       unfold Sh.refuse;rw[hs,if_neg Bool.false_ne_true,if_pos hj,if_pos AS,if_neg (Nat.not_le.mpr Sd)]
      refine⟨_,rfl,x,dx,_,rfl,bx,rfl,_,rfl,_,rfl,n,_,_,_,rfl,rfl,ag.of T3.hn,zC (tK jy),_,rfl,lk,_,rfl,.inl (ag.of e3),λlh Fd=>?_⟩;have s4:=ae.new (o:=.lst (ms.map V.int)) Fd;have e4:upd H3 lh (.lst (ms.map V.int)) lh=some (.lst (ms.map V.int)):=zc;generalize uE:upd H3 lh _=H4 at s4 e4 ⊢;have T4:=T3.same s4;refine⟨x,F,S,_,lh,ms,rfl,T4.sh,ag.of e4,by omega,λc hc=>(by rw[uK]at hc;cases hc),λ_ H5 F' h5 d5=>?_⟩;obtain⟨F1,h1,d1,OR⟩:∃F1:Addr->Prop,ao K H5 x F1 (S.hand (S.af.getD bf "") ms)/\bE F H4 F1 H5/\∀b,F1 b->∃o,H5 b=some o/\KB o:=⟨_,h5.kinds,λb o e n=>⟨(d5 b o e n).1,λz=>(d5 b o e n).2 z.1⟩,λb z=>z.2⟩;have u5:=d1 _ _ T4.hu T4.fu;have g5:=d1 _ _ T4.hg T4.fg;have r5:=T4.hr.eh d1;have k5:=d1 _ _ (s4 _ _ e3) fk;refine⟨_,rfl,_,rfl,_,rfl,k,_,_,bf,rfl,rfl,r5.1,qm Dz OQ,?_⟩;have EY:(S.hand (S.af.getD bf "") ms).rows=S.rows.set bf ms:=Sh.dJ (S:=S) ok.qi (k:=bf) jy ms;have r6:=r5.set uP k5.1 k5.2 bf;rw[<-EY]at r6;have S9:=h1.put (o:=.lst ((ls.map V.ref).set bf (.ref lk))) r5.2.1;have u6:upd H5 k (.lst ((ls.map V.ref).set bf (.ref lk))) u=some (.lst (S.aa.map V.int)):=by rw[zh (yV u5.1 r5.1 (uk uP))];exact u5.1
      have g6:upd H5 k (.lst ((ls.map V.ref).set bf (.ref lk))) g=some (.lst (S.struck.map V.int)):=by rw[zh (yV g5.1 r5.1 (uk uP))];exact g5.1
      have Ta:∀b,F1 b->∃o,upd H5 k (.lst ((ls.map V.ref).set bf (.ref lk))) b=some o/\KB o:=λb z=>by
       rw[zh (fun(w:b=k)=>r5.2.1 (by rw[<-w];exact z))];exact OR b z
      have ZJ:∀l∈ls.set bf lk,G l\/l=lk:=λl hl=>by
       rcases List.mem_or_eq_of_mem_set hl with hl | rfl
       ·exact .inl (T3.gl l hl)
       ·exact .inr rfl
      have keep:∀b o,H1 b=some o->¬G b->upd H5 k (.lst ((ls.map V.ref).set bf (.ref lk))) b=some o/\¬(F1 b\/b=u\/b=g\/b=k\/b∈ls.set bf lk):=λb o e nb=>by
       obtain⟨y1,y2⟩:=d1 b o (s4 _ _ (s3 _ _ e)) (λz=>nb (T3.gF b z));refine⟨by rw[zh (fun(w:b=k)=>nb (by rw[w];exact T3.gk))];exact y1,?_⟩;rintro (z | z | z | z | z)
       ·exact y2 z
       ·exact nb (by rw[z];exact T3.gu)
       ·exact nb (by rw[z];exact T3.gg)
       ·exact nb (by rw[z];exact T3.gk)
       ·rcases ZJ b z with w | w
        ·exact nb w
        ·rw[w,f3]at e;cases e
      have E9:upd H5 k (.lst ((ls.map V.ref).set bf (.ref lk))) k=some (.lst ((ls.set bf lk).map V.ref)):=by rw[zc,map_set]
      generalize qR:upd H5 k _=H6 at r6 S9 u6 g6 Ta keep E9 ⊢;refine⟨_,_,_,_,_,_,_,rfl,(λb=>F1 b\/b=u\/b=g\/b=k\/b∈ls.set bf lk),S.hand (S.af.getD bf "") ms,F1,ls.set bf lk,⟨S9,(keep _ _ hT.hn hT.nn).1,(keep _ _ hT.hn hT.nn).2,u6,g6,r6,u5.2,g5.2,T3.ug,λl hl=>?_,λb z=>.inl z,.inr (.inl rfl),.inr (.inr (.inl rfl)),.inr (.inr (.inr (.inl rfl))),λl hl=>.inr (.inr (.inr (.inr hl))),λb z=>?_⟩,⟨hh.cp,hh.pm⟩,hp,hs,(by show S.taken+1<=S0.taken+(i+1);omega),d.trans (λb o e t nb=>keep b o e nb),hL.eh hT.kd λb o e nb=>(keep b o e nb).1⟩
      ·rcases List.mem_or_eq_of_mem_set hl with hl | rfl
       ·exact T3.lg l hl
       ·exact⟨(λz=>by rw[z,hT.hg]at f3;cases f3),(λz=>by rw[z,hT.hu]at f3;cases f3)⟩
      ·rcases z with z | rfl | rfl | rfl | z
       ·exact Ta b z
       ·exact⟨_,u6,trivial⟩
       ·exact⟨_,g6,trivial⟩
       ·exact⟨_,E9,trivial⟩
       ·obtain⟨w,y⟩:=r6.2.2.ja z;exact⟨_,y.1,trivial⟩
     ·
      refine⟨_,rfl,_,_,rfl,rfl,_,rfl,yr (λ_=>?_) (λw=>absurd h6 w)⟩;have uK:S.refuse (S.af.getD bf "") ms=some ("BadCard":Str):=by
       unfold Sh.refuse;rw[hs,if_neg Bool.false_ne_true,if_pos hj,if_neg ZI]
      refine⟨_,rfl,_,rfl,_,rfl,n,_,_,_,rfl,rfl,ag.of T3.hn,zC (tK jy),_,rfl,lk,_,rfl,.inl (ag.of e3),λlh Fd=>?_⟩;have s4:=ae.new (o:=.lst (ms.map V.int)) Fd;have e4:upd H3 lh (.lst (ms.map V.int)) lh=some (.lst (ms.map V.int)):=zc;generalize uE:upd H3 lh _=H4 at s4 e4 ⊢;refine⟨x,F,S,_,lh,ms,rfl,T3.sh.same s4,uK,ag.of e4,by omega,λH5 s5=>⟨_,rfl,yY (bQ _ _ (s4.trans s5) ⟨_,_,_,_,_,_,_,rfl⟩)⟩⟩
   ·
    refine⟨_,rfl,k,rfl,⟨_,ag.of T3.hr.1⟩,?_⟩;refine wJ (ag.of T3.hr.1) (T3.hr.2.2.imp λ_ _ z=>ag.of z.1) (by omega) (λm d H' Q hm h=>?_) (λm H' Q h=>⟨_,rfl,h⟩) λks H4 s4 r4=>?_
    ·refine⟨_,rfl,(by show 0<=sizeLine;decide),λl6 fE=>?_⟩;have s6:=ae.new (o:=.lst []) fE;refine⟨m,l6,_,[],rfl,rfl,s6.seq hm,ag.new,zy _,rfl,_,rfl,?_⟩;rw[show dG (d.map V.int) []=decide (d=[])from yx _ []];exact h _ s6
    intro li AZ;have s5:=s4.ar (o:=.lst (ks.map V.ref)) AZ;have e5:upd H4 li (.lst (ks.map V.ref)) li=some (.lst (ks.map V.ref)):=zc;have jW:ks.length=S.handed.length:=by rw[r4.length,Sh.dc ok]
    generalize se:upd H4 li _=H5 at s5 e5 ⊢;refine⟨(by show 0<=sizeLine;decide),λl3 c8=>?_⟩;have s6:=s5.ar (o:=.lst []) c8;refine⟨li,l3,_,rfl,rfl,ag.of ((ae.new c8) _ _ e5),ag.new,_,rfl,?_⟩;rw[length_map,jW];generalize qR:upd H5 l3 _=H6 at s6 ⊢;have T6:=T3.same s6;have L6:=L3.same s6;refine yi (λh1=>?_) (λ_=>bQ _ _ s6 ⟨_,_,_,_,_,_,_,rfl⟩);have h1:1<=S.handed.length:=by omega
    clear bQ s4 r4 s5 e5 jW AZ c8 se qR;refine⟨λσ' H'=>σ'=[some (.ref x),some (.ref n),some (.ref u),some (.ref g),some (.ref k),some (.ref cl),some (.int y),some (.int cell),some (.int kind),some (.int bf),some (.ref lk),v11,su,rq]/\aG H6 H'/\aZ (wQ K "by_place") dW H',?_,?_⟩
    ·refine⟨_,rfl,u,_,rfl,.inl (ag.of T6.hu),_,_,rfl,rfl,_,rfl,yr (λ_=>?_) (λ_=>⟨rfl,(ae.refl _).toN,L6⟩)⟩;refine⟨_,rfl,_,rfl,_,rfl,_,rfl,_,rfl,_,rfl,_,_,rfl,rfl,⟨by decide,by decide⟩,x,n,u,k,F,S,ls,bf,_,rfl,T6.sh,T6.hn,T6.hu,T6.hr.1,T6.hr.2.2.imp λ_ _ z=>z.1,jy,h1,L6,λH7 s7 z7=>⟨_,rfl,yY ⟨rfl,s7,z7⟩⟩⟩
    rintro σ' H7 ⟨rfl,s7,L7⟩;have T7:=T6.bJ s7;refine⟨_,rfl,k,rfl,⟨_,ag.of T7.hr.1⟩,?_⟩;refine wJ (ag.of T7.hr.1) (T7.hr.2.2.imp λ_ _ z=>ag.of z.1) (by omega) (λm d H' Q hm h=>?_) (λm H' Q h=>⟨_,rfl,h⟩) λks H8 s8 r8=>?_
    ·refine⟨_,rfl,(by show 0<=sizeLine;decide),λl6 fE=>?_⟩;have s9:=ae.new (o:=.lst []) fE;refine⟨m,l6,_,[],rfl,rfl,s9.seq hm,ag.new,zy _,rfl,_,rfl,?_⟩;rw[show dG (d.map V.int) []=decide (d=[])from yx _ []];exact h _ s9
    intro lj Fe;have s9:=s8.ar (o:=.lst (ks.map V.ref)) Fe;have e9:upd H8 lj (.lst (ks.map V.ref)) lj=some (.lst (ks.map V.ref)):=zc;have r9:=r8.imp λl c (z:IL K H8 l c)=>IL.stays K _ _ _ _ (ae.new (o:=.lst (ks.map V.ref)) Fe) z;rw[<-Sh.bj ok]at r9;generalize Im:upd H8 lj _=H9 at s9 e9 r9 ⊢;have T9:=T7.same s9;have Ff:∀d∈S.ai,d.Perm S.aa:=λd hd=>Sh.aJ ok d hd;have OT:S.ai.length=S.handed.length:=Sh.aA S;have HU:S.handed.length<=S.af.length:=length_filter_le _ _;refine⟨_,rfl,x,F,S,rfl,T9.sh,h1,λl1 uG de Og js=>?_⟩;refine⟨_,rfl,_,rfl,lj,u,S.ai,S.aa,rfl,⟨ks,ag.of (de _ _ e9),r9.imp λl c z=>IL.stays K _ _ _ _ de z⟩,ag.of (de _ _ T9.hu),by omega,by omega,(λv hv d hd=>(Ff d hd).mem_iff.mpr hv),λl2 EO fU Zi E4=>?_⟩;rw[M6.D1 Ff (by omega)]at E4;refine⟨l1,l2,_,_,rfl,ag.of (fU _ _ js),ag.of E4,by rw[M6.yp];omega,?_⟩;rw[decide_eq_true rfl];refine⟨_,rfl,yY ?_⟩;have B0:aG H1 EO:=((s3.trans s6).toN.trans s7).trans ((s9.trans de).trans fU).toN;exact⟨_,_,_,_,_,_,_,rfl,G,S,F,ls,(T9.same de).same fU,hh,hp,hs,by omega,d.trans (bU.bJ B0),(L7.same s9).same (de.trans fU)⟩
  ·rintro σ H1 ⟨v7,v8,v9,v10,v11,su,rq,rfl,G,S,F,ls,hT,hh,hp,hs,ht,d,hL⟩;rw[length_map]at ht;exact q H1 G S F ls hT hh hp hs ht d hL
theorem Tb{K:Frag}{F F':Addr->Prop}{H H':Hp}{a:Addr}{xs:List V}(h:LQ K F H a xs)(d:bU F H F' H'):LQ K F' H' a xs:=by
 rcases h with⟨r | ⟨o,r⟩,n⟩ | h
 ·have:=d a _ r (λ_ z=>by cases z) n;exact .inl ⟨.inl this.1,this.2⟩
 ·have:=d a _ r (λ_ z=>by cases z) n;exact .inl ⟨.inr ⟨o,this.1⟩,this.2⟩
 ·exact .inr h
theorem uQ{S T:Sh}(hp:T.af=S.af)(hc:T.card=S.card):T.ai=S.ai/\T.handed=S.handed/\T.rows=S.rows:=by
 refine⟨?_,?_,?_⟩
 ·unfold Sh.ai Sh.handed;rw[hp,hc]
 ·unfold Sh.handed;rw[hp,hc]
 ·unfold Sh.rows;rw[hp,hc]
inductive Fg (K:Frag) (vs:List V) (H:Hp) (Q:VK) (E:XK):Prop
 | mk (a:Addr) (ns:List Int):vs=[.ref a]->ag K H a (ns.map V.int)->ns.length<=63->H (wQ K "by_place")=some (.bW #[])->(∀H',Q (.bl true) H')->Fg K vs H Q E
theorem A6(F:aN K "law" "law" m8 f fd)(T:Txt K mg)(sA:aB P w K mg base 1 "_law_at" Gy (MI K))(sj:aB P w K mg base 2 "_law_same" wB (BO K))(ZK:aB P w K mg base 3 "_law_lists" Hk (NJ K))(Tc:aB P w K mg base 1 "_law_many" GA (ML K))(ZL:aB P w K mg base 1 "_law_couples" GC (MM K))(ZM:aB P w K mg base 1 "_law_judges" GF (MN K))(ON:aB P w K mg base 15 "_law_told" En (IA K))(ZN:aB P w K mg base 16 "_law_played" HI (OM K))(ZO:aB P w K mg base 3 "_law_second" Hf (Nt K))(Td:lC P w K mg base 4 "Sheet" (zL K "Sheet") Ho (NP K))(xb:br P w K mg base 2 (zL K "Sheet") "hand_in" yn (yH K))(c0:bD P w K mg base 1 (zL K "Sheet") "couples" zA (zF K))(q9:bD P w K mg base 3 (zL K "Sheet") "cards" yh (yw K)):av P w K mg base aQ 17 f fd ["_law_script"] (Fg K):=by
 refine F.ok mw (λvs H Q E h=>?_) (λaE A outer s H vs Q E hr h=>?_)
 ·obtain⟨a,ns,rfl,_⟩:=h;rfl
 ·obtain⟨a,ns,rfl,hS,hz,hT,q⟩:=h;refine⟨_,(zd (zr (i:=1) mw.nd rfl (Or.inl rfl) (zo yc (zi sA (hM hr) rfl (za (pv 0) (za zg zb))) zg))
   (zd (zr (i:=2) mw.nd rfl (Or.inl rfl) (zi ZL (hM hr) rfl (za (zi sA (hM hr) rfl (za (pv 0) (za zg zb))) (za (zi Tc (hM hr) rfl (za (pv 1) (za (zi sA (hM hr) rfl (za (pv 0) (za zg zb))) (za zg (za zg (za zg zb)))))) zb))))
   (zd (zr (i:=3) mw.nd rfl (Or.inl rfl) (zi ZM (hM hr) rfl (za (zi sA (hM hr) rfl (za (pv 0) (za zg zb))) (za (zi Tc (hM hr) rfl (za (pv 1) (za (zi sA (hM hr) rfl (za (pv 0) (za zg zb))) (za zg (za zg (za zg zb)))))) zb))))
   (zd (zr (i:=4) mw.nd rfl (Or.inl rfl) (zo yc (zi sA (hM hr) rfl (za (pv 0) (za zg zb))) zg))
   (zd (zr (i:=5) mw.nd rfl (Or.inl rfl) (Qw Td jQ (hM hr) rfl (za (zK zM (by rfl) T.aV boot_list (za (pv 2) zb)) (za (zK zM (by rfl) T.aV boot_list (za (pv 3) zb)) zb))))
   (zd (zr (i:=6) mw.nd rfl (Or.inl rfl) (zK zM (by rfl) T.aV boot_list (za (pv 2) zb)))
   (zd (zr (i:=7) mw.nd rfl (Or.inl rfl) (zz zb))
   (zd (yK (i:=8) (show ak (zf m8) HJ "_law_name" [] [] _ from cm) rfl mw.nd rfl (Or.inl rfl) (zx (pv 3)) (λ_ _ _ _ _=>yN) (λ_ _ _ _ _=>(zz zb)))
   (zd (zv (zV (zQ (zi ZN (hM hr) rfl (za (pv 5) (za (pv 3) (za (pv 6) (za (pv 7) (za (pv 8) (za (zG zX (pv 0) (zO zg) (zO zg)) (za (pv 4) zb)))))))))) (ze (zk yf)) zp)
   (zd (jN (zv (zl (Vc hr.aS) (zS (show ak (zf m8) HJ "_law_card_here" [] [] _ from cm) rfl (zx (pv 8)) (λ_ _ _ _ _=>(yL (zl (yF (K:=K) rfl hr.aS) (pv 0) (zz zb) (zn _)))) (λ_ _ _ _ _=>(pv 0))) (zz zb) (zn _)) (zd (Js (CW (pv 6) (xH xK zg)) (iI (pv 8) zg JL))
   (ze (zI (yT xb T.aj jQ (hM hr) (pv 5) (za (zu zq (pv 3) zg (λ_ _=>rfl)) (za (CW (pv 6) (xH xK zg)) zb)))))) zp))
   (zd (zr (i:=9) mw.nd rfl (Or.inl rfl) (Qw Td jQ (hM hr) rfl (za (zK zM (by rfl) T.aV boot_list (za (pv 2) zb)) (za (zK zM (by rfl) T.aV boot_list (za (pv 3) zb)) zb))))
   (zd (zI (zi ZO (hM hr) rfl (za (pv 9) (za (pv 3) (za (pv 7) (za (pv 8) (za (zi sA (hM hr) rfl (za (pv 0) (za zg zb))) (za (zi sA (hM hr) rfl (za (pv 0) (za zg zb))) zb))))))))
   (zd (yK (i:=10) (show ak (zf m8) HJ "_law_card_here" [] [] _ from cm) rfl mw.nd rfl (Or.inl rfl) (zx (pv 8)) (λ_ _ _ _ _=>(yL (zl (yF (K:=K) rfl hr.aS) (pv 0) (zz zb) (zn _)))) (λ_ _ _ _ _=>(pv 0)))
   (zd (zr (i:=11) mw.nd rfl (Or.inl rfl) (zo yc (zi sA (hM hr) rfl (za (pv 0) (za zg zb))) (zT T.aq (pv 3))))
   (zd (yB PassesOwn.never rfl (zx (zz (za (pv 5) (za (pv 9) zb)))) (zN (i:=12) mw.nd rfl (Or.inl rfl))
     (zd (zv (PW.pt (gS (zV (zQ (zi sj (hM hr) rfl (za (zP c0 T.aj (hM hr) (pv 12)) (za (pv 6) zb))))) (wR (zV (zQ (zi ZK (hM hr) rfl (za (zP q9 T.aj (hM hr) (pv 12)) (za (pv 10) zb)))))))) (ze (zk yf)) zp)
   (ze (zv (zV (zQ (zi ON (hM hr) rfl (za (pv 12) (za (pv 3) (za (pv 6) (za (pv 8) (za (pv 11) (za (zi sA (hM hr) rfl (za (pv 0) (za zg zb))) zb))))))))) (ze (zk yf)) zp))))
   (ze (zk yf))))))))))))))))),?_⟩
  have cj:=zt;refine⟨_,rfl,a,ns,2,rfl,hS,by decide,_,_,rfl,rfl,(by show(0:Int)<16;decide),?_⟩;dsimp only;generalize ns.getD (2:Int).toNat 0%16=md;refine⟨_,rfl,a,ns,4,rfl,hS,by decide,_,rfl,_,rfl,a,ns,0,rfl,hS,by decide,_,_,_,_,_,rfl,by decide,by decide,λmany m1 m2=>?_⟩;refine⟨_,_,rfl,by omega,by omega,λl1 H1 s1 f1 e1=>?_⟩;generalize OU:M1.aa _ _=us at e1;have hul:us.length=many.toNat:=by rw[<-OU,M1.QT]
  have ZP:us.Nodup:=by rw[<-OU];exact M1.VB (by omega)
  have Te:M1.qb us=true:=(M1.lO us).mpr ⟨by omega,ZP,λx hx=>by rw[<-OU]at hx;exact M1.VA hx⟩;refine⟨_,rfl,a,ns,5,rfl,s1.seq hS,by decide,_,rfl,_,rfl,a,ns,1,rfl,s1.seq hS,by decide,_,_,_,_,_,rfl,by decide,by decide,λaf p1 p2=>?_⟩;refine⟨_,_,rfl,by omega,by omega,λl2 H2 ts s2 f2 e2 htl ZQ OV=>?_⟩;have Tf:M2.tZ ts=true:=(M2.QS ts).mpr ⟨by omega,ZQ,λz hz=>(M2.DG z).mp (OV z hz)⟩;have t2:=s1.trans s2;have c2:=s2 _ _ e1;refine⟨_,rfl,a,ns,3,rfl,t2.seq hS,by decide,_,_,rfl,rfl,(by show(0:Int)<4;decide),?_⟩;dsimp only;generalize ns.getD (3:Int).toNat 0%4=rC;refine⟨_,rfl,l1,_,rfl,.inl (ag.of c2),λla sf=>?_⟩;have s3:=ae.new (o:=.lst (us.map V.int)) sf;have e3:upd H2 la (.lst (us.map V.int)) la=some (.lst (us.map V.int)):=zc;generalize gN:upd H2 la _=H3 at s3 e3 ⊢;refine⟨_,rfl,l2,_,rfl,.inl (ag.of (s3 _ _ e2)),λlb E6=>?_⟩;have s4:=ae.new (o:=.lst (ts.map V.str)) E6;have e4:upd H3 lb (.lst (ts.map V.str)) lb=some (.lst (ts.map V.str)):=zc;generalize uE:upd H3 lb _=H4 at s4 e4 ⊢;have k4:=s3.trans s4;intro x Tg hx ZR ZS;have sx:=(ae.new (o:=.own x) ZR).ar (o:=.ins (zL K "Sheet") Tg []) (l:=x) (by rw[zh (Ne.symm ZS)];exact hx);refine⟨x,Tg,la,lb,us,ts,rfl,zc,ag.of (sx _ _ (s4 _ _ e3)),by omega,ag.of (sx _ _ e4),by omega,λz hz=>?_,λz=>?_,λ_ z=>?_,λ_ _ H5 F5 mM fB=>⟨rfl,?_⟩⟩
  ·have:=((M2.DG z).mp (OV z hz)).1;omega
  ·rw[Te]at z;cases z
  ·rw[Tf]at z;cases z
  have mO:bE (λ_=>False) H4 F5 H5:=λb o e _=>fB b o (sx _ _ e) (zj e hx);have s5:ae H4 H5:=λb o e=>(mO b o e (λz=>z)).1;obtain⟨F,aP,Th,IP⟩:∃F:Addr->Prop,ao K H5 x F (Sh.new us ts)/\(∀b,F b->∃o,H5 b=some o/\KB o)/\bE (λ_=>False) H4 F H5:=⟨_,mM.kinds,λb z=>z.2,λb o e n=>⟨(mO b o e n).1,λz=>(mO b o e n).2 z.1⟩⟩;have xh:=s5 _ _ (k4 _ _ c2);have IQ:=s5 _ _ (k4 _ _ e2);have ZT:=(IP _ _ (k4 _ _ c2) (λz=>z)).2;have ZU:=(IP _ _ (k4 _ _ e2) (λz=>z)).2;have a5:LQ K F H5 a (ns.map V.int):=(ag.none ((t2.trans k4).seq hS)).eh IP;have ZV:=s5 _ _ ((t2.trans k4) _ _ hT);refine⟨_,rfl,l1,_,rfl,.inl (ag.of xh),λlu IS=>?_⟩;have s6:=ae.new (o:=.lst (us.map V.int)) IS;have e6:upd H5 lu (.lst (us.map V.int)) lu=some (.lst (us.map V.int)):=zc;have f6:¬F lu:=aP.apart IS;generalize qR:upd H5 lu _=H6 at s6 e6 ⊢;refine⟨(by show 0<=sizeLine;decide),λlg B4=>?_⟩;have s7:=s6.ar (o:=.lst []) B4;have e7:upd H6 lg (.lst []) lg=some (.lst []):=zc;have f7:¬F lg:=(aP.same s6).apart B4;have u7:=(ae.new (o:=.lst []) B4) _ _ e6;have ug:lu≠lg:=zj e6 B4;generalize NW:upd H6 lg _=H7 at s7 e7 u7 ⊢;refine⟨_,rfl,l2,rfl,⟨_,ag.of (s7 _ _ IQ)⟩,?_⟩;refine yq (xs:=ts.map V.str) (λi ys H8=>∃ls:List Addr,ys=ls.map V.ref/\ae H7 H8/\All2 (λl c=>H8 l=some (.lst (c.map V.int))/\H7 l=none) ls ((List.range i).map λ_=>([]:List Int))) ⟨[],rfl,ae.refl _,.nil⟩ ?_ (by rw[length_map];omega) ?_ ?_
  ·rintro i ys H8 hi ⟨ls,rfl,s8,r8⟩;refine⟨ag.of (s8 _ _ (s7 _ _ IQ)),?_⟩;have:=r8.length;rw[length_map,length_range]at this;rw[length_map];omega
  ·rintro i y ys H8 hy ⟨ls,rfl,s8,r8⟩;refine⟨(by show 0<=sizeLine;decide),λl hl=>⟨ls++[l],by rw[map_append];rfl,s8.ar hl,?_⟩⟩;rw[range_succ,map_append];exact(r8.imp λ_ _ z=>⟨ae.new hl _ _ z.1,z.2⟩).snoc ⟨zc,s8.free hl⟩
  rintro ys H8 ⟨ls,rfl,s8,r8⟩ lk B5;rw[length_map]at r8;have s9:=s8.ar (o:=.lst (ls.map V.ref)) B5;have e9:upd H8 lk (.lst (ls.map V.ref)) lk=some (.lst (ls.map V.ref)):=zc;have r9:All2 (fun(l:Addr) (c:List Int)=>upd H8 lk (.lst (ls.map V.ref)) l=some (.lst (c.map V.int))/\H7 l=none) ls ((List.range ts.length).map λ_=>([]:List Int)):=r8.imp λ_ _ z=>⟨(ae.new B5) _ _ z.1,z.2⟩;have f9:¬F lk:=((aP.same s7).same s8).apart B5;have k9:lk≠lg:=(zj (s8 _ _ e7) B5).symm;have Ti:=s8.free B5;generalize Im:upd H8 lk _=H9 at s9 e9 r9 ⊢;have t9:=s7.trans s9;have erw:(Sh.new us ts).rows=(List.range ts.length).map λ_=>([]:List Int):=by
   show ts.map (λ_=>([]:List Int))=_;refine ext_getElem (by simp) λi h1 h2=>?_;simp
  rw[<-erw]at r9;have hm:∀l∈ls,H7 l=none:=λl hl=>by
   obtain⟨_,z⟩:=r9.ja hl;exact z.2
  have out:∀{b:Addr}{o:HO},H5 b=some o->¬F b->¬(F b\/b=lu\/b=lg\/b=lk\/b∈ls):=λ{b o} e nf=>by
   rintro (z | z | z | z | z)
   ·exact nf z
   ·exact zj e IS z
   ·exact zj (s6 _ _ e) B4 z
   ·exact zj (s7 _ _ e) Ti z
   ·have:=hm b z;rw[s7 _ _ e]at this;cases this
  obtain⟨G,hG⟩:∃G:Addr->Prop,G=λb=>F b\/b=lu\/b=lg\/b=lk\/b∈ls:=⟨_,rfl⟩;have out:∀{b:Addr}{o:HO},H5 b=some o->¬F b->¬G b:=λ{b o} e nf=>by rw[hG];exact out e nf
  have T9:m5 K H9 G (Sh.new us ts) l2 lu lg lk x F ls:=by
   rw[hG];refine⟨aP.same t9,t9 _ _ IQ,by have:=out IQ ZU;rw[hG]at this;exact this,s9 _ _ u7,s9 _ _ e7,⟨e9,f9,r9.imp λl c z=>⟨z.1,λw=>(aP.same s7).fh l w z.2⟩⟩,f6,f7,ug,λl hl=>⟨λz=>?_,λz=>?_⟩,λb z=>.inl z,.inr (.inl rfl),.inr (.inr (.inl rfl)),.inr (.inr (.inr (.inl rfl))),λl hl=>.inr (.inr (.inr (.inr hl))),λb z=>?_⟩
   ·have:=hm l hl;rw[z,e7]at this;cases this
   ·have:=hm l hl;rw[z,u7]at this;cases this
   ·rcases z with z | rfl | rfl | rfl | z
    ·obtain⟨o,e,t⟩:=Th b z;exact⟨o,t9 _ _ e,t⟩
    ·exact⟨_,s9 _ _ u7,trivial⟩
    ·exact⟨_,s9 _ _ e7,trivial⟩
    ·exact⟨_,e9,trivial⟩
    ·obtain⟨w,y⟩:=r9.ja z;exact⟨_,y.1,trivial⟩
  have n1:=out xh ZT;have Tj:=t9 _ _ xh;have a9:LQ K G H9 a (ns.map V.int):=by
   rcases a5 with⟨r | ⟨o,r⟩,n⟩ | h
   ·exact .inl ⟨.inl (t9 _ _ r),out r n⟩
   ·exact .inl ⟨.inr ⟨o,t9 _ _ r⟩,out r n⟩
   ·exact .inr h
  have L9:aZ (wQ K "by_place") dW H9:=aZ.new (q:=dW) (t9 _ _ ZV);clear hG out k9 Ti hm erw r8 r9 e9 f9 s8 s9 B5 e7 u7 f7 B4 IS e6 f6 aP Th IP mO mM fB;obtain⟨zs,ez,hzl,_⟩:=qo ns 10 50 (by decide);refine⟨_,rfl,_,rfl,_,rfl,_,rfl,_,rfl,_,rfl,_,rfl,_,rfl,a,_,rfl,a9.sq,λlz Tn=>?_⟩;rw[show kP (ns.map V.int) (some 10) (some 50)=zs.map V.int from ez];have sC:=ae.new (o:=.lst (zs.map V.int)) Tn;have eC:upd H9 lz (.lst (zs.map V.int)) lz=some (.lst (zs.map V.int)):=zc;have nC:¬G lz:=λz=>by obtain⟨o,e,_⟩:=T9.kd _ z;rw[Tn]at e;cases e
  generalize rO:upd H9 lz _=HC at sC eC ⊢;refine⟨_,rfl,G,_,l2,lu,lg,lk,x,lz,F,ls,us,zs,rC,rfl,T9.same sC,dN.new,rfl,(by show 0+zs.length<=200;omega),⟨eC,nC⟩,L9.same sC,λHD G1 S1 F1 sD T1 mU eL To OW d1 L1=>⟨_,rfl,yY ?_⟩⟩;have aD:=Tb (a9.same sC) d1;have Fh:=d1 _ _ (sC _ _ Tj) (λ_ z=>by cases z) n1;have eL:S1.af=ts:=eL;have OW:S1.taken<=0+zs.length:=OW;have Fi:=T1.sh.ok;have ZW:S1.af.length=ts.length:=by rw[eL]
  have hlen:=T1.hr.len;rw[S1.aL]at hlen;have rz:S1.rows.length<=15:=by rw[S1.aL];omega
  have cG:=Fi.cG;have c1:=Fi.c1;refine⟨λσ H'=>∃(G:Addr->Prop)(S:Sh)(F:Addr->Prop)(ls:List Addr),σ=[some (.ref a),some (.int md),some (.ref l1),some (.ref l2),some (.int rC),some (.ref x),some (.ref lu),some (.ref lg),some (.ref lk),none,none,none,none]/\m5 K H' G S l2 lu lg lk x F ls/\dN us S/\S.af=ts/\1<=S.handed.length/\LQ K G H' a (ns.map V.int)/\(H' l1=some (.lst (us.map V.int))/\¬G l1)/\aZ (wQ K "by_place") dW H',?_,?_⟩
  ·refine⟨_,rfl,lk,rfl,⟨_,ag.of T1.hr.1⟩,?_⟩;refine wJ (ag.of T1.hr.1) (T1.hr.2.2.imp λ_ _ z=>ag.of z.1) (by omega) (λm d H' Q hm h=>?_) (λm H' Q h=>⟨_,rfl,h⟩) λks H4 s4 r4=>?_
   ·refine⟨_,rfl,(by show 0<=sizeLine;decide),λl6 fE=>?_⟩;have s6:=ae.new (o:=.lst []) fE;refine⟨m,l6,_,[],rfl,rfl,s6.seq hm,ag.new,zy _,rfl,_,rfl,?_⟩;rw[show dG (d.map V.int) []=decide (d=[])from yx _ []];exact h _ s6
   intro li AZ;have s5:=s4.ar (o:=.lst (ks.map V.ref)) AZ;have e5:upd H4 li (.lst (ks.map V.ref)) li=some (.lst (ks.map V.ref)):=zc;have jW:ks.length=S1.handed.length:=by rw[r4.length,Sh.dc Fi]
   generalize se:upd H4 li _=H5 at s5 e5 ⊢;refine⟨(by show 0<=sizeLine;decide),λl3 c8=>?_⟩;have s6:=s5.ar (o:=.lst []) c8;refine⟨li,l3,_,rfl,rfl,ag.of ((ae.new c8) _ _ e5),ag.new,_,rfl,?_⟩;rw[length_map,jW];generalize qR:upd H5 l3 _=H6 at s6 ⊢;have T6:=T1.same s6;refine yr (λ_=>?_) (λh1=>⟨G1,S1,F1,sD,rfl,T6,mU,eL,by omega,aD.same s6,⟨s6 _ _ Fh.1,Fh.2⟩,L1.same s6⟩);have uP:sD≠[]:=λz=>by rw[z]at hlen;simp at hlen;omega
   refine⟨_,rfl,_,rfl,rfl,lu,_,rfl,ag.of T6.hu,λlr A7=>?_⟩;rw[<-map_reverse];have s7:=ae.new (o:=.lst (S1.aa.reverse.map V.int)) A7;have e7:upd H6 lr (.lst (S1.aa.reverse.map V.int)) lr=some (.lst (S1.aa.reverse.map V.int)):=zc;have fr:¬F1 lr:=T6.sh.apart A7;generalize NW:upd H6 lr _=H7 at s7 e7 ⊢;have T7:=T6.same s7;refine⟨_,rfl,lk,_,_,0,rfl,rfl,T7.hr.1,(by unfold rL;rw[if_pos (by decide),if_pos (by rw[length_map];omega)];rfl),?_⟩;have r8:=T7.hr.set uP e7 fr 0;have h8:=T7.sh.put (o:=.lst ((sD.map V.ref).set 0 (.ref lr))) T7.hr.2.1;have u8:upd H7 lk (.lst ((sD.map V.ref).set 0 (.ref lr))) lu=some (.lst (S1.aa.map V.int)):=by rw[zh (yV T7.hu T7.hr.1 (uk uP))];exact T7.hu
   have g8:upd H7 lk (.lst ((sD.map V.ref).set 0 (.ref lr))) lg=some (.lst (S1.struck.map V.int)):=by rw[zh (yV T7.hg T7.hr.1 (uk uP))];exact T7.hg
   have rD:∀b o,H6 b=some o->¬G1 b->upd H7 lk (.lst ((sD.map V.ref).set 0 (.ref lr))) b=some o/\¬(b=lu\/b=lg\/b=lk\/b∈sD.set 0 lr):=λb o e nb=>by
    refine⟨by rw[zh (fun(w:b=lk)=>nb (by rw[w];exact T6.gk))];exact s7 _ _ e,?_⟩;rintro (z | z | z | z)
    ·exact nb (by rw[z];exact T6.gu)
    ·exact nb (by rw[z];exact T6.gg)
    ·exact nb (by rw[z];exact T6.gk)
    ·rcases List.mem_or_eq_of_mem_set z with z | z
     ·exact nb (T6.gl b z)
     ·rw[z,A7]at e;cases e
   generalize Sa:upd H7 lk _=H8 at r8 h8 u8 g8 rD ⊢;have n8:=rD _ _ T6.hn T6.nn;obtain⟨dx,b1,b2,b3,dd,bx⟩:=h8.ins;have uR:0<S1.af.length:=by omega
   have ea:cH (S1.af.map V.str) 0=some (.str (S1.af.getD 0 "")):=zC (j:=0) (tK uR);refine⟨_,rfl,x,dx,_,rfl,bx,rfl,_,rfl,l2,_,_,_,rfl,rfl,ag.of n8.1,ea,_,rfl,_,rfl,rfl,lu,_,rfl,ag.of u8,λlh Fd=>?_⟩;rw[<-map_reverse];have s9:=ae.new (o:=.lst (S1.aa.reverse.map V.int)) Fd;have e9:upd H8 lh (.lst (S1.aa.reverse.map V.int)) lh=some (.lst (S1.aa.reverse.map V.int)):=zc;generalize Im:upd H8 lh _=H9 at s9 e9 ⊢;have uK:S1.refuse (S1.af.getD 0 "") S1.aa.reverse=none:=by
    unfold Sh.refuse;rw[To,if_neg Bool.false_ne_true,if_pos (wn uR),if_pos (reverse_perm _),if_neg (by omega)]
   refine⟨x,F1,S1,_,lh,_,rfl,h8.same s9,ag.of e9,by rw[List.length_reverse];omega,λc hc=>(by rw[uK]at hc;cases hc),λ_ HE F' h5 d5=>?_⟩;obtain⟨F2,h2,d2,IM⟩:∃F2:Addr->Prop,ao K HE x F2 (S1.hand (S1.af.getD 0 "") S1.aa.reverse)/\bE F1 H9 F2 HE/\∀b,F2 b->∃o,HE b=some o/\KB o:=⟨_,h5.kinds,λb o e n=>⟨(d5 b o e n).1,λz=>(d5 b o e n).2 z.1⟩,λb z=>z.2⟩;have u2:=d2 _ _ (s9 _ _ u8) T6.fu;have g2:=d2 _ _ (s9 _ _ g8) T6.fg;have r2:=(r8.same s9).eh d2;have EY:(S1.hand (S1.af.getD 0 "") S1.aa.reverse).rows=S1.rows.set 0 S1.aa.reverse:=Sh.dJ (S:=S1) Fi.qi (k:=0) uR _;rw[<-EY]at r2;have keep:∀b o,H6 b=some o->¬G1 b->HE b=some o/\¬(F2 b\/b=lu\/b=lg\/b=lk\/b∈sD.set 0 lr):=λb o e nb=>by
    obtain⟨y1,y2⟩:=rD b o e nb;obtain⟨y3,y4⟩:=d2 b o (s9 _ _ y1) (λz=>nb (T6.gF b z));exact⟨y3,λz=>z.elim y4 y2⟩
   have Ey:S1.af.getD 0 "" ∈ (S1.hand (S1.af.getD 0 "") S1.aa.reverse).handed:=by
    refine List.mem_filter.mpr ⟨wn uR,?_⟩;show(if S1.af.getD 0 ""=S1.af.getD 0 "" then some S1.aa.reverse else _).isSome=true;rw[if_pos rfl];rfl
   refine⟨(λb=>F2 b\/b=lu\/b=lg\/b=lk\/b∈sD.set 0 lr),_,F2,sD.set 0 lr,rfl,⟨h2,(keep _ _ T6.hn T6.nn).1,(keep _ _ T6.hn T6.nn).2,u2.1,g2.1,r2,u2.2,g2.2,T6.ug,λl hl=>?_,λb z=>.inl z,.inr (.inl rfl),.inr (.inr (.inl rfl)),.inr (.inr (.inr (.inl rfl))),λl hl=>.inr (.inr (.inr (.inr hl))),λb z=>?_⟩,⟨mU.cp,mU.pm⟩,eL,length_pos_of_mem Ey,?_,keep _ _ (s6 _ _ Fh.1) Fh.2,(L1.same s6).eh T6.kd λb o e nb=>(keep b o e nb).1⟩
   ·rcases List.mem_or_eq_of_mem_set hl with hl | rfl
    ·exact T6.lg l hl
    ·exact⟨(λz=>by rw[z,T6.hg]at A7;cases A7),(λz=>by rw[z,T6.hu]at A7;cases A7)⟩
   ·rcases z with z | rfl | rfl | rfl | z
    ·exact IM b z
    ·exact⟨_,u2.1,trivial⟩
    ·exact⟨_,g2.1,trivial⟩
    ·exact⟨_,r2.1,trivial⟩
    ·obtain⟨w,y⟩:=r2.2.2.ja z;exact⟨_,y.1,trivial⟩
   ·exact Tb (aD.same s6) λb o e _ nb=>keep b o e nb
  clear T1 mU eL To OW d1 L1 aD Fh Fi ZW hlen rz cG c1 T9 a9 Tj n1 L9 sC eC nC;rintro σ H1 ⟨G,S,F,ls,rfl,hT,hh,hp,h1,hA,⟨cJ,nl1⟩,hL⟩;have ok:=hT.sh.ok;have p1':=ok.p1;have dA:=ok.dA;have c1:=ok.c1;have cG:=ok.cG;have hlen:=hT.hr.len;rw[S.aL]at hlen;have rz:S.rows.length<=15:=by rw[S.aL];exact dA
  refine⟨_,rfl,l1,_,rfl,.inl (ag.of cJ),λla sf=>?_⟩;have s3:=ae.new (o:=.lst (us.map V.int)) sf;have e3:upd H1 la (.lst (us.map V.int)) la=some (.lst (us.map V.int)):=zc;generalize gN:upd H1 la _=H3 at s3 e3 ⊢;have OX:=s3 _ _ hT.hn;rw[hp]at OX;refine⟨_,rfl,l2,_,rfl,.inl (ag.of OX),λlb E6=>?_⟩;have s4:=ae.new (o:=.lst (ts.map V.str)) E6;have e4:upd H3 lb (.lst (ts.map V.str)) lb=some (.lst (ts.map V.str)):=zc;generalize uE:upd H3 lb _=H4 at s4 e4 ⊢;have k4:=s3.trans s4;intro y dy hy ZX ZY;have sy:=(ae.new (o:=.own y) ZX).ar (o:=.ins (zL K "Sheet") dy []) (l:=y) (by rw[zh (Ne.symm ZY)];exact hy);refine⟨y,dy,la,lb,us,ts,rfl,zc,ag.of (sy _ _ (s4 _ _ e3)),by omega,ag.of (sy _ _ e4),by omega,λz hz=>?_,λz=>?_,λ_ z=>?_,λ_ _ H5 F5 mM fB=>⟨rfl,?_⟩⟩
  ·have:=((M2.DG z).mp (OV z hz)).1;omega
  ·rw[Te]at z;cases z
  ·rw[Tf]at z;cases z
  have mO:∀b o,H1 b=some o->H5 b=some o/\¬F5 b:=λb o e=>fB b o (sy _ _ (k4 _ _ e)) (zj (k4 _ _ e) hy);have s5:ae H1 H5:=λb o e=>(mO b o e).1;have T5:=hT.same s5;have nG:∀b,G b->¬F5 b:=λb z=>by obtain⟨o,e,_⟩:=hT.kd b z;exact(mO b o e).2
  rw[<-hp]at mM;refine⟨_,rfl,_,rfl,_,rfl,_,rfl,_,rfl,a,ns,6,rfl,s5.seq hA.sq,by decide,_,rfl,a,ns,7,rfl,s5.seq hA.sq,by decide,y,l2,lg,lk,F5,S,us,ls,_,_,rfl,mM,⟨T5.hn,(mO _ _ hT.hn).2⟩,⟨T5.hg,(mO _ _ hT.hg).2⟩,⟨T5.hr.1,(mO _ _ hT.hr.1).2,hT.hr.2.2.imp λl c z=>mO _ _ z.1⟩,ok,hh,λH6 F6 T hY ZZ Tp Z0 d6=>?_⟩;have q6:∀b o,H1 b=some o->H6 b=some o:=λb o e=>(d6 b o (s5 b o e) (mO b o e).2).1;have T6:m5 K H6 G S l2 lu lg lk x F ls:=hT.same q6;have hY:=hY;have Z1:aZ (wQ K "by_place") dW H6:=hL.same q6;have Tq:ag K H6 a (ns.map V.int):=ae.seq q6 hA.sq;obtain⟨w1,w2,w3⟩:=uQ Tp Z0;clear s3 e3 OX s4 e4 k4 sy mO s5 T5 nG mM fB;refine⟨_,rfl,lk,rfl,⟨_,ag.of T6.hr.1⟩,?_⟩;refine wJ (ag.of T6.hr.1) (T6.hr.2.2.imp λ_ _ z=>ag.of z.1) (by omega) (λm d H' Q hm h=>?_) (λm H' Q h=>⟨_,rfl,h⟩) λks H8 s8 r8=>?_
  ·refine⟨_,rfl,(by show 0<=sizeLine;decide),λl6 fE=>?_⟩;have s9:=ae.new (o:=.lst []) fE;refine⟨m,l6,_,[],rfl,rfl,s9.seq hm,ag.new,zy _,rfl,_,rfl,?_⟩;rw[show dG (d.map V.int) []=decide (d=[])from yx _ []];exact h _ s9
  intro lj Fe;have s9:=s8.ar (o:=.lst (ks.map V.ref)) Fe;have e9:upd H8 lj (.lst (ks.map V.ref)) lj=some (.lst (ks.map V.ref)):=zc;have r9:=r8.imp λl c (z:IL K H8 l c)=>IL.stays K _ _ _ _ (ae.new (o:=.lst (ks.map V.ref)) Fe) z;rw[<-Sh.bj ok]at r9;generalize Im:upd H8 lj _=H9 at s9 e9 r9 ⊢;have T9:=T6.same s9;have OT:S.ai.length=S.handed.length:=Sh.aA S;have HU:S.handed.length<=S.af.length:=length_filter_le _ _;have di:∀d∈S.ai,d.length<=24:=λd hd=>by
   have:=(Sh.aJ ok d hd).length_eq;omega
  refine⟨_,rfl,a,ns,8,rfl,s9.seq Tq,by decide,_,rfl,l2,_,rfl,.inl (ag.of T9.hn),?_⟩;rw[length_map];refine⟨_,_,rfl,rfl,(by show(0:Int)<S.af.length;omega),?_⟩;dsimp only;have w0:=Int.emod_nonneg (ns.getD (8:Int).toNat 0) (b:=(S.af.length:Int)) (by omega);have w1':=Int.emod_lt_of_pos (ns.getD (8:Int).toNat 0) (b:=(S.af.length:Int)) (by omega);obtain⟨bf,OP,jy⟩:∃bf:Nat,ns.getD (8:Int).toNat 0%(S.af.length:Int)=(bf:Int)/\bf<S.af.length:=⟨(ns.getD (8:Int).toNat 0%(S.af.length:Int)).toNat,by omega,by omega⟩;rw[OP];refine⟨_,rfl,_,rfl,(by show 2<=sizeLine;decide),λlp Z2=>?_⟩;have sP:=ae.new (o:=.lst [V.ref x,.ref y]) Z2;have eP:upd H9 lp (.lst [V.ref x,.ref y]) lp=some (.lst [V.ref x,.ref y]):=zc;generalize hHP:upd H9 lp _=HP at sP eP ⊢;have TP:=T9.same sP;have Z3:=hY.same (s9.trans sP);refine⟨lp,rfl,⟨_,ag.of eP⟩,?_⟩;refine uX (xs:=[.ref x,.ref y]) (λi σ H'=>∃w:Option V,σ=[some (.ref a),some (.int md),some (.ref l1),some (.ref l2),some (.int rC),some (.ref x),some (.ref lu),some (.ref lg),some (.ref lk),some (.ref y),some (.ref lj),some (.int bf),w]/\aG HP H'/\aZ (wQ K "by_place") dW H') ⟨none,rfl,(ae.refl _).toN,(Z1.same s9).same sP⟩ ?_ ?_ ?_
  ·rintro i σ H2 hi ⟨w,rfl,s2,_⟩;exact ag.of (s2.lst eP)
  ·rintro i ev σ H2 IT ⟨w,rfl,s2,L2⟩;have IT:=mem_of_getElem? IT;have T2:=TP.bJ s2;obtain⟨z,Fz,Z,rfl,hZ,z1,z2,z3⟩:∃(z:Addr)(Fz:Addr->Prop)(Z:Sh),ev=.ref z/\ao K H2 z Fz Z/\Z.aa=S.aa/\Z.af=S.af/\(Z.ai=S.ai/\Z.handed=S.handed/\Z.rows=S.rows):=by
    simp only[mem_cons,not_mem_nil,or_false]at IT;rcases IT with h | h
    ·exact⟨x,F,S,h,T2.sh,rfl,rfl,rfl,rfl,rfl⟩
    ·obtain⟨F',_,g⟩:=Z3.bJ s2;exact⟨y,F',T,h,g,ZZ,Tp,w1,w2,w3⟩
   obtain⟨dx,b1,b2,b3,dd,bx⟩:=hZ.ins;refine⟨_,rfl,z,dx,_,rfl,bx,rfl,z,Fz,Z,rfl,hZ,λl3 H3 s3 f3 e3=>?_⟩;rw[z1]at e3;refine⟨_,rfl,l3,lu,_,_,rfl,ag.of e3,ag.of (s3 _ _ T2.hu),by omega,?_⟩;rw[decide_eq_true rfl];refine⟨_,rfl,yY ?_⟩;refine⟨_,rfl,z,dx,_,rfl,s3 _ _ bx,rfl,z,Fz,Z,rfl,hZ.same s3,λl4 H4 kz s4 f4 e4 r4=>?_⟩;rw[z3.1]at r4;have rj:All2 (IL K H4) ks S.ai:=r9.bJ (((sP.toN).trans s2).trans (s3.trans s4).toN);refine⟨_,rfl,l4,lj,S.ai,rfl,⟨kz,ag.of e4,r4.imp λ_ _ z=>ag.of z.2⟩,⟨ks,ag.of ((s3.trans s4) _ _ (s2.lst (sP _ _ e9))),rj⟩,by omega,λd hd=>(by have:=di d hd;omega),⟨_,rfl,yY ?_⟩⟩;have T4:=T2.same (s3.trans s4);have t4:aG HP H4:=s2.trans (s3.trans s4).toN;have Tr:=T4.hn;have Ts:=T4.hu;have Tt:=T4.hr.2.2;rw[<-z2]at Tr;rw[<-z1]at Ts;rw[<-z3.2.2]at Tt;exact⟨_,rfl,_,rfl,_,rfl,_,rfl,_,rfl,_,rfl,a,ns,9,rfl,(s3.trans s4).seq (s2.seq ((s9.trans sP).seq Tq)),by decide,z,l2,lu,lk,Fz,Z,ls,bf,_,rfl,(hZ.same s3).same s4,Tr,Ts,T4.hr.1,Tt.imp λ_ _ z=>z.1,by rw[z2];exact jy,by rw[z3.2.1];exact h1,(L2.same s3).same s4,λH7 s7 L7=>⟨_,rfl,yY ⟨_,rfl,t4.trans s7,L7⟩⟩⟩
  ·rintro σ H2 ⟨w,rfl,_⟩;exact q _
variable {l:PySem.W.OpenLaw}
theorem all_mk{w:World}{K:Frag}{h:Heap}{mg:Str->Option Value}{fa OY OZ az:Addr}(X:K.In h)(G:h.Ns mainGlobals mg)(Z4:mg "law"=some (.ref fa))
 {O0 O1 O2 O3 A8 O4 O5 Fj Fm Fn A9 Fo:Value} {O6 O7 O8 Fp:Option Addr} {O9 Pa:Array (Option Value)}
 (oa_Sheet:nsIn K mainGlobals "Sheet"=some (some (.ref az)))
 (a0:DM K az "refuse_if_sealed" "Sheet.refuse_if_sealed" yX ["self"])
 (a1:DM K az "refuse_unknown_judge" "Sheet.refuse_unknown_judge" yC zJ)
 (a2:DM K az "couples" "Sheet.couples" Lw zA)
 (a3:DM K az "handed" "Sheet.handed" Gs yd)
 (a4:DF K "whole_card" Lx Gu)
 (a5:DF K "mark_on" Ly Gv)
 (a6:DF K "without_couple" wI wv)
 (a7:DF K "one_up" Lz Gw)
 (a8:DF K "majority_of" LB ["many"])
 (a9:DF K "granting" Gx Eb)
 (a10:DF K "good_number" LC ["couple"])
 (a11:DF K "small_letter" LD ["sign"])
 (a12:DF K "good_length" LF y7)
 (a13:DF K "all_unlike" LG ["things"])
 (a14:DF K "_law_whole" LH wk)
 (a15:DF K "_law_at" LJ Gy)
 (a16:DF K "_law_texts" LL Gz)
 (a17:DF K "_law_mix" LM Ec)
 (a18:DF K "_law_many" LN GA)
 (a19:DF K "_law_couples" GB GC)
 (a20:DF K "_law_judges" GD GF)
 (a21:DF K "_law_marks" GG wH)
 (a22:DF K "_law_key" GH GI)
 (a23:DF K "_law_rows" LO Ed)
 (a24:DF K "_law_part" Ee GL)
 (a25:DF K "_law_good" LR GO)
 (a26:DF K "_law_spoiled" LS GP)
 (a27:DF K "_law_without" GR GS)
 (a28:DF K "_law_words" GU GV)
 (a29:DF K "_law_ladder" GW GX)
 (a30:DF K "_law_moved" GZ G3)
 (a31:DF K "_law_filled" LV G4)
 (a32:DM K az "hand_in" "Sheet.hand_in" LW yn)
 (a33:DM K az "strike" "Sheet.strike" LX wq)
 (a34:DM K az "card_of" "Sheet.card_of" LY yo)
 (a35:DF K "marks_of" G5 BG)
 (a36:DF K "granted" LZ AI)
 (a37:DF K "granted_sum" L4 wd)
 (a38:DF K "first_number" L5 ["marks"])
 (a39:DF K "refuse_fewer_cards" wA zB)
 (a40:DF K "good_couples" G6 ["couples"])
 (a41:DF K "good_name" G7 ["judge"])
 (a42:DF K "_law_same" L8 wB)
 (a43:DF K "_law_pairs" Ma G8)
 (a44:DF K "_law_fours" Mb G9)
 (a45:DF K "_law_card" Me Ha)
 (a46:DF K "_law_spots" Ef wG)
 (a47:DF K "_law_parts" Mg Hb)
 (a48:DF K "_law_line" Mh Hc)
 (a49:DM K az "cards" "Sheet.cards" Hd yh)
 (a50:DF K "_law_second" He Hf)
 (a51:DF K "ladder_of" Hg Hh)
 (a52:DF K "unlike_at" Mi Eg)
 (a53:DF K "cards_without" Hi wa)
 (a54:DF K "good_judges" Hj ["judges"])
 (a55:DF K "_law_lists" Mj Hk)
 (a56:DF K "_law_dealt" Ml Hl)
 (a57:DF K "_law_firsts" Hm wS)
 (a58:DF K "_law_refused" Mm Hn)
 (a59:DM K az "__init__" "Sheet.__init__" Mn Ho)
 (a60:DF K "is_ahead" Mo Hq)
 (a61:DF K "parting_of" Mp Hr)
 (a62:DF K "row_text" Eh Ei)
 (a63:DF K "_law_deciding" wF Hs)
 (a64:DF K "place_among" Ht Hu)
 (a65:DF K "places_of" Ek yW)
 (a66:DF K "places" Mt AJ)
 (a67:DF K "left_out" Mu Hv)
 (a68:DF K "step_up" Hw Hx)
 (a69:DF K "firsts_of" Hy Em)
 (a70:DF K "firsts" Mv ["sheet"])
 (a71:DF K "table_row" Mw Hz)
 (a72:DF K "deciders" HA ["sheet"])
 (a73:nsIn K mainGlobals "by_place"=some (some (.ref OZ))) (l73:K.lookup OZ=some ⟨O0,O6,.func (fnOf "by_place" "by_place" (oB BH) (wu BH) (zf BH) .none O1 O2 O3 O7 A8 O4),O9⟩) (c73:codeIn K A8 "by_place"=true) (k73:keepIn K (.ref OZ)=true)
 {lc lP:Addr} {lo:Value} {ld:Option Addr} {ls:Array (Option Value)} {Tu:Array Value} (qe:A8=.ref lc) (qk:K.lookup lc=some ⟨lo,ld,.fields Tu,ls⟩) (qv:Tu[11]? = some (.ref lP)) (qh:PySem.W.codeHdIn K lc lP=true) (qn:K.lookup lP=none)
 (a74:DF K "ranking_of" Mx wW)
 (a75:DF K "partings_of" HB HF)
 (a76:DF K "ranking" My ["sheet"])
 (a77:DF K "partings" Mz ["sheet"])
 (a78:DF K "table" HG ["sheet"])
 (a79:DF K "_law_told" BI En)
 (a80:DF K "_law_played" Eo HI)
 (a81:nsIn K mainGlobals "law"=some (some (.ref OY))) (l81:K.lookup OY=some ⟨O5,O8,.func (fnOf "law" "law" (oB m8) (wu m8) (zf m8) .none Fj Fm Fn Fp A9 Fo),Pa⟩) (c81:codeIn K A9 "law"=true) (k81:keepIn K (.ref OY)=true)
 (z0:nsIn K mainGlobals "all"=some none)
 (z1:nsIn K mainGlobals "bool"=some none)
 (z2:nsIn K mainGlobals "int"=some none)
 (z3:nsIn K mainGlobals "isinstance"=some none)
 (z4:nsIn K mainGlobals "len"=some none)
 (z5:nsIn K mainGlobals "list"=some none)
 (z6:nsIn K mainGlobals "max"=some none)
 (z7:nsIn K mainGlobals "min"=some none)
 (z8:nsIn K mainGlobals "range"=some none)
 (z9:nsIn K mainGlobals "set"=some none)
 (z10:nsIn K mainGlobals "sorted"=some none)
 (z11:nsIn K mainGlobals "str"=some none)
 (z12:nsIn K mainGlobals "sum"=some none)
 (z13:nsIn K mainGlobals "tuple"=some none)
 (z14:nsIn K mainGlobals "zip"=some none)
 {t0:Tok} (y0:nsIn K mainGlobals "MOST_COUPLES"=some (some (.int 24 t0)))
 {t1:Tok} (y1:nsIn K mainGlobals "MOST_JUDGES"=some (some (.int 15 t1)))
 {t2:Tok} (y2:nsIn K mainGlobals "MOST_NUMBER"=some (some (.int 999 t2)))
 {t3:Tok} (y3:nsIn K mainGlobals "MOST_SIGNS"=some (some (.int 8 t3)))
 {t4:Tok} (y4:nsIn K mainGlobals "MOST_CARDS"=some (some (.int 200 t4)))
 {IU:Addr} (xa0:nsIn K mainGlobals "PanelError"=some (some (.ref IU)))
 {Pb:Addr} (xa1:nsIn K mainGlobals "BadCouples"=some (some (.ref Pb)))
 {Pc:Addr} (xa2:nsIn K mainGlobals "BadJudges"=some (some (.ref Pc)))
 {Pd:Addr} (xa3:nsIn K mainGlobals "SheetSealed"=some (some (.ref Pd)))
 {Pe:Addr} (xa4:nsIn K mainGlobals "UnknownJudge"=some (some (.ref Pe)))
 {Ba:Addr} (xa5:nsIn K mainGlobals "BadCard"=some (some (.ref Ba)))
 {Pf:Addr} (xa6:nsIn K mainGlobals "TooManyCards"=some (some (.ref Pf)))
 {Pg:Addr} (xa7:nsIn K mainGlobals "UnknownCouple"=some (some (.ref Pg)))
 {Ph:Addr} (xa8:nsIn K mainGlobals "LastCouple"=some (some (.ref Ph)))
 {Pj:Addr} (xa9:nsIn K mainGlobals "NoCard"=some (some (.ref Pj)))
 {Bb:Addr} (xa11:nsIn K mainGlobals "AtTop"=some (some (.ref Bb)))
 (xe0:excIn K IU kW "ValueError.__new__"=true)
 (xe1:excIn K Pb kW "ValueError.__new__"=true)
 (xe2:excIn K Pc kW "ValueError.__new__"=true)
 (xe3:excIn K Pd kW "ValueError.__new__"=true)
 (xe4:excIn K Pe kW "ValueError.__new__"=true)
 (xe5:excIn K Ba kW "ValueError.__new__"=true)
 (xi5:L2.Du K Ba=true)
 (xs5_0:L2.tG K Ba IU=true)
 (xk5_5:kitOne K (.ref Ba) (.ref Ba)=some true)
 (xe6:excIn K Pf kW "ValueError.__new__"=true)
 (xe7:excIn K Pg kW "ValueError.__new__"=true)
 (xe8:excIn K Ph kW "ValueError.__new__"=true)
 (xe9:excIn K Pj kW "ValueError.__new__"=true)
 (xe11:excIn K Bb kW "ValueError.__new__"=true)
 (opg_Sheet:plainGet K az Str.empty=true)
 (ohd_Sheet:hasDictIn K az=true)
 (opo_Sheet:plainOver K az=true)
 (osa_Sheet:PySem.W.findIn K (.ref az) "__setattr__"=some (some (.builtin "object.__setattr__")))
 (omk_Sheet:makesIn K az=true)
 (okc_Sheet:keepIn K (.ref az)=true)
 (on_Sheet_standing:PySem.W.findIn K (.ref az) "standing"=some none)
 (on_Sheet_struck_so_far:PySem.W.findIn K (.ref az) "struck_so_far"=some none)
 (on_Sheet_panel:PySem.W.findIn K (.ref az) "panel"=some none)
 (on_Sheet_card_by_judge:PySem.W.findIn K (.ref az) "card_by_judge"=some none)
 (on_Sheet_taken_so_far:PySem.W.findIn K (.ref az) "taken_so_far"=some none)
 (on_Sheet_sealed:PySem.W.findIn K (.ref az) "sealed"=some none)
 : tU K "by_place"/\∃fd:FuncData,(∀(s:Shared)(v:Value),BindsTo s fd ⟨[v],[]⟩ [("_law_script",v)])/\∀base:Heap,K.In base->base.Ns mainGlobals mg->tT mg base->av l.prog w K mg base aQ 17 fa fd ["_law_script"] (Fg K):=by
 obtain⟨Z5,LK⟩:=Ar a73 l73 qe qk qv qh qn;have e:=Z4.symm.trans (mg_of X G a81);cases e;have aM:=tQ oa_Sheet;have T:Txt K mg:=⟨mg_none_of X G z0,mg_none_of X G z1,mg_none_of X G z2,mg_none_of X G z3,mg_none_of X G z4,mg_none_of X G z5,mg_none_of X G z6,mg_none_of X G z7,mg_none_of X G z8,mg_none_of X G z9,mg_none_of X G z10,mg_none_of X G z11,mg_none_of X G z12,mg_none_of X G z13,mg_none_of X G z14,⟨_,mg_of X G y0⟩,⟨_,mg_of X G y1⟩,⟨_,mg_of X G y2⟩,⟨_,mg_of X G y3⟩,⟨_,mg_of X G y4⟩,⟨IU,xa0,mg_of X G xa0,xe0⟩,⟨Pb,xa1,mg_of X G xa1,xe1⟩,⟨Pc,xa2,mg_of X G xa2,xe2⟩,⟨Pd,xa3,mg_of X G xa3,xe3⟩,⟨Pe,xa4,mg_of X G xa4,xe4⟩,⟨Ba,xa5,mg_of X G xa5,xe5⟩,λC hC=>by cases bg.inj hC xa5;exact xi5,λC D hC hD=>by cases bg.inj hC xa5;cases bg.inj hD xa0;exact xs5_0,λC D hC hD=>by cases bg.inj hC xa5;cases bg.inj hD xa5;exact xk5_5,⟨Pf,xa6,mg_of X G xa6,xe6⟩,⟨Pg,xa7,mg_of X G xa7,xe7⟩,⟨Ph,xa8,mg_of X G xa8,xe8⟩,⟨Pj,xa9,mg_of X G xa9,xe9⟩,⟨Bb,xa11,mg_of X G xa11,xe11⟩,aM ▸ ⟨opg_Sheet,ohd_Sheet,opo_Sheet,osa_Sheet⟩,aM ▸ on_Sheet_standing,aM ▸ on_Sheet_struck_so_far,aM ▸ on_Sheet_panel,aM ▸ on_Sheet_card_by_judge,aM ▸ on_Sheet_taken_so_far,aM ▸ on_Sheet_sealed⟩;have Pk:=Bo (st:=BH) l73 c73 k73;have Z6:=Pk.binds (ps:=["places","couples"]) λ_ _ _ _ _ _=>onS λ_=>onS λ_=>on0 rfl;have Tv:=Bo (st:=m8) l81 c81 k81;have b81:=Tv.binds (ps:=["_law_script"]) λ_ _ _ _ _ _=>onS λ_=>on0 rfl;refine⟨LK,fnOf "law" "law" (oB m8) (wu m8) (zf m8) .none Fj Fm Fn Fp A9 Fo,λs v=>.of_eq rfl,λbase _ _ B=>?_⟩;have C0:=DK l.prog w base aM a0 λF=>WG F T;have C1:=DK l.prog w base aM a1 λF=>WH F T;have C2:=Au l.prog w base aM a2 λF=>WI F T;have C3:=Au l.prog w base aM a3 λF=>WJ F T;have C4:=zU l.prog w base X G a4 λF=>WL F T;have C5:=zU l.prog w base X G a5 λF=>jm F T;have C6:=zU l.prog w base X G a6 λF=>WN F T;have C7:=DJ l.prog w base X G a7 λF=>mx F T;have C8:=zU l.prog w base X G a8 λF=>WQ F T;have C9:=zU l.prog w base X G a9 λF=>WR F T;have Z7:=zU l.prog w base X G a10 λF=>WS F T;have Z8:=zU l.prog w base X G a11 λF=>WT F T;have Pl:=zU l.prog w base X G a12 λF=>WU F T;have Tw:=zU l.prog w base X G a13 λF=>WV F T;have IV:=zU l.prog w base X G a14 λF=>WW F T;have Z9:=zU l.prog w base X G a15 λF=>mz F T;have C16:=zU l.prog w base X G a16 λF=>WX F T;have Tx:=zU l.prog w base X G a17 λF=>jn F T;have C18:=zU l.prog w base X G a18 λF=>WY F T;have C19:=zU l.prog w base X G a19 λF=>WZ F T;have C20:=zU l.prog w base X G a20 λF=>W0 F T;have Pm:=zU l.prog w base X G a21 λF=>W2 F T;have C22:=zU l.prog w base X G a22 λF=>jo F T;have Tz:=zU l.prog w base X G a23 λF=>W5 F T;have C24:=zU l.prog w base X G a24 λF=>W6 F T;have C25:=zU l.prog w base X G a25 λF=>W8 F T;have C26:=zU l.prog w base X G a26 λF=>W9 F T;have C27:=zU l.prog w base X G a27 λF=>Xa F T;have C28:=zU l.prog w base X G a28 λF=>Xb F T;have C29:=zU l.prog w base X G a29 λF=>Xd F T;have C30:=zU l.prog w base X G a30 λF=>Xe F T;have C31:=zU l.prog w base X G a31 λF=>Xg F T;have IW:=DK l.prog w base aM a32 λF=>Xi F T C4 C0 C1;have TB:=DK l.prog w base aM a33 λF=>Xk F T C6 C3 C0;have IX:=DK l.prog w base aM a34 λF=>Xn F T C1;have Pn:=zU l.prog w base X G a35 λF=>Xo F T C5;have IY:=zU l.prog w base X G a36 λF=>Xq F T C9;have Po:=zU l.prog w base X G a37 λF=>Xr F T C9;have Pq:=zU l.prog w base X G a38 λF=>Xs F T C8;have B6:=zU l.prog w base X G a39 λF=>Xu F T C3;have C40:=zU l.prog w base X G a40 λF=>Xv F T Z7 Pl Tw;have C41:=zU l.prog w base X G a41 λF=>Xx F T Z8 Pl;have IZ:=zU l.prog w base X G a42 λF=>Xz F T IV;have C43:=zU l.prog w base X G a43 λF=>XA F T IV;have C44:=zU l.prog w base X G a44 λF=>XB F T IV;have C45:=zU l.prog w base X G a45 λF=>XC F T Tx;have Pr:=zU l.prog w base X G a46 λF=>XG F T Pm C22;have C47:=zU l.prog w base X G a47 λF=>XI F T Pm Tz C24;have C48:=zU l.prog w base X G a48 λF=>XQ F T Pm C28 C29;have B7:=Au l.prog w base aM a49 λF=>XX F T C3 IX;have C50:=zU l.prog w base X G a50 λF=>X0 F T C31 IW TB;have C51:=zU l.prog w base X G a51 λF=>Ya F T IY Po;have TC:=zU l.prog w base X G a52 λF=>Yb F T IY Po Pq;have TF:=zU l.prog w base X G a53 λF=>Yd F T C3 IX;have C54:=zU l.prog w base X G a54 λF=>Ye F T C41 Pl Tw;have C55:=zU l.prog w base X G a55 λF=>Yg F T IZ;have C56:=zU l.prog w base X G a56 λF=>Yh F T Tx C45;have TH:=zU l.prog w base X G a57 λF=>Yi F T Pr;have C58:=zU l.prog w base X G a58 λF=>Yj F T IW;have C59:=K7 l.prog w base aM X G oa_Sheet omk_Sheet okc_Sheet a59 λF=>Yk F T C40 C54;have C60:=zU l.prog w base X G a60 λF=>Yr F T IY Po Pq TC;have C61:=zU l.prog w base X G a61 λF=>Ys F T IY Pq TC;have TK:=zU l.prog w base X G a62 λF=>Yt F T Pn C51 C2 B7;have C63:=zU l.prog w base X G a63 λF=>Yy F T TH;have C64:=zU l.prog w base X G a64 λF=>YD F T C60;have Fq:=zU l.prog w base X G a65 λF=>YF F T Pn C64;have Ja:=zU l.prog w base X G a66 λF=>mI F T Fq B6 C2 B7;have C67:=zU l.prog w base X G a67 λF=>YH F T Fq B6 TF C2 IX;have C68:=zU l.prog w base X G a68 λF=>jv F T C7 Fq C2 C3 IX;have TL:=zU l.prog w base X G a69 λF=>YK F T Fq;have TM:=zU l.prog w base X G a70 λF=>mJ F T B6 TL C2 B7;have C71:=zU l.prog w base X G a71 λF=>YL F T Ja TK C2;have C72:=zU l.prog w base X G a72 λF=>YM F T TM B6 TL TF C2 C3;have C73:aB l.prog w K mg base 11 "by_place" ["places","couples"] (Iw K):=aB.of Pk (YN Pk T Z5 B Ja) (mg_of X G a73) Z6;have TN:=zU l.prog w base X G a74 λF=>YO F T Fq C73;have C75:=zU l.prog w base X G a75 λF=>YR F T Pn TN C61;have TQ:=zU l.prog w base X G a76 λF=>jw F T TN B6 C2 B7;have C77:=zU l.prog w base X G a77 λF=>YT F T C75 B6 C2 B7;have C78:=zU l.prog w base X G a78 λF=>rn F T TQ TK;have TR:=zU l.prog w base X G a79 λF=>YV F T Ja TQ TM C77 C67 C72 C68 C71 C78 IV IZ C16 C43 C44 Pr Tz C47 C48 TH C63 C30;have C80:=zU l.prog w base X G a80 λF=>Zt F T Ja IZ C56 Pr C25 C26 C27 TR C58 IW TB;exact A6 Tv T Z9 IZ C55 C18 C19 C20 TR C80 C50 C59 IW C2 B7
theorem walk{q:Program}{loose:List Str}{XP:(Str->Option Value)->Heap->Prop}{YP:World->Heap->Prop}{d:DefRec}{K:Params->Frag}(hn:l.most=some 63)(CK:d.params.defaults=[])
 (hY:∀(w:World)(h:Heap),YP w h->(K w.params).In h)
 (iX:∃dd,(PyProof.Rows.recsOf q).find? (λe=>e.name==("by_place":Str))=some dd)
 (F:∀(w:World)(mg:Str->Option Value)(fa:Addr)(h:Heap),(K w.params).In h->h.Ns mainGlobals mg->mg d.name=some (.ref fa) ->
   tU (K w.params) "by_place"/\∃fd:FuncData,(∀(s:Shared)(u:Value),BindsTo s fd ⟨[u],[]⟩ [("_law_script",u)])/\∀base:Heap,(K w.params).In base->base.Ns mainGlobals mg->tT mg base->av l.prog w (K w.params) mg base aQ 17 fa fd ["_law_script"] (Fg (K w.params))) :
 PySem.W.WalkO q loose XP YP l.row.toRowW d [] (λf vs=>PySem.call f vs) :=
 L2.pW (n:=63) (k:=17) (x:= "_law_script") (y:= "by_place") (CX:=λ_=>aQ) (sp:=λw=>Fg (K w.params)) hn (by decide) CK ⟨rfl,by decide,by decide⟩ iX hY F (λ_ _ a ns hl hT hS=>⟨a,ns,rfl,hS,hl,hT,λ_=>rfl⟩) λ_ _ _ _ _ z=>z
end
end Pp
namespace PySem.W.Fast
def tw14776768459139880861:=0
def tw14688904736564946250:=0
def tw17666480051748081684:=0
def tw1120102355532682552:=0
def tw7771023791351744649:=0
def tw4355567624644984463:=0
def tw16843225984702715494:=0
def tw14126918054695630822:=0
def tw16439195241347091390:=0
def tw1803672563984484886:=0
def tw11692034607387011348:=0
def tw6688981841937610471:=0
def tw7402088620865746836:=0
def tw11175616780945199231:=0
def tw251295966360331928:=0
def tw7175859710044914561:=0
def tw5089117536597815290:=0
def tw16723327964762927626:=0
def tw10758645611602177493:=0
def tw11640585753226122286:=0
def tw14157785349432533096:=0
def tw10789385094560131520:=0
def tw13813378425554844310:=0
def tw14453962486019390608:=0
def tw10610842943921501806:=0
def tw3202549181086639553:=0
def tw79327909388802149:=0
def tw12622786394832622396:=0
def tw15804665192893363068:=0
def tw12378887299952826508:=0
def tw224983769047930499:=0
def tw17417936209153562620:=0
def tw7798801297166533598:=0
def tw17436306887571478955:=0
def tw17326516939369885572:=0
def tw17008672250951187471:=0
def tw7514775805476599327:=0
def tw99302554388093146:=0
def tw7158632173566605142:=0
def tw15081729380901089214:=0
def tw7896884562906764115:=0
def tw10862789579282280427:=0
def tw14605053755978920801:=0
def tw15144491702825903204:=0
def tw15946883531228939833:=0
def tw16725920198330145355:=0
def tw18047586529919505548:=0
def tw2843933124706773128:=0
def tw4059428505731285460:=0
def tw14156827338618034957:=0
def tw18017750455503450250:=0
def tw49731051397260427:=0
def tw12808981828836677456:=0
def tw1906227709037551064:=0
def tw1464261378371776042:=0
def tw3329668021448511647:=0
def tw6942713136891779385:=0
def tw12270805334482880447:=0
def tw15073891307521978032:=0
def tw1682081866392351274:=0
def tw5940702522849717391:=0
def tw4934361522013145845:=0
def tw8981032427055266552:=0
def tw14585975091329007847:=0
def tw14755157637827941065:=0
def tw10756653669054791445:=0
def tw16036839373697075798:=0
def tw10930995671168589185:=0
def tw8118273208631527904:=0
def tw3724501572390113490:=0
def tw2358835730992303249:=0
def tw11135469026562513635:=0
def tw10847780266665465322:=0
def tw18007280360909235802:=0
def tw13586260472974478104:=0
def tw15183299105397657152:=0
def tw18072621860357694673:=0
def tw19207789140676831:=0
def tw14044256531974924109:=0
def tw10822110992739009444:=0
def tw909360824703414701:=0
def tw5348732285865276681:=0
def tw6357878094321474456:=0
def tw17098421371321575644:=0
def tw2045159570800537877:=0
def tw11624104421042208758:=0
def tw5613144916641019060:=0
def tw6274862882445873347:=0
def tw1389803406798746649:=0
def tw3525089210824157261:=0
def tw16577937203358512904:=0
def tw11095630660591762057:=0
def tw6378815563749423622:=0
def tw14632514658345234305:=0
def tw12201934698957844187:=0
def tw14655487211563718574:=0
def tw12479762876153191426:=0
def tw6817503429338392575:=0
def tw9821762076772481907:=0
def tw17056638704572105882:=0
def tw6579426200533032698:=0
def tw17269046047408741202:=0
def tw4875729583282471626:=0
def tw575780110213339006:=0
def tw720683493097715345:=0
def tw18414518201142306301:=0
def tw18376574597153004357:=0
def tw2838419324016227956:=0
def tw14179918750858134889:=0
def tw12173411911895307331:=0
def tw7673714287592302589:=0
def tw15100791842043468223:=0
def tw17714126088705441448:=0
def tw9378516735239815622:=0
def tw4732562613416535545:=0
def tw12151949651874268719:=0
def tw7134252404266139336:=0
def tw9968671855595993805:=0
def tw2549906673227090644:=0
def tw7889534626320956841:=0
def tw15517596643350376341:=0
def tw18392916444676273194:=0
def tw9436097876377068024:=0
def tw14584962228481824172:=0
def tw1208474792136606184:=0
def tw10585793152437613457:=0
def tw17913172697782054302:=0
def tw4931692131425472657:=0
def tw12474363554957243880:=0
def tw17510541720653092978:=0
def tw7439098389563892828:=0
def tw12346254916410536130:=0
def tw8132751283843723425:=0
def tw5447976683338724583:=0
def tw11585034753202821070:=0
def tw12702828988227785000:=0
def tw5433675531960313048:=0
def tw17595319246387470282:=0
def tw5722348567742599244:=0
def tw6615405147172829517:=0
def tw12534512905965685854:=0
def tw10812022428849409173:=0
def tw7086627894559901341:=0
def tw2792306488476883913:=0
def tw9749584372240294908:=0
def tw6447646144779226000:=0
def tw15995999365654114010:=0
def tw1580345324415582056:=0
def tw2060488291590082015:=0
def tw26635846173813161:=0
def tw8656572984469690034:=0
def tw8141854135709263563:=0
def tw16478475329941782558:=0
def tw15455708252725809430:=0
def tw13775790678441350762:=0
def tw8627395686590735195:=0
def tw12736243563049768879:=0
def tw7152956891847224342:=0
def tw3476940634073098606:=0
def tw10233645243092062263:=0
def tw3451530535490729968:=0
def tw4591815653101650210:=0
def tw12749630324883394533:=0
def tw12290634544559546088:=0
def tw5153626741686468586:=0
def tw10263384557853494873:=0
def tw12390276419733632049:=0
def tw4604412030159219337:=0
def tw8874047602169866535:=0
def tw10742408828064336045:=0
def tw2171886786252197886:=0
def tw9113333169260345894:=0
def tw8855558487262972104:=0
def tw17309688228178067543:=0
def tw3601513925276086461:=0
def tw3067442989310302069:=0
def tw1709932891218238487:=0
def tw1906096759213696895:=0
def tw17349186668784490834:=0
def tw1668771736583323429:=0
def tw11004170663227103907:=0
def tw16462606680398525374:=0
def tw4033326487939334832:=0
def tw8847218215716148598:=0
def tw13547834778336142614:=0
def tw564350471700557708:=0
def tw99274895523590015:=0
def tw10218078102362293211:=0
def tw6553034340665941402:=0
def tw16415778848002236518:=0
def tw9411916373172226253:=0
def tw10975857112903170285:=0
def tw11891103339142647483:=0
def tw15741887585660101541:=0
def tw15825212808642422377:=0
def tw17494593505062480705:=0
def tw16824979526896984971:=0
def tw10170843047668708972:=0
def tw10734441227646954881:=0
def tw15476986488569633776:=0
def tw3444302056876318963:=0
def tw16271058951556880746:=0
def tw6625007596037545697:=0
def tw1658003037158386146:=0
def tw1466557687884147917:=0
def tw16760495442062876350:=0
def tw4934602636505670185:=0
def tw7855259536326680685:=0
def tw5727917956517385711:=0
def tw1631204451336051563:=0
def tw17787968079210475982:=0
def tw1494576451382207376:=0
def tw7982897587439057384:=0
def tw5590497178564678590:=0
def tw3357416281779753228:=0
def tw5025827038357042547:=0
def tw17586752445443859549:=0
def tw13506602897472602936:=0
def tw2218205793316946907:=0
def tw6105160292674982211:=0
def tw1100581400711739078:=0
def tw12705310828369132626:=0
def tw13271863065392337971:=0
def tw12240235426439008839:=0
def tw5883726452659133800:=0
def tw12312143225499982943:=0
def tw6991034252798117194:=0
def tw5061061405369154648:=0
def tw16580566575950518409:=0
def tw13843328924249020143:=0
def tw8225968928419512698:=0
def tw18411859592122780291:=0
def tw1835308728157035571:=0
def tw10690482102977751160:=0
def tw4623457630085236287:=0
def tw703423169707059279:=0
def tw1173076471380050406:=0
def tw8233952998145346384:=0
def tw280482230352149135:=0
def tw1974712170417739434:=0
def tw9025885914412677167:=0
def tw8882858696035263658:=0
def tw4897730675996033001:=0
def tw10702107964149488215:=0
def tw15191959423632349240:=0
def tw13885820910462980890:=0
def tw3088904716907130953:=0
def tw17869289948362247516:=0
def tw8934373210492470534:=0
def tw6616581085100451715:=0
def tw7335956495823621759:=0
def tw3629336493210207593:=0
def tw16751494555115572083:=0
def tw3019900131336973215:=0
def tw9676517257453567970:=0
def tw10044918171921236996:=0
def tw10744154665333758320:=0
def tw5022429078039915473:=0
def tw16907351966910165489:=0
def tw11406624571753679600:=0
def tw13917288720604886894:=0
def tw1929178896158683313:=0
def tw14569312525203213139:=0
def tw945514588477753074:=0
def tw7436999401312527985:=0
def tw10916364049113068567:=0
def tw11622769975685814131:=0
def tw15573287858727984233:=0
def tw11538041280978950087:=0
def tw7852460203613638881:=0
def tw17395114145382140956:=0
def tw14340788215971128539:=0
def tw16178722918333770116:=0
def tw1860936867601732297:=0
def tw10865374804553602667:=0
def tw4210818122819124118:=0
def tw16876664502099928604:=0
def tw3244190344333810738:=0
def tw11408898488423629825:=0
def tw17233254185435918440:=0
def tw2539755610773625924:=0
def tw6363203250270379651:=0
def tw14412613730011703119:=0
def tw17735005979995505153:=0
def tw17924826900879862694:=0
def tw13006229923426770660:=0
def tw5964888420843297055:=0
def tw5620810717782897054:=0
def tw15429960306386663230:=0
def tw5576796963963991816:=0
def tw6962677110485601982:=0
def tw2893089812274127762:=0
def tw15086239218703131989:=0
def tw13990593034108935614:=0
def tw5204366874912724647:=0
def tw9843333374961091877:=0
def tw10523208573924402885:=0
def tw14584620504635743359:=0
def tw10652488298332814768:=0
def tw12955649899405473703:=0
def tw8525203054312328157:=0
def tw3855499512191990527:=0
def tw8253169426742552390:=0
def tw1470924399216544277:=0
def tw10865300560200215051:=0
def tw2093187630499562932:=0
def tw9683929757607413655:=0
def tw548534170393501422:=0
def tw17999152080446600233:=0
def tw10713788706427648170:=0
def tw14163898482603766380:=0
def tw2334617506658074368:=0
def tw9984943365168088858:=0
def tw2083377962354090778:=0
def tw15373766714945852003:=0
def tw11394575263485402609:=0
def tw17535181488033670683:=0
def tw6741767650249434388:=0
def tw15092688905899782030:=0
def tw12010487424082504964:=0
def tw11027682383475768689:=0
def tw4727908940248361357:=0
def tw2107735681760764026:=0
def tw10230271367952148219:=0
def tw14280193530340142820:=0
def tw1015143572130112444:=0
def tw15871597424850216426:=0
def tw12813848277483009637:=0
def tw11524247841951097:=0
def tw8465691441310271442:=0
def tw14711317280055418315:=0
def tw9522908883899520106:=0
def tw15392851295958898847:=0
def tw9731853775755279387:=0
def tw11134706756427792253:=0
def tw18301386380132782736:=0
def tw12425082808492535710:=0
def tw13808282318157853672:=0
def tw14336494692808450826:=0
def tw14839809665945697398:=0
def tw10261055924782215805:=0
def tw13347992978371147775:=0
def tw1113074107323052708:=0
def tw7014163765213825134:=0
def tw1152009034164971558:=0
def tw8275121017566277285:=0
def tw16175545775289152589:=0
def tw18119951868801525743:=0
def tw10776511439437232111:=0
def tw7156031728687328533:=0
def tw8286035860940472496:=0
def tw11093772396367136238:=0
def tw13176898987975758982:=0
def tw10992278601183476226:=0
def tw7943104028049181879:=0
def tw16789080350400225427:=0
def tw11817216418596808853:=0
def tw17145982599221085935:=0
def tw11274973385568824920:=0
def tw12217722135963098678:=0
def tw13072789857445149844:=0
def tw7021120622047569729:=0
def tw10826550978620309812:=0
def tw7600800699635129096:=0
def tw4904477914094193062:=0
def tw14499829506704143862:=0
def tw1633131535848708527:=0
def tw17764135909179844063:=0
def tw9330202138985883674:=0
def tw15531722652532223064:=0
def tw15121079005124135823:=0
def tw2320485954659614576:=0
def tw2823053326168869563:=0
def tw9516438352689629650:=0
def tw2506681746023803722:=0
def tw2553527546485232107:=0
def tw10201983008863678924:=0
def tw9680474033735288556:=0
def tw2326281878433667775:=0
def tw14695094809628376964:=0
def tw17501122933728516528:=0
def tw1444948994101722460:=0
def tw4084428242110547638:=0
def tw7510213083300574212:=0
def tw819025965481417291:=0
def tw5959561358415198132:=0
def tw13448579164815255822:=0
def tw17652584420370417633:=0
def tw9526449532035497325:=0
def tw6631181322610023086:=0
def tw1422795271986828759:=0
def tw7259545624813482106:=0
def tw17066984345294846681:=0
def tw16064933076052599465:=0
def tw12384043456135752686:=0
def tw12317034483728698839:=0
def tw10779285088689389604:=0
def tw14173795288431371385:=0
def tw492139250633186568:=0
def tw9850580507044513616:=0
def tw6348959589401758579:=0
def tw10635022090487010740:=0
def tw3886835443395882569:=0
def tw4398361155643223314:=0
def tw4183723470733935193:=0
def tw6040841457439028525:=0
def tw16823496972313665713:=0
def tw10343086677582732870:=0
def tw12069557455830413977:=0
def tw10458013029504193584:=0
def tw5754140029990560909:=0
def tw2345081910150675953:=0
def tw9744928370578388999:=0
def tw5461343087814954163:=0
def tw1789116523733649299:=0
def tw7043095879529238440:=0
def tw4404979065743763787:=0
def tw5989789144429980333:=0
def tw13975572845661577357:=0
def tw3619580556419962258:=0
def tw7068699254089644018:=0
def tw14833269877680918888:=0
def tw3695569869094508033:=0
def tw4432495828732848602:=0
def tw16803344860384777442:=0
def tw4535110848918064184:=0
def tw6475536881982839762:=0
def tw9369247030120682667:=0
def tw6327175113682630487:=0
def tw6760660119421157466:=0
def tw8466521086608807870:=0
def tw8073130824291823016:=0
def tw10188183913852131692:=0
def tw14882501601527532082:=0
end PySem.W.Fast
open PySem PySem.W PyProof.Rows
set_option maxRecDepth 100000 in
set_option maxHeartbeats 0 in
theorem PySem.Challenge.cw_panelplace_k36_whole_cards_as_they_stand_holds : PySem.Challenge.rw_panelplace_k36_whole_cards_as_they_stand.Holds := by
 w_on;o_law;k_head;(case hw=>w_witness2)
 k_fill
 refine Pp.walk (l:=PySem.Challenge.rw_panelplace_k36_whole_cards_as_they_stand) rfl rfl (λw h Y=>PySem.W.km_in_of Y) ⟨_,rfl⟩ ?F
 case F =>
  intro w mg fa h KX G hmg
  refine' Pp.all_mk KX G hmg ?oa_Sheet ?a0 ?a1 ?a2 ?a3 ?a4 ?a5 ?a6 ?a7 ?a8 ?a9 ?a10 ?a11 ?a12 ?a13 ?a14 ?a15 ?a16 ?a17 ?a18 ?a19 ?a20 ?a21 ?a22 ?a23 ?a24 ?a25 ?a26 ?a27 ?a28 ?a29 ?a30 ?a31 ?a32 ?a33 ?a34 ?a35 ?a36 ?a37 ?a38 ?a39 ?a40 ?a41 ?a42 ?a43 ?a44 ?a45 ?a46 ?a47 ?a48 ?a49 ?a50 ?a51 ?a52 ?a53 ?a54 ?a55 ?a56 ?a57 ?a58 ?a59 ?a60 ?a61 ?a62 ?a63 ?a64 ?a65 ?a66 ?a67 ?a68 ?a69 ?a70 ?a71 ?a72 ?a73 ?l73 ?c73 ?k73 ?qe ?qk ?qv ?qh ?qn ?a74 ?a75 ?a76 ?a77 ?a78 ?a79 ?a80 ?a81 ?l81 ?c81 ?k81 ?z0 ?z1 ?z2 ?z3 ?z4 ?z5 ?z6 ?z7 ?z8 ?z9 ?z10 ?z11 ?z12 ?z13 ?z14 ?y0 ?y1 ?y2 ?y3 ?y4 ?xa0 ?xa1 ?xa2 ?xa3 ?xa4 ?xa5 ?xa6 ?xa7 ?xa8 ?xa9 ?xa11 ?xe0 ?xe1 ?xe2 ?xe3 ?xe4 ?xe5 ?xi5 ?xs5_0 ?xk5_5 ?xe6 ?xe7 ?xe8 ?xe9 ?xe11 ?opg_Sheet ?ohd_Sheet ?opo_Sheet ?osa_Sheet ?omk_Sheet ?okc_Sheet ?on_Sheet_standing ?on_Sheet_struck_so_far ?on_Sheet_panel ?on_Sheet_card_by_judge ?on_Sheet_taken_so_far ?on_Sheet_sealed
  case oa_Sheet=>k_is
  (case a0|a2|a3|a49=>exact L2.dm (by k_is) (by k_is) (by k_is) (by k_is) (by k_is) (λ_ _ _ _ _ _=>L2.onS λ_=>L2.on0 rfl))
  (case a1|a33|a34=>exact L2.dm (by k_is) (by k_is) (by k_is) (by k_is) (by k_is) (λ_ _ _ _ _ _=>L2.onS λ_=>L2.onS λ_=>L2.on0 rfl))
  (case a4|a5|a6|a7|a9|a12|a15|a16|a17|a19|a20|a21|a22|a23|a25|a26|a27|a29|a35|a36|a37|a39|a42|a43|a44|a46|a51|a52|a53|a55|a57|a60|a61|a64|a65|a67|a69|a71|a74|a75=>exact L2.df (by k_is) (by k_is) (by k_is) (by k_is) (λ_ _ _ _ _ _=>L2.onS λ_=>L2.onS λ_=>L2.on0 rfl))
  (case a8|a10|a11|a13|a14|a28|a38|a40|a41|a54|a66|a70|a72|a76|a77|a78=>exact L2.df (by k_is) (by k_is) (by k_is) (by k_is) (λ_ _ _ _ _ _=>L2.onS λ_=>L2.on0 rfl))
  (case a18=>exact L2.df (by k_is) (by k_is) (by k_is) (by k_is) (λ_ _ _ _ _ _=>L2.onS λ_=>L2.onS λ_=>L2.onS λ_=>L2.onS λ_=>L2.onS λ_=>L2.on0 rfl))
  (case a24|a30|a31|a45|a47|a58|a62|a63|a68=>exact L2.df (by k_is) (by k_is) (by k_is) (by k_is) (λ_ _ _ _ _ _=>L2.onS λ_=>L2.onS λ_=>L2.onS λ_=>L2.on0 rfl))
  (case a32|a59=>exact L2.dm (by k_is) (by k_is) (by k_is) (by k_is) (by k_is) (λ_ _ _ _ _ _=>L2.onS λ_=>L2.onS λ_=>L2.onS λ_=>L2.on0 rfl))
  (case a48|a56=>exact L2.df (by k_is) (by k_is) (by k_is) (by k_is) (λ_ _ _ _ _ _=>L2.onS λ_=>L2.onS λ_=>L2.onS λ_=>L2.onS λ_=>L2.on0 rfl))
  (case a50|a79=>exact L2.df (by k_is) (by k_is) (by k_is) (by k_is) (λ_ _ _ _ _ _=>L2.onS λ_=>L2.onS λ_=>L2.onS λ_=>L2.onS λ_=>L2.onS λ_=>L2.onS λ_=>L2.on0 rfl))
  (case a80=>exact L2.df (by k_is) (by k_is) (by k_is) (by k_is) (λ_ _ _ _ _ _=>L2.onS λ_=>L2.onS λ_=>L2.onS λ_=>L2.onS λ_=>L2.onS λ_=>L2.onS λ_=>L2.onS λ_=>L2.on0 rfl))
  (case a73|l73|c73|k73=>k_is)
  (case qe=>exact rfl)
  case qk=>k_is
  (case qv=>exact rfl)
  (case qh|qn=>kernel_rfl)
  (case a81|l81|c81|k81|z0|z1|z2|z3|z4|z5|z6|z7|z8|z9|z10|z11|z12|z13|z14|y0|y1|y2|y3|y4|xa0|xa1|xa2|xa3|xa4|xa5|xa6|xa7|xa8|xa9|xa11=>k_is)
  (case xe0|xe1|xe2|xe3|xe4|xe5|xi5|xs5_0|xk5_5|xe6|xe7|xe8|xe9|xe11=>kernel_rfl)
  (case opg_Sheet|ohd_Sheet|opo_Sheet|osa_Sheet|omk_Sheet|okc_Sheet|on_Sheet_standing|on_Sheet_struck_so_far|on_Sheet_panel|on_Sheet_card_by_judge|on_Sheet_taken_so_far|on_Sheet_sealed=>k_is)
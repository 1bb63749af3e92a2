import PyProof.Rows.All
import Wide.All
import OpenK.AllK
import Wide.FinOn
import Lean
import PyProof.EqAt
import PyProof.EqKinds
import PyProof.TupleCall
import KE.KIntText
import PyProof.ListRange
import KE.KSortAsk
import KE.KSortKey
import KE.KSortTup
import KE.KItemsList
import KE.KLam
import KE.KNestM
import PyProof.Rows.StrLen
import PyProof.Rows.Range3
import PyProof.CallStr
import PyProof.StrBlockL
import PyProof.MeetsStr
import PyProof.Rows.StrDigits
import PySem.Challenge.RW_panelplace_k47_whole_day_at_the_desk
open PySem.W (Frag InstAt callWith_K callWith_K0 cellsFrom_some codeIn emptyDict excIn findIn fnOf handedIn hasDictIn hideAll hideAll_get hideAll_none instObj isFn keepIn lookIn makesIn methodCall_KW methodObj mg_none_of mg_of nsIn of_hideAll plainGet plainGet_of plainOver takerIn typeIn)
open List (all_cons all_eq_true all_map any_cons append_assoc append_nil cons_append cons_lt_cons_iff countP_cons drop_eq_getElem_cons drop_nil drop_of_length_le ext_getElem filter filterMap filterMap_append filterMap_cons filterMap_nil filter_append filter_congr filter_cons filter_cons_of_neg filter_cons_of_pos filter_filter filter_map filter_nil find?_cons findIdx_cons flatMap flatMap_append flatMap_cons foldl_cons forIn_cons forIn_nil forIn_toArray getD getD_eq_getElem?_getD getElem?_append_right getElem?_eq_getElem getElem?_map getElem?_range getElem_idxOf getElem_inj getElem_map getElem_mem getElem_range getElem_toArray idxOf_lt_length_of_mem length_append length_cons length_drop length_filter_le length_map length_nil length_pos_of_mem length_range length_singleton length_tail length_take length_zip lookup_cons map map_append map_congr_left map_cons map_drop map_id map_map map_nil map_take mem_append mem_append_left mem_append_right mem_cons mem_cons_of_mem mem_cons_self mem_of_getElem? mem_singleton nil_append nodup_append nodup_nil not_mem_nil of_mem_zip pairwise_lt_range range' range_succ range_succ_eq_map replicate size_toArray sum_cons take_add_one take_append_drop take_length take_nil take_of_length_le take_succ take_zero)
open PyProof.Rows (boot_all boot_bool boot_int boot_isinstance boot_list boot_max boot_min boot_set boot_str boot_sum callWith_builtin1 callWith_type1 len_str_of_int)
open Nat (add_zero le_add_right le_of_eq le_of_lt le_refl le_succ le_trans lt_irrefl lt_of_lt_of_le lt_or_ge lt_succ_of_lt lt_succ_self lt_trans mul_le_mul ne_of_gt ne_of_lt sub_self toDigits zero_le)
open PySem.Heap (FlyingW SameBut get?_push_of_some get?_push_size get?_update_other get?_update_self lt_size size_push size_update)
noncomputable section
set_option Elab.async false
set_option linter.all false
def q00:=@if_neg
def q01:=@if_pos
def q02:=@absurd
def q03:=@PySem.wpAny_bind
def q04:=@PySem.wpAny_pure
def q05:=@get?_push_of_some
def q06:=@List.length_map
def q07:=@List.map_append
def q08:=@List.length_append
def q09:=@List.length_filter_le
def q10:=@List.size_toArray
def q11:=@List.length_take
def q12:=@List.length_cons
def q13:=@List.mem_cons_of_mem
def q14:=@List.mem_cons_self
def q15:=@List.take_length
def q16:=@List.filter_append
def q17:=@List.filter_cons
def q18:=@List.getD_eq_getElem?_getD
def q19:=@decide_eq_true
def q20:=@decide_eq_false
def q21:=@Nat.lt_of_lt_of_le
def q22:=@Option.some.inj
def q23:=@Bool.false_ne_true
def q24:=@List.mem_filter
def q25:=@List.mem_map
def q26:=@List.getElem?_map
def q27:=@List.mem_cons
def q28:=@List.getElem?_append_left
def q29:=@List.getElem?_append_right
def q30:=@List.length_pos_of_mem
def q31:=@List.getElem?_eq_getElem
def q35:=@List.take_append_drop
def q36:=@List.getElem?_range
def q37:=@Nat.lt_irrefl
def q38:=@Nat.le_trans
def q39:=@List.all_eq_true
def q40:=@List.any_eq_true
def q41:=@Option.map_some
def q42:=@Bool.and_eq_true
def q43:=@List.map_congr_left
def q44:=@List.getElem_mem
def q45:=@List.getElem?_eq_some_iff
set_option maxRecDepth 100000
namespace L2
open PySem PySem.Spec PyProof.Rows
abbrev Key:=Sum Int Str
def E2:Key->Value->Bool
 | .inl k,v=>Value.isInt k v
 | .inr x,v=>Value.isStrOf x v
def MC(w:World):Key->Int
 | .inl k=>hashInt k
 | .inr x=>hashStr w x
def yM:∀{k:Key}{v:Value},E2 k v=true->(∃i t,k=Sum.inl i/\v=Value.int i t)\/(∃x t,k=Sum.inr x/\v=Value.str x t)
 | .inl i,v,h=>by
   obtain⟨t,e⟩:=Value.isInt_shape (k:=i) (v:=v) h;exact .inl ⟨i,t,rfl,e⟩
 | .inr x,v,h=>by
   obtain⟨t,e⟩:=Value.isStrOf_shape (x:=x) (v:=v) h;exact .inr ⟨x,t,rfl,e⟩
def oy(i:Int)(t:Tok):E2 (.inl i) (.int i t)=true:=by simp[E2,Value.isInt]
def oz(x:Str)(t:Tok):E2 (.inr x) (.str x t)=true:=by simp[E2,Value.isStrOf]
def CV(a b:Int):decide ((Sum.inl a:Key)=Sum.inl b)=(a==b):=by
 by_cases e:a=b
 .subst e;simp
 .have h:¬(Sum.inl a:Key)=Sum.inl b:=λq=>e (Sum.inl.inj q);rw[q20 h];exact(beq_eq_false_iff_ne.mpr e).symm
def CW(a b:Str):decide ((Sum.inr a:Key)=Sum.inr b)=decide (a=b):=by
 by_cases e:a=b
 .subst e;simp
 .have h:¬(Sum.inr a:Key)=Sum.inr b:=λq=>e (Sum.inr.inj q);rw[q20 h,q20 e]
def CY(a:Int)(b:Str):decide ((Sum.inl a:Key)=Sum.inr b)=false:=q20 (λq=>nomatch q)
def CZ(a:Str)(b:Int):decide ((Sum.inr a:Key)=Sum.inl b)=false:=q20 (λq=>nomatch q)
def wA(prog:Program)(w:World):PySem.KeyKind prog w Key where
 is:=E2
 hash:=MC w
 inj:=λv a b s r=>by
  rcases yM s with⟨i,t,rfl,rfl⟩|⟨x,t,rfl,rfl⟩
  .rcases yM r with⟨j,u,rfl,e⟩|⟨y,u,rfl,e⟩
   .injection e with e1 _;rw[e1]
   .exact nomatch e
  .rcases yM r with⟨j,u,rfl,e⟩|⟨y,u,rfl,e⟩
   .exact nomatch e
   .injection e with e1 _;rw[e1]
 byValue:=λk v h=>by
  rcases yM h with⟨i,t,rfl,rfl⟩|⟨x,t,rfl,rfl⟩ <;> rfl
 pyHash:=λn h=>by
  rcases yM n with⟨i,t,rfl,rfl⟩|⟨x,t,rfl,rfl⟩
  .exact wpAny_pyHash_int h
  .exact wpAny_pyHash_str h
 eqBool:=λc n h=>by
  rcases yM c with⟨i,t,rfl,rfl⟩|⟨x,t,rfl,rfl⟩
  .rcases yM n with⟨j,u,rfl,rfl⟩|⟨y,u,rfl,rfl⟩
   .rw[CV]at h;exact wpAny_eqBool_int h
   .rw[CY]at h;exact SeqAt.EqAt.int_str i t y u _ _ _ _ h
  .rcases yM n with⟨j,u,rfl,rfl⟩|⟨y,u,rfl,rfl⟩
   .rw[CZ]at h;exact SeqAt.EqAt.str_int x t j u _ _ _ _ h
   .rw[CW]at h;exact wpAny_eqBool_str h
 «strs» := λk x t v h=>by
  rcases yM h with⟨i,u,rfl,e⟩|⟨y,u,rfl,e⟩
  .exact nomatch e
  .injection e with e1 _
   subst e1;cases v <;> rfl
def Y0(prog:Program)(w:World)(i:Int)(t:Tok):(wA prog w).is (.inl i) (.int i t)=true:=oy i t
def Y1(prog:Program)(w:World)(x:Str)(t:Tok):(wA prog w).is (.inr x) (.str x t)=true:=oz x t
inductive V where
 | bR | bl (b:Bool) | int (i:Int) | str (x:Str) | kQ (b:Array UInt8) | Jo (b:UInt64) | ref (a:Addr) | ty (n:String)
 deriving DecidableEq
def RelV:V->Value->Prop
 | .bR,u=>u=Value.none
 | .bl b,u=>u=Value.bool b
 | .int i,u=>∃t,u=Value.int i t
 | .str x,u=>∃t,u=Value.str x t
 | .kQ b,u=>∃t,u=Value.bytes b t
 | .Jo b,u=>∃t,u=Value.float b t
 | .ref a,u=>u=Value.ref a
 | .ty n,u=>u=Value.type n
abbrev Vals:List V->List Value->Prop:=Paired RelV
variable {us:List Value}
def Vals.length{xs:List V}(r:Vals xs us):xs.length=us.length:=Paired.length r
def Vals.get:∀{v:List V}{us:List Value}{i:Nat}{x:V},Vals v us->v[i]? = some x->∃u,us[i]? = some u/\RelV x u
 | _,_,_,_,.nil,e=>by simp at e
 | _,_,0,_,.cons r _,e=>by simp at e;subst e;exact⟨_,rfl,r⟩
 | _,_,i+1,x,.cons _ t,e=>by
   obtain⟨u,n,w⟩:=Vals.get (i:=i) (x:=x) t (by simpa using e);exact⟨u,by simpa using n,w⟩
variable {u:Value}
def Vals.set{x:V}(r:RelV x u):∀{e:List V}{us:List Value}(i:Nat),Vals e us->Vals (e.set i x) (us.set i u)
 | _,_,_,.nil=>.nil
 | _,_,0,.cons _ t=>.cons r t
 | _,_,i+1,.cons q t=>.cons q (Vals.set r i t)
def Vals.append:∀{v n:List V}{us e:List Value},Vals v us->Vals n e->Vals (v++n) (us++e)
 | _,_,_,_,.nil,s=>s
 | _,_,_,_,.cons r t,s=>.cons r (Vals.append t s)
def Vals.take:∀{e:List V}{us:List Value}(n:Nat),Vals e us->Vals (e.take n) (us.take n)
 | _,_,0,_=>.nil
 | _,_,_+1,.nil=>.nil
 | _,_,n+1,.cons r t=>.cons r (Vals.take n t)
def Vals.drop:∀{e:List V}{us:List Value}(n:Nat),Vals e us->Vals (e.drop n) (us.drop n)
 | _,_,0,r=>r
 | _,_,_+1,.nil=>.nil
 | _,_,n+1,.cons _ t=>Vals.drop n t
def fB:Option V->Option Value->Prop
 | some v,some u=>RelV v u
 | none,none=>True
 | _,_=>False
def KV{e:Type}:List (e×V)->List (e×Value)->Prop:=Paired fun(p:e×V) (q:e×Value)=>p.1=q.1/\RelV p.2 q.2
def kV:Key->V
 | .inl i=>.int i
 | .inr x=>.str x
inductive HO where
  | lst (xs:List V)
  | tup (xs:List V)
  | dK (ay:List (Key×V)) | dT (ay:List (List Key×V))
  | set (S:Int->Bool) (n:Nat)
  | ins (C dx:Addr) (fs:List (Str×V))
  | own (x:Addr)
  | xd (fs:List (Str×V))
  | met (f x:Addr)
  | cY (lo hi:Int)
  | kX (o:Obj) (u:HO)
  | dj (ps:Array Value)
  | ext (φ:Heap->Prop)
abbrev Hp:=Addr->Option HO
def upd(H:Hp)(a:Addr)(o:HO):Hp:=λb=>if b=a then some o else H b
variable {H:Hp}{a:Addr}{o:HO}
def zd:upd H a o a=some o:=by unfold upd;rw[q01 rfl]
variable {b:Addr}
def zi(h:b≠a):upd H a o b=H b:=by unfold upd;rw[q00 h]
def xX{u:HO}:upd (upd H a o) a u=upd H a u:=by
 funext b;unfold upd;split <;> rfl
def yb{u:HO}(h:H a=some o)(h':H b=some u)(d:o≠u):a≠b:=by
 intro e;subst e;rw[h]at h';exact d (q22 h')
def zk(h:H a=some o)(h':H b=none):a≠b:=by
 intro e;subst e;rw[h]at h';cases h'
section
variable (P:Program)(w:World)
def bH(H:Hp)(h:Heap)(a:Addr):HO->Prop
 | .lst e=>e.length<=sizeLine/\∃(s:List Value)(n:Nat),Vals e s/\h.get? a=some { cls:=.type "list",data:=.seq s.toArray n }
 | .tup e=>e.length<=sizeLine/\∃s:List Value,Vals e s/\IsTup h a s.toArray
 | .dK c=>c.length<=sizeLine/\(a==sysModules)=false/\∃m,KV c m/\h.DictOf (wA P w) a m
 | .dT c=>c.length<=sizeLine/\(a==sysModules)=false/\∃e:List (List Key×Addr×Value),
    Paired (fun(p:List Key×V) (q:List Key×Addr×Value)=>p.1=q.1/\H q.2.1=some (.tup (p.1.map kV))/\RelV p.2 q.2.2) c e /\
    ∃o j g,h.get? a=some o/\o.ExactDict/\o.data=.dict j g/\j.toList=e.map (entryOfKey (tupleKind (wA P w)))/\(e.map (·.1)).Nodup
 | .set S n=>h.SetOf (intKind P w) a S n
 | .ins C d fs=>H d=some (.own a)/\fs.length<=1000/\d≠a/\h.get? a=some (instObj C d) /\
    ∃r,h.Ns1 d r/\(∀f,fB (fs.lookup f) (r f))/\PySem.Within r (fs.map (·.1))
 | .own _=>∃o,h.get? a=some o
 | .xd fs=>∃r,h.Ns1 a r/\∀f,fB (fs.lookup f) (r f)
 | .cY lo y=>∃t u v,h.get? a=some { cls:=.type "range",data:=.fields #[.int lo t,.int y u,.int 1 v] }
 | .kX o u=>h.get? a=some o/\bH H h a u
 | .dj z=>h.get? a=some { cls:=.none,data:=.fields z }
 | .met f x=>h.get? a=some (methodObj (.ref f) (.ref x))
 | .ext i=>i h/\(∃o,h.get? a=some o)/\∀k l:Heap,i k->(∀o,k.get? a=some o->l.get? a=some o)->i l
def eA(H:Hp)(h:Heap):Prop:=∀a o,H a=some o->bH P w H h a o
end
section
variable {P:Program}{w:World}{H H':Hp}{h h':Heap}{a:Addr}{o:HO}
def bH.lt(x:bH P w H h a o):a<h.objs.size:=by
 cases o with
 | lst xs=>obtain⟨_,_,_,_,e⟩:=x;exact lt_size e
 | tup xs=>obtain⟨_,_,_,p⟩:=x;exact p.lt
 | dK t=>obtain⟨_,_,_,_,o,_,_,e,_⟩:=x;exact lt_size e
 | dT t=>obtain⟨_,_,_,_,o,_,_,e,_⟩:=x;exact lt_size e
 | set S n=>obtain⟨o,_,_,_,e,_⟩:=x;exact lt_size e
 | ins C v fs=>obtain⟨_,_,_,e,_⟩:=x;exact lt_size e
 | own y=>obtain⟨_,e⟩:=x;exact lt_size e
 | xd fs=>obtain⟨_,⟨_,_,_,e,_⟩,_⟩:=x;exact lt_size e
 | cY lo r=>obtain⟨_,_,_,e⟩:=x;exact lt_size e
 | kX s u=>obtain⟨e,_⟩:=x;exact lt_size e
 | dj c=>exact lt_size (show h.get? a=some _ from x)
 | met f y=>exact lt_size (show h.get? a=some _ from x)
 | ext d=>obtain⟨_,⟨_,e⟩,_⟩:=x;exact lt_size e
def Paired.Dc{n s:Type}{F G:n->s->Prop}:∀{e:List n}{v:List s},Paired F e v->(∀a b,F a b->G a b)->Paired G e v
 | _,_,.nil,_=>.nil
 | _,_,.cons r t,f=>.cons (f _ _ r) (Paired.Dc t f)
def bH.dJ(x:bH P w H h a o)(k:∀b u,(b=a\/H b=some (.own a))->h.get? b=some u->h'.get? b=some u)
 (I:∀b,H b=some (.own a)->H' b=some (.own a)) (J:∀b l,H b=some (.tup l)->H' b=some (.tup l)):bH P w H' h' a o:=by
 induction o with
 | lst l=>obtain⟨z,m,n,r,e⟩:=x;exact⟨z,m,n,r,k _ _ (.inl rfl) e⟩
 | tup l=>obtain⟨z,m,r,s,e,c⟩:=x;exact⟨z,m,r,s,k _ _ (.inl rfl) e,c⟩
 | dK E=>obtain⟨z,y,L,r,s,j,i,e,c⟩:=x;exact⟨z,y,L,r,s,j,i,k _ _ (.inl rfl) e,c⟩
 | dT E =>
   obtain⟨z,y,l,r,s,j,i,e,c⟩:=x;exact⟨z,y,l,Paired.Dc r λp q z=>⟨z.1,J _ _ z.2.1,z.2.2⟩,s,j,i,k _ _ (.inl rfl) e,c⟩
 | set S n=>obtain⟨s,j,i,t,e,c⟩:=x;exact⟨s,j,i,t,k _ _ (.inl rfl) e,c⟩
 | ins C M fs =>
   obtain⟨d,z,ne,e,g,⟨A,j,i,G,c⟩,r⟩:=x;exact⟨I _ d,z,ne,k _ _ (.inl rfl) e,g,⟨A,j,i,k _ _ (.inr d) G,c⟩,r⟩
 | own y=>obtain⟨s,e⟩:=x;exact⟨s,k _ _ (.inl rfl) e⟩
 | xd fs=>obtain⟨g,⟨A,j,i,e,c⟩,r⟩:=x;exact⟨g,⟨A,j,i,k _ _ (.inl rfl) e,c⟩,r⟩
 | cY lo N=>obtain⟨t,u,v,e⟩:=x;exact⟨t,u,v,k _ _ (.inl rfl) e⟩
 | kX s u K=>obtain⟨e,q⟩:=x;exact⟨k _ _ (.inl rfl) e,K q⟩
 | dj B =>
   have e:h.get? a=some { cls:=.none,data:=.fields B }:=x;show h'.get? a=some { cls:=.none,data:=.fields B };exact k a _ (.inl rfl) e
 | met f y =>
   have e:h.get? a=some (methodObj (.ref f) (.ref y)):=x;show h'.get? a=some (methodObj (.ref f) (.ref y));exact k a _ (.inl rfl) e
 | ext O=>obtain⟨p,⟨o,e⟩,D⟩:=x;exact⟨D _ _ p λo q=>k _ _ (.inl rfl) q,⟨o,k _ _ (.inl rfl) e⟩,D⟩
def eA.lt(x:eA P w H h)(e:H a=some o):a<h.objs.size:=(x a o e).lt
def eA.fresh(x:eA P w H h)(e:h.objs.size<=a):H a=none:=by
 cases q:H a with
 | none=>rfl
 | some u=>exact q02 (q21 (x.lt q) e) (q37 _)
def eA.kept(x:eA P w H h)(k:∀b u,h.get? b=some u->h'.get? b=some u):eA P w H h':=λa o e =>
 (x a o e).dJ (λb u _ q=>k b u q) (λ_ q=>q) λ_ _ q=>q
def eA.laid(x:eA P w H h)(k:∀b u,h.get? b=some u->h'.get? b=some u)(r:h.objs.size<=a)(new:bH P w (upd H a o) h' a o):eA P w (upd H a o) h':=λb u e=>by
 have n:=x.fresh r;by_cases t:b=a
 .subst t;rw[zd]at e;cases e;exact new
 .rw[zi t]at e;exact(x b u e).dJ (λc v _ q=>k c v q) (λc q=>by rw[zi (zk q n)];exact q) λc s q=>by rw[zi (zk q n)];exact q
end
def Rd(H:Hp)(a:Addr)(u:HO):Prop:=H a=some u\/∃o,H a=some (.kX o u)
def Rd.of{u:HO}(h:H a=some u):Rd H a u:=.inl h
variable {P:Program}{w:World}{h:Heap}
def Rd.ok{u:HO}(r:Rd H a u)(x:eA P w H h):bH P w H h a u:=by
 rcases r with r | ⟨o,r⟩
 .exact x a u r
 .obtain⟨_,q⟩:=x a _ r;exact q
def FZ:Option HO->Prop
 | some (.lst _)=>True
 | some (.dK _)=>True
 | some (.dT _)=>True
 | some (.set _ _)=>True
 | some (.ins _ _ _)=>True
 | some (.ext _)=>True
 | _=>False
section
variable {P:Program}{w:World}{H:Hp}{h h':Heap}{x e:Addr}{o':HO}
def eA.write(ok:eA P w H h)(d:FZ (H x))(he:e=x\/H e=some (.own x))(k:∀b u,b≠e->h.get? b=some u->h'.get? b=some u)(l:∃u,h'.get? e=some u)
 (new:bH P w (upd H x o') h' x o'):eA P w (upd H x o') h':=λb u q=>by
 have j:∀c y,H c=some (.own y)->c≠x:=λc y r z=>by subst z;rw[r]at d;exact d
 have m:∀c i,H c=some (.tup i)->c≠x:=λc i r z=>by subst z;rw[r]at d;exact d
 by_cases n:b=x
 .subst n;rw[zd]at q;cases q;exact new
 .rw[zi n]at q;by_cases t:b=e
  .have q':H b=some (.own x):=by
    rcases he with z | z
    .exact q02 (t.trans z) n
    .rw[t];exact z
   rw[q]at q';cases q';obtain⟨v,p⟩:=l;exact⟨v,by rw[t];exact p⟩
  .refine(ok b u q).dJ (λc v s r=>k c v ?_ r) (λc r=>by rw[zi (j c b r)];exact r) λc i r=>by rw[zi (m c i r)];exact r
   rcases s with rfl | s
   .exact t
   .rintro rfl;rcases he with z | z
    .exact j c b s z
    .rw[s]at z;cases z;exact n rfl
end
structure Un (fs ex:List Addr) (H H':Hp) (h h':Heap):Prop where
 keep:∀b o,h.get? b=some o->H b=none->b∉fs->b∉ex->h'.get? b=some o
 slot:∀b o,h.get? b=some o->H b=none->b∈fs->b∉ex->∃sl,h'.get? b=some { o with slots:=sl }
 free:∀b o,h.get? b=some o->H b=none->b∉ex->H' b=none
 there:∀b o,h.get? b=some o->b∉ex->∃o',h'.get? b=some o'
 cf:∀b xs,H b=some (.tup xs)->H' b=some (.tup xs)
 bX:∀b o u,H b=some (.kX o u)->H' b=some (.kX o u)
 cg:∀b ps,H b=some (.dj ps)->∃more,H' b=some (.dj (ps++more))
section
variable {fs ex:List Addr}{H H1 H2:Hp}{h h1 h2 h':Heap}{a x e:Addr}{o:HO}
def Un.any(u:Un fs ex H H1 h h1){b:Addr}{t:Obj}(q:h.get? b=some t)(n:H b=none)(r:b∉ex):∃sl,h1.get? b=some { t with slots:=sl }:=by
 by_cases v:b∈fs
 .exact u.slot b t q n v r
 .exact⟨t.slots,u.keep b t q n v r⟩
def Un.trans(a:Un fs ex H H1 h h1)(b:Un fs ex H1 H2 h1 h2):Un fs ex H H2 h h2 where
 keep:=λc v q n s t=>b.keep c v (a.keep c v q n s t) (a.free c v q n t) s t
 slot:=λc v q n s t=>by
  obtain⟨sl,r⟩:=a.slot c v q n s t;obtain⟨k,i⟩:=b.slot c _ r (a.free c v q n t) s t;exact⟨k,i⟩
 free:=λc v q n t=>by
  obtain⟨j,r⟩:=a.there c v q t;exact b.free c j r (a.free c v q n t) t
 there:=λc v q t=>by
  obtain⟨j,r⟩:=a.there c v q t;exact b.there c j r t
 cf:=λc d q=>b.cf c d (a.cf c d q)
 bX:=λc v d q=>b.bX c v d (a.bX c v d q)
 cg:=λc p q=>by
  obtain⟨l,r⟩:=a.cg c p q;obtain⟨m,i⟩:=b.cg c _ r;exact⟨l++m,by rw[i,Array.append_assoc]⟩
def Un.kept(k:∀b u,h.get? b=some u->h'.get? b=some u):Un fs ex H H h h' :=
 ⟨λb t q _ _ _=>k b t q,λb t q _ _ _=>⟨t.slots,k b t q⟩,λ_ _ _ n _=>n,λb t q _=>⟨t,k b t q⟩,λ_ _ q=>q,λ_ _ _ q=>q,λ_ v q=>⟨#[],by rw[q];simp⟩⟩
def Un.refl:Un fs ex H H h h:=Un.kept λ_ _ q=>q
def Un.laid(k:∀b u,h.get? b=some u->h'.get? b=some u)(v:h.objs.size<=a)(t:H a=none):Un fs ex H (upd H a o) h h' where
 keep:=λb u q _ _ _=>k b u q
 slot:=λb u q _ _ _=>⟨u.slots,k b u q⟩
 free:=λb u q n _=>by rw[zi (ne_of_lt (q21 (lt_size q) v))];exact n
 there:=λb u q _=>⟨u,k b u q⟩
 cf:=λb r q=>by rw[zi (zk q t)];exact q
 bX:=λb u r q=>by rw[zi (zk q t)];exact q
 cg:=λb s q=>⟨#[],by rw[zi (zk q t),q];simp⟩
def Un.write(t:FZ (H x))(he:e=x\/H e=some (.own x))(k:∀b u,b≠e->h.get? b=some u->h'.get? b=some u)(i:∃u,h'.get? e=some u):Un fs ex H (upd H x o) h h':=by
 have d:∀b,H b=none->b≠x:=λb n z=>by subst z;rw[n]at t;exact t
 have c:∀b,H b=none->b≠e:=λb n z=>by
  subst z;rcases he with r | r
  .exact d b n r
  .rw[n]at r;cases r
 have v:∀b u,H b=some u->¬FZ (some u)->b≠x:=λb u q j z=>by subst z;rw[q]at t;exact j t
 refine⟨λb u q n _ _=>k b u (c b n) q,λb u q n _ _=>⟨u.slots,k b u (c b n) q⟩,λb u q n _=>by rw[zi (d b n)];exact n,λb u q _=>?_,
  λb l q=>by rw[zi (v b _ q λz=>z)];exact q,λb u l q=>by rw[zi (v b _ q λz=>z)];exact q,λb m q=>⟨#[],by rw[zi (v b _ q λz=>z),q];simp⟩⟩
 by_cases s:b=e
 .subst s;exact i
 .exact⟨u,k b u s q⟩
end
def Jp(h:Heap)(H:Hp):List Addr:=(List.range h.objs.size).filter λa=>(H a).isSome
def vX(h:Heap)(H:Hp):Heap:=hideAll h (Jp h H)
def oA(h:Heap)(H:Hp):(vX h H).objs.size=h.objs.size:=PySem.W.hideAll_size _ _
def rO{o:Obj}(e:h.get? b=some o)(n:H b=none):(vX h H).get? b=some o :=
 hideAll_get _ e λt=>by
  have q:(H b).isSome=true:=(q24.mp t).2;rw[n]at q;simp at q
def xY{o:Obj}(e:(vX h H).get? b=some o):h.get? b=some o/\H b=none:=by
 have t:h.get? b=some o:=of_hideAll (Jp h H) e;refine⟨t,?_⟩;cases q:H b with
 | none=>rfl
 | some x =>
   have v:b∈Jp h H:=q24.mpr ⟨List.mem_range.mpr (lt_size t),by simp[q]⟩;have z:(vX h H).get? b=none:=hideAll_none (Jp h H) v;rw[z]at e;cases e
def xZ(g h:Heap)(L:Addr):List (Addr×Obj):=(List.range h.objs.size).filterMap λa=>if a=L\/(g.get? a).isSome=true then none else(h.get? a).map λo=>(a,o)
def ka(g h:Heap)(L d:Addr):List (Addr×Obj):=(xZ g h L).filter λp=>decide (p.1≠d)
structure Mod (K:Frag) (mg:Str->Option Value) (base:Heap):Prop where
 BN:K.In base
 glob:base.Ns mainGlobals mg
 blt:∃mb,base.Ns builtinsNs mb/\∀x:Str,x≠"__name__"->mb x=bootBuiltins x
 nolimit:base.NoLimit
structure Cx where
 prog:Program
 w:World
 K:Frag
 mg:Str->Option Value
 base:Heap
 A:Around
 N:List Str
 s₀:Shared
 H₀:Hp
 env:Env
 outer:List Env
 stack:List Env
 ex:List Addr
 fn:Str->Bool
 calm:Bool
 pn:List (Addr×Obj)
 xe:Value->Shared->Prop
def cL(l:List Env):List Addr:=l.filterMap (·.frame)
abbrev Cx.fs(X:Cx):List Addr:=cL X.outer
def F6(e:Scope)(x:Str):Prop:=e.names.lookup x=some .local\/e.names.lookup x=some .cell\/e.names.lookup x=some .free
def Loc(e:Scope)(x:Str):Prop:=e.names.lookup x=some .local\/e.names.lookup x=some .cell
def Look(env:Env)(h:Heap)(m:Str->Option Value)(x:Str)(u:Value):Prop :=
 (env.kindOf x=some .local/\m x=some u)\/((env.kindOf x=some .cell\/env.kindOf x=some .free)/\∃c,env.cells.lookup x=some c/\h.IsCell c (some u))
structure Cx.Ok (X:Cx):Prop where
 mod:Mod X.K X.mg X.base
 kind:X.env.scope.kind=.function
 glob:X.env.globals=mainGlobals
 blt:X.env.builtins=builtinsNs
 above:X.s₀.heap.objs.size<=X.env.locals
 inj:∀x y c,X.env.cells.lookup x=some c->X.env.cells.lookup y=some c->x=y
 has:∀x,(X.env.kindOf x=some .cell\/X.env.kindOf x=some .free)->∃c,X.env.cells.lookup x=some c
 qO:∀x c,X.fn x=true->X.env.cells.lookup x=some c->X.s₀.heap.objs.size<=c
 hd:X.calm=true->X.A.handled=none
 frames:X.A.frames=some X.stack
 qP:X.stack=X.outer\/(X.stack=X.env::X.outer/\X.env.frame=some X.env.locals)
 rP:∀b∈X.ex,b≠X.env.locals/\∀x c,X.env.cells.lookup x=some c->c≠b
 bs:∀b o,X.base.get? b=some o->X.s₀.heap.get? b=some o/\X.H₀ b=none
 jz:X.base.objs.size<=X.s₀.heap.objs.size
 gz:∀b o,X.base.get? b=some o->b∉X.ex
 gU:∀b∈X.ex,b∉X.fs
 cM:X.s₀.heap.FunFrames X.base X.outer
 kY:∀b∈X.fs,X.H₀ b=none
structure Inv (X:Cx) (pins:List (Addr×Obj)) (σ:List (Option V)) (H:Hp) (s:Shared):Prop where
 ok:X.Ok
 os:s.os=X.s₀.os
 bare:AllBare s.gens
 base:Un X.fs X.ex X.H₀ H X.s₀.heap s.heap
 loc:∃m,s.heap.Ns X.env.locals m/\∀(i:Nat)(x:Str)(v:V),X.N[i]? = some x->σ[i]? = some (some v)->F6 X.env.scope x->∃u,RelV v u/\Look X.env s.heap m x u
 cell:∀x c,X.env.cells.lookup x=some c->∃v,s.heap.IsCell c v
 free:H X.env.locals=none
 cI:∀x c,X.env.cells.lookup x=some c->H c=none
 pin:∀p∈X.pn++pins,s.heap.get? p.1=some p.2/\H p.1=none/\p.1≠X.env.locals/\p.1∉X.fs/\∀v,p.2.data ≠ .cell v
 aO:eA X.prog X.w H s.heap
 len:σ.length=X.N.length
section
variable {X:Cx}{pins:List (Addr×Obj)}{σ:List (Option V)}{H H':Hp}{s:Shared}{h':Heap}
def Cx.Ok.MF(ok:X.Ok){b:Addr}{o:Obj}(e:X.base.get? b=some o):b∉X.fs:=λt=>by
 have:=(ok.cM.mem t).1;rw[e]at this;cases this
def Inv.bs(I:Inv X pins σ H s):∀b o,X.base.get? b=some o->s.heap.get? b=some o/\H b=none:=λb o e =>
 ⟨I.base.keep b o (I.ok.bs b o e).1 (I.ok.bs b o e).2 (I.ok.MF e) (I.ok.gz b o e),I.base.free b o (I.ok.bs b o e).1 (I.ok.bs b o e).2 (I.ok.gz b o e)⟩
def Inv.bk(I:Inv X pins σ H s):∀b o,X.base.get? b=some o->s.heap.get? b=some o:=λb o e=>(I.bs b o e).1
def Inv.mod(I:Inv X pins σ H s):Mod X.K X.mg X.base:=I.ok.mod
def Inv.j0(I:Inv X pins σ H s):X.K.In s.heap:=I.ok.mod.BN.keeps I.bk
def Inv.lt(I:Inv X pins σ H s):X.env.locals<s.heap.objs.size:=let ⟨_,e,_⟩:=I.loc;e.lt
def Inv.sz(I:Inv X pins σ H s):X.s₀.heap.objs.size<=s.heap.objs.size:=q38 I.ok.above (le_of_lt I.lt)
def Inv.F8(I:Inv X pins σ H s){a:Addr}(h:s.heap.objs.size<=a):a∉X.fs:=λe=>by
 obtain⟨_,o,t,_⟩:=I.ok.cM.mem e;exact q02 (q21 (lt_size t) (q38 I.sz h)) (q37 _)
def Inv.De(I:Inv X pins σ H s):∀x c,X.env.cells.lookup x=some c->c≠X.env.locals:=λx c e z=>by
 obtain⟨v,o,n,t⟩:=I.cell x c e;obtain⟨m,⟨k,j,i,d,r,_⟩,_⟩:=I.loc;rw[z,d]at n;cases n;rw[r]at t;cases t
def Inv.cM(I:Inv X pins σ H s):s.heap.FunFrames X.base X.outer:=by
 have all:∀(l:List Env),(∀b∈cL l,b∈X.fs)->X.s₀.heap.FunFrames X.base l->s.heap.FunFrames X.base l:=by
  intro l
  induction l with
  | nil=>intro _ _;trivial
  | cons env r q =>
    intro c j;obtain⟨i,⟨L,o,n,k,m,d⟩,p⟩:=j;have t:L∈X.fs:=c L (by unfold cL;rw[filterMap_cons,n];exact q14);obtain⟨sl,e⟩:=I.base.slot L o m (I.ok.kY L t) t λz=>I.ok.gU L z t;exact⟨i,⟨L,_,n,k,e,d⟩,q (λb v=>c b (by unfold cL;rw[filterMap_cons,n];exact q13 _ v)) p⟩
 exact all X.outer (λ_ v=>v) I.ok.cM
def Inv.stack(I:Inv X pins σ H s):s.heap.FunFrames X.base X.stack:=by
 rcases I.ok.qP with e | ⟨e,t⟩
 .rw[e];exact I.cM
 .rw[e];obtain⟨m,v,_⟩:=I.loc;refine .cons (by rw[I.ok.kind];decide) t v ?_ I.cM;exact Heap.get?_none_of_le (q38 I.ok.jz I.ok.above)
def Inv.jA(I:Inv X pins σ H s):∀b∈cL X.stack,b∈X.env.locals::X.fs:=λb t=>by
 rcases I.ok.qP with e | ⟨e,v⟩
 .rw[e]at t;exact q13 _ t
 .rw[e]at t;unfold cL at t;rw[filterMap_cons,v]at t;exact t
def Inv.gb(I:Inv X pins σ H s):∀b∈cL X.stack,H b=none:=λb t=>by
 rcases q27.mp (I.jA b t)with e | t
 .rw[e];exact I.free
 .obtain⟨_,o,ho,_⟩:=I.ok.cM.mem t;exact I.base.free b o ho (I.ok.kY b t) λz=>I.ok.gU b z t
variable {g':Array GenState}{t':Nat}{ch:List Addr}
def Inv.step{d':Drawn}(I:Inv X pins σ H s)
 (D:∀b∈ch,(b∈X.ex\/X.s₀.heap.objs.size<=b)/\b≠X.env.locals/\(∀x c,X.env.cells.lookup x=some c->c≠b)/\∀p∈X.pn++pins,p.1≠b)
 (keep:∀b o,b≠X.env.locals->b∉X.fs->b∉ch->s.heap.get? b=some o->H b=none->h'.get? b=some o)
 (slot:∀b o,b≠X.env.locals->b∈X.fs->b∉ch->s.heap.get? b=some o->H b=none->∃sl,h'.get? b=some { o with slots:=sl }) (free:∀b o,b∉ch->s.heap.get? b=some o->H b=none->H' b=none)
 (there:∀b o,b∉ch->s.heap.get? b=some o->∃C,h'.get? b=some C)
 (cf:∀b g,H b=some (.tup g)->H' b=some (.tup g)) (bX:∀b o u,H b=some (.kX o u)->H' b=some (.kX o u)) (cg:∀b G,H b=some (.dj G)->∃more,H' b=some (.dj (G++more)))
 (ns:∀m,s.heap.Ns X.env.locals m->h'.Ns X.env.locals m) (aO:eA X.prog X.w H' h') (R:AllBare g') :
 Inv X pins σ H' { s with heap:=h',gens:=g',drawn:=d',toks:=t' }:=by
 have K:∀b o,X.s₀.heap.get? b=some o->b≠X.env.locals:=λb o e=>ne_of_lt (q21 (lt_size e) I.ok.above);have E:∀b o,X.s₀.heap.get? b=some o->b∉X.ex->b∉ch:=λb o e t f=>by
  rcases (D b f).1 with z | z
  .exact t z
  .exact q02 (q21 (lt_size e) z) (q37 _)
 have L:∀x c,X.env.cells.lookup x=some c->∀v,s.heap.IsCell c v->h'.IsCell c v:=λx c e v ⟨o,y,J⟩=>by
  have A:c∉ch:=λz=>(D c z).2.2.1 x c e rfl;by_cases M:c∈X.fs
  .obtain⟨sl,q⟩:=slot c o (I.De x c e) M A y (I.cI x c e);exact⟨_,q,J⟩
  .exact⟨o,keep c o (I.De x c e) M A y (I.cI x c e),J⟩
 refine⟨I.ok,I.os,R,⟨λb o e n f t=>?_,λb o e n f t=>?_,λb o e n t=>?_,λb o e t=>?_,λb g e=>cf b g (I.base.cf b g e),λb o g e=>bX b o g (I.base.bX b o g e),λb G e=>?_⟩,?_,λx c e=>?_,?_,λx c e=>?_,λp N=>?_,aO,I.len⟩
 .exact keep b o (K b o e) f (E b o e t) (I.base.keep b o e n f t) (I.base.free b o e n t)
 .obtain⟨sl,j⟩:=I.base.slot b o e n f t;obtain⟨O,B⟩:=slot b _ (K b o e) f (E b o e t) j (I.base.free b o e n t);exact⟨O,B⟩
 .obtain⟨C,j⟩:=I.base.there b o e t;exact free b C (E b o e t) j (I.base.free b o e n t)
 .obtain⟨C,j⟩:=I.base.there b o e t;exact there b C (E b o e t) j
 .obtain⟨m1,j⟩:=I.base.cg b G e;obtain⟨S,B⟩:=cg b _ j;exact⟨m1++S,by rw[B,Array.append_assoc]⟩
 .obtain⟨m,hn,hl⟩:=I.loc;refine⟨m,ns m hn,λi x v j B Q=>?_⟩;obtain⟨u,r,l⟩:=hl i x v j B Q;refine⟨u,r,?_⟩;rcases l with l | ⟨k,c,e,z⟩
  .exact .inl l
  .exact .inr ⟨k,c,e,L x c e _ z⟩
 .obtain⟨v,z⟩:=I.cell x c e;exact⟨v,L x c e v z⟩
 .obtain⟨m,⟨o,_,_,y,_⟩,_⟩:=I.loc;exact free _ o (λz=>(D _ z).2.1 rfl) y I.free
 .obtain⟨v,o,y,J⟩:=I.cell x c e;exact free c o (λz=>(D c z).2.2.1 x c e rfl) y (I.cI x c e)
 .obtain⟨e,n,ne,nf,d⟩:=I.pin p N;have A:p.1∉ch:=λz=>(D p.1 z).2.2.2 p N rfl;exact⟨keep p.1 p.2 ne nf A e n,free p.1 p.2 A e n,ne,nf,d⟩
def Inv.un(I:Inv X pins σ H s)(u:Un X.fs [] H H' s.heap h')(aO:eA X.prog X.w H' h'):Inv X pins σ H' { s with heap:=h',toks:=t' }:=by
 obtain⟨m,⟨o,q,p,v,r⟩,_⟩:=id I.loc;obtain⟨sl,j⟩:=u.any v I.free (by simp);exact I.step (g':=s.gens) (d':=s.drawn) (ch:=[]) (λ_ z=>nomatch z) (λb o _ t _ e n=>u.keep b o e n t (by simp)) (λb o _ t _ e n=>u.slot b o e n t (by simp)) (λb o _ e n=>u.free b o e n (by simp)) (λb o _ e=>u.there b o e (by simp)) u.cf u.bX u.cg (λg k=>by
  obtain⟨f,d,i,c,l⟩:=k;rw[v]at c;cases c;exact⟨_,d,i,j,l⟩) aO I.bare
def Inv.call{d':Drawn}(I:Inv X pins σ H s)(u:Un (cL X.stack) ch H H' s.heap h')(aO:eA X.prog X.w H' h')(g:AllBare g')
 (j:∀b∈ch,(b∈X.ex\/X.s₀.heap.objs.size<=b)/\b≠X.env.locals/\(∀x c,X.env.cells.lookup x=some c->c≠b)/\∀p∈X.pn++pins,p.1≠b) :
 Inv X pins σ H' { s with heap:=h',gens:=g',drawn:=d',toks:=t' }:=by
 obtain⟨m,⟨o,B,A,d,r⟩,_⟩:=id I.loc;obtain⟨sl,v⟩:=u.any d I.free λz=>(j _ z).2.1 rfl;exact I.step (ch:=ch) j (λb o v q t e n=>u.keep b o e n (λz=>(q27.mp (I.jA b z)).elim v q) t) (λb o _ _ t e n=>u.any e n t) (λb o t e n=>u.free b o e n t) (λb o t e=>u.there b o e t) u.cf u.bX u.cg (λC f=>by
  obtain⟨D,k,l,i,y⟩:=f;rw[d]at i;cases i;exact⟨_,k,l,v,y⟩) aO g
def Inv.turned{it:Addr}(I:Inv X pins σ H s)(k:∀b o,b≠it->s.heap.get? b=some o->h'.get? b=some o)(A:H it=none)(d:it≠X.env.locals)
 (j:it∈X.ex\/X.s₀.heap.objs.size<=it) (l:∀x c,X.env.cells.lookup x=some c->c≠it) (g:∀p∈X.pn++pins,p.1≠it):Inv X pins σ H { s with heap:=h',toks:=t' }:=by
 have i:∀b u,H b=some u->b≠it:=λb u e z=>by rw[z,A]at e;cases e
 refine I.step (g':=s.gens) (d':=s.drawn) (ch:=[it]) (λb f=>?_) (λb o _ _ t e _=>k b o (λz=>t (by simp[z])) e) (λb o _ _ t e _=>⟨o.slots,k b o (λz=>t (by simp[z])) e⟩) (λ_ _ _ _ n=>n)
  (λb o t e=>⟨o,k b o (λz=>t (by simp[z])) e⟩) (λ_ _ e=>e) (λ_ _ _ e=>e) (λb B e=>⟨#[],by rw[e];simp⟩) (λm y=>?_) (λb u e=>?_) I.bare
 .have e:b=it:=by simpa using f
  subst e;exact⟨j,d,l,g⟩
 .obtain⟨o,es,ep,ho,r⟩:=y;exact⟨o,es,ep,k _ o (Ne.symm d) ho,r⟩
 .refine(I.aO b u e).dJ (λc v t q=>k c v ?_ q) (λ_ q=>q) λ_ _ q=>q;rcases t with z | z
  .rw[z];exact i b u e
  .exact i c _ z
def Inv.tok(I:Inv X pins σ H s)(t:Nat):Inv X pins σ H { s with toks:=t }:=I.un (h':=s.heap) (t':=t) Un.refl I.aO
def Inv.kept(I:Inv X pins σ H s)(k:∀b u,s.heap.get? b=some u->h'.get? b=some u):Inv X pins σ H { s with heap:=h',toks:=t' }:=I.un (Un.kept k) (I.aO.kept k)
def Inv.laid{a:Addr}{o:HO}(I:Inv X pins σ H s)(k:∀b u,s.heap.get? b=some u->h'.get? b=some u)(e:s.heap.objs.size<=a)(new:bH X.prog X.w (upd H a o) h' a o):
 Inv X pins σ (upd H a o) { s with heap:=h',toks:=t' }:=I.un (Un.laid k e (I.aO.fresh e)) (I.aO.laid k e new)
def Inv.write{x e:Addr}{o:HO}(I:Inv X pins σ H s)(v:FZ (H x))(he:e=x\/H e=some (.own x))(k:∀b u,b≠e->s.heap.get? b=some u->h'.get? b=some u)(t:∃u,h'.get? e=some u)
 (new:bH X.prog X.w (upd H x o) h' x o):Inv X pins σ (upd H x o) { s with heap:=h',toks:=t' }:=I.un (Un.write v he k t) (I.aO.write v he k t new)
def Inv.fv{pins':List (Addr×Obj)}(I:Inv X pins σ H s)(h:∀p∈pins',s.heap.get? p.1=some p.2/\H p.1=none/\p.1≠X.env.locals/\p.1∉X.fs/\∀v,p.2.data ≠ .cell v):Inv X pins' σ H s :=
 ⟨I.ok,I.os,I.bare,I.base,I.loc,I.cell,I.free,I.cI,λp e=>(List.mem_append.mp e).elim (λz=>I.pin p (mem_append_left _ z)) (h p),I.aO,I.len⟩
variable {i:Nat}{x:Str}
def TU{N:List Str}(v:N.Nodup){j:Nat}(a:N[i]? = some x)(b:N[j]? = some x):i=j:=by
 obtain⟨n,e⟩:=q45.mp a;obtain⟨r,t⟩:=q45.mp b;exact(getElem_inj v).mp (e.trans t.symm)
variable {E:Value->Shared->Prop}{Q:Unit->Shared->Prop}
def MH{g1:Model}{A:Around}{v:V}{u:Value}(I:Inv X pins σ H s)(Z:X.N.Nodup)(D:X.N[i]? = some x)(g:Loc X.env.scope x)(r:RelV v u)
 (h:∀R,Inv X pins (σ.set i (some v)) H R->(∃a,SameBut a s.heap R.heap/\(a=X.env.locals\/X.env.cells.lookup x=some a))->Q () R) (hf:X.fn x=true\/X.env.scope.names.lookup x=some .local:=by first | exact .inl rfl | exact .inr rfl | assumption):wpAny g1 A (storeName X.env x u) Q E s:=by
 obtain⟨g2,L,F⟩:=id I.loc;have rQ:(X.env.scope.kind == .class || (X.env.scope.kind == .module && X.env.locals != X.env.globals))=false:=by rw[I.ok.kind];rfl
 have W:i<σ.length:=by rw[I.len];exact(q45.mp D).1
 have De:=I.De;have g0:∀{a:Addr}{h':Heap},(∃o,s.heap.get? a=some o/\H a=none)->SameBut a s.heap h'->eA X.prog X.w H h':=λ{a h'} ha t b ob e=>by
  obtain⟨_,_,U⟩:=ha;refine(I.aO b ob e).dJ (λc J m q=>(t.2 c ?_).trans q) (λ_ q=>q) λ_ _ q=>q;rintro rfl;rcases m with rfl | m
  .rw[U]at e;cases e
  .rw[U]at m;cases m
 rcases g with B | B
 .refine wpAny_storeName_local B L (λh' Jr t=>?_) rQ;obtain⟨oL,_,_,Y3,_⟩:=id L;refine h _ ⟨I.ok,I.os,I.bare,⟨λb o e n C g=>?_,λb o e n C g=>?_,I.base.free,λb o e g=>?_,I.base.cf,I.base.bX,I.base.cg⟩,⟨_,Jr,λj y T l f K=>?_⟩,λy c e=>?_,I.free,I.cI,λp M=>?_,g0 ⟨oL,Y3,I.free⟩ t,by simpa using I.len⟩ ⟨_,t,.inl rfl⟩
  .exact(t.2 b (ne_of_lt (q21 (lt_size e) I.ok.above))).trans (I.base.keep b o e n C g)
  .obtain⟨sl,l⟩:=I.base.slot b o e n C g;exact⟨sl,(t.2 b (ne_of_lt (q21 (lt_size e) I.ok.above))).trans l⟩
  .obtain⟨o',l⟩:=I.base.there b o e g;exact⟨o',(t.2 b (ne_of_lt (q21 (lt_size e) I.ok.above))).trans l⟩
  .by_cases hj:j=i
   .subst hj;rw[D]at l;cases l;rw[List.getElem?_set_self W]at f;cases f;exact⟨u,r,.inl ⟨B,by simp⟩⟩
   .rw[List.getElem?_set_ne (Ne.symm hj)]at f;obtain⟨S,O,q⟩:=F j y T l f K;refine⟨S,O,?_⟩;rcases q with⟨k,e⟩|⟨k,c,e,z⟩
    .refine .inl ⟨k,?_⟩;have:y≠x:=λe=>hj (TU Z l (e ▸ D));simp[this,e]
    .exact .inr ⟨k,c,e,z.sameBut t (De y c e)⟩
  .obtain⟨J,z⟩:=I.cell y c e;exact⟨J,z.sameBut t (De y c e)⟩
  .obtain⟨e,n,ne,nf,d⟩:=I.pin p M;exact⟨(t.2 p.1 ne).trans e,n,ne,nf,d⟩
 .have Js:X.fn x=true:=by
   rcases hf with z | z
   .exact z
   .rw[z]at B;cases B
  obtain⟨c,m⟩:=I.ok.has x (.inl B);obtain⟨J,z⟩:=I.cell x c m;refine wpAny_storeName_cell I.ok.kind B m z (λh' rR t=>?_);obtain⟨P,Y,MI⟩:=id z;refine h { s with heap:=h' } ⟨I.ok,I.os,I.bare,⟨λb o e n C g=>?_,λb o e n C g=>?_,I.base.free,λb o e g=>?_,I.base.cf,I.base.bX,I.base.cg⟩,⟨g2,L.sameBut t (Ne.symm (De x c m)),λj y T l f K=>?_⟩,λy G e=>?_,I.free,I.cI,λp M=>?_,g0 ⟨P,Y,I.cI x c m⟩ t,by simpa using I.len⟩ ⟨c,t,.inr m⟩
  .exact(t.2 b (ne_of_lt (q21 (lt_size e) (I.ok.qO x c Js m)))).trans (I.base.keep b o e n C g)
  .obtain⟨sl,l⟩:=I.base.slot b o e n C g;exact⟨sl,(t.2 b (ne_of_lt (q21 (lt_size e) (I.ok.qO x c Js m)))).trans l⟩
  .obtain⟨o',l⟩:=I.base.there b o e g;exact⟨o',(t.2 b (ne_of_lt (q21 (lt_size e) (I.ok.qO x c Js m)))).trans l⟩
  .by_cases hj:j=i
   .subst hj;rw[D]at l;cases l;rw[List.getElem?_set_self W]at f;cases f;exact⟨u,r,.inr ⟨.inl B,c,m,rR⟩⟩
   .rw[List.getElem?_set_ne (Ne.symm hj)]at f;obtain⟨S,O,q⟩:=F j y T l f K;refine⟨S,O,?_⟩;rcases q with q | ⟨k,G,e,z'⟩
    .exact .inl q
    .refine .inr ⟨k,G,e,z'.sameBut t ?_⟩;rintro rfl;exact hj (TU Z l (I.ok.inj _ _ _ e m ▸ D))
  .by_cases rS:G=c
   .subst rS;exact⟨_,rR⟩
   .obtain⟨w2,z2⟩:=I.cell y G e;exact⟨w2,z2.sameBut t rS⟩
  .obtain⟨e,n,ne,nf,d⟩:=I.pin p M;refine⟨(t.2 p.1 ?_).trans e,n,ne,nf,d⟩;intro q;rw[q,Y]at e;have q':P=p.2:=q22 e;exact d J (by rw[<-q'];exact MI)
def TY{M:Model}{A:Around}{v:V}{u:Value}(I:Inv X pins σ H s)(n:X.N.Nodup)(d:X.N[i]? = some x)(j:Loc X.env.scope x)(r:RelV v u)
 (h:∀e,Inv X pins (σ.set i (some v)) H e->Q () e) (c:X.fn x=true\/X.env.scope.names.lookup x=some .local:=by first | exact .inl rfl | exact .inr rfl | assumption):wpAny M A (storeName X.env x u) Q E s :=
 MH I n d j r (λe t _=>h e t) c
def Inv.BQ{t:Shared}(I:Inv X pins σ H s)(n:t.os=s.os)(u:Un (cL X.stack) ch H H' s.heap t.heap)(aO:eA X.prog X.w H' t.heap)(v:AllBare t.gens)
 (d:∀b∈ch,(b∈X.ex\/X.s₀.heap.objs.size<=b)/\b≠X.env.locals/\(∀x c,X.env.cells.lookup x=some c->c≠b)/\∀p∈X.pn++pins,p.1≠b):Inv X pins σ H' t:=by
 obtain⟨h',g',d',t',r⟩:=t;have e:r=s.os:=n;subst e;exact I.call (g':=g') (t':=t') (d':=d') u aO v d
end
abbrev XK:=Value->Option Addr->Hp->Prop
abbrev St:=List (Option V)
abbrev VK:=V->Hp->Prop
abbrev TE:=St->Hp->VK->Prop
abbrev TT:=St->Hp->(Bool->Hp->Prop)->Prop
abbrev TA:=St->Hp->(List V->Hp->Prop)->Prop
structure Ends where
 nx:St->Hp->Prop
 rt:VK
 bk:St->Hp->Prop:=λ_ _=>False
 ct:St->Hp->Prop:=λ_ _=>False
abbrev TS:=Ends->St->Hp->Prop
def EP(X:Cx)(pins:List (Addr×Obj))(σ:St)(Q:VK)(u:Value)(t:Shared):Prop:=∃v e,Inv X pins σ e t/\RelV v u/\Q v e
def TP(X:Cx)(pins:List (Addr×Obj))(σ:St)(Q:Bool->Hp->Prop)(b:Bool)(t:Shared):Prop:=∃e,Inv X pins σ e t/\Q b e
def AP(X:Cx)(pins:List (Addr×Obj))(σ:St)(Q:List V->Hp->Prop)(us:List Value)(v:Shared):Prop:=∃t e,Inv X pins σ e v/\Vals t us/\Q t e
def SP(X:Cx)(pins:List (Addr×Obj))(D:Ends)(f:Flow)(n:Shared):Prop :=
 match f with
 | .next=>∃t e,Inv X pins t e n/\D.nx t e
 | .brk=>∃t e,Inv X pins t e n/\D.bk t e
 | .cont=>∃t e,Inv X pins t e n/\D.ct t e
 | .ret u=>∃v t e,Inv X pins t e n/\RelV v u/\D.rt v e
def PE(X:Cx)(e:Expr)(t:TE):Prop :=
 ∀(n:List (Addr×Obj)) (s:Shared) (v:St) (H:Hp) (Q:VK),Inv X n v H s->t v H Q->wpAny (model X.prog X.w) X.A (eval e X.env) (EP X n v Q) X.xe s
def PT(X:Cx)(e:Expr)(t:TT):Prop :=
 ∀(n:List (Addr×Obj)) (s:Shared) (v:St) (H:Hp) (Q:Bool->Hp->Prop),Inv X n v H s->t v H Q->wpAny (model X.prog X.w) X.A (isTrue e X.env (eval e X.env)) (TP X n v Q) X.xe s
def PW(X:Cx)(e:Expr)(t:TT):Prop :=
 ∀(r:Sem Value)(n:List (Addr×Obj)) (s:Shared) (v:St) (H:Hp) (Q:Bool->Hp->Prop),Inv X n v H s->t v H Q->wpAny (model X.prog X.w) X.A (isTrue e X.env r) (TP X n v Q) X.xe s
variable {X:Cx}
def PW.pt{e:Expr}{t:TT}(h:PW X e t):PT X e t:=h _
def PA(X:Cx)(n:List Expr)(t:TA):Prop :=
 ∀(r:Pos)(v:List (Addr×Obj)) (s:Shared) (e:St) (H:Hp) (Q:List V->Hp->Prop),Inv X v e H s->t e H Q->wpAny (model X.prog X.w) X.A (spliced (backTo r (starEach n X.env))) (AP X v e Q) X.xe s
def PS(X:Cx)(st:Stmt)(t:TS):Prop :=
 ∀(e:List (Addr×Obj)) (s:Shared) (v:St) (H:Hp) (D:Ends),Inv X e v H s->t D v H->wpAny (model X.prog X.w) X.A (exec st X.env) (SP X e D) X.xe s
def kb(X:Cx)(st:List Stmt)(t:TS):Prop :=
 ∀(e:List (Addr×Obj)) (s:Shared) (v:St) (H:Hp) (D:Ends),Inv X e v H s->t D v H->wpAny (model X.prog X.w) X.A (execs st X.env) (SP X e D) X.xe s
variable {A:Around}{E:Value->Shared->Prop}{s:Shared}
def aU{v:Type}{t:Sem v}{Q e:v->Shared->Prop}{M:Model}(h:wpAny M A t Q E s)(n:∀a s,Q a s->e a s):wpAny M A t e E s:=wpAny_mono h n λ_ _ x=>x
section
variable {X:Cx}{pins:List (Addr×Obj)}{s:Shared}
def bin{a b:Expr}{r c:TE}(k:PE X a r)(l:PE X b c){σ:St}{H:Hp}{R:V->V->Hp->Prop}(I:Inv X pins σ H s)(h:r σ H λx n=>c σ n λy e=>R x y e)
 {d:Type} {Q:d->Shared->Prop} {f:Value->Value->Sem d}
 (m:∀v u t x y e,Inv X pins σ e t->RelV x v->RelV y u->R x y e->wpAny (model X.prog X.w) X.A (f v u) Q X.xe t) :
 wpAny (model X.prog X.w) X.A (eval a X.env) (λv C=>wpAny (model X.prog X.w) X.A (eval b X.env) (λu D=>wpAny (model X.prog X.w) X.A (f v u) Q X.xe D) X.xe C) X.xe s:=by
 refine aU (k pins s σ H _ I h) λv B ⟨x,n,i,g,p⟩=>?_;refine aU (l pins B σ n _ i p) λu t ⟨y,e,j,z,q⟩=>?_;exact m v u t x y e j g z q
inductive BR (i:Nat)(σ:St)(H:Hp)(Q:VK):Prop|mk(v:_):σ[i]? = some (some v)->Q v H->BR i σ H Q
def Gb(i:Nat):TE:=λe H Q=>BR i e H Q
def tC(v:V):TE:=λ_ H Q=>Q v H
variable {x:Str}
def rT{i:Nat}{z:Pos}(k:X.N[i]? = some x)(f:F6 X.env.scope x)(hd:(x==("__debug__":Str))=false:=by decide)(y:(x==("__classdict__":Str))=false:=by decide):PE X (.Name x z) (Gb i):=by
 intro pins s B H Q I h;obtain⟨v,e,h⟩:=h;obtain⟨m,g,p⟩:=I.loc;obtain⟨u,r,l⟩:=p i x v k e f;have n:EP X pins B Q u s:=⟨v,H,I,r,h⟩;rcases l with⟨t,q⟩|⟨t,c,j,d⟩
 .exact wpAny_Name (wpAny_loadName_local I.ok.kind t g q n) hd
 .rcases t with t | t
  .exact wpAny_Name (wpAny_loadName_cell I.ok.kind t j d n) hd
  .exact wpAny_Name (wpAny_loadName_free I.ok.kind t j d n y) hd
def zg{i j e}:PE X (.Constant (.int i) j e) (tC (.int i)):=λ_ _ _ H _ I h=>wpAny_Constant_int ⟨.int i,H,I.tok _,⟨_,rfl⟩,h⟩
def oB{b j e}:PE X (.Constant (.bool b) j e) (tC (.bl b)):=λ_ _ _ H _ I h=>Constant_bool ⟨.bl b,H,I,rfl,h⟩
def E4{j e}:PE X (.Constant .none j e) (tC .bR):=λ_ _ _ H _ I h=>Constant_none ⟨.bR,H,I,rfl,h⟩
def zm{x j e}:PE X (.Constant (.str x) j e) (tC (.str x)):=λ_ _ _ H _ I h=>Calls.Constant_str ⟨.str x,H,I.tok _,⟨_,rfl⟩,h⟩
def Gl(X:Cx)(x:Str):Prop:=X.env.kindOf x=some .globalImplicit
variable {E Q:Value->Shared->Prop}{u:Value}
def Df{σ:St}{H:Hp}{v:Pos}(I:Inv X pins σ H s)(e:Gl X x)(t:X.mg x=some u)(h:Q u s)
 (hd:(x==("__debug__":Str))=false:=by decide):wpAny (model X.prog X.w) X.A (eval (.Name x v) X.env) Q E s :=
 Calls.Name_function_global I.ok.kind e (Calls.loadGlobal_global (by rw[I.ok.glob];exact I.mod.glob.keeps I.bk) t h) hd
def vZ{σ:St}{H:Hp}{d:Pos}(I:Inv X pins σ H s)(v:Gl X x)(n:X.mg x=none)(c:bootBuiltins x=some u)(h:Q u s)
 (r:x≠"__name__":=by decide) (hd:(x==("__debug__":Str))=false:=by decide):wpAny (model X.prog X.w) X.A (eval (.Name x d) X.env) Q E s:=by
 obtain⟨i,e,t⟩:=I.mod.blt;exact Calls.Name_function_global I.ok.kind v (Calls.loadGlobal_builtin (by rw[I.ok.glob];exact I.mod.glob.keeps I.bk) n (by rw[I.ok.blt];exact e.keeps I.bk) ((t x r).trans c) h) hd
def x8{v:V}{n:Pos}(e:Gl X x)(t:X.mg x=some u)(r:RelV v u)(hd:(x==("__debug__":Str))=false:=by decide):PE X (.Name x n) (tC v) :=
 λ_ _ _ H _ I h=>Df I e t ⟨v,H,I,r,h⟩ hd
def Gd{v:V}{d:Pos}(e:Gl X x)(t:X.mg x=none)(c:bootBuiltins x=some u)(r:RelV v u)(n:x≠"__name__":=by decide)(hd:(x==("__debug__":Str))=false:=by decide):PE X (.Name x d) (tC v) :=
 λ_ _ _ H _ I h=>vZ I e t c ⟨v,H,I,r,h⟩ n hd
variable {a b:Expr}{ta tb:TE}{pos:Pos}
def PC(X:Cx)(op:CmpOp)(a b:Expr)(t:TE):Prop :=
 ∀(pins:List (Addr×Obj)) (s:Shared) (e:St) (H:Hp) (Q:VK),Inv X pins e H s->t e H Q ->
  wpAny (model X.prog X.w) X.A (eval a X.env) (λv n=>wpAny (model X.prog X.w) X.A (eval b X.env) (λu r=>wpAny (model X.prog X.w) X.A (compareOp op v u) (EP X pins e Q) X.xe r) X.xe n) X.xe s
inductive TZ (x:V)(e:Hp)(Q:Bool->Hp->Prop):Prop|mk(c:_):x=.bl c->Q c e->TZ x e Q
def tB(t:TE):TT:=λv H Q=>t v H λx e=>TZ x e Q
def rV{op:CmpOp}{t:TE}(h:PC X op a b t)(e:behindInMarks op b=false:=by first | exact Ge _ (by decide) (by decide) | rfl):PT X (.Compare a [op] [b] pos) (tB t):=by
 intro pins s m H Q I j;refine wpAny_isTrue_Compare1 (aU (h pins s m H _ I j) λv p e=>aU e λu g i=>aU i λc f ⟨x,n,r,l,k⟩=>?_) e;obtain⟨d,rfl,q⟩:=k;cases l;exact wpAny_truthy_bool ⟨n,r,q⟩
def mI{e:Expr}{t:TE}(h:PE X e t)(he:∀n,isTrue e X.env n=(do let v <-n;standAt e.pos;holding [v] (truthy v)):=by intro _;rfl):PT X e (tB t):=by
 intro pins s l H Q I i;refine isTrue_plain (aU (h pins s l H _ I i) λv m ⟨x,r,c,k,j⟩=>?_) (he _);obtain⟨d,rfl,q⟩:=j;cases k;exact wpAny_truthy_bool ⟨r,c,q⟩
variable {tA Jt:TT}{ka:List Expr}
def MJ(t u:TT):TT:=λv H Q=>t v H λc e=>if c=true then u v e Q else Q false e
def T1(t u:TT):TT:=λv H Q=>t v H λc e=>if c=true then Q true e else u v e Q
def MK(t:TT):TT:=λv H Q=>t v H λc e=>Q (!c) e
def Aa(t:PT X a tA):PW X (.BoolOp .And [a] pos) tA:=by
 intro r pins s v H Q I h;refine isTrue_and (aU (t pins s v H Q I h) λc n e=>?_);cases c with
 | true=>exact isTrue_and_nil e
 | false=>exact e
def BS(t:PT X a tA):PW X (.BoolOp .Or [a] pos) tA:=by
 intro r pins s v H Q I h;refine isTrue_or (aU (t pins s v H Q I h) λc n e=>?_);cases c with
 | false=>exact isTrue_or_nil e
 | true=>exact e
def Ab(r:PT X a tA)(d:PW X (.BoolOp .And (b::ka) pos) Jt):PW X (.BoolOp .And (a::b::ka) pos) (MJ tA Jt):=by
 intro j pins s n H Q I h;refine isTrue_and (aU (r pins s n H _ I h) λc i ⟨e,t,v⟩=>?_);cases c with
 | true=>exact d j pins i n e Q t v
 | false=>exact⟨e,t,v⟩
def Ac(r:PT X a tA)(d:PW X (.BoolOp .Or (b::ka) pos) Jt):PW X (.BoolOp .Or (a::b::ka) pos) (T1 tA Jt):=by
 intro j pins s n H Q I h;refine isTrue_or (aU (r pins s n H _ I h) λc i ⟨e,t,v⟩=>?_);cases c with
 | true=>exact⟨e,t,v⟩
 | false=>exact d j pins i n e Q t v
def qR(t:PT X a tA):PT X (.UnaryOp .Not a pos) (MK tA):=by
 intro pins s v H Q I h;exact isTrue_not (t pins s v H (λc e=>Q (!c) e) I h)
inductive rW (tb:TE)(σ:St)(x:V)(e:Hp)(Q:VK):Prop|mk(c:_):x=.bl c->(if c=true then tb σ e Q else Q (.bl false) e)->rW tb σ x e Q
def Gf(ta tb:TE):TE:=λe H Q=>ta e H λx t=>rW tb e x t Q
inductive rX (x:V)(e:Hp)(Q:VK):Prop|mk(c:_):x=.bl c->Q (.bl (!c)) e->rX x e Q
def Gg(ta:TE):TE:=λt H Q=>ta t H λx e=>rX x e Q
def Gh{op}{t:TE}(h:PE X a t):PE X (.BoolOp op [a] pos) t:=λpins s v H Q I e=>BoolOp_one (h pins s v H Q I e)
def BU(d:PE X a ta)(i:PE X (.BoolOp .And (b::ka) pos) tb):PE X (.BoolOp .And (a::b::ka) pos) (Gf ta tb):=by
 intro pins s r H Q I h;refine BoolOp_and (aU (d pins s r H _ I h) λv k ⟨x,t,n,j,e⟩=>?_);obtain⟨c,rfl,e⟩:=e;cases j;refine wpAny_truthy_bool ?_;cases c with
 | true=>exact i pins k r t Q n e
 | false=>exact⟨.bl false,t,n,rfl,e⟩
def Dg(r:PE X a ta):PE X (.UnaryOp .Not a pos) (Gg ta):=by
 intro pins s i H Q I h;refine UnaryOp_ (aU (r pins s i H _ I h) λv j ⟨x,t,n,d,e⟩=>?_);obtain⟨c,rfl,e⟩:=e;cases d;exact not_of (wpAny_truthy_bool ⟨.bl (!c),t,n,rfl,e⟩)
def Y4(t:TT)(ta tb:TE):TE:=λe H Q=>t e H λc v=>if c=true then ta e v Q else tb e v Q
def ML{c:Expr}(k:PT X c tA)(i:PE X a ta)(j:PE X b tb):PE X (.IfExp c a b pos) (Y4 tA ta tb):=by
 intro pins s e H Q I h;refine wpAny_IfExp (aU (k pins s e H _ I h) λd r ⟨t,v,n⟩=>?_);cases d with
 | true=>exact i pins r e t Q v n
 | false=>exact j pins r e t Q v n
end
def ah(K:Frag)(H:Hp)(a:Addr)(xs:List V):Prop :=
 Rd H a (.lst xs) \/
  ∃(o:Obj)(e:Array Value)(n:Nat),K.lookup a=some o/\o.cls=.type "list"/\o.dict=none/\o.data=.seq e n/\e.size<=sizeLine/\Vals xs e.toList
def cE(K:Frag)(H:Hp)(a:Addr)(xs:List V):Prop :=
 Rd H a (.tup xs) \/
  ∃(o:Obj)(e:Array Value)(n:Nat),K.lookup a=some o/\o.cls=.type "tuple"/\o.data=.seq e n/\e.size<=sizeLine/\Vals xs e.toList
def MM:Value->Option V
 | .none=>some .bR
 | .bool b=>some (.bl b)
 | .int i _=>some (.int i)
 | .str x _=>some (.str x)
 | .bytes b _=>some (.kQ b)
 | .float b _=>some (.Jo b)
 | .ref a=>some (.ref a)
 | .type n=>some (.ty n)
 | _=>none
def RelV.abs{x:V}(r:RelV x u):MM u=some x:=by
 cases x with
 | bR=>cases r;rfl
 | bl _=>cases r;rfl
 | int _=>obtain⟨t,rfl⟩:=r;rfl
 | str _=>obtain⟨t,rfl⟩:=r;rfl
 | kQ _=>obtain⟨t,rfl⟩:=r;rfl
 | Jo _=>obtain⟨t,rfl⟩:=r;rfl
 | ref _=>cases r;rfl
 | ty _=>cases r;rfl
def RelV.inj{x y:V}(r:RelV x u)(q:RelV y u):x=y:=q22 (r.abs.symm.trans q.abs)
def Vals.inj:∀{e v:List V}{us:List Value},Vals e us->Vals v us->e=v
 | _,_,_,.nil,.nil=>rfl
 | _,_,_,.cons r t,.cons n c=>by rw[r.inj n,Vals.inj t c]
section
variable {X:Cx}{pins:List (Addr×Obj)}{σ:St}{H:Hp}{s:Shared}{a:Addr}{xs ys:List V}
def ah.of{K:Frag}(h:H a=some (.lst xs)):ah K H a xs:=.inl (.inl h)
def cE.of{K:Frag}(h:H a=some (.tup xs)):cE K H a xs:=.inl (.inl h)
def Inv.list(I:Inv X pins σ H s)(h:ah X.K H a xs):∃t:List Value,Vals xs t/\PlainL s.heap a t.toArray/\xs.length<=sizeLine:=by
 rcases h with h | ⟨o,t,n,d,v,c,i,j,r⟩
 .obtain⟨z,t,n,r,e⟩:=h.ok I.aO;exact⟨t,r,⟨_,n,e,rfl,rfl,rfl⟩,z⟩
 .refine⟨t.toList,r,⟨o,n,I.j0 a o d,v,c,by simpa using i⟩,?_⟩;have e:=r.length;simp only[Array.length_toList]at e;omega
def Inv.tuple(I:Inv X pins σ H s)(h:cE X.K H a xs):∃t:List Value,Vals xs t/\IsTup s.heap a t.toArray/\xs.length<=sizeLine:=by
 rcases h with h | ⟨o,t,n,c,v,d,i,r⟩
 .obtain⟨z,t,r,p⟩:=h.ok I.aO;exact⟨t,r,p,z⟩
 .refine⟨t.toList,r,⟨o,I.j0 a o c,v,n,by simpa using d⟩,?_⟩;have e:=r.length;simp only[Array.length_toList]at e;omega
def Inv.iq(I:Inv X pins σ H s)(h:ah X.K H a xs)(h':ah X.K H a ys):xs=ys:=by
 obtain⟨c,r,⟨o,n,e,_,_,d⟩,_⟩:=I.list h;obtain⟨j,k,⟨m,l,v,_,_,t⟩,_⟩:=I.list h';rw[e]at v;cases v;rw[d]at t;injection t with i _
 have:c=j:=by simpa using congrArg Array.toList i
 subst this;exact r.inj k
end
abbrev Cx.ja(X:Cx)(E:Value->Shared->Prop):Cx:={ X with xe:=E }
abbrev Cx.E5(X:Cx):Cx:=X.ja λ_ _=>False
def Cx.Ok.ja(ok:X.Ok)(E:Value->Shared->Prop):(X.ja E).Ok :=
 ⟨ok.mod,ok.kind,ok.glob,ok.blt,ok.above,ok.inj,ok.has,ok.qO,ok.hd,ok.frames,ok.qP,ok.rP,ok.bs,ok.jz,ok.gz,ok.gU,ok.cM,ok.kY⟩
def Cx.Ok.eL(ok:(X.ja E).Ok):X.Ok :=
 ⟨ok.mod,ok.kind,ok.glob,ok.blt,ok.above,ok.inj,ok.has,ok.qO,ok.hd,ok.frames,ok.qP,ok.rP,ok.bs,ok.jz,ok.gz,ok.gU,ok.cM,ok.kY⟩
section
variable {X:Cx}{pins:List (Addr×Obj)}{σ:St}{H:Hp}{s:Shared}{E:Value->Shared->Prop}
def Inv.ja(I:Inv X pins σ H s)(E:Value->Shared->Prop):Inv (X.ja E) pins σ H s:=⟨I.ok.ja E,I.os,I.bare,I.base,I.loc,I.cell,I.free,I.cI,I.pin,I.aO,I.len⟩
def Inv.eL(I:Inv (X.ja E) pins σ H s):Inv X pins σ H s:=⟨I.ok.eL,I.os,I.bare,I.base,I.loc,I.cell,I.free,I.cI,I.pin,I.aO,I.len⟩
def SP.eL{D:Ends}{f:Flow}{n:Shared}(h:SP (X.ja E) pins D f n):SP X pins D f n:=by
 cases f with
 | next=>obtain⟨t,e,I,q⟩:=h;exact⟨t,e,I.eL,q⟩
 | brk=>obtain⟨t,e,I,q⟩:=h;exact⟨t,e,I.eL,q⟩
 | cont=>obtain⟨t,e,I,q⟩:=h;exact⟨t,e,I.eL,q⟩
 | ret u=>obtain⟨v,t,e,I,r,q⟩:=h;exact⟨v,t,e,I.eL,r,q⟩
def kb.E5{st:List Stmt}{t:TS}(h:kb X.E5 st t):kb X st t:=λpins s σ H D I e =>
 wpAny_mono (h pins s σ H D (I.ja _) e) (λ_ _ q=>q.eL) λ_ _ z=>False.elim z
end
section
variable {X:Cx}{st:Stmt}{ka:List Stmt}{t u:TS}{e:Expr}{te:TE}{pos:Pos}
def Gi:TS:=λD v H=>D.nx v H
def MN(t u:TS):TS:=λD v H=>t { D with nx:=u D } v H
def zn:kb X [] Gi:=λ_ _ v H _ I h=>wpAny_execs_nil ⟨v,H,I,h⟩
def zc(d:PS X st t)(i:kb X ka u):kb X (st::ka) (MN t u):=by
 intro n s k H D I h;refine wpAny_execs_cons (aU (d n s k H { D with nx:=u D } I h) λf j q=>?_);cases f with
 | next =>
   obtain⟨l,r,c,q⟩:=q;exact i n j l r D c q
 | ret v=>exact q
 | brk=>exact q
 | cont=>exact q
def ze(n:PS X st t):kb X [st] t:=by
 intro r s c H D I h;refine wpAny_execs_cons (aU (n r s c H D I h) λf d q=>?_);cases f with
 | next=>exact wpAny_execs_nil q
 | ret v=>exact q
 | brk=>exact q
 | cont=>exact q
def Inv.quiet{pins:List (Addr×Obj)}{σ:St}{H:Hp}{s:Shared}(I:Inv X pins σ H s):interactive X.env=false:=by simp[interactive,I.ok.kind]
def Gj(te:TE):TS:=λD v H=>te v H λ_ n=>D.nx v n
def zI(he:PE X e te)(hs:swapsWith e none pos.line X.env=pure false:=by rfl):PS X (.Expr e pos) (Gj te):=by
 intro d s n H D I h;exact wpAny_Expr_any (aU (he d s n H _ I h) λv k ⟨x,r,c,j,i⟩=>⟨n,r,c,i⟩) I.quiet hs
def MO(te:TE):TS:=λD v H=>te v H D.rt
def zh(he:PE X e te):PS X (.Return (some e) pos) (MO te):=by
 intro d s n H D I h;exact wpAny_Return_some (aU (he d s n H _ I h) λv k ⟨x,r,c,j,i⟩=>⟨x,n,r,c,j,i⟩)
def MP(c:TT)(t u:TS):TS:=λD v H=>c v H λb n=>if b=true then t D v n else u D v n
def zu{c:Expr}{a b:List Stmt}{l:TT}(q:PT X c l)(m:kb X a t)(p:kb X b u):PS X (.If c a b pos) (MP l t u):=by
 intro v s n H D I h;refine wpAny_If (aU (q v s n H _ I h) λd k ⟨r,i,j⟩=>?_);cases d with
 | true=>exact m v k n r D i j
 | false=>exact p v k n r D i j
end
abbrev TG:=V->St->Hp->(St->Hp->Prop)->Prop
abbrev Dh:=List V->St->Hp->(St->Hp->Prop)->Prop
def PG(X:Cx)(i:Expr)(t:TG):Prop :=
 ∀(n:List (Addr×Obj)) (s:Shared) (r:St) (H:Hp) (v:V) (u:Value) (Q:St->Hp->Prop),Inv X n r H s->RelV v u->t v r H Q ->
  wpAny (model X.prog X.w) X.A (assign i X.env u) (λ_ d=>∃c e,Inv X n c e d/\Q c e) X.xe s
def Ju(X:Cx)(ts:List Expr)(t:Dh):Prop :=
 ∀(v:List (Addr×Obj)) (s:Shared) (r:St) (H:Hp) (n:List V) (us:List Value) (Q:St->Hp->Prop),Inv X v r H s->Vals n us->t n r H Q ->
  wpAny (model X.prog X.w) X.A (assignInOrder ((assignEach ts X.env).map (·.2)) us) (λ_ d=>∃c e,Inv X v c e d/\Q c e) X.xe s
abbrev Di:=V->V->V->Hp->(Hp->Prop)->Prop
def Gk(X:Cx)(t:Di):Prop :=
 ∀(c:List (Addr×Obj)) (s:Shared) (d:St) (H:Hp) (o i v:V) (r n u:Value) (Q:Hp->Prop),Inv X c d H s->RelV o r->RelV i n->RelV v u->t o i v H Q ->
  wpAny (model X.prog X.w) X.A (setItem r n u) (λ_ j=>∃e,Inv X c d e j/\Q e) X.xe s
section
variable {X:Cx}{pos:Pos}
def jB(i:Nat):TG:=λv e H Q=>Q (e.set i (some v)) H
def rY{i:Nat}{x:Str}(t:X.N.Nodup)(c:X.N[i]? = some x)(d:Loc X.env.scope x)(n:X.fn x=true\/X.env.scope.names.lookup x=some .local:=by first | exact .inl rfl | exact .inr rfl | assumption):PG X (.Name x pos) (jB i):=by
 intro j s l H v u Q I r h;exact wpAny_assign_Name (TY I t c d r (λk e=>⟨_,H,e,h⟩) n)
def rZ:Dh:=λe t H Q=>e=[]/\Q t H
def oE(t:TG)(u:Dh):Dh:=λn c H Q=>∃v r,n=v::r/\t v c H λd e=>u r d e Q
def Jv:Ju X [] rZ:=by
 intro v s t H n us Q I r h;obtain⟨e,h⟩:=h;subst e;cases r;exact assignInOrder_nil ⟨t,H,I,h⟩
variable {e:Expr}{es:List Expr}
def wp{t:TG}{u:Dh}(j:PG X e t)(k:Ju X es u)
 (hs:(assignEach (e::es) X.env).map (·.2)=assign e X.env::(assignEach es X.env).map (·.2):=by rfl):Ju X (e::es) (oE t u):=by
 intro n s q H x us Q I r h;obtain⟨v,f,i,h⟩:=h;subst i;cases r with
 | cons r m =>
   rw[hs];refine assignInOrder_cons (aU (j n s q H _ _ _ I r h) λ_ p ⟨g,c,d,l⟩=>?_);exact k n p g c _ _ Q d m l
def sd(K:Frag)(n:Nat)(t:Dh):TG:=λv c H Q=>∃a r,v=.ref a/\cE K H a r/\r.length=n/\t r c H Q
def Jw{k:Nat}{t:Dh}{n:Nat}(g:X.calm=true)(h:Ju X es t)
 (x:(assignEach es X.env).length=n:=by rfl) (p:(assignEach es X.env).findIdx? (·.1)=none:=by rfl):PG X (.Tuple es k pos) (sd X.K n t):=by
 intro d s j H v u Q I r c;obtain⟨a,C,m,y,f,c⟩:=c;subst m;cases r;obtain⟨D,i,z,G⟩:=I.tuple y;refine assign_Tuple_tuple (I.ok.hd g) z (by simp[x,<-f,i.length]) p λq B=>?_;have l:Inv X d j H { s with heap:=q }:=I.kept (t':=s.toks) λb o e=>B b o (ne_of_lt (lt_size e)) e;exact h d _ j H C _ Q l (by simpa using i) c
def MQ(to j:TE)(t:Di):TG:=λv n H Q=>to n H λo r=>j n r λi c=>t o i v c λd=>Q n d
def MR{o i:Expr}{to k:TE}{t:Di}(C:PE X o to)(B:PE X i k)(hs:Gk X t)
 (z:∀v,assign (.Subscript o i pos) X.env v=(do
   let n <-holding [v] (eval o X.env);let c <-holding [v,n] (eval i X.env)
   standAt pos
   holding [v,n,c] (setItem n c v)
   release [v,n,c] []):=by intro _;rfl):PG X (.Subscript o i pos) (MQ to k t):=by
 intro j s d H v u Q I r h;rw[z];refine q03 (wpAny_holding (aU (C j s d H _ I h) λn M ⟨x,l,q,K,D⟩=>?_));refine q03 (wpAny_holding (aU (B j M d l _ q D) λc N ⟨y,m,g,L,G⟩=>?_));refine q03 (wpAny_standAt (q03 (wpAny_holding (aU (hs j N d m x y v n c u _ g K L r G) λ_ O ⟨p,f,J⟩=>?_))));exact wpAny_release ⟨d,p,f,J⟩
def se(n:TE)(g:TG):TS:=λD t H=>n t H λx v=>g x t v D.nx
def kZ{t:Expr}{r:TE}{g:TG}(he:PE X e r)(k:PG X t g)(hs:swapsWithSole [t] e pos.line X.env=pure false:=by rfl)(hw:swappedStores [t] e X.env=pure none:=by rfl)
 (j:(assignEach [t] X.env).map (·.2)=[assign t X.env]:=by rfl):PS X (.Assign [t] e pos) (se r g):=by
 intro n s c H D I h;refine wpAny_Assign_stores (aU (he n s c H _ I h) λv p ⟨x,d,i,m,l⟩=>?_) hs hw;rw[j];exact aU (k n p c d x v _ i m l) λ_ f q=>q
def Dj{i:Nat}{x:Str}{n:TE}{t:Pos}(j:X.N.Nodup)(l:X.N[i]? = some x)(m:Loc X.env.scope x)(he:PE X e n)(hs:swapsWith e (some (.Name x t)) pos.line X.env=pure false:=by rfl)(k:X.fn x=true\/X.env.scope.names.lookup x=some .local:=by first | exact .inl rfl | exact .inr rfl | assumption):
 PS X (.Assign [.Name x t] e pos) (se n (jB i)):=by
 intro p s f H D I h;refine wpAny_Assign_Name (aU (he p s f H _ I h) λv z ⟨y,r,c,g,q⟩=>?_) hs;exact TY c j l m g (λB d=>⟨_,r,d,q⟩) k
def Dk(c:TT)(i:TS):TS:=λD t H=>∃W:Nat->St->Hp->Prop,(∃m,W m t H)/\∀m t H,W m t H ->
 c t H λb n=>if b=true then ∃N:St->Hp->Prop,(∀d v,N d v->∃r,r<m/\W r d v)/\i { D with nx:=N,ct:=N,bk:=D.nx } t n else D.nx t n
def sf{c:Expr}{body:List Stmt}{K:TT}{J:TS}(G:PassesOwn (model X.prog X.w) X.A X.env X.xe)(Q:PT X c K)(O:kb X body J):PS X (.While c body [] pos) (Dk K J):=by
 intro q s Z H D I h;obtain⟨W,⟨R,V⟩,turn⟩:=h;refine wpAny_While (codeAny_whileLoop (λn S=>∃L x,Inv X q L x S/\W n L x) ?_ R ⟨Z,H,I,V⟩);rintro n T ⟨j,y,M,Y⟩;refine wpAny_passesOwn G (aU (Q q T j y _ M (turn n j y Y)) λb U ⟨z,B,d⟩=>?_);cases b with
 | true =>
   obtain⟨N,C,d⟩:=d;rw[q01 rfl];refine wpAny_passesOwn G (aU (O q U j z _ B d) λf F i=>?_);cases f with
   | next =>
     obtain⟨r,t,k,p⟩:=i;obtain⟨m,l,g⟩:=C r t p;exact⟨m,l,r,t,k,g⟩
   | cont =>
     obtain⟨r,t,k,p⟩:=i;obtain⟨m,l,g⟩:=C r t p;exact⟨m,l,r,t,k,g⟩
   | brk=>exact i
   | ret v=>exact i
 | false =>
   rw[q00 q23];exact wpAny_execs_nil ⟨j,z,B,d⟩
end
structure It where
 go:Nat->Hp->Prop
 Ad:Nat->Hp->V->Hp->Prop
 stop:Nat->Hp->Prop
def fL(X:Cx)(pins:List (Addr×Obj))(H:Hp)(b:Addr):Prop :=
 H b=none/\b≠X.env.locals/\b∉X.fs/\(b∈X.ex\/X.s₀.heap.objs.size<=b)/\(∀x c,X.env.cells.lookup x=some c->c≠b)/\∀p∈X.pn++pins,p.1≠b
def Inv.gA{pins:List (Addr×Obj)}{σ:St}{H':Hp}(I:Inv X pins σ H s)(t:s.heap.objs.size<=b)(n:H' b=none):fL X pins H' b:=by
 refine⟨n,ne_of_gt (q21 I.lt t),I.F8 t,.inr (q38 I.sz t),λx c e z=>?_,λp r z=>?_⟩
 .obtain⟨v,q⟩:=I.cell x c e;exact q02 (q21 q.lt (by rw[z];exact t)) (q37 _)
 .exact q02 (q21 (lt_size (I.pin p r).1) (by rw[z];exact t)) (q37 _)
structure Turn (P:Program) (w:World) (K:Frag) (tg:Expr) (J:It) (fp:List Addr) (it:Addr) (tn:Nat->Heap->Prop):Prop where
 mem:it∈fp
 obj:∀i h,tn i h->∀b∈fp,∃o,h.get? b=some o/\∀v,o.data ≠ .cell v
 keep:∀i h h',tn i h->(∀b∈fp,∀o,h.get? b=some o->h'.get? b=some o)->tn i h'
 item:∀(X:Cx),X.prog=P->X.w=w->X.K=K->X.calm=true->∀(i:Nat)(pins:List (Addr×Obj)) (s:Shared) (σ:St) (H:Hp) (E:Value->Shared->Prop),Inv X pins σ H s->(∀b∈fp,fL X pins H b)->tn i s.heap->J.go i H ->
  wpAny (model P w) X.A (pyNext (.ref it)) (λr s1=>∃u,r=some u /\
   wpAny (model P w) X.A (letOwnedTupleGo tg (.ref it) u) (λ_ s2=>∃x H',Inv X pins σ H' s2/\RelV x u/\J.Ad i H x H'/\tn (i+1) s2.heap/\∀b∈fp,H' b=none) E s1) E s
 done:∀(X:Cx),X.prog=P->X.w=w->X.K=K->X.calm=true->∀(i:Nat)(pins:List (Addr×Obj)) (s:Shared) (σ:St) (H:Hp) (E:Value->Shared->Prop),Inv X pins σ H s->(∀b∈fp,fL X pins H b)->tn i s.heap->J.stop i H ->
  wpAny (model P w) X.A (pyNext (.ref it)) (λr s1=>r=none/\Inv X pins σ H s1) E s
 self:∀(A:Around)(i:Nat)(s:Shared)(Q:Value->Shared->Prop)(E:Value->Shared->Prop),tn i s.heap->Q (.ref it) s->wpAny (model P w) A (pyIter (.ref it)) Q E s
abbrev TI:=St->Hp->(It->Hp->Prop)->Prop
def T2(X:Cx)(pins:List (Addr×Obj))(σ:St)(d:Expr)(R:It->Hp->Prop)(c:Value)(n:Shared):Prop :=
 ∃(v:Addr)(t:List Addr)(r:Nat->Heap->Prop)(J:It)(e:Hp),c=.ref v/\Inv X pins σ e n/\Turn X.prog X.w X.K d J t v r/\r 0 n.heap/\(∀b∈t,fL X pins e b)/\R J e
def PI(X:Cx)(c n:Expr)(d:TI):Prop :=
 ∀(t:List (Addr×Obj)) (s:Shared) (e:St) (H:Hp) (R:It->Hp->Prop),Inv X t e H s->d e H R ->
  wpAny (model X.prog X.w) X.A (eval n X.env) (λv r=>wpAny (model X.prog X.w) X.A (pyIter v) (T2 X t e c R) X.xe r) X.xe s
variable {tg:Expr}
def sh{M:Model}{it:Addr}{o:Obj}{n:String}{vs:Array Value}{Q:Unit->Shared->Prop}(r:s.heap.get? it=some o)(t:o.cls=.type n)(hd:o.data=.fields vs)
 (v : ["enumerate","zip","dict_itemiterator","dict_reverseitemiterator","odict_iterator","itertools.zip_longest","itertools.pairwise"].contains n=false) (e:Q () s):wpAny M A (letOwnedTupleGo tg (.ref it) u) Q E s:=by
 unfold letOwnedTupleGo;cases tg <;> first
  | exact q04 e
  | (cases u <;> first
      | exact q04 e
      | (refine q03 (wpAny_load r ?_)
         rw[t,hd];show wpAny M A (if(["enumerate","zip","dict_itemiterator","dict_reverseitemiterator","odict_iterator","itertools.zip_longest","itertools.pairwise"].contains n && vs[0]? == some (rawInt _))=true then _ else _) Q E s;rw[q00 (by intro h;rw[v,Bool.false_and]at h;cases h)];exact q04 e))
def ke(K:Frag)(a:Addr):It :=
 ⟨λi H=>∃e x,ah K H a e/\e[i]? = some x,λi H x t=>t=H/\∀e,ah K H a e->e[i]? = some x,λi H=>∃e,ah K H a e/\e.length<=i⟩
def Af(t:Int)(n:Nat):It:=⟨λi _=>i<n,λi H x e=>e=H/\x=.int (t+i),λi _=>n<=i⟩
variable {K:Frag}
def oF(a it:Addr):Turn P w K tg (ke K a) [it] it (λi h=>h.IsListIter it a i) where
 mem:=by simp
 obj:=λi h t b v=>by
  have e:b=it:=by simpa using v
  subst e;obtain⟨o,e,c,d⟩:=t;exact⟨o,e,λg0 z=>by rw[d]at z;cases z⟩
 keep:=λi h n t k=>t.at λo e=>k it (by simp) o e
 item:=by
  intro X B D y L i N s O H E I r t C;subst B D y;obtain⟨F,x,j,G⟩:=C;obtain⟨R,J,p,W⟩:=I.list j;obtain⟨u,U,Y⟩:=J.get G;obtain⟨l,m,T,q,g,f⟩:=r it (by simp);refine wpAny_pyNext_list_item t p.isList (x:=u) (by simpa using U) λn M Z=>?_;have Q:Inv X N O H { s with heap:=n }:=I.turned (t':=s.toks) (λb o v e=>(Z.2 b v).trans e) l m q g f;obtain⟨o,e,c,d⟩:=id M;exact⟨u,rfl,sh (s:={ s with heap:=n }) e c d (by decide) ⟨x,H,Q,Y,⟨rfl,λys V=>by rw[I.iq V j];exact G⟩,M,λb v=>(r b v).1⟩⟩
 done:=by
  intro X B D y L i N s O H E I r t C;subst B D y;obtain⟨F,j,G⟩:=C;obtain⟨R,J,p,W⟩:=I.list j;obtain⟨l,m,T,q,g,f⟩:=r it (by simp);have A:=J.length;exact wpAny_pyNext_list_end (I.ok.hd L) t p.isList (by simp;omega) λn S=>⟨rfl,I.turned (t':=s.toks) (λb o v e=>S b o v e) l m q g f⟩
 self:=λ_ _ _ _ _ t h=>wpAny_pyIter_listiter t h
def k7(it:Addr)(l:Int)(n:Nat):Turn P w K tg (Af l n) [it] it (λi h=>IsRangeIter h it (l+(i:Nat)*1) ((n:Int)-(i:Nat)) 1) where
 mem:=by simp
 obj:=λi h r b c=>by
  have e:b=it:=by simpa using c
  subst e;exact⟨_,r,λv z=>by
   have T:Data.fields _=Data.cell v:=z;cases T⟩
 keep:=λi h d r k=>k it (by simp) _ r
 item:=by
  intro X y D x B i J s M H E I j r C;subst y D x;obtain⟨m,p,Q,q,g,f⟩:=j it (by simp);have W:=Walks.range (prog:=X.prog) (w:=X.w) (I.ok.hd B) it l 1 n;refine W.item i s _ _ C r λv d L R G S=>?_;obtain⟨t,rfl⟩:=R;have N:Inv X J M H { s with heap:=d,toks:=L }:=I.turned (λb o c e=>S b o (by simpa using c) e) m p q g f;refine⟨_,rfl,sh (s:={ s with heap:=d,toks:=L }) (n:= "range_iterator") G rfl rfl (by decide) ⟨.int (l+i),H,N,⟨t,?_⟩,⟨rfl,rfl⟩,G,λb c=>(j b c).1⟩⟩;rw[Int.mul_one]
 done:=by
  intro X y D x B i J s M H E I j r C;subst y D x;obtain⟨m,p,Q,q,g,f⟩:=j it (by simp);exact wpAny_pyNext_range_end (I.ok.hd B) r (by have:n<=i:=C;omega) λd O=>⟨rfl,I.turned (t':=s.toks) (λb o c e=>O b o c e) m p q g f⟩
 self:=λ_ _ _ _ _ r h=>wpAny_pyIter_rangeiter r h
section
variable {X:Cx}{tg:Expr}
inductive sj (K:Frag)(x:V)(e:Hp)(R:It->Hp->Prop):Prop|mk(a:_):x=.ref a->((∃t,ah K e a t))->R (ke K a) e->sj K x e R
def BV(K:Frag)(tl:TE):TI:=λt H R=>tl t H λx e=>sj K x e R
def zz{l:Expr}{tl:TE}(d:PE X l tl):PI X tg l (BV X.K tl):=by
 intro j s g H R I h;refine aU (d j s g H _ I h) λv n ⟨x,r,t,m,k⟩=>?_;obtain⟨a,e,⟨B,i⟩,q⟩:=k;subst e;cases m;obtain⟨f,z,p,y⟩:=t.list i;refine wpAny_pyIter_list p.isList ?_;refine⟨n.heap.objs.size,[n.heap.objs.size],_,_,r,rfl,t.kept (t':=n.toks) λb o e=>q05 _ e,oF a _,⟨_,get?_push_size _ rfl,rfl,rfl⟩,λb c=>?_,q⟩;have e:b=n.heap.objs.size:=by simpa using c
 subst e;exact t.gA (le_refl _) (t.aO.fresh (le_refl _))
variable {pins:List (Addr×Obj)}{s:Shared}
def T3{σ:St}{H:Hp}{R:It->Hp->Prop}{E:Value->Shared->Prop}{n r:Int}{t u v:Tok}{tk:Nat}(I:Inv X pins σ H s)(i : -(2 ^ 62)<=n)(j:n<2 ^ 62)(k : -(2 ^ 62)<=r)(l:r<2 ^ 62)
 (q:R (Af n (r-n).toNat) H):wpAny (model X.prog X.w) X.A (pyIter (.ref s.heap.objs.size)) (T2 X pins σ tg R) E { s with heap:=s.heap.push { cls:=.type "range",data:=.fields #[.int n t,.int r u,.int 1 v] },toks:=tk }:=by
 refine wpAny_pyIter_range (IsRange.new ..) (small_one i j k l) ?_;have c:Inv X pins σ H { s with heap:=s.heap.push { cls:=.type "range",data:=.fields #[.int n t,.int r u,.int 1 v] },toks:=tk }:=I.kept λb o e=>q05 _ e;refine⟨(s.heap.push { cls:=.type "range",data:=.fields #[.int n t,.int r u,.int 1 v] }).objs.size,[(s.heap.push { cls:=.type "range",data:=.fields #[.int n t,.int r u,.int 1 v] }).objs.size],_,_,H,rfl,
  c.kept (t':=tk) λb o e=>q05 _ e,k7 _ n (r-n).toNat,?_,λb m=>?_,q⟩
 .have e1:n+((0:Nat):Int)*1=n:=by simp
  have d:(((r-n).toNat:Nat):Int)-((0:Nat):Int)=Builtin.Range.rangeSize n r 1:=by rw[rangeSize_one];split <;> omega
  show IsRangeIter _ _ (n+((0:Nat):Int)*1) ((((r-n).toNat:Nat):Int)-((0:Nat):Int)) 1;rw[e1,d];exact get?_push_size _ rfl
 .have e:b=(s.heap.push { cls:=.type "range",data:=.fields #[.int n t,.int r u,.int 1 v] }).objs.size:=by simpa using m
  subst e;exact c.gA (le_refl _) (c.aO.fresh (le_refl _))
inductive so (vs:List V)(e:Hp)(R:It->Hp->Prop):Prop|mk(j:Int):vs=[.int j] -> -(2 ^ 62)<=j->j<2 ^ 62->R (Af 0 j.toNat) e->so vs e R
def Gm(t:TA):TI:=λn H R=>t n H λv e=>so v e R
inductive sq (vs:List V)(e:Hp)(R:It->Hp->Prop):Prop|mk(i j:Int):vs=[.int i,.int j]->(-(2 ^ 62)<=i/\i<2 ^ 62 /\ -(2 ^ 62)<=j/\j<2 ^ 62)->R (Af i (j-i).toNat) e->sq vs e R
def Gn(t:TA):TI:=λn H R=>t n H λv e=>sq v e R
variable {pos:Pos}
def ww{a:Expr}{n:TA}{p:Pos}(i:Gl X "range")(k:X.mg "range"=none)(d:PA X [a] n)(hs:starEach [a] X.env=[(false,eval a X.env)]:=by rfl):PI X tg (.Call (.Name "range" p) [a] [] pos) (Gm n):=by
 intro pins s f H R I h;refine Call_ (vZ I i k boot_range (callWith_type1 (aU (d pos pins s f H _ I h) λus y ⟨z,x,c,m,v⟩=>?_) hs rfl));obtain⟨j,e,v,l,q⟩:=v;subst e;cases m with
 | cons r g =>
   cases g;obtain⟨t,rfl⟩:=r;exact call_range_1 (T3 c (by omega) (by omega) v l (by simpa using q))
def Dl{a b:Expr}{d:TA}{p:Pos}(m:Gl X "range")(g:X.mg "range"=none)(l:PA X [a,b] d)(hs:starEach [a,b] X.env=[(false,eval a X.env),(false,eval b X.env)]:=by rfl)(c:starEach [b] X.env=[(false,eval b X.env)]:=by rfl):
 PI X tg (.Call (.Name "range" p) [a,b] [] pos) (Gn d):=by
 intro pins s C H R I h;refine Call_ (vZ I m g boot_range (callWith_type1 (aU (l pos pins s C H _ I h) λus G ⟨L,D,k,B,v⟩=>?_) (by rw[hs,c]) (by rw[c];rfl)));obtain⟨i,j,e,⟨v,f,x,y⟩,q⟩:=v;subst e;cases B with
 | cons r n =>
   cases n with
   | cons z n =>
     cases n;obtain⟨t,rfl⟩:=r;obtain⟨J,rfl⟩:=z;exact call_range_2 (T3 k v f x y q)
def MS(j:TI)(g:TG)(d:TS):TS:=λD e H=>j e H λJ r=>∃W:Nat->Nat->St->Hp->Prop,(∃m,W 0 m e r)/\∀i m e H,W i m e H ->
 (J.stop i H/\D.nx e H)\/(J.go i H/\∃N:St->Hp->Prop,(∀n t,N n t->∃v,v<m/\W (i+1) v n t)/\∀x t,J.Ad i H x t->g x e t λk c=>d { D with nx:=N,ct:=N,bk:=D.nx } k c)
def Jx(e:List Addr)(h:Heap):List (Addr×Obj):=e.filterMap λb=>(h.get? b).map λo=>(b,o)
variable {fp:List Addr}
def Gp{h:Heap}{b:Addr}{o:Obj}(t:b∈fp)(e:h.get? b=some o):(b,o)∈Jx fp h:=List.mem_filterMap.mpr ⟨b,t,by rw[e];rfl⟩
def oH{h:Heap}{p:Addr×Obj}(n:p∈Jx fp h):p.1∈fp/\h.get? p.1=some p.2:=by
 obtain⟨b,v,e⟩:=List.mem_filterMap.mp n;cases q:h.get? b with
 | none=>rw[q]at e;cases e
 | some o =>
   rw[q]at e;have t:(b,o)=p:=q22 e;subst t;exact⟨v,q⟩
def Inv.pinned{σ:St}{H:Hp}(I:Inv X pins σ H s)(j:∀b∈fp,fL X pins H b)(k:∀b∈fp,∃o,s.heap.get? b=some o/\∀v,o.data ≠ .cell v):Inv X (pins++Jx fp s.heap) σ H s :=
 I.fv λp l=>(List.mem_append.mp l).elim (λz=>I.pin p (mem_append_right _ z)) λz=>by
  obtain⟨n,e⟩:=oH z;obtain⟨r,c,i,_⟩:=j p.1 n;obtain⟨o,t,d⟩:=k p.1 n;rw[e]at t;cases t;exact⟨e,r,c,i,d⟩
def Inv.eM{pl:List (Addr×Obj)}{σ:St}{H:Hp}(I:Inv X (pins++pl) σ H s):Inv X pins σ H s:=I.fv λp e=>I.pin p (mem_append_right _ (mem_append_left _ e))
def wf{C:Expr}{body:List Stmt}{a:TI}{g:TG}{Z:TS}(k:PassesOwn (model X.prog X.w) X.A X.env X.xe)(S:X.calm=true)(hi:PI X tg C a)(hg:PG X tg g)(r:kb X body Z)
 (hs:∀x,foldedSetIterable C X.env x=pure x:=by intro _;rfl):PS X (.For tg C body [] pos) (MS a g Z):=by
 intro pins s E H D I h;refine wpAny_For (aU (hi pins s E H _ I h) λg2 s1 h1=>aU h1 λAe s2 h2=>?_) hs;obtain⟨it,fp,F,g4,K,e,I2,T,gW,R,W,⟨m0,w0⟩,turn⟩:=h2;subst e;have G:∀{d:Hp},(∀b∈fp,d b=none)->∀b∈fp,fL X pins d b:=λhn b r=>⟨hn b r,(R b r).2⟩;refine codeAny_forLoop_any (λn U=>∃i p d,Inv X pins p d U/\F i U.heap/\(∀b∈fp,d b=none)/\W i n p d) ?_ m0 ⟨0,E,K,I2,gW,λb r=>(R b r).1,w0⟩;rintro n V ⟨i,q,y,O,L,M,w3⟩;rcases turn i n q y w3 with⟨stop,qn⟩|⟨go,g0,hN,step⟩
 .refine wpAny_passesOwn k (aU (T.done X rfl rfl rfl S i pins V q y X.xe O (G M) L stop) λg1 s4 ⟨B,I4⟩=>?_);subst B;exact wpAny_execs_nil ⟨q,y,I4,qn⟩
 .refine wpAny_passesOwn k (aU (T.item X rfl rfl rfl S i pins V q y X.xe O (G M) L go) λg1 s4 ⟨u,B,h4⟩=>?_);subst B;refine wpAny_passesOwn k (aU h4 λ_ Y ⟨x,N,I5,r5,y5,z,MT⟩=>?_);have MU:=I5.pinned (G MT) (T.obj _ _ z);refine wpAny_passesOwn k (aU (hg _ Y q N x u _ MU r5 (step x N y5)) λ_ s6 ⟨g3,P,I6,q6⟩=>?_);refine wpAny_passesOwn k (aU (r _ s6 g3 P _ I6 q6) λf J j=>?_);have Q:∀{c:St}{t:Hp},Inv X (pins++Jx fp Y.heap) c t J->g0 c t->∃m,m<n/\∃i p d,Inv X pins p d J/\F i J.heap/\(∀b∈fp,d b=none)/\W i m p d:=λ{c t} v l=>by
   obtain⟨m',hm,w7⟩:=hN c t l;refine⟨m',hm,i+1,c,t,v.eM,T.keep _ _ _ z λb r o e=>(v.pin (b,o) (mem_append_right _ (mem_append_right _ (Gp r e)))).1,λb r=>?_,w7⟩;obtain⟨o,e,g5⟩:=T.obj _ _ z b r;exact(v.pin (b,o) (mem_append_right _ (mem_append_right _ (Gp r e)))).2.1
  cases f with
  | next=>obtain⟨c,t,v,l⟩:=j;exact Q v l
  | cont=>obtain⟨c,t,v,l⟩:=j;exact Q v l
  | brk=>obtain⟨c,t,v,j⟩:=j;exact⟨c,t,v.eM,j⟩
  | ret g2=>obtain⟨x7,c,t,v,r7,j⟩:=j;exact⟨x7,c,t,v.eM,r7,j⟩
end
def Jy{xs:List V}{g:TG}{k:TS}{D:Ends}{σ:St}(t:Nat->St->Hp->Prop)(l:t 0 σ H)(z:∀i σ H,i<=xs.length->t i σ H->ah K H a xs)
 (hs:∀i x σ H,xs[i]? = some x->t i σ H->g x σ H λc n=>k { D with nx:=t (i+1),ct:=t (i+1),bk:=D.nx } c n) (hd:∀σ H,t xs.length σ H->D.nx σ H) :
 ∃W:Nat->Nat->St->Hp->Prop,(∃m,W 0 m σ H)/\∀i m σ H,W i m σ H ->
  ((ke K a).stop i H/\D.nx σ H)\/((ke K a).go i H/\∃N:St->Hp->Prop,(∀r v,N r v->∃j,j<m/\W (i+1) j r v)/\∀x v,(ke K a).Ad i H x v->g x σ v λc n=>k { D with nx:=N,ct:=N,bk:=D.nx } c n):=by
 refine⟨λi m σ H=>m=xs.length-i/\i<=xs.length/\t i σ H,⟨xs.length,by simp,zero_le _,l⟩,?_⟩;rintro i m σ H ⟨rfl,f,p⟩;have q:=z i σ H f p;by_cases d:i<xs.length
 .refine .inr ⟨⟨xs,xs[i],q,by simp[d]⟩,t (i+1),λr v B=>⟨xs.length-(i+1),by omega,rfl,d,B⟩,λx v y=>?_⟩;obtain⟨e,y⟩:=y;subst e;exact hs i x σ _ (y xs q) p
 .have e:i=xs.length:=by omega
  subst e;exact .inl ⟨⟨xs,q,le_refl _⟩,hd σ H p⟩
def yx{r:Int}{n:Nat}{g:TG}{q:TS}{D:Ends}{σ:St}(v:Nat->St->Hp->Prop)(f:v 0 σ H)
 (hs:∀i σ H,i<n->v i σ H->g (.int (r+i)) σ H λk c=>q { D with nx:=v (i+1),ct:=v (i+1),bk:=D.nx } k c) (hd:∀σ H,v n σ H->D.nx σ H) :
 ∃W:Nat->Nat->St->Hp->Prop,(∃m,W 0 m σ H)/\∀i m σ H,W i m σ H ->
  ((Af r n).stop i H/\D.nx σ H)\/((Af r n).go i H/\∃N:St->Hp->Prop,(∀j t,N j t->∃l,l<m/\W (i+1) l j t)/\∀x t,(Af r n).Ad i H x t->g x σ t λk c=>q { D with nx:=N,ct:=N,bk:=D.nx } k c):=by
 refine⟨λi m σ H=>m=n-i/\i<=n/\v i σ H,⟨n,by simp,zero_le _,f⟩,?_⟩;rintro i m σ H ⟨rfl,B,p⟩;by_cases d:i<n
 .refine .inr ⟨d,v (i+1),λj t z=>⟨n-(i+1),by omega,rfl,d,z⟩,λx t y=>?_⟩;obtain⟨e,y⟩:=y;subst e y;exact hs i σ _ d p
 .have e:i=n:=by omega
  subst e;exact .inl ⟨le_refl _,hd σ H p⟩
abbrev R2:=V->V->Hp->VK->Prop
def eN(X:Cx)(f:Value->Value->Sem Value)(r:R2):Prop :=
 ∀(e:List (Addr×Obj)) (s:Shared) (t:St) (H:Hp) (x y:V) (v u:Value) (Q:VK),Inv X e t H s->RelV x v->RelV y u->r x y H Q ->
  wpAny (model X.prog X.w) X.A (f v u) (EP X e t Q) X.xe s
def MV(X:Cx)(f:Value->Sem Value)(r:V->Hp->VK->Prop):Prop :=
 ∀(e:List (Addr×Obj)) (s:Shared) (t:St) (H:Hp) (x:V) (v:Value) (Q:VK),Inv X e t H s->RelV x v->r x H Q ->
  wpAny (model X.prog X.w) X.A (f v) (EP X e t Q) X.xe s
def wZ(X:Cx)(f:Value)(r:List V->Hp->VK->Prop):Prop :=
 ∀(e:List (Addr×Obj)) (s:Shared) (v:St) (H:Hp) (t:List V) (us:List Value) (Q:VK),Inv X e v H s->Vals t us->r t H Q ->
  wpAny (model X.prog X.w) X.A (call f us) (EP X e v Q) X.xe s
def MW(X:Cx)(r:V->Hp->(Bool->Hp->Prop)->Prop):Prop :=
 ∀(e:List (Addr×Obj)) (s:Shared) (t:St) (H:Hp) (x:V) (v:Value) (Q:Bool->Hp->Prop),Inv X e t H s->RelV x v->r x H Q ->
  wpAny (model X.prog X.w) X.A (truthy v) (TP X e t Q) X.xe s
def Jz(r:R2)(n c:TE):TE:=λe H Q=>n e H λx t=>c e t λy v=>r x y v Q
def Y5(r:V->Hp->VK->Prop)(t:TE):TE:=λv H Q=>t v H λx e=>r x e Q
inductive T4 (C:Int->Int->Prop)(g:Int->Int->V)(x y:V)(H:Hp)(Q:VK):Prop|mk(i:_)(j:_):x=.int i->y=.int j->C i j->Q (g i j) H->T4 C g x y H Q
def rI(C:Int->Int->Prop)(g:Int->Int->V):R2:=λx y H Q=>T4 C g x y H Q
inductive Gr (g:Int->Int->V)(x y:V)(H:Hp)(Q:VK):Prop|mk(i:_)(j:_):x=.int i->y=.int j->Q (g i j) H->Gr g x y H Q
def BX(g:Int->Int->V):R2:=λx y H Q=>Gr g x y H Q
inductive T5 (g:Int->V)(x:V)(H:Hp)(Q:VK):Prop|mk(i:_):x=.int i->Q (g i) H->T5 g x H Q
def rU(g:Int->V):V->Hp->VK->Prop:=λx H Q=>T5 g x H Q
section
variable {X:Cx}{a b:Expr}{ta tb:TE}{pos:Pos}{f:Value->Value->Sem Value}
def Dp(d:PE X a ta)(i:PE X b tb){pins:List (Addr×Obj)}{s:Shared}{σ:St}{H:Hp}{R:V->V->Hp->Prop}(I:Inv X pins σ H s)
 (h:ta σ H λx n=>tb σ n λy e=>R x y e) {Q:Value->Shared->Prop} 
 (j:∀v u t x y e,Inv X pins σ e t->RelV x v->RelV y u->R x y e->wpAny (model X.prog X.w) X.A (f v u) Q X.xe t) :
 wpAny (model X.prog X.w) X.A (eval a X.env) (λv g=>wpAny (model X.prog X.w) X.A (eval b X.env) (λu z=>wpAny (model X.prog X.w) X.A (f v u) Q X.xe z) X.xe g) X.xe s:=by
 refine aU (d pins s σ H _ I h) λv q ⟨x,n,r,m,k⟩=>?_;refine aU (i pins q σ n _ r k) λu t ⟨y,e,c,p,l⟩=>?_;exact j v u t x y e c m p l
def zo{op:Operator}{r:R2}(d:eN X (binaryOp op) r)(n:PE X a ta)(c:PE X b tb):PE X (.BinOp a op b pos) (Jz r ta tb):=by
 intro i s m H Q I h;exact wpAny_BinOp (Dp n c I h λv u l x y e t j k q=>d i l m e x y v u Q t j k q)
def Dq{op:UnaryOp}{r:V->Hp->VK->Prop}(i:MV X (unaryOp op) r)(d:PE X a ta):PE X (.UnaryOp op a pos) (Y5 r ta):=by
 intro e s t H Q I h;exact UnaryOp_ (aU (d e s t H _ I h) λv l ⟨x,n,c,k,j⟩=>i e l t n x v Q c k j)
variable {g:Int->Int->Int}
def JA{C:Int->Int->Prop}
 (n:∀(i j:Int)(t u:Tok)(s:Shared)(Q:Value->Shared->Prop)(E:Value->Shared->Prop),C i j->Q (.int (g i j) s.toks) { s with toks:=s.toks+1 }->wpAny (model X.prog X.w) X.A (f (.int i t) (.int j u)) Q E s) :
 eN X f (rI C λi j=>.int (g i j)):=by
 intro k s l H x y v u Q I r c h;obtain⟨i,j,rfl,rfl,e,q⟩:=h;obtain⟨t,rfl⟩:=r;obtain⟨d,rfl⟩:=c;exact n i j t d s _ _ e ⟨.int (g i j),H,I.tok _,⟨_,rfl⟩,q⟩
def Gs
 (e:∀(i j:Int)(t u:Tok)(s:Shared)(Q:Value->Shared->Prop)(E:Value->Shared->Prop),Q (.int (g i j) s.toks) { s with toks:=s.toks+1 }->wpAny (model X.prog X.w) X.A (f (.int i t) (.int j u)) Q E s) :
 eN X f (BX λi j=>.int (g i j)):=by
 intro d s k H x y v u Q I n r h;obtain⟨i,j,rfl,rfl,q⟩:=h;obtain⟨t,rfl⟩:=n;obtain⟨c,rfl⟩:=r;exact e i j t c s _ _ ⟨.int (g i j),H,I.tok _,⟨_,rfl⟩,q⟩
def Ag{g:Int->Int->Bool}
 (e:∀(i j:Int)(t u:Tok)(s:Shared)(Q:Value->Shared->Prop)(E:Value->Shared->Prop),Q (.bool (g i j)) s->wpAny (model X.prog X.w) X.A (f (.int i t) (.int j u)) Q E s) :
 eN X f (BX λi j=>.bl (g i j)):=by
 intro d s k H x y v u Q I n r h;obtain⟨i,j,rfl,rfl,q⟩:=h;obtain⟨t,rfl⟩:=n;obtain⟨c,rfl⟩:=r;exact e i j t c s _ _ ⟨.bl (g i j),H,I,rfl,q⟩
def MX(i j:Int):Prop:=0<j/\j<1073741824
def MY(i j:Int):Prop:=0<=j/\j<=1000000/\i.natAbs<2 ^ 64
def Dr(i j:Int):Prop:=(-(2 ^ 64)<i/\i<2 ^ 64)\/(-(2 ^ 64)<j/\j<2 ^ 64)
def Dr.ok{i j:Int}(h:Dr i j):IntMulOk i j:=by
 rcases h with⟨e,t⟩|⟨e,t⟩
 .exact .of_left (intBits_le_64 e t)
 .exact .of_right (intBits_le_64 e t)
def zS:eN X (binaryOp .Add) (BX λi j=>.int (i+j)):=Gs λ_ _ _ _ _ _ _ q=>add_int q
def xa:eN X (binaryOp .Sub) (BX λi j=>.int (i-j)):=Gs λ_ _ _ _ _ _ _ q=>sub_int q
def BY:eN X (binaryOp .Mult) (rI Dr λi j=>.int (i*j)):=JA λ_ _ _ _ _ _ _ e q=>mul_int q e.ok
def yB:eN X (binaryOp .FloorDiv) (rI MX λi j=>.int (i/j)):=JA λi j _ _ _ _ _ e q=>by
 have t:(0:Int)<j:=e.1;have v:j<1073741824:=e.2;exact floordiv_int (by omega) (by rw[Int.fdiv_eq_ediv_of_nonneg i (by omega)];exact q) (.inl (PyProof.noPylong_small (by omega)))
def zW:eN X (binaryOp .Mod) (rI (λ_ j=>0<j) λi j=>.int (i%j)):=JA λi j _ _ _ _ _ e q=>by
 have t:(0:Int)<j:=e;exact mod_int' (by omega) (by rw[Int.fmod_eq_emod_of_nonneg i (by omega)];exact q)
def Ds:eN X (binaryOp .Pow) (rI MY λi j=>.int (i ^ j.toNat)):=JA λ_ _ _ _ _ _ _ e q=>pow_int_small e.1 e.2.1 e.2.2 q
def Y6{f:Value->Sem Value}{g:Int->Int}
 (e:∀(i:Int)(t:Tok)(s:Shared)(Q:Value->Shared->Prop)(E:Value->Shared->Prop),Q (.int (g i) s.toks) { s with toks:=s.toks+1 }->wpAny (model X.prog X.w) X.A (f (.int i t)) Q E s) :
 MV X f (rU λi=>.int (g i)):=by
 intro r s c H x v Q I n h;obtain⟨i,rfl,q⟩:=h;obtain⟨t,rfl⟩:=n;exact e i t s _ _ ⟨.int (g i),H,I.tok _,⟨_,rfl⟩,q⟩
def Dt:MV X (unaryOp .USub) (rU λi=>.int (-i)):=Y6 λ_ _ _ _ _ q=>neg_int q
end
def Gu:V->V->Bool
 | .bR,.bR=>true | .bR,.int _=>true | .int _,.bR=>true | .bR,.bl _=>true | .bl _,.bR=>true | .bR,.str _=>true | .str _,.bR=>true
 | .int _,.int _=>true | .bl _,.bl _=>true | .str _,.str _=>true | .kQ _,.kQ _=>true
 | .int _,.str _=>true | .str _,.int _=>true | .bl _,.str _=>true | .str _,.bl _=>true
 | _,_=>false
def Y7:R2:=λx y H Q=>Gu x y=true/\Q (.bl (decide (x=y))) H
def Y8:R2:=λx y H Q=>Gu x y=true/\Q (.bl (!decide (x=y))) H
def mJ{i j:Int}:decide (V.int i=V.int j)=(i==j):=by
 rw[Bool.eq_iff_iff];simp
def sx{i j:Bool}:decide (V.bl i=V.bl j)=(i==j):=by
 rw[Bool.eq_iff_iff];simp
def mK{i j:Str}:decide (V.str i=V.str j)=(i==j):=by
 rw[Bool.eq_iff_iff];simp
def mL{i j:Array UInt8}:decide (V.kQ i=V.kQ j)=(i.toList==j.toList):=by
 rw[Bool.eq_iff_iff];cases i;cases j;simp
section
variable {X:Cx}{a b c:Expr}{ta tb tc:TE}{pos:Pos}
def zT{pins:List (Addr×Obj)}{σ:St}{H:Hp}{s:Shared}{Q:VK}{k k':Bool}(I:Inv X pins σ H s)(q:Q (.bl k) H)(e:k=k'):EP X pins σ Q (.bool k') s:=by
 subst e;exact⟨.bl k,H,I,rfl,q⟩
def zG:eN X (compareOp .Eq) Y7:=by
 intro k s l H x y v u Q I d e h;obtain⟨r,q⟩:=h;cases x with
 | bR =>
   cases d;cases y with
   | bR=>cases e;exact PySem.EqNone.eq_none_none (zT I q (by simp))
   | bl j=>cases e;exact PySem.EqNone.eq_none_bool (zT I q (by simp))
   | int j=>obtain⟨n,rfl⟩:=e;exact PySem.EqNone.eq_none_int (zT I q (by simp))
   | str j=>obtain⟨n,rfl⟩:=e;exact PySem.EqNone.eq_none_str (zT I q (by simp))
   | _=>exact q02 (show false=true from r) q23
 | bl i =>
   cases d;cases y with
   | bR=>cases e;exact PySem.EqNone.eq_bool_none (zT I q (by simp))
   | bl j=>cases e;exact eq_bool (zT I q sx)
   | str j=>obtain⟨n,rfl⟩:=e;exact PySem.EqMixed.eq_bool_str (zT I q (by simp))
   | _=>exact q02 (show false=true from r) q23
 | int i =>
   obtain⟨t,rfl⟩:=d;cases y with
   | bR=>cases e;exact PySem.EqNone.eq_int_none (zT I q (by simp))
   | int j=>obtain⟨n,rfl⟩:=e;exact eq_int (zT I q mJ)
   | str j=>obtain⟨n,rfl⟩:=e;exact PySem.EqMixed.eq_int_str (zT I q (by simp))
   | _=>exact q02 (show false=true from r) q23
 | str i =>
   obtain⟨t,rfl⟩:=d;cases y with
   | bR=>cases e;exact PySem.EqNone.eq_str_none (zT I q (by simp))
   | bl j=>cases e;exact PySem.EqMixed.eq_str_bool (zT I q (by simp))
   | int j=>obtain⟨n,rfl⟩:=e;exact PySem.EqMixed.eq_str_int (zT I q (by simp))
   | str j=>obtain⟨n,rfl⟩:=e;exact eq_str (zT I q mK)
   | _=>exact q02 (show false=true from r) q23
 | kQ i =>
   obtain⟨t,rfl⟩:=d;cases y with
   | kQ j=>obtain⟨n,rfl⟩:=e;exact PySem.W.eq_bytes (zT I q mL)
   | _=>exact q02 (show false=true from r) q23
 | _=>cases y <;> exact q02 (show false=true from r) q23
def jb:eN X (compareOp .NotEq) Y8:=by
 intro k s l H x y v u Q I d e h;obtain⟨r,q⟩:=h;cases x with
 | bR =>
   cases d;cases y with
   | bR=>cases e;exact PySem.EqNone.ne_none_none (zT I q (by simp))
   | bl j=>cases e;exact PySem.EqNone.ne_none_bool (zT I q (by simp))
   | int j=>obtain⟨n,rfl⟩:=e;exact PySem.EqNone.ne_none_int (zT I q (by simp))
   | str j=>obtain⟨n,rfl⟩:=e;exact PySem.EqNone.ne_none_str (zT I q (by simp))
   | _=>exact q02 (show false=true from r) q23
 | bl i =>
   cases d;cases y with
   | bR=>cases e;exact PySem.EqNone.ne_bool_none (zT I q (by simp))
   | bl j=>cases e;exact ne_bool (zT I q (congrArg not sx))
   | str j=>obtain⟨n,rfl⟩:=e;exact PySem.EqMixed.ne_bool_str (zT I q (by simp))
   | _=>exact q02 (show false=true from r) q23
 | int i =>
   obtain⟨t,rfl⟩:=d;cases y with
   | bR=>cases e;exact PySem.EqNone.ne_int_none (zT I q (by simp))
   | int j=>obtain⟨n,rfl⟩:=e;exact ne_int (zT I q (congrArg not mJ))
   | str j=>obtain⟨n,rfl⟩:=e;exact PySem.EqMixed.ne_int_str (zT I q (by simp))
   | _=>exact q02 (show false=true from r) q23
 | str i =>
   obtain⟨t,rfl⟩:=d;cases y with
   | bR=>cases e;exact PySem.EqNone.ne_str_none (zT I q (by simp))
   | bl j=>cases e;exact PySem.EqMixed.ne_str_bool (zT I q (by simp))
   | int j=>obtain⟨n,rfl⟩:=e;exact PySem.EqMixed.ne_str_int (zT I q (by simp))
   | str j=>obtain⟨n,rfl⟩:=e;exact ne_str (zT I q (congrArg not mK))
   | _=>exact q02 (show false=true from r) q23
 | kQ i =>
   obtain⟨t,rfl⟩:=d;cases y with
   | kQ j=>obtain⟨n,rfl⟩:=e;exact PySem.W.ne_bytes (zT I q (congrArg not mL))
   | _=>exact q02 (show false=true from r) q23
 | _=>cases y <;> exact q02 (show false=true from r) q23
def E6:eN X (compareOp .Lt) (BX λi j=>.bl (decide (i<j))):=Ag λ_ _ _ _ _ _ _ q=>lt_int q
def xb:eN X (compareOp .LtE) (BX λi j=>.bl (decide (i<=j))):=Ag λ_ _ _ _ _ _ _ q=>le_int q
def BZ:eN X (compareOp .Gt) (BX λi j=>.bl (decide (j<i))):=Ag λ_ _ _ _ _ _ _ q=>gt_int q
def Gv:eN X (compareOp .GtE) (BX λi j=>.bl (decide (j<=i))):=Ag λ_ _ _ _ _ _ _ q=>ge_int q
def sy:eN X (compareOp .Is) (λx y H Q=>y=.bR/\Q (.bl (decide (x=.bR))) H):=by
 intro r s d H x y v u Q I e n h;obtain⟨rfl,q⟩:=h;cases n;refine is_none_gen (zT I q ?_);cases x <;> first
  | (cases e;rfl)
  | (obtain⟨t,rfl⟩:=e;rfl)
def Ah:eN X (compareOp .IsNot) (λx y H Q=>y=.bR/\Q (.bl (!decide (x=.bR))) H):=by
 intro r s d H x y v u Q I e n h;obtain⟨rfl,q⟩:=h;cases n;refine isnot_none_gen (zT I q ?_);cases x <;> first
  | (cases e;rfl)
  | (obtain⟨t,rfl⟩:=e;rfl)
variable {op:CmpOp}
def zl(b:Expr)(h:op ≠ .In:=by decide)(v:op ≠ .NotIn:=by decide):behindInMarks op b=false:=by
 have e:(op==CmpOp.In)=false:=by cases op <;> first | rfl | exact q02 rfl h
 have t:(op==CmpOp.NotIn)=false:=by cases op <;> first | rfl | exact q02 rfl v
 cases b <;> simp[behindInMarks,e,t]
def sD{r:R2}(j:eN X (compareOp op) r)(n:PE X a ta)(d:PE X b tb)(i:behindInMarks op b=false):PE X (.Compare a [op] [b] pos) (Jz r ta tb):=by
 intro k s g H Q I h;exact wpAny_Compare1 (Dp n d I h λv u p x y e t l m q=>j k p g e x y v u Q t l m q) i
inductive sE (x:V)(H':Hp)(Q:Bool->Hp->Prop):Prop|mk(k:_):x=.bl k->Q k H'->sE x H' Q
def Gw(t:TE):TT:=λv H Q=>t v H λx e=>sE x e Q
def zj{r:R2}(B:eN X (compareOp op) r)(q:PE X a ta)(g:PE X b tb)(f:behindInMarks op b=false):PT X (.Compare a [op] [b] pos) (Gw (Jz r ta tb)):=by
 intro t s n H Q I h;refine wpAny_isTrue_Compare1 (aU (q t s n H _ I h) λv N ⟨x,d,l,J,C⟩=>aU (g t N n d _ l C) λu O ⟨y,i,m,L,D⟩ =>
  aU (B t O n i x y v u _ m J L D) λc R ⟨z,j,p,M,k,e,G⟩=>?_) f
 subst e;cases M;exact wpAny_truthy_bool ⟨j,p,G⟩
def Du(r i:R2)(ta tb tc:TE):TE:=λe H Q=>ta e H λx v=>tb e v λy n=>r x y n λz t=>∃k,z=.bl k /\
 (if k=true then tc e t λj d=>i y j d Q else Q (.bl false) t)
def JB{i:CmpOp}{r p:R2}(O:eN X (compareOp op) r)(R:eN X (compareOp i) p)(J:PE X a ta)(L:PE X b tb)(M:PE X c tc)
 (N:lastMarks [op,i] [b,c]=false:=by with_unfolding_all rfl):PE X (.Compare a [op,i] [b,c] pos) (Du r p ta tb tc):=by
 intro t s n H Q I h;refine Compare_chain (aU (J t s n H _ I h) λv Z ⟨x,g,C,V,S⟩=>chain_link (aU (L t Z n g _ C S) λu F ⟨y,f,D,q,T⟩ =>
  aU (O t F n f x y v u _ D V q T) λd w ⟨z,j,l,W,k,e,m⟩=>?_)) N
 subst e;cases W;refine wpAny_truthy_bool ?_;cases k with
 | false=>exact ite_ff ⟨.bl false,j,l,rfl,m⟩
 | true=>exact ite_tt (chain_last (aU (M t w n j _ l m) λA o ⟨E,B,G,Y,U⟩=>R t o n B y E u A Q G q Y U))
def Gx(K:Frag)(x:V)(H:Hp)(k:Bool):Prop :=
 match x with
 | .bR=>k=false
 | .bl b=>k=b
 | .int i=>k=(i != 0)
 | .str y=>y.length<=sizeLine/\k=((y.length:Int) != 0)
 | .kQ y=>y.size<=sizeLine/\k=((y.size:Int) != 0)
 | .ref p=>(∃e,ah K H p e/\k = !e.isEmpty)\/(∃e,cE K H p e/\k = !e.isEmpty)\/∃t,H p=some (.dK t)/\k = !t.isEmpty
 | _=>False
def k9{t:Type}{e:List (t×V)}{vs:List (t×Value)}(r:KV e vs):(!vs.isEmpty) = !e.isEmpty:=by
 cases r <;> rfl
def T6{xs:List V}{e:List Value}(r:Vals xs e):(!e.toArray.isEmpty) = !xs.isEmpty:=by
 cases r <;> simp
def B0:(sizeLine:Nat)<2 ^ 63:=by rw[sizeLine_eq];decide
def Dv:MW X (λx H Q=>∃k,Gx X.K x H k/\Q k H):=by
 intro N s O H x v Q I l h;obtain⟨k,e,q⟩:=h;have L:=B0;have M:sizeLine=16777216:=sizeLine_eq;cases x with
 | bR =>
   cases l;have n:k=false:=e;subst n;exact truthy_none ⟨H,I,q⟩
 | bl b =>
   cases l;have n:k=b:=e;subst n;exact wpAny_truthy_bool ⟨H,I,q⟩
 | int i =>
   obtain⟨t,rfl⟩:=l;have n:k=(i != 0):=e;subst n;exact PySem.P.truthy_int ⟨H,I,q⟩
 | str y =>
   obtain⟨t,rfl⟩:=l;obtain⟨J,n⟩:y.length<=sizeLine/\k=((y.length:Int) != 0):=e;subst n;exact PySem.P.truthy_str (by omega) ⟨H,I.tok _,q⟩
 | kQ y =>
   obtain⟨t,rfl⟩:=l;obtain⟨J,n⟩:y.size<=sizeLine/\k=((y.size:Int) != 0):=e;subst n;exact PySem.W.truthy_bytes (by omega) ⟨H,I.tok _,q⟩
 | ref p =>
   cases l;have n:(∃d,ah X.K H p d/\k = !d.isEmpty)\/(∃d,cE X.K H p d/\k = !d.isEmpty)\/∃j,H p=some (.dK j)/\k = !j.isEmpty:=e;rcases n with⟨d,g,n⟩|⟨d,g,n⟩|⟨j,g,n⟩
   .subst n;obtain⟨D,r,z,C⟩:=I.list g;have B:=r.length;exact wpAny_truthy_list z.isList (by simp only[q10];omega) ⟨H,I.tok _,by rw[T6 r];exact q⟩
   .subst n;obtain⟨D,r,z,C⟩:=I.tuple g;have B:=r.length;exact truthy_tuple z (by simp only[q10];omega) ⟨H,I.tok _,by rw[T6 r];exact q⟩
   .subst n;obtain⟨C,G,f,r,m⟩:j.length<=sizeLine/\(p==sysModules)=false/\∃f,KV j f/\s.heap.DictOf (wA X.prog X.w) p f:=I.aO p _ g;have B:j.length=f.length:=Paired.length r;exact wpAny_truthy_dict G m (by omega) ⟨H,I.tok _,by rw[k9 r];exact q⟩
 | _=>exact(show False from e).elim
def M0(j:PE X a ta)(he:∀r,isTrue a X.env r=(do let v <-r;standAt a.pos;holding [v] (truthy v))):
 PT X a (λe H Q=>ta e H λx t=>∃k,Gx X.K x t k/\Q k t):=by
 intro n s e H Q I h;exact isTrue_plain (aU (j n s e H _ I h) λv p ⟨x,d,i,m,l⟩=>Dv n p e d x v Q i m l) (he _)
inductive gM (x y:V)(H:Hp)(Q:VK):Prop|mk(i:_)(j:_):x=.str i->y=.str j->i.length+j.length<=sizeLine->Q (.str (i++j)) H->gM x y H Q
def zC:eN X (binaryOp .Add) gM:=by
 intro k s m H x y v u Q I n r h;obtain⟨i,j,rfl,rfl,e,q⟩:=h;obtain⟨t,rfl⟩:=n;obtain⟨d,rfl⟩:=r;exact add_str (λd l=>⟨.str (i++j),H,I.tok _,⟨_,rfl⟩,q⟩) e
variable {us:List Value}
def Dw{x:V}(r:Vals [x] us):∃u,us=[u]/\RelV x u:=by
 cases r with
 | cons e t=>cases t;exact⟨_,rfl,e⟩
def vals2{x y:V}(r:Vals [x,y] us):∃u e,us=[u,e]/\RelV x u/\RelV y e:=by
 cases r with
 | cons t v =>
   cases v with
   | cons n d=>cases d;exact⟨_,_,rfl,t,n⟩
inductive ir (xs:List V)(H:Hp)(Q:VK):Prop|mk(i:_)(j:_):xs=[.int i,.int j]->(Q (.int (if j<i then j else i)) H)->ir xs H Q
def oI(v:X.calm=true):wZ X (.builtin "min") ir:=by
 intro d s f H g us Q I r h;obtain⟨i,j,rfl,q⟩:=h;obtain⟨u,p,rfl,⟨t,rfl⟩,⟨l,rfl⟩⟩:=vals2 r;refine min_two_ints (I.ok.hd v) λn m k=>⟨_,H,I.kept k,?_,q⟩;by_cases e:j<i
 .rw[q01 e,q01 e];exact⟨_,rfl⟩
 .rw[q00 e,q00 e];exact⟨_,rfl⟩
def T7:wZ X (.type "int") (λe H Q=>(∃i,e=[.int i]/\Q (.int i) H)\/∃k,e=[.bl k]/\Q (.int (if k then 1 else 0)) H):=by
 intro v s n H e us Q I r h;rcases h with⟨i,rfl,q⟩|⟨k,rfl,q⟩
 .obtain⟨u,rfl,t,rfl⟩:=Dw r;exact call_int_int ⟨.int i,H,I,⟨_,rfl⟩,q⟩
 .obtain⟨u,rfl,r1⟩:=Dw r;cases r1;exact call_int_bool ⟨.int (if k then 1 else 0),H,I.tok _,⟨_,rfl⟩,q⟩
inductive fM (xs:List V)(H:Hp)(Q:VK):Prop|mk(i:_):xs=[.int i]->i.natAbs.log2<1920->Q (.str (toString i)) H->fM xs H Q
def wW:wZ X (.type "str") fM:=by
 intro v s d H n us Q I r h;obtain⟨i,rfl,e,q⟩:=h;obtain⟨u,rfl,t,rfl⟩:=Dw r;exact PySem.P.str_of_int e ⟨.str _,H,I.tok _,⟨_,rfl⟩,q⟩
def Gy(K:Frag)(x:V)(H:Hp)(n:Nat):Prop :=
 match x with
 | .str y=>y.length<=sizeLine/\n=y.length
 | .kQ y=>y.size<=sizeLine/\n=y.size
 | .ref p=>(∃e,ah K H p e/\n=e.length)\/∃e,cE K H p e/\n=e.length
 | _=>False
def sF:wZ X (.builtin "len") (λv H Q=>∃x n,v=[x]/\Gy X.K x H n/\Q (.int n) H):=by
 intro D s G H v us Q I r h;obtain⟨x,n,rfl,e,q⟩:=h;obtain⟨u,rfl,m⟩:=Dw r;have B:=B0;have C:sizeLine=16777216:=sizeLine_eq;cases x with
 | str y =>
   obtain⟨t,rfl⟩:=m;obtain⟨f,d⟩:y.length<=sizeLine/\n=y.length:=e;subst d;exact len_str (by omega) ⟨.int _,H,I.tok _,⟨_,rfl⟩,q⟩
 | kQ y =>
   obtain⟨t,rfl⟩:=m;obtain⟨f,d⟩:y.size<=sizeLine/\n=y.size:=e;subst d;exact PySem.W.len_bytes (by omega) ⟨.int _,H,I.tok _,⟨_,rfl⟩,q⟩
 | ref p =>
   cases m;have d:(∃v,ah X.K H p v/\n=v.length)\/∃v,cE X.K H p v/\n=v.length:=e;rcases d with⟨v,j,d⟩|⟨v,j,d⟩
   .subst d;obtain⟨g,l,k,z⟩:=I.list j;have i:=l.length;exact Calls.call_len_list k.isList (by simp only[q10];omega) ⟨.int v.length,H,I.tok _,⟨_,by simp only[q10];rw[i]⟩,q⟩
   .subst d;obtain⟨g,l,k,z⟩:=I.tuple j;have i:=l.length;exact len_tuple k (by simp only[q10];omega) ⟨.int v.length,H,I.tok _,⟨_,by simp only[q10];rw[i]⟩,q⟩
 | _=>exact(show False from e).elim
end
structure lg (h:Heap) (x dx C:Addr) (mA:Str->Option Value):Prop where
 obj:h.get? x=some (instObj C dx)
 ns:h.Ns1 dx mA
 ne:dx≠x
variable {mA:Str->Option Value}
def oJ{r:Addr}(n:h.Ns1 r mA):∃d,h.get? r=some d/\∀v,lookIn v d=some (mA v):=by
 obtain⟨o,c,f,m,j,k,_,l⟩:=n;refine⟨o,m,λv=>?_⟩;have e:=l v;unfold nsFind findBy at e;rw[<-Array.find?_toList]at e;unfold lookIn;rw[j];dsimp only;split
 .rename_i y q;rw[q]at e;exact congrArg some e
 .rename_i q;rw[q]at e;have a:c.toList.any (·.refKey)=false:=by
   rw[List.any_eq_false];intro y p;obtain⟨z,t,g⟩:=k y (Array.mem_toList_iff.mp p);simp[DictEntry.refKey,g]
  have i:¬c.toList.any (·.refKey)=true:=by rw[a];exact q23
  rw[q00 i];exact congrArg some e
variable {C:Addr}
def lg.look{x t:Addr}(I:lg h x t C mA):∃e,InstAt h x (instObj C t) C (some e)/\∀v,lookIn v e=some (mA v) :=
 let ⟨e,r,n⟩:=oJ I.ns
 ⟨e,⟨I.obj,rfl,rfl,r⟩,n⟩
section
variable {prog:Program}{w:World}{A:Around}{E:Value->Shared->Prop}{s:Shared}{K:Frag}{x dx C f:Addr}{mA:Str->Option Value}{name:Str}{v:Value}
def get_map{t:Bool}{Q:Value->Shared->Prop}(X:K.In s.heap)(I:lg s.heap x dx C mA)(r:plainGet K C name=true)(c:hasDictIn K C=true)
 (n:findIn K (.ref C) name=some none) (i:mA name=some v) (e:handedIn v=true) (h:Q v { s with toks:=s.toks+1 }) :
 wpAny (model prog w) A (getAttr (.ref x) name t) Q E s:=by
 obtain⟨j,J,d⟩:=I.look;exact PySem.W.get_value X J (plainGet_of r).1 (PySem.W.findObj_own c n rfl (by rw[d,i])) e h
def sG{pl:Sem Bool}{Q:Value×List Value->Shared->Prop}(X:K.In s.heap)(I:lg s.heap x dx C mA)(e:plainGet K C name=true)
 (t:findIn K (.ref C) name=some (some (.ref f))) (r:isFn K (.ref f)=true) (c:mA name=none) (h:Q (.ref f,[.ref x]) s) :
 wpAny (model prog w) A (getMethod (.ref x) name pl) Q E s:=by
 obtain⟨d,J,n⟩:=I.look;exact PySem.W.method_fn X J (plainGet_of e).1 (plainGet_of e).2 t (beq_iff_eq.mp r) (by show(lookIn name d).map (·.isSome)=some false;rw[n,c];rfl) h
def Ai{ns:List Str}{Q:Unit->Shared->Prop}(X:K.In s.heap)(I:lg s.heap x dx C mA)
 (hs:findIn K (.ref C) "__setattr__"=some (some (.builtin "object.__setattr__"))) (m:plainOver K C=true) (p:takerIn K C name=some none) (l:hasDictIn K C=true)
 (hw:PySem.Within mA ns) (hsz:ns.length<=sizeLine)
 (h:∀e,lg e x dx C (λy=>if y=name then some v else mA y)->SameBut dx s.heap e->Q () { s with heap:=e,toks:=s.toks+2 }) :
 wpAny (model prog w) A (setAttr (.ref x) name v) Q E s:=by
 obtain⟨L,J,D⟩:=I.look;refine PySem.W.set_plain X J hs (PySem.W.osa_open (s:={ s with toks:=s.toks+1 }) (r:=none) X J m p λb=>?_);obtain⟨g,k,c⟩:=PySem.W.any_some l;have q:s.heap.get? x=some ⟨.ref C,some dx,.plain,#[]⟩:=I.obj;refine q03 (q04 (q03 (q03 (wpAny_loadPart q (q03 (PySem.W.Looks.here (s:={ s with toks:=s.toks+1 }) (PySem.W.looks_clsIn X k) ?_))))));rw[c];refine q04 (a:=some dx) (q03 (q04 (q03 ?_)));refine wpAny_nsSet1 (s:={ s with toks:=s.toks+1 }) I.ns λe t n=>?_;obtain⟨G,B,z,d,i,j⟩:=t.count (PySem.Within.cons name v hw);refine q03 (wpAny_lookBehind d (by rw[i];exact pastItsLine_dict (q38 j (by rw[q12];omega))) ?_);exact q04 (h _ ⟨(n.2 _ (Ne.symm I.ne)).trans I.obj,t,I.ne⟩ n)
def sH{R:Result->Shared->Prop}{vs:List Value}{e:List (Str×Value)}(X:K.In s.heap)(c:makesIn K C=true)
 (r:findIn K (.ref C) "__init__"=some (some (.ref f))) (n:typeIn K (.ref f)=some (.type "function"))
 (h:codeAny (model prog w) (A.under (.builtin "type.__call__" ⟨.ref C::vs,e⟩)) (.call (.ref f) ⟨.ref (s.heap.objs.size+1)::vs,e⟩) (PySem.W.InitBack (s.heap.objs.size+1) R)
   { s with heap:=(s.heap.push emptyDict).push (instObj C s.heap.objs.size) }) :
 codeAny (model prog w) A (.call (.ref C) ⟨vs,e⟩) R s:=by
 obtain⟨j,g,d,t,k⟩:=s;exact PySem.W.make_core (PySem.W.makes_of X c) (PySem.W.looks_findIn X r) (λi=>PySem.W.bind_fn X i n) (.inl rfl) h
end
def fZ(f:Str)(v:V):List (Str×V)->List (Str×V)
 | []=>[(f,v)]
 | (g,x)::r=>if g=f then(g,v)::r else(g,x)::fZ f v r
def T8(f g:Str)(v:V):∀fs:List (Str×V),(fZ f v fs).lookup g=if g=f then some v else fs.lookup g
 | []=>by
   show List.lookup g [(f,v)]=_;by_cases h:g=f
   .have hb:(g==f)=true:=beq_iff_eq.mpr h;simp only[List.lookup,hb,q01 h]
   .have hb:(g==f)=false:=beq_eq_false_iff_ne.mpr h;simp only[List.lookup,hb,q00 h]
 | (k,x)::r=>by
   have n:=T8 f g v r;rw[show fZ f v ((k,x)::r)=(if k=f then(k,v)::r else(k,x)::fZ f v r)from rfl];by_cases t:k=f
   .rw[q01 t];by_cases h:g=k
    .have hb:(g==k)=true:=beq_iff_eq.mpr h;simp only[List.lookup,hb,q01 (h.trans t)]
    .have hb:(g==k)=false:=beq_eq_false_iff_ne.mpr h;simp only[List.lookup,hb,q00 (λe:g=f=>h (e.trans t.symm))]
   .rw[q00 t];by_cases h:g=k
    .have hb:(g==k)=true:=beq_iff_eq.mpr h;simp only[List.lookup,hb,q00 (λe:g=f=>t (h.symm.trans e))]
    .have hb:(g==k)=false:=beq_eq_false_iff_ne.mpr h;simp only[List.lookup,hb];exact n
def M4(f:Str)(v:V):∀fs:List (Str×V),f∈(fZ f v fs).map (·.1)/\∀g,g∈fs.map (·.1)->g∈(fZ f v fs).map (·.1)
 | []=>⟨by simp[fZ],λg h=>by simp at h⟩
 | (k,x)::r=>by
   obtain⟨n,c⟩:=M4 f v r;rw[show fZ f v ((k,x)::r)=(if k=f then(k,v)::r else(k,x)::fZ f v r)from rfl];by_cases t:k=f
   .rw[q01 t];subst t;exact⟨by simp,λg h=>by simpa using h⟩
   .rw[q00 t];refine⟨?_,λg h=>?_⟩
    .rw[map_cons];exact q13 _ n
    .rw[map_cons]at h ⊢;rcases q27.mp h with e | e
     .exact q27.mpr (.inl e)
     .exact q13 _ (c g e)
def T9(f:Str)(v:V):∀fs:List (Str×V),(fZ f v fs).length<=fs.length+1
 | []=>by simp[fZ]
 | (k,x)::r=>by
   have t:=T9 f v r;rw[show fZ f v ((k,x)::r)=(if k=f then(k,v)::r else(k,x)::fZ f v r)from rfl];by_cases e:k=f
   .rw[q01 e,q12,q12];omega
   .rw[q00 e,q12,q12];omega
def fB.some_of{v:V}{o:Option Value}(r:fB (some v) o):∃u,o=some u/\RelV v u:=by
 cases o with
 | none=>exact(show False from r).elim
 | some u=>exact⟨u,rfl,r⟩
def fB.none_of{o:Option Value}(r:fB none o):o=none:=by
 cases o with
 | none=>rfl
 | some u=>exact(show False from r).elim
def oM{v:V}(r:RelV v u):handedIn u=true:=by
 cases v with
 | bR=>cases (show u=Value.none from r);rfl
 | bl b=>cases (show u=Value.bool b from r);rfl
 | int i=>obtain⟨t,e⟩:=(show ∃t,u=Value.int i t from r);cases e;rfl
 | str x=>obtain⟨t,e⟩:=(show ∃t,u=Value.str x t from r);cases e;rfl
 | kQ b=>obtain⟨t,e⟩:=(show ∃t,u=Value.bytes b t from r);cases e;rfl
 | Jo b=>obtain⟨t,e⟩:=(show ∃t,u=Value.float b t from r);cases e;rfl
 | ref a=>cases (show u=Value.ref a from r);rfl
 | ty n=>cases (show u=Value.type n from r);rfl
section
variable {P:Program}{w:World}{H:Hp}{h:Heap}{a C dx:Addr}{fs:List (Str×V)}
def M7(aO:eA P w H h)(e:H a=some (.ins C dx fs)):∃mA,lg h a dx C mA/\(∀f,fB (fs.lookup f) (mA f))/\PySem.Within mA (fs.map (·.1))/\fs.length<=1000/\H dx=some (.own a):=by
 obtain⟨d,z,ne,t,mA,n,r,q⟩:=(show bH P w H h a (.ins C dx fs)from aO a _ e);exact⟨mA,⟨t,n,ne⟩,r,q,z,d⟩
end
structure qS (K:Frag) (C:Addr):Prop where
 pg:plainGet K C Str.empty=true
 hd:hasDictIn K C=true
 po:plainOver K C=true
 sa:findIn K (.ref C) "__setattr__"=some (some (.builtin "object.__setattr__"))
def qS.get(c:qS K C)(f:Str):plainGet K C f=true:=c.pg
def cN(K:Frag)(C:Addr)(f:Str):Prop:=findIn K (.ref C) f=some none
def cN.Gz{f:Str}(n:cN K C f):takerIn K C f=some none:=by
 unfold takerIn;rw[show findIn K (.ref C) f=some none from n];rfl
structure Meth (K:Frag) (C:Addr) (m:Str) (f:Addr):Prop where
 at_:findIn K (.ref C) m=some (some (.ref f))
 fn:isFn K (.ref f)=true
 kp:keepIn K (.ref f)=true
section
variable {X:Cx}{pins:List (Addr×Obj)}{σ:St}{H:Hp}{s:Shared}{a C dx:Addr}{fs:List (Str×V)}{f:Str}{v:V}{A:Around}{E:Value->Shared->Prop}{Q:Value->Shared->Prop}
def lj{b:Bool}(I:Inv X pins σ H s)(e:H a=some (.ins C dx fs))(c:qS X.K C)(n:cN X.K C f)(l:fs.lookup f=some v)
 (h:∀u d,Inv X pins σ H d->RelV v u->Q u d):wpAny (model X.prog X.w) A (getAttr (.ref a) f b) Q E s:=by
 obtain⟨mA,O,r,_,_,_⟩:=M7 I.aO e;obtain⟨u,i,t⟩:=fB.some_of (v:=v) (o:=mA f) (by rw[<-l];exact r f);exact get_map I.j0 O (c.get f) c.hd n i (oM t) (h u _ (I.tok _) t)
def M8{m:Str}{g:Addr}{pl:Sem Bool}{Q:Value×List Value->Shared->Prop}(I:Inv X pins σ H s)(e:H a=some (.ins C dx fs))(c:qS X.K C)(k:Meth X.K C m g)(l:fs.lookup m=none)
 (h:Q (.ref g,[.ref a]) s):wpAny (model X.prog X.w) A (getMethod (.ref a) m pl) Q E s:=by
 obtain⟨mA,O,r,_,_,_⟩:=M7 I.aO e;have t:mA m=none:=fB.none_of (by rw[<-l];exact r m);exact sG I.j0 O (c.get m) k.at_ k.fn t h
def Zd{y:V}{u:Value}{Q:Unit->Shared->Prop}(I:Inv X pins σ H s)(e:H a=some (.ins C dx fs))(c:qS X.K C)(n:cN X.K C f)(L:fs.length<1000)(G:RelV y u)
 (h:∀i,Inv X pins σ (upd H a (.ins C dx (fZ f y fs))) i->Q () i):wpAny (model X.prog X.w) A (setAttr (.ref a) f u) Q E s:=by
 obtain⟨mA,O,r,j,_,d⟩:=M7 I.aO e;have D:(fs.map (·.1)).length<=sizeLine:=by rw[q06,sizeLine_eq];omega
 refine Ai I.j0 O c.sa c.po n.Gz c.hd j D λl t J=>h _ ?_;have p:∃o,l.get? dx=some o:=let ⟨o,_,_,k,_⟩:=t.ns;⟨o,k⟩;refine I.write (x:=a) (e:=dx) (by rw[e];exact True.intro) (.inr d) (λb q m z=>(J.2 b m).trans z) p ?_;refine⟨by rw[zi O.ne];exact d,?_,O.ne,t.obj,_,t.ns,λg=>?_,λg B=>?_⟩
 .have:=T9 f y fs;omega
 .show fB ((fZ f y fs).lookup g) (if g=f then some u else mA g);rw[T8];by_cases q:g=f
  .rw[q01 q,q01 q];exact G
  .rw[q00 q,q00 q];exact r g
 .by_cases q:g=f
  .rw[q];exact(M4 f y fs).1
  .refine(M4 f y fs).2 g (j g λz=>B ?_);show(if g=f then some u else mA g)=none;rw[q00 q];exact z
def Inv.made(I:Inv X pins σ H s):Inv X pins σ (upd (upd H s.heap.objs.size (.own (s.heap.objs.size+1))) (s.heap.objs.size+1) (.ins C s.heap.objs.size []))
 { s with heap:=(s.heap.push emptyDict).push (instObj C s.heap.objs.size) }:=by
 have t:(s.heap.push emptyDict).get? s.heap.objs.size=some emptyDict:=get?_push_size s.heap rfl;have r:((s.heap.push emptyDict).push (instObj C s.heap.objs.size)).get? (s.heap.objs.size+1)=some (instObj C s.heap.objs.size):=by
  have:=get?_push_size (s.heap.push emptyDict) (o:=instObj C s.heap.objs.size) rfl
  rwa [size_push]at this
 have c:(s.heap.push emptyDict).Ns s.heap.objs.size (λ_=>none):=⟨emptyDict,#[],_,t,rfl,(λe d=>q02 d (by simp)),λ_=>rfl⟩;have n:=I.laid (a:=s.heap.objs.size) (o:=.own (s.heap.objs.size+1)) (h':=s.heap.push emptyDict) (t':=s.toks) (λb u q=>q05 _ q) (le_refl _) ⟨_,t⟩;refine n.laid (a:=s.heap.objs.size+1) (o:=.ins C s.heap.objs.size []) (t':=s.toks) (λb u q=>q05 _ q) (le_of_eq (size_push _ _)) ?_;have ne:s.heap.objs.size≠s.heap.objs.size+1:=ne_of_lt (lt_succ_self _);refine⟨by rw[zi ne,zd],zero_le _,ne,r,λ_=>none,(Heap.Ns1.of_empty c).at λo q=>q05 _ q,λ_=>True.intro,λy i=>q02 rfl i⟩
def Aj{prog:Program}{w:World}{env:Env}{e:Expr}{f:Str}{n:Pos}{s:Shared}(t:attributeBase e f env (eval e env)=eval e env)
 (h:wpAny (model prog w) A (eval e env) (λo r=>wpAny (model prog w) A (getAttr o f true) Q E r) E s):wpAny (model prog w) A (eval (.Attribute e f n) env) Q E s :=
 Attribute_any_ h (by rw[arm_eval_Attribute,t])
end
inductive B1 (K:Frag)(f:Str)(x:V)(e:Hp)(Q:VK):Prop|mk(a:_)(C:_)(t:_)(fs:_)(v:_):x=.ref a->e a=some (.ins C t fs)->qS K C->cN K C f->fs.lookup f=some v->Q v e->B1 K f x e Q
def GA(K:Frag)(t:TE)(f:Str):TE:=λv H Q=>t v H λx e=>B1 K f x e Q
def Na(K:Frag)(r c:TE)(f:Str):TS:=λD e H=>c e H λy n=>r e n λx t=>∃a C v fs,x=.ref a/\t a=some (.ins C v fs)/\qS K C/\cN K C f/\fs.length<1000 /\
 D.nx e (upd t a (.ins C v (fZ f y fs)))
section
variable {X:Cx}{o e value:Expr}{f:Str}{pos pos':Pos}{ta tv:TE}
def wI(he:PE X e ta)(k:attributeBase e f X.env (eval e X.env)=eval e X.env):PE X (.Attribute e f pos) (GA X.K ta f):=by
 intro m s y H Q I h;refine Aj k (aU (he m s y H _ I h) λu B ⟨x,t,r,g,a,C,z,fs,v,j,i,c,n,l,q⟩=>?_);subst j;obtain rfl:u=Value.ref a:=g;exact lj r i c n l λG D d p=>⟨v,t,d,p,q⟩
def Ak(p:PE X o ta)(g:PE X value tv)(hs:swapsWith value (some (.Attribute o f pos')) pos.line X.env=pure false):PS X (.Assign [.Attribute o f pos'] value pos) (Na X.K ta tv f):=by
 intro v s t H D I h;refine plainObj_wpAny_Assign_Attribute (aU (g v s t H _ I h) λu L ⟨y,r,d,J,q⟩=>aU (p v L t r _ d q) λz O ⟨x,M,i,G,a,C,N,fs,m,k,c,n,l,B⟩=>?_) hs;subst m;obtain rfl:z=Value.ref a:=G;exact Zd i k c n l J λQ j=>⟨t,_,j,B⟩
end
structure bA (k:Nat) (A:Around):Prop where
 hd:A.handled=none
 dp:A.depth+3*k+5<recursionLimit
 un:A.units+16*k+200<cLine
variable {k:Nat}
def bA.mono{j:Nat}(r:bA k A)(h:j<=k):bA j A:=⟨r.hd,by have:=r.dp;omega,by have:=r.un;omega⟩
def hM{j:Nat}(r:bA k A)(h:j<=k:=by decide):bA j A:=r.mono h
def bA.deeper(r:bA (k+1) A)(env:Env):bA k (A.deeper env) :=
 ⟨r.hd,by have:=r.dp;show A.depth+1+3*k+5<_;omega,by have:=r.un;show A.units+3+16*k+200<_;omega⟩
def bA.in1(r:bA (k+1) A):bA k A.in1 :=
 ⟨r.hd,by have:=r.dp;show A.depth+3*k+5<_;omega,by have:=r.un;show A.units+1+16*k+200<_;omega⟩
variable {kw:List (Str×Value)}
def lq:(A.under (.builtin "type.__call__" ⟨.ref C::us,kw⟩)).depth=A.depth+1:=by
 first | rfl | simp[Around.under,Code.weight,Code.isCreation,Code.isGuard,Code.isCaller,Code.frames,Code.isFrame,guardIds]
def lu:(A.under (.builtin "type.__call__" ⟨.ref C::us,kw⟩)).units=A.units+1:=by
 first | rfl | simp[Around.under,Code.cUnits,Code.frames,Code.isFrame]
def bA.make(r:bA (k+1) A)(C:Addr)(us:List Value)(kw:List (Str×Value)):bA k (A.under (.builtin "type.__call__" ⟨.ref C::us,kw⟩)) :=
 ⟨r.hd,by have:=r.dp;rw[lq];omega,by have:=r.un;rw[lu];omega⟩
def bA.depth(r:bA k A):A.depth<recursionLimit:=by have:=r.dp;omega
def bA.units(r:bA k A):A.units+64<cLine:=by have:=r.un;omega
def bA.bE(r:bA k A):A.units<cLine:=by have:=r.un;omega
def oN:TA:=λ_ H Q=>Q [] H
def mM(n:TE)(r:TA):TA:=λe H Q=>n e H λx t=>r e t λc v=>Q (x::c) v
section
variable {X:Cx}{e:Expr}{es:List Expr}{te:TE}{t:TA}{pos:Pos}
def zb:PA X [] oN:=λ_ _ _ _ H Q I h=>Calls.spliced_nil ⟨[],H,I,.nil,h⟩
def za(j:PE X e te)(l:PA X es t)(hs:starEach (e::es) X.env=(false,eval e X.env)::starEach es X.env:=by rfl):PA X (e::es) (mM te t):=by
 intro pos v s n H Q I h;rw[hs];show wpAny _ _ (spliced ((false,eval e X.env)::backTo pos (starEach es X.env))) _ _ s;refine Calls.spliced_cons (aU (j v s n H _ I h) λu f ⟨x,r,d,q,m⟩=>?_);exact aU (l pos v f n r _ d m) λus z ⟨y,c,i,g,p⟩=>⟨x::y,c,i,.cons q g,p⟩
def Nc(t:TA):TE:=λr H Q=>t r H λn v=>n.length<=sizeLine/\∀p,v p=none->Q (.ref p) (upd v p (.tup n))
def Nd(t:TA):TE:=λr H Q=>t r H λn v=>n.length<=sizeLine/\∀p,v p=none->Q (.ref p) (upd v p (.lst n))
def oO{l}(h:PA X es t):PE X (.Tuple es l pos) (Nc t):=by
 intro j s p H Q I i;refine wpAny_Tuple_spliced (aU (h pos j s p H _ I i) λus v ⟨m,n,c,r,z,q⟩=>⟨by rw[<-r.length];exact z,?_⟩);have d:n v.heap.objs.size=none:=c.aO.fresh (le_refl _);refine⟨.ref v.heap.objs.size,upd n v.heap.objs.size (.tup m),c.laid (t':=v.toks) (λb u e=>q05 _ e) (le_refl _) ?_,rfl,q _ d⟩;exact⟨z,us,r,⟨_,get?_push_size _ rfl,rfl,_,rfl⟩⟩
def zv(h:PA X es t):PE X (.List es pos) (Nd t):=by
 intro j s m H Q I i;refine wpAny_List_spliced (aU (h pos j s m H _ I i) λus v ⟨l,n,c,r,z,q⟩=>⟨by rw[<-r.length];exact z,?_⟩);have d:n v.heap.objs.size=none:=c.aO.fresh (le_refl _);refine⟨.ref v.heap.objs.size,upd n v.heap.objs.size (.lst l),c.laid (t':=v.toks) (λb u e=>q05 _ e) (le_refl _) ?_,rfl,q _ d⟩;exact⟨z,us,0,r,get?_push_size _ rfl⟩
end
abbrev Sp:=List V->Hp->VK->XK->Prop
abbrev qV:=List Env->Hp->Shared->XK->Value->Shared->Prop
structure jc (P:Program) (w:World) (K:Frag) (mg:Str->Option Value) (base:Heap) (A:Around) (outer:List Env) (s:Shared) (H:Hp):Prop where
 frames:A.frames=some outer
 mod:Mod K mg base
 bs:∀b o,base.get? b=some o->s.heap.get? b=some o/\H b=none
 jz:base.objs.size<=s.heap.objs.size
 cM:s.heap.FunFrames base outer
 kY:∀b∈cL outer,H b=none
 aO:eA P w H s.heap
 bare:AllBare s.gens
def CE(outer:List Env)(P:Program)(w:World)(H:Hp)(s:Shared)(Q:VK)(u:Value)(e:Shared):Prop :=
 ∃v t,e.os=s.os/\AllBare e.gens/\Un (cL outer) [] H t s.heap e.heap/\eA P w t e.heap/\RelV v u/\Q v t
def CR(CX:qV)(outer:List Env)(P:Program)(w:World)(H:Hp)(s:Shared)(Q:VK)(E:XK)(r:Result)(t:Shared):Prop :=
 match r with
 | .ok (.ret u)=>CE outer P w H s Q u t
 | .ok _=>False
 | .error e=>CX outer H s E e t
structure ar (P:Program) (w:World) (K:Frag) (mg:Str->Option Value) (base:Heap) (CX:qV) (k:Nat) (f:Addr) (fd:FuncData) (ps:List Str) (sp:Sp):Prop where
 len:∀vs H Q E,sp vs H Q E->vs.length=ps.length
 run:∀(A:Around)(outer:List Env)(s:Shared)(H:Hp)(args:Args)(us:List Value)(vs:List V)(Q:VK)(E:XK),bA k A->jc P w K mg base A outer s H->BindsTo s fd args (ps.zip us)->Vals vs us->sp vs H Q E ->
  codeAny (model P w) A (.call (.ref f) args) (CR CX outer P w H s Q E) s
variable {mg:Str->Option Value}{base:Heap}{outer:List Env}
def jc.make(e:jc P w K mg base A outer s H)(C:Addr)(us:List Value)(kw:List (Str×Value)):
 jc P w K mg base (A.under (.builtin "type.__call__" ⟨.ref C::us,kw⟩)) outer s H:=⟨by first | exact e.frames | (simpa [Around.under,Code.envs,Code.isFrame,pushEnvs] using e.frames),e.mod,e.bs,e.jz,e.cM,e.kY,e.aO,e.bare⟩
def jc.in1(e:jc P w K mg base A outer s H):
 jc P w K mg base A.in1 outer s H:=⟨e.frames,e.mod,e.bs,e.jz,e.cM,e.kY,e.aO,e.bare⟩
section
variable {X:Cx}{pins:List (Addr×Obj)}{σ:St}{H:Hp}{s s':Shared}
def Inv.Al(I:Inv X pins σ H s):jc X.prog X.w X.K X.mg X.base X.A X.stack s H :=
 ⟨I.ok.frames,I.ok.mod,I.bs,q38 I.ok.jz I.sz,I.stack,I.gb,I.aO,I.bare⟩
def Inv.after{Q:VK}{u:Value}(I:Inv X pins σ H s)(h:CE X.stack X.prog X.w H s Q u s'):EP X pins σ Q u s':=by
 obtain⟨v,n,l,i,un,c,r,q⟩:=h;obtain⟨j,g,d,t,e⟩:=s';obtain rfl:e=s.os:=l;exact⟨v,n,I.call (h':=j) (g':=g) (d':=d) (t':=t) (ch:=[]) un c i (λb z=>q02 z (by simp)),r,q⟩
end
def sI(sp:Sp)(v:List V)(E:XK)(t:TA):TE:=λr H Q=>t r H λn e=>sp (n++v) e Q E
inductive sJ (C:Addr)(m:Str)(sp:Sp)(v:List V)(E:XK)(t:TA)(σ:St)(x:V)(e:Hp)(Q:VK):Prop|mk(a:_)(r:_)(fs:_):x=.ref a->e a=some (.ins C r fs)->fs.lookup m=none->(t σ e λc n=>sp (x::(c++v)) n Q E)->sJ C m sp v E t σ x e Q
def B2(C:Addr)(m:Str)(sp:Sp)(n:List V)(E:XK)(r:TE)(t:TA):TE:=λe H Q=>r e H λx v=>sJ C m sp n E t e x v Q
def Binds(K:Frag)(t:FuncData)(ps:List Str)(e:List Value):Prop :=
 ∀(s:Shared)(us:List Value),K.In s.heap->(us++e).length=ps.length->BindsTo s t ⟨us,[]⟩ (ps.zip (us++e))
variable {ps:List Str}
def Binds.all{e:FuncData}(h:∀us:List Value,us.length=ps.length->bindArgs e ⟨us,[]⟩=pure (ps.zip us)):Binds K e ps []:=λs us _ t=>by
 rw[append_nil]at t ⊢;exact .of_eq (h us t)
def JD(CX:qV)(X:Cx)(E:XK):Prop:=∀(v:List (Addr×Obj)) (n:St) (H:Hp) (s:Shared) (e:Value) (t:Shared),Inv X v n H s->CX X.stack H s E e t->X.xe e t
section
variable {X:Cx}{CX:qV}{k:Nat}{f C:Addr}{fd:FuncData}{ps:List Str}{sp:Sp}{lA:List V}{ds:List Value}{E:XK}{x m:Str}{p pos apos:Pos}{e o:Expr}{es:List Expr}{ta:TE}{t:TA}
def sL{pins:List (Addr×Obj)}{σ:St}{H:Hp}{s:Shared}{Q:VK}{us:List Value}{vs:List V}(F:ar X.prog X.w X.K X.mg X.base CX k f fd ps sp)(j:bA k X.A)(d:Binds X.K fd ps ds)(hd:Vals lA ds)(l:JD CX X E)
 (I:Inv X pins σ H s) (r:Vals vs us) (h:sp (vs++lA) H Q E):wpAny (model X.prog X.w) X.A (call (.ref f) us) (EP X pins σ Q) X.xe s:=by
 have n:Vals (vs++lA) (us++ds):=r.append hd;have i:(us++ds).length=ps.length:=by rw[<-n.length];exact F.len _ _ _ _ h
 refine wpAny_call (codeAny_mono (F.run X.A X.stack s H ⟨us,[]⟩ (us++ds) (vs++lA) Q E j I.Al (d s us I.j0 i) n h) λr q v=>?_);cases r with
 | error e=>exact l pins σ H s e q I v
 | ok c =>
   cases c with
   | ret u=>exact I.after v
   | next=>exact False.elim v
   | brk=>exact False.elim v
   | cont=>exact False.elim v
def Am(F:ar X.prog X.w X.K X.mg X.base CX k f fd ps sp)(l:bA k X.A)(d:Gl X x)(j:X.mg x=some (.ref f))(i:keepIn X.K (.ref f)=true)(c:Binds X.K fd ps ds)(hd:Vals lA ds)(g:JD CX X E)
 (n:PA X (e::es) t) (y:(x==("__debug__":Str))=false:=by decide) (he:starEach (e::es) X.env=(false,eval e X.env)::starEach es X.env:=by rfl) (hpl:(backTo pos (starEach es X.env)).any (·.1)=false:=by rfl) :
 PE X (.Call (.Name x p) (e::es) [] pos) (sI sp lA E t):=by
 intro z s B H Q I h;refine wpAny_Call_Name_kw (Df I d j ?_ y);refine callWith_K (h₀:=X.base) I.ok.mod.BN i (aU (n pos z s B H _ I h) λus G ⟨J,D,v,r,q⟩=>⟨v.j0,?_⟩) he hpl;exact sL F l c hd g v r q
def sM{pl:Sem Bool}(he:PE X o ta)(c:qS X.K C)(n:Meth X.K C m f)(F:ar X.prog X.w X.K X.mg X.base CX k f fd ps sp)(g:bA k X.A)(j:Binds X.K fd ps ds)(hd:Vals lA ds)(z:JD CX X E)
 (y:eval (.Call (.Attribute o m apos) [] [] pos) X.env=(do
   let r <-eval o X.env
   standAt apos.atName
   let (f,first) <-holding [r] (getMethod r m pl)
   callWith pos f first (backTo pos (starEach [] X.env)) (backToKw pos (keywordEach [] X.env))):=by rfl) :
 PE X (.Call (.Attribute o m apos) [] [] pos) (B2 C m sp lA E ta oN):=by
 intro B s G H Q I h;refine methodCall_KW (pl:=pl) (aU (he B s G H _ I h) λu M ⟨x,J,v,D,a,L,fs,i,d,l,q⟩=>?_) y;subst i;obtain rfl:u=Value.ref a:=D;refine M8 v d c n l ?_;exact callWith_K0 (first:=[.ref a]) v.j0 n.kp (sL (us:=[.ref a]) (vs:=[.ref a]) F g j hd z v (.cons rfl .nil) q)
structure Mk (K:Frag) (C f:Addr):Prop where
 makes:makesIn K C=true
 init:findIn K (.ref C) "__init__"=some (some (.ref f))
 fn:isFn K (.ref f)=true
 kp:keepIn K (.ref C)=true
end
structure af (N P:List Str) (sc:Scope):Prop where
 kind:sc.kind=.function
 co:sc.isCoroutine=false
 gen:sc.isGenerator=false
 nd:N.Nodup
 pre:N.take P.length=P
 par:∀x∈P,sc.names.lookup x=some .local\/sc.names.lookup x=some .cell
 Dy:∀y∈sc.names,y.2 ≠ .free
variable {kindOf:Str->Option NameKind}{x:Str}
def Ua:∀{binds:List (Str×Value)} {m:Str->Option Value},(∀v,(x,v)∉binds)->bindL kindOf binds m x=m x
 | [],_,_=>rfl
 | (n,v)::r,m,h=>by
   unfold bindL;rw[Ua λw e=>h w (q13 _ e)];split
   .have:x≠n:=by rintro rfl;exact h v q14
    simp[this]
   .rfl
def Ub:∀{binds:List (Str×Value)} {m:Str->Option Value},(∀v,(x,v)∉binds)->bindC kindOf binds m x=m x
 | [],_,_=>rfl
 | (n,v)::r,m,h=>by
   unfold bindC;rw[Ub λw e=>h w (q13 _ e)];split
   .rfl
   .have:x≠n:=by rintro rfl;exact h v q14
    simp[this]
def Uc{v:Value}:∀{P:List Str}{e:List Value}{i:Nat}{m:Str->Option Value},P.Nodup->P[i]? = some x->e[i]? = some v->kindOf x=some .local ->
 bindL kindOf (P.zip e) m x=some v
 | [],_,_,_,_,h,_,_=>by simp at h
 | _::_,[],_,_,_,_,h,_=>by simp at h
 | p::P,w::e,0,m,nd,h1,h2,hk=>by
   simp at h1 h2;subst h1;subst h2;show bindL kindOf ((p,w)::P.zip e) m p=_;unfold bindL;rw[Ua λv t=>(List.nodup_cons.mp nd).1 (of_mem_zip t).1,q01 hk];simp
 | p::P,w::e,i+1,m,nd,h1,h2,hk=>by
   show bindL kindOf ((p,w)::P.zip e) m x=_;unfold bindL;exact Uc (i:=i) (List.nodup_cons.mp nd).2 (by simpa using h1) (by simpa using h2) hk
def Ud{v:Value}:∀{P:List Str}{e:List Value}{i:Nat}{m:Str->Option Value},P.Nodup->P[i]? = some x->e[i]? = some v->kindOf x≠some .local ->
 bindC kindOf (P.zip e) m x=some v
 | [],_,_,_,_,h,_,_=>by simp at h
 | _::_,[],_,_,_,_,h,_=>by simp at h
 | p::P,w::e,0,m,nd,h1,h2,hk=>by
   simp at h1 h2;subst h1;subst h2;show bindC kindOf ((p,w)::P.zip e) m p=_;unfold bindC;rw[Ub λv t=>(List.nodup_cons.mp nd).1 (of_mem_zip t).1,q00 hk];simp
 | p::P,w::e,i+1,m,nd,h1,h2,hk=>by
   show bindC kindOf ((p,w)::P.zip e) m x=_;unfold bindC;exact Ud (i:=i) (List.nodup_cons.mp nd).2 (by simpa using h1) (by simpa using h2) hk
def kR(N:List Str)(vs:List V):St:=vs.map some++replicate (N.length-vs.length) none
def gX(CX:qV)(P:Program)(w:World)(K:Frag)(mg:Str->Option Value)(base:Heap)(N:List Str)(qual:Str)(scope:Scope)(f:Addr)(cd:Value)(A:Around)(outer:List Env)(s:Shared)(H:Hp)(E:XK):Cx where
 prog:=P
 w:=w
 K:=K
 mg:=mg
 base:=base
 A:=A.deeper (envOfC qual scope s.heap.objs.size f cd)
 N:=N
 s₀:=s
 H₀:=H
 env:=envOfC qual scope s.heap.objs.size f cd
 outer:=outer
 stack:=envOfC qual scope s.heap.objs.size f cd::outer
 ex:=[]
 calm:=true
 fn:=λ_=>true
 pn:=[]
 xe:=λe n=>wpAny (model P w) (A.deeper (envOfC qual scope s.heap.objs.size f cd)) (leaving (envOfC qual scope s.heap.objs.size f cd) e) (λ_ t=>CX outer H s E e t) (λv t=>CX outer H s E v t) n
def Ue{e:Scope}{n:Nat}(h:e.names.lookup x=some .cell):∃c,(cellsFrom n e.names []).lookup x=some c:=by
 have q:=cellsFrom_some e.names n [] (.inl h);exact Option.isSome_iff_exists.mp q
variable {scope:Scope}
def Ug{CX:qV}{N:List Str}{qual:Str}{f:Addr}{cd:Value}{J:Shared}{E:XK}{vs:List V}
 (S:af N ps scope) (hd:A.handled=none) (d:jc P w K mg base A outer s H) (Q:vs.length=ps.length) (r:Vals vs us)
 (x:InCallC s s.heap.objs.size (bindL (envOfC qual scope s.heap.objs.size f cd).kindOf (ps.zip us) λ_=>none) (cellsFrom (s.heap.objs.size+1) scope.names []) (bindC (envOfC qual scope s.heap.objs.size f cd).kindOf (ps.zip us) λ_=>none) J) :
 Inv (gX CX P w K mg base N qual scope f cd A outer s H E) [] (kR N vs) H J:=by
 have R:ps.length<=N.length:=by have:=congrArg List.length S.pre;rw[q11]at this;omega
 obtain⟨m,T,rfl,G⟩:=x.done;have B:∀b:Addr,b∉(gX CX P w K mg base N qual scope f cd A outer s H E).ex:=λb z=>q02 (show b∈([]:List Addr)from z) (by simp);refine⟨⟨d.mod,S.kind,rfl,rfl,le_refl _,λy z c m t=>?_,λy j=>?_,λy c _ h=>?_,λ_=>hd,Around.frames_deeper d.frames,.inr ⟨rfl,rfl⟩,λb z=>q02 z (B b),d.bs,d.jz,λb _ _=>B b,λb z=>q02 z (B b),d.cM,d.kY⟩,
  rfl,d.bare,Un.kept G,⟨_,x.toInCall.ns,λi y v m t O=>?_⟩,λy c h=>⟨_,x.cell y c h⟩,d.aO.fresh (le_refl _),λy c h=>?_,λp l=>q02 (show p∈([]:List (Addr×Obj))from l) (by simp),d.aO.kept G,?_⟩
 .exact name_of_addr x.apart (PySem.mem_of_lookup m) (PySem.mem_of_lookup t)
 .have j:scope.names.lookup y=some .cell\/scope.names.lookup y=some .free:=j;rcases j with j | j
  .exact Ue j
  .exact q02 rfl (S.Dy _ (PySem.mem_of_lookup j))
 .exact le_of_lt (x.above y c (PySem.mem_of_lookup h))
 .have g:i<vs.length:=by
   unfold kR at t;by_cases g:i<vs.length
   .exact g
   .rw[q29 (by simpa using g)]at t;rw[List.getElem?_replicate]at t;split at t <;> cases t
  have L:vs[i]? = some v:=by
   unfold kR at t;rw[q28 (by simpa using g),q26]at t;cases e:vs[i]? with
   | none=>rw[e]at t;cases t
   | some a=>rw[e]at t;cases t;rfl
  obtain⟨u,I,M⟩:=r.get L;have l:ps[i]? = some y:=by
   rw[<-S.pre,List.getElem?_take_of_lt (by omega)];exact m
  have D:ps.Nodup:=by rw[<-S.pre];exact S.nd.sublist (List.take_sublist _ _)
  refine⟨u,M,?_⟩;rcases S.par y (mem_of_getElem? l)with k | k
  .exact .inl ⟨k,Uc D l I k⟩
  .obtain⟨c,e⟩:=Ue (n:=s.heap.objs.size+1) k;refine .inr ⟨.inl k,c,e,?_⟩;have q:=x.cell y c e;rw[Ud D l I (by show scope.names.lookup y≠_;rw[k];decide)]at q;exact q
 .exact d.aO.fresh (le_of_lt (x.above y c (PySem.mem_of_lookup h)))
 .unfold kR;show _=N.length;rw[q08,q06,List.length_replicate];omega
def sN{CX:qV}{f:Addr}{name qual:Str}{M:Arguments}{body:List Stmt}{B kV D O c ct oc:Value}{z od:Option Addr}
 {j3:Array (Option Value)} {N:List Str} {sp:Sp} (lk:K.lookup f=some ⟨oc,od,.func (fnOf name qual M body scope B kV D O z c ct),j3⟩) (X:codeIn K c qual=true) (S:af N ps scope)
 (len:∀n H Q E,sp n H Q E->n.length=ps.length)
 (U:∀(A:Around)(outer:List Env)(s:Shared)(H:Hp)(n:List V)(Q:VK)(E:XK),bA k (A.deeper (envOfC qual scope s.heap.objs.size f c))->sp n H Q E ->
   ∃t,kb (gX CX P w K mg base N qual scope f c A outer s H E) body t/\t { nx:=λ_ r=>Q .bR r,rt:=Q } (kR N n) H) :
 ar P w K mg base CX (k+1) f (fnOf name qual M body scope B kV D O z c ct) ps sp:=by
 refine⟨len,λA outer s H g3 us n Q E l i Y g2 L=>?_⟩;have F:=len _ _ _ _ L;have g:K.In s.heap:=i.mod.BN.keeps λb o e=>(i.bs b o e).1;have g0:s.heap.NoLimit:=i.mod.nolimit.keeps λb o e=>(i.bs b o e).1;have sO:∀y∈ps.zip us,scope.names.lookup y.1=some .local\/(scope.names.lookup y.1=some .cell/\((cellsFrom (s.heap.objs.size+1) scope.names []).lookup y.1).isSome=true):=λ⟨g1,v⟩ C=>by
  rcases S.par g1 (of_mem_zip C).1 with q | q
  .exact .inl q
  .exact .inr ⟨q,cellsFrom_some _ _ _ (.inl q)⟩
 refine codeAny_call_function l.depth (g _ _ lk) rfl S.co S.gen rfl (PySem.W.codeRec_of g X) (Y _ _ _ _ ?_);refine wpAny_newFunctionEnv_cells S.kind sO λg4 Z R x=>?_;subst Z;refine⟨g0.keeps x.toInCall.keep,codeAny_func ?_⟩;obtain⟨t,h,a⟩:=U A outer s H n Q E (l.deeper _) L;have I:Inv (gX CX P w K mg base N qual scope f c A outer s H E) [] (kR N n) H R:=Ug S l.hd i F g2 x;refine wpAny_mono (h [] R (kR N n) H _ I a) (λT p d=>?_) λe p d=>d;have G:∀{j:St}{r:Hp}{v:V}{u:Value},Inv (gX CX P w K mg base N qual scope f c A outer s H E) [] j r p->RelV v u->Q v r->CE outer P w H s Q u p :=
  λ{j r v u} J m q=>⟨v,r,J.os,J.bare,J.base,J.aO,m,q⟩
 cases T with
 | ret u =>
   obtain⟨v,j,r,J,m,q⟩:=d;exact G J m q
 | next =>
   obtain⟨j,r,J,q⟩:=d;exact G (v:=V.bR) (u:=Value.none) J rfl q
 | brk =>
   obtain⟨_,_,_,q⟩:=d;exact False.elim q
 | cont =>
   obtain⟨_,_,_,q⟩:=d;exact False.elim q
section
variable {X:Cx}{x:Str}{p pos:Pos}{e:Expr}{es:List Expr}{t:TA}{id T:String}{r:List V->Hp->VK->Prop}
def JE(r:List V->Hp->VK->Prop)(t:TA):TE:=λc H Q=>t c H λn v=>r n v Q
def zJ(j:wZ X (.builtin id) r)(l:Gl X x)(m:X.mg x=none)(g:bootBuiltins x=some (.builtin id))(i:PA X (e::es) t)(q:x≠"__name__":=by decide)(f:(x==("__debug__":Str))=false:=by decide)
 (he:starEach (e::es) X.env=(false,eval e X.env)::starEach es X.env:=by rfl) (hpl:(backTo pos (starEach es X.env)).any (·.1)=false:=by rfl):PE X (.Call (.Name x p) (e::es) [] pos) (JE r t):=by
 intro v s n H Q I h;refine wpAny_Call_Name_kw (vZ I l m g ?_ q f);exact callWith_builtin1 (aU (i pos v s n H _ I h) λus B ⟨D,c,d,z,y⟩=>j v B n c D us Q d z y) he hpl
def zy(j:wZ X (.type T) r)(l:Gl X x)(m:X.mg x=none)(g:bootBuiltins x=some (.type T))(i:PA X (e::es) t)(q:x≠"__name__":=by decide)(f:(x==("__debug__":Str))=false:=by decide)
 (he:starEach (e::es) X.env=(false,eval e X.env)::starEach es X.env:=by rfl) (hpl:(backTo pos (starEach es X.env)).any (·.1)=false:=by rfl):PE X (.Call (.Name x p) (e::es) [] pos) (JE r t):=by
 intro v s n H Q I h;refine wpAny_Call_Name_kw (vZ I l m g ?_ q f);exact callWith_type1 (aU (i pos v s n H _ I h) λus B ⟨D,c,d,z,y⟩=>j v B n c D us Q d z y) he hpl
end
end L2
namespace HT
open PySem PyProof.Rows
def lexLt:List Int->List Int->Bool
 | [],[]=>false
 | [],_::_=>true
 | _::_,[]=>false
 | x::xs,y::ys=>if x=y then lexLt xs ys else decide (x<y)
def dS(x y:Int)(xs ys:List Int):lexLt (x::xs) (y::ys)=if x=y then lexLt xs ys else decide (x<y):=rfl
def je:lexLt [] []=false:=rfl
def iw(y:Int)(ys:List Int):lexLt [] (y::ys)=true:=rfl
def iy(x:Int)(xs:List Int):lexLt (x::xs) []=false:=rfl
def sP(A:Around)(s:Shared)(a:Int)(t:Tok)(c:Int)(u:Tok)(prog:Program)(w:World)(E:Value->Shared->Prop)(Q:Value->Shared->Prop)(h:Q (.bool (decide (a<c))) s):
 wpAny (model prog w) A (richCompare .Lt (.int a t) (.int c u)) Q E s :=
 (PyProof.Rows.lt_int h:wpAny (model prog w) A (compareOp .Lt (.int a t) (.int c u)) Q E s)
section
variable {prog:Program}{w:World}{A:Around}{E:Value->Shared->Prop}{s:Shared}
def An{t b:Addr}{vs ws:List Value}{Q:Value->Shared->Prop}(u:IsTup s.heap t vs.toArray)(g:IsTup s.heap b ws.toArray)(j:vs≠[])
 (p:ws=[]->Q (.ref t) s) (q:ws≠[]->Q (.ref s.heap.objs.size) { s with heap:=s.heap.push { cls:=.type "tuple",data:=.seq (vs++ws).toArray } })
 (hsz:vs.length+ws.length<=sizeLine):wpAny (model prog w) A (binaryOp .Add (.ref t) (.ref b)) Q E s:=by
 obtain⟨⟨cls,h,data,sl⟩,a,c,n,d⟩:=id u;obtain⟨⟨f,o,x,k⟩,v,m,l,i⟩:=id g;simp only at c d m i;subst c d m i;have e:vs.toArray++ws.toArray=(vs++ws).toArray:=by simp
 by_cases r:ws=[]
 .exact concat_meets ⟨_,a,rfl⟩ ⟨_,v,rfl⟩ noFill_tuple_add seq_tuple_add PySem.F.slot_tuple_add PySem.F.entry_tuple_add (PySem.F.args_tuple_add_2 _ _)
   (tuple_addW1 t b vs.toArray ws.toArray n l h o sl k (by simpa using j) (by simp[r])) ⟨a,v,p r⟩
 .refine concat_meets ⟨_,a,rfl⟩ ⟨_,v,rfl⟩ noFill_tuple_add seq_tuple_add PySem.F.slot_tuple_add PySem.F.entry_tuple_add (PySem.F.args_tuple_add_2 _ _)
   (tuple_addW2 t b vs.toArray ws.toArray n l h o sl k (by simpa using j) (by simpa using r) (by rw[q10,q10];exact hsz)) ⟨a,v,?_⟩
  rw[e];exact q r
def jE(n d:Nat):Option Int->Nat
 | none=>d
 | some v=>if v<0 then(v+(n:Int)).toNat else min v.toNat n
def kh(n d:Nat):jE n d none=d:=rfl
def mO(n d k:Nat):jE n d (some (k:Int))=min k n:=by
 show(if(k:Int)<0 then((k:Int)+(n:Int)).toNat else min (k:Int).toNat n)=min k n;rw[q00 (by omega),Int.toNat_natCast]
end
end HT
namespace L2
open PySem PySem.Spec PyProof.Rows
abbrev TO:=St->Hp->(Option Int->Hp->Prop)->Prop
def PO(X:Cx)(e:Option Expr)(t:TO):Prop :=
 ∀(a:List (Addr×Obj)) (s:Shared) (v:St) (H:Hp) (Q:Option Int->Hp->Prop),Inv X a v H s->t v H Q ->
  wpAny (model X.prog X.w) X.A (evalPart e X.env) (λu r=>∃o n,Inv X a v n r/\IsPart u o/\Q o n) X.xe s
def Ao:TO:=λ_ H Q=>Q none H
inductive sR (x:V)(e:Hp)(Q:Option Int->Hp->Prop):Prop|mk(i:_):x=.int i->Q (some i) e->sR x e Q
def GF(t:TE):TO:=λv H Q=>t v H λx e=>sR x e Q
def E7{ns:List Int}:∀{v:List Value},Vals (ns.map V.int) v->IntsAre v ns:=by
 induction ns with
 | nil=>intro v r;rw[map_nil]at r;cases r;exact .nil
 | cons n ns w =>
   intro v r;rw[map_cons]at r;cases r with
   | cons a h =>
     obtain⟨t,e⟩:=a;subst e;exact .cons n t (w h)
section
variable {X:Cx}{e:Expr}{te:TE}{lo hi:Option Expr}{tl th:TO}{pos p2:Pos}
def zR:PO X none Ao:=by
 intro t s v H Q I h;rw[evalPart_none];exact q04 ⟨none,H,I,.none,h⟩
def zK(h:PE X e te):PO X (some e) (GF te):=by
 intro a s c H Q I w;rw[evalPart_some];refine aU (h a s c H _ I w) λu d ⟨x,v,n,b,r⟩=>?_;obtain⟨i,rfl,q⟩:=r;obtain⟨t,rfl⟩:=b;exact⟨some i,v,n,.int i t,q⟩
def Nf(X:Cx)(r:V->Option Int->Option Int->Hp->VK->Prop):Prop :=
 ∀(t:List (Addr×Obj)) (s:Shared) (h:St) (H:Hp) (x:V) (v n a:Value) (lo hi:Option Int) (sl:Addr) (Q:VK),Inv X t h H s->RelV x v->s.heap.IsSliceOf sl n a .none->IsPart n lo->IsPart a hi->r x lo hi H Q ->
  ∃T b,typeLookup (.type T) "__getitem__"=pure (some (.builtin b))/\s.TypeIs v T/\wpAny (model X.prog X.w) X.A (getItem v (.ref sl)) (EP X t h Q) X.xe s
def Zf(r:V->Option Int->Option Int->Hp->VK->Prop)(te:TE)(tl th:TO):TE:=λt H Q=>te t H λx v=>tl t v λl n=>th t n λu w=>r x l u w Q
def zF{r:V->Option Int->Option Int->Hp->VK->Prop}(B:Nf X r)(he:PE X e te)(z:PO X lo tl)(D:PO X hi th):PE X (.Subscript e (.Slice lo hi none p2) pos) (Zf r te tl th):=by
 intro n s a H Q I h;refine Subscript_ (aU (he n s a H _ I h) λv N ⟨x,j,m,M,J⟩=>?_);refine wpAny_Slice (aU (z n N a j _ m J) λc O ⟨l,k,o,E,K⟩=>aU (D n O a k _ o K) λd t ⟨u,i,p,G,L⟩=>?_);rw[evalPart_none];refine q04 ?_;have g:Inv X n a i { t with heap:=t.heap.push { cls:=.type "slice",data:=.fields #[c,d,.none] } }:=p.kept (t':=t.toks) λb S q=>q05 _ q;obtain⟨T,R,f,C,y⟩:=B n { t with heap:=t.heap.push { cls:=.type "slice",data:=.fields #[c,d,.none] } } a i x v c d l u t.heap.objs.size Q g M (Heap.IsSliceOf.new ..) E G L;show wpAny (model X.prog X.w) X.A (subscriptTail e (.Slice lo hi none p2) v (.ref t.heap.objs.size)) (EP X n a Q) X.xe { t with heap:=t.heap.push { cls:=.type "slice",data:=.fields #[c,d,.none] } };exact tail_any (ops:=[.ref t.heap.objs.size,v]) C f y (by with_unfolding_all rfl)
def kT(xs:List V)(lo hi:Option Int):List V:=(xs.drop (HT.jE xs.length 0 lo)).take (HT.jE xs.length xs.length hi-HT.jE xs.length 0 lo)
def Zg(xs:List V)(lo hi:Option Int):(kT xs lo hi).length<=xs.length:=by
 unfold kT;rw[q11,length_drop];omega
def GG(K:Frag):R2:=λx y H Q=>∃a b v t,x=.ref a/\y=.ref b/\cE K H a v/\cE K H b t/\v≠[]/\v.length+t.length<=sizeLine /\
 (t=[]->Q (.ref a) H)/\(t≠[]->∀p,H p=none->Q (.ref p) (upd H p (.tup (v++t))))
def Vals.jF{xs:List V}{us:List Value}(r:Vals xs us):us=[]↔xs=[]:=by
 cases r with
 | nil=>simp
 | cons _ _=>simp
def mP:eN X (binaryOp .Add) (GG X.K):=by
 intro D s E H x y v u Q I m p h;obtain⟨a,b,g,f,rfl,rfl,c,d,i,r,k,l⟩:=h;cases m;cases p;obtain⟨A,n,j,_⟩:=I.tuple c;obtain⟨B,t,p2,_⟩:=I.tuple d;refine HT.An j p2 (λz=>i (n.jF.mp z)) (λz=>⟨.ref a,H,I,rfl,k (t.jF.mp z)⟩) (λz=>?_) (by rw[<-n.length,<-t.length];exact r);refine⟨.ref s.heap.objs.size,_,I.laid (t':=s.toks) (o:=.tup (g++f)) (λb C q=>q05 _ q) (le_refl _) ?_,rfl,l (λw=>z (t.jF.mpr w)) _ (I.aO.fresh (le_refl _))⟩;exact⟨by rw[q08];exact r,_,n.append t,IsTup.new _ _⟩
end
def sS(n:Nat)(i:Int):Option Nat:=if 0<=i then(if i<n then some i.toNat else none)else if -(n:Int)<=i then some (i+n).toNat else none
def fN{e:Type}(xs:List e)(i:Int):Option e:=(sS xs.length i).bind λj=>xs[j]?
def mQ{n:Nat}{i:Int}{j:Nat}(h:sS n i=some j):seqIndex? i n=some j/\j<n /\ -(n:Int)<=i/\i<n:=by
 unfold sS at h;by_cases v:0<=i
 .rw[q01 v]at h;by_cases t:i<n
  .rw[q01 t]at h;have e:i.toNat=j:=q22 h;exact⟨by rw[seqIndex_of v t,e],by omega,by omega,t⟩
  .rw[q00 t]at h;cases h
 .rw[q00 v]at h;by_cases t : -(n:Int)<=i
  .rw[q01 t]at h;have e:(i+n).toNat=j:=q22 h;exact⟨by rw[seqIndex_neg (by omega) t,e],by omega,t,by omega⟩
  .rw[q00 t]at h;cases h
variable {α:Type}
def Ng{xs:List α}{i:Int}{v:α}(h:fN xs i=some v):∃j,seqIndex? i xs.length=some j/\xs[j]? = some v/\j<xs.length /\ -(xs.length:Int)<=i/\i<xs.length:=by
 unfold fN at h;cases e:sS xs.length i with
 | none=>rw[e]at h;cases h
 | some j =>
   rw[e]at h;obtain⟨t,n,w,a⟩:=mQ e;exact⟨j,t,h,n,w,a⟩
def zO{xs:List α}{j:Nat}{v:α}(h:xs[j]? = some v):fN xs (j:Int)=some v:=by
 have t:j<xs.length:=(q45.mp h).1;have e:sS xs.length (j:Int)=some j:=by
  unfold sS;rw[q01 (by omega),q01 (by omega)];simp
 unfold fN;rw[e];exact h
def Ui(xs:List α)(v:α):fN (xs++[v]) (-1)=some v:=by
 have t:(xs++[v]).length=xs.length+1:=by simp
 have e:sS (xs++[v]).length (-1)=some xs.length:=by
  unfold sS;rw[t,q00 (by decide),q01 (by omega)];congr 1;omega
 unfold fN;rw[e];show(xs++[v])[xs.length]? = some v;simp
def Ap(b:Expr):Prop:=∀o i,subscripted b false o i=operate [o,i] (getItem o i)
def E8(X:Cx)(r:R2):Prop :=
 ∀(a t:Expr)(e:List (Addr×Obj)) (s:Shared) (n:St) (H:Hp) (x y:V) (v u:Value) (Q:VK),Inv X e n H s->RelV x v->RelV y u->r x y H Q ->
  subscripted t false v u=operate [v,u] (getItem v u)->wpAny (model X.prog X.w) X.A (subscriptTail a t v u) (EP X e n Q) X.xe s
def DA(X:Cx)(h:String)(r:V->List V->Hp->VK->Prop):Prop :=
 ∀(e:List (Addr×Obj)) (s:Shared) (a:St) (H:Hp) (x:V) (n:List V) (v:Value) (t:List Value) (Q:VK),Inv X e a H s->RelV x v->Vals n t->r x n H Q ->
  wpAny (model X.prog X.w) X.A (call (.builtin h) (v::t)) (EP X e a Q) X.xe s
section
variable {X:Cx}{a b:Expr}{ta tb:TE}{pos:Pos}
def zx{r:R2}(c:E8 X r)(n:PE X a ta)(w:PE X b tb)(hs:Ap b):PE X (.Subscript a b pos) (Jz r ta tb):=by
 intro d s l H Q I h;exact Subscript_ (Dp n w I h λv u k x y e t i j q=>c a b d k l e x y v u Q t i j q (hs _ _))
inductive B3 (K:Frag)(x y:V)(H:Hp)(Q:VK):Prop|mk(p:_)(e:_)(i:_)(v:_):x=.ref p->y=.int i->ah K H p e->fN e i=some v->Q v H->B3 K x y H Q
def GH(K:Frag):R2:=λx y H Q=>B3 K x y H Q
inductive B4 (K:Frag)(x y:V)(H:Hp)(Q:VK):Prop|mk(p:_)(e:_)(i:_)(v:_):x=.ref p->y=.int i->cE K H p e->fN e i=some v->Q v H->B4 K x y H Q
def GI(K:Frag):R2:=λx y H Q=>B4 K x y H Q
def Nh:R2:=λx y H Q=>∃z i c,x=.str z/\y=.int i/\z.length<=sizeLine/\fN z.cps.toList i=some c/\Q (.str ⟨#[c]⟩) H
def zr:E8 X (GH X.K):=by
 intro T S m s o H x y v u Q I J L h l;obtain⟨p,U,i,z,rfl,rfl,E,C,q⟩:=h;cases J;obtain⟨t,rfl⟩:=L;obtain⟨g,r,n,R⟩:=I.list E;obtain⟨j,e,f,N,A,B⟩:=Ng C;obtain⟨w,c,G⟩:=r.get f;have D:=r.length;have O:=B0;have d:EP X m o Q w s:=⟨z,H,I,G,q⟩;by_cases k:0<=i
 .have hj:i.toNat=j:=by
   rw[seqIndex_of k B]at e;exact q22 e
  exact item_listR n.isList k (by omega) (by rw[hj];simpa using c) d l
 .have hj:(i+(g.toArray.size:Int)).toNat=j:=by
   rw[seqIndex_neg (by omega) A]at e;rw[q10,<-D];exact q22 e
  exact subscriptTail_builtinR (x:=w) n.isList.typeIs slot_list_getitem.lookup
   (wpAny_getItem_list_neg (Q:=λr M=>r=w/\EP X m o Q r M) n.isList (by omega) (by rw[q10] <;> omega) (by omega) (by rw[hj];simpa using c) ⟨rfl,d⟩) l
def qW:E8 X (GI X.K):=by
 intro S R e s c H x y v u Q I C D h A;obtain⟨p,T,i,z,rfl,rfl,f,o,q⟩:=h;cases C;obtain⟨t,rfl⟩:=D;obtain⟨G,r,n,O⟩:=I.tuple f;obtain⟨j,l,m,J,L,M⟩:=Ng o;obtain⟨w,d,B⟩:=r.get m;have g:=r.length;have N:=B0;have k:EP X e c Q w s:=⟨z,H,I,B,q⟩;exact subscriptTail_builtinR (x:=w) n.typeIs slot_tuple_getitem.lookup
  (getItem_tuple (j:=j) (Q:=λr E=>r=w/\EP X e c Q r E) n (by omega) (by omega) (by rw[q10,<-g];exact l) (by simpa using d) ⟨rfl,k⟩) A
def JF:E8 X Nh:=by
 intro G D C s J H x y v u Q I p g h o;obtain⟨z,i,c,rfl,rfl,B,l,q⟩:=h;obtain⟨t,rfl⟩:=p;obtain⟨E,rfl⟩:=g;obtain⟨j,e,r,f,d,k⟩:=Ng l;have m:z.cps.toList.length=z.length:=by simp[Str.length]
 rw[m]at e d k;have A:=B0;exact tail_any (typeIs_str s z t) slot_str_getitem.lookup (getItem_str (c:=c) (by
  have n:decide (i < -(2 ^ 63:Int))=false:=q20 (by omega);have w:decide (i >= 2 ^ 63)=false:=q20 (by omega);rw[n,w,Bool.or_false]) (by rw[e];simpa using r) ⟨.str ⟨#[c]⟩,H,I.tok _,⟨_,rfl⟩,q⟩) o
def lB(e:List Value)(n j:Nat)(u:Value):Obj.mapSeq (·.setIfInBounds j u) { cls:=.type "list",data:=.seq e.toArray n }={ cls:=.type "list",data:=.seq (e.set j u).toArray n }:=by
 simp[Obj.mapSeq]
variable {pins:List (Addr×Obj)}{s:Shared}
def Inv.lst{σ:St}{H:Hp}{p:Addr}{xs:List V}(I:Inv X pins σ H s)(h:H p=some (.lst xs)):
 ∃(t:List Value)(n:Nat),Vals xs t/\s.heap.get? p=some { cls:=.type "list",data:=.seq t.toArray n }/\xs.length<=sizeLine:=by
 obtain⟨z,t,n,r,e⟩:=I.aO p _ h;exact⟨t,n,r,e,z⟩
def Inv.DB{σ:St}{H:Hp}{p:Addr}{xs ys:List V}{w its':List Value}{n v:Nat}{f:Obj->Obj}(I:Inv X pins σ H s)(h:H p=some (.lst xs))
 (i:s.heap.get? p=some { cls:=.type "list",data:=.seq w.toArray n }) (c:f { cls:=.type "list",data:=.seq w.toArray n }={ cls:=.type "list",data:=.seq its'.toArray v }) (r:Vals ys its') (j:ys.length<=sizeLine) (t:Nat) :
 Inv X pins σ (upd H p (.lst ys)) { s with heap:=s.heap.update p f,toks:=t }:=by
 have e:(s.heap.update p f).get? p=some { cls:=.type "list",data:=.seq its'.toArray v }:=by
  rw[get?_update_self f i (by rw[c] <;> rfl),c]
 refine I.write (x:=p) (e:=p) (by rw[h];trivial) (.inl rfl) (λb u d q=>(get?_update_other _ _ (Ne.symm d)).trans q) ⟨_,e⟩ ?_;exact⟨j,its',v,r,e⟩
inductive sT (o i v:V)(H:Hp)(Q:Hp->Prop):Prop|mk(p:_)(e:_)(k:_)(j:_):o=.ref p->i=.int k->H p=some (.lst e)->sS e.length k=some j->Q (upd H p (.lst (e.set j v)))->sT o i v H Q
def GJ:V->V->V->Hp->(Hp->Prop)->Prop:=λo i v H Q=>sT o i v H Q
def Ni:Gk X GJ:=by
 intro pins s E H o i v L K u Q I B A C h;obtain⟨p,D,k,j,rfl,rfl,x,y,q⟩:=h;cases B;obtain⟨t,rfl⟩:=A;obtain⟨l,n,r,c,z⟩:=I.lst x;obtain⟨e,G,g,f⟩:=mQ y;have w:=r.length;have J:=B0;have d:Inv X pins E (upd H p (.lst (D.set j v))) { s with heap:=s.heap.update p (Obj.mapSeq (·.setIfInBounds j u)) } :=
  I.DB x c (lB l n j u) (r.set C j) (by rw[List.length_set];exact z) s.toks
 by_cases m:0<=k
 .have hk:k.toNat=j:=by
   rw[seqIndex_of m f]at e;exact q22 e
  exact PySem.W.ki_setAt c m (by omega) (by rw[q10,<-w];exact f) (by rw[hk];exact⟨_,d,q⟩)
 .have hk:(k+(l.toArray.size:Int)).toNat=j:=by
   rw[seqIndex_neg (by omega) g]at e;rw[q10,<-w];exact q22 e
  exact PySem.W.ki_setBack c (by omega) (by rw[q10,<-w];exact g) (by omega) (by rw[hk];exact⟨_,d,q⟩)
def Zh(t e:Option Int)(n:Nat):(sliceBounds t e none n).1=((HT.jE n 0 t:Nat):Int)/\(sliceBounds t e none n).2.1=((HT.jE n n e:Nat):Int)/\(sliceBounds t e none n).2.2=1:=by
 refine⟨?_,?_,rfl⟩
 .cases t with
  | none=>simp[sliceBounds,HT.jE]
  | some i =>
    simp only[sliceBounds,HT.jE,Option.getD_none,show(1:Int) > 0 by decide,if_true];by_cases h:i<0
    .simp only[h,if_true] <;> omega
    .simp only[h,if_false] <;> omega
 .cases e with
  | none=>simp[sliceBounds,HT.jE]
  | some i =>
    simp only[sliceBounds,HT.jE,Option.getD_none,show(1:Int) > 0 by decide,if_true];by_cases h:i<0
    .simp only[h,if_true] <;> omega
    .simp only[h,if_false] <;> omega
def Zi(e:List Value)(t v:Option Int):slicePick e.toArray t v none=((e.drop (HT.jE e.length 0 t)).take (HT.jE e.length e.length v-HT.jE e.length 0 t)).toArray:=by
 obtain⟨n,w,r⟩:=Zh t v e.toArray.size;unfold slicePick;rw[n,w,r];simp only[sliceRange_one,pick_run,q10] <;> rfl
inductive B5 (K:Frag)(x:V)(t e:Option Int)(H:Hp)(Q:VK):Prop|mk(a:_)(v:_):x=.ref a->ah K H a v->(∀p,H p=none->Q (.ref p) (upd H p (.lst (kT v t e))))->B5 K x t e H Q
def Nj(K:Frag):V->Option Int->Option Int->Hp->VK->Prop:=λx t e H Q=>B5 K x t e H Q
def zV:Nf X (Nj X.K):=by
 intro pins s y H x v u f t n sl Q I m d k l h;obtain⟨a,e,rfl,i,q⟩:=h;cases m;obtain⟨p,r,w,j⟩:=I.list i;have c:=r.length;refine⟨"list",_,slot_list_getitem.lookup,w.isList.typeIs,?_⟩;refine wpAny_getItem_list_slice w.isList d k l .none (by simp) ?_ (by rw[q10] <;> omega);rw[Zi,<-c];refine⟨.ref s.heap.objs.size,_,I.laid (t':=s.toks) (o:=.lst (kT e t n)) (λb g q=>q05 _ q) (le_refl _) ?_,rfl,q _ (I.aO.fresh (le_refl _))⟩;exact⟨q38 (Zg e t n) j,_,0,(r.drop (HT.jE e.length 0 t)).take (HT.jE e.length e.length n-HT.jE e.length 0 t),get?_push_size _ rfl⟩
def wM:V->Bool
 | .bR=>true
 | .bl _=>true
 | .int _=>true
 | .str _=>true
 | _=>false
def jG:V->V->Bool
 | .bR,.bR=>true
 | .bl a,.bl b=>a==b
 | .bl a,.int b=>(if a then 1 else 0)==b
 | .int a,.bl b=>a==(if b then 1 else 0)
 | .int a,.int b=>a==b
 | .str a,.str b=>a==b
 | _,_=>false
variable {x:V}{v:Value}
def sU{A:Around}{y:V}{u:Value}(r:RelV y u)(e:RelV x v)(h:wM y=true)(w:wM x=true):SeqAt.EqAt A s u v (jG y x):=by
 cases y with
 | bR =>
   cases r;cases x with
   | bR=>cases e;exact SeqAt.EqAt.same _
   | bl b=>cases e;exact SeqAt.EqAt.none_bool b
   | int b=>obtain⟨t,rfl⟩:=e;exact SeqAt.EqAt.none_int b t
   | str b=>obtain⟨t,rfl⟩:=e;exact SeqAt.EqAt.none_str b t
   | _=>exact q02 (show false=true from w) q23
 | bl a =>
   cases r;cases x with
   | bR=>cases e;exact SeqAt.EqAt.bool_none a
   | bl b=>cases e;exact SeqAt.EqAt.bool_bool a b
   | int b=>obtain⟨t,rfl⟩:=e;exact SeqAt.EqAt.bool_int a b t
   | str b=>obtain⟨t,rfl⟩:=e;exact SeqAt.EqAt.bool_str a b t
   | _=>exact q02 (show false=true from w) q23
 | int a =>
   obtain⟨n,rfl⟩:=r;cases x with
   | bR=>cases e;exact SeqAt.EqAt.int_none a n
   | bl b=>cases e;exact SeqAt.EqAt.int_bool a n b
   | int b=>obtain⟨t,rfl⟩:=e;exact SeqAt.EqAt.int_int a n b t
   | str b=>obtain⟨t,rfl⟩:=e;exact SeqAt.EqAt.int_str a n b t
   | _=>exact q02 (show false=true from w) q23
 | str a =>
   obtain⟨n,rfl⟩:=r;cases x with
   | bR=>cases e;exact SeqAt.EqAt.str_none a n
   | bl b=>cases e;exact SeqAt.EqAt.str_bool a n b
   | int b=>obtain⟨t,rfl⟩:=e;exact SeqAt.EqAt.str_int a n b t
   | str b=>obtain⟨t,rfl⟩:=e;exact SeqAt.EqAt.str_str a n b t
   | _=>exact q02 (show false=true from w) q23
 | _=>exact q02 (show false=true from h) q23
def iW(x:V)(u:Value):Bool:=match u with
 | .none=>jG .bR x
 | .bool b=>jG (.bl b) x
 | .int i _=>jG (.int i) x
 | .str z _=>jG (.str z) x
 | _=>false
def JG{y:V}{u:Value}(r:RelV y u)(f:wM y=true):iW x u=jG y x:=by
 cases y with
 | bR=>cases r;rfl
 | bl b=>cases r;rfl
 | int i=>obtain⟨t,rfl⟩:=r;rfl
 | str z=>obtain⟨t,rfl⟩:=r;rfl
 | _=>exact q02 (show false=true from f) q23
def GK:∀{e:List V}{n:List Value},Vals e n->e.all wM=true->n.any (iW x)=e.any λy=>jG y x
 | _,_,.nil,_=>rfl
 | y::e,u::n,.cons r t,f=>by
   rw[all_cons,q42]at f;rw[any_cons,any_cons,JG r f.1,GK t f.2]
def DC{A:Around}(c:RelV x v)(h:wM x=true):∀{w:List V}{n:List Value},Vals w n->w.all wM=true->∀u∈n,SeqAt.EqAt A s u v (iW x u)
 | _,_,.nil,_=>λu e=>by cases e
 | y::w,u::n,.cons r t,f=>λd e=>by
   rw[all_cons,q42]at f;rcases q27.mp e with rfl | e
   .rw[JG r f.1];exact sU r c f.1 h
   .exact DC c h t f.2 d e
def mR(x:V)(xs:List V):Bool:=xs.any λy=>jG y x
inductive GL (K:Frag)(t:Bool)(x y:V)(H:Hp)(Q:VK):Prop|mk(p:_)(e:_):y=.ref p->((ah K H p e\/cE K H p e))->wM x=true->e.all wM=true->(Q (.bl (if t then !mR x e else mR x e)) H)->GL K t x y H Q
def Uj(K:Frag)(e:Bool):R2:=λx y H Q=>GL K e x y H Q
def GN:eN X (compareOp .In) (Uj X.K false):=by
 intro pins s j H x y v u Q I c d h;obtain⟨p,i,rfl,e,n,fs,q⟩:=h;cases d;rcases e with e | e
 .obtain⟨ax,r,pl,hz⟩:=I.list e;refine SeqAt.in_listAt (iW x) pl.isList (λw t=>DC c n r fs w (by simpa using t)) ⟨.bl _,H,I,rfl,?_⟩;rw[show ax.toArray.any (iW x)=ax.any (iW x)by simp,GK r fs];exact q
 .obtain⟨ax,r,pl,hz⟩:=I.tuple e;refine SeqAt.in_tupleAt (iW x) pl (λw t=>DC c n r fs w (by simpa using t)) ⟨.bl _,H,I,rfl,?_⟩;rw[show ax.toArray.any (iW x)=ax.any (iW x)by simp,GK r fs];exact q
def yC:eN X (compareOp .NotIn) (Uj X.K true):=by
 intro pins s j H x y v u Q I c d h;obtain⟨p,i,rfl,e,n,fs,q⟩:=h;cases d;rcases e with e | e
 .obtain⟨ax,r,pl,hz⟩:=I.list e;refine SeqAt.notIn_listAt (iW x) pl.isList (λw t=>DC c n r fs w (by simpa using t)) ⟨.bl _,H,I,rfl,?_⟩;rw[show ax.toArray.any (iW x)=ax.any (iW x)by simp,GK r fs];exact q
 .obtain⟨ax,r,pl,hz⟩:=I.tuple e;refine SeqAt.notIn_tupleAt (iW x) pl (λw t=>DC c n r fs w (by simpa using t)) ⟨.bl _,H,I,rfl,?_⟩;rw[show ax.toArray.any (iW x)=ax.any (iW x)by simp,GK r fs];exact q
inductive bT (K:Frag)(xs:List V)(H:Hp)(Q:VK):Prop|mk(p:_)(e:_):xs=[.ref p]->((ah K H p e\/cE K H p e))->Q (.int e.length) H->bT K xs H Q
def Uk:wZ X (.builtin "len") (bT X.K):=by
 intro pins s j H i d Q I r h;obtain⟨p,n,rfl,e,q⟩:=h;obtain⟨u,rfl,w⟩:=Dw r;cases w;have c:=B0;rcases e with e | e
 .obtain⟨ax,r',pl,hz⟩:=I.list e;have t:=r'.length;exact Calls.call_len_list pl.isList (by simp only[q10] <;> omega) ⟨.int n.length,H,I.tok _,⟨s.toks+1,by rw[q10,t]⟩,q⟩
 .obtain⟨ax,r',pl,hz⟩:=I.tuple e;have t:=r'.length;exact len_tuple pl (by simp only[q10] <;> omega) ⟨.int n.length,H,I.tok _,⟨s.toks+1,by rw[q10,t]⟩,q⟩
inductive fO (xs:List V)(H:Hp)(Q:VK):Prop|mk(z:_):xs=[.str z]->z.length<=sizeLine->Q (.int z.length) H->fO xs H Q
def Zj:wZ X (.builtin "len") fO:=by
 intro pins s d H c w Q I r h;obtain⟨z,rfl,n,q⟩:=h;obtain⟨u,rfl,t,rfl⟩:=Dw r;have e:=B0;exact len_str (by omega) ⟨.int z.length,H,I.tok _,⟨_,rfl⟩,q⟩
inductive fP (K:Frag)(xs:List V)(H:Hp)(Q:VK):Prop|mk(p:_)(e:_):xs=[.ref p]->((ah K H p e\/cE K H p e))->(∀l,H l=none->Q (.ref l) (upd H l (.lst e)))->fP K xs H Q
def yn:wZ X (.type "list") (fP X.K):=by
 intro pins s D H G E Q I r h;obtain⟨p,y,rfl,j,q⟩:=h;obtain⟨u,rfl,C⟩:=Dw r;cases C;have z:∀(c:List Value),Vals y c->y.length<=sizeLine->∀(t:Heap)(d:Nat),(∀b A,s.heap.get? b=some A->t.get? b=some A) ->
  t.get? s.heap.objs.size=some { cls:=.type "list",dict:=none,data:=.seq c.toArray d,slots := #[] }->EP X pins D Q (.ref s.heap.objs.size) { s with heap:=t }:=λc i k t d l e =>
  ⟨.ref s.heap.objs.size,_,I.laid (t':=s.toks) l (le_refl _) (show bH X.prog X.w _ t _ (.lst y)from⟨k,c,d,i,e⟩),rfl,q _ (I.aO.fresh (le_refl _))⟩
 rcases j with j | j
 .obtain⟨c,i,pl,k⟩:=I.list j;have B:=i.length;obtain⟨o,f,m,n,g⟩:=pl.isList;exact call_list_seq p (.inl rfl) f m g (λt d l e=>z c i k t d l e) (by simp only[q10] <;> omega)
 .obtain⟨c,i,pl,k⟩:=I.tuple j;have B:=i.length;obtain⟨o,f,m,n,g⟩:=pl;exact call_list_seq p (.inr rfl) f m g (λt d l e=>z c i k t d l e) (by simp only[q10] <;> omega)
def Nk(K:Frag)(T:String)(x:V)(H:Hp):Prop:=match x with
 | .str _=>T= "str"
 | .int _=>T= "int"
 | .ref p=>(T= "list"/\∃t,ah K H p t)\/(T= "tuple"/\∃o,K.lookup p=some o/\o.cls=.type "tuple"/\o.dict=none) \/
    (T= "dict"/\((∃e,H p=some (.dK e))\/∃e,H p=some (.dT e)))\/(T= "set"/\∃S n,H p=some (.set S n))
 | _=>False
def sV{σ:St}{H:Hp}{T:String}(I:Inv X pins σ H s)(r:RelV x v)(ty:Nk X.K T x H):
 s.TypeIs v T/\∀a,v=.ref a->∃k,s.heap.get? a=some k/\k.dict=none:=by
 cases x with
 | str z =>
   obtain⟨t,rfl⟩:=r;cases (show T= "str" from ty);exact⟨typeIs_str s z t,λ_ e=>nomatch e⟩
 | int i =>
   obtain⟨t,rfl⟩:=r;cases (show T= "int" from ty);exact⟨typeIs_int s i t,λ_ e=>nomatch e⟩
 | ref p =>
   cases r;rcases ty with⟨rfl,g,q⟩|⟨rfl,o,w,m,j⟩|⟨rfl,w⟩|⟨rfl,S,n,w⟩
   .obtain⟨ax,_,pl,_⟩:=I.list q;refine⟨pl.isList.typeIs,λa e=>?_⟩;cases e;obtain⟨o,n,e,c,j,_⟩:=pl;exact⟨o,e,j⟩
   .refine⟨⟨o,I.j0 p o w,m⟩,λa e=>?_⟩;cases e;exact⟨o,I.j0 _ o w,j⟩
   .have z:∃o,s.heap.get? p=some o/\o.ExactDict:=by
     rcases w with⟨l,w⟩|⟨l,w⟩
     .obtain⟨_,_,_,_,o,_,_,e,h,_⟩:=I.aO p _ w;exact⟨o,e,h⟩
     .obtain⟨_,_,_,_,o,_,_,e,h,_⟩:=I.aO p _ w;exact⟨o,e,h⟩
    obtain⟨o,e,h⟩:=z;refine⟨⟨o,e,h.1⟩,λa d=>?_⟩;cases d;exact⟨o,e,h.2.1⟩
   .obtain⟨o,_,_,_,e,h,_⟩:=I.aO p _ w;refine⟨⟨o,e,h.1⟩,λa d=>?_⟩;cases d;exact⟨o,e,h.2.1⟩
 | _=>exact False.elim ty
def Nl(K:Frag)(T:String)(r:V->List V->Hp->VK->Prop)(to:TE):TE:=λt H Q=>to t H λx e=>Nk K T x e/\r x [] e Q
def Ul(K:Frag)(T:String)(r:V->List V->Hp->VK->Prop)(to:TE)(t:TA):TE:=λn H Q=>to n H λx e=>Nk K T x e/\t n e λh w=>r x h w Q
variable {o e:Expr}{es:List Expr}{to:TE}{t:TA}{name:Str}{apos bV:Pos}{T id:String}{r:V->List V->Hp->VK->Prop}
def DD(g:PlainAttrs T)(slot:Slot T name id)(d:typeOf (.builtin id)=pure (.type "method_descriptor"))(l:DA X id r)(m:PE X o to)
 (p:attributeBase o name X.env (eval o X.env)=eval o X.env:=by rfl) (q:(apos.endLine==bV.line)=true:=by rfl):PE X (.Call (.Attribute o name apos) [] [] bV) (Nl X.K T r to):=by
 intro pins s c H Q I h;refine wpAny_Call_method0_late p q (aU (m pins s c H _ I h) λv f ⟨x,i,n,w,ty,u⟩=>?_);obtain⟨j,k⟩:=sV n w ty;exact⟨T,id,g,slot,d,j,k,Calls.callWith_builtin rfl (PySem.evalArgs_none (l pins f c i x [] v [] Q n w .nil u))⟩
def yD(B:PlainAttrs T)(slot:Slot T name id)(j:typeOf (.builtin id)=pure (.type "method_descriptor"))(u:DA X id r)(f:PE X o to)(g:PA X (e::es) t)
 (y:attributeBase o name X.env (eval o X.env)=eval o X.env:=by rfl)
 (i:((backTo bV (starEach (e::es) X.env)).all (λx => !x.1) && (backToKw bV (keywordEach [] X.env)).all (λx=>x.1.isSome)
   && decide ((e::es).length+([]:List Keyword).length+(if([]:List Keyword).isEmpty then 0 else 1)<30))=true:=by rfl)
 (z:(apos.endLine==bV.line)=true:=by rfl) (hs:starEach (e::es) X.env=(false,eval e X.env)::starEach es X.env:=by rfl) (A:(backTo bV (starEach es X.env)).any (·.1)=false:=by rfl) :
 PE X (.Call (.Attribute o name apos) (e::es) [] bV) (Ul X.K T r to t):=by
 intro pins s n H Q I h;refine wpAny_Call_method_late y i z rfl (aU (f pins s n H _ I h) λv G ⟨x,k,w,d,ty,C⟩=>?_);obtain⟨p,q⟩:=sV w d ty;refine⟨T,id,B,slot,j,p,q,?_⟩;have c:=g bV pins G n k _ w C;rw[hs]at c ⊢;refine Calls.callWith_builtin (by show(false || (backTo bV (starEach es X.env)).any (·.1))=false;rw[A] <;> rfl) (Calls.evalArgs_plain ?_);exact aU c λL J ⟨M,l,m,E,D⟩=>u pins J n l x M v L Q m d E D
end
def E9(X:Cx)(h:String)(r:V->List V->Hp->VK->Prop):Prop :=
 ∀(e:List (Addr×Obj)) (s:Shared) (a:St) (H:Hp) (x:V) (n:List V) (v:Value) (t:List Value) (Q:VK),Inv X e a H s->RelV x v->Vals n t->r x n H Q ->
  wpAny (model X.prog X.w) X.A (call (.builtin h) (v::t)) (EP X e a Q) X.xe s
def Vals.one:∀{x:V}{e:List Value},Vals [x] e->∃u,e=[u]/\RelV x u
 := by
 intro x e h;cases h with
 | cons r q=>cases q;exact⟨_,rfl,r⟩
def Vals.two:∀{x y:V}{e:List Value},Vals [x,y] e->∃u v,e=[u,v]/\RelV x u/\RelV y v
 := by
 intro x y e h;cases h with
 | cons r z=>cases z with
   | cons q z=>cases z;exact⟨_,_,rfl,r,q⟩
def Vals.eraseIdx:∀{v:List V}{e:List Value}(i:Nat),Vals v e->Vals (v.eraseIdx i) (e.eraseIdx i)
 | _,_,_,.nil=>.nil
 | _,_,0,.cons _ t=>t
 | _,_,i+1,.cons r t=>.cons r (Vals.eraseIdx i t)
def Vals.reverse{xs:List V}{us:List Value}(h:Vals xs us):Vals xs.reverse us.reverse:=by
 induction h with
 | nil=>exact .nil
 | cons r t e=>rw[List.reverse_cons,List.reverse_cons];exact Vals.append e (.cons r .nil)
def Nm:∀(l:List α)(i:Nat),(l.eraseIdx i).length<=l.length
 | [],_=>le_refl _
 | _::_,0=>le_succ _
 | _::r,i+1=>Nat.succ_le_succ (Nm r i)
section
variable {X:Cx}{pins:List (Addr×Obj)}{σ:St}{H:Hp}{s:Shared}{l:Addr}{xs ys:List V}{ax:List Value}
def Inv.DE{its':List Value}{n:Nat}{f:Array Value->Array Value}{t':Nat}(I:Inv X pins σ H s)(t:H l=some (.lst xs))
 (e:s.heap.get? l=some { cls:=.type "list",data:=.seq ax.toArray n }) (w:f ax.toArray=its'.toArray) (r:Vals ys its') (h:ys.length<=sizeLine) :
 Inv X pins σ (upd H l (.lst ys)) { s with heap:=s.heap.update l (Obj.mapSeq f),toks:=t' }:=by
 have q:=PySem.IsL.update e f;rw[w]at q;refine I.write (x:=l) (e:=l) (by rw[t];exact trivial) (.inl rfl) (λb u v a=>(get?_update_other s.heap (Obj.mapSeq f) (Ne.symm v)).trans a) ⟨_,q⟩ ?_;exact⟨h,its',_,r,q⟩
def Inv.GP{t':Nat}(I:Inv X pins σ H s)(e:Vals ys ax)(t:ys.length<=sizeLine):
 Inv X pins σ (upd H s.heap.objs.size (.lst ys)) { s with heap:=s.heap.push { cls:=.type "list",data:=.seq ax.toArray },toks:=t' } :=
 I.laid (λ_ _ q=>q05 _ q) (le_refl _) ⟨t,ax,0,e,get?_push_size _ rfl⟩
def Inv.fresh(I:Inv X pins σ H s):H s.heap.objs.size=none:=I.aO.fresh (le_refl _)
def Inv.sW(I:Inv X pins σ H s)(t:H l=some (.lst xs)):xs.length<=sizeLine/\∃(ax:List Value)(n:Nat),Vals xs ax/\xs.length=ax.length/\s.heap.get? l=some { cls:=.type "list",data:=.seq ax.toArray n }:=by
 obtain⟨z,ax,n,r,e⟩:=I.aO l _ t;exact⟨z,ax,n,r,r.length,e⟩
end
section
variable {X:Cx}
inductive km (x:V)(vs:List V)(H:Hp)(Q:VK):Prop|mk(l:_)(e:_)(y:_):x=.ref l->vs=[y]->H l=some (.lst e)->e.length<sizeLine->Q .bR (upd H l (.lst (e++[y])))->km x vs H Q
def Ar:V->List V->Hp->VK->Prop:=λx e H Q=>km x e H Q
def yj:E9 X "list.append" Ar:=by
 intro j s p H x m v k Q I c b h;obtain⟨l,o,y,rfl,rfl,w,i,q⟩:=h;cases c;obtain⟨u,rfl,a⟩:=b.one;obtain⟨z,t,n,r,d,e⟩:=I.sW w;refine call_meets F.slot_list_append ⟨_,e,rfl⟩ F.entry_list_append (F.args_list_append_2 _ _) (PySem.list_append l t.toArray n u (by rw[q10];omega)) ⟨e,?_⟩;refine⟨.bR,_,I.DE (its':=t++[u]) w e (by simp) (r.append (.cons a .nil)) ?_,rfl,q⟩;rw[q08,length_singleton];omega
def DG:V->List V->Hp->VK->Prop:=λx t H Q=>∃l e i k y,x=.ref l/\t=[.int i]/\H l=some (.lst e) /\ -(2 ^ 63)<=i/\i<2 ^ 63/\seqIndex? i e.length=some k/\e[k]? = some y/\Q y (upd H l (.lst (e.eraseIdx k)))
def sX:E9 X "list.pop" DG:=by
 intro D s J H x G v E Q I B A h;obtain⟨l,C,i,k,y,rfl,rfl,b,c,d,j,p,q⟩:=h;cases B;obtain⟨u,rfl,f⟩:=A.one;obtain⟨t,rfl⟩:=f;obtain⟨z,a,n,r,m,e⟩:=I.sW b;obtain⟨w,o,g⟩:=r.get p;refine call_meets F.slot_list_pop ⟨_,e,rfl⟩ F.entry_list_pop (F.args_list_pop_2 _ _)
  (MeetsSeq.list_pop_at l a.toArray n i t k w (fitsIndex_both c d) (by rw[q10,<-m];exact j) (by rw[<-Array.getElem?_toList];exact o) (by rw[q10];omega)) ⟨e,?_⟩
 refine⟨y,_,I.DE (its':=a.eraseIdx k) b e ?_ (r.eraseIdx k) ?_,g,q⟩
 .show a.toArray.eraseIdxIfInBounds k=(a.eraseIdx k).toArray;rw[List.eraseIdxIfInBounds_toArray]
 .have:=Nm C k;omega
inductive B6 (x y:V)(H:Hp)(Q:VK):Prop|mk(l:_)(b:_)(e:_)(t:_):x=.ref l->y=.ref b->H l=some (.lst e)->H b=some (.lst t)->e.length+t.length<=sizeLine->(∀p,H p=none->Q (.ref p) (upd H p (.lst (e++t))))->B6 x y H Q
def Np:R2:=λx y H Q=>B6 x y H Q
def yd:eN X (binaryOp .Add) Np:=by
 intro A s E H x y v u Q I k m h;obtain⟨l,b,B,D,rfl,rfl,i,d,g,q⟩:=h;cases k;cases m;obtain⟨z,t,n,r,p,e⟩:=I.sW i;obtain⟨C,w,f,j,o,a⟩:=I.sW d;refine PySem.P.add_list e a ?_ (by rw[q10,q10];omega);have c:t.toArray++w.toArray=(t++w).toArray:=by simp
 rw[c];exact⟨.ref _,_,I.GP (t':=s.toks) (r.append j) (by rw[q08];omega),rfl,q _ I.fresh⟩
end
end L2
namespace Att
open PySem PySem.W PySem.Calls PyProof.Rows
def Zk{P:Params}{h:Heap}:∀(ns:List Int)(e:List Value),WellAll P h e (ns.map WData.int)->IntsAre e ns:=by
 intro ns
 induction ns with
 | nil =>
   intro e w;rw[map_nil]at w;cases w;exact .nil
 | cons n ns t =>
   intro e w;rw[map_cons]at w;cases w with
   | cons a b =>
     cases a;exact .cons _ _ (t _ b)
def oQ{l:OpenLaw}{n:Nat}(p:l.most=some n){P:Params}{h:Heap}{args:List WData}{s:List Value}
 (v:l.row.toRowW.claim.pre args=true) (c:WellAll P h s args) :
 ∃a b ns,s=[Value.ref a]/\args=[WData.list (ns.map WData.int)]/\h.get? a=some { cls:=.type "list",data:=.seq b.toArray }/\IntsAre b ns/\ns.length<=n:=by
 have i:WShape.hasAll [] args [.list .int]=true:=(pre_splitW v).1;have w:l.pre.holds [] { args:=args }=true:=(pre_splitW v).2;obtain⟨d,r,rfl,j,k⟩:=hasAllW_cons i;obtain rfl:=hasAllW_nil k;obtain⟨z,rfl,m⟩:=hasW_list j;obtain⟨ns,rfl⟩:=items_int m;have o:ns.length<=n:=by
  unfold OpenLaw.pre at w;have e:(WTm.not (.lt (.lit (.int (n:Int))) (.len (.arg 0)))).holds [] { args:=[.list (ns.map .int)] }=true:=by
   have e:=(holds_andW w).1;rw[p]at e;exact e
  have t:=condW_of e (w_not (w_lt w_lit (w_len_list (w_arg rfl))));rw[q06]at t;refine Nat.le_of_not_lt λq=>?_;have f:(n:Int)<((ns.length:Nat):Int):=by omega
  first
   | (rw[q19 f]at t;exact q02 t (by decide))
   | (simp at t;omega)
 cases c with
 | cons x y =>
   cases y;cases x with
   | list g u=>exact⟨_,_,ns,rfl,rfl,g,Zk ns _ u,o⟩
def oR(l:OpenLaw)(args:List WData):l.row.toRowW.claim.post args (.bool true) args=true :=
 postW_of (r:=l.row.toRowW) (X:=(true==true))
  (show WShape.has [] (.bool true) .bool=true by first | rfl | decide | simp[WShape.has,WShape.arms,WShape.armsAll])
  (show(WTm.eq .res (.lit (.bool true))).value [] { args:=args,res:=some (.bool true),after:=args }=some (.bool (true==true))from w_eq_bool (w_res rfl) w_lit) rfl
def kq{l:OpenLaw}{n:Nat}{q:Program}{u:List Str}{m:(Str->Option Value)->Heap->Prop}{p:World->Heap->Prop}{d:DefRec}
 (N:l.most=some n) (A:d.params.defaults=[])
 (call:∀(w:World)(k e:Shared)(s i:Str->Option Value)(v:Addr)(o:Obj)(j h c:Value)(a:Addr)(t:List Value)(ns:List Int),
   Ground q u [] m w k s i e.heap->p w e.heap ->
   e.heap.get? v=some o->o.data=.func (docDef d.name d.params d.body d.scope j h c)->e.heap.CodeRec h d.name->s d.name=some (.ref v) ->
   e.heap.get? a=some { cls:=.type "list",data:=.seq t.toArray }->IntsAre t ns->ns.length<=n->e.gens = #[] ->
   codeAny (model l.prog w) callerA (.call (.ref v) ⟨[.ref a],[]⟩) (λr b=>r=.ok (.ret (.bool true))/\OldK e.heap b.heap/\b.os=e.os/\AllBare b.gens) e) :
 WalkO q u m p l.row.toRowW d [] (λf t=>PySem.call f t):=by
 intro w k e s i G Y v o j h c B kV O H R g M I V X W x U S y T;obtain rfl:B=.none:=Dflts.none g A;obtain rfl:kV=.none:=Dflts.noKw g;obtain⟨a,t,ns,rfl,rfl,z,J,K⟩:=oQ N x y;refine enter_call (codeAny_mono (call w k e s i v o j h c a t ns G Y O (fd_plain H) R M z J K I) λr b Q=>?_);obtain⟨rfl,C,D,E⟩:=Q;exact⟨.inl ⟨.bool true,.bool true,[],rfl,λ_=>rfl,.bool true,oR l _,λ_=>⟨List.Pairwise.nil,λ_ L=>(nomatch L)⟩⟩,C,D,E⟩
section
def ledger(h:Heap)(L d:Addr):List (Addr×Obj):=(List.range h.objs.size).filterMap λa=>if a=L\/a=d then none else(h.get? a).map λo=>(a,o)
end
end Att
namespace L2
open PySem PySem.Spec PyProof.Rows
def Um:∀{e:List Value}{ns:List Int},IntsAre e ns->Vals (ns.map V.int) e
 | _,_,.nil=>.nil
 | _,_,.cons n t h=>.cons ⟨t,rfl⟩ (Um h)
def xf(s:Stmt)(j:Nat):Stmt:=match s with
 | .ClassDef _ _ _ body _ _ _ _ _ _ _=>body.getD j (.Pass ⟨0,0,0,0⟩)
 | _ => .Pass ⟨0,0,0,0⟩
def sY(s:Stmt):Arguments:=match s with
 | .FunctionDef _ a _ _ _ _ _ _ _ _=>a
 | _=>{ posonlyargs:=[],args:=[],vararg:=none,kwonlyargs:=[],kw_defaults:=[],kwarg:=none,defaults:=[] }
def yR(s:Stmt):List Stmt:=match s with
 | .FunctionDef _ _ b _ _ _ _ _ _ _=>b
 | _=>[]
def zf(s:Stmt):Scope:=match s with
 | .FunctionDef _ _ _ _ _ _ sc _ _ _=>sc
 | _=>{ kind:=.function,names:=[],isGenerator:=false,isCoroutine:=false }
abbrev bp:qV:=λ_ _ _ _ _ _=>False
abbrev E0:XK:=λ_ _ _=>False
variable {X:Cx}
def B7:JD bp X E0:=λ_ _ _ _ _ _ _ h=>h.elim
structure aS (K:Frag) (x qual:Str) (st:Stmt) (f:Addr) (fd:FuncData):Prop where
 ex:∃(oc:Value)(od:Option Addr)(kV doc pm:Value)(an:Option Addr)(aN ct:Value)(j3:Array (Option Value)),
  fd=fnOf x qual (sY st) (yR st) (zf st) .none kV doc pm an aN ct/\K.lookup f=some ⟨oc,od,.func fd,j3⟩/\codeIn K aN qual=true
 kp:keepIn K (.ref f)=true
section
variable {P:Program}{w:World}{K:Frag}{mg:Str->Option Value}{base:Heap}{x qual:Str}{st:Stmt}{f:Addr}{fd:FuncData}{ps:List Str}
def aS.ok{N:List Str}{k:Nat}{sp:Sp}(F:aS K x qual st f fd)(S:af N ps (zf st))
 (a:∀(v:Value)(A:Around)(outer:List Env)(s:Shared)(H:Hp)(e:List V)(Q:VK)(E:XK),bA k (A.deeper (envOfC qual (zf st) s.heap.objs.size f v))->sp e H Q E ->
   ∃t,kb (gX bp P w K mg base N qual (zf st) f v A outer s H E).E5 (yR st) t/\t { nx:=λ_ n=>Q .bR n,rt:=Q } (kR N e) H) (len:∀e H Q E,sp e H Q E->e.length=ps.length:=by rintro _ _ _ _ ⟨⟩;subst_vars;rfl):ar P w K mg base bp (k+1) f fd ps sp:=by
 obtain⟨o,p,kV,l,g,i,v,j,m,rfl,d,b⟩:=F.ex;refine sN d b S len λA outer s H e Q E r c=>?_;obtain⟨t,h,q⟩:=a v A outer s H e Q E r c;exact⟨t,h.E5,q⟩
def aS.binds(F:aS K x qual st f fd)
 (h:∀(kV n a:Value)(t:Option Addr)(e v:Value)(r:List Value),r.length=ps.length->bindArgs (fnOf x qual (sY st) (yR st) (zf st) .none kV n a t e v) ⟨r,[]⟩=pure (ps.zip r)):Binds K fd ps []:=by
 obtain⟨d,i,kV,n,a,t,e,v,b,rfl,c,s⟩:=F.ex;exact .all (h kV n a t e v)
def Fb{r:Value}{h t:Option Addr}{a:Array (Option Value)}{kV v n e ct:Value}(l:K.lookup f=some ⟨r,h,.func (fnOf x qual (sY st) (yR st) (zf st) .none kV v n t e ct),a⟩)
 (c:codeIn K e qual=true) (k:keepIn K (.ref f)=true):aS K x qual st f (fnOf x qual (sY st) (yR st) (zf st) .none kV v n t e ct):=⟨⟨r,h,kV,v,n,t,e,ct,a,rfl,l,c⟩,k⟩
end
variable {k:Nat}
def Fc{A:Around}(e:bA k A):A.units+1<cLine:=Nat.lt_of_le_of_lt (Nat.add_le_add_left (by decide:1<=64) _) e.units
section
variable {X:Cx}
def pv(i:Nat){x:Str}{n:Pos}(e:X.N[i]? = some x:=by rfl)(t:F6 X.env.scope x:=by first | exact Or.inl rfl | exact Or.inr (Or.inl rfl) | exact Or.inr (Or.inr rfl))(hd:(x==("__debug__":Str))=false:=by decide)
 (v:(x==("__classdict__":Str))=false:=by decide):PE X (.Name x n) (Gb i):=rT e t hd v
end
variable {A B:Prop}
def j6(h:B):if false=true then A else B:=by
 rw[q00 q23];exact h
def qX(h:A):if true=true then A else B:=by
 rw[q01 rfl];exact h
def GS{c:Prop} [Decidable c](e:c)(h:B):if(!decide c)=true then A else B:=by
 rw[q19 e];exact j6 h
def ae(H H':Hp):Prop:=∀b o,H b=some o->H' b=some o
def ae.refl(H:Hp):ae H H:=λ_ _ h=>h
variable {H:Hp}
def ae.trans{e t:Hp}(a:ae H e)(b:ae e t):ae H t:=λc o h=>b c o (a c o h)
variable {H':Hp}{l:Addr}
def ae.free(e:ae H H')(h:H' l=Option.none):H l=Option.none:=by
 cases q:H l with
 | none=>rfl
 | some o =>
   rw[e l o q]at h;cases h
variable {K:Frag}{a:Addr}{xs:List V}
def ae.seq(e:ae H H')(h:ah K H a xs):ah K H' a xs:=by
 rcases h with(h | ⟨o,h⟩) | h
 .exact .inl (.inl (e _ _ h))
 .exact .inl (.inr ⟨o,e _ _ h⟩)
 .exact .inr h
def Nr{env:Env}:∀(l:List (Str×NameKind)) (v:List (Str×Addr)),(∀y∈l,y.2=.free->∃c,env.cells.lookup y.1=some c)->(∀y c,v.lookup y=some c->env.cells.lookup y=some c) ->
 ∃w,(forIn l v fun(x:Str×NameKind) (r:List (Str×Addr))=>if(x.2==NameKind.free)=true then(do let a <-cellOf env x.1;pure (ForInStep.yield ((x.1,a)::r)))else(pure (ForInStep.yield r):Sem (ForInStep (List (Str×Addr)))))=(pure w:Sem (List (Str×Addr))) /\
  (∀y c,w.lookup y=some c->env.cells.lookup y=some c)/\(∀y,((y,NameKind.free)∈l\/(v.lookup y).isSome=true)->∃c,w.lookup y=some c)
 | [],v,_,b=>⟨v,rfl,b,λy h=>by
    rcases h with h | h
    .cases h
    .exact Option.isSome_iff_exists.mp h⟩
 | (n,k)::r,v,h,b=>by
   by_cases m:k=.free
   .subst m;obtain⟨c,o⟩:=h (n,.free) q14 rfl;obtain⟨w,e,i,j⟩:=Nr r ((n,c)::v) (λy t=>h y (q13 _ t)) (λy d s=>by
     rw[lookup_cons]at s;by_cases t:y=n
     .subst t;simp at s;subst s;exact o
     .rw[beq_eq_false_iff_ne.mpr t]at s;exact b y d s)
    refine⟨w,?_,i,λy t=>j y ?_⟩
    .rw[forIn_cons];have:cellOf env n=pure c:=by unfold cellOf;rw[o]
     simp only[this];exact e
    .rcases t with t | t
     .rcases q27.mp t with z | z
      .have:y=n:=by injection z
       right;simp[lookup_cons,this]
      .exact .inl z
     .right;rw[lookup_cons];split
      .rfl
      .exact t
   .obtain⟨w,e,i,j⟩:=Nr r v (λy t=>h y (q13 _ t)) b;refine⟨w,?_,i,λy t=>j y ?_⟩
    .rw[forIn_cons];have p:(k==NameKind.free)=false:=by simpa using m
     simp only[p];exact e
    .rcases t with t | t
     .rcases q27.mp t with z | z
      .injection z with _ z2;exact q02 z2.symm m
      .exact .inl z
     .exact .inr t
variable {env:Env}{scope:Scope}
def DI(h:∀y∈scope.names,y.2=.free->∃c,env.cells.lookup y.1=some c):
 ∃t,closureFor scope env=pure t/\(∀y c,t.lookup y=some c->env.cells.lookup y=some c)/\∀y,(y,NameKind.free)∈scope.names->∃c,t.lookup y=some c:=by
 obtain⟨t,e,v,n⟩:=Nr scope.names [] h (λy c z=>by cases z);refine⟨t,?_,v,λy w=>n y (.inl w)⟩;unfold closureFor;exact(congrArg (fun(m:Sem (List (Str×Addr)))=>m >>= λr=>pure r) e).trans rfl
def Nt{f:Str×NameKind->Str×NameKind}(s:∀p,(f p).1=p.1):∀{names:List (Str×NameKind)} {y:Str} {k:NameKind},(names.map f).lookup y=some k->∃v,(y,v)∈names/\(f (y,v)).2=k
 | [],_,_,h=>by cases h
 | p::r,y,k,h=>by
   rw[map_cons]at h;generalize b:f p=q at h;obtain⟨n,c⟩:=q;rw[lookup_cons]at h;have w:n=p.1:=by have:=s p;rw[b]at this;exact this
   by_cases t:y=n
   .have hb:(y==n)=true:=by simp[t]
    rw[hb]at h;have d:c=k:=q22 h;refine⟨p.2,?_,?_⟩
    .rw[t,w];exact q14
    .rw[t,w];have:f (p.1,p.2)=(n,c):=b;rw[this];exact d
   .rw[beq_eq_false_iff_ne.mpr t]at h;obtain⟨v,m,e⟩:=Nt s (names:=r) h;exact⟨v,q13 _ m,e⟩
def JH{f:Str×NameKind->Str×NameKind}(s:∀p,(f p).1=p.1):∀{b:List (Str×NameKind)} {y:Str} {k:NameKind},b.lookup y=some k->(b.map f).lookup y=some (f (y,k)).2
 | [],_,_,h=>by cases h
 | p::r,y,k,h=>by
   rw[map_cons];obtain⟨v,n⟩:=p;have e:=s (v,n);generalize d:f (v,n)=q at e ⊢;obtain⟨w,i⟩:=q;have e:w=v:=e;subst e;rw[lookup_cons]at h ⊢;by_cases t:y=w
   .have hb:(y==w)=true:=by simp[t]
    rw[hb]at h ⊢;have c:n=k:=q22 h;subst c;subst t;show some i=_;rw[d]
   .rw[beq_eq_false_iff_ne.mpr t]at h ⊢;exact JH s h
def rl(env:Env)(p:Str×NameKind):Str×NameKind:=if(p.2==NameKind.free && env.scope.kind == .function && env.kindOf p.1==some .cell)then(p.1,NameKind.cell)else(p.1,p.2)
def GU(env:Env)(p:Str×NameKind):(rl env p).1=p.1:=by unfold rl;split <;> rfl
def Av(env:Env)(y:Str):(rl env (y,.free)).2=.cell\/(rl env (y,.free)).2=.free:=by
 unfold rl;split
 .exact .inl rfl
 .exact .inr rfl
def JI(env:Env)(y:Str)(k:NameKind)(h:k ≠ .free):(rl env (y,k)).2=k:=by
 unfold rl;have e:(k==NameKind.free)=false:=by simpa using h
 simp[e]
def GV(scope:Scope)(env:Env):(relabel scope env).names=scope.names.map (rl env):=rfl
variable {y:Str}
def Zn(w:∀z∈scope.names,z.2 ≠ .cell)(h:(relabel scope env).names.lookup y=some .cell\/(relabel scope env).names.lookup y=some .free):(y,NameKind.free)∈scope.names:=by
 rw[GV]at h;have v:∀k,(k=.cell\/k=.free)->(scope.names.map (rl env)).lookup y=some k->(y,NameKind.free)∈scope.names:=λk r q=>by
  obtain⟨n,m,e⟩:=Nt (GU env) q;by_cases t:n=.free
  .rw[t]at m;exact m
  .rw[JI env y n t]at e;rcases r with z | z
   .exact q02 (e.trans z) (w _ m)
   .exact q02 (e.trans z) t
 rcases h with h | h
 .exact v _ (.inl rfl) h
 .exact v _ (.inr rfl) h
def Nu(h:scope.names.lookup y=some .free):(relabel scope env).names.lookup y=some .cell\/(relabel scope env).names.lookup y=some .free:=by
 rw[GV,JH (GU env) h];rcases Av env y with z | z
 .exact .inl (congrArg some z)
 .exact .inr (congrArg some z)
def dR(X:Cx)(N:List Str)(scope:Scope)(cl:List (Str×Addr))(C:Addr)(v:Shared)(e:Hp)(t:List Addr):Cx where
 prog:=X.prog
 w:=X.w
 K:=X.K
 mg:=X.mg
 base:=X.base
 A:=X.A
 N:=N
 s₀:=v
 H₀:=e
 env:=compEnvC scope cl C X.env
 outer:=X.stack
 stack:=X.stack
 ex:=t
 fn:=λ_=>false
 calm:=X.calm
 pn:=[]
 xe:=λ_ _=>False
def iz(X:Cx)(N:List Str)(scope:Scope)(cl:List (Str×Addr))(C:Addr)(v:Shared)(e:Hp)(t:List Addr)(φ:Str->Bool)(ξ:Value->Shared->Prop):Cx :=
 { dR X N scope cl C v e t with fn:=φ,xe:=ξ }
structure aj (sc:Scope) (N:List Str) (x:Str) (fr:List Str) (ix:List Nat) (scope:Scope):Prop where
 kind:scope.kind=.function
 cu:∀y∈scope.names,y.2 ≠ .cell
 lD:∀y∈scope.names,y.2=.local->scope.names.lookup y.1=some .local
 lx:scope.names.lookup x=some .local
 free:∀y∈scope.names,y.2=.free->sc.names.lookup y.1=some .cell\/sc.names.lookup y.1=some .free
 at':fr.map some=ix.map λi=>N[i]?
 sZ:∀y∈fr,scope.names.lookup y=some .free/\(sc.names.lookup y=some .cell\/sc.names.lookup y=some .free)
 nd:(x::fr).Nodup
def iA(e:List Nat)(σ:St):St:=e.map λi=>(σ[i]?).join
variable {ix:List Nat}
def mS{σ:St}:(iA ix σ).length=ix.length:=by unfold iA;rw[q06]
def qY(X:Cx)(n:List Expr)(t:TT):Prop :=
 ∀(v:List (Addr×Obj)) (s:Shared) (e:St) (H:Hp) (Q:Bool->Hp->Prop),Inv X v e H s->t e H Q ->
  wpAny (model X.prog X.w) X.A (forIn n true λc r=>if r=true then do let ok <-isTrue c X.env (eval c X.env);pure (ForInStep.yield ok)else pure (ForInStep.yield r)) (TP X v e Q) X.xe s
def xh:TT:=λ_ H Q=>Q true H
def yA:qY X [] xh:=λ_ _ _ H _ I h=>wpAny_tests_nil ⟨H,I,h⟩
def yP{c:Expr}{t:TT}(h:PT X c t):qY X [c] t:=λe s v H Q I q=>wpAny_tests_one (h e s v H Q I q)
def dD(J:It)(c:St)(s:TT)(d:TE)(w:Hp)(h:List V->Hp->Prop):Prop :=
 ∃W:Nat->Nat->List V->Hp->Prop,(∃m,W 0 m [] w)/\∀i m e H,W i m e H ->
  (J.stop i H/\e.length<=sizeLine/\h e H) \/
  (J.go i H/\e.length<sizeLine/\∃N:List V->Hp->Prop,(∀n H',N n H'->∃v,v<m/\W (i+1) v n H')/\∀x H',J.Ad i H x H'->s (some x::c) H' λb t=>if b=true then d (some x::c) t λy r=>N (e++[y]) r else N e t)
def mT(ix:List Nat)(r:TI)(n:TT)(w:TE):TE:=λt H Q=>r t H λJ v=>dD J (iA ix t) n w v λh e=>∀l,e l=none->Q (.ref l) (upd e l (.lst h))
variable {w:World}{s:Shared}
def Zo{prog:Program}{A:Around}{R:Result->Shared->Prop}{EE:Value->Shared->Prop}{i b u:Expr}{g:List Expr}{D:Pos}{it d:Value}(J:Nat->Shared->Prop)
 (j:∀e s,EE e s->notedBy (model prog w) A env (λx W=>R (.error x) W) e s)
 (turn:∀n s,J n s->wpAny (model prog w) A (pyNext it) (λr o=>match r with
   | none=>R (.ok .next) o
   | some v=>wpAny (model prog w) A (letOwnedTupleGo b it v) (λ_ G=>wpAny (model prog w) A (assign b env v) (λ_ I =>
      wpAny (model prog w) A (forIn g true λc r=>if r=true then do let ok <-isTrue c env (eval c env);pure (ForInStep.yield ok)else pure (ForInStep.yield r)) (λok p =>
       if ok=true then wpAny (model prog w) A (eval i env) (λx L =>
        wpAny (model prog w) A (call (.builtin "list.append") [d,x]) (λ_ M=>∃m,m<n/\J m M) (λ_ _=>False) L) EE p
       else ∃m,m<n/\J m p) EE I) EE G) (λ_ _=>False) o) (λ_ _=>False) s)
 (n:Nat) (h:J n s):codeAny (model prog w) A (.compLoop (.ListComp i [⟨b,u,g,0⟩] scope D) 0 it d env) R s:=by
 have up:∀{N:Type}{t:Sem N}{q E:N->Shared->Prop}{O:Value->Shared->Prop}{s:Shared},wpAny (model prog w) A t q (λ_ _=>False) s->(∀a s,q a s->E a s)->wpAny (model prog w) A t E O s:=λh k=>wpAny_mono h k λ_ _ z=>False.elim z;refine codeAny_loop rfl J (λn s V=>?_) n h;show wpAny _ A ((compTurn (.ListComp i [⟨b,u,g,0⟩] scope D) 0 it d env).onRaise (λx=>do noteFrame x env;theTreesLotGoes x)) _ _ s;refine wpAny_noted ?_;rw[compTurn_list];refine q03 (wpAny_standAt (q03 (up (turn n s V) λr o f=>?_)));cases r with
 | none=>exact q04 f
 | some v =>
   refine q03 (up f λ_ G Q=>q03 (wpAny_mono Q (λ_ I S=>q03 (wpAny_mono S (λok p C=>?_) j)) j));cases ok with
   | false=>exact q04 ⟨rfl,C⟩
   | true=>exact q03 (q03 (wpAny_mono C (λx L T=>q03 (up T λ_ M U=>q04 (q04 ⟨rfl,U⟩))) j))
variable {M:Model}{E:Value->Shared->Prop}
def Up{A:Around}(x:Value)(s:Shared)(h:False):notedBy M A env E x s:=h.elim
structure bI (sc:Scope) (N:List Str) (P:List Str) (fr:List Str) (ix:List Nat) (scope:Scope):Prop where
 kind:scope.kind=.function
 cu:∀y∈scope.names,y.2 ≠ .cell
 lD:∀y∈scope.names,y.2=.local->scope.names.lookup y.1=some .local
 free:∀y∈scope.names,y.2=.free->sc.names.lookup y.1=some .cell\/sc.names.lookup y.1=some .free
 at':fr.map some=ix.map λi=>N[i]?
 sZ:∀y∈fr,scope.names.lookup y=some .free/\(sc.names.lookup y=some .cell\/sc.names.lookup y=some .free)
 nd:(P++fr).Nodup
section
variable {X:Cx}{pins:List (Addr×Obj)}{σ:St}{H:Hp}{s:Shared}{P:List Str}{fr:List Str}{ix:List Nat}{scope:Scope}{cl:List (Str×Addr)}{fp:List Addr}{C:Addr}
def Aw(S:bI X.env.scope X.N P fr ix scope)(I:Inv X pins σ H s)(v:∀b∈fp,fL X pins H b)(j:∀b∈fp,b<s.heap.objs.size)(r:s.heap.objs.size<=C)
 (n:∀y c,cl.lookup y=some c->X.env.cells.lookup y=some c) (d:∀y,(y,NameKind.free)∈scope.names->∃c,cl.lookup y=some c):(dR X (P++fr) scope cl C s H fp).Ok where
 mod:=I.ok.mod
 kind:=S.kind
 glob:=I.ok.glob
 blt:=I.ok.blt
 above:=r
 inj:=λy z c a b=>I.ok.inj y z c (n y c a) (n z c b)
 has:=λy i=>d y (Zn (env:=X.env) (scope:=scope) S.cu i)
 qO:=λy c h _=>Bool.noConfusion (show false=true from h)
 hd:=I.ok.hd
 frames:=I.ok.frames
 qP:=.inl rfl
 rP:=λb t=>⟨λz=>q02 (j b t) (by rw[z];exact Nat.not_lt.mpr r),λy c e=>(v b t).2.2.2.2.1 y c (n y c e)⟩
 bs:=I.bs
 jz:=q38 I.ok.jz I.sz
 gz:=λb o e t=>by
  rcases (v b t).2.2.2.1 with z | z
  .exact I.ok.gz b o e z
  .exact q02 (q21 (lt_size e) (q38 I.ok.jz z)) (q37 _)
 gU:=λb t z=>by
  rcases q27.mp (I.jA b z)with e | e
  .exact(v b t).2.1 e
  .exact(v b t).2.2.1 e
 cM:=I.stack
 kY:=I.gb
def bI.len(S:bI X.env.scope X.N P fr ix scope):fr.length=ix.length:=by have:=congrArg List.length S.at';simpa using this
def tf{r:Shared}{pn:List (Addr×Obj)}{m:Str->Option Value}(S:bI X.env.scope X.N P fr ix scope)(I:Inv X pins σ H s)(a:∀b∈fp,fL X pins H b)(M:∀b∈fp,b<s.heap.objs.size)(L:s.heap.objs.size<=C)
 (g:∀y c,cl.lookup y=some c->X.env.cells.lookup y=some c) (J:∀y,(y,NameKind.free)∈scope.names->∃c,cl.lookup y=some c)
 (E:r.os=s.os) (A:r.gens=s.gens) (k:∀b o,s.heap.get? b=some o->r.heap.get? b=some o) (B:r.heap.Ns C m)
 (K:∀p∈pn,r.heap.get? p.1=some p.2/\s.heap.objs.size<=p.1/\p.1≠C/\∀v,p.2.data ≠ .cell v) :
 Inv (dR X (P++fr) scope cl C s H fp) pn (P.map (λ_=>none)++iA ix σ) H r:=by
 obtain⟨mX,Zp,U⟩:=I.loc;refine⟨Aw S I a M L g J,E,by rw[A];exact I.bare,Un.kept k,⟨m,B,λi y v d t e3=>?_⟩,λy c e=>?_,I.aO.fresh L,λy c e=>I.cI y c (g y c e),λp T=>?_,I.aO.kept k,by
  show(P.map (λ_=>none)++iA ix σ).length=(P++fr).length;rw[q08,q08,q06,mS,S.len]⟩
 .by_cases hi:i<P.length
  .rw[q28 (by rw[q06];exact hi),q26]at t;cases O:P[i]? with
   | none=>rw[O]at t;cases t
   | some p=>rw[O]at t;cases t
  .obtain⟨j,rfl⟩:=Nat.exists_eq_add_of_le (Nat.le_of_not_lt hi);have R:fr[j]? = some y:=by
    have d:(P++fr)[P.length+j]? = some y:=d;rw[q29 (le_add_right _ _),Nat.add_sub_cancel_left]at d;exact d
   have n:(iA ix σ)[j]? = some (some v):=by
    rw[q29 (by rw[q06];exact le_add_right _ _),q06,Nat.add_sub_cancel_left]at t;exact t
   obtain⟨D,G⟩:=S.sZ y (mem_of_getElem? R);unfold iA at n;rw[q26]at n;cases f:ix[j]? with
   | none=>rw[f]at n;cases n
   | some i =>
     rw[f]at n;have u:(σ[i]?).join=some v:=q22 n;have W:σ[i]? = some (some v):=by
      cases q:σ[i]? with
      | none=>rw[q]at u;cases u
      | some w=>rw[q]at u;have:w=some v:=u;rw[this]
     have Y:X.N[i]? = some y:=by
      have:=congrArg (λl=>l[j]?) S.at';simp only[q26,R,f]at this
      simpa using this.symm
     have V:F6 X.env.scope y:=by
      rcases G with z | z
      .exact .inr (.inl z)
      .exact .inr (.inr z)
     obtain⟨g1,g0,l⟩:=U i y v Y W V;refine⟨g1,g0,.inr ⟨Nu D,?_⟩⟩;rcases l with⟨z,_⟩|⟨_,c,Z,F⟩
     .rcases G with q | q
      .have q':=(show X.env.scope.names.lookup y=some .local from z).symm.trans q;cases q'
      .have q':=(show X.env.scope.names.lookup y=some .local from z).symm.trans q;cases q'
     .obtain⟨c',rR⟩:=J y (PySem.mem_of_lookup D);have:c'=c:=by have:=g y c' rR;rw[Z]at this;exact(q22 this).symm
      subst this;refine⟨c',rR,?_⟩;obtain⟨o,h,x⟩:=F;exact⟨o,k _ _ h,x⟩
 .obtain⟨v,o,h,x⟩:=I.cell y c (g y c e);exact⟨v,o,k _ _ h,x⟩
 .have DJ:p∈pn:=by simpa [dR] using T
  obtain⟨q1,Q,q3,q4⟩:=K p DJ;refine⟨q1,I.aO.fresh Q,q3,λz=>?_,q4⟩;obtain⟨_,o,h,_⟩:=I.stack.mem z;exact q02 (q21 (lt_size h) Q) (q37 _)
end
def Fd(n:Nat)(u:TG)(J:It)(c:St)(q:TT)(g:TE)(b:Hp)(p:List V->Hp->Prop):Prop :=
 ∃W:Nat->Nat->List V->Hp->Prop,(∃m,W 0 m [] b)/\∀i m e H,W i m e H ->
  (J.stop i H/\e.length<=sizeLine/\p e H) \/
  (J.go i H/\e.length<sizeLine/\∃N:List V->Hp->Prop,(∀h H',N h H'->∃r,r<m/\W (i+1) r h H')/\∀x H',J.Ad i H x H'->∀v:St,v.length=n->u x (v++c) H' λf o=>∃w,f=w++c/\o=H'/\w.length=n/\q (w++c) H' λd t=>if d=true then g (w++c) t λy j=>N (e++[y]) j else N e t)
section
variable {X:Cx}{P:List Str}{fr:List Str}{ix:List Nat}{scope:Scope}{elt iter:Expr}{ifs:List Expr}{xi:Expr}{pos:Pos}{tc:TT}{te:TE}{tg:TG}{use:Option (Value->Sem Unit)}{Q ξ:Value->Shared->Prop}{pins:List (Addr×Obj)}{s2:Shared}{σ:St}{H2:Hp}{it:Addr}{fp:List Addr}{tn:Nat->Heap->Prop}{cl:List (Str×Addr)}{fin:List V->Hp->Prop}
def Uq{M:Shared}{v:St}{C D:Addr}{g6:It}{NN:List Str}{φ:Str->Bool}{Z:Nat}(hc:X.calm=true)
 (pg:PG (iz X NN scope cl C s2 H2 fp φ ξ) xi tg) (jH:qY (iz X NN scope cl C s2 H2 fp φ ξ) ifs tc) (he:PE (iz X NN scope cl C s2 H2 fp φ ξ) elt te)
 (hE:∀e s,ξ e s->notedBy (model X.prog X.w) X.A (compEnvC scope cl C X.env) (λgJ G=>compPost (model X.prog X.w) X.A X.xe use Q (.ref D) C (.error gJ) G) e s)
 (I2:Inv X pins σ H2 s2) (T:Turn X.prog X.w X.K xi g6 fp it tn) (f2:∀b∈fp,fL X pins H2 b)  (wc:Fd Z tg g6 (iA ix σ) tc te H2 fin)
 (lF:∀b o,s2.heap.get? b=some o->b≠D) (lG:s2.heap.objs.size<=D) (B9:∀b∈fp,b≠D) (Zq:∀y c,cl.lookup y=some c->c≠D)
 (hv:v.length=Z) (W:Inv (iz X NN scope cl C s2 H2 fp φ ξ) [(D,{ cls:=.type "list",data:=.seq ([]:List Value).toArray 0 })] (v++iA ix σ) H2 M) (DK:tn 0 M.heap)
 (hQ:∀(h:List V)(H':Hp)(G:Shared)(m:Str->Option Value),Inv X pins σ (upd H' D (.lst h)) G->H' D=none->G.heap.Ns C m->H' C=none->fin h H' ->
   compPost (model X.prog X.w) X.A X.xe use Q (.ref D) C (.ok .next) G) :
 codeAny (model X.prog X.w) X.A (.compLoop (.ListComp elt [⟨xi,iter,ifs,0⟩] scope pos) 0 (.ref it) (.ref D) (compEnvC scope cl C X.env)) (compPost (model X.prog X.w) X.A X.xe use Q (.ref D) C) M:=by
 obtain⟨g8,⟨m0,w0⟩,turn⟩:=wc;have E:∀{r:Obj}{H':Hp},(∀b∈fp,H' b=none)->∀b∈fp,fL (iz X NN scope cl C s2 H2 fp φ ξ) [(D,r)] H' b:=λ{r H'} hn b t=>by
  refine⟨hn b t,λz=>?_,λz=>(W.ok.gU b t z),.inl t,λy c e=>(W.ok.rP b t).2 y c e,λp J z=>?_⟩
  .exact(W.ok.rP b t).1 z
  .have e:p=(D,r):=by simpa [iz,dR] using J
   subst e;exact B9 b t (Eq.symm z)
 refine Zo (env:=compEnvC scope cl C X.env) (EE:=ξ)
  (λn G=>∃i h r k N H',Vals h r/\Inv (iz X NN scope cl C s2 H2 fp φ ξ) [(D,{ cls:=.type "list",data:=.seq r.toArray k })] (N++iA ix σ) H' G/\N.length=Z/\tn i G.heap/\(∀b∈fp,H' b=none)/\g8 i n h H') hE ?_ m0
  ⟨0,[],[],0,v,H2,.nil,W,hv,DK,λb t=>(f2 b t).1,w0⟩
 rintro n s3 ⟨i,h,r,k,N,j,a,I3,Zr,Dm,Gq,w3⟩;rcases turn i n h j w3 with⟨stop,hz,Nx⟩|⟨go,hz,gB,hN,step⟩
 .refine aU (T.done (iz X NN scope cl C s2 H2 fp φ ξ) rfl rfl rfl hc i _ s3 _ j _ I3 (E Gq) Dm stop) λgI R ⟨B,I⟩=>?_;subst B;have L:=I.pin (D,{ cls:=.type "list",data:=.seq r.toArray k }) (by simp[iz,dR]);obtain⟨mC,Zs,_⟩:=I.loc;have O:j D=none:=L.2.1;have Ax:eA X.prog X.w (upd j D (.lst h)) R.heap:=λb u e=>by
   by_cases t:b=D
   .subst t;rw[zd]at e;cases e;exact⟨hz,r,k,a,L.1⟩
   .rw[zi t]at e;exact(I.aO b u e).dJ (λc v _ q=>q) (λc q=>by rw[zi (zk q O)];exact q) λc xs q=>by rw[zi (zk q O)];exact q
  have g:Un (cL X.stack) fp H2 j s2.heap R.heap:=I.base;have un:Un (cL X.stack) fp H2 (upd j D (.lst h)) s2.heap R.heap :=
   ⟨g.keep,g.slot,λb o q n hx=>by
    rw[zi (lF b o q)];exact g.free b o q n hx,g.there,λb xs q=>by rw[zi (zk (g.cf b xs q) O)];exact g.cf b xs q,
    λb o u q=>by rw[zi (zk (g.bX b o u q) O)];exact g.bX b o u q,λb ps q=>by
     obtain⟨more,e⟩:=g.cg b ps q;exact⟨more,by rw[zi (zk e O)];exact e⟩⟩
  have l:Inv X pins σ (upd j D (.lst h)) R:=I2.BQ (ch:=fp) I.os un Ax I.bare λb t=>by
   obtain⟨g0,g1,g2,g3,g4,g5⟩:=f2 b t;exact⟨g3,g1,g4,g5⟩
  exact hQ h j R mC l O Zs I.free Nx
 .refine aU (T.item (iz X NN scope cl C s2 H2 fp φ ξ) rfl rfl rfl hc i _ s3 _ j _ I3 (E Gq) Dm go) λgI R ⟨u,B,h4⟩=>?_;subst B;refine aU h4 λ_ H ⟨y,H5,l,r5,y5,U,MT⟩=>?_;have MU:=l.pinned (E MT) (T.obj _ _ U);refine aU (pg _ H _ H5 y u _ MU r5 (step y _ y5 N Zr)) λ_ s6 ⟨gL,H6,I6,P,e6,Zt,Zu,q5⟩=>?_;subst e6 Zt;refine aU (jH _ s6 _ _ _ I6 q5) λb s7 ⟨H7,Y,F⟩=>?_;have g9:∀{f:Shared}{d:Hp}{its':List Value}{k':Nat}{ys':List V},Vals ys' its'->Inv (iz X NN scope cl C s2 H2 fp φ ξ) [(D,{ cls:=.type "list",data:=.seq its'.toArray k' })] (P++iA ix σ) d f->(∀b∈fp,∀o,H.heap.get? b=some o->f.heap.get? b=some o)->(∀b∈fp,d b=none)->gB ys' d ->
   ∃m,m<n/\∃i h r k N H',Vals h r/\Inv (iz X NN scope cl C s2 H2 fp φ ξ) [(D,{ cls:=.type "list",data:=.seq r.toArray k })] (N++iA ix σ) H' f/\N.length=Z/\tn i f.heap/\(∀b∈fp,H' b=none)/\g8 i m h H' :=
   λ{f d its' k' ys'} Zv S kp Zw nn=>let ⟨m',hm,w8⟩:=hN ys' d nn;⟨m',hm,i+1,ys',its',k',P,d,Zv,S,Zu,T.keep _ _ _ U kp,Zw,w8⟩
  cases b with
  | false =>
    rw[q00 q23]at F ⊢;refine g9 a Y.eM (λb t o e=>(Y.pin (b,o) (by simp[iz,dR];exact .inr (Gp t e))).1) (λb t=>?_) F;obtain⟨o,e,gC⟩:=T.obj _ _ U b t;exact(Y.pin (b,o) (by simp[iz,dR];exact .inr (Gp t e))).2.1
  | true =>
    rw[q01 rfl]at F ⊢;refine aU (he _ s7 _ _ _ Y F) λv f ⟨z,d,S,r8,q8⟩=>?_;have L:=S.pin (D,{ cls:=.type "list",data:=.seq r.toArray k }) (by simp[iz,dR]);have gK:h.length=r.length:=a.length;refine append_at (hsz:=by show r.toArray.size<=sizeLine;rw[q10];lia) L.1 λgH Ur Us=>?_;have eo:({ cls:=.type "list",data:=.seq (r.toArray.push v) (k+1) }:Obj)={ cls:=.type "list",data:=.seq (r++[v]).toArray (k+1) }:=by rw[List.push_toArray]
    rw[eo]at Us;have Ut:∀b∈fp,∀o,H.heap.get? b=some o->f.heap.get? b=some o/\d b=none:=λb t o e=>by
     have q:=S.pin (b,o) (by simp[iz,dR];exact .inr (Gp t e));exact⟨q.1,q.2.1⟩
    have J8:=S.eM.fv (pins':=[]) (λp J=>by cases J);have x:fL (iz X NN scope cl C s2 H2 fp φ ξ) [] d D:=⟨L.2.1,L.2.2.1,L.2.2.2.1,.inr lG,λy c e=>Zq y c e,λp J=>by cases J⟩;have I9:Inv (iz X NN scope cl C s2 H2 fp φ ξ) [] (P++iA ix σ) d { f with heap:=gH }:=J8.turned (t':=f.toks) (it:=D) (λb o t e=>(Ur.2 b t).trans e) x.1 x.2.1 x.2.2.2.1 x.2.2.2.2.1 x.2.2.2.2.2;refine g9 (its':=r++[v]) (k':=k+1) (ys':=h++[z]) (a.append (.cons r8 .nil)) (I9.fv λp J=>?_) (λb t o e=>(Ur.2 b (B9 b t)).trans (Ut b t o e).1) (λb t=>?_) q8
    .have e:p=(D,{ cls:=.type "list",data:=.seq (r++[v]).toArray (k+1) }):=by simpa using J
     subst e;exact⟨Us,x.1,x.2.1,x.2.2.1,λv z=>by cases z⟩
    .obtain⟨o,e,gC⟩:=T.obj _ _ U b t;exact(Ut b t o e).2
def Inv.Zx{N:List Str}{C:Addr}{s:Shared}{H:Hp}(I:Inv (dR X N scope cl C s2 H2 fp) pins σ H s):Inv (iz X N scope cl C s2 H2 fp (λ_=>false) ξ) pins σ H s :=
 ⟨⟨I.ok.mod,I.ok.kind,I.ok.glob,I.ok.blt,I.ok.above,I.ok.inj,I.ok.has,I.ok.qO,I.ok.hd,I.ok.frames,I.ok.qP,I.ok.rP,I.ok.bs,I.ok.jz,I.ok.gz,I.ok.gU,I.ok.cM,I.ok.kY⟩,I.os,I.bare,I.base,I.loc,I.cell,I.free,I.cI,I.pin,I.aO,I.len⟩
def Uu{J:It}{Ξ:Addr->Value->Shared->Prop}(S:bI X.env.scope X.N P fr ix scope)(pg:∀C,PG (iz X (P++fr) scope cl C s2 H2 fp (λ_=>false) (Ξ C)) xi tg)(hc:X.calm=true)
 (jH:∀C,qY (iz X (P++fr) scope cl C s2 H2 fp (λ_=>false) (Ξ C)) ifs tc) (he:∀C,PE (iz X (P++fr) scope cl C s2 H2 fp (λ_=>false) (Ξ C)) elt te)
 (M:∀D C,s2.heap.objs.size<=C->∀e s,Ξ C e s->notedBy (model X.prog X.w) X.A (compEnvC scope cl C X.env) (λg2 t=>compPost (model X.prog X.w) X.A X.xe use Q (.ref D) C (.error g2) t) e s)
 (Y:∀y c,cl.lookup y=some c->X.env.cells.lookup y=some c) (H:∀y,(y,NameKind.free)∈scope.names->∃c,cl.lookup y=some c)
 (x:Inv X pins σ H2 s2) (T:Turn X.prog X.w X.K xi J fp it tn) (U:tn 0 s2.heap) (O:∀b∈fp,fL X pins H2 b)  (wc:Fd P.length tg J (iA ix σ) tc te H2 fin)
 (hQ:∀(D C:Addr)(g:List V)(H':Hp)(t:Shared)(m:Str->Option Value),Inv X pins σ (upd H' D (.lst g)) t->H' D=none->t.heap.Ns C m->D≠C->s2.heap.objs.size<=C->H' C=none->fin g H' ->
   compPost (model X.prog X.w) X.A X.xe use Q (.ref D) C (.ok .next) t) :
 wpAny (model X.prog X.w) X.A (newList []) (λL h=>wpAny (model X.prog X.w) X.A (newFunctionEnv scope X.env.globals cl [] X.env.qual none .none (some X.env)) (λR g1 =>
  codeAny (model X.prog X.w) X.A (.compStart (.ListComp elt [⟨xi,iter,ifs,0⟩] scope pos) 0 (.ref it) L { R with scope:=relabel scope X.env }) (compPost (model X.prog X.w) X.A X.xe use Q L R.locals) g1) X.xe h) X.xe s2:=by
 have F:∀b∈fp,b<s2.heap.objs.size:=λb v=>by
  obtain⟨o,e,_⟩:=T.obj 0 _ U b v;exact lt_size e
 refine wpAny_newObj_type (wpAny_newFunctionEnv S.cu (by intro y hy;simp at hy) (λj q i=>?_) S.kind);dsimp only at q i ⊢;generalize u:s2.heap.push { cls:=.type "list",dict:=none,data:=.seq ([]:List Value).toArray }=n at q i ⊢;have f:n.objs.size=s2.heap.objs.size+1:=by rw[<-u,size_push]
 have r:s2.heap.objs.size≠n.objs.size:=by rw[f];exact ne_of_lt (lt_succ_self _)
 have p:s2.heap.objs.size<=n.objs.size:=by rw[f];exact le_succ _
 have DO:∀b,b<s2.heap.objs.size->b≠n.objs.size:=λb v=>by rw[f];exact ne_of_lt (lt_succ_of_lt v)
 have E:∀b o,s2.heap.get? b=some o->j.get? b=some o:=λb o e=>i.extBut b o (DO b (lt_size e)) (q05 _ (u ▸ q05 _ e));have W:j.get? s2.heap.objs.size=some { cls:=.type "list",data:=.seq ([]:List Value).toArray 0 }:=i.extBut _ _ r (q05 _ (u ▸ get?_push_size _ rfl));have I:tn 0 j:=T.keep 0 _ _ U λb _ o e=>E b o e;have G:∀b∈fp,b≠s2.heap.objs.size:=λb v=>ne_of_lt (F b v);generalize Z:s2.heap.objs.size=D at W r G ⊢;have l:s2.heap.objs.size<=D:=le_of_eq Z;generalize hC:n.objs.size=C at q i r p ⊢;have k:∀b o,s2.heap.get? b=some o->b≠D:=λb o e z=>q02 (lt_size e) (by rw[z,<-Z];exact q37 _);have B:∀h:Shared,h={ s2 with heap:=j,toks:=s2.toks+([]:List (Str×Value)).length } ->
  codeAny (model X.prog X.w) X.A (.compLoop (.ListComp elt [⟨xi,iter,ifs,0⟩] scope pos) 0 (.ref it) (.ref D) (compEnvC scope cl C X.env))
   (compPost (model X.prog X.w) X.A X.xe use Q (.ref D) C) h:=by
  rintro h rfl;exact Uq (φ:=λ_=>false) (ξ:=Ξ C) hc (pg C) (jH C) (he C) (M D C p) x T O wc k l G (λy c e z=>let ⟨_,o,ho,_⟩:=x.cell y c (Y y c e);k c o ho z) (q06 _)
   (Inv.Zx <| tf S x O F p Y H rfl rfl E q (λg0 hp=>by
     have e:g0=(D,{ cls:=.type "list",data:=.seq ([]:List Value).toArray 0 }):=by simpa using hp
     subst e;exact⟨W,l,r,λg3 z=>by cases z⟩)) I λg H' t m a b c d e=>hQ D C g H' t m a b c r p d e
 exact codeAny_compStart_list (B _ rfl) (T.self X.A 0 _ _ _ I (B _ rfl))
def GW{J:It}(S:bI X.env.scope X.N P fr ix scope)(pg:∀cl C s2 H2 fp,PG (dR X (P++fr) scope cl C s2 H2 fp) xi tg)(p:X.calm=true)
 (q:∀cl C s2 H2 fp,qY (dR X (P++fr) scope cl C s2 H2 fp) ifs tc) (he:∀cl C s2 H2 fp,PE (dR X (P++fr) scope cl C s2 H2 fp) elt te)
 (i:∀y c,cl.lookup y=some c->X.env.cells.lookup y=some c) (j:∀y,(y,NameKind.free)∈scope.names->∃c,cl.lookup y=some c)
 (r:Inv X pins σ H2 s2) (T:Turn X.prog X.w X.K xi J fp it tn) (d:tn 0 s2.heap) (h:∀b∈fp,fL X pins H2 b)  (f:Fd P.length tg J (iA ix σ) tc te H2 fin)
 (o:∀(D C:Addr)(n:List V)(H':Hp)(e:Shared)(m:Str->Option Value),Inv X pins σ (upd H' D (.lst n)) e->H' D=none->e.heap.Ns C m->D≠C->s2.heap.objs.size<=C->H' C=none->fin n H' ->
   compPost (model X.prog X.w) X.A X.xe use Q (.ref D) C (.ok .next) e) :
 wpAny (model X.prog X.w) X.A (newList []) (λt g=>wpAny (model X.prog X.w) X.A (newFunctionEnv scope X.env.globals cl [] X.env.qual none .none (some X.env)) (λv u =>
  codeAny (model X.prog X.w) X.A (.compStart (.ListComp elt [⟨xi,iter,ifs,0⟩] scope pos) 0 (.ref it) t { v with scope:=relabel scope X.env }) (compPost (model X.prog X.w) X.A X.xe use Q t v.locals) u) X.xe g) X.xe s2 :=
 Uu (Ξ:=λ_ _ _=>False) S (λC=>pg cl C s2 H2 fp) p (λC=>q cl C s2 H2 fp) (λC=>he cl C s2 H2 fp) (λ_ _ _=>Up) i j r T d h f o
end
section
variable {X:Cx}{H:Hp}{x:Str}{fr:List Str}{ix:List Nat}{scope:Scope}
def aj.g(S:aj X.env.scope X.N x fr ix scope):bI X.env.scope X.N [x] fr ix scope:=⟨S.kind,S.cu,S.lD,S.free,S.at',S.sZ,S.nd⟩
def aj.len(S:aj X.env.scope X.N x fr ix scope):fr.length=ix.length:=S.g.len
def dD.g{J:It}{c:St}{r:TT}{b:TE}{e:List V->Hp->Prop}(h:dD J c r b H e):Fd 1 (jB 0) J c r b H e:=by
 obtain⟨W,w,t⟩:=h;refine⟨W,w,λi m q H o=>(t i m q H o).imp id λ⟨d,l,N,n,p⟩=>⟨d,l,N,n,λx H' y v j=>?_⟩⟩;obtain⟨a,rfl⟩:=List.length_eq_one_iff.mp j;exact⟨[some x],rfl,rfl,rfl,p x H' y⟩
end
section
variable {X:Cx}{x:Str}{fr:List Str}{ix:List Nat}{scope:Scope}{elt iter:Expr}{ifs:List Expr}{px pos:Pos}{wi:TI}{tc:TT}{te:TE}
def zN(S:aj X.env.scope X.N x fr ix scope)(U:X.calm=true)(W:PI X (.Name x px) iter wi)(P:∀n C c v r,qY (dR X (x::fr) scope n C c v r) ifs tc)(he:∀n C c v r,PE (dR X (x::fr) scope n C c v r) elt te)
 (hs:∀x,foldedSetIterable iter X.env x=pure x:=by intro _;rfl):PE X (.ListComp elt [⟨.Name x px,iter,ifs,0⟩] scope pos) (mT ix wi tc te):=by
 intro j s K H Q I h;obtain⟨n,w,f,G⟩:=DI (env:=X.env) (scope:=scope) λy Z V=>I.ok.has y.1 (S.free y Z V);rw[eval_ListComp];refine wpAny_comprehension_free (use:=none) rfl hs w S.kind S.lD (aU (W j s K H _ I h) λxv s1 k=>aU k λM c l=>?_);obtain⟨it,r,tn,J,v,rfl,i,T,u,p,E⟩:=l;refine GW S.g (λ_ _ _ _ _=>rY S.nd rfl (.inl (lookup_relabel_local S.lx)) (.inr (lookup_relabel_local S.lx))) U P he f G i T u p E.g λD C d H' A m o O Y F L a q=>?_;refine⟨m,Y,λh' B=>⟨.ref D,upd H' D (.lst d),?_,rfl,q D O⟩⟩;have t:fL X j (upd H' D (.lst d)) C:=by
  have z:=i.gA (H':=upd H' D (.lst d)) L (by rw[zi (Ne.symm F)];exact a);exact z
 exact o.turned (t':=A.toks) (it:=C) (λb g0 R e=>(B.2 b R).trans e) t.1 t.2.1 t.2.2.2.1 t.2.2.2.2.1 t.2.2.2.2.2
def yN{i:Nat}{y:Str}{n G:Pos}(S:aj X.env.scope X.N x fr ix scope)(hc:X.calm=true)(M:X.N.Nodup)(Z:X.N[i]? = some y)(p:Loc X.env.scope y)(hi:PI X (.Name x px) iter wi)(jH:∀c C m r d,qY (dR X (x::fr) scope c C m r d) ifs tc)(he:∀c C m r d,PE (dR X (x::fr) scope c C m r d) elt te)
 (F:swapsWith (.ListComp elt [⟨.Name x px,iter,ifs,0⟩] scope pos) (some (.Name y n)) G.line X.env=pure true:=by rfl)
 (o:X.fn y=true\/X.env.scope.names.lookup y=some .local:=by first | exact .inl rfl | exact .inr rfl | assumption)
 (hs:∀x,foldedSetIterable iter X.env x=pure x:=by intro _;rfl) :
 PS X (.Assign [.Name y n] (.ListComp elt [⟨.Name x px,iter,ifs,0⟩] scope pos) G) (se (mT ix wi tc te) (jB i)):=by
 intro u s g1 H O I h;obtain⟨c,oV,l,B⟩:=DI (env:=X.env) (scope:=scope) λy p o=>I.ok.has y.1 (S.free y p o);rw[exec_Assign_Name_used _ _ _ _ F];refine q03 (wpAny_standAt (q03 ?_));show wpAny _ X.A (do let _ <-comprehension (.ListComp elt [⟨.Name x px,iter,ifs,0⟩] scope pos) scope X.env _ (newList []) false (eval iter X.env) (some (assign (.Name y n) X.env))) _ _ s;refine q03 (aU (Q:=λ_ j=>SP X u O .next j) ?_ λ_ j q=>q04 (q04 q));refine wpAny_comprehension_free (use:=some (assign (.Name y n) X.env)) rfl hs oV S.kind S.lD (aU (hi u s g1 H _ I h) λxv s1 q1=>aU q1 λAe m q2=>?_);obtain⟨it,d,tn,g2,r,rfl,f,T,k,P,wc⟩:=q2;refine GW S.g (λ_ _ _ _ _=>rY S.nd rfl (.inl (lookup_relabel_local S.lx)) (.inr (lookup_relabel_local S.lx))) hc jH he l B f T k P wc.g λD C J H' j g0 R K hn ib E oW w=>?_;have t:fL X u (upd H' D (.lst J)) C:=f.gA (H':=upd H' D (.lst J)) E (by rw[zi (Ne.symm ib)];exact oW);show wpAny _ X.A (assign (.Name y n) X.env (.ref D)) _ _ j;refine wpAny_assign_Name (MH (v:=V.ref D) R M Z p rfl (λiu W L=>?_) o);obtain⟨a,sb,ha⟩:=L;have Y:C≠a:=λz=>by
  rcases ha with q | q
  .exact t.2.1 (z.trans q)
  .exact t.2.2.2.2.1 y a q z.symm
 refine⟨g0,hn.sameBut sb Y,λh' U=>⟨_,_,W.turned (t':=iu.toks) (it:=C) (λb g3 hb e=>(U.2 b hb).trans e) t.1 t.2.1 t.2.2.2.1 t.2.2.2.2.1 t.2.2.2.2.2,w D K⟩⟩
end
section
variable {X:Cx}
def GX(xs:List V)(y:V):Nat:=xs.findIdx λz=>jG z y
def Uv{x:V}:∀{xs:List V}{e:List Value},Vals xs e->xs.all wM=true->e.findIdx (iW x)=xs.findIdx λy=>jG y x
 | _,_,.nil,_=>rfl
 | y::xs,u::e,.cons r t,f=>by
   rw[all_cons,q42]at f;rw[findIdx_cons,findIdx_cons,JG r f.1,Uv t f.2]
def Uw{x:V}:∀{xs:List V}{e:List Value},Vals xs e->xs.all wM=true->e.countP (iW x)=xs.countP λy=>jG y x
 | _,_,.nil,_=>rfl
 | y::xs,u::e,.cons r t,f=>by
   rw[all_cons,q42]at f;rw[countP_cons,countP_cons,JG r f.1,Uw t f.2]
def tu(K:Frag):V->List V->Hp->VK->Prop:=λx e H Q=>∃l xs y,x=.ref l/\e=[y]/\ah K H l xs/\wM y=true/\xs.all wM=true/\GX xs y<xs.length/\Q (.int (GX xs y:Nat)) H
def lH:(sizeLine:Int)<2 ^ 63-1:=by decide
def DP:E9 X "list.index" (tu X.K):=by
 intro T s W H x V v U Q I L J h;obtain⟨l,xs,y,rfl,rfl,g,p,fs,f,q⟩:=h;cases L;obtain⟨u,rfl,G⟩:=J.one;obtain⟨t,r,⟨⟨R,S,N,sl⟩,n,e,c,d,i⟩,z⟩:=I.list g;simp only at c d i;subst c d i;have C:=r.length;have j:=Uv (x:=y) r fs;have b:t.findIdx (iW y)<t.length:=by rw[j,<-C];exact f
 refine call_meets F.slot_list_index ⟨_,e,rfl⟩ F.entry_list_index (F.args_list_index_2 _ _)
  (SeqAt.list_indexAt l t.toArray n none sl u (iW y) (t.findIdx (iW y)) (by simpa using b) (by have:=lH;lia) (by simpa using List.findIdx_getElem (w:=b)) (λm O o=>by simpa using List.not_of_lt_findIdx o)) ⟨e,λw D=>DC G p r fs w (by simpa using D),?_⟩
 refine⟨.int (GX xs y:Nat),H,I.tok _,⟨s.toks,?_⟩,q⟩;rw[j];rfl
def DQ(K:Frag):V->List V->Hp->VK->Prop:=λx e H Q=>∃l xs y,x=.ref l/\e=[y]/\ah K H l xs/\wM y=true/\xs.all wM=true/\Q (.int (xs.countP (λz=>jG z y):Nat)) H
def tw:E9 X "list.count" (DQ X.K):=by
 intro G s N H x L v J Q I g p h;obtain⟨l,xs,y,rfl,rfl,j,i,fs,q⟩:=h;cases g;obtain⟨u,rfl,o⟩:=p.one;obtain⟨t,r,⟨⟨C,D,f,sl⟩,n,e,b,c,d⟩,z⟩:=I.list j;simp only at b c d;subst b c d;refine call_meets F.slot_list_count ⟨_,e,rfl⟩ F.entry_list_count (F.args_list_count_2 _ _)
  (SeqAt.list_countAt l t.toArray n none sl u (iW y)) ⟨e,λw m=>DC o i r fs w (by simpa using m),?_⟩
 refine⟨.int (xs.countP (λz=>jG z y):Nat),H,I.tok _,⟨s.toks,?_⟩,q⟩;show Value.int ((t.countP (iW y):Nat):Int) _=_;rw[Uw (x:=y) r fs]
def isInt:V->Option Bool
 | .int _=>some true
 | .bl _=>some true
 | .str _=>some false
 | .bR=>some false
 | _=>none
def isBool:V->Option Bool
 | .int _=>some false
 | .bl _=>some true
 | .str _=>some false
 | .bR=>some false
 | _=>none
def isStr:V->Option Bool
 | .int _=>some false
 | .bl _=>some false
 | .str _=>some true
 | .bR=>some false
 | _=>none
inductive tD (K:Frag) (H:Hp):V->Bool->Prop
 | yes {a:Addr} {xs:List V}:ah K H a xs->tD K H (.ref a) true
 | no {a:Addr} {xs:List V}:cE K H a xs->tD K H (.ref a) false
inductive fQ (xs:List V)(H:Hp)(Q:VK):Prop|mk(x:_)(b:_):xs=[x,.ty "int"]->isInt x=some b->Q (.bl b) H->fQ xs H Q
def Zy:wZ X (.builtin "isinstance") fQ:=by
 intro d s m H xs j Q I r h;obtain⟨x,b,rfl,e,q⟩:=h;obtain⟨u,t,rfl,v,n⟩:=r.two;cases n;cases x with
 | int i=>obtain⟨c,rfl⟩:=v;cases e;exact IsiPair.int_int ⟨.bl true,H,I,rfl,q⟩
 | bl i=>cases v;cases e;exact IsiPair.bool_int ⟨.bl true,H,I,rfl,q⟩
 | str i=>obtain⟨c,rfl⟩:=v;cases e;exact IsiPair.str_int ⟨.bl false,H,I.tok _,rfl,q⟩
 | bR=>cases v;cases e;exact IsiPair.NoneType_int ⟨.bl false,H,I.tok _,rfl,q⟩
 | _=>cases e
inductive eO (xs:List V)(H:Hp)(Q:VK):Prop|mk(x:_)(b:_):xs=[x,.ty "bool"]->isBool x=some b->Q (.bl b) H->eO xs H Q
def Zz:wZ X (.builtin "isinstance") eO:=by
 intro d s m H xs j Q I r h;obtain⟨x,b,rfl,e,q⟩:=h;obtain⟨u,t,rfl,v,n⟩:=r.two;cases n;cases x with
 | int i=>obtain⟨c,rfl⟩:=v;cases e;exact IsiPair.int_bool ⟨.bl false,H,I.tok _,rfl,q⟩
 | bl i=>cases v;cases e;exact IsiPair.bool_bool ⟨.bl true,H,I,rfl,q⟩
 | str i=>obtain⟨c,rfl⟩:=v;cases e;exact IsiPair.str_bool ⟨.bl false,H,I.tok _,rfl,q⟩
 | bR=>cases v;cases e;exact IsiPair.NoneType_bool ⟨.bl false,H,I.tok _,rfl,q⟩
 | _=>cases e
inductive fR (xs:List V)(H:Hp)(Q:VK):Prop|mk(x:_)(b:_):xs=[x,.ty "str"]->isStr x=some b->Q (.bl b) H->fR xs H Q
def ZA:wZ X (.builtin "isinstance") fR:=by
 intro d s m H xs j Q I r h;obtain⟨x,b,rfl,e,q⟩:=h;obtain⟨u,t,rfl,v,n⟩:=r.two;cases n;cases x with
 | int i=>obtain⟨c,rfl⟩:=v;cases e;exact IsiPair.int_str ⟨.bl false,H,I.tok _,rfl,q⟩
 | bl i=>cases v;cases e;exact IsiPair.bool_str ⟨.bl false,H,I.tok _,rfl,q⟩
 | str i=>obtain⟨c,rfl⟩:=v;cases e;exact IsiPair.str_str ⟨.bl true,H,I,rfl,q⟩
 | bR=>cases v;cases e;exact IsiPair.NoneType_str ⟨.bl false,H,I.tok _,rfl,q⟩
 | _=>cases e
inductive eP (K:Frag)(xs:List V)(H:Hp)(Q:VK):Prop|mk(x:_)(b:_):xs=[x,.ty "list"]->tD K H x b->Q (.bl b) H->eP K xs H Q
def Ux:wZ X (.builtin "isinstance") (eP X.K):=by
 intro g s C H xs f Q I r h;obtain⟨x,b,rfl,e,q⟩:=h;obtain⟨u,t,rfl,d,m⟩:=r.two;cases m;cases e with
 | yes c =>
   cases d;obtain⟨i,r,⟨o,n,e,v,p,j⟩,z⟩:=I.list c;exact IsiPair.list_list e v ⟨.bl true,H,I,rfl,q⟩
 | no c =>
   cases d;obtain⟨i,r,⟨o,e,v,n,j⟩,z⟩:=I.tuple c;exact IsiPair.tuple_list e v ⟨.bl false,H,I.tok _,rfl,q⟩
def NC(K:Frag)(n ts:TE):TE:=λt H Q=>n t H λx v=>ts t v λy e=>y=.int (-1)/\∃a xs,x=.ref a/\ah K e a xs/\∀p,e p=none->Q (.ref p) (upd e p (.lst xs.reverse))
def DR{e st:Expr}{p ts:TE}{m N:Pos}(he:PE X e p)(D:PE X st ts):PE X (.Subscript e (.Slice none none (some st) m) N) (NC X.K p ts):=by
 intro c s d H Q I h;refine Subscript_ (aU (he c s d H _ I h) λv U ⟨x,g,z,S,O⟩=>?_);refine wpAny_Slice ?_;rw[evalPart_none];refine q04 (q04 ?_);rw[evalPart_some];refine aU (D c U d g _ z O) λu n ⟨y,f,C,T,R⟩=>?_;obtain⟨rfl,a,xs,rfl,G,q⟩:=R;obtain⟨t,rfl⟩:=T;cases S;have i:Inv X c d f { n with heap:=n.heap.push { cls:=.type "slice",data:=.fields #[.none,.none,.int (-1) t] } }:=C.kept (t':=n.toks) λb L q=>q05 _ q;obtain⟨V,r,j,J⟩:=i.list G;have Y:=r.length;show wpAny (model X.prog X.w) X.A (subscriptTail e (.Slice none none (some st) m) (.ref a) (.ref n.heap.objs.size)) (EP X c d Q) X.xe { n with heap:=n.heap.push { cls:=.type "slice",data:=.fields #[.none,.none,.int (-1) t] } };refine tail_any (ops:=[.ref a,.ref n.heap.objs.size]) j.isList.typeIs slot_list_getitem.lookup ?_ (by with_unfolding_all rfl);refine wpAny_getItem_list_slice j.isList (Heap.IsSliceOf.new ..) .none .none (.int (-1) t) (by decide) ?_ (by rw[q10] <;> lia);rw[PySem.W.krv_pick];refine⟨.ref _,_,i.laid (t':=n.toks) (o:=.lst xs.reverse) (λb L q=>q05 _ q) (le_refl _) ?_,rfl,q _ (i.aO.fresh (le_refl _))⟩;exact⟨by rw[List.length_reverse];exact J,_,0,r.reverse,get?_push_size _ rfl⟩
end
structure bJ (P:Program) (w:World) (K:Frag) (mg:Str->Option Value) (base:Heap) (k:Nat) (x:Str) (ps:List Str) (sp:Sp):Prop where
 ex:∃f fd,ar P w K mg base bp k f fd ps sp/\mg x=some (.ref f)/\keepIn K (.ref f)=true/\Binds K fd ps []
variable {P:Program}{mg:Str->Option Value}{base:Heap}{x qual:Str}{ps:List Str}{sp:Sp}{f:Addr}{fd:FuncData}{st:Stmt}
def bJ.of
 (F:aS K x qual st f fd) (G:ar P w K mg base bp k f fd ps sp) (e:mg x=some (.ref f)) (b:Binds K fd ps []):bJ P w K mg base k x ps sp:=⟨f,fd,G,e,F.kp,b⟩
section
variable {X:Cx}{k:Nat}{x:Str}{ps:List Str}{sp:Sp}{p pos:Pos}{e:Expr}{es:List Expr}{t:TA}
def DS(C:bJ X.prog X.w X.K X.mg X.base k x ps sp)(c:bA k X.A)(r:Gl X x)(v:PA X (e::es) t)(d:(x==("__debug__":Str))=false:=by decide)(he:starEach (e::es) X.env=(false,eval e X.env)::starEach es X.env:=by rfl)
 (hpl:(backTo pos (starEach es X.env)).any (·.1)=false:=by rfl):PE X (.Call (.Name x p) (e::es) [] pos) (sI sp [] E0 t):=by
 obtain⟨f,fd,F,b,h,n⟩:=C.ex;exact Am F c r b h n .nil B7 v d he hpl
end
variable {c:St}{te:TE}{fin:List V->Hp->Prop}
def yL{h:TT}(v:Nat->List V->Hp->Prop)(j:v 0 [] H)(g:∀i t H,i<=xs.length->v i t H->ah K H a xs/\t.length<=i)(C:xs.length<=sizeLine)
 (hs:∀i x t H,xs[i]? = some x->v i t H->h (some x::c) H λb n=>if b=true then te (some x::c) n λy d=>v (i+1) (t++[y]) d else v (i+1) t n)
 (hd:∀t H,v xs.length t H->fin t H):dD (ke K a) c h te H fin:=by
 refine⟨λi m t H=>m=xs.length-i/\i<=xs.length/\v i t H,⟨xs.length,by simp,zero_le _,j⟩,?_⟩;rintro i m t H ⟨rfl,o,p⟩;obtain⟨q,z⟩:=g i t H o p;by_cases r:i<xs.length
 .refine .inr ⟨⟨xs,xs[i],q,by simp[r]⟩,by lia,v (i+1),λD H' u=>⟨_,by lia,rfl,r,u⟩,λx H' y=>?_⟩;obtain⟨e,y⟩:=y;subst e;exact hs i x t _ (y xs q) p
 .have e:i=xs.length:=by lia
  subst e;exact .inl ⟨⟨xs,q,le_refl _⟩,by lia,hd t H p⟩
variable {n:Nat}
def Uy{h:Int}{j:TT}(v:Nat->List V->Hp->Prop)(q:v 0 [] H)(u:∀i t H,i<=n->v i t H->t.length<=i)(D:n<=sizeLine)
 (hs:∀i t H,i<n->v i t H->j (some (.int (h+i))::c) H λb d=>if b=true then te (some (.int (h+i))::c) d λy o=>v (i+1) (t++[y]) o else v (i+1) t d)
 (hd:∀t H,v n t H->fin t H):dD (Af h n) c j te H fin:=by
 refine⟨λi m t H=>m=n-i/\i<=n/\v i t H,⟨n,by simp,zero_le _,q⟩,?_⟩;rintro i m t H ⟨rfl,g,p⟩;have C:=u i t H g p;by_cases r:i<n
 .refine .inr ⟨r,by lia,v (i+1),λG H' z=>⟨_,by lia,rfl,r,z⟩,λx H' y=>?_⟩;obtain⟨e,y⟩:=y;subst e y;exact hs i t _ r p
 .have e:i=n:=by lia
  subst e;exact .inl ⟨le_refl _,by lia,hd t H p⟩
def zY(v:Nat->List V->Hp->Prop)(h:v 0 [] H)(b:∀i t H,i<=xs.length->v i t H->ah K H a xs/\t.length<=i)(d:xs.length<=sizeLine)
 (hs:∀i x t H,xs[i]? = some x->v i t H->te (some x::c) H λy r=>v (i+1) (t++[y]) r) (hd:∀t H,v xs.length t H->fin t H):dD (ke K a) c xh te H fin :=
 yL v h b d (λi x t H e p=>qX (B:=v (i+1) t H) (hs i x t H e p)) hd
def Uz{r:Int}(v:Nat->List V->Hp->Prop)(b:v 0 [] H)(d:∀i t H,i<=n->v i t H->t.length<=i)(j:n<=sizeLine)
 (hs:∀i t H,i<n->v i t H->te (some (.int (r+i))::c) H λy h=>v (i+1) (t++[y]) h) (hd:∀t H,v n t H->fin t H):dD (Af r n) c xh te H fin :=
 Uy v b d j (λi t H e p=>qX (B:=v (i+1) t H) (hs i t H e p)) hd
def Fe{i:Int}{v:Pos}(h:∃t,X.mg x=some (.int i t))(e:Gl X x)(hd:(x==("__debug__":Str))=false:=by decide):PE X (.Name x v) (tC (.int i)):=by
 obtain⟨t,h⟩:=h;exact x8 e h ⟨t,rfl⟩ hd
def zX{c:Prop} [Decidable c](e:c->A)(t:¬c->B):if decide c=true then A else B:=by
 by_cases h:c
 .rw[q01 (q19 h)];exact e h
 .rw[q00 (by rw[q20 h];exact q23)];exact t h
def yl{c:Prop} [Decidable c](e:¬c->A)(t:c->B):if(!decide c)=true then A else B:=by
 by_cases h:c
 .rw[q19 h];exact j6 (t h)
 .rw[q20 h];exact qX (e h)
variable {b:Bool}
def Az(e:b=true->A)(t:b=false->B):if b=true then A else B:=by
 cases b with
 | true=>exact qX (e rfl)
 | false=>exact j6 (t rfl)
def ae.new{o:HO}(h:H l=Option.none):ae H (upd H l o):=λb u e=>by rw[zi (zk e h)];exact e
def ae.aw{o:HO}(s:ae H H')(h:H' l=Option.none):ae H (upd H' l o):=s.trans (ae.new h)
def ae.put{o:HO}(s:ae H H')(h:H l=Option.none):ae H (upd H' l o):=λb u e=>by rw[zi (zk e h)];exact s b u e
def ae.lI(e:ae H H')(h:cE K H a xs):cE K H' a xs:=by
 rcases h with(h | ⟨o,h⟩) | h
 .exact .inl (.inl (e _ _ h))
 .exact .inl (.inr ⟨o,e _ _ h⟩)
 .exact .inr h
def ah.new:ah K (upd H l (.lst xs)) l xs:=ah.of zd
def cE.new:cE K (upd H l (.tup xs)) l xs:=cE.of zd
def tE{i:Int}{v:V}(e:0<=i)(h:xs[i.toNat]? = some v):fN xs i=some v:=by
 have:=zO h
 rwa [Int.toNat_of_nonneg e]at this
variable {ns:List Int}{i:Nat}
def qZ(h:i<ns.length):(ns.map V.int)[i]? = some (.int (ns.getD i 0)):=by
 rw[q26,q31 h,q18,q31 h];rfl
def xj{i:Int}(e:0<=i)(h:i<ns.length):fN (ns.map V.int) i=some (.int (ns.getD i.toNat 0)):=tE e (qZ (by lia))
def zA(ns:List Int):(ns.map V.int).all wM=true:=by
 rw[all_map];exact q39.mpr λ_ _=>rfl
def wd(ns:List Int)(c:Int):GX (ns.map V.int) (.int c)=ns.idxOf c:=by
 unfold GX
 induction ns with
 | nil=>rfl
 | cons a ns e =>
   rw[map_cons,findIdx_cons,List.idxOf_cons,e];rfl
def lJ(ns:List Int)(c:Int):(ns.map V.int).countP (λz=>jG z (.int c))=ns.count c:=by
 induction ns with
 | nil=>rfl
 | cons a ns e=>rw[map_cons,countP_cons,List.count_cons,e];rfl
def Ff(ns:List Int)(c:Int):mR (.int c) (ns.map V.int)=decide (c∈ns):=by
 unfold mR
 induction ns with
 | nil=>rfl
 | cons a ns t =>
   rw[map_cons,any_cons,t];show((a==c) || _)=_;by_cases h:a=c
   .subst h;simp
   .have:¬c=a:=λe=>h e.symm;simp[h,this]
def Fg{k:Int}(h:0<=k):kT xs (some k) none=xs.drop k.toNat:=by
 obtain⟨n,rfl⟩:=Int.eq_ofNat_of_zero_le h;unfold kT;rw[HT.kh];show(xs.drop (HT.jE xs.length 0 (some ((n:Nat):Int)))).take _=_;rw[HT.mO,Int.toNat_natCast];by_cases h:n<=xs.length
 .rw[Nat.min_eq_left h,take_of_length_le (by rw[length_drop];exact le_refl _)]
 .rw[Nat.min_eq_right (by lia),drop_of_length_le (le_refl _),drop_of_length_le (by lia),take_nil]
def JL{k:Int}(h:0<=k):kT xs none (some k)=xs.take k.toNat:=by
 obtain⟨n,rfl⟩:=Int.eq_ofNat_of_zero_le h;unfold kT;rw[HT.kh,List.drop_zero];show xs.take (HT.jE xs.length xs.length (some ((n:Nat):Int))-0)=_;rw[HT.mO,Int.toNat_natCast,Nat.sub_zero];by_cases h:n<=xs.length
 .rw[Nat.min_eq_left h]
 .rw[Nat.min_eq_right (by lia),take_of_length_le (le_refl _),take_of_length_le (by lia)]
def wY{k:Int}(h:0<=k):kT (ns.map V.int) (some k) none=(ns.drop k.toNat).map V.int:=by rw[Fg h,map_drop]
def Cb{k:Int}(h:0<=k):kT (ns.map V.int) none (some k)=(ns.take k.toNat).map V.int:=by rw[JL h,map_take]
def zq:1000000<=sizeLine:=by decide
def tF{i:Int}(t:0<=i)(v:i<n):seqIndex? i n=some i.toNat:=by
 have e:(if i<0 then i+(n:Int)else i)=i:=q00 (by lia);unfold seqIndex?;simp only[e];rw[q01 (by simp only[q42,decide_eq_true_eq];exact⟨t,v⟩)]
def UA{e t:Type}(f:e->t):∀(l:List e)(i:Nat),(l.map f).eraseIdx i=(l.eraseIdx i).map f
 | [],_=>rfl
 | _::_,0=>rfl
 | a::l,i+1=>by
   show f a::(l.map f).eraseIdx i=f a::(l.eraseIdx i).map f;rw[UA f l i]
def UB{e:Type}:∀(l:List e)(i:Nat)(h:i<l.length),(l[i]::l.eraseIdx i).Perm l
 | a::l,0,_=>List.Perm.refl _
 | a::l,i+1,h=>(List.Perm.swap a (l[i]'(by simpa using h)) (l.eraseIdx i)).trans ((UB l i (by simpa using h)).cons a)
def yX(e:i<ns.length):ns.take (i+1)=ns.take i++[ns.getD i 0]:=by
 rw[take_succ,q31 e,q18,q31 e];rfl
def yU{x:V}(e:(ns.map V.int)[i]? = some x):i<ns.length/\x=.int (ns.getD i 0):=by
 have t:i<ns.length:=by have:=(q45.mp e).1;rwa [q06]at this
 refine⟨t,?_⟩;rw[qZ t]at e;exact(q22 e).symm
def Fh(e:i<ns.length):ns.getD i 0=ns[i]:=by rw[q18,q31 e];rfl
def tG(e:i<ns.length):ns.getD i 0∈ns:=by rw[Fh e];exact q44 e
def tH(ns:List Int)(x:Int):ns.map V.int++[V.int x]=(ns++[x]).map V.int:=by rw[q07];rfl
def mU(ns:List Int)(x:Int):upd H l (.lst (ns.map V.int++[V.int x])) l=some (.lst ((ns++[x]).map V.int)):=zd.trans (congrArg (λl=>some (HO.lst l)) (tH ns x))
def gZ:List V->List V->Bool
 | [],[]=>true
 | x::xs,y::ys=>jG x y && gZ xs ys
 | _,_=>false
def mV(xs ys:List V)(j:Nat):Bool:=match xs[j]?,ys[j]? with
 | some x,some y=>jG x y
 | _,_=>false
def ND:∀{xs e:List V},xs.length=e.length->(List.range xs.length).all (mV xs e)=gZ xs e
 | [],[],_=>rfl
 | x::xs,y::e,h=>by
   have t:xs.length=e.length:=by simpa using h
   show(List.range (xs.length+1)).all _=(jG x y && gZ xs e);rw[range_succ_eq_map,all_cons,all_map,<-ND t];rfl
def NF:∀{xs t:List V},xs.length≠t.length->gZ xs t=false
 | [],[],h=>q02 rfl h
 | [],_::_,_=>rfl
 | _::_,[],_=>rfl
 | x::xs,y::t,h=>by
   show(jG x y && gZ xs t)=false;rw[NF (λe=>h (by simp[e])),Bool.and_false]
def yZ:∀(ns e:List Int),gZ (ns.map V.int) (e.map V.int)=decide (ns=e)
 | [],[]=>rfl
 | [],_::_=>rfl
 | _::_,[]=>rfl
 | a::ns,b::e=>by
   show((a==b) && gZ (ns.map V.int) (e.map V.int))=_;rw[yZ ns e];by_cases h:a=b
   .subst h;simp
   .simp[h]
def tI{A:Around}{ys:List V}{us vs:List Value}(d:Vals xs us)(m:Vals ys vs)(C:xs.all wM=true)(D:ys.all wM=true):
 ∀j (r:j<us.toArray.size) (h:j<vs.toArray.size),SeqAt.EqAt A s us.toArray[j] vs.toArray[j] (mV xs ys j):=λj r h=>by
 have J:=d.length;have L:=m.length;have o:j<us.length:=by simpa using r
 have p:j<vs.length:=by simpa using h
 obtain⟨u,e,G⟩:=d.get (i:=j) (x:=xs[j]) (q31 (by lia));obtain⟨v,t,I⟩:=m.get (i:=j) (x:=ys[j]) (q31 (by lia));have q:us.toArray[j]=u:=by rw[getElem_toArray];rw[q31 o]at e;exact q22 e
 have g:vs.toArray[j]=v:=by rw[getElem_toArray];rw[q31 p]at t;exact q22 t
 rw[q,g];have z:mV xs ys j=jG xs[j] ys[j]:=by unfold mV;rw[q31 (by lia),q31 (by lia)]
 rw[z];exact sU G I (q39.mp C _ (q44 _)) (q39.mp D _ (q44 _))
section
variable {X:Cx}
inductive Cc (K:Frag)(x y:V)(H:Hp)(Q:VK):Prop|mk(a:_)(b:_)(xs:_)(e:_):x=.ref a->y=.ref b->ah K H a xs->ah K H b e->xs.all wM=true->e.all wM=true->Q (.bl (gZ xs e)) H->Cc K x y H Q
def NI(K:Frag):R2:=λx y H Q=>Cc K x y H Q
def Fi(r:X.A.units<cLine):eN X (compareOp .Eq) (NI X.K):=by
 intro R s U H x y v u Q I G J h;obtain⟨a,b,xs,e,rfl,rfl,z,C,p,g,q⟩:=h;cases G;cases J;obtain⟨L,m,d,S⟩:=I.list z;obtain⟨N,o,j,T⟩:=I.list C;have D:=m.length;have O:=o.length;by_cases t:xs.length=e.length
 .refine SeqAt.eq_listAt d.isList j.isList (by simp;lia) r (tI m o p g) ⟨.bl (gZ xs e),H,I,?_,q⟩;rw[q10,<-D,ND t];rfl
 .refine SeqAt.eq_list_lengthsAt d.isList j.isList (by simp;lia) r ⟨.bl (gZ xs e),H,I,?_,q⟩;rw[NF t];rfl
def ZC{ns:List Int}:∀{e:List Value},IntsAre e ns->Vals (ns.map V.int) e:=by
 intro e h
 induction h with
 | nil=>exact .nil
 | cons n t _ v=>exact .cons ⟨t,rfl⟩ v
inductive gf (K:Frag)(xs:List V)(H:Hp)(Q:VK):Prop|mk(a:Addr)(ns:List Int):xs=[.ref a]->ah K H a (ns.map V.int)->ns.length<64->(∀(l:Addr)(e:List Int),H l=none->e.Perm ns->e.Pairwise (·<= ·)->Q (.ref l) (upd H l (.lst (e.map V.int))))->gf K xs H Q
def NJ:wZ X (.builtin "sorted") (gf X.K):=by
 intro S s W H xs T Q I r h;obtain⟨a,ns,rfl,g,J,q⟩:=h;obtain⟨u,rfl,O⟩:=r.one;cases O;obtain⟨m,j,N,U⟩:=I.list g;have L:=j.length;rw[q06]at L;refine sorted_ints N.isList (E7 j) (by lia) λd t p v G=>?_;obtain⟨e,z⟩:=sortedAll_at s.heap m d;have C:H (s.heap.objs.size+1)=none:=I.aO.fresh (le_succ _);have D:=ZC p;have R:t.length<64:=by rw[v.length_eq];exact J
 refine⟨.ref (s.heap.objs.size+1),upd H (s.heap.objs.size+1) (.lst (t.map V.int)),I.laid (t':=s.toks) (λb o e=>sortedAll_old e) (le_succ _) ⟨?_,d.toList,e,D,?_⟩,rfl,q _ t C v G⟩
 .rw[q06];have:=zq;lia
 .exact z
def tJ{bs:List Bool}{us:List Value}(r:Vals (bs.map V.bl) us){i:Nat}{v:Value}(h:us[i]? = some v):v=.bool (bs.getD i false):=by
 have d:=r.length;rw[q06]at d;have t:i<bs.length:=by rw[d];exact(q45.mp h).1
 obtain⟨u,e,j⟩:=r.get (i:=i) (x:=.bl bs[i]) (by rw[q26,q31 t];rfl);rw[e]at h;cases h;rw[q18,q31 t];exact j
def range_all(bs:List Bool):(List.range bs.length).all (λi=>bs.getD i false)=bs.all id:=by
 induction bs with
 | nil=>rfl
 | cons b bs e =>
   rw[q12,range_succ_eq_map,all_cons,all_map,all_cons,<-e];rfl
inductive ju (K:Frag)(xs:List V)(H:Hp)(Q:VK):Prop|mk(a:Addr)(bs:List Bool):xs=[.ref a]->ah K H a (bs.map V.bl)->Q (.bl (bs.all id)) H->ju K xs H Q
def JM(D:X.calm=true):wZ X (.builtin "all") (ju X.K):=by
 intro J s N H xs S Q I r h;obtain⟨a,bs,rfl,z,q⟩:=h;obtain⟨u,rfl,L⟩:=r.one;cases L;obtain⟨d,m,t,T⟩:=I.list z;have j:=m.length;rw[q06]at j;have g:a<s.heap.objs.size:=by obtain⟨o,n,e,_⟩:=t;exact lt_size e
 refine call_all_walk (wpAny_pyIter_list t.isList ?_);have p:Inv X J N H { s with heap:=s.heap.push { cls:=.type "list_iterator",data:=.fields #[.ref a,.int 0 0] } }:=I.kept (t':=s.toks) λb o e=>q05 _ e;refine⟨s.heap.objs.size,_,_,d.toArray.size,_,_,λi=>bs.getD i false,rfl,Walks.list (by simpa using I.ok.hd D) s.heap.objs.size a (ne_of_lt g) d.toArray,⟨⟨_,get?_push_size _ rfl,rfl,rfl⟩,t.isList.push _⟩,?_,λO R G=>?_⟩
 .intro i v s' Q' E' hP hQ;have:=tJ m (i:=i) (v:=v) (by simpa using hP);subst this;exact wpAny_truthy_bool hQ
 .have f:=I.gA (H':=H) (le_refl _) (I.aO.fresh (le_refl _));refine⟨.bl (bs.all id),H,p.turned (it:=s.heap.objs.size) (λb o C e=>G b o (by simpa using C) e) f.1 f.2.1 f.2.2.2.1 f.2.2.2.2.1 f.2.2.2.2.2,?_,q⟩;rw[q10,<-j,range_all];rfl
def ZD(p:X.calm=true):wZ X (.type "set") (λxs H Q=>∃(a:Addr)(ns:List Int),xs=[.ref a]/\ah X.K H a (ns.map V.int)/\ns.length<4000 /\
 ∀l,H l=none->Q (.ref l) (upd H l (.set (λk=>(firstMet (λi=>ns.getD i 0) ns.length).any (·== k)) (firstMet (λi=>ns.getD i 0) ns.length).length))):=by
 intro O s T H xs R Q I r h;obtain⟨a,ns,rfl,m,N,q⟩:=h;obtain⟨u,rfl,D⟩:=r.one;cases D;obtain⟨j,v,C,S⟩:=I.list m;have z:=v.length;rw[q06]at z;have J:scanBound=4096:=rfl;refine call_set_list (ns:=ns) (I.ok.hd p) C.isList (by simpa using E7 v) (by rw[q10];lia) λL G t g=>?_;have d:j.toArray.size=ns.length:=by rw[q10];lia
 rw[d]at t;refine⟨.ref s.heap.objs.size,_,I.laid (t':=G) (o:=.set _ _) (λb o e=>g b o (lt_size e) e) (le_refl _) t,rfl,q _ (I.aO.fresh (le_refl _))⟩
def call_len_set:wZ X (.builtin "len") (λxs H Q=>∃a S n,xs=[.ref a]/\H a=some (.set S n)/\Q (.int n) H):=by
 intro J s N H xs L Q I r h;obtain⟨a,S,n,rfl,e,q⟩:=h;obtain⟨u,rfl,g⟩:=r.one;cases g;obtain⟨o,D,C,t,p,d,v,_,_,G,j,m⟩:=I.aO a _ e;have z:scanBound=4096:=rfl;refine PySem.call_len_set p d v j (by lia) ⟨.int n,H,I.tok _,⟨s.toks+1,?_⟩,q⟩;rw[m]
end
def ZE(ns:List Int):firstMet (λi=>ns.getD i 0) ns.length=ns.foldl step_dedup []:=by
 unfold firstMet;congr 1;refine ext_getElem (by simp) λi t e=>?_;rw[getElem_map,getElem_range,q18,q31 e];rfl
def tK(e ns:List Int):(ns.foldl step_dedup e).length<=e.length+ns.length:=by
 induction ns generalizing e with
 | nil=>exact le_refl _
 | cons a ns t =>
   rw[foldl_cons];refine q38 (t _) ?_;rw[step_length,q12];split <;> lia
def ZF(t ns:List Int)(d:t.Nodup):(ns.foldl step_dedup t).length=t.length+ns.length↔(t++ns).Nodup:=by
 induction ns generalizing t with
 | nil=>simpa using d
 | cons a ns p =>
   rw[foldl_cons];by_cases h:t.any (·== a)=true
   .have e:step_dedup t a=t:=by unfold step_dedup;rw[q01 h]
    rw[e];have v:a∈t:=by
     obtain⟨x,r,j⟩:=q40.mp h;have:x=a:=by simpa using j
     rw[<-this];exact r
    constructor
    .intro q;have:=tK t ns;rw[q12]at q
     lia
    .intro q;rw[nodup_append]at q;exact q02 rfl (q.2.2 a v a q14)
   .have e:step_dedup t a=t++[a]:=by unfold step_dedup;rw[q00 h]
    have v:a∉t:=λv=>h (q40.mpr ⟨a,v,by simp⟩);have m:(t++[a]).Nodup:=by
     rw[nodup_append];exact⟨d,by simp,λx r y o z=>v (by rw[List.mem_singleton.mp o]at z;rw[<-z];exact r)⟩
    rw[e];have:=p (t++[a]) m;rw[append_assoc,List.singleton_append]at this;rw[<-this,q08,length_singleton,q12]
    lia
def UC(ns:List Int):(firstMet (λi=>ns.getD i 0) ns.length).length=ns.length↔ns.Nodup:=by
 rw[ZE];have:=ZF [] ns nodup_nil
 simpa using this
inductive Cd (t:TS)(D:Ends)(σ:St)(H:Hp):Prop|mk(P:St->Hp->Prop):t { D with nx:=P } σ H->(∀e H',P e H'->D.nx e H')->Cd t D σ H
def NL(t:TS):TS:=λD e H=>Cd t D e H
def q9{t:TS}(h:PS X st t):PS X st (NL t):=by
 intro j s m H D I d;obtain⟨P,v,r⟩:=d;refine aU (h j s m H _ I v) λf p q=>?_;cases f with
 | next=>obtain⟨o,H',e,q⟩:=q;exact⟨o,H',e,r _ _ q⟩
 | brk=>exact q
 | cont=>exact q
 | ret u=>exact q
structure jJ (P:Program) (w:World) (outer:List Env) (H:Hp) (s:Shared) (x:Addr) (cls:Value) (H':Hp) (s':Shared):Prop where
 os:s'.os=s.os
 bare:AllBare s'.gens
 ex:∃B a0,FlyingW B outer x cls a0 s'.heap/\eA P w H' B/\(∀b o,s.heap.get? b=some o->H b=none->b∉cL outer->B.get? b=some o)/\∀b o,s.heap.get? b=some o->b∉cL outer->∃o',B.get? b=some o'
 slot:∀b o,s.heap.get? b=some o->H b=none->b∈cL outer->∃sl,s'.heap.get? b=some { o with slots:=sl }
 free:∀b o,s.heap.get? b=some o->H b=none->H' b=none
 cf:∀b xs,H b=some (.tup xs)->H' b=some (.tup xs)
 bX:∀b o u,H b=some (.kX o u)->H' b=some (.kX o u)
 cg:∀b ps,H b=some (.dj ps)->∃more,H' b=some (.dj (ps++more))
 new:H' x=none
def dM(P:Program)(w:World):qV:=λouter H s E e v=>∃x t H',e=.ref x/\jJ P w outer H s x t H' v/\E t none H'
section
variable {P:Program}{w:World}{outer:List Env}{H H':Hp}{s s':Shared}{x:Addr}{cls:Value}
def bH.obj{H:Hp}{h:Heap}{a:Addr}{o:HO}(x:bH P w H h a o):∃t,h.get? a=some t:=by
 cases o with
 | lst xs=>obtain⟨_,_,_,_,e⟩:=x;exact⟨_,e⟩
 | tup xs=>obtain⟨_,_,_,t,e,_⟩:=x;exact⟨t,e⟩
 | dK v=>obtain⟨_,_,_,_,o,_,_,e,_⟩:=x;exact⟨o,e⟩
 | dT v=>obtain⟨_,_,_,_,o,_,_,e,_⟩:=x;exact⟨o,e⟩
 | set S n=>obtain⟨o,_,_,_,e,_⟩:=x;exact⟨o,e⟩
 | ins C r fs=>obtain⟨_,_,_,e,_⟩:=x;exact⟨_,e⟩
 | own y=>obtain⟨o,e⟩:=x;exact⟨o,e⟩
 | xd fs=>obtain⟨_,⟨o,_,_,e,_⟩,_⟩:=x;exact⟨o,e⟩
 | cY lo d=>obtain⟨_,_,_,e⟩:=x;exact⟨_,e⟩
 | kX t u=>obtain⟨e,_⟩:=x;exact⟨_,e⟩
 | dj ps=>exact⟨_,(show h.get? a=some _ from x)⟩
 | met f y=>exact⟨_,(show h.get? a=some _ from x)⟩
 | ext j=>obtain⟨_,⟨o,e⟩,_⟩:=x;exact⟨o,e⟩
def jJ.un(f:jJ P w outer H s x cls H' s'){B h:Heap}{a0:Value}{l:List Env}(d:eA P w H' B)(k1:∀b o,s.heap.get? b=some o->H b=none->b∉cL outer->B.get? b=some o)(k2:∀b o,s.heap.get? b=some o->b∉cL outer->∃v,B.get? b=some v)
 (st:B.StaysIn h) (sl:∀b o,s.heap.get? b=some o->H b=none->b∈cL outer->∃q,h.get? b=some { o with slots:=q }) (r:∀b∈cL outer,H b=none):Un (cL outer) [] H H' s.heap h where
 keep:=λb o q n t _=>st b o (k1 b o q n t)
 slot:=λb o q n t _=>sl b o q n t
 free:=λb o q n _=>f.free b o q n
 there:=λb o q _=>by
  by_cases t:b∈cL outer
  .obtain⟨z,e⟩:=sl b o q (r b t) t;exact⟨_,e⟩
  .obtain⟨v,e⟩:=k2 b o q t;exact⟨v,st b v e⟩
 cf:=f.cf
 bX:=f.bX
 cg:=f.cg
end
section
variable {X:Cx}{pins:List (Addr×Obj)}{σ:St}{H:Hp}{s:Shared}{b:Addr}{o:Obj}
def Inv.DT(I:Inv X pins σ H s)(v:b∈cL X.stack)(e:s.heap.get? b=some o):∀r,o.data ≠ .fields r:=by
 obtain⟨_,h,t,d⟩:=I.stack.mem v;rw[e]at t;cases t;exact d
def Fj(h:Heap)(l:List Env):Heap:=hideAll h (cL l)
def NM{h:Heap}{l:List Env}(e:h.get? b=some o)(n:b∉cL l):(Fj h l).get? b=some o:=hideAll_get _ e n
def ZG{h:Heap}{l:List Env}(e:(Fj h l).get? b=some o):h.get? b=some o:=of_hideAll _ e
def Inv.AB(I:Inv X pins σ H s):eA X.prog X.w H (Fj s.heap X.stack):=λa o e =>
 (I.aO a o e).dJ (λb u t q=>NM q λz=>by
   have n:=I.gb b z;rcases t with t | t
   .rw[t,e]at n;cases n
   .rw[n]at t;cases t) (λ_ q=>q) λ_ _ q=>q
end
abbrev XW:=St->Value->Hp->Prop
def Fl(X:Cx)(W:XW):Prop:=∀(r:List (Addr×Obj)) (v:St) (H:Hp) (s:Shared) (x:Addr) (e:Value) (H':Hp) (t:Shared),Inv X r v H s->jJ X.prog X.w X.stack H s x e H' t->W v e H'->X.xe (.ref x) t
def Md(X:Cx)(W:XW):Prop:=∀(h:List (Addr×Obj)) (v:St) (H:Hp) (s:Shared) (x:Addr) (e:Value) (r:List Value) (t:Heap),Inv X h v H s->Heap.MadeExcOf s.heap t x e r->W v e H->X.xe (.ref x) { s with heap:=t }
section
variable {P:Program}{w:World}{K:Frag}{mg:Str->Option Value}{base:Heap}{N:List Str}{qual:Str}{scope:Scope}{f:Addr}{cd:Value}{A:Around}{outer:List Env}{s0:Shared}{H0:Hp}{E:XK}
def AD:Fl (gX (dM P w) P w K mg base N qual scope f cd A outer s0 H0 E) λ_ r H'=>E r none H':=by
 intro F c H s x r H' a I v R;obtain⟨B,C,S,Q,U,V⟩:=v.ex;have O:cL (envOfC qual scope s0.heap.objs.size f cd::outer)=s0.heap.objs.size::cL outer:=rfl;have p:∀b o,s0.heap.get? b=some o->b∉cL outer->b∉cL (envOfC qual scope s0.heap.objs.size f cd::outer):=λb o e t=>by
  rw[O];exact λz=>(q27.mp z).elim (λq=>q02 (lt_size e) (by rw[q];exact q37 _)) t
 refine wpAny_leaves_onW (base:=B) (L:=s0.heap.objs.size) I.ok.frames rfl S λY T up=>?_;refine⟨x,r,H',rfl,⟨v.os.trans I.os,v.bare,⟨B,C,T,Q,λb o e n t=>?_,λb o e t=>?_⟩,λb o e n t=>?_,λb o e n=>?_,λb xs e=>v.cf b xs (I.base.cf b xs e),λb o u e=>v.bX b o u (I.base.bX b o u e),λb ps e=>?_,v.new⟩,R⟩
 .exact U b o (I.base.keep b o e n t (by simp[gX])) (I.base.free b o e n (by simp[gX])) (p b o e t)
 .obtain⟨o1,e1⟩:=I.base.there b o e (by simp[gX]);exact V b o1 e1 (p b o e t)
 .obtain⟨sl,e1⟩:=I.base.slot b o e n t (by simp[gX]);obtain⟨Z,h⟩:=v.slot b _ e1 (I.base.free b o e n (by simp[gX])) (q13 _ t);obtain⟨_,m,D,d⟩:=I.ok.cM.mem t;have J:m=o:=by
   have j:s0.heap.get? b=some m:=D;rw[e]at j;exact(q22 j).symm
  subst J;obtain⟨g,G⟩:=up b _ h d;exact⟨g,G⟩
 .obtain⟨o1,e1⟩:=I.base.there b o e (by simp[gX]);exact v.free b o1 e1 (I.base.free b o e n (by simp[gX]))
 .obtain⟨m1,e1⟩:=I.base.cg b ps e;obtain⟨W,h⟩:=v.cg b _ e1;exact⟨m1++W,by rw[h,Array.append_assoc]⟩
def DU:Md (gX (dM P w) P w K mg base N qual scope f cd A outer s0 H0 E) λ_ r H'=>E r none H':=by
 intro Z F H s x r U V I mk O;have G:cL (envOfC qual scope s0.heap.objs.size f cd::outer)=s0.heap.objs.size::cL outer:=rfl;have p:∀b o,s0.heap.get? b=some o->b∉cL outer->b∉cL (envOfC qual scope s0.heap.objs.size f cd::outer):=λb o e v=>by
  rw[G];exact λz=>(q27.mp z).elim (λq=>q02 (lt_size e) (by rw[q];exact q37 _)) v
 have R:s.heap.FunFrames (Fj s.heap (envOfC qual scope s0.heap.objs.size f cd::outer)) (envOfC qual scope s0.heap.objs.size f cd::outer) :=
  PySem.W.funFrames_hide I.stack λenv Q b v=>List.mem_filterMap.mpr ⟨env,Q,v⟩
 have J:eA P w H (Fj s.heap (envOfC qual scope s0.heap.objs.size f cd::outer)):=I.AB;have S:H x=none:=by
  cases q:H x with
  | none=>rfl
  | some o =>
    obtain⟨j,e⟩:=(I.aO x o q).obj;rw[mk.new]at e;cases e
 refine wpAny_leaves_madeW (L:=s0.heap.objs.size) (h:=s.heap) (base:=Fj s.heap (envOfC qual scope s0.heap.objs.size f cd::outer)) I.ok.frames rfl (λb o e=>ZG e) R mk λY t T _ _ up=>?_;refine⟨x,r,H,rfl,⟨I.os,I.bare,⟨_,_,T,J,λb o e n v=>?_,λb o e v=>?_⟩,λb o e n v=>?_,λb o e n=>I.base.free b o e n (by simp[gX]),I.base.cf,I.base.bX,I.base.cg,S⟩,O⟩
 .exact NM (I.base.keep b o e n v (by simp[gX])) (p b o e v)
 .obtain⟨o1,e1⟩:=I.base.there b o e (by simp[gX]);exact⟨o1,NM e1 (p b o e v)⟩
 .obtain⟨sl,e1⟩:=I.base.slot b o e n v (by simp[gX]);obtain⟨_,j,u,d⟩:=I.ok.cM.mem v;have D:j=o:=by
   have m:s0.heap.get? b=some j:=u;rw[e]at m;exact(q22 m).symm
  subst D;obtain⟨g,C⟩:=up b _ (mk.keeps _ _ e1) d;exact⟨g,C⟩
end
abbrev TJ:=St->Hp->Str->(Str->Hp->Prop)->Prop
def PJ(X:Cx)(d:List Expr)(t:TJ):Prop :=
 ∀(h:List (Addr×Obj)) (s:Shared) (e:St) (H:Hp) (r:Str) (Q:Str->Hp->Prop),Inv X h e H s->t e H r Q ->
  wpAny (model X.prog X.w) X.A (joinParts r (evalEach d X.env)) (EP X h e λv H'=>∃y,v=.str y/\Q y H') X.xe s
def NO:TJ:=λ_ H e Q=>e.length<=sizeLine/\Q e H
def G3(te:TE)(t:TJ):TJ:=λv H e Q=>te v H λx r=>∃y,x=.str y/\(e++y).length<=sizeLine/\t v r (e++y) Q
def NP(te:TE):TE:=λt H Q=>te t H λx e=>(∃i,x=.int i/\i.natAbs.log2<1920/\Q (.str (toString i)) e)\/(∃y,x=.str y/\y.length<=sizeLine/\Q (.str y) e)
def G4(t:TJ):TE:=λv H Q=>t v H Str.empty λy e=>Q (.str y) e
section
variable {X:Cx}{e v1 v2:Expr}{es:List Expr}{te:TE}{t:TJ}{pos:Pos}
def JN:PJ X [] NO:=λr s d H v Q I h=>joinParts_nil ⟨.str v,H,I.tok _,⟨_,rfl⟩,v,rfl,h.2⟩ h.1
def yS(he:PE X e te)(p:PJ X es t):PJ X (e::es) (G3 te t):=by
 intro v s r H m Q I h;show wpAny _ _ (joinParts m (eval e X.env::evalEach es X.env)) _ _ s;refine joinParts_cons (aU (he v s r H _ I h) λu C ⟨x,d,j,z,y,o,g,q⟩=>?_);subst o;obtain⟨D,rfl⟩:=z;exact⟨g,p v C r d _ Q j q⟩
def AE(he:PE X e te):PE X (.FormattedValue e (-1) none pos) (NP te):=by
 intro p s z H Q I h;refine FormattedValue_plain (aU (he p s z H _ I h) λu C ⟨x,r,d,j,q⟩=>?_);rcases q with⟨i,v,m,q⟩|⟨y,v,o,q⟩
 .subst v;obtain⟨g,rfl⟩:=j;exact formatField_int_small m ⟨.str (toString i),r,d.tok _,⟨_,rfl⟩,q⟩
 .subst v;obtain⟨g,rfl⟩:=j;exact formatField_str (λD G=>⟨.str y,r,d.tok _,⟨_,rfl⟩,q⟩) o
def JO{ka:List Expr}(h:PJ X (v1::v2::ka) t):PE X (.JoinedStr (v1::v2::ka) pos) (G4 t):=by
 intro j s p H Q I q;exact JoinedStr_many (aU (h j s p H Str.empty _ I q) λu g ⟨x,v,r,o,y,d,m⟩=>⟨x,v,r,o,by subst d;exact m⟩)
end
def NQ{a b:Nat}(e:x.length<=a)(t:y.length<=b):(x++y).length<=a+b:=by rw[strLen_append];lia
def mW:List Value:=[.type "ValueError",.type "Exception",.type "BaseException",.type "object"]
abbrev Ce(K:Frag)(C:Addr):Prop:=excIn K C mW "ValueError.__new__"=true
def zD(K:Frag)(C D:Addr):Bool:=match K.lookup C with
 | some ⟨_,_,.cls cd,_⟩=>cd.mro.contains (.ref D)
 | _=>false
variable {C:Addr}
def NR{h:Heap}(j:K.In h)(q:Ce K C):∃tl N u z bs g I G m o p e t v r d L,
 h.get? C=some (excClassObj u z C N bs tl g I G m o p e t v r d "ValueError.__new__")/\h.Ns N L/\L "__init__"=none/\OwnTail h mW tl/\∀D,(Value.ref C::tl).contains (.ref D)=zD K C D:=by
 unfold Ce excIn at q;split at q
 next p cd sl ho =>
  split at q
  next C' tl e t v r n d em es =>
   simp only[q42,beq_iff_eq,Bool.not_eq_true']at q;obtain⟨⟨⟨⟨⟨T,U⟩,O⟩,V⟩,J⟩,Q⟩:=q;subst T U;have G:∀D,(Value.ref C'::tl).contains (.ref D)=zD K C' D:=λD=>by unfold zD;rw[ho];show _=cd.mro.contains _;rw[em]
   obtain⟨u,bs,Z,ns,z,g,I,S,m,o,Y⟩:=cd;dsimp only at em O J Q;subst em O;obtain⟨l⟩:=sl;have R:l=[e,t,v,r,some (.builtin "ValueError.__new__"),d]:=es;subst R;exact⟨tl,ns,u,z,bs,g,I,S,m,o,p,e,t,v,r,d,_,j _ _ ho,.of_isNs (PySem.W.isNs_of_in j J),PySem.W.nsMap_none_of_in j J Q,PySem.W.tail_of_in j V,G⟩
  next=>cases q
 next=>cases q
section
variable {X:Cx}
def DV(C:Addr)(W:XW)(v:TA):TS:=λ_ e H=>v e H λr t=>r.length<=sizeLine/\W e (.ref C) t
def yh{x:Str}{C:Addr}{W:XW}{k r l:Pos}{e:Expr}{t:List Expr}{m:TA}(Y:X.calm=true)(i:Md X W)(n:Gl X x)(w:X.mg x=some (.ref C))(a:Ce X.K C)(V:PA X (e::t) m)
 (c:(x==("__debug__":Str))=false:=by decide) (he:starEach (e::t) X.env=(false,eval e X.env)::starEach t X.env:=by rfl) (hpl:(backTo r (starEach t X.env)).any (·.1)=false:=by rfl) :
 PS X (.Raise (some (.Call (.Name x k) (e::t) [] r)) none l) (DV C W m):=by
 intro j s p H D I h;obtain⟨tl,N,nm,f,bs,Z,sn,B,ab,Q,dd,z,G,J,L,O,mN,S,U,u,T,_⟩:=NR I.mod.BN a;refine wpAny_Raise_call_subT (C:=C) (bm:=tl) (nm:=nm) (q:=f) (N:=N) (bs:=bs) (hdct:=Z) (sn:=sn) (sub:=B) (ab:=ab) (col:=Q) (dd:=dd) (k0:=z) (k1:=G) (k2:=J) (k3:=L) (k5:=O) PySem.F.excBase_ValueError (mN:=mN) (T.hasType (by decide)) (I.ok.hd Y) (by rw[he];show(false || (backTo r (starEach t X.env)).any (·.1))=false;rw[hpl];rfl) u (Df I n w ⟨rfl,?_⟩ c);have d:=V r j s p H _ I h;rw[he]at d ⊢;refine Calls.evalArgs_plain (aU d λo A ⟨E,g,v,y,b,q⟩=>⟨rfl,by show o.length<=sizeLine;rw[<-y.length];exact b,v.bk _ _ S,U.keeps v.bk,T.keeps v.bk,λR x mk=>?_⟩);exact i j p g A x (.ref C) o R v mk q
end
structure dq (P:Program) (w:World) (K:Frag) (mg:Str->Option Value) (base:Heap) (k:Nat) (x:Str) (ps:List Str) (sp:Sp):Prop where
 ex:∃f fd,ar P w K mg base (dM P w) k f fd ps sp/\mg x=some (.ref f)/\keepIn K (.ref f)=true/\Binds K fd ps []
def dq.of
 (F:aS K x qual st f fd) (G:ar P w K mg base (dM P w) k f fd ps sp) (e:mg x=some (.ref f)) (b:Binds K fd ps []):dq P w K mg base k x ps sp:=⟨f,fd,G,e,F.kp,b⟩
variable {N:List Str}
def aS.ic(F:aS K x qual st f fd)(S:af N ps (zf st))
 (h:∀(X:Cx)(W:XW)(v:Value)(A:Around)(outer:List Env)(s:Shared)(H:Hp)(e:List V)(Q:VK)(E:XK),X=gX (dM P w) P w K mg base N qual (zf st) f v A outer s H E->W=(λ_ r H'=>E r none H')->Fl X W->Md X W->bA k X.A->sp e H Q E ->
   ∃t,kb X (yR st) t/\t { nx:=λ_ H'=>Q .bR H',rt:=Q } (kR N e) H) (len:∀e H Q E,sp e H Q E->e.length=ps.length:=by rintro _ _ _ _ ⟨⟩;subst_vars;rfl):ar P w K mg base (dM P w) (k+1) f fd ps sp:=by
 obtain⟨z,D,kV,g,G,p,v,q,u,rfl,o,j⟩:=F.ex;refine sN o j S len λA outer s H e Q E d m=>?_;exact h _ _ v A outer s H e Q E rfl rfl AD DU d m
def DW(W:XW)(sp:Sp)(t:TA):TE:=λe H Q=>t e H λh v=>sp h v Q λr _ H'=>W e r H'
section
variable {X:Cx}{k:Nat}{x:Str}{ps:List Str}{sp:Sp}{p pos:Pos}{e:Expr}{es:List Expr}{t:TA}{W:XW}
def NS{pins:List (Addr×Obj)}{σ:St}{H:Hp}{s:Shared}{Q:VK}{us:List Value}{vs:List V}{f:Addr}{fd:FuncData}(F:ar X.prog X.w X.K X.mg X.base (dM X.prog X.w) k f fd ps sp)(D:bA k X.A)(g:Binds X.K fd ps [])(q:Fl X W)
 (I:Inv X pins σ H s) (r:Vals vs us) (h:sp vs H Q λd _ H'=>W σ d H'):wpAny (model X.prog X.w) X.A (call (.ref f) us) (EP X pins σ Q) X.xe s:=by
 have z:us.length=ps.length:=by rw[<-r.length];exact F.len _ _ _ _ h
 have j:=g s us I.j0 (by rw[append_nil];exact z);rw[append_nil]at j;refine wpAny_call (codeAny_mono (F.run X.A X.stack s H ⟨us,[]⟩ us vs Q _ D I.Al j r h) λr G v=>?_);cases r with
 | error e =>
   obtain⟨y,d,H',rfl,m,w⟩:=v;exact q pins σ H s y d H' G I m w
 | ok o =>
   cases o with
   | ret u=>exact I.after v
   | next=>exact False.elim v
   | brk=>exact False.elim v
   | cont=>exact False.elim v
def yc(C:dq X.prog X.w X.K X.mg X.base k x ps sp)(d:Fl X W)(z:bA k X.A)(o:Gl X x)(j:PA X (e::es) t)(D:(x==("__debug__":Str))=false:=by decide)(he:starEach (e::es) X.env=(false,eval e X.env)::starEach es X.env:=by rfl)
 (hpl:(backTo pos (starEach es X.env)).any (·.1)=false:=by rfl):PE X (.Call (.Name x p) (e::es) [] pos) (DW W sp t):=by
 obtain⟨f,fd,F,u,g,m⟩:=C.ex;intro G s J H Q I h;refine wpAny_Call_Name_kw (Df I o u ?_ D);refine callWith_K (h₀:=X.base) I.ok.mod.BN g (aU (j pos G s J H _ I h) λR O ⟨S,L,v,r,q⟩=>⟨v.j0,?_⟩) he hpl;exact NS F z m d v r q
end
def Fm(X:Cx)(x:Addr):Cx:={ X with A:=X.A.mark (some (.ref x)),calm:=false,xe:=λ_ _=>False }
section
variable {X:Cx}{pins:List (Addr×Obj)}{σ:St}{H H':Hp}{s s':Shared}{x:Addr}{cls:Value}
def Cx.Ok.gN(ok:X.Ok):(Fm X x).Ok :=
 ⟨ok.mod,ok.kind,ok.glob,ok.blt,ok.above,ok.inj,ok.has,ok.qO,λz=>Bool.noConfusion (show false=true from z),ok.frames,ok.qP,ok.rP,ok.bs,ok.jz,ok.gz,ok.gU,ok.cM,ok.kY⟩
def Inv.gN(I:Inv X pins σ H s):Inv (Fm X x) pins σ H s:=⟨I.ok.gN,I.os,I.bare,I.base,I.loc,I.cell,I.free,I.cI,I.pin,I.aO,I.len⟩
def Inv.ie(ok:X.Ok)(I:Inv (Fm X x) pins σ H s):Inv X pins σ H s:=⟨ok,I.os,I.bare,I.base,I.loc,I.cell,I.free,I.cI,I.pin,I.aO,I.len⟩
def jJ.inv(I:Inv X pins σ H s)(f:jJ X.prog X.w X.stack H s x cls H' s'):Inv X pins σ H' s':=by
 obtain⟨B,a0,t,e,v,r⟩:=f.ex;refine I.BQ (ch:=[]) f.os (f.un (a0:=a0) (l:=X.stack) e v r t.1 f.slot I.gb) (e.kept t.1) f.bare λb z=>nomatch z
def jJ.to(I:Inv X pins σ H s)(f:jJ X.prog X.w X.stack H s x cls H' s'){B h:Heap}{a0:Value}(d:eA X.prog X.w H' B)(k1:∀b o,s.heap.get? b=some o->H b=none->b∉cL X.stack->B.get? b=some o)
 (k2:∀b o,s.heap.get? b=some o->b∉cL X.stack->∃p,B.get? b=some p) (j:FlyingW B X.stack x cls a0 h) (up:s'.heap.UpToSlots h):jJ X.prog X.w X.stack H s x cls H' { s' with heap:=h } :=
 ⟨f.os,f.bare,⟨B,a0,j,d,k1,k2⟩,λb o e n t=>by
  obtain⟨sl,v⟩:=f.slot b o e n t;obtain⟨m,r⟩:=up b _ v (show ∀q,o.data ≠ .fields q from I.DT t e);exact⟨m,r⟩,f.free,f.cf,f.bX,f.cg,f.new⟩
variable {E:Value->Shared->Prop}{Q:Unit->Shared->Prop}
def tL{M:Model}(I:Inv X pins σ H s)(f:jJ X.prog X.w X.stack H s x cls H' s')(e:X.stack=X.env::X.outer)(j:X.env.frame=some X.env.locals)
 (k:∀v,jJ X.prog X.w X.stack H s x cls H' v->Q () v):wpAny M X.A (noteFrame (.ref x) X.env) (λ_ g=>wpAny M X.A (setFlight (.ref x) none) Q E g) E s':=by
 obtain⟨B,z,o,d,p,q⟩:=f.ex;have t:=o;rw[e]at t;refine wpAny_looks_onW (base:=B) (by rw[<-e];exact I.ok.frames) j t λD m u=>?_;refine wpAny_landsW m λG r h=>?_;rw[<-e]at r;exact k _ (f.to I d p q r (u.trans h))
def oX{M:Model}{A:Around}(I:Inv X pins σ H s)(f:jJ X.prog X.w X.stack H s x cls H' s')
 (k:∀e,jJ X.prog X.w X.stack H s x cls H' e->Q () e):wpAny M A (setFlight (.ref x) none) Q E s':=by
 obtain⟨B,m,r,v,d,j⟩:=f.ex;exact lands_againW r λo h t=>k _ (f.to I v d j h t)
def jJ.there(f:jJ X.prog X.w X.stack H s x cls H' s'):∃o,s'.heap.get? x=some o/\o.cls=cls:=by
 obtain⟨B,t,e,_⟩:=f.ex;exact e.there
end
def oY{A:Around}{h:Heap}{g:Array GenState}{d:Drawn}{t:Nat}{os:OsState}{e D:Addr}{m:Obj}{Q:Bool->Shared->Prop}(j:K.In h)(L:Ce K C)(O:Ce K D)
 (he:h.get? e=some m) (I:m.cls=.ref C) (v:Q (zD K C D) ⟨h,g,d,t,os⟩):wpAny M A (excMatches (.ref e) (.ref D)) Q E ⟨h,g,d,t,os⟩:=by
 obtain⟨tl,N,nm,qn,bs,hd,sn,sb,i,P,dd,n,w,a,s,c,mN,z,hN,Y,T,J⟩:=NR j L;obtain⟨p,W,g3,g4,R,V,g5,U,k,g0,S,l,x,y,B,H,g2,r,g1,Z,o,F⟩:=NR j O;have q:(Value.ref D::p).contains (.type "BaseException")=true:=by rw[List.contains_cons,o.hasType (X:= "BaseException") (b:=true) (by decide),Bool.or_true]
 have u:=J D;have f:=tc_notTuple;unfold excMatches
 repeat (first | (with_reducible refine wpAny_loadPart_at he ?_;rw[I]) | with_reducible refine wpAny_loadPart_at r ?_ | (with_reducible refine wpAny_isSubtype_exc r ?_;rw[q]) | (with_reducible refine wpAny_isSubtype_exc z ?_;rw[u]) | wp_step)
 all_goals (cases G:zD K C D <;> (rw[G]at v;first | exact v | (wp_walk;exact v)))
def PH(X:Cx)(hs:List ExceptHandler)(h:Value->TS):Prop :=
 ∀(t:List (Addr×Obj)) (v s:Shared) (r:St) (H H':Hp) (x:Addr) (e:Value) (D:Ends),Inv X t r H v->jJ X.prog X.w X.stack H v x e H' s->h e D r H'->wpAny (model X.prog X.w) X.A (handleBy (.ref x) X.env hs) (SP X t D) X.xe s
def AF:Value->TS:=λ_ _ _ _=>False
def tM{hs:List ExceptHandler}:PH X hs AF:=λ_ _ _ _ _ _ _ _ _ _ _ h=>h.elim
def NT(K:Frag)(v:Addr)(ts:TS)(r:Value->TS):Value->TS:=λe D t H=>∃C,e=.ref C/\Ce K C/\if zD K C v=true then ts D t H else r e D t H
section
variable {X:Cx}{x:Str}{Dx:Addr}{np AG:Pos}{b0:Stmt}{gN:List Stmt}{ka:List ExceptHandler}{ts:TS}{tr:Value->TS}{pins:List (Addr×Obj)}{s:Shared}
def SP.back{D:Ends}{y:Addr}(ok:X.Ok){f:Flow}(h:SP (Fm X y) pins D f s):SP X pins D f s:=by
 cases f with
 | next=>obtain⟨e,H',I,q⟩:=h;exact⟨e,H',I.ie ok,q⟩
 | brk=>obtain⟨e,H',I,q⟩:=h;exact⟨e,H',I.ie ok,q⟩
 | cont=>obtain⟨e,H',I,q⟩:=h;exact⟨e,H',I.ie ok,q⟩
 | ret u=>obtain⟨v,e,H',I,r,q⟩:=h;exact⟨v,e,H',I.ie ok,r,q⟩
def xm(J:Gl X x)(L:X.mg x=some (.ref Dx))(Q:Ce X.K Dx)(hs:∀y,kb (Fm X y) (b0::gN) ts)(O:PH X ka tr)(R:(x==("__debug__":Str))=false:=by decide):
 PH X (.ExceptHandler (some (.Name x np)) none (b0::gN) AG::ka) (NT X.K Dx ts tr):=by
 intro pins U s v H H' y V D I e h;obtain⟨C,rfl,u,h⟩:=h;have r:Inv X pins v H' s:=e.inv I;obtain⟨W,G,T⟩:=e.there;refine wpAny_handleBy_cons (codeAny_handlers_test ?_) (by intro q;cases q);refine Df (X:=Fm X y) r.gN J L ?_ R;refine oY (K:=X.K) (g:=s.gens) (d:=s.drawn) (t:=s.toks) (os:=s.os) r.j0 u Q G T ?_;cases j:zD X.K C Dx with
 | false =>
   rw[j,q00 q23]at h;exact O pins U s v H H' y (.ref C) D I e h
 | true =>
   rw[j,q01 rfl]at h;show codeAny _ _ (.handlers (.ref y) [.ExceptHandler none none (b0::gN) AG] X.env) _ s;refine codeAny_handlers_suite ?_;refine oX I e λm p=>?_;have o:Inv X pins v H' m:=p.inv I;exact wpAny_mono (hs y pins m _ _ D o.gN h) (λf Y S=>SP.back I.ok S) λ_ _ z=>False.elim z
abbrev _root_.L2.Cx.mY(X:Cx)(E:Value->Shared->Prop)(pn:List (Addr×Obj)):Cx:={ X with xe:=E,pn:=pn }
def NU(r:XW->TS)(h:Value->TS):TS:=λD d H=>∃W:XW,r W D d H/\∀v t e,W v t e->h t D v e
variable {E:Value->Shared->Prop}
def Inv.G9{σ:St}{H:Hp}(I:Inv X pins σ H s):Inv (X.mY E (X.pn++pins)) [] σ H s :=
 ⟨⟨I.ok.mod,I.ok.kind,I.ok.glob,I.ok.blt,I.ok.above,I.ok.inj,I.ok.has,I.ok.qO,I.ok.hd,I.ok.frames,I.ok.qP,I.ok.rP,I.ok.bs,I.ok.jz,I.ok.gz,I.ok.gU,I.ok.cM,I.ok.kY⟩,I.os,I.bare,I.base,I.loc,I.cell,I.free,I.cI,λp e=>I.pin p (by simpa using e),I.aO,I.len⟩
def Inv.fA{e:List (Addr×Obj)}{σ:St}{H:Hp}(I:Inv (X.mY E (X.pn++pins)) e σ H s):Inv X pins σ H s :=
 ⟨⟨I.ok.mod,I.ok.kind,I.ok.glob,I.ok.blt,I.ok.above,I.ok.inj,I.ok.has,I.ok.qO,I.ok.hd,I.ok.frames,I.ok.qP,I.ok.rP,I.ok.bs,I.ok.jz,I.ok.gz,I.ok.gU,I.ok.cM,I.ok.kY⟩,I.os,I.bare,I.base,I.loc,I.cell,I.free,I.cI,λp t=>I.pin p (mem_append_left _ t),I.aO,I.len⟩
def DX{body:List Stmt}{j:ExceptHandler}{hs:List ExceptHandler}{S:Pos}{p:XW->TS}{g:Value->TS}(G:X.stack=X.env::X.outer)(Q:X.env.frame=some X.env.locals)
 (O:∀(E:Value->Shared->Prop)(o:List (Addr×Obj)) (W:XW),Fl (X.mY E o) W->kb (X.mY E o) body (p W)) (R:PH X (j::hs) g):PS X (.Try body (j::hs) [] [] S) (NU p g):=by
 intro pins s Z H D I h;obtain⟨W,J,L⟩:=h;refine wpAny_Try_except ?_;refine wpAny_mono (O (λe U=>wpAny (model X.prog X.w) X.A (noteFrame e X.env) (λ_ V=>wpAny (model X.prog X.w) X.A (setFlight e none) (λ_ Y=>wpAny (model X.prog X.w) X.A (handleBy e X.env (j::hs)) (SP X pins D) X.xe Y) X.xe V) X.xe U) (X.pn++pins) W ?_ [] s Z H D I.G9 J) (λf m q=>?_) λe m q=>q
 .intro Cg σ1 H1 m x cls H' s' I1 G5 w1;exact tL (X:=X) (pins:=pins) I1.fA G5 G Q λT z=>R pins m T σ1 H1 H' x cls D I1.fA z (L σ1 cls H' w1)
 .cases f with
  | next=>obtain⟨d,H',t,q⟩:=q;exact wpAny_execs_nil ⟨d,H',t.fA,q⟩
  | brk=>obtain⟨d,H',t,q⟩:=q;exact⟨d,H',t.fA,q⟩
  | cont=>obtain⟨d,H',t,q⟩:=q;exact⟨d,H',t.fA,q⟩
  | ret u=>obtain⟨v,d,H',t,r,q⟩:=q;exact⟨v,d,H',t.fA,r,q⟩
end
def mZ:Fl X λ_ _ _=>False:=λ_ _ _ _ _ _ _ _ _ _ h=>h.elim
abbrev aX(K:Frag)(x:Str)(C:Addr):Prop:=nsIn K mainGlobals x=some (some (.ref C))
def aX.inj{D:Addr}(a:aX K x C)(b:aX K x D):C=D:=by
 have:=a.symm.trans b;cases this;rfl
section
variable {X:Cx}{K:Frag}
def UG(h:X.K=K):E8 X (GH K):=by subst h;exact zr
def NW(h:X.K=K):E8 X (GI K):=by subst h;exact qW
def oZ(h:X.K=K):E9 X "list.index" (tu K):=by subst h;exact DP
def ZK(h:X.K=K):wZ X (.builtin "len") (bT K):=by subst h;exact Uk
def tO{t l:Expr}{tl:TE}(h:X.K=K)(e:PE X l tl):PI X t l (BV K tl):=by subst h;exact zz e
def DY{o e:Expr}{v:List Expr}{to:TE}{t:TA}{name:Str}{m d:Pos}{T j:String}{r:V->List V->Hp->VK->Prop}(h:X.K=K)(J:PlainAttrs T)(slot:Slot T name j)(q:typeOf (.builtin j)=pure (.type "method_descriptor"))(u:DA X j r)(z:PE X o to)(g:PA X (e::v) t)
 (D:attributeBase o name X.env (eval o X.env)=eval o X.env:=by rfl)
 (p:((backTo d (starEach (e::v) X.env)).all (λx => !x.1) && (backToKw d (keywordEach [] X.env)).all (λx=>x.1.isSome)
   && decide ((e::v).length+([]:List Keyword).length+(if([]:List Keyword).isEmpty then 0 else 1)<30))=true:=by rfl)
 (G:(m.endLine==d.line)=true:=by rfl) (hs:starEach (e::v) X.env=(false,eval e X.env)::starEach v X.env:=by rfl) (I:(backTo d (starEach v X.env)).any (·.1)=false:=by rfl) :
 PE X (.Call (.Attribute o name m) (e::v) [] d) (Ul K T r to t):=by subst h;exact yD J slot q u z g D p G hs I
end
def wn(h:b=true)(k:A):if b=true then A else B:=by rw[q01 h];exact k
def zt(h:b=false)(k:B):if b=true then A else B:=by rw[h,q00 q23];exact k
section
variable {α:Type} [DecidableEq α]
def o6(e:List α)(v:α):List α:=if v∈e then e else e++[v]
def met(val:Nat->α)(i:Nat):List α:=((List.range i).map val).foldl o6 []
def NX(val:Nat->α)(i:Nat):met val (i+1)=o6 (met val i) (val i):=by
 unfold met;rw[range_succ,q07,List.foldl_append];rfl
def NY{t:List α}{v k:α}:k∈o6 t v↔k∈t\/k=v:=by
 unfold o6;split
 .rename_i h;exact⟨.inl,λz=>z.elim id λe=>by rw[e];exact h⟩
 .rw[mem_append,mem_singleton]
def NZ(e:List α)(v:α):(o6 e v).length=if decide (v∈e)=true then e.length else e.length+1:=by
 unfold o6;by_cases h:v∈e
 .rw[q01 h,q19 h,q01 rfl]
 .rw[q00 h,q20 h,q00 (by decide),q08];rfl
def m8(val:Nat->α):∀i,(met val i).length<=i
 | 0=>le_refl _
 | i+1=>by
   rw[NX,NZ];have:=m8 val i;split <;> lia
def tP(ts:List α)(d:α):met (λi=>ts.getD i d) ts.length=ts.foldl o6 []:=by
 unfold met;congr 1;refine ext_getElem (by simp) λi t e=>?_;rw[getElem_map,getElem_range,q18,q31 e];rfl
def ZL(e ts:List α):(ts.foldl o6 e).length<=e.length+ts.length:=by
 induction ts generalizing e with
 | nil=>exact le_refl _
 | cons a ts t =>
   rw[foldl_cons];refine q38 (t _) ?_;rw[NZ,q12];split <;> lia
def ZM(t ts:List α)(v:t.Nodup):(ts.foldl o6 t).length=t.length+ts.length↔(t++ts).Nodup:=by
 induction ts generalizing t with
 | nil=>simpa using v
 | cons a ts m =>
   rw[foldl_cons];by_cases h:a∈t
   .have e:o6 t a=t:=by unfold o6;rw[q01 h]
    rw[e];constructor
    .intro q;have:=ZL t ts;rw[q12]at q
     lia
    .intro q;rw[nodup_append]at q;exact q02 rfl (q.2.2 a h a q14)
   .have e:o6 t a=t++[a]:=by unfold o6;rw[q00 h]
    have r:(t++[a]).Nodup:=by
     rw[nodup_append];exact⟨v,by simp,λx d y j z=>h (by rw[List.mem_singleton.mp j]at z;rw[<-z];exact d)⟩
    rw[e];have:=m (t++[a]) r;rw[append_assoc,List.singleton_append]at this;rw[<-this,q08,length_singleton,q12]
    lia
def UH(ts:List α)(d:α):(met (λi=>ts.getD i d) ts.length).length=ts.length↔ts.Nodup:=by
 rw[tP];have:=ZM [] ts nodup_nil
 simpa using this
end
section
variable {prog:Program}{w:World}{A:Around}{R:Result->Shared->Prop}{it:Addr}{fp wr:List Addr}{G:Array GenState->Array GenState->Prop}{n:Nat}{P:Nat->Value->Prop}{St:Nat->Shared->Prop}{α:Type} [DecidableEq α] {knd:KeyKind prog w α}
def UI{h h':Heap}{a:Addr}{S:α->Bool}{m:Nat}(x:h.SetOf knd a S m)(k:∀o,h.get? a=some o->h'.get? a=some o):h'.SetOf knd a S m:=by
 obtain⟨o,v,e,t,d,r⟩:=x;exact⟨o,v,e,t,k _ d,r⟩
def UJ{h:Heap}{a:Addr}{S t:α->Bool}{m v:Nat}(x:h.SetOf knd a S m)(e:S=t)(r:m=v):h.SetOf knd a t v:=by subst e;subst r;exact x
def tQ(W:WalksS prog w A.in1 it fp wr G n P St)(S:Addr)(u:S∉fp)(val:Nat->α)(T:∀i v,P i v->knd.is (val i) v=true/\v.scannable=true)(d:n+1<scanBound):
 ∀(k i:Nat)(s:Shared),k+i=n->St i s->s.heap.SetOf knd S (λx=>decide (x∈met val i)) (met val i).length ->
  (∀t,Moved (S::wr) G s t->t.heap.SetOf knd S (λx=>decide (x∈met val n)) (met val n).length->R (.ok (.ret .none)) t) ->
  codeAny (model prog w) A (.builtin "set.update.loop" ⟨[.ref S,.ref it],[]⟩) R s:=by
 have D:S∉wr:=λz=>u (W.sub _ z);intro k
 induction k with
 | zero =>
   intro i s p st q j;rw[Nat.zero_add]at p;subst p;refine codeAny_builtin F.entry_set_update_loop ?_;rw[Around.under_plainId F.plain_set_update_loop _];refine q03 (W.done s _ _ st λt r=>?_);exact q04 (j t (r.mono λb z=>q13 _ z) (UI q λo e=>r.heap S o D e))
 | succ k U =>
   intro i s p st q j;refine codeAny_builtin F.entry_set_update_loop ?_;rw[Around.under_plainId F.plain_set_update_loop _];refine q03 (W.item i s _ _ (by lia) st λv t Q Y r=>?_);obtain⟨I,a⟩:=T i v Q;have c:=UI q λo e=>r.heap S o D e;refine q03 (m:=holding [v] (setAdd S v)) (wpAny_holding ?_);unfold setAdd;refine wpAny_holding (q03 (knd.pyHash I ?_));refine wpAny_setAddHashed_of (knd:=knd) (s:={ t with toks:=t.toks+1 }) I a c (by have:=m8 val i;lia) λO g Z=>?_;have L:O.SetOf knd S (λx=>decide (x∈met val (i+1))) (met val (i+1)).length:=by
    refine UJ Z (funext λx=>?_) ?_
    .rw[NX];by_cases h:x∈met val i
     .rw[q19 h,q19 (NY.mpr (.inl h)),Bool.true_or]
     .by_cases h2:x=val i
      .rw[q19 h2,q19 (NY.mpr (.inr h2)),Bool.or_true]
      .rw[q20 h,q20 h2,q20 λz=>(NY.mp z).elim h h2];rfl
    .rw[NX,NZ]
   refine q04 ⟨plainId_quiet F.plain_set_update_loop _,U (i+1) _ (by lia) (W.frame _ t _ _ Y (le_succ _) λb d o e=>?_) L λV J=>j V ?_⟩
   .rw[g.2 b λz=>u (by rw[<-z];exact d)];exact e
   .refine Moved.trans W.gtrans ((r.mono λb z=>q13 _ z).then_heap (le_succ _) λb o d e=>?_) J;rw[g.2 b λz=>d (by rw[z];exact q14)];exact e
end
section
variable {prog:Program}{w:World}{A:Around}{E:Value->Shared->Prop}{s:Shared}{α:Type} [DecidableEq α] {knd:KeyKind prog w α}
def Filled(knd:KeyKind prog w α)(s:Shared)(t:List α)(v:Shared):Prop :=
 ∃(e:Heap)(r:Nat),v={ s with heap:=e,toks:=r }/\e.SetOf knd s.heap.objs.size (λk=>decide (k∈t)) t.length/\∀b o,b<s.heap.objs.size->s.heap.get? b=some o->e.get? b=some o
set_option maxHeartbeats 3200000 in
theorem ZO{l:Addr}{t:Array Value}{val:Nat->α}{Q:Value->Shared->Prop}(f:A.handled=none)(J:s.heap.IsList l t)(x:∀i v,t[i]? = some v->knd.is (val i) v=true/\v.scannable=true)(j:t.size+1<scanBound)
 (h:∀O,Filled knd s (met val t.size) O->Q (.ref s.heap.objs.size) O):wpAny (model prog w) A (call (.type "set") [.ref l]) Q E s:=by
 have G:l<s.heap.objs.size:=by obtain⟨o,e,_⟩:=J;exact lt_size e
 obtain⟨c,tl,N⟩:=F.called_set.mro;have H:=F.called_set.made;have o7:=F.called_set.sub;refine wpAny_call (codeAny_of_tree ?_);show wpAny _ _ (callAny (.type "set") _) _ _ _;refine q04 ⟨Code.quiet_builtin _ (by decide +kernel),codeAny_builtin F.entry_type_call ?_⟩;rw[Around.under_plain (weight_type_call_type "set" [.ref l] []) rfl];have P:=F.called_set.notType;have h2:=F.called_set.canCreate;have h3:=F.typeCall_set_1 (.ref l)
 repeat (any_goals (first | assumption | wp_step))
 refine codeAny_mono (code_set_new_1 (.ref l) (E:=E) (Q₁:=λv S=>∃d:Bool,v=.ref s.heap.objs.size/\S={ s with heap:=s.heap.push { cls:=.type "set",dict:=none,data:=.set #[] 0 (.fresh 0 0 d) } }) λd=>⟨d,rfl,rfl⟩) λr S u=>?_;rcases r with e | n
 .exact u
 cases n with
 | ret v =>
   obtain⟨d,rfl,rfl⟩:=u;generalize q:({ cls:=.type "set",dict:=none,data:=.set #[] 0 (.fresh 0 0 d) }:Obj)=p;have I:(s.heap.push p).get? s.heap.objs.size=some p:=get?_push_size _ (by rw[<-q];rfl);have a:Shared.TypeIs { s with heap:=s.heap.push p } (.ref s.heap.objs.size) "set":=⟨_,I,by rw[<-q]⟩;have h4:=F.called_set.init.lookup;have h5:=F.called_set.init.bind (.ref s.heap.objs.size)
   repeat (any_goals (first | assumption | wp_step))
   refine codeAny_mono (codeAny_call_builtin (R:=wants (λr T=>r=.none/\Filled knd s (met val t.size) T) E) F.called_set.init.plain F.entry_set_init (check_set_init_1 a ?_)) λy T g=>?_
   .have du:(s.heap.push p).IsList l t:=J.push _;obtain⟨⟨X,K,M,C⟩,g0,L,nl,D⟩:=id du;simp only at L D;subst L D;have h6:=F.sub_list_set;have h7:=F.sub_list_frozenset;have h8:(Value.type "list" == Value.type "dict")=false:=by decide
    subst q;unfold Builtin.«set.__init__» noKeywords Builtin.Frozenset.updateFrom;generalize U:pyIter=PI
    wp_walk
    subst U;refine wpAny_pyIter_list du (q03 (wpAny_runValue ?_));have z:(s.heap.push { cls:=.type "set",dict:=none,data:=.set #[] 0 (.fresh 0 0 d) }).objs.size=s.heap.objs.size+1:=size_push ..;refine tQ (knd:=knd) ((Walks.list (by simp[f]) _ l (by rw[z];exact ne_of_lt (lt_succ_of_lt G)) t).toS) s.heap.objs.size ?_ val x j t.size 0 _ rfl ⟨⟨_,get?_push_size _ rfl,rfl,rfl⟩,du.push _⟩ ?_ λB m V=>?_
    .rw[z];simp only[q27,not_mem_nil,or_false,not_or];exact⟨ne_of_lt (lt_succ_self _),ne_of_gt G⟩
    .exact UJ ((setObjOf_fresh (knd:=knd) d).setOf (q05 _ I) (by unfold scanBound;lia)) rfl rfl
    .obtain⟨h',g',d',N4,GB⟩:=B;have Y:g'=s.gens:=m.gens;have W:d'=s.drawn:=m.drawn;have Z:GB=s.os:=m.os;subst Y W Z;refine q04 (show wpAny _ _ (ret Value.none) _ _ _ from q04 ⟨rfl,h',N4,rfl,V,λb o j e=>?_⟩);refine m.heap b o ?_ (q05 _ (q05 _ e));rw[z];simp only[q27,not_mem_nil,or_false,not_or];exact⟨ne_of_lt j,ne_of_lt (lt_succ_of_lt j)⟩
   .rcases y with e | ZT
    .exact g
    cases ZT with
    | ret r =>
      obtain⟨rfl,k⟩:=g
      repeat (any_goals (first | assumption | wp_step))
      exact h _ k
    | _=>exact g.elim
 | _=>exact u.elim
end
section
variable {X:Cx}
inductive iE (x y:V)(H:Hp)(Q:VK):Prop|mk(i:_)(j:_):x=.str i->y=.str j->Q (.bl (!decide (j.cps.toList<i.cps.toList))) H->iE x y H Q
def JP:eN X (compareOp .LtE) iE:=by
 intro d s o H x y v u Q I e r h;obtain⟨i,j,rfl,rfl,q⟩:=h;obtain⟨t,rfl⟩:=e;obtain⟨m,rfl⟩:=r;exact PySem.P.le_str (zT I q rfl)
inductive Cj (x:V)(t e:Option Int)(H:Hp)(Q:VK):Prop|mk(z:_):x=.str z->z.length<=sizeLine->Q (.str (PySem.Txt.slice z t e)) H->Cj x t e H Q
def N5:V->Option Int->Option Int->Hp->VK->Prop:=λx t e H Q=>Cj x t e H Q
def nc{v:Value}{o:Option Int}(h:IsPart v o):∃p:Option (Int×Tok),v=partValue p/\p.map (·.1)=o:=by
 cases h with
 | none=>exact⟨none,rfl,rfl⟩
 | int i t=>exact⟨some (i,t),rfl,rfl⟩
def tS:Nf X N5:=by
 intro D s L H x v G J g p sl Q I m e d j h;obtain⟨z,rfl,r,q⟩:=h;obtain⟨t,rfl⟩:=m;obtain⟨l,rfl,rfl⟩:=nc d;obtain⟨u,rfl,rfl⟩:=nc j;refine⟨"str",_,PySem.F.slot_str_getitem.lookup,typeIs_str _ _ _,wpAny_getItem_str_slice (l:=l) (u:=u) (st:=none) e rfl (post_val_or_str ⟨q38 (PySem.Txt.slice_le z _ _) r,λo k=>?_⟩)⟩;exact⟨.str (PySem.Txt.slice z _ _),H,I.tok _,⟨o,rfl⟩,q⟩
def N6(z:Str):It:=⟨λi _=>i<z.length,λi H x H'=>H'=H/\∃c,z.cps[i]? = some c/\x=.str ⟨#[c]⟩,λi _=>i=z.length⟩
def UN{P:Program}{w:World}{K:Frag}{N:Expr}(it:Addr)(T:String)(z:Str)(t:Tok)
 (C : ["enumerate","zip","dict_itemiterator","dict_reverseitemiterator","odict_iterator","itertools.zip_longest","itertools.pairwise"].contains T=false)
 (W:∀A:Around,A.handled=none->Walks P w A it [it] [it] z.cps.size (SignAt z) (λi h=>h.IsStrIter it T z t i))
 (f:∀(A:Around)(i:Nat)(s:Shared)(Q:Value->Shared->Prop)(E:Value->Shared->Prop),s.heap.IsStrIter it T z t i->Q (.ref it) s->wpAny (model P w) A (pyIter (.ref it)) Q E s) :
 Turn P w K N (N6 z) [it] it (λi h=>h.IsStrIter it T z t i) where
 mem:=by simp
 obj:=λi h st b j=>by
  have e:b=it:=by simpa using j
  subst e;obtain⟨o,e,c,d⟩:=st;exact⟨o,e,λv z=>by rw[d]at z;cases z⟩
 keep:=λi h p st k=>by obtain⟨o,e,r⟩:=st;exact⟨o,k it (by simp) o e,r⟩
 item:=by
  intro X R U O S i F s a H E I q st m;subst R U O;obtain⟨g,D,B,G,J,L⟩:=q it (by simp);refine(W X.A (I.ok.hd S)).item i s _ _ m st λv p Y M Z V=>?_;obtain⟨c,u,y,rfl⟩:=M;have l:Inv X F a H { s with heap:=p,toks:=Y }:=I.turned (λb o j e=>V b o (by simpa using j) e) g D G J L;obtain⟨o,e,x,d⟩:=id Z;exact⟨_,rfl,sh (s:={ s with heap:=p,toks:=Y }) (n:=T) e x d C ⟨.str ⟨#[c]⟩,H,l,⟨u,rfl⟩,⟨rfl,c,y,rfl⟩,Z,λb j=>(q b j).1⟩⟩
 done:=by
  intro X R U O S i F s a H E I q st m;subst R U O;obtain⟨g,D,B,G,J,L⟩:=q it (by simp);have m:i=z.cps.size:=m;subst m;exact(W X.A (I.ok.hd S)).done s _ _ st λp Y V=>⟨rfl,I.turned (λb o j e=>V b o (by simpa using j) e) g D G J L⟩
 self:=λA i s Q E st h=>f A i s Q E st h
inductive Ck (x:V)(e:Hp)(R:It->Hp->Prop):Prop|mk(z:_):x=.str z->R (N6 z) e->Ck x e R
def N7(tl:TE):TI:=λt H R=>tl t H λx e=>Ck x e R
def tT{U l:Expr}{tl:TE}(O:PE X l tl):PI X U l (N7 tl):=by
 intro p s J H R I h;refine aU (O p s J H _ I h) λv r ⟨x,d,j,T,S⟩=>?_;obtain⟨z,e,q⟩:=S;subst e;obtain⟨t,rfl⟩:=T;have D:∀b ∈ [r.heap.objs.size],fL X p d b:=λb L=>by
  have e:b=r.heap.objs.size:=by simpa using L
  subst e;exact j.gA (le_refl _) (j.aO.fresh (le_refl _))
 have G:∀o:Obj,Inv X p J d { r with heap:=r.heap.push o }:=λo=>j.kept (t':=r.toks) λb u e=>q05 _ e;cases g:z.cps.all (·< 128)
 .refine wpAny_pyIter_wide g ⟨r.heap.objs.size,[r.heap.objs.size],_,_,d,rfl,G _,UN _ "str_iterator" z t (by decide) (λA m=>Walks.strWide m _ z t) (λA i s Q E st h=>wpAny_pyIter_striter_wide st h),⟨_,get?_push_size _ rfl,rfl,rfl⟩,D,q⟩
 .refine wpAny_pyIter_ascii g ⟨r.heap.objs.size,[r.heap.objs.size],_,_,d,rfl,G _,UN _ "str_ascii_iterator" z t (by decide) (λA m=>Walks.strAscii m _ z t) (λA i s Q E st h=>wpAny_pyIter_striter_ascii st h),⟨_,get?_push_size _ rfl,rfl,rfl⟩,D,q⟩
def UO{z:Str}{c:St}{te:TE}{H:Hp}{fin:List V->Hp->Prop}(v:Nat->List V->Hp->Prop)(q:v 0 [] H)(u:∀i t H,i<=z.length->v i t H->t.length<=i)(I:z.length<=sizeLine)
 (hs:∀i d t H,z.cps.toList[i]? = some d->v i t H->te (some (.str ⟨#[d]⟩)::c) H λy h=>v (i+1) (t++[y]) h) (hd:∀t H,v z.length t H->fin t H):dD (N6 z) c xh te H fin:=by
 refine⟨λi m t H=>m=z.length-i/\i<=z.length/\v i t H,⟨z.length,by simp,zero_le _,q⟩,?_⟩;rintro i m t H ⟨rfl,g,p⟩;have G:=u i t H g p;by_cases r:i<z.length
 .refine .inr ⟨r,by lia,v (i+1),λJ H' D=>⟨_,by lia,rfl,r,D⟩,λx H' y=>?_⟩;obtain⟨e,d,j,o⟩:=y;subst e o;exact qX (B:=v (i+1) t H') (hs i d t _ (by rw[Array.getElem?_toList];exact j) p)
 .have e:i=z.length:=by lia
  subst e;exact .inl ⟨rfl,by lia,hd t H p⟩
variable {ts:List Str}{i:Nat}
def tU{us:List Value}(r:Vals (ts.map V.str) us){v:Value}(h:us[i]? = some v)(d:Str):∃t,v=.str (ts.getD i d) t:=by
 have m:=r.length;rw[q06]at m;have j:i<ts.length:=by rw[m];exact(q45.mp h).1
 obtain⟨u,e,o⟩:=r.get (i:=i) (x:=.str ts[i]) (by rw[q26,q31 j];rfl);rw[e]at h;cases h;obtain⟨t,rfl⟩:=o;exact⟨t,by rw[q18,q31 j];rfl⟩
def tV(K:Frag)(te:TE):TE:=λt H Q=>te t H λx e=>∃(a:Addr)(ts:List Str),x=.ref a/\ah K e a (ts.map V.str)/\ts.length<4000/\Q (.int (met (λi=>ts.getD i "") ts.length).length) e
def lK{e:Expr}{te:TE}{p d J r:Pos}(Z:X.calm=true)(k:Gl X "len")(y:X.mg "len"=none)(R:Gl X "set")(S:X.mg "set"=none)(he:PE X e te)
 (u:starEach [.Call (.Name "set" d) [e] [] r] X.env=[(false,eval (.Call (.Name "set" d) [e] [] r) X.env)]:=by rfl) (z:starEach [e] X.env=[(false,eval e X.env)]:=by rfl) :
 PE X (.Call (.Name "len" p) [.Call (.Name "set" d) [e] [] r] [] J) (tV X.K te):=by
 intro G s O H g0 I h;refine wpAny_Call_Name_kw (vZ I k y PySem.boot_len ?_);refine callWith_builtin1 ?_ u rfl;rw[u];show wpAny _ _ (spliced ((false,eval (.Call (.Name "set" d) [e] [] r) X.env)::backTo J [])) _ _ s;refine Calls.spliced_cons ?_;refine wpAny_Call_Name_kw (vZ I R S boot_set ?_);refine callWith_type1 ?_ z rfl;rw[z];show wpAny _ _ (spliced ((false,eval e X.env)::backTo r [])) _ _ s;refine Calls.spliced_cons (aU (he G s O H _ I h) λv P ⟨x,g,j,N,M⟩=>?_);obtain⟨a,ts,rfl,Y,hz,q⟩:=M;cases N;obtain⟨U,L,E,JQ⟩:=j.list Y;have f:=L.length;rw[q06]at f;have Ay:scanBound=4096:=rfl;refine Calls.spliced_nil ?_;refine ZO (knd:=strKind X.prog X.w) (val:=λi=>ts.getD i "") (j.ok.hd Z) E.isList (λi v C=>?_) (by rw[q10];lia) λs2 ⟨W,m,V,D,l⟩=>?_
 .obtain⟨t,rfl⟩:=tU L (i:=i) (v:=v) (by simpa using C) "";exact⟨beq_self_eq_true _,rfl⟩
 subst V;have Q:Inv X G O g { P with heap:=W,toks:=m }:=j.kept (t':=m) λb o e=>l b o (lt_size e) e;refine Calls.spliced_nil ?_;have T:U.toArray.size=ts.length:=by rw[q10];lia
 rw[T]at D;obtain⟨o,es,ep,t,B,n,F,_,_,g1,c,A⟩:=D;refine PySem.call_len_set B n F c (by lia) ⟨.int (met (λi=>ts.getD i "") ts.length).length,g,Q.tok _,⟨m+1,?_⟩,q⟩;rw[A]
def JR(h:i<ts.length):(ts.map V.str)[i]? = some (.str (ts.getD i "")):=by
 rw[q26,q31 h,q18,q31 h];rfl
def Ha{i:Int}(e:0<=i)(h:i<ts.length):fN (ts.map V.str) i=some (.str (ts.getD i.toNat "")):=tE e (JR (by lia))
def Oa(ts:List Str):(ts.map V.str).all wM=true:=by
 rw[all_map];exact q39.mpr λ_ _=>rfl
def Ob(ts:List Str)(c:Str):mR (.str c) (ts.map V.str)=decide (c∈ts):=by
 unfold mR
 induction ts with
 | nil=>rfl
 | cons a ts t =>
   rw[map_cons,any_cons,t];show((a==c) || _)=_;by_cases h:a=c
   .subst h;simp
   .have:¬c=a:=λe=>h e.symm;simp[h,this]
def DZ{x:V}(e:(ts.map V.str)[i]? = some x):i<ts.length/\x=.str (ts.getD i ""):=by
 have t:i<ts.length:=by have:=(q45.mp e).1;rwa [q06]at this
 refine⟨t,?_⟩;rw[JR t]at e;exact(q22 e).symm
def yz(e:i<ts.length):ts.take (i+1)=ts.take i++[ts.getD i ""]:=by
 rw[take_succ,q31 e,q18,q31 e];rfl
def wu(e:i<ts.length):ts.getD i "" ∈ ts:=by
 rw[q18,q31 e];exact q44 e
def tW{H:Hp}{l:Addr}(ts:List Str)(x:Str):upd H l (.lst (ts.map V.str++[V.str x])) l=some (.lst ((ts++[x]).map V.str)):=zd.trans (congrArg (λl=>some (HO.lst l)) (by rw[q07];rfl))
def zw(x y:Str):(x++y).length=x.length+y.length:=by
 show(x.cps++y.cps).size=x.cps.size+y.cps.size;exact Array.size_append
abbrev tX:Str:= "abcdefghijklmnopqrstuvwxyz"
def kU(c:Nat):Bool:=decide (97<=c) && decide (c<=122)
def UP(ns:List Int):∀i,i<=ns.length->preSum (λi=>ns.getD i 0) i=(ns.take i).sum
 | 0,_=>by simp[preSum]
 | i+1,h=>by
   rw[yX (by lia),List.sum_append,<-UP ns i (by lia)];simp[preSum]
inductive jv (K:Frag)(xs:List V)(H:Hp)(Q:VK):Prop|mk(a:Addr)(ns:List Int):xs=[.ref a]->ah K H a (ns.map V.int)->Q (.int ns.sum) H->jv K xs H Q
def Hc(S:X.calm=true):wZ X (.builtin "sum") (jv X.K):=by
 intro T s W H xs Y Q I r h;obtain⟨a,ns,rfl,R,q⟩:=h;obtain⟨u,rfl,U⟩:=r.one;cases U;obtain⟨m,z,j,Z⟩:=I.list R;have g:=z.length;rw[q06]at g;have p:a<s.heap.objs.size:=by obtain⟨o,n,e,_⟩:=j;exact lt_size e
 refine call_sum_walkAnyS (wpAny_pyIter_list j.isList ?_);have D:Inv X T W H { s with heap:=s.heap.push { cls:=.type "list_iterator",data:=.fields #[.ref a,.int 0 0] } }:=I.kept (t':=s.toks) λb o e=>q05 _ e;refine⟨s.heap.objs.size,_,_,_,m.toArray.size,_,_,λi=>ns.getD i 0,rfl,(Walks.list (by simpa using I.ok.hd S) s.heap.objs.size a (ne_of_lt p) m.toArray).toS,⟨⟨_,get?_push_size _ rfl,rfl,rfl⟩,j.isList.push _⟩,?_,?_,λV t' d=>?_⟩
 .intro b t;rw[size_push];simp only[q27,not_mem_nil,or_false]at t;rcases t with rfl | rfl
  .exact lt_succ_self _
  .exact lt_succ_of_lt p
 .intro i v hP;exact IntsAre.int_at (E7 z) i v (by simpa using hP)
 .obtain⟨h',g',d',N4,GB⟩:=V;have L:g'=s.gens:=d.gens;have J:d'=s.drawn:=d.drawn;have O:GB=s.os:=d.os;subst L J O;have f:=I.gA (H':=H) (le_refl _) (I.aO.fresh (le_refl _));have G:=D.turned (t':=N4) (h':=h') (it:=s.heap.objs.size) (λb o t e=>d.heap b o (by simpa using t) e) f.1 f.2.1 f.2.2.2.1 f.2.2.2.2.1 f.2.2.2.2.2;refine⟨.int ns.sum,H,G,⟨t',?_⟩,q⟩;rw[q10,<-g,UP ns _ (le_refl _),q15]
end
def Cm(X:Cx)(x:Str)(N:List Str)(scope:Scope)(cl:List (Str×Addr))(t:Addr)(C:Addr)(r:Shared)(e:Hp)(v:List Addr):Cx where
 prog:=X.prog
 w:=X.w
 K:=X.K
 mg:=X.mg
 base:=X.base
 A:=X.A
 N:=N
 s₀:=r
 H₀:=e
 env:=compEnvC scope ((x,t)::cl) C X.env
 outer:=X.stack
 stack:=X.stack
 ex:=v
 fn:=λy=>y==x
 calm:=X.calm
 pn:=[]
 xe:=λ_ _=>False
structure bK (sc:Scope) (N:List Str) (x:Str) (fr:List Str) (ix:List Nat) (scope:Scope):Prop where
 kind:scope.kind=.function
 one:∀a acc,cellsFrom a scope.names acc=(x,a)::acc
 push:∀h:Heap,pushCells h scope.names=h.push { cls:=.type "cell",data:=.cell none }
 cells:∀y∈scope.names,y.2=.cell->y.1=x
 lD:∀y∈scope.names,y.2=.local->scope.names.lookup y.1=some .local
 lx:scope.names.lookup x=some .cell
 free:∀y∈scope.names,y.2=.free->sc.names.lookup y.1=some .cell\/sc.names.lookup y.1=some .free
 at':fr.map some=ix.map λi=>N[i]?
 sZ:∀y∈fr,scope.names.lookup y=some .free/\(sc.names.lookup y=some .cell\/sc.names.lookup y=some .free)
 nd:(x::fr).Nodup
def UQ(h:scope.names.lookup y=some .cell\/scope.names.lookup y=some .free):(relabel scope env).names.lookup y=some .cell\/(relabel scope env).names.lookup y=some .free:=by
 rcases h with h | h
 .left;rw[GV,JH (GU env) h,JI env y .cell (by decide)]
 .exact Nu h
variable {fr:List Str}
def aj.under{t:Scope}(S:aj t N x fr ix scope):aj (relabel t env) N x fr ix scope :=
 ⟨S.kind,S.cu,S.lD,S.lx,λy e v=>UQ (S.free y e v),S.at',λy e=>⟨(S.sZ y e).1,UQ (S.sZ y e).2⟩,S.nd⟩
def ZV(d:∀z∈scope.names,z.2=.cell->z.1=x)(h:(relabel scope env).names.lookup y=some .cell\/(relabel scope env).names.lookup y=some .free):(y,NameKind.free)∈scope.names\/y=x:=by
 rw[GV]at h;have v:∀k,(k=.cell\/k=.free)->(scope.names.map (rl env)).lookup y=some k->(y,NameKind.free)∈scope.names\/y=x:=λk j q=>by
  obtain⟨r,m,e⟩:=Nt (GU env) q;by_cases t:r=.free
  .rw[t]at m;exact .inl m
  .rw[JI env y r t]at e;rcases j with z | z
   .exact .inr (d _ m (e.trans z))
   .exact q02 (e.trans z) t
 rcases h with h | h
 .exact v _ (.inl rfl) h
 .exact v _ (.inr rfl) h
variable {cx:Addr}{cl:List (Str×Addr)}
def Cn{c:Addr}(h:((x,cx)::cl).lookup y=some c):(y=x/\c=cx)\/(y≠x/\cl.lookup y=some c):=by
 rw[lookup_cons]at h;by_cases e:y=x
 .have hb:(y==x)=true:=by simp[e]
  rw[hb]at h;exact .inl ⟨e,(q22 h).symm⟩
 .rw[beq_eq_false_iff_ne.mpr e]at h;exact .inr ⟨e,h⟩
def nh(e:y≠x):((x,cx)::cl).lookup y=cl.lookup y:=by
 rw[lookup_cons,beq_eq_false_iff_ne.mpr e]
def AH:((x,cx)::cl).lookup x=some cx:=by
 rw[lookup_cons,beq_self_eq_true]
section
variable {X:Cx}{pins:List (Addr×Obj)}{σ:St}{H:Hp}{s:Shared}{x:Str}{fr:List Str}{ix:List Nat}{scope:Scope}{cl:List (Str×Addr)}{fp:List Addr}{C cx:Addr}
def UR(I:Inv X pins σ H s)(t:∀y c,cl.lookup y=some c->X.env.cells.lookup y=some c){y:Str}{c:Addr}(e:cl.lookup y=some c):c<s.heap.objs.size:=by
 obtain⟨v,o,r,_⟩:=I.cell y c (t y c e);exact lt_size r
def AI(S:bK X.env.scope X.N x fr ix scope)(I:Inv X pins σ H s)(d:∀b∈fp,fL X pins H b)(u:∀b∈fp,b<s.heap.objs.size)(g:s.heap.objs.size<=C)(j:s.heap.objs.size<=cx)
 (v:∀y c,cl.lookup y=some c->X.env.cells.lookup y=some c) (D:∀y,(y,NameKind.free)∈scope.names->∃c,cl.lookup y=some c):(Cm X x (x::fr) scope cl cx C s H fp).Ok where
 mod:=I.ok.mod
 kind:=S.kind
 glob:=I.ok.glob
 blt:=I.ok.blt
 above:=g
 inj:=λy z c a b=>by
  rcases Cn a with⟨p,r⟩|⟨p,r⟩
  .rcases Cn b with⟨b1,b2⟩|⟨b1,b2⟩
   .exact p.trans b1.symm
   .exact q02 (UR I v b2) (by rw[r];exact Nat.not_lt.mpr j)
  .rcases Cn b with⟨b1,b2⟩|⟨b1,b2⟩
   .exact q02 (UR I v r) (by rw[b2];exact Nat.not_lt.mpr j)
   .exact I.ok.inj y z c (v y c r) (v z c b2)
 has:=λy m=>by
  by_cases e:y=x
  .subst e;exact⟨cx,AH⟩
  .rcases ZV (env:=X.env) (scope:=scope) S.cells m with z | z
   .obtain⟨c,hc⟩:=D y z;exact⟨c,(nh e).trans hc⟩
   .exact q02 z e
 qO:=λy c h e=>by
  have m:y=x:=by simpa [Cm] using h
  rcases Cn e with⟨_,z⟩|⟨z,_⟩
  .rw[z];exact j
  .exact q02 m z
 hd:=I.ok.hd
 frames:=I.ok.frames
 qP:=.inl rfl
 rP:=λb t=>⟨λz=>q02 (u b t) (by rw[z];exact Nat.not_lt.mpr g),λy c e=>by
  rcases Cn e with⟨_,z⟩|⟨_,z⟩
  .exact λq=>q02 (u b t) (by rw[<-q,z];exact Nat.not_lt.mpr j)
  .exact(d b t).2.2.2.2.1 y c (v y c z)⟩
 bs:=I.bs
 jz:=q38 I.ok.jz I.sz
 gz:=λb o e t=>by
  rcases (d b t).2.2.2.1 with z | z
  .exact I.ok.gz b o e z
  .exact q02 (q21 (lt_size e) (q38 I.ok.jz z)) (q37 _)
 gU:=λb t z=>by
  rcases q27.mp (I.jA b z)with e | e
  .exact(d b t).2.1 e
  .exact(d b t).2.2.1 e
 cM:=I.stack
 kY:=I.gb
def bK.len(S:bK X.env.scope X.N x fr ix scope):fr.length=ix.length:=by have:=congrArg List.length S.at';simpa using this
def tY{t:Shared}{pn:List (Addr×Obj)}{m:Str->Option Value}(S:bK X.env.scope X.N x fr ix scope)(I:Inv X pins σ H s)(K:∀b∈fp,fL X pins H b)(kr:∀b∈fp,b<s.heap.objs.size)(R:s.heap.objs.size<=C)(V:s.heap.objs.size<=cx)
 (d:∀y c,cl.lookup y=some c->X.env.cells.lookup y=some c) (Q:∀y,(y,NameKind.free)∈scope.names->∃c,cl.lookup y=some c)
 (ho:t.os=s.os) (M:t.gens=s.gens) (k:∀b o,s.heap.get? b=some o->t.heap.get? b=some o) (P:t.heap.Ns C m) (B:t.heap.IsCell cx none)
 (hp:∀p∈pn,t.heap.get? p.1=some p.2/\s.heap.objs.size<=p.1/\p.1≠C/\∀v,p.2.data ≠ .cell v) :
 Inv (Cm X x (x::fr) scope cl cx C s H fp) pn (none::iA ix σ) H t:=by
 obtain⟨mX,Zp,Y⟩:=I.loc;refine⟨AI S I K kr R V d Q,ho,by rw[M];exact I.bare,Un.kept k,⟨m,P,λi y v n G e3=>?_⟩,λy c e=>?_,I.aO.fresh R,λy c e=>?_,λp W=>?_,I.aO.kept k,by
  show(none::iA ix σ).length=(x::fr).length;simp[mS,S.len]⟩
 .cases i with
  | zero=>cases G
  | succ j =>
    have U:fr[j]? = some y:=n;have r:(iA ix σ)[j]? = some (some v):=G;have O:=mem_of_getElem? U;have F:y≠x:=λz=>(List.nodup_cons.mp S.nd).1 (by rw[<-z];exact O);obtain⟨J,L⟩:=S.sZ y O;unfold iA at r;rw[q26]at r;cases u:ix[j]? with
    | none=>rw[u]at r;cases r
    | some i =>
      rw[u]at r;have g:(σ[i]?).join=some v:=q22 r;have a:σ[i]? = some (some v):=by
       cases q:σ[i]? with
       | none=>rw[q]at g;cases g
       | some w=>rw[q]at g;have:w=some v:=g;rw[this]
      have f:X.N[i]? = some y:=by
       have:=congrArg (λl=>l[j]?) S.at';simp only[q26,U,u]at this
       simpa using this.symm
      have Z:F6 X.env.scope y:=by
       rcases L with z | z
       .exact .inr (.inl z)
       .exact .inr (.inr z)
      obtain⟨g1,g0,l⟩:=Y i y v f a Z;refine⟨g1,g0,.inr ⟨Nu J,?_⟩⟩;rcases l with⟨z,_⟩|⟨_,c,A,E⟩
      .rcases L with q | q
       .have q':=(show X.env.scope.names.lookup y=some .local from z).symm.trans q;cases q'
       .have q':=(show X.env.scope.names.lookup y=some .local from z).symm.trans q;cases q'
      .obtain⟨c',rR⟩:=Q y (PySem.mem_of_lookup J);have:c'=c:=by have:=d y c' rR;rw[A]at this;exact(q22 this).symm
       subst this;refine⟨c',(nh F).trans rR,?_⟩;obtain⟨o,h,D⟩:=E;exact⟨o,k _ _ h,D⟩
 .rcases Cn e with⟨_,z⟩|⟨_,z⟩
  .subst z;exact⟨none,B⟩
  .obtain⟨v,o,h,D⟩:=I.cell y c (d y c z);exact⟨v,o,k _ _ h,D⟩
 .rcases Cn e with⟨_,z⟩|⟨_,z⟩
  .subst z;exact I.aO.fresh V
  .exact I.cI y c (d y c z)
 .have DJ:p∈pn:=by simpa [Cm] using W
  obtain⟨q1,T,q3,q4⟩:=hp p DJ;refine⟨q1,I.aO.fresh T,q3,λz=>?_,q4⟩;obtain⟨_,o,h,_⟩:=I.stack.mem z;exact q02 (q21 (lt_size h) T) (q37 _)
end
def lL{A:Around}{r:Scope}{e:Addr}{outer:Env}{Q:Env->Shared->Prop}(S:bK r N x fr ix scope)
 (h:Q (newEnv scope s.heap.objs.size e ((x,s.heap.objs.size+1)::cl) qual none .none (some outer) builtinsNs) { s with heap:=(s.heap.push { cls:=.type "dict",data:=.dict #[] }).push { cls:=.type "cell",data:=.cell none } }) :
 wpAny M A (newFunctionEnv scope e cl [] qual none .none (some outer)) Q E s:=by
 simp only[newFunctionEnv,Option.isSome_some,if_true];refine q03 (wpAny_alloc ?_);refine q03 (wpAny_layCells _ (λj v d=>by cases t:v==NameKind.cell <;> simp[t]) _ _ _ _ ?_);rw[S.one,S.push,show({ s with heap:=s.heap.push { cls:=.type "dict",data:=.dict #[] } }:Shared).heap.objs.size=s.heap.objs.size+1 from size_push ..];simp only[forIn_nil];exact q03 (q04 (q04 h))
section
variable {X:Cx}{x:Str}{fr:List Str}{ix:List Nat}{scope:Scope}{elt iter:Expr}{ifs:List Expr}{px pos:Pos}{wi:TI}{tc:TT}{te:TE}
def o8{use:Option (Value->Sem Unit)}{Q:Value->Shared->Prop}{pins:List (Addr×Obj)}{t:Shared}{σ:St}{d:Hp}{it:Addr}{h:List Addr}{s:Nat->Heap->Prop}{J:It}{cl:List (Str×Addr)}(S:bK X.env.scope X.N x fr ix scope)(hc:X.calm=true)
 (jH:∀cl cx C t d h,qY (Cm X x (x::fr) scope cl cx C t d h) ifs tc) (he:∀cl cx C t d h,PE (Cm X x (x::fr) scope cl cx C t d h) elt te)
 (H:∀y c,cl.lookup y=some c->X.env.cells.lookup y=some c) (h2:∀y,(y,NameKind.free)∈scope.names->∃c,cl.lookup y=some c)
 (U:Inv X pins σ d t) (T:Turn X.prog X.w X.K (.Name x px) J h it s) (E:s 0 t.heap) (f:∀b∈h,fL X pins d b) {fin:List V->Hp->Prop} (wc:dD J (iA ix σ) tc te d fin)
 (hQ:∀(D C:Addr)(I:List V)(H':Hp)(j:Shared)(m:Str->Option Value),Inv X pins σ (upd H' D (.lst I)) j->H' D=none->j.heap.Ns C m->D≠C->t.heap.objs.size<=C->H' C=none->fin I H' ->
   compPost (model X.prog X.w) X.A X.xe use Q (.ref D) C (.ok .next) j) :
 wpAny (model X.prog X.w) X.A (newList []) (λl p=>wpAny (model X.prog X.w) X.A (newFunctionEnv scope X.env.globals cl [] X.env.qual none .none (some X.env)) (λB g3 =>
  codeAny (model X.prog X.w) X.A (.compStart (.ListComp elt [⟨.Name x px,iter,ifs,0⟩] scope pos) 0 (.ref it) l { B with scope:=relabel scope X.env }) (compPost (model X.prog X.w) X.A X.xe use Q l B.locals) g3) X.xe p) X.xe t:=by
 have kr:∀b∈h,b<t.heap.objs.size:=λb Z=>by
  obtain⟨o,e,_⟩:=T.obj 0 _ E b Z;exact lt_size e
 refine wpAny_newObj_type (lL S ?_);generalize O:t.heap.push { cls:=.type "list",dict:=none,data:=.seq ([]:List Value).toArray }=r;have R:r.objs.size=t.heap.objs.size+1:=by rw[<-O,size_push]
 have u:t.heap.objs.size≠r.objs.size:=by rw[R];exact ne_of_lt (lt_succ_self _)
 have G:t.heap.objs.size<=r.objs.size:=by rw[R];exact le_succ _
 have xn:t.heap.objs.size<=r.objs.size+1:=q38 G (le_succ _);have L:t.heap.objs.size≠r.objs.size+1:=by rw[R];exact ne_of_lt (lt_succ_of_lt (lt_succ_self _))
 have JS:(r.push { cls:=.type "dict",data:=.dict #[] }).objs.size=r.objs.size+1:=size_push ..;have W:((r.push { cls:=.type "dict",data:=.dict #[] }).push { cls:=.type "cell",data:=.cell none }).IsCell (r.objs.size+1) none:=⟨_,by rw[<-JS];exact get?_push_size _ rfl,rfl⟩;have F:((r.push { cls:=.type "dict",data:=.dict #[] }).push { cls:=.type "cell",data:=.cell none }).Ns r.objs.size λ_=>none:=(Heap.Ns.new r (.type "dict")).push _;have n:∀b o,t.heap.get? b=some o->((r.push { cls:=.type "dict",data:=.dict #[] }).push { cls:=.type "cell",data:=.cell none }).get? b=some o:=λb o e=>q05 _ (q05 _ (O ▸ q05 _ e));have Y:((r.push { cls:=.type "dict",data:=.dict #[] }).push { cls:=.type "cell",data:=.cell none }).get? t.heap.objs.size=some { cls:=.type "list",data:=.seq ([]:List Value).toArray 0 }:=q05 _ (q05 _ (O ▸ get?_push_size _ rfl));generalize ZY:r.objs.size+1=cx at W xn L ⊢;generalize US:(r.push { cls:=.type "dict",data:=.dict #[] }).push { cls:=.type "cell",data:=.cell none }=P at W F n Y ⊢;have k:s 0 P:=T.keep 0 _ _ E λb _ o e=>n b o e;have i:∀b∈h,b≠t.heap.objs.size:=λb Z=>ne_of_lt (kr b Z);generalize M:t.heap.objs.size=D at Y u L i ⊢;have lG:t.heap.objs.size<=D:=le_of_eq M;generalize hC:r.objs.size=C at F u G ⊢;have lF:∀b o,t.heap.get? b=some o->b≠D:=λb o e z=>q02 (lt_size e) (by rw[z,<-M];exact q37 _);have g0:∀p:Shared,p={ t with heap:=P } ->
  codeAny (model X.prog X.w) X.A (.compLoop (.ListComp elt [⟨.Name x px,iter,ifs,0⟩] scope pos) 0 (.ref it) (.ref D) (compEnvC scope ((x,cx)::cl) C X.env))
   (compPost (model X.prog X.w) X.A X.xe use Q (.ref D) C) p:=by
  rintro p rfl;refine Uq (NN:=x::fr) (cl:=(x,cx)::cl) (φ:=λy=>y==x) (ξ:=λ_ _=>False) hc ?_ (jH cl cx C t d h) (he cl cx C t d h) Up U T f wc.g lF lG i (λy c e z=>?_) (v:=[none]) rfl
   (tY S U f kr G xn H h2 rfl rfl n F W (λg2 hp=>by
     have e:g2=(D,{ cls:=.type "list",data:=.seq ([]:List Value).toArray 0 }):=by simpa using hp
     subst e;exact⟨Y,lG,u,λv z=>by cases z⟩)) k λI H' j m a b c g1 e=>hQ D C I H' j m a b c u G g1 e
  .exact rY S.nd rfl (.inr (by show(relabel scope X.env).names.lookup x=some .cell;rw[GV,JH (GU X.env) S.lx,JI X.env x .cell (by decide)])) (.inl (by simp[iz]))
  .rcases Cn e with⟨_,q⟩|⟨_,q⟩
   .exact L (z.symm.trans q)
   .obtain⟨v,o,ho,_⟩:=U.cell y c (H y c q);exact lF c o ho z
 exact codeAny_compStart_list (g0 _ rfl) (T.self X.A 0 _ _ _ k (g0 _ rfl))
def tZ(S:bK X.env.scope X.N x fr ix scope)(W:X.calm=true)(Z:PI X (.Name x px) iter wi)(a:∀cl cx C d v r,qY (Cm X x (x::fr) scope cl cx C d v r) ifs tc)(he:∀cl cx C d v r,PE (Cm X x (x::fr) scope cl cx C d v r) elt te)
 (hs:∀x,foldedSetIterable iter X.env x=pure x:=by intro _;rfl):PE X (.ListComp elt [⟨.Name x px,iter,ifs,0⟩] scope pos) (mT ix wi tc te):=by
 intro q s E H Q I h;obtain⟨cl,c,L,O⟩:=DI (env:=X.env) (scope:=scope) λy n Y=>I.ok.has y.1 (S.free y n Y);rw[eval_ListComp];refine wpAny_comprehension_free (use:=none) rfl hs c S.kind S.lD (aU (Z q s E H _ I h) λxv P k=>aU k λK d l=>?_);obtain⟨it,r,tn,J,v,rfl,p,T,G,u,B⟩:=l;refine o8 S W a he L O p T G u B λD C j H' f m g U F w R i fin=>?_;refine⟨m,F,λM A=>⟨.ref D,upd H' D (.lst j),?_,rfl,fin D U⟩⟩;have t:fL X q (upd H' D (.lst j)) C:=by
  have z:=p.gA (H':=upd H' D (.lst j)) R (by rw[zi (Ne.symm w)];exact i);exact z
 exact g.turned (t':=f.toks) (it:=C) (λb o V e=>(A.2 b V).trans e) t.1 t.2.1 t.2.2.2.1 t.2.2.2.2.1 t.2.2.2.2.2
end
section
open PySem.SeqAt
open PySem.AutoSeq1 (wpAny_loadPart')
open PySem.MeetsSeq PySem.MeetsSeq2 PySem.MeetsSeq3
def AJ(l b:Addr)(r v:Array Value)(n H:Nat)(dd K:Option Addr)(sl E:Array (Option Value))(ns ms:List Int)(W:IntsAre r.toList ns)(Y:IntsAre v.toList ms)(k:Nat):
 ∀i:Nat,ns.length-i=k->i<=ns.length->i<=ms.length->Meets (Builtin.«list.__eq__.loop» ⟨[.ref l,.ref b,rawInt i,rawInt 0],[]⟩)
  (λA R s=>s.heap.get? l=some { cls:=.type "list",dict:=dd,data:=.seq r n,slots:=sl }/\s.heap.get? b=some { cls:=.type "list",dict:=K,data:=.seq v H,slots:=E } /\
    R (.ok (.ret (.bool (HT.lexLt (ns.drop i) (ms.drop i))))) s):=by
 have M:r.size=ns.length:=by rw[<-W.length];simp
 have N:v.size=ms.length:=by rw[<-Y.length];simp
 have stop:∀i,(i=ns.length\/i=ms.length)->i<=ns.length->i<=ms.length->HT.lexLt (ns.drop i) (ms.drop i)=decide (r.size<v.size):=λi h o p=>by
  rw[M,N];rcases lt_or_ge i ns.length with I | I
  .have e:i=ms.length:=h.elim (λz=>by lia) id;rw[drop_of_length_le (le_of_eq e.symm),drop_eq_getElem_cons I,HT.iy];exact(q20 (by lia)).symm
  .rw[drop_of_length_le I];rcases lt_or_ge i ms.length with J | J
   .rw[drop_eq_getElem_cons J,HT.iw];exact(q19 (by lia)).symm
   .rw[drop_of_length_le J,HT.je];exact(q20 (by lia)).symm
 induction k with
 | zero =>
   intro i B o p G w A R s h;obtain⟨Q,g,d,T,S⟩:=s;obtain⟨m,j,h⟩:=h;rw[stop i (.inl (by lia)) o p]at h
   wp_walk using wpAny_loadPart' m,wpAny_loadPart' j
   have q:r[((i:Nat):Int).toNat]? = none:=by simp;lia
   rw[q]
   wp_walk using wpAny_loadPart' m,wpAny_loadPart' j
   exact h
 | succ k C =>
   intro i B o p G w A R s h;obtain⟨Q,g,d,T,S⟩:=s;obtain⟨m,j,h⟩:=h;have V:i<r.size:=by lia
   have q:r[((i:Nat):Int).toNat]? = some r[i]:=by simp[V]
   wp_walk using wpAny_loadPart' m,wpAny_loadPart' j
   rw[q];by_cases Z:i<ms.length
   .have Hd:i<v.size:=by lia
    have D:v[((i:Nat):Int).toNat]? = some v[i]:=by simp[Hd]
    have x:((i:Int)+1)=((i+1:Nat):Int):=by push_cast;rfl
    rw[D];obtain⟨t,L⟩:=IntsAre.int_at W i r[i] (by simp[V]);obtain⟨u,O⟩:=IntsAre.int_at Y i v[i] (by simp[Hd]);have U:i<ns.length:=by lia
    have f:ns.getD i 0=ns[i]:=by rw[q18,q31 U];rfl
    have c:ms.getD i 0=ms[i]:=by rw[q18,q31 Z];rfl
    rw[f]at L;rw[c]at O;rw[drop_eq_getElem_cons U,drop_eq_getElem_cons Z,HT.dS]at h;have y:EqAt A.in1 ⟨Q,g,d,T,S⟩ r[i] v[i] (ns[i]==ms[i]):=by rw[L,O];exact SeqAt.EqAt.int_int _ _ _ _
    refine q03 (y G w _ _ ?_);cases F:(ns[i]==ms[i])with
    | true =>
      rw[q01 (by simpa using F)]at h
      wp_walk
      rw[x];exact⟨plainId_quiet plain_eq_loop _,codeAny_builtin entry_eq_loop (by
       rw[Around.under_plainId plain_eq_loop _];exact C (i+1) (by lia) (by lia) (by lia) G w A R _ ⟨m,j,h⟩)⟩
    | false =>
      rw[q00 (by simpa using F)]at h
      wp_walk using wpAny_loadPart' m,wpAny_loadPart' j
      rw[q,D];have a:=HT.sP A.in1 ⟨Q,g,d,T,S⟩ ns[i] t ms[i] u G w;rw[L,O]
      wp_walk using a
      exact h
   .have D:v[((i:Nat):Int).toNat]? = none:=by simp;lia
    rw[D];rw[stop i (.inr (by lia)) o p]at h
    wp_walk using wpAny_loadPart' m,wpAny_loadPart' j
    exact h
def ZZ(l b:Addr)(t e:Array Value)(n m:Nat)(dd o:Option Addr)(sl j:Array (Option Value))(ns ms:List Int)(p:IntsAre t.toList ns)(q:IntsAre e.toList ms):
 Meets (Builtin.«list.__lt__» ⟨[.ref l,.ref b],[]⟩)
  (λ_ R s=>s.heap.get? l=some { cls:=.type "list",dict:=dd,data:=.seq t n,slots:=sl }/\s.heap.get? b=some { cls:=.type "list",dict:=o,data:=.seq e m,slots:=j } /\
    R (.ok (.ret (.bool (HT.lexLt ns ms)))) s):=by
 intro u w A R s h;obtain⟨D,g,d,I,G⟩:=s;obtain⟨r,v,h⟩:=h;have z:=AutoSeq1.sub_list_list
 wp_walk using wpAny_loadPart' r,wpAny_loadPart' v
 exact⟨plainId_quiet plain_eq_loop _,codeAny_builtin entry_eq_loop (by
  rw[Around.under_plainId plain_eq_loop _];exact AJ l b t e n m dd o sl j ns ms p q _ 0 rfl (zero_le _) (zero_le _) u w A R _ ⟨r,v,h⟩)⟩
end
section
variable {X:Cx}
inductive Co (K:Frag)(x y:V)(H:Hp)(Q:VK):Prop|mk(a:_)(b:_)(ns:_)(e:_):x=.ref a->y=.ref b->ah K H a (ns.map V.int)->ah K H b (e.map V.int)->Q (.bl (HT.lexLt ns e)) H->Co K x y H Q
def He(K:Frag):R2:=λx y H Q=>Co K x y H Q
def Z0(L:X.A.units<cLine):eN X (compareOp .Lt) (He X.K):=by
 intro V s c H x y v u Q I Z w h;obtain⟨a,b,ns,t,rfl,rfl,G,J,q⟩:=h;cases Z;cases w;obtain⟨r,W,T,M⟩:=I.list G;obtain⟨D,Y,U,N⟩:=I.list J;obtain⟨⟨k,B,l,sl⟩,n,e,d,j,m⟩:=T;obtain⟨⟨i,E,f,C⟩,S,z,o,p,g⟩:=U;simp only at d j m o p g;subst d j m o p g;have O:IntsAre r.toArray.toList ns:=E7 W;have R:IntsAre D.toArray.toList t:=E7 Y;exact richCompare_meets_room (op := .Lt) ⟨_,e,rfl⟩ ⟨_,z,rfl⟩ PySem.F.slot_list_lt PySem.F.entry_list_lt (PySem.F.args_list_lt_2 _ _) (ZZ a b r.toArray D.toArray n S _ _ _ _ ns t O R)
  ⟨e,z,show Value.bool (HT.lexLt ns t)≠Value.notImplemented/\EP X V c Q (.bool (HT.lexLt ns t)) s from⟨(λx=>nomatch x),⟨.bl (HT.lexLt ns t),H,I,rfl,q⟩⟩⟩ L
def Z1{K:Frag}(h:X.K=K)(e:X.A.units<cLine):eN X (compareOp .Lt) (He K):=by subst h;exact Z0 e
inductive Cp (K:Frag)(x y:V)(H:Hp)(Q:VK):Prop|mk(a:_)(b:_)(xs:_)(e:_):x=.ref a->y=.ref b->ah K H a xs->ah K H b e->xs.all wM=true->e.all wM=true->Q (.bl (!gZ xs e)) H->Cp K x y H Q
def Hf(K:Frag):R2:=λx y H Q=>Cp K x y H Q
def Hg(r:X.A.units<cLine):eN X (compareOp .NotEq) (Hf X.K):=by
 intro T s W H x y v u Q I J L h;obtain⟨a,b,xs,e,rfl,rfl,z,D,p,g,q⟩:=h;cases J;cases L;obtain⟨O,m,d,U⟩:=I.list z;obtain⟨R,o,j,V⟩:=I.list D;have G:=m.length;have S:=o.length;by_cases t:xs.length=e.length
 .refine SeqAt.RcNeAt.lists d.isList j.isList (by simp;lia) r (tI m o p g) _ _ _ _ ⟨.bl (!gZ xs e),H,I,?_,q⟩;rw[q10,<-G,ND t];rfl
 .refine SeqAt.RcNeAt.lists_lengths d.isList j.isList (by simp;lia) r _ _ _ _ ⟨.bl (!gZ xs e),H,I,?_,q⟩;rw[NF t];rfl
end
structure kA (P:Program) (w:World) (K:Frag) (mg:Str->Option Value) (base:Heap) (k:Nat) (C:Addr) (m:Str) (ps:List Str) (sp:Sp):Prop where
 ex:∃f fd,ar P w K mg base bp k f fd ps sp/\Meth K C m f/\Binds K fd ps []
structure ee (P:Program) (w:World) (K:Frag) (mg:Str->Option Value) (base:Heap) (k:Nat) (C:Addr) (m:Str) (ps:List Str) (sp:Sp):Prop where
 ex:∃f fd,ar P w K mg base (dM P w) k f fd ps sp/\Meth K C m f/\Binds K fd ps []
inductive nq (C:Addr)(m:Str)(W:XW)(sp:Sp)(t:TA)(σ:St)(x:V)(e:Hp)(Q:VK):Prop|mk(a:_)(h:_)(fs:_):x=.ref a->e a=some (.ins C h fs)->fs.lookup m=none->(t σ e λd v=>sp (.ref a::d) v Q λr _ H'=>W σ r H')->nq C m W sp t σ x e Q
def ua(C:Addr)(m:Str)(W:XW)(sp:Sp)(r:TE)(t:TA):TE:=λe H Q=>r e H λx v=>nq C m W sp t e x v Q
section
variable {X:Cx}{k:Nat}{C:Addr}{m:Str}{ps:List Str}{sp:Sp}{apos pos:Pos}{o e:Expr}{es:List Expr}{ta:TE}{t:TA}{W:XW}{pl:Sem Bool}
def xo(M:ee X.prog X.w X.K X.mg X.base k C m ps sp)(c:qS X.K C)(O:Fl X W)(T:bA k X.A)(he:PE X o ta)(R:PA X (e::es) t)
 (L:starEach (e::es) X.env=(false,eval e X.env)::starEach es X.env:=by rfl) (hpl:(backTo pos (starEach es X.env)).any (·.1)=false:=by rfl)
 (U:eval (.Call (.Attribute o m apos) (e::es) [] pos) X.env=(do
   let p <-eval o X.env
   standAt apos.atName
   let (f,first) <-holding [p] (getMethod p m pl)
   callWith pos f first (backTo pos (starEach (e::es) X.env)) (backToKw pos (keywordEach [] X.env))):=by rfl) :
 PE X (.Call (.Attribute o m apos) (e::es) [] pos) (ua C m W sp ta t):=by
 obtain⟨f,fd,F,j,S⟩:=M.ex;intro g s z H Q I h;refine methodCall_KW (pl:=pl) (aU (he g s z H _ I h) λu Z ⟨x,D,v,Y,a,b,fs,J,G,l,q⟩=>?_) U;subst J;obtain rfl:u=Value.ref a:=Y;refine M8 v G c j l ?_;refine callWith_K (first:=[.ref a]) (h₀:=X.base) I.ok.mod.BN j.kp (aU (R pos g Z z D _ v q) λus i ⟨vs,n,d,r,V⟩=>⟨d.j0,?_⟩) L hpl;exact NS (us:=.ref a::us) (vs:=.ref a::vs) F T S O d (.cons rfl r) V
def JT(M:ee X.prog X.w X.K X.mg X.base k C m ps sp)(c:qS X.K C)(g:Fl X W)(D:bA k X.A)(he:PE X o ta)
 (G:eval (.Call (.Attribute o m apos) [] [] pos) X.env=(do
   let d <-eval o X.env
   standAt apos.atName
   let (f,first) <-holding [d] (getMethod d m pl)
   callWith pos f first (backTo pos (starEach [] X.env)) (backToKw pos (keywordEach [] X.env))):=by rfl) :
 PE X (.Call (.Attribute o m apos) [] [] pos) (ua C m W sp ta oN):=by
 obtain⟨f,fd,F,r,z⟩:=M.ex;intro J s O H Q I h;refine methodCall_KW (pl:=pl) (aU (he J s O H _ I h) λu T ⟨x,R,v,L,a,S,fs,p,j,l,q⟩=>?_) G;subst p;obtain rfl:u=Value.ref a:=L;refine M8 v j c r l ?_;exact callWith_K0 (first:=[.ref a]) v.j0 r.kp (NS (us:=[.ref a]) (vs:=[.ref a]) F D z g v (.cons rfl .nil) q)
def zL(M:kA X.prog X.w X.K X.mg X.base k C m ps sp)(c:qS X.K C)(d:bA k X.A)(he:PE X o ta)
 (j:eval (.Call (.Attribute o m apos) [] [] pos) X.env=(do
   let v <-eval o X.env
   standAt apos.atName
   let (f,first) <-holding [v] (getMethod v m pl)
   callWith pos f first (backTo pos (starEach [] X.env)) (backToKw pos (keywordEach [] X.env))):=by rfl) :
 PE X (.Call (.Attribute o m apos) [] [] pos) (B2 C m sp [] E0 ta oN):=by
 obtain⟨f,fd,F,h,r⟩:=M.ex;exact sM (pl:=pl) he c h F d r .nil B7 j
structure o9 (P:Program) (w:World) (K:Frag) (mg:Str->Option Value) (base:Heap) (k:Nat) (x:Str) (C:Addr) (ps:List Str) (sp:Sp):Prop where
 ex:∃f fd,ar P w K mg base (dM P w) k f fd ps sp/\mg x=some (.ref C)/\Mk K C f/\Binds K fd ps []
def D1(C:Addr)(W:XW)(sp:Sp)(t:TA):TE:=λd H Q=>t d H λq h=>∀x r,h x=none->h r=none->r≠x->sp (.ref x::q) (upd (upd h r (.own x)) x (.ins C r [])) (λv j=>v=.bR/\Q (.ref x) j) λp _ H'=>W d p H'
def pd{pins:List (Addr×Obj)}{σ:St}{H:Hp}{s:Shared}{Q:VK}{us:List Value}{vs:List V}{f:Addr}{fd:FuncData}(M:Mk X.K C f)(F:ar X.prog X.w X.K X.mg X.base (dM X.prog X.w) k f fd ps sp)(U:bA (k+1) X.A)(S:Binds X.K fd ps [])(g:Fl X W)(I:Inv X pins σ H s)(r:Vals vs us)
 (h:∀x p,H x=none->H p=none->p≠x->sp (.ref x::vs) (upd (upd H p (.own x)) x (.ins C p [])) (λv L=>v=.bR/\Q (.ref x) L) λq _ H'=>W σ q H') :
 wpAny (model X.prog X.w) X.A (call (.ref C) us) (EP X pins σ Q) X.xe s:=by
 have z:=h (s.heap.objs.size+1) s.heap.objs.size (I.aO.fresh (le_succ _)) (I.aO.fresh (le_refl _)) (ne_of_lt (lt_succ_self _));have j:=Inv.made (C:=C) I;have D:Vals (V.ref (s.heap.objs.size+1)::vs) (Value.ref (s.heap.objs.size+1)::us):=.cons rfl r;have T:(Value.ref (s.heap.objs.size+1)::us).length=ps.length:=by
  have e:=D.length;rw[F.len _ _ _ _ z]at e;exact e.symm
 have G:=S { s with heap:=(s.heap.push emptyDict).push (instObj C s.heap.objs.size) } (Value.ref (s.heap.objs.size+1)::us) j.j0 (by rw[append_nil];exact T);rw[append_nil]at G;refine wpAny_call (sH (f:=f) I.j0 M.makes M.init (beq_iff_eq.mp M.fn) (codeAny_mono (F.run _ X.stack _ _ ⟨Value.ref (s.heap.objs.size+1)::us,[]⟩ (Value.ref (s.heap.objs.size+1)::us) _ _ _ (U.make C us [])
  (j.Al.make C us []) G D z) λr t d=>?_))
 cases r with
 | error e =>
   obtain⟨y,q,H',rfl,J,w⟩:=d;exact g pins σ _ _ y q H' t j J w
 | ok g =>
   cases g with
   | ret u =>
     obtain⟨v,H',O,Z,R,Y⟩:=j.after d;subst R;exact⟨Z,⟨V.ref (s.heap.objs.size+1),H',O,rfl,Y⟩⟩
   | next=>exact False.elim d
   | brk=>exact False.elim d
   | cont=>exact False.elim d
def ub{x:Str}{p:Pos}(M:o9 X.prog X.w X.K X.mg X.base k x C ps sp)(j:Fl X W)(G:bA (k+1) X.A)(z:Gl X x)(g:PA X (e::es) t)(J:(x==("__debug__":Str))=false:=by decide)
 (he:starEach (e::es) X.env=(false,eval e X.env)::starEach es X.env:=by rfl) (hpl:(backTo pos (starEach es X.env)).any (·.1)=false:=by rfl):PE X (.Call (.Name x p) (e::es) [] pos) (D1 C W sp t):=by
 obtain⟨f,fd,F,D,d,u⟩:=M.ex;intro L s O H Q I h;refine wpAny_Call_Name_kw (Df I z D ?_ J);refine callWith_K (h₀:=X.base) I.ok.mod.BN d.kp (aU (g pos L s O H _ I h) λT S ⟨U,R,v,r,q⟩=>⟨v.j0,?_⟩) he hpl;exact pd d F G u j v r q
def AK{K:Frag}{f:Str}(h:X.K=K)(he:PE X e ta)(v:attributeBase e f X.env (eval e X.env)=eval e X.env):PE X (.Attribute e f pos) (GA K ta f):=by subst h;exact wI he v
end
def yu(K:Frag)(x:Str):Addr:=match nsIn K mainGlobals x with
 | some (some (.ref C))=>C
 | _=>0
def AL(h:nsIn K mainGlobals x=some (some (.ref C))):yu K x=C:=by unfold yu;rw[h]
def kA.of{m:Str}(e:yu K x=C)(G:ar P w K mg base bp k f fd ps sp)(t:Meth K C m f)(b:Binds K fd ps []):kA P w K mg base k (yu K x) m ps sp:=by rw[e];exact⟨f,fd,G,t,b⟩
def ee.of{m:Str}(e:yu K x=C)(G:ar P w K mg base (dM P w) k f fd ps sp)(t:Meth K C m f)(b:Binds K fd ps []):ee P w K mg base k (yu K x) m ps sp:=by rw[e];exact⟨f,fd,G,t,b⟩
def o9.of(e:yu K x=C)(G:ar P w K mg base (dM P w) k f fd ps sp)(t:mg x=some (.ref C))(v:Mk K C f)(b:Binds K fd ps []):o9 P w K mg base k x (yu K x) ps sp:=by rw[e];exact⟨f,fd,G,t,v,b⟩
section
variable {X:Cx}
inductive eQ (K:Frag)(xs:List V)(H:Hp)(Q:VK):Prop|mk(a:Addr)(ns:List Int):xs=[.ref a]->ah K H a (ns.map V.int)->0<ns.length->(∀M:Int,M∈ns->(∀x∈ns,x<=M)->Q (.int M) H)->eQ K xs H Q
def Z2(J:X.calm=true):wZ X (.builtin "max") (eQ X.K):=by
 intro n s c H xs w Q I r h;obtain⟨a,ns,rfl,G,z,q⟩:=h;obtain⟨u,rfl,V⟩:=r.one;cases V;obtain⟨Y,U,T,b⟩:=I.list G;have p:=E7 U;obtain⟨xs,e⟩:=p.allInts.items;have d:ns=xs.toList.map (·.1):=by
  rw[<-p.numsOf,<-nums_intItems,<-e]
 have R:0<xs.size:=by
  have m:=z;rw[d,q06,Array.length_toList]at m;exact m
 have g:=T.isList;rw[e]at g;refine max_intList (I.ok.hd J) g R λv Z W S O=>?_;obtain⟨t,rfl⟩:=intItems_at S;obtain⟨F,D⟩:=argBest_gt (numAt xs) (xs.size-1);refine⟨.int _,H,I.kept (t':=W) O,⟨t,rfl⟩,q _ ?_ λa o=>?_⟩
 .rw[d,numAt_eq];exact getD_mem (by rw[q06,Array.length_toList];lia)
 .rw[d]at o;obtain⟨j,L,rfl⟩:=mem_getD o;rw[q06,Array.length_toList]at L;rw[<-numAt_eq];exact D j (by lia)
inductive uc (K:Frag)(x y:V)(H:Hp)(Q:VK):Prop|mk(l:_)(b:_)(xs:_)(e:_):x=.ref l->y=.ref b->ah K H l xs->ah K H b e->xs.length+e.length<=sizeLine->(∀p,H p=none->Q (.ref p) (upd H p (.lst (xs++e))))->uc K x y H Q
def Hh(K:Frag):R2:=λx y H Q=>uc K x y H Q
def AM:eN X (binaryOp .Add) (Hh X.K):=by
 intro f s E H x y v u Q I T U h;obtain⟨l,b,xs,C,rfl,rfl,z,g,k,q⟩:=h;cases T;cases U;obtain⟨e,r,R,A⟩:=I.list z;obtain⟨t,m,S,B⟩:=I.list g;have i:=r.length;have c:=m.length;obtain⟨⟨Z,o,w,sl⟩,j,D,n,G⟩:=R.isList;obtain⟨⟨Y,W,a,L⟩,d,V,O,J⟩:=S.isList;cases D;cases G;cases V;cases J;refine concat_meets ⟨_,j,rfl⟩ ⟨_,d,rfl⟩ noFill_list_add seq_list_add F.slot_list_add F.entry_list_add (F.args_list_add_2 _ _) (list_addW l b e.toArray t.toArray n O o W sl L (by rw[q10,q10];lia)) ⟨j,d,?_⟩;have p:e.toArray++t.toArray=(e++t).toArray:=by simp
 rw[p];exact⟨.ref _,_,I.GP (t':=s.toks) (r.append m) (by rw[q08];lia),rfl,q _ I.fresh⟩
def wK{K:Frag}(h:X.K=K)(e:X.A.units<cLine):eN X (compareOp .NotEq) (Hf K):=by subst h;exact Hg e
def ud(d:X.calm=true):DA X "str.index" (λx xs H Q=>∃z y,x=.str z/\xs=[.str y]/\0<=Txt.find z y/\Q (.int (Txt.find z y)) H):=by
 intro p s G H x xs v D Q I o m h;obtain⟨z,y,rfl,rfl,r,q⟩:=h;obtain⟨t,rfl⟩:=o;obtain⟨u,rfl,j⟩:=m.one;obtain⟨g,rfl⟩:=j;exact index_or (I.ok.hd d) (λe _=>by rw[e]at r;exact q02 r (by decide)) λ_ _=>⟨.int _,H,I.tok _,⟨_,rfl⟩,q⟩
end
end L2
namespace L2
open PySem PySem.Spec PyProof.Rows PySem.W PySem.Calls Builtin Builtin.ObjectAttr Builtin.Getset_descriptor
open PySem.Builtin PySem.Builtin.Str
def UU:∀(l:List (PySem.Str×Tok)),Vals (l.map λp=>V.str p.1) (strValues l)
 | []=>.nil
 | (x,t)::l=>.cons ⟨t,rfl⟩ (UU l)
section
variable {X:Cx}
def ue:DA X "str.split" (λx k H Q=>∃z y,x=.str z/\k=[.str y]/\(y.length==0)=false/\z.length+2<=sizeLine/\(Txt.split z y).length<=sizeLine/\∀l,H l=none->Q (.ref l) (upd H l (.lst ((Txt.split z y).map V.str)))):=by
 intro j s m H x k v B Q I f g h;obtain⟨z,y,rfl,rfl,i,A,d,q⟩:=h;obtain⟨t,rfl⟩:=f;obtain⟨u,rfl,p⟩:=g.one;obtain⟨r,rfl⟩:=p;have o:H s.heap.objs.size=none:=I.aO.fresh (le_refl _);have a:∀(l:List (PySem.Str×Tok)) (c:Nat),l.map (·.1)=Txt.split z y->EP X j m Q (.ref s.heap.objs.size) { s with toks:=c,heap:=s.heap.push { cls:=.type "list",data:=.seq (strValues l).toArray } }:=λl c e=>by
  refine⟨.ref s.heap.objs.size,upd H s.heap.objs.size (.lst ((Txt.split z y).map V.str)),I.laid (t':=c) (λb u e=>q05 _ e) (le_refl _) ⟨by rw[q06];exact d,strValues l,0,?_,get?_push_size _ rfl⟩,rfl,q _ o⟩;rw[<-e,map_map];exact UU l
 cases n:(decide (z.length<y.length) || decide (strKind z<strKind y))with
 | true =>
   have e:Txt.split z y=[z]:=q01 n;exact call_meets F.slot_str_split (typeIs_str _ _ _) F.entry_str_split (F.args_str_split_2 _ _) (meets_str_split_cannot_occur z y t r n) (a [(z,t)] s.toks e.symm)
 | false =>
   cases w:(occurrences z y 0 z.length (z.length+1)).isEmpty with
   | true =>
     have e:Txt.split z y=[z]:=(q00 (ne_true_of_eq_false n)).trans (q01 w);exact call_meets F.slot_str_split (typeIs_str _ _ _) F.entry_str_split (F.args_str_split_2 _ _) (meets_str_split_not_found z y t r n i w) (a [(z,t)] s.toks e.symm)
   | false =>
     have e:Txt.split z y=partsBetween z (occurrences z y 0 z.length (z.length+1)) y.length:=(q00 (ne_true_of_eq_false n)).trans (q00 (ne_true_of_eq_false w));refine call_meets F.slot_str_split (typeIs_str _ _ _) F.entry_str_split (F.args_str_split_2 _ _) (meets_str_split_sep z y t r n i w (by lia) (by rw[<-e];exact d)) ?_;show EP X j m Q (.ref s.heap.objs.size) { s with toks:=_,heap:=s.heap.push { cls:=.type "list",data:=.seq (strsFrom s.toks (partsBetween z (occurrences z y 0 z.length (z.length+1)) y.length)).toArray } };rw[strsFrom_eq];exact a (numbered s.toks _) _ ((numbered_texts _ _).trans e.symm)
def Z3:wZ X (.type "int") (λr H Q=>∃x n,r=[.str x]/\PySem.intText? x=some n/\x.length<=640/\Q (.int n) H):=by
 intro b s i H d c Q I a h;obtain⟨x,n,rfl,v,e,q⟩:=h;obtain⟨u,rfl,w⟩:=a.one;obtain⟨t,rfl⟩:=w;exact PySem.W.KIN.call_text v e ⟨.int n,H,I.tok _,⟨_,rfl⟩,q⟩
end
structure uf (K:Frag) (mg:Str->Option Value) (x:Str) (xs:List Str):Prop where
 ex:∃a,mg x=some (.ref a)/\∀H,cE K H a (xs.map V.str)
def Z4(K:Frag)(xs:List Str):TE:=λ_ H Q=>∀a,(∀H,cE K H a (xs.map V.str))->Q (.ref a) H
variable {xs:List Str}{pos:Pos}
def Hi{X:Cx}{x:Str}(c:uf X.K X.mg x xs)(t:Gl X x)(hd:(x==("__debug__":Str))=false:=by decide):PE X (.Name x pos) (Z4 X.K xs):=by
 intro n s w H Q I h;obtain⟨a,v,e⟩:=c.ex;exact Df I t v ⟨.ref a,H,I,rfl,h a e⟩ hd
def Oc{K:Frag}{h:Heap}{mg:Str->Option Value}{x:Str}{a:Addr}{v:Value}{b:Option Addr}{t:Array Value}{n:Nat}{sl:Array (Option Value)}(X:K.In h)(G:h.Ns mainGlobals mg)(e:nsIn K mainGlobals x=some (some (.ref a)))
 (l:K.lookup a=some ⟨v,b,.seq t n,sl⟩) (w:v=.type "tuple") (s:t.size<=sizeLine) (r:Vals (xs.map V.str) t.toList):uf K mg x xs :=
 ⟨a,mg_of X G e,λH=>.inr ⟨_,t,n,l,w,rfl,s,r⟩⟩
inductive bO:List Expr->List Str->Prop
 | nil:bO [] []
 | cons {x:Str} {k:Nat} {p:Pos} {es:List Expr} {xs:List Str} (h:bO es xs):bO (.Constant (.str x) k p::es) (x::xs)
def Cr(xs:List Str):TA:=λ_ H Q=>Q (xs.map V.str) H
variable {es:List Expr}
def AN{X:Cx}(h:bO es xs):PA X es (Cr xs):=by
 induction h with
 | nil=>exact zb
 | @cons x k p es xs h e=>exact(za zm e:PA X (.Constant (.str x) k p::es) (mM (tC (.str x)) (Cr xs)))
def Hj(xs:List Str):TE:=λ_ H Q=>xs.length<=sizeLine/\∀p,H p=none->Q (.ref p) (upd H p (.lst (xs.map V.str)))
def nt{X:Cx}(h:bO es xs):PE X (.List es pos) (Hj xs):=by
 intro e s t H Q I q;refine zv (AN h) e s t H Q I ?_;exact⟨by rw[q06];exact q.1,q.2⟩
def Z5{t:Option Expr}{l:Nat}{env:Env}:swapsWith (.List es pos) t l env=pure false:=rfl
section
variable {X:Cx}
inductive uh (K:Frag)(x y:V)(H:Hp)(Q:VK):Prop|mk(a:_)(b:_)(xs:_):x=.ref a->y=.ref b->ah K H a xs->ah K H b []->Q (.bl (decide (xs.length=0))) H->uh K x y H Q
def Hk(K:Frag):R2:=λx y H Q=>uh K x y H Q
def Od(n:X.A.units<cLine):eN X (compareOp .Eq) (Hk X.K):=by
 intro k s o H x y v u Q I w r h;obtain⟨a,b,xs,rfl,rfl,e,t,q⟩:=h;cases xs with
 | nil=>exact Fi n k s o H _ _ v u Q I w r ⟨a,b,[],[],rfl,rfl,e,t,rfl,rfl,q⟩
 | cons z xs =>
   cases w;cases r;obtain⟨p,l,i,f⟩:=I.list e;obtain⟨g,m,j,B⟩:=I.list t;have c:=l.length;have d:=m.length;exact SeqAt.eq_list_lengthsAt i.isList j.isList (by simp at c d;simp;lia) n ⟨.bl false,H,I,rfl,q⟩
end
end L2
namespace M14
open PySem PySem.W PyProof.Rows
abbrev g(p:Array Nat)(i:Nat):Nat:=p.getD i 0
variable {p:Array Nat}
def ui{q:Array Nat}{i j:Nat}(h:p[i]? = q[j]?):g p i=g q j:=by
 show p.getD i 0=q.getD j 0;rw[Array.getD_eq_getD_getElem?,Array.getD_eq_getD_getElem?,h]
def rf{i j:Nat}(t:j<=p.size)(k:Nat):g (kas_rev p i j) k=if i<=k/\k<j then g p (i+j-1-k)else g p k:=by
 have e:=getElem?_mirror_all (xs:=p) (i:=i) t k;by_cases c:i<=k/\k<j
 .rw[q01 c]at e ⊢;exact ui e
 .rw[q00 c]at e ⊢;exact ui e
def Hl{s d:Nat}(hs:s<p.size)(hd:d<=s)(k:Nat):g (bubble p s d) k=if k=s-d then g p s else if s-d<k/\k<=s then g p (k-1)else g p k:=by
 have e:=getElem?_bubble hs d hd k;by_cases c:k=s-d
 .rw[q01 c]at e ⊢;exact ui e
 .rw[q00 c]at e ⊢;by_cases t:s-d<k/\k<=s
  .rw[q01 t]at e ⊢;exact ui e
  .rw[q00 t]at e ⊢;exact ui e
section
variable (key:Nat->Int)(N:Nat)
def R(a b:Nat):Prop:=key a<key b\/key a=key b/\a<b
structure B (p:Array Nat) (m:Nat):Prop where
 pm:p.Perm (List.range N).toArray
 tl:∀i,m<=i->i<N->g p i=i
 lo:∀i,i<m->g p i<m
 le:m<=N
def I(p:Array Nat)(m:Nat):Prop:=B N p m/\∀i j,i<j->j<m->R key (g p i) (g p j)
def E(p:Array Nat)(m:Nat):Prop:=B N p m/\∀i j,i<j->j<m->R key (g p j) (g p i)
structure D (p:Array Nat) (m b:Nat):Prop where
 bs:B N p m
 lt:b<m
 ds:∀i j,i<j->j<b->R key (g p j) (g p i)
 sp:∀i j,i<b->b<=j->j<m->key (g p j)<key (g p i)
 bk:∀i j,b<=i->i<j->j<m->key (g p i)=key (g p j)/\g p i<g p j
def ck(i j:Nat)(C:Bool->Shared->Prop)(s:Shared):Prop:=i<N/\j<N/\C (decide (key i<key j)) s
variable {key N}{p:Array Nat}{m:Nat}
def B.size(b:B N p m):p.size=N:=by
 have:=b.pm.size_eq
 simpa using this
def B.lt(b:B N p m){i:Nat}(h:i<N):g p i<N:=by
 by_cases c:i<m
 .have:=b.lo i c;have:=b.le;lia
 .rw[b.tl i (by lia) h];exact h
def B.rev{i j:Nat}(b:B N p m)(n:j<=m):B N (kas_rev p i j) m:=by
 have e:j<=p.size:=by have:=b.size;have:=b.le;lia
 refine⟨(mirror_perm _ _ _ _).trans b.pm,λk t v=>?_,λk h=>?_,b.le⟩
 .rw[rf e,q00 (by lia)];exact b.tl k t v
 .rw[rf e];split
  .exact b.lo _ (by lia)
  .exact b.lo _ h
def B.up(b:B N p m)(h:m<N):B N p (m+1):=by
 refine⟨b.pm,λi v t=>b.tl i (by lia) t,λi n=>?_,h⟩;by_cases c:i<m
 .have:=b.lo i c;lia
 .have e:i=m:=by lia
  rw[e,b.tl m (le_refl _) h]
  lia
variable {b:Nat}
def R.le{a:Nat}(h:R key a b):key a<=key b:=by
 rcases h with h | h
 .lia
 .lia
def R.of{a:Nat}(h:key a<=key b)(l:a<b):R key a b:=by
 by_cases c:key a<key b
 .exact .inl c
 .exact .inr ⟨by lia,l⟩
def I.turn(h:I key N p m):E key N (kas_rev p 0 m) m:=by
 have e:m<=p.size:=by have:=h.1.size;have:=h.1.le;lia
 refine⟨h.1.rev (le_refl _),λi j v t=>?_⟩;rw[rf e,rf e,q01 ⟨zero_le _,t⟩,q01 ⟨zero_le _,by lia⟩];exact h.2 _ _ (by lia) (by lia)
def E.turn(h:E key N p m):I key N (kas_rev p 0 m) m:=by
 have e:m<=p.size:=by have:=h.1.size;have:=h.1.le;lia
 refine⟨h.1.rev (le_refl _),λi j v t=>?_⟩;rw[rf e,rf e,q01 ⟨zero_le _,by lia⟩,q01 ⟨zero_le _,t⟩];exact h.2 _ _ (by lia) (by lia)
def D.one(h:D key N p (m+1) m):E key N p (m+1):=by
 refine⟨h.bs,λi j t v=>?_⟩;by_cases c:j<m
 .exact h.ds i j t c
 .have e:j=m:=by lia
  subst e;exact .inl (h.sp i j t (le_refl _) (by lia))
def D.turn(h:D key N p m b):E key N (kas_rev p b m) m:=by
 have e:m<=p.size:=by have:=h.bs.size;have:=h.bs.le;lia
 have w:=h.lt;refine⟨h.bs.rev (le_refl _),λi j n v=>?_⟩;rw[rf e,rf e];by_cases c:j<b
 .rw[q00 (by lia),q00 (by lia)];exact h.ds i j n c
 .rw[q01 ⟨by lia,v⟩];by_cases t:i<b
  .rw[q00 (by lia)];exact .inl (h.sp i _ t (by lia) (by lia))
  .rw[q01 ⟨by lia,by lia⟩];have z:=h.bk (b+m-1-j) (b+m-1-i) (by lia) (by lia) (by lia);exact .inr z
def E.step(h:E key N p m)(a:1<=m)(w:m<N)(n:key (g p m)<key (g p (m-1))):D key N p (m+1) m:=by
 refine⟨h.1.up w,by lia,h.2,λi j s t v=>?_,λi j t v r=>by lia⟩;have e:j=m:=by lia
 subst e;by_cases c:i=j-1
 .subst c;exact n
 .have:=(h.2 i (j-1) (by lia) (by lia)).le
  lia
def D.same(h:D key N p m b)(a:m<N)(w:key (g p m)=key (g p (m-1))):D key N p (m+1) b:=by
 have d:=h.lt;refine⟨h.bs.up a,by lia,h.ds,λi j n t v=>?_,λi j t v s=>?_⟩
 .by_cases c:j<m
  .exact h.sp i j n t c
  .have e:j=m:=by lia
   subst e;rw[w];exact h.sp i _ n (by lia) (by lia)
 .by_cases c:j<m
  .exact h.bk i j t v c
  .have e:j=m:=by lia
   subst e;refine⟨?_,by rw[h.bs.tl j (le_refl _) a];exact h.bs.lo i v⟩;rw[w];by_cases r:i=j-1
   .rw[r]
   .exact(h.bk i (j-1) t (by lia) (by lia)).1
def I.up(h:I key N p m)(w:1<=m)(t:m<N)(r:¬key (g p m)<key (g p (m-1))):I key N p (m+1):=by
 refine⟨h.1.up t,λi j v a=>?_⟩;by_cases c:j<m
 .exact h.2 i j v c
 .have e:j=m:=by lia
  subst e;refine R.of ?_ (by rw[h.1.tl j (le_refl _) t];exact h.1.lo i v);by_cases n:i=j-1
  .rw[n];lia
  .have:=(h.2 i (j-1) (by lia) (by lia)).le
   lia
variable {s:Shared}
def asc{Q:Nat->Shared->Prop}:∀(f m:Nat),m+f=N->1<=m->I key N p m->(∀t,m<=t->t<=N->I key N p t->(t<N->key (g p t)<key (g p (t-1)))->Q t s)->(kas_asc p f m).kasWp (ck key N) Q s
 | 0,m,e,v,h,q=>q m (le_refl _) (by lia) h (by lia)
 | f+1,m,e,v,h,q=>by
   refine⟨h.1.lt (by lia),h.1.lt (by lia),?_⟩;by_cases c:key (g p m)<key (g p (m-1))
   .rw[q19 c];dsimp only;rw[q01 rfl];exact q m (le_refl _) (by lia) h λ_=>c
   .rw[q20 c];dsimp only;rw[q00 q23];exact asc f (m+1) (by lia) (by lia) (h.up v (by lia) c) λt w n=>q t (by lia) n
def desc{Q:Array Nat×Nat×Nat->Shared->Prop}{s:Shared}:∀(f:Nat)(p:Array Nat)(m q:Nat),m+f=N->q+1<=m->D key N p m (m-(q+1)) ->
 (∀i t n,t<=N->n+1<=t->D key N i t (t-(n+1))->Q (i,t,n) s)->(kas_desc f p m q).kasWp (ck key N) Q s
 | 0,p,m,q,e,v,h,k=>k p m q (by lia) v h
 | f+1,p,m,q,e,v,h,k=>by
   refine⟨h.bs.lt (by lia),h.bs.lt (by lia),?_⟩;by_cases c:key (g p m)<key (g p (m-1))
   .rw[q19 c];dsimp only;rw[q01 rfl];by_cases w:q > 0
    .rw[q01 w];refine desc f _ (m+1) 0 (by lia) (by lia) ?_ k;have a:m<=p.size:=by have:=h.bs.size;lia
     refine h.turn.step (by lia) (by lia) ?_;rw[rf a,rf a,q00 (by lia),q01 ⟨by lia,by lia⟩];have z:=(h.bk (m-(q+1)) (m-1) (le_refl _) (by lia) (by lia)).1;rw[show m-(q+1)+m-1-(m-1)=m-(q+1)by lia,z];exact c
    .rw[q00 w];have j:q=0:=by lia
     subst j;refine desc f _ (m+1) 0 (by lia) (by lia) ?_ k;obtain⟨r,rfl⟩:∃r,m=r+1:=⟨m-1,by lia⟩;exact E.step (D.one h) (by lia) (by lia) c
   .rw[q20 c];dsimp only;rw[q00 q23];refine⟨h.bs.lt (by lia),h.bs.lt (by lia),?_⟩;by_cases d:key (g p (m-1))<key (g p m)
    .rw[q19 d];dsimp only;rw[q01 rfl];exact k p m q (by lia) v h
    .rw[q20 d];dsimp only;rw[q00 q23];refine desc f p (m+1) (q+1) (by lia) (by lia) ?_ k;rw[show m+1-(q+1+1)=m-(q+1)by lia];exact h.same (by lia) (by lia)
variable {Q:Nat×Array Nat->Shared->Prop}
def tail3(v:1<=m)(h:E key N p m)(q:∀e t,1<=e->e<=N->I key N t e->Q (e,t) s):(kas_tail3 m N p).kasWp (ck key N) Q s:=by
 unfold kas_tail3;rw[KasT.kasWp_bind];have:=h.1.le;exact asc (N-m) m (by lia) v h.turn λe w n z _=>q e _ (by lia) n z
def UW(w:1<=m)(i:m<N)(h:E key N p m)(a:key (g p m)<key (g p (m-1)))(q:∀e t,1<=e->e<=N->I key N t e->Q (e,t) s):(kas_descPart m N p).kasWp (ck key N) Q s:=by
 unfold kas_descPart;rw[KasT.kasWp_bind];refine desc (N-(m+1)) p (m+1) 0 (by lia) (by lia) (h.step w i a) λt e v j k d=>?_;dsimp only;by_cases c:v > 0
 .rw[q01 c];exact tail3 (by lia) d.turn q
 .rw[q00 c];have n:v=0:=by lia
  subst n;obtain⟨r,rfl⟩:∃r,e=r+1:=⟨e-1,by lia⟩;exact tail3 (by lia) (D.one d) q
def count(u:1<=N)(h:I key N p 1)(q:∀v o,1<=v->v<=N->I key N o v->Q (v,o) s):(kas_count N p).kasWp (ck key N) Q s:=by
 unfold kas_count;rw[KasT.kasWp_bind];refine asc (N-1) 1 (by lia) (le_refl _) h λm t l z n=>?_;by_cases c:m=N
 .rw[q01 (by rw[c];exact beq_self_eq_true N)];exact q m p t l z
 .rw[q00 (by intro b;exact c (eq_of_beq b))];have w:m<N:=by lia
  have n:=n w;by_cases r:m > 1
  .rw[q01 r];refine⟨z.1.lt (by lia),z.1.lt (by lia),?_⟩;by_cases d:key (g p 0)<key (g p (m-1))
   .rw[q19 d];dsimp only;rw[q01 rfl];exact q m p t l z
   .rw[q20 d];dsimp only;rw[q00 q23];have k:m<=p.size:=by have:=z.1.size;lia
    refine UW t w z.turn ?_ q;rw[rf k,rf k,q00 (by lia),q01 ⟨by lia,by lia⟩,show 0+m-1-(m-1)=0 by lia]
    lia
  .rw[q00 r];have e:m=1:=by lia
   subst e;exact UW t w ⟨z.1,λi j a b=>by lia⟩ n q
def place{p:Array Nat}{k:Nat}{Q:Nat->Shared->Prop}{s:Shared}(n:k<N)(h:I key N p k):∀(f l r:Nat),r<=l+f->l<=r->r<=k->(∀i,i<l->key (g p i)<=key (g p k))->(∀i,r<=i->i<k->key (g p k)<key (g p i)) ->
 (∀t,t<=k->(∀i,i<t->key (g p i)<=key (g p k))->(∀i,t<=i->i<k->key (g p k)<key (g p i))->Q t s)->(kas_place p k f l r).kasWp (ck key N) Q s
 | 0,l,r,e,o,w,a,b,q=>q l (by lia) a λi x y=>b i (by lia) y
 | f+1,l,r,e,o,w,a,b,q=>by
   unfold kas_place;by_cases c:l >= r
   .rw[q01 c];exact q l (by lia) a λi x y=>b i (by lia) y
   .rw[q00 c];have u:(l+r)/2<r:=by lia
    have j:l<=(l+r)/2:=by lia
    generalize (l+r)/2=m at u j;refine⟨h.1.lt n,h.1.lt (by lia),?_⟩;by_cases d:key (g p k)<key (g p m)
    .rw[q19 d];dsimp only;rw[q01 rfl];refine place n h f l m (by lia) j (by lia) a (λi x y=>?_) q;by_cases v:i=m
     .rw[v];exact d
     .have:=(h.2 m i (by lia) y).le
      lia
    .rw[q20 d];dsimp only;rw[q00 q23];refine place n h f (m+1) r (by lia) (by lia) w (λi x=>?_) b q;by_cases v:i=m
     .rw[v];lia
     .have:=(h.2 i m (by lia) (by lia)).le
      lia
def I.put{k l:Nat}(v:k<N)(h:I key N p k)(y:l<=k)(a:∀i,i<l->key (g p i)<=key (g p k))(b:∀i,l<=i->i<k->key (g p k)<key (g p i)):I key N (bubble p k (k-l)) (k+1):=by
 have r:k<p.size:=by rw[h.1.size];exact v
 have t:=λi=>Hl r (Nat.sub_le k l) i;rw[show k-(k-l)=l by lia]at t;refine⟨⟨(bubble_perm _ _ _).trans h.1.pm,λi u w=>?_,λi f=>?_,v⟩,λi j d x=>?_⟩
 .rw[t,q00 (by lia),q00 (by lia)];exact h.1.tl i (by lia) w
 .rw[t];by_cases c:i=l
  .rw[q01 c,h.1.tl k (le_refl _) v];lia
  .rw[q00 c];by_cases e:l<i/\i<=k
   .rw[q01 e];have:=h.1.lo (i-1) (by lia);lia
   .rw[q00 e];have:=h.1.lo i (by lia);lia
 .rw[t i,t j];by_cases o:j<l
  .rw[q00 (by lia),q00 (by lia),q00 (by lia),q00 (by lia)];exact h.2 i j d (by lia)
  .by_cases e:j=l
   .rw[q01 e,q00 (by lia),q00 (by lia)];exact R.of (a i (by lia)) (by rw[h.1.tl k (le_refl _) v];exact h.1.lo i (by lia))
   .rw[q00 e,q01 (show l<j/\j<=k by lia)];by_cases n:i=l
    .rw[q01 n];exact .inl (b (j-1) (by lia) (by lia))
    .rw[q00 n];by_cases q:i<l
     .rw[q00 (by lia)];exact h.2 i (j-1) (by lia) (by lia)
     .rw[q01 (by lia)];exact h.2 (i-1) (j-1) (by lia) (by lia)
def bin{Q:Array Nat->Shared->Prop}(q:∀t,I key N t N->Q t s):∀(f:Nat)(p:Array Nat)(k:Nat),k+f=N->I key N p k->(kas_bin f p k).kasWp (ck key N) Q s
 | 0,p,k,e,h=>q p (by rw[add_zero]at e;rw[<-e];rw[e]at h ⊢;exact h)
 | f+1,p,k,e,h=>by
   unfold kas_bin;rw[KasT.kasWp_bind];refine place (by lia) h k 0 k (by lia) (zero_le _) (le_refl _) (λi x=>by lia) (λi x y=>by lia) λl v a b=>?_;exact bin q f _ (k+1) (by lia) (h.put (by lia) v a b)
def kR(t:1<=N):I key N (List.range N).toArray 1:=by
 have e:∀i,i<N->g (List.range N).toArray i=i:=λi h=>by
  show(List.range N).toArray.getD i 0=i;simp[Array.getD,h]
 exact⟨⟨Array.Perm.refl _,λi _ h=>e i h,λi h=>by rw[e i (by lia)];exact h,t⟩,λi j a b=>by lia⟩
def sort{Q:Array Nat->Shared->Prop}(t:1<=N)(q:∀p,I key N p N->Q p s):(kas_sort N).kasWp (ck key N) Q s:=by
 unfold kas_sort;rw[KasT.kasWp_bind];refine count t (kR t) λm p v n h=>?_;dsimp only;by_cases c:m<N
 .rw[q01 c,show max m 1=m by lia];exact bin q (N-m) p m (by lia) h
 .rw[q00 c];have e:m=N:=by lia
  subst e;exact q p h
end
end M14
namespace L2
open PySem PySem.W PySem.Calls PyProof.Rows
def uk{w:Type}{c n:Nat->Nat->(Bool->Shared->Prop)->Shared->Prop}{Q:w->Shared->Prop}(m:∀i j C v s,(∀b e,C b e->v b e)->c i j C s->n i j v s):
 ∀(t:KasT w)(s:Shared),t.kasWp c Q s->t.kasWp n Q s
 | .ret _,_,h=>h
 | .ask i j k,s,h=>m i j _ _ s (λb e z=>uk m (k b) e z) h
section
variable {X:Cx}{pins:List (Addr×Obj)}{σ:St}{H:Hp}{s:Shared}{a kS:Addr}{A:Around}{E:Value->Shared->Prop}
structure Own (X:Cx) (pins:List (Addr×Obj)) (H:Hp) (a:Addr):Prop where
 free:H a=none
 loc:a≠X.env.locals
 new:X.s₀.heap.objs.size<=a
 cell:∀x c,X.env.cells.lookup x=some c->c≠a
 pin:∀p∈X.pn++pins,p.1≠a
 fs:a∉X.fs
def Inv.own(I:Inv X pins σ H s){b:Addr}(h:s.heap.objs.size<=b):Own X pins H b:=by
 refine⟨I.aO.fresh h,λz=>?_,q38 I.sz h,λx c e z=>?_,λp n z=>?_,I.F8 h⟩
 .have:=I.lt;rw[<-z]at this;exact q02 this (Nat.not_lt.mpr h)
 .obtain⟨v,hv⟩:=I.cell x c e;obtain⟨o,t,_⟩:=hv;have:=lt_size t;rw[z]at this;exact q02 this (Nat.not_lt.mpr h)
 .have:=lt_size (I.pin p n).1;rw[z]at this;exact q02 this (Nat.not_lt.mpr h)
def Inv.swap{f:Obj->Obj}(I:Inv X pins σ H s)(o:Own X pins H a):Inv X pins σ H { s with heap:=s.heap.update a f } :=
 I.turned (it:=a) (λb u e t=>(get?_update_other s.heap f (Ne.symm e)).trans t) o.free o.loc (.inr o.new) o.cell o.pin
variable {u:Obj}
def Inv.hold(I:Inv X pins σ H s)(o:Own X pins H a)(e:s.heap.get? a=some u)(n:∀v,u.data ≠ .cell v):Inv X ((a,u)::pins) σ H s :=
 I.fv λp t=>by
  rcases q27.mp t with rfl | t
  .exact⟨e,o.free,o.loc,o.fs,n⟩
  .exact I.pin p (mem_append_right _ t)
def Inv.drop{p:Addr×Obj}(I:Inv X (p::pins) σ H s):Inv X pins σ H s :=
 I.fv λq e=>I.pin q (mem_append_right _ (q13 _ e))
def Inv.held(I:Inv X ((a,u)::pins) σ H s):s.heap.get? a=some u:=(I.pin (a,u) (mem_append_right _ (q14 ..))).1
def Own.more(o:Own X pins H a)(h:kS≠a):Own X ((kS,u)::pins) H a :=
 ⟨o.free,o.loc,o.new,o.cell,λp e=>by
  rcases List.mem_append.mp e with z | z
  .exact o.pin p (mem_append_left _ z)
  .rcases q27.mp z with rfl | z
   .exact h
   .exact o.pin p (mem_append_right _ z),o.fs⟩
def cu{vs:Array Value}{n:Nat}:∀v,(seqObj "list" vs n).data ≠ .cell v:=λv z=>by cases z
def Oe:∀{v:List Value}{e:List Int},IntsAre v e->∀i,i<e.length->∃t,v.getD i Value.none=Value.int (e.getD i 0) t
 | _,_,.cons n t r,0,_=>⟨t,rfl⟩
 | _,_,.cons n t r,i+1,h=>Oe r i (by simpa using h)
def UX{vs:List Value}{kz:List Int}{h:Nat}{body:Value->PUnit->Sem (ForInStep PUnit)}(m:kz.length=vs.length)
 (d:∀(v:Value)(t:List Value)(e:Nat)(s:Shared),vs[t.length]? = some v->Inv X ((kS,seqObj "list" t.toArray e)::(a,seqObj "list" #[] h)::pins) σ H s->IntsAre t (kz.take t.length) ->
   wpAny (model X.prog X.w) A (body v ⟨⟩) (λr n=>r=.yield ⟨⟩/\∃(k:Value)(c:Nat),Inv X ((kS,seqObj "list" (t++[k]).toArray c)::(a,seqObj "list" #[] h)::pins) σ H n/\IntsAre (t++[k]) (kz.take (t++[k]).length)) E s) :
 ∀(r:List Value)(t:List Value)(e:Nat)(s:Shared),vs.drop t.length=r->t.length<=vs.length->Inv X ((kS,seqObj "list" t.toArray e)::(a,seqObj "list" #[] h)::pins) σ H s->IntsAre t (kz.take t.length) ->
  wpAny (model X.prog X.w) A (forIn r PUnit.unit body) (λ_ n=>∃(t:List Value)(e:Nat),Inv X ((kS,seqObj "list" t.toArray e)::(a,seqObj "list" #[] h)::pins) σ H n/\IntsAre t kz) E s
 | [],t,e,s,hd,g,I,b=>by
   rw[forIn_nil];have:vs.length<=t.length:=by
    have:=congrArg List.length hd;rw[length_drop,length_nil]at this
    lia
   refine q04 ⟨t,e,I,?_⟩;rw[take_of_length_le (by lia)]at b;exact b
 | v::r,t,e,s,hd,g,I,b=>by
   rw[forIn_cons];have i:vs[t.length]? = some v:=by
    have:=congrArg List.head? hd;rw[List.head?_drop]at this;exact this
   have f:t.length<vs.length:=(q45.mp i).1;refine q03 (wpAny_mono (d v t e s i I b) (λq n p=>?_) λ_ _ x=>x);obtain⟨rfl,k,c,l,j⟩:=p;show wpAny (model X.prog X.w) A (forIn r PUnit.unit body) _ E n;have o:(t++[k]).length=t.length+1:=by rw[q08,length_singleton]
   refine UX m d r (t++[k]) c n ?_ (by lia) l j;rw[o,<-List.drop_drop,hd];rfl
def um{st:SortSt}{h out:List Value}{e n:Nat}(I:Inv X ((kS,seqObj "list" h.toArray e)::(a,seqObj "list" #[] n)::pins) σ H s)(o:Own X pins H a)(ok:Own X pins H kS)(c:kS≠a)(x:h.length<64)(q:out.length<64)
 (m:(arrOf st).map (·.2)=List.toArray out) (k:failedOf st=none) :
 wpAny (model X.prog X.w) A (ksk_tail a false n (.ref kS) st) (λr b=>r=.done (.ret .none)/\Inv X pins σ H b/\∃e,b.heap.get? a=some (seqObj "list" out.toArray e)) E s:=by
 have g:=zq;have l:=I.held;have j:=I.drop.held;have d:=I.drop.drop.swap (f:=Obj.mapSeq λ_=>(#[]:Array Value)) ok;have t:(s.heap.update kS (Obj.mapSeq λ_=>(#[]:Array Value))).get? a=some (seqObj "list" #[] n):=(get?_update_other s.heap _ c).trans j;have i:=d.swap (f:=Obj.mapSeq λ_=>out.toArray) o;obtain⟨v,p⟩:∃v,((s.heap.update kS (Obj.mapSeq λ_=>(#[]:Array Value))).update a (Obj.mapSeq λ_=>out.toArray)).get? a=some (seqObj "list" out.toArray v):=⟨_,get?_update_seq t λ_=>out.toArray⟩;unfold ksk_tail
 try dsimp only
 rw[m];refine q03 (listUpdate_at l rfl ?_ (by rw[q10];lia) (zero_le _));refine q03 (wpAny_letGo ?_);refine q03 (seqEpoch_at t rfl ?_);simp only[Bool.false_eq_true,if_false];refine q03 (listUpdate_at t rfl ?_ (zero_le _) (by rw[q10];lia));rw[k];simp only[bne_self_eq_false,Bool.false_eq_true,if_false];exact q04 ⟨rfl,i,v,p⟩
def keyed{f:Value}{vs:List Value}{n:Nat}{kz:List Int}(I:Inv X pins σ H s)(o:Own X pins H a)(C:s.heap.get? a=some (seqObj "list" vs.toArray n))(h1:1<=vs.length)(Z:vs.length<64)(hl:kz.length=vs.length)
 (g2:∀(i:Nat)(v:Value)(g1:List (Addr×Obj)) (d:Shared),vs[i]? = some v->Inv X g1 σ H d->wpAny (model X.prog X.w) A (call f [v]) (λk U=>Inv X g1 σ H U/\∃t,k=Value.int (kz.getD i 0) t) (λ_ _=>False) d) :
 wpAny (model X.prog X.w) A (ksk_tree a f false) (λr d=>r=.done (.ret .none)/\∃(p:Array Nat)(e:Nat),M14.I (λk=>kz.getD k 0) vs.length p vs.length/\Inv X pins σ H d/\d.heap.get? a=some (seqObj "list" (p.toList.map λi=>vs.getD i Value.none).toArray e)) E s:=by
 have cF:=zq;have ha:a<s.heap.objs.size:=lt_size C;have V:=I.swap (f:=Obj.mapSeq λ_=>(#[]:Array Value)) o;obtain⟨l,N⟩:∃l,(s.heap.update a (Obj.mapSeq λ_=>(#[]:Array Value))).get? a=some (seqObj "list" #[] l):=⟨_,get?_update_seq C λ_ => #[]⟩;unfold ksk_tree;refine q03 (listItems_at C rfl ?_);refine q03 (listUpdate_at C rfl ?_ (by rw[q10];lia) (zero_le _));refine q03 (seqEpoch_at N rfl ?_);refine q03 (wpAny_newTuple ?_ (by show vs.length<=_;lia));refine q03 (wpAny_newList ?_ (zero_le _));refine wpAny_holding ?_;have M:Inv X pins σ H { s with heap:=(s.heap.update a (Obj.mapSeq λ_=>(#[]:Array Value))).push (seqObj "tuple" vs.toArray 0) }:=V.kept (t':=s.toks) λb u q=>q05 _ q;have W:Inv X pins σ H { s with heap:=((s.heap.update a (Obj.mapSeq λ_=>(#[]:Array Value))).push (seqObj "tuple" vs.toArray 0)).push (seqObj "list" #[] 0) }:=M.kept (t':=s.toks) λb u q=>q05 _ q;have ok:=M.own (b:=((s.heap.update a (Obj.mapSeq λ_=>(#[]:Array Value))).push (seqObj "tuple" vs.toArray 0)).objs.size) (le_refl _);have L:((s.heap.update a (Obj.mapSeq λ_=>(#[]:Array Value))).push (seqObj "tuple" vs.toArray 0)).objs.size≠a:=by
  rw[size_push',size_update];exact ne_of_gt (lt_succ_of_lt ha)
 have O:(((s.heap.update a (Obj.mapSeq λ_=>(#[]:Array Value))).push (seqObj "tuple" vs.toArray 0)).push (seqObj "list" #[] 0)).get? ((s.heap.update a (Obj.mapSeq λ_=>(#[]:Array Value))).push (seqObj "tuple" vs.toArray 0)).objs.size=some (seqObj "list" #[] 0):=get?_push_size _ rfl;have F:(((s.heap.update a (Obj.mapSeq λ_=>(#[]:Array Value))).push (seqObj "tuple" vs.toArray 0)).push (seqObj "list" #[] 0)).get? a=some (seqObj "list" #[] l):=q05 _ (q05 _ N);show wpAny _ _ (ksk_rest a f false vs.toArray l (.ref ((s.heap.update a (Obj.mapSeq λ_=>(#[]:Array Value))).push (seqObj "tuple" vs.toArray 0)).objs.size)) _ _ { s with heap:=((s.heap.update a (Obj.mapSeq λ_=>(#[]:Array Value))).push (seqObj "tuple" vs.toArray 0)).push (seqObj "list" #[] 0) };generalize ((s.heap.update a (Obj.mapSeq λ_=>(#[]:Array Value))).push (seqObj "tuple" vs.toArray 0)).objs.size=kS at ok L O;generalize ((s.heap.update a (Obj.mapSeq λ_=>(#[]:Array Value))).push (seqObj "tuple" vs.toArray 0)).push (seqObj "list" #[] 0)=h3 at W O F;clear V M N;have J:∀e,Own X ((a,seqObj "list" #[] e)::pins) H kS:=λe=>ok.more (Ne.symm L);have I4:=(W.hold o F cu).hold (J l) O cu;unfold ksk_rest;refine q03 (wpAny_rule ?_);rw[forIn_toArray];refine q03 (wpAny_mono (UX (kz:=kz) (vs:=vs) hl (λv h e d hv I5 g=>?_) vs [] 0 _ rfl (zero_le _) I4 .nil) (λ_ d hd=>?_) λ_ _ x=>x)
 .refine q03 (wpAny_attempt (wpAny_mono (g2 h.length v _ d hv I5) (λk U hk=>?_) λ_ _ hF=>hF.elim));obtain⟨Y,t,rfl⟩:=hk;dsimp only;have cj:h.length<vs.length:=(q45.mp hv).1;have P:=Y.held;obtain⟨S,sQ⟩:∃S,(U.heap.update kS (Obj.mapSeq (·.push (Value.int (kz.getD h.length 0) t)))).get? kS=some (seqObj "list" (h++[Value.int (kz.getD h.length 0) t]).toArray S) :=
   ⟨_,by rw[show(h++[Value.int (kz.getD h.length 0) t]).toArray=h.toArray.push (Value.int (kz.getD h.length 0) t)by simp];exact get?_update_seq P (·.push _)⟩
  refine q03 (listUpdate_at P rfl ?_ (by rw[q10];lia) (by rw[Array.size_push,q10];lia));exact q04 ⟨rfl,_,S,(Y.drop.swap (J l)).hold (J l) sQ cu,by rw[q08,length_singleton,take_add_one];exact g.append (by rw[q31 (by lia),q18,q31 (by lia)];exact .cons _ t .nil)⟩
 .obtain⟨h,e,I7,g⟩:=hd;have Z6:=I7.held;have I8:=I7.drop;have g5:=I8.held;have K:h.length=vs.length:=by rw[g.length,hl]
  refine q03 (listItems_at Z6 rfl ?_);have g0:∀(G:SortSt)(p:Array Nat),M14.I (λk=>kz.getD k 0) vs.length p vs.length->arrOf G=p.map (kas_item (h.toArray.zip vs.toArray))->failedOf G=none ->
   wpAny (model X.prog X.w) A (ksk_tail a false l (.ref kS) G) (λr d=>r=.done (.ret .none)/\∃(p:Array Nat)(e:Nat),M14.I (λk=>kz.getD k 0) vs.length p vs.length/\Inv X pins σ H d/\d.heap.get? a=some (seqObj "list" (p.toList.map λi=>vs.getD i Value.none).toArray e)) E d:=λG p y R T =>
   wpAny_mono (um (out:=p.toList.map λi=>vs.getD i Value.none) I7 o ok L (by lia) (by rw[q06,Array.length_toList,y.1.size];exact Z) (kat_snds K R) T) (λr B z=>⟨z.1,p,_,y,z.2.1,z.2.2.choose_spec⟩) λ_ _ x=>x
  unfold ksk_end;simp only[Bool.false_eq_true,if_false];by_cases h2:vs.length<2
  .have oG:vs.toArray.size<2:=by rw[q10];exact h2
   rw[q01 oG,q01 oG];refine q03 (q04 ?_);refine q03 (q04 ?_);have hN:vs.length=1:=by lia
   have z:∀m,m=1->M14.I (λk=>kz.getD k 0) vs.length (List.range vs.length).toArray m:=λm e=>by rw[e];exact M14.kR h1
   refine g0 _ _ (z _ hN) ?_ rfl;have e:=kas_range (h.toArray.zip vs.toArray);rw[show(h.toArray.zip vs.toArray).size=vs.length by simp[K]]at e;exact e.symm
  .have oG:¬vs.toArray.size<2:=by rw[q10];exact h2
   rw[q00 oG,q00 oG,ksk_kind (kz:=kz) (by simpa using g) (by rw[q10];lia)];refine q03 (q04 ?_);have ask:(kas_sort vs.length).kasWp (kas_ask X.prog X.w A oneType' h) (λp B=>M14.I (λk=>kz.getD k 0) vs.length p vs.length/\B=d) d:=by
    refine uk (c:=M14.ck (λk=>kz.getD k 0) vs.length) (λi j g4 C' s0 m g3=>?_) _ _ (M14.sort h1 λp y=>⟨y,rfl⟩);obtain⟨iX,Z7,hc⟩:=g3;obtain⟨t,et⟩:=Oe g i (by lia);obtain⟨u,eu⟩:=Oe g j (by lia);unfold kas_ask;rw[et,eu];exact kat_lt_int (m _ _ hc)
   refine q03 (wpAny_mono (kat_run (Q:=λD B=>∃p:Array Nat,M14.I (λk=>kz.getD k 0) vs.length p vs.length/\arrOf D=p.map (kas_item (h.toArray.zip vs.toArray))/\failedOf D=none/\B=d) K (by lia) Z (λp' D B a1 a2 a3 a4=>⟨p',a4.1,a2,a3,a4.2⟩) ask) ?_ λ_ _ x=>x);rintro ⟨⟨⟩,D⟩ B ⟨p,y,R,T,rfl⟩;exact g0 _ _ y R T
end
end L2
namespace L2
open PySem PySem.W
abbrev xp(h:Heap)(z TI TO T:Addr)(b:Bool):Prop :=
 h.get? z=some { cls:=.type "zip",dict:=none,data:=.fields #[rawInt T,.bool b,.bool false,.ref TI,.ref TO],slots := #[] }
section
variable {P:Program}{w:World}{A:Around}{E:Value->Shared->Prop}{s:Shared}{z TI TO T i1 i2 l1 l2:Addr}{b:Bool}
def U0{Q:Bool->Shared->Prop}(e:xp s.heap z TI TO T b)(n:∃o,s.heap.get? T=some o)(q:∀t,xp t z TI TO T true->SameBut z s.heap t->Q false { s with heap:=t }):
 wpAny (model P w) A (Builtin.SmallTypes.ownedTupleIsFree (.ref z)) Q E s:=by
 obtain⟨o,a⟩:=n;unfold Builtin.SmallTypes.ownedTupleIsFree;refine q03 (wpAny_field e rfl (x:=rawInt T) rfl ?_);show wpAny _ _ (loadIfAlive ((T:Int).toNat) >>= _) _ _ _;rw[Int.toNat_natCast];refine q03 (kdx_alive a ?_);simp only[Option.isNone_some,if_false,Bool.false_eq_true];refine q03 (wpAny_field e rfl (x:=.bool b) rfl ?_);cases b with
 | true =>
   rw[q00 (show ¬((Value.bool true != Value.bool true)=true)by decide)];exact q04 (q _ e (Heap.SameBut.refl _ _))
 | false =>
   rw[q01 (show(Value.bool false != Value.bool true)=true by decide)];exact q03 (wpAny_setField_rec e (by simp) λr v h=>q04 (q r v h))
variable {k1:Nat}{xs ys:Array Value}
def uo{k2:Nat}{x y:Value}{Q:Value->Shared->Prop}(D:ZipApart z TI TO i1 i2 l1 l2)(j:xp s.heap z TI TO T b)(G:∃o,s.heap.get? T=some o)(J:IsPair s.heap TI (.ref i1) (.ref i2))
 (B:s.heap.IsListIter i1 l1 k1) (C:s.heap.IsListIter i2 l2 k2) (f:s.heap.IsList l1 xs) (u:s.heap.IsList l2 ys) (H:xs[k1]? = some x) (I:ys[k2]? = some y)
 (q:∀t,xp t z TI TO T true->t.IsListIter i1 l1 (k1+1)->t.IsListIter i2 l2 (k2+1)->IsPair t s.heap.objs.size x y->t.objs.size=s.heap.objs.size+1 ->
   (∀c o,c≠z->c≠i1->c≠i2->s.heap.get? c=some o->t.get? c=some o)->Q (.ref s.heap.objs.size) { s with heap:=t }) :
 wpAny (model P w) A (Builtin.«zip.__next__» ⟨[.ref z],[]⟩) (λr K=>∃v,r=.done (.ret v)/\Q v K) E s:=by
 show wpAny (model P w) A (field (.ref z) 2 >>= _) _ _ _;refine q03 (wpAny_field j (x:=.bool false) rfl rfl ?_);show wpAny (model P w) A (field (.ref z) 3 >>= _) _ _ _;refine q03 (wpAny_field j (x:=.ref TI) rfl rfl ?_);refine q03 (wpAny_seqItems J rfl ?_);show wpAny (model P w) A (Builtin.SmallTypes.ownedTupleIsFree (.ref z) >>= _) _ _ _;refine q03 (U0 j G λM L n=>?_);simp only[if_false,Bool.false_eq_true];rw[show(#[Value.ref i1,Value.ref i2]:Array Value)=[Value.ref i1,Value.ref i2].toArray from rfl,forIn_toArray];simp only[forIn_cons,forIn_nil];refine q03 (q03 (q03 (wpAny_holding ?_)));show wpAny (model P w) A (Builtin.SmallTypes.nextOf (.ref i1) >>= _) _ _ _;refine q03 (wpAny_nextOf_list_item (B.extBut n.extBut D.i1z) (f.extBut n.extBut D.l1z) H λN k a=>q04 (q04 ?_));refine q03 (q03 (wpAny_holding ?_));show wpAny (model P w) A (Builtin.SmallTypes.nextOf (.ref i2) >>= _) _ _ _;refine q03 (wpAny_nextOf_list_item ((C.extBut n.extBut D.i2z).extBut a.extBut D.i12.symm) ((u.extBut n.extBut D.l2z).extBut a.extBut D.l2i1) I λh l d=>q04 (q04 (q04 ?_)));refine q03 (wpAny_newTuple (q04 ⟨_,rfl,?_⟩) (by show 2<=sizeLine;decide));have i:h.objs.size=s.heap.objs.size:=by rw[d.1,a.1,n.1]
 show Q (.ref h.objs.size) _;rw[i];have up:∀c o,h.get? c=some o->(h.push { cls:=.type "tuple",data:=.seq #[x,y] }).get? c=some o:=λc o e=>q05 _ e;refine q _ (up _ _ (d.extBut _ _ D.i2z.symm (a.extBut _ _ D.i1z.symm L))) ?_ ?_ ?_ ?_ λc o m p g e=>up _ _ (d.extBut _ _ g (a.extBut _ _ p (n.extBut _ _ m e)))
 .exact(k.extBut d.extBut D.i12).at λo e=>up _ o e
 .exact l.at λo e=>up _ o e
 .rw[<-i];exact get?_push_size _ rfl
 .exact(size_push ..).trans (by rw[i])
def uq{k2:Nat}{ys:Array Value}{Q:Fin->Shared->Prop}(k:A.handled=none)(D:ZipApart z TI TO i1 i2 l1 l2)(v:xp s.heap z TI TO T b)(i:∃o,s.heap.get? T=some o)(p:IsPair s.heap TI (.ref i1) (.ref i2))
 (d:s.heap.IsListIter i1 l1 k1) (h:s.heap.IsList l1 xs) (l:xs[k1]? = none)
 (q:∀t e,(∀c o,c≠z->c≠i1->c≠i2->s.heap.get? c=some o->t.get? c=some o)->(∃o,t.get? e=some o/\o.cls=.type "StopIteration")->E (.ref e) { s with heap:=t }) :
 wpAny (model P w) A (Builtin.«zip.__next__» ⟨[.ref z],[]⟩) Q E s:=by
 show wpAny (model P w) A (field (.ref z) 2 >>= _) _ _ _;refine q03 (wpAny_field v (x:=.bool false) rfl rfl ?_);show wpAny (model P w) A (field (.ref z) 3 >>= _) _ _ _;refine q03 (wpAny_field v (x:=.ref TI) rfl rfl ?_);refine q03 (wpAny_seqItems p rfl ?_);show wpAny (model P w) A (Builtin.SmallTypes.ownedTupleIsFree (.ref z) >>= _) _ _ _;refine q03 (U0 v i λu f n=>?_);simp only[if_false,Bool.false_eq_true];rw[show(#[Value.ref i1,Value.ref i2]:Array Value)=[Value.ref i1,Value.ref i2].toArray from rfl,forIn_toArray];simp only[forIn_cons,forIn_nil];refine q03 (q03 (q03 (wpAny_holding ?_)));show wpAny (model P w) A (Builtin.SmallTypes.nextOf (.ref i1) >>= _) _ _ _;refine q03 (wpAny_nextOf_list_end k (d.extBut n.extBut D.i1z) (h.extBut n.extBut D.l1z) l λm e g j=>?_);exact q m e (λc o a r _ x=>g _ _ r (n.extBut _ _ a x)) j
variable {Q:Option Value->Shared->Prop}
def pe{k2:Nat}{x y:Value}(D:ZipApart z TI TO i1 i2 l1 l2)(v:xp s.heap z TI TO T b)(p:∃o,s.heap.get? T=some o)(f:IsPair s.heap TI (.ref i1) (.ref i2))
 (l:s.heap.IsListIter i1 l1 k1) (m:s.heap.IsListIter i2 l2 k2) (k:s.heap.IsList l1 xs) (j:s.heap.IsList l2 ys) (g:xs[k1]? = some x) (u:ys[k2]? = some y)
 (q:∀e,xp e z TI TO T true->e.IsListIter i1 l1 (k1+1)->e.IsListIter i2 l2 (k2+1)->IsPair e s.heap.objs.size x y->e.objs.size=s.heap.objs.size+1 ->
   (∀c o,c≠z->c≠i1->c≠i2->s.heap.get? c=some o->e.get? c=some o)->Q (some (.ref s.heap.objs.size)) { s with heap:=e }) :
 wpAny (model P w) A (pyNext (.ref z)) Q E s:=by
 have t:s.TypeIs (.ref z) "zip":=⟨_,v,rfl⟩;unfold pyNext;exact q03 (wpAny_attempt (wpAny_callSpecial?_slot (name:=("__next__":Str)) t F.slot_zip_next (wpAny_call_entry F.slot_zip_next t F.entry_zip_next
  (uo D v p f l m k j g u λe n a r h d i=>q04 (q e n a r h d i)) (F.args_zip_next_1 _))))
def pf(j:A.handled=none)(D:ZipApart z TI TO i1 i2 l1 l2)(n:xp s.heap z TI TO T b)(h:∃o,s.heap.get? T=some o)(p:IsPair s.heap TI (.ref i1) (.ref i2))
 (r:s.heap.IsListIter i1 l1 k1) (a:s.heap.IsList l1 xs) (m:xs[k1]? = none)
 (q:∀v,(∀c o,c≠z->c≠i1->c≠i2->s.heap.get? c=some o->v.get? c=some o)->Q none { s with heap:=v }):wpAny (model P w) A (pyNext (.ref z)) Q E s:=by
 have t:s.TypeIs (.ref z) "zip":=⟨_,n,rfl⟩;unfold pyNext;refine q03 (wpAny_attempt (wpAny_callSpecial?_slot (name:=("__next__":Str)) t F.slot_zip_next (wpAny_call_entry F.slot_zip_next t F.entry_zip_next
  (uq (k2:=0) (ys := #[]) j D n h p r a m λv e k i=>?_) (F.args_zip_next_1 _))))
 obtain⟨o,l,d⟩:=i;exact q03 (wpAny_isInstance (T:= "StopIteration") (b:=true) ⟨o,l,d⟩ isSubtype_stop (q04 (q _ k)))
def xq(z TI TO i1 i2 l1 l2:Addr)(xs ys:Array Value)(i:Nat)(s:Shared):Prop :=
 IsPair s.heap TI (.ref i1) (.ref i2)/\s.heap.IsListIter i1 l1 i/\s.heap.IsListIter i2 l2 i/\s.heap.IsList l1 xs/\s.heap.IsList l2 ys /\
  ((i=0/\IsZip s.heap z TI TO .none/\∃a b,IsPair s.heap TO a b)\/(0<i/\∃(T:Addr)(b:Bool),xp s.heap z TI TO T b/\∃o,s.heap.get? T=some o))
end
end L2
namespace L2
open PySem PySem.W PyProof.Rows
section
variable {X:Cx}{pins:List (Addr×Obj)}{σ:St}{H:Hp}{s:Shared}{h':Heap}{t':Nat}{ch:List Addr}
def Inv.moved(I:Inv X pins σ H s)(o:∀c∈ch,Own X pins H c)(k:∀b u,b∉ch->s.heap.get? b=some u->h'.get? b=some u):Inv X pins σ H { s with heap:=h',toks:=t' }:=by
 have a:∀b u,H b=some u->b∉ch:=λb u e z=>by rw[(o b z).free]at e;cases e
 have d:X.env.locals∉ch:=λz=>(o _ z).loc rfl;refine I.step (g':=s.gens) (d':=s.drawn) (ch:=ch) (λb w=>⟨.inr (o b w).new,(o b w).loc,(o b w).cell,(o b w).pin⟩) (λb u _ _ t e _=>k b u t e) (λb u _ _ t e _=>⟨u.slots,k b u t e⟩)
  (λ_ _ _ _ n=>n) (λb u t e=>⟨u,k b u t e⟩) (λ_ _ e=>e) (λ_ _ _ e=>e) (λb i e=>⟨#[],by rw[e];simp⟩) (λm h=>?_) (λb u e=>?_) I.bare
 .obtain⟨ob,es,ep,ho,r⟩:=h;exact⟨ob,es,ep,k _ ob d ho,r⟩
 .refine(I.aO b u e).dJ (λc v t q=>k c v ?_ q) (λ_ q=>q) λ_ _ q=>q;rcases t with z | z
  .rw[z];exact a b u e
  .exact a c _ z
variable {T:Addr}
def Inv.D6{v:HO}(I:Inv X pins σ H s)(o:∀c∈ch,Own X pins H c)(k:∀b u,b∉ch->s.heap.get? b=some u->h'.get? b=some u)(h:s.heap.objs.size<=T)(new:bH X.prog X.w (upd H T v) h' T v):
 Inv X pins σ (upd H T v) { s with heap:=h',toks:=t' }:=by
 have i:H T=none:=I.aO.fresh h;have d:∀b u,H b=some u->b∉ch:=λb u e z=>by rw[(o b z).free]at e;cases e
 have l:X.env.locals∉ch:=λz=>(o _ z).loc rfl;have up:∀b u,H b=some u->upd H T v b=some u:=λb u e=>by rw[zi (zk e i)];exact e
 refine I.step (g':=s.gens) (d':=s.drawn) (ch:=ch) (λb t=>⟨.inr (o b t).new,(o b t).loc,(o b t).cell,(o b t).pin⟩) (λb u _ _ a e _=>k b u a e) (λb u _ _ a e _=>⟨u.slots,k b u a e⟩)
  (λb u _ e n=>?_) (λb u a e=>⟨u,k b u a e⟩) (λb _ e=>up b _ e) (λb _ _ e=>up b _ e) (λb p e=>⟨#[],by rw[up b _ e];simp⟩) (λm j=>?_) (λb u e=>?_) I.bare
 .rw[zi (λz=>by rw[z]at e;exact q02 (lt_size e) (Nat.not_lt.mpr h))];exact n
 .obtain⟨ob,es,ep,ho,r⟩:=j;exact⟨ob,es,ep,k _ ob l ho,r⟩
 .by_cases t:b=T
  .subst t;rw[zd]at e;cases e;exact new
  .rw[zi t]at e;refine(I.aO b u e).dJ (λc w a q=>k c w ?_ q) (λc q=>up c _ q) λc _ q=>up c _ q;rcases a with z | z
   .rw[z];exact d b u e
   .exact d c _ z
def Own.upd{c:Addr}{v:HO}(o:Own X pins H c)(h:c≠T):Own X pins (upd H T v) c:=⟨by rw[zi h];exact o.free,o.loc,o.new,o.cell,o.pin,o.fs⟩
variable {A:Around}{E:Value->Shared->Prop}{z TI TO i1 i2 l1 l2 S:Addr}{xs ys:List Value}{xv yv:List V}
def ur{i:Nat}{x y:Value}{M N:V}{Q:Option Value->Shared->Prop}(I:Inv X pins σ H s)(o:∀c ∈ [z,TO,i1,i2],Own X pins H c)(D:ZipApart z TI TO i1 i2 l1 l2)(st:xq z TI TO i1 i2 l1 l2 xs.toArray ys.toArray i s)
 (hx:xs[i]? = some x) (hy:ys[i]? = some y) (rx:RelV M x) (ry:RelV N y)
 (q:∀l,Inv X pins σ (L2.upd H s.heap.objs.size (.tup [M,N])) l->xq z TI TO i1 i2 l1 l2 xs.toArray ys.toArray (i+1) l->(∀b u,b ∉ [z,TO,i1,i2]->s.heap.get? b=some u->l.heap.get? b=some u)->l.heap.objs.size=s.heap.objs.size+1->Q (some (.ref s.heap.objs.size)) l) :
 wpAny (model X.prog X.w) A (pyNext (.ref z)) Q E s:=by
 obtain⟨f,J,K,g,p,j⟩:=st;have B:xs.toArray[i]? = some x:=by simpa using hx
 have C:ys.toArray[i]? = some y:=by simpa using hy
 have O:TI ∉ [z,TO,i1,i2]:=by simp[D.TIz,D.TITO,D.TIi1,D.TIi2]
 have n1:l1 ∉ [z,TO,i1,i2]:=by simp[D.l1z,D.l1TO,D.l1i1,D.l1i2]
 have n2:l2 ∉ [z,TO,i1,i2]:=by simp[D.l2z,D.l2TO,D.l2i1,D.l2i2]
 have d:∀(h':Heap)(b:Bool)(T:Addr),xp h' z TI TO T b->(∃u,h'.get? T=some u)->h'.IsListIter i1 l1 (i+1)->h'.IsListIter i2 l2 (i+1)->IsPair h' s.heap.objs.size x y->h'.objs.size=s.heap.objs.size+1 ->
  (∀c u,c ∉ [z,TO,i1,i2]->s.heap.get? c=some u->h'.get? c=some u)->Q (some (.ref s.heap.objs.size)) { s with heap:=h' }:=λh' b T U W Y Z F P k=>by
  refine q _ (I.D6 (t':=s.toks) o k (le_refl _) ⟨by show 2<=sizeLine;decide,[x,y],.cons rx (.cons ry .nil),_,F,rfl,_,rfl⟩) ⟨k _ _ O f,Y,Z,g.at λu e=>k _ u n1 e,p.at λu e=>k _ u n2 e,.inr ⟨Nat.succ_pos _,T,b,U,W⟩⟩ k P
 rcases j with⟨rfl,j,g0,b,xt⟩|⟨hi,T,b,j,L⟩
 .refine wpAny_pyNext_zip_item D j f xt J K g p B C λh' v r n h a R k=>?_;exact d h' false _ v ⟨_,a⟩ n h a R λc u t e=>k c u (λw=>t (by simp[w])) (λw=>t (by simp[w])) (λw=>t (by simp[w])) (λw=>t (by simp[w])) e
 .refine pe D j L f J K g p B C λh' v r n h a k=>?_;have m:∀c u,c ∉ [z,TO,i1,i2]->s.heap.get? c=some u->h'.get? c=some u:=λc u t e=>k c u (λw=>t (by simp[w])) (λw=>t (by simp[w])) (λw=>t (by simp[w])) e;obtain⟨u,S⟩:=L;by_cases G:T=z
  .exact d h' true T v ⟨_,by rw[G];exact v⟩ r n h a m
  .by_cases c2:T=i1
   .obtain⟨w,hw,_⟩:=id r;exact d h' true T v ⟨w,by rw[c2];exact hw⟩ r n h a m
   .by_cases c3:T=i2
    .obtain⟨w,hw,_⟩:=id n;exact d h' true T v ⟨w,by rw[c3];exact hw⟩ r n h a m
    .exact d h' true T v ⟨u,k T u G c2 c3 S⟩ r n h a m
abbrev j8(H:Hp)(ts:List Addr)(ps:List (V×V)):Prop:=Paired (λt (p:V×V)=>H t=some (.tup [p.1,p.2])) ts ps
variable {ts:List Addr}{ps:List (V×V)}
def j8.upd{v:HO}(h:j8 H ts ps)(t:H T=none):j8 (L2.upd H T v) ts ps:=by
 induction h with
 | nil=>exact .nil
 | cons e _ n=>exact .cons (by rw[zi (zk e t)];exact e) n
def j8.snoc{t:Addr}{p:V×V}(h:j8 H ts ps)(e:H t=some (.tup [p.1,p.2])):j8 H (ts++[t]) (ps++[p]):=by
 induction h with
 | nil=>exact .cons e .nil
 | cons a _ v=>exact .cons a v
def ny:∀{xv:List V}{xs:List Value},Vals xv xs->∀(i:Nat)(h:i<xv.length),∃x,xs[i]? = some x/\RelV xv[i] x:=by
 intro xv xs r
 induction r with
 | nil=>intro i h;exact q02 h (Nat.not_lt_zero _)
 | cons e _ t =>
   intro i h;cases i with
   | zero=>exact⟨_,rfl,e⟩
   | succ i=>exact t i (by simpa using h)
def xq.keep{i:Nat}{h':Heap}(st:xq z TI TO i1 i2 l1 l2 xs.toArray ys.toArray i s)(j:0<i)(k:∀b u,b≠S->s.heap.get? b=some u->h'.get? b=some u)(he:∃u,h'.get? S=some u)(l:S ∉ [z,TO,i1,i2])(t:S≠TI/\S≠l1/\S≠l2):
 xq z TI TO i1 i2 l1 l2 xs.toArray ys.toArray i { s with heap:=h' }:=by
 obtain⟨v,w,a,r,h,d⟩:=st;have n:∀c ∈ [z,TO,i1,i2],c≠S:=λc m e=>l (e ▸ m);refine⟨k _ _ (Ne.symm t.1) v,w.at λu e=>k _ u (n _ (by simp)) e,a.at λu e=>k _ u (n _ (by simp)) e,r.at λu e=>k _ u (Ne.symm t.2.1) e,h.at λu e=>k _ u (Ne.symm t.2.2) e,?_⟩;rcases d with⟨q,_⟩|⟨_,T,b,p,u,o⟩
 .lia
 .refine .inr ⟨j,T,b,k _ _ (n _ (by simp)) p,?_⟩;by_cases c:T=S
  .rw[c];exact he
  .exact⟨u,k T u c o⟩
def uu{res:Value}{R:Result->Shared->Prop}(Z:A.in1.handled=none)(D:ZipApart z TI TO i1 i2 l1 l2)(l:S ∉ [z,TO,i1,i2])(O:S≠TI/\S≠l1/\S≠l2)(K:Vals xv xs)(L:Vals yv ys)(hl:xv.length=yv.length)(hn:xv.length<64):
 ∀(k i:Nat)(s:Shared)(H:Hp)(ts:List Addr)(c:Nat),xv.length-i=k->i<=xv.length->0<xv.length->Inv X pins σ H s->(∀c ∈ [z,TO,i1,i2],Own X pins H c/\c<s.heap.objs.size)->Own X pins H S->S<s.heap.objs.size ->
  xq z TI TO i1 i2 l1 l2 xs.toArray ys.toArray i s->s.heap.get? S=some { cls:=.type "list",dict:=none,data:=.seq (ts.map Value.ref).toArray c,slots := #[] }->ts.length=i->j8 H ts ((xv.zip yv).take i) ->
  (∀t a ts,Inv X pins σ a t->ae H a->j8 a ts (xv.zip yv)->Own X pins a S->(∃c,t.heap.get? S=some { cls:=.type "list",dict:=none,data:=.seq (ts.map Value.ref).toArray c,slots := #[] })->R (.ok (.ret res)) t) ->
  codeAny (model X.prog X.w) A (.builtin "list.extend.loop" ⟨[.ref S,.ref z,res],[]⟩) R s:=by
 have lx:=K.length;have ly:=L.length;intro k
 induction k with
 | zero =>
   intro i s H ts c E P C I o f g x j r h q;have e:i=xv.length:=by lia
   subst e;refine codeAny_builtin F.entry_extend_loop ?_;rw[Around.under_plainId F.plain_extend_loop _];show wpAny (model X.prog X.w) A.in1 (pyNext (.ref z) >>= _) _ _ s;obtain⟨iF,W,h2,V,di,m⟩:=x;rcases m with⟨z0,_⟩|⟨_,T,b,m,Y⟩
   .lia
   refine q03 (pf Z D m Y iF W V (by simp;lia) λh' p=>?_);have J:∀b u,b ∉ [z,TO,i1,i2]->s.heap.get? b=some u->h'.get? b=some u:=λb u n e=>p b u (λw=>n (by simp[w])) (λw=>n (by simp[w])) (λw=>n (by simp[w])) e;rw[take_of_length_le (by rw[length_zip];lia)]at h;exact q04 (q _ H ts (I.moved (t':=s.toks) (λc v=>(o c v).1) J) (ae.refl _) h f ⟨c,J S _ l j⟩)
 | succ k ih =>
   intro i s H ts c E P C I o f g x j r h q;have U:i<xv.length:=by lia
   refine codeAny_builtin F.entry_extend_loop ?_;rw[Around.under_plainId F.plain_extend_loop _];show wpAny (model X.prog X.w) A.in1 (pyNext (.ref z) >>= _) _ _ s;obtain⟨g0,hx,vx⟩:=ny K i U;obtain⟨g1,hy,vy⟩:=ny L i (by lia);refine q03 (ur I (λc v=>(o c v).1) D x hx hy vx vy λt Q kf p N=>?_);have y:=p S _ l j;have G:H s.heap.objs.size=none:=I.aO.fresh (le_refl _);have B:Own X pins (L2.upd H s.heap.objs.size (.tup [xv[i],yv[i]])) S:=f.upd (ne_of_lt g);obtain⟨d,M⟩:∃d,(t.heap.update S (Obj.mapSeq (·.push (Value.ref s.heap.objs.size)))).get? S=some { cls:=.type "list",dict:=none,data:=.seq ((ts++[s.heap.objs.size]).map Value.ref).toArray d,slots := #[] } :=
    ⟨_,by rw[show((ts++[s.heap.objs.size]).map Value.ref).toArray=(ts.map Value.ref).toArray.push (Value.ref s.heap.objs.size)by simp];exact get?_update_seq y (·.push _)⟩
   have ko:∀b u,b≠S->t.heap.get? b=some u->(t.heap.update S (Obj.mapSeq (·.push (Value.ref s.heap.objs.size)))).get? b=some u:=λb u n e=>(get?_update_other _ _ (Ne.symm n)).trans e;have cF:=zq;show wpAny (model X.prog X.w) A.in1 (updateSeq S (·.push (Value.ref s.heap.objs.size)) >>= _) _ _ _;refine q03 ?_;refine wpAny_updateSeq y rfl (q04 ⟨plainId_quiet F.plain_extend_loop _,ih (i+1) _ _ (ts++[s.heap.objs.size]) d (by lia) (by lia) C (Q.swap B) (λc v=>?_) B ?_ (kf.keep (Nat.succ_pos _) ko ⟨_,M⟩ l O) M (by rw[q08,r];rfl) ?_ ?_⟩) ?_ ?_
   .refine⟨((o c v).1).upd (ne_of_lt (o c v).2),?_⟩;show c<(t.heap.update S _).objs.size;rw[size_update,N];exact lt_succ_of_lt (o c v).2
   .show S<(t.heap.update S _).objs.size;rw[size_update,N];exact lt_succ_of_lt g
   .have e:(xv.zip yv).take (i+1)=(xv.zip yv).take i++[(xv[i],yv[i])]:=by
     rw[take_add_one,q31 (by rw[length_zip];lia)];simp
    rw[e];exact(h.upd G).snoc zd
   .intro s2 H2 Z8 J1 J2 J3 J4 J5;exact q s2 H2 Z8 J1 ((ae.new G).trans J2) J3 J4 J5
   .rw[q10,q06,r];lia
   .rw[Array.size_push,q10,q06,r];lia
end
end L2
namespace L2
open PySem PySem.W PyProof.Rows PySem.Calls
def AO:typeLookup (.type "zip") "__len__"=pure none:=by rw[typeLookup_type,builtinLookup_eq_fast];kernel_rfl
def uv:typeLookup (.type "zip") "__length_hint__"=pure none:=by rw[typeLookup_type,builtinLookup_eq_fast];kernel_rfl
section
variable {X:Cx}{pins:List (Addr×Obj)}{σ:St}{H:Hp}{s:Shared}{A:Around}{E:Value->Shared->Prop}{z TI TO i1 i2 l1 l2:Addr}{xs ys:List Value}{xv yv:List V}
def Z9{Q:List Value->Shared->Prop}(hh:A.in1.handled=none)(D:ZipApart z TI TO i1 i2 l1 l2)(rx:Vals xv xs)(ry:Vals yv ys)(hl:xv.length=yv.length)(hn:xv.length<64)(Y:0<xv.length)
 (I:Inv X pins σ H s) (o:∀c ∈ [z,TO,i1,i2],Own X pins H c/\c<s.heap.objs.size) (st:xq z TI TO i1 i2 l1 l2 xs.toArray ys.toArray 0 s)
 (q:∀n v d,Inv X pins σ v n->ae H v->j8 v d (xv.zip yv)->Q (d.map Value.ref) n):wpAny (model X.prog X.w) A (collect (.ref z)) Q E s:=by
 have r:IsZip s.heap z TI TO .none:=by
  rcases st.2.2.2.2.2 with⟨_,r,_⟩|⟨g2,_⟩
  .exact r
  .lia
 have lt:∀{c u},s.heap.get? c=some u->c<s.heap.objs.size:=λe=>lt_size e;have lz:=(o z (by simp)).2;have P:s.heap.objs.size≠z:=ne_of_gt lz;have k:=I.own (b:=s.heap.objs.size) (le_refl _);unfold collect;refine q03 (wpAny_runValue (codeAny_builtin F.entry_proto_collect ?_));rw[Around.under_plainId F.plain_proto_collect _];show wpAny (model X.prog X.w) A.in1 (newList [] >>= λg0=>again (.builtin "list.__iadd__" ⟨[g0,.ref z],[]⟩)) _ _ s;refine q03 (wpAny_newList ?_ (zero_le _));have p:Inv X pins σ H { s with heap:=s.heap.push { cls:=.type "list",data:=.seq ([]:List Value).toArray } }:=I.kept (t':=s.toks) λb u e=>q05 _ e;have i:(s.heap.push { cls:=.type "list",data:=.seq ([]:List Value).toArray }).get? s.heap.objs.size=some { cls:=.type "list",data:=.seq ([]:List Value).toArray }:=get?_push_size _ rfl;have h:∀b u,s.heap.get? b=some u->(s.heap.push { cls:=.type "list",data:=.seq ([]:List Value).toArray }).get? b=some u:=λb u e=>q05 _ e;have G:(s.heap.push { cls:=.type "list",data:=.seq ([]:List Value).toArray }).objs.size=s.heap.objs.size+1:=size_push ..;show wpAny (model X.prog X.w) A.in1 (again (.builtin "list.__iadd__" ⟨[.ref s.heap.objs.size,.ref z],[]⟩)) _ _ { s with heap:=s.heap.push { cls:=.type "list",data:=.seq ([]:List Value).toArray } };generalize s.heap.push { cls:=.type "list",data:=.seq ([]:List Value).toArray }=w at p i h G;refine q04 ⟨plainId_quiet F.plain_list_iadd _,codeAny_builtin F.entry_list_iadd ?_⟩;rw[Around.under_plainId F.plain_list_iadd _];show wpAny (model X.prog X.w) A.in1 (Builtin.List.listExtendWith (.ref s.heap.objs.size) (.ref z) (.ref s.heap.objs.size)) _ _ _;unfold Builtin.List.listExtendWith;have l:Shared.TypeIs { s with heap:=w } (.ref z) "zip":=⟨_,h _ _ r,rfl⟩;refine q03 (wpAny_typeOf l ?_);have U:Builtin.List.listSameRef (.ref s.heap.objs.size) (.ref z)=false:=by simp[Builtin.List.listSameRef,P]
 have V:(Value.type "zip" == Value.type "list")=false:=by decide
 have W:(Value.type "zip" == Value.type "tuple")=false:=by decide
 simp only[U,V,W,Bool.or_false,if_false,Bool.false_eq_true];refine q03 (wpAny_pyIter_zip (h _ _ r) ?_);refine q03 (wpAny_holding ?_);unfold Builtin.List.listLengthHint;refine q03 (wpAny_specialOf l AO ?_);show wpAny (model X.prog X.w) A.in1 (specialOf (Value.ref z) ("__length_hint__":Str) >>= _) _ _ _;refine q03 (wpAny_specialOf l uv (q04 ?_));show wpAny (model X.prog X.w) A.in1 (rule "list.extend.makes-room" >>= λ_=>Builtin.List.listTouch (.ref s.heap.objs.size) >>= λ_=>again (.builtin "list.extend.loop" ⟨[.ref s.heap.objs.size,.ref z,.ref s.heap.objs.size],[]⟩)) _ _ _;refine q03 (wpAny_rule (q03 ?_));show wpAny (model X.prog X.w) A.in1 (updateSeq s.heap.objs.size (·.push .none) >>= λ_=>updateSeq s.heap.objs.size (·.pop)) _ _ _;refine q03 (wpAny_updateSeq i rfl ?_);have m:=get?_update_self (Obj.mapSeq (·.push Value.none)) i rfl;refine wpAny_updateSeq m rfl ?_;have Z:=get?_update_self (Obj.mapSeq (·.pop)) m rfl;have K:=(p.swap (f:=Obj.mapSeq (·.push Value.none)) k).swap (f:=Obj.mapSeq (·.pop)) k;have k3:∀b u,b≠s.heap.objs.size->s.heap.get? b=some u->((w.update s.heap.objs.size (Obj.mapSeq (·.push Value.none))).update s.heap.objs.size (Obj.mapSeq (·.pop))).get? b=some u :=
  λb u B e=>(get?_update_other _ _ (Ne.symm B)).trans ((get?_update_other _ _ (Ne.symm B)).trans (h b u e))
 have J:((w.update s.heap.objs.size (Obj.mapSeq (·.push Value.none))).update s.heap.objs.size (Obj.mapSeq (·.pop))).objs.size=s.heap.objs.size+1:=by rw[size_update,size_update,G]
 have t:∀b u,s.heap.get? b=some u->((w.update s.heap.objs.size (Obj.mapSeq (·.push Value.none))).update s.heap.objs.size (Obj.mapSeq (·.pop))).get? b=some u:=λb u e=>k3 b u (ne_of_lt (lt e)) e;obtain⟨g,O,R,x,y,T⟩:=st;refine q04 ⟨plainId_quiet F.plain_extend_loop _,uu (S:=s.heap.objs.size) (xs:=xs) (ys:=ys) (xv:=xv) (yv:=yv) hh D (λg1=>q37 _ (o _ g1).2) ⟨ne_of_gt (lt g),?_,?_⟩ rx ry hl hn _ 0 _ H [] _ rfl (zero_le _) Y K (λc C=>⟨(o c C).1,?_⟩) k ?_ ⟨t _ _ g,O.at λu e=>t _ u e,R.at λu e=>t _ u e,x.at λu e=>t _ u e,y.at λu e=>t _ u e,?_⟩ Z rfl .nil λn v d L M N J4 j=>?_⟩
 .obtain⟨u,hu,_⟩:=x;exact ne_of_gt (lt hu)
 .obtain⟨u,hu,_⟩:=y;exact ne_of_gt (lt hu)
 .show c<Array.size _;rw[J];exact lt_succ_of_lt (o c C).2
 .show s.heap.objs.size<Array.size _;rw[J];exact lt_succ_self _
 .rcases T with⟨_,b1,a,b,b2⟩|⟨g2,_⟩
  .exact .inl ⟨rfl,t _ _ b1,a,b,t _ _ b2⟩
  .lia
 .obtain⟨c,j⟩:=j;show wpAny (model X.prog X.w) A (load s.heap.objs.size >>= _) _ _ n;refine q03 (wpAny_load j (q04 ?_));exact q n v d L M N
end
section
variable {X:Cx}{pins:List (Addr×Obj)}{σ:St}{H:Hp}{s:Shared}{A:Around}{E:Value->Shared->Prop}{z TI TO i1 i2 l1 l2 q:Addr}{xs ys:List Value}{xv yv:List V}{kz:List Int}
def Inv.D8{T:Addr}{v:HO}(I:Inv X pins σ H s)(o:Own X pins H T)(new:bH X.prog X.w (upd H T v) s.heap T v):Inv X pins σ (upd H T v) s:=by
 have r:=o.free;have up:∀b u,H b=some u->upd H T v b=some u:=λb u e=>by rw[zi (zk e r)];exact e
 refine I.step (h':=s.heap) (g':=s.gens) (d':=s.drawn) (t':=s.toks) (ch:=[T]) (λb a=>?_) (λb u _ _ t e _=>e) (λb u _ _ t e _=>⟨u.slots,e⟩)
  (λb u t e n=>by rw[zi (λw=>t (by simp[w]))];exact n) (λb u t e=>⟨u,e⟩) (λb _ e=>up b _ e) (λb _ _ e=>up b _ e) (λb d e=>⟨#[],by rw[up b _ e];simp⟩) (λm h=>h) (λb u e=>?_) I.bare
 .rw[List.mem_singleton.mp a];exact⟨.inr o.new,o.loc,o.cell,o.pin⟩
 .by_cases a:b=T
  .subst a;rw[zd]at e;cases e;exact new
  .rw[zi a]at e;exact(I.aO b u e).dJ (λc w t k=>k) (λc k=>up c _ k) λc _ k=>up c _ k
def j8.length{ts:List Addr}{ps:List (V×V)}(h:j8 H ts ps):ts.length=ps.length:=by
 induction h with
 | nil=>rfl
 | cons _ _ e=>rw[q12,q12,e]
def znj{Q:Value->Shared->Prop}(S:A.in1.in1.handled=none)(D:ZipApart z TI TO i1 i2 l1 l2)(Z:Vals xv xs)(F:Vals yv ys)(T:xv.length=yv.length)(U:xv.length<64)(N:0<xv.length)(hk:kz.length=xv.length)
 (I:Inv X pins σ H s) (o:∀c ∈ [z,TO,i1,i2],Own X pins H c/\c<s.heap.objs.size) (st:xq z TI TO i1 i2 l1 l2 xs.toArray ys.toArray 0 s)
 (L:∀(n:Hp)(t:List Addr),ae H n->j8 n t (xv.zip yv)->∀(i:Nat)(v:Value)(G:List (Addr×Obj)) (h:Shared),(t.map Value.ref)[i]? = some v->Inv X G σ n h ->
   wpAny (model X.prog X.w) A.in1.in1 (call (.ref q) [v]) (λk Y=>Inv X G σ n Y/\∃g0,k=Value.int (kz.getD i 0) g0) (λ_ _=>False) h)
 (M:∀(h:Shared)(n:Hp)(t:List Addr)(l:Addr)(p:Array Nat),ae H n->j8 n t (xv.zip yv)->n l=none->M14.I (λk=>kz.getD k 0) xv.length p xv.length->Inv X pins σ (upd n l (.lst (p.toList.map λi=>V.ref (t.getD i 0)))) h->Q (.ref l) h) :
 wpAny (model X.prog X.w) A (call (.builtin "sorted") [.ref z] [(("key":Str),.ref q)]) Q E s:=by
 have cF:=zq;refine call_function_entry_kw kind_sorted plain_sorted entry_sorted (ksk_s1 _ _) ?_;unfold Builtin.«sorted»;refine q03 (m:=checkCount "sorted" 1 1 _) (q04 ?_);refine q03 (Z9 S D Z F T U N I o st λr g t B sm y=>?_);have lt:t.length=xv.length:=by rw[y.length,length_zip];lia
 refine q03 (wpAny_newList ?_ (by rw[q06];lia));have J:Inv X pins σ g { r with heap:=r.heap.push (seqObj "list" (t.map Value.ref).toArray 0) }:=B.kept (t':=r.toks) λb g2 e=>q05 _ e;have C:(r.heap.push (seqObj "list" (t.map Value.ref).toArray 0)).get? r.heap.objs.size=some (seqObj "list" (t.map Value.ref).toArray 0):=get?_push_size _ rfl;have x:=B.own (b:=r.heap.objs.size) (le_refl _);refine q03 (wpAny_holding (wpAny_call_entry_kw slot_list_sort ⟨_,C,rfl⟩ entry_list_sort ?body (ksk_l1 _ _)))
 case body =>
  show wpAny (model X.prog X.w) A.in1.in1 (Builtin.«list.sort» ⟨[.ref r.heap.objs.size],[(("key":Str),.ref q)]⟩) _ _ _;rw[ksk_t1];refine wpAny_mono (keyed (f:=.ref q) (kz:=kz) (vs:=t.map Value.ref) J x C (by rw[q06];lia) (by rw[q06];lia) (by rw[q06];lia) (L g t sm y)) (λg1 P w=>?_) λ_ _ w=>w;obtain⟨rfl,p,e,j,K,O⟩:=w;rw[q06,lt]at j;refine⟨_,rfl,q04 ⟨_,rfl,?_⟩⟩;refine M P g t _ p sm y x.free j (K.D8 x ⟨?_,p.toList.map λi=>(t.map Value.ref).getD i Value.none,e,?_,O⟩)
  .rw[q06,Array.length_toList,j.1.size];lia
  .have d:∀i∈p.toList,i<t.length:=λi u=>by
    have:=(j.1.pm.toList.mem_iff (a:=i)).mp u;rw[lt]
    simpa using this
   revert d;generalize p.toList=l;intro d
   induction l with
   | nil=>exact .nil
   | cons a l W =>
     have R:=d a (q14 ..);refine .cons ?_ (W λi u=>d i (q13 _ u));have e:(t.map Value.ref).getD a Value.none=Value.ref (t.getD a 0):=by simp[R]
     show RelV (V.ref (t.getD a 0)) ((t.map Value.ref).getD a Value.none);rw[e];rfl
end
section
variable {X:Cx}{pins:List (Addr×Obj)}{σ:St}{H:Hp}{s:Shared}{A:Around}{E:Value->Shared->Prop}{l1 l2:Addr}{xv yv:List V}
def uw{Q:Value->Shared->Prop}(I:Inv X pins σ H s)(x:ah X.K H l1 xv)(y:ah X.K H l2 yv)
 (q:∀(t:Shared)(z TI TO p g:Addr)(r b:List Value),Vals xv r->Vals yv b->Inv X pins σ H t->ZipApart z TI TO p g l1 l2->(∀c ∈ [z,TO,p,g],Own X pins H c/\c<t.heap.objs.size)->xq z TI TO p g l1 l2 r.toArray b.toArray 0 t->Q (.ref z) t) :
 wpAny (model X.prog X.w) A (call (.type "zip") [.ref l1,.ref l2]) Q E s:=by
 obtain⟨r,R,N,_⟩:=I.list x;obtain⟨b,S,O,_⟩:=I.list y;have i:=N.isList;have j:=O.isList;have v:l1<s.heap.objs.size:=by obtain⟨u,o,_⟩:=i;exact lt_size o
 have a:l2<s.heap.objs.size:=by obtain⟨u,o,_⟩:=j;exact lt_size o
 refine call_zip_2 i j λU G J T L M D k=>?_;have n:∀(l:Addr)(d:Nat),l<s.heap.objs.size->l≠s.heap.objs.size+d:=λl d h=>ne_of_lt (q21 h (le_add_right _ _));have m:∀d e:Nat,d≠e->s.heap.objs.size+d≠s.heap.objs.size+e:=λd e h w=>h (Nat.add_left_cancel w);refine q _ (s.heap.objs.size+4) (s.heap.objs.size+2) (s.heap.objs.size+3) (s.heap.objs.size+0) (s.heap.objs.size+1) r b R S (I.kept (t':=s.toks) k)
  ⟨m 2 4 (by decide),m 3 4 (by decide),m 0 4 (by decide),m 1 4 (by decide),m 2 3 (by decide),m 2 0 (by decide),m 2 1 (by decide),m 3 0 (by decide),m 3 1 (by decide),m 0 1 (by decide),n _ 4 v,n _ 3 v,n _ 0 v,n _ 1 v,n _ 4 a,n _ 3 a,n _ 0 a,n _ 1 a⟩ (λc f=>?_)
  ⟨J,L,M,i.at λu e=>k _ u e,j.at λu e=>k _ u e,.inl ⟨rfl,G,_,_,T⟩⟩
 have B:∃d,d<5/\c=s.heap.objs.size+d:=by
  simp only[q27,not_mem_nil,or_false]at f;rcases f with w | w | w | w
  .exact⟨4,by decide,w⟩
  .exact⟨3,by decide,w⟩
  .exact⟨0,by decide,w⟩
  .exact⟨1,by decide,w⟩
 obtain⟨d,C,rfl⟩:=B;refine⟨I.own (le_add_right _ _),?_⟩;show s.heap.objs.size+d<Array.size _;rw[D];exact Nat.add_lt_add_left C _
end
end L2
namespace L2
open PySem PySem.W PySem.Spec PyProof.Rows PySem.Calls
def AQ(mg:Str->Option Value)(h:Heap):Prop:=∃t e,mg "__builtins__"=some (.ref t)/\t≠builtinsNs/\h.get? t=some e/\e.cls=.type "module"/\e.dict=some builtinsNs/\e.data=.plain
abbrev ux(f:Addr)(o:Obj):HO:=.ext λh=>h.get? f=some o
abbrev rg(c:Addr)(q:Str):HO:=.ext λh=>h.CodeRec (.ref c) q
def bS(H H':Hp):Prop:=(∀b u,H b=some u->(∀e,u ≠ .dj e)->H' b=some u)/\∀b e,H b=some (.dj e)->∃t,H' b=some (.dj t)
variable {H H':Hp}
def ae.toN(s:ae H H'):bS H H':=⟨λb u e _=>s b u e,λb t e=>⟨t,s b _ e⟩⟩
def bS.trans{t v:Hp}(a:bS H t)(b:bS t v):bS H v:=⟨λc u e n=>b.1 c u (a.1 c u e n) n,λc r e=>let ⟨h,w⟩:=a.2 c r e;b.2 c h w⟩
def bS.free{l:Addr}(s:bS H H')(h:H' l=none):H l=none:=by
 cases e:H l with
 | none=>rfl
 | some u =>
   by_cases n:∃v,u=.dj v
   .obtain⟨v,rfl⟩:=n;obtain⟨w,t⟩:=s.2 l v e;rw[h]at t;cases t
   .have t:=s.1 l u e λv z=>n ⟨v,z⟩;rw[h]at t;cases t
def ph(H:Hp):Hp:=λb=>match H b with
 | some (.dj _)=>none
 | x=>x
def uy{b:Addr}{u:HO}(e:H b=some u)(n:∀t,u ≠ .dj t):ph H b=some u:=by
 unfold ph;rw[e];cases u <;> first | rfl | exact q02 rfl (n _)
def Ea{b:Addr}{u:HO}(e:ph H b=some u):H b=some u/\∀t,u ≠ .dj t:=by
 unfold ph at e;split at e
 .cases e
 .rename_i z;refine⟨e,λt w=>?_⟩;subst w;exact z t e
def bS.same(s:bS H H'):ae (ph H) H':=λb u e=>let ⟨h,n⟩:=Ea e;s.1 b u h n
variable {K:Frag}
def ah.ph{a:Addr}{xs:List V}(h:ah K H a xs):ah K (L2.ph H) a xs:=by
 rcases h with(h | ⟨o,h⟩) | h
 .exact .inl (.inl (uy h λ_ z=>by cases z))
 .exact .inl (.inr ⟨o,uy h λ_ z=>by cases z⟩)
 .exact .inr h
section
variable {X:Cx}{pins:List (Addr×Obj)}{σ:St}{H:Hp}{s:Shared}
def Inv.lam{P h:Addr}{ps more:Array Value}{h':Heap}{fo:Obj}{q:Str}{tk:Nat}(I:Inv X pins σ H s)(G:fo.isFreed=false)(j:H P=some (.dj ps))(W:Heap.ExtBut P s.heap h')(i:s.heap.objs.size<=h)(f:h<h'.objs.size)
 (Y:h'.CodeRec (.ref h) q) (E:h'.get? P=some (tabObj (ps++more))) :
 Inv X pins σ (upd (upd (upd H P (.dj (ps++more))) h (rg h q)) h'.objs.size (ux h'.objs.size fo)) { s with heap:=h'.push fo,toks:=tk }:=by
 have C:P<s.heap.objs.size:=I.aO.lt j;have L:P≠h:=ne_of_lt (q21 C i);have M:h≠h'.objs.size:=ne_of_lt f;have N:P≠h'.objs.size:=ne_of_lt (lt_trans (q21 C i) f);have A:∀b,b<s.heap.objs.size->b≠P->upd (upd (upd H P (.dj (ps++more))) h (rg h q)) h'.objs.size (ux h'.objs.size fo) b=H b:=λb d n=>by
  rw[zi (ne_of_lt (lt_trans (q21 d i) f)),zi (ne_of_lt (q21 d i)),zi n]
 have D:upd (upd (upd H P (.dj (ps++more))) h (rg h q)) h'.objs.size (ux h'.objs.size fo) P=some (.dj (ps++more)):=by rw[zi N,zi L,zd]
 have k:∀b u,b≠P->s.heap.get? b=some u->(h'.push fo).get? b=some u:=λb u n e=>q05 _ (W b u n e);have J:∀b u,H b=some u->(∀w,u ≠ .dj w)->b≠P:=λb u e n z=>by rw[z,j]at e;cases e;exact n _ rfl
 have p:∀b u,H b=some u->(∀w,u ≠ .dj w)->upd (upd (upd H P (.dj (ps++more))) h (rg h q)) h'.objs.size (ux h'.objs.size fo) b=some u:=λb u e n=>by
  rw[A b (I.aO.lt e) (J b u e n)];exact e
 refine I.step (g':=s.gens) (d':=s.drawn) (ch:=[]) (λ_ z=>nomatch z) (λb o _ _ _ e n=>k b o (λz=>by rw[z,j]at n;cases n) e) (λb o _ _ _ e n=>⟨o.slots,k b o (λz=>by rw[z,j]at n;cases n) e⟩)
  (λb o _ e n=>by rw[A b (lt_size e) (λz=>by rw[z,j]at n;cases n)];exact n) (λb o _ e=>?_) (λb Z e=>p b _ e λ_ z=>by cases z) (λb o u e=>p b _ e λ_ z=>by cases z) (λb w e=>?_) (λm U=>?_) (λb u e=>?_) I.bare
 .by_cases d:b=P
  .subst d;exact⟨_,q05 _ E⟩
  .exact⟨o,k b o d e⟩
 .by_cases d:b=P
  .subst d;rw[j]at e;cases e;exact⟨more,D⟩
  .exact⟨#[],by rw[A b (I.aO.lt e) d,e];simp⟩
 .have nL:X.env.locals≠P:=λz=>by have:=I.free;rw[z,j]at this;cases this
  obtain⟨o,R,Q,V,r⟩:=U;exact⟨o,R,Q,k _ o nL V,r⟩
 .by_cases hf:b=h'.objs.size
  .subst hf;rw[zd]at e;cases e;exact⟨get?_push_size _ G,⟨fo,get?_push_size _ G⟩,λS T a b=>b _ a⟩
  .by_cases rR:b=h
   .subst rR;rw[zi M,zd]at e;cases e;obtain⟨c,g,B,t,x,l,y,O⟩:=Y;cases x;exact⟨⟨b,g,B,t,rfl,q05 _ l,y,O⟩,⟨g,q05 _ l⟩,λS T ⟨c,g,B,t,x,l,y⟩ q=>by cases x;exact⟨b,g,B,t,rfl,q _ l,y⟩⟩
   .by_cases d:b=P
    .subst d;rw[D]at e;cases e;exact q05 _ E
    .rw[zi hf,zi rR,zi d]at e;refine(I.aO b u e).dJ (λc v i q=>k c v ?_ q) (λc w=>p c _ w λ_ z=>by cases z) λc Z w=>p c _ w λ_ z=>by cases z
     rcases i with rfl | i
     .exact d
     .exact J c _ i λ_ z=>by cases z
end
variable {P:Program}{w:World}{mg:Str->Option Value}{k:Nat}
def Eb{base:Heap}{f h:Addr}{name qual:Str}{m:Arguments}{body:Expr}{scope:Scope}{p l:Value}{N ps:List Str}{sp:Sp}(S:af N ps scope)
 (len:∀a H Q E,sp a H Q E->a.length=ps.length)
 (has:∀a H Q E,sp a H Q E->H f=some (ux f (kla_obj name qual m body scope [] p h l))/\H h=some (rg h qual))
 (B:∀(A:Around)(outer:List Env)(s:Shared)(H:Hp)(a:List V)(Q:VK)(E:XK),bA k (A.deeper (envOfC qual scope s.heap.objs.size f (.ref h)))->sp a H Q E ->
   ∃t,PE (gX bp P w K mg base N qual scope f (.ref h) A outer s H E) body t/\t (kR N a) H Q) :
 ar P w K mg base bp (k+1) f (kla_fn name qual m body scope [] p (.ref h) l) ps sp:=by
 refine⟨len,λA outer s H F Z a Q E d c C r j=>?_⟩;have G:=len _ _ _ _ j;obtain⟨u,z⟩:=has _ _ _ _ j;obtain⟨T,_⟩:=c.aO f _ u;obtain⟨U,_⟩:=c.aO h _ z;have R:s.heap.NoLimit:=c.mod.nolimit.keeps λb o e=>(c.bs b o e).1;have Y:∀y∈ps.zip Z,scope.names.lookup y.1=some .local\/(scope.names.lookup y.1=some .cell/\((cellsFrom (s.heap.objs.size+1) scope.names []).lookup y.1).isSome=true):=λ⟨n,v⟩ O=>by
  rcases S.par n (of_mem_zip O).1 with q | q
  .exact .inl q
  .exact .inr ⟨q,cellsFrom_some _ _ _ (.inl q)⟩
 refine kla_callFunE d.depth T rfl S.co S.gen rfl U (C _ _ _ _ ?_);refine wpAny_newFunctionEnv_cells S.kind Y λg0 D g x=>?_;subst D;refine⟨R.keeps x.toInCall.keep,kla_codeExpr ?_⟩;obtain⟨t,M,L⟩:=B A outer s H a Q E (d.deeper _) j;have I:Inv (gX bp P w K mg base N qual scope f (.ref h) A outer s H E) [] (kR N a) H g:=Ug S d.hd c G r x;refine wpAny_mono (M [] g (kR N a) H _ I L) (λg1 X i=>?_) λe X i=>i;obtain⟨v,H',J,W,q⟩:=i;exact⟨v,H',J.os,J.bare,J.base,J.aO,W,q⟩
def Ec(f e:Addr)(o:Obj)(q:Str):Sp:=λv H Q _=>H f=some (ux f o)/\H e=some (rg e q)/\∃(t:Addr)(x y:V),v=[.ref t]/\H t=some (.tup [x,y])/\Q x H
def j8.get:∀{n:List Addr}{v:List (V×V)},j8 H n v->∀(i:Nat)(t:Addr),n[i]? = some t->∃p,v[i]? = some p/\H t=some (.tup [p.1,p.2])
 | _,_,.nil,i,t,e=>by simp at e
 | _,_,.cons h r,0,t,e=>by
   simp at e;subst e;exact⟨_,rfl,h⟩
 | _,_,.cons h r,i+1,t,e=>by
   obtain⟨p,a,s⟩:=j8.get r i t (by simpa using e);exact⟨p,by simpa using a,s⟩
def wl(K:Frag)(x:Str):Addr:=match tabIn K x with
 | some (_,P)=>P
 | none=>0
structure Oq (K:Frag) (x:Str) (f:Addr):Prop where
 ex:∃c,codeHdIn K c (wl K x)=true/\∃(oc:Value)(od:Option Addr)(fd:FuncData)(j3:Array (Option Value)),K.lookup f=some ⟨oc,od,.func fd,j3⟩/\fd.code=.ref c
def AR(K:Frag)(x:Str):Prop:=(∃c,tabIn K x=some (c,wl K x))/\K.lookup (wl K x)=none
variable {x:Str}{fd:FuncData}
def Ed{f c P:Addr}{r m:Value}{h s:Option Addr}{n o:Array (Option Value)}{vs:Array Value}(a:nsIn K mainGlobals x=some (some (.ref f)))(l:K.lookup f=some ⟨r,h,.func fd,n⟩)(e:fd.code=.ref c)
 (d:K.lookup c=some ⟨m,s,.fields vs,o⟩) (j:vs[11]? = some (.ref P)) (b:codeHdIn K c P=true) (i:K.lookup P=none):Oq K x f/\AR K x:=by
 have v:tabIn K x=some (c,P):=by
  unfold tabIn;rw[a];dsimp only;rw[l];dsimp only;rw[e];dsimp only;rw[d];dsimp only;rw[j]
 have t:wl K x=P:=by unfold wl;rw[v]
 exact⟨⟨c,by rw[t];exact b,r,h,fd,n,l,e⟩,⟨c,by rw[t];exact v⟩,by rw[t];exact i⟩
section
variable {P:Program}{w:World}{K:Frag}{mg:Str->Option Value}{base:Heap}
def aS.okC{x qual y:Str}{st:Stmt}{f:Addr}{fd:FuncData}{N ps:List Str}{k:Nat}{sp:Sp}(F:aS K x qual st f fd)(L:Oq K y f)(S:af N ps (zf st))(len:∀v H Q E,sp v H Q E->v.length=ps.length)
 (b:∀(c:Addr)(A:Around)(outer:List Env)(s:Shared)(H:Hp)(v:List V)(Q:VK)(E:XK),codeHdIn K c (wl K y)=true->bA k (A.deeper (envOfC qual (zf st) s.heap.objs.size f (.ref c)))->sp v H Q E ->
   ∃t,kb (gX bp P w K mg base N qual (zf st) f (.ref c) A outer s H E).E5 (yR st) t/\t { nx:=λ_ H'=>Q .bR H',rt:=Q } (kR N v) H):ar P w K mg base bp (k+1) f fd ps sp:=by
 obtain⟨B,D,kV,g,I,o,r,p,z,rfl,a,j⟩:=F.ex;obtain⟨c,d,C,G,u,m,n,e⟩:=L.ex;rw[a]at n;cases n;have e:r=.ref c:=e;subst e;refine sN a j S len λA outer s H v Q E i l=>?_;obtain⟨t,h,q⟩:=b c A outer s H v Q E d i l;exact⟨t,h.E5,q⟩
end
def pj{J:Str->Option Value}{CX:qV}{D a c T:Addr}{sp:Sp}{t:Shared}{vs:List Value}{ns:List Int}
 (O:K.In t.heap) (N:t.heap.Ns mainGlobals mg) (s:t.heap.Ns builtinsNs J) (U6:∀x:Str,x≠"__name__"->J x=bootBuiltins x) (Ot:t.heap.NoLimit) (g2:AQ mg t.heap) (hg:t.gens = #[])
 (hC:CodeHd t.heap c T) (j:t.heap.get? T=some (tabObj #[])) (Ou:K.lookup T=none)
 (l:t.heap.get? a=some { cls:=.type "list",data:=.seq vs.toArray }) (hi:IntsAre vs ns) (hl:ns.length<=sizeLine) (hr:bA k callerA)
 (F:∀A:Heap,K.In A->A.Ns mainGlobals mg->AQ mg A->ar P w K mg A CX k D fd [x] sp) (uz:∀(g4:Shared)(u:Value),BindsTo g4 fd ⟨[u],[]⟩ [(x,u)])
 (j5:∀H:Hp,H T=some (.dj #[])->ah K H a (ns.map V.int)->sp [.ref a] H (λv _=>v=.bl true) λ_ _ _=>False)
 (Ov:∀H e i,CX [] H t (λ_ _ _=>False) e i->False) :
 codeAny (model P w) callerA (.call (.ref D) ⟨[.ref a],[]⟩) (λr i=>r=.ok (.ret (.bool true))/\OldK t.heap i.heap/\i.os=t.os/\AllBare i.gens) t:=by
 have rv:=Um hi;have Ow:=hi.length;have Q:a≠T:=λz=>by rw[z,j]at l;cases l
 have Y:∀H:Hp,(∀b,b≠T->H b=none\/∃o xs,H b=some (.kX o (.lst xs)))->H T=some (.dj #[])->ah K H a (ns.map V.int)->eA P w H t.heap->(∀b,H b≠none->b=a\/b=T)->(H a≠none->K.lookup a=none) ->
  codeAny (model P w) callerA (.call (.ref D) ⟨[.ref a],[]⟩) (λr i=>r=.ok (.ret (.bool true))/\OldK t.heap i.heap/\i.os=t.os/\AllBare i.gens) t:=by
  intro H hO R hS W E hK;have I:∀{b:Addr}{o:Obj},t.heap.get? b=some o->H b=none->(vX t.heap H).get? b=some o:=λe n=>rO e n;have GC:∀{b:Addr}{o:Obj},t.heap.get? b=some o->o.cls ≠ .type "list"->o.cls ≠ .none->H b=none:=λ{b o} e d d2=>by
   cases q:H b with
   | none=>rfl
   | some u =>
     rcases E b (by rw[q];simp)with e' | e'
     .subst e';rw[l]at e;cases e;exact q02 rfl d
     .subst e';rw[j]at e;cases e;exact q02 rfl d2
  have g3:∀{b:Addr}{o:Obj}{g:Array DictEntry}{p:Nat},t.heap.get? b=some o->o.data=.dict g p->H b=none:=λ{b o g p} e d=>by
   cases q:H b with
   | none=>rfl
   | some u =>
     rcases E b (by rw[q];simp)with e' | e'
     .subst e';rw[l]at e;cases e;have C:Data.seq vs.toArray _=Data.dict g p:=d;cases C
     .subst e';rw[j]at e;cases e;have C:Data.fields #[]=Data.dict g p:=d;cases C
  have y:∀{b:Addr}{m:Str->Option Value},t.heap.Ns b m->(vX t.heap H).Ns b m:=λ{b m} ⟨o,g,p,e,d,r⟩=>⟨o,g,p,I e (g3 e d),d,r⟩;have S:K.In (vX t.heap H):=λb o e=>I (O b o e) (by
   cases q:H b with
   | none=>rfl
   | some u =>
     rcases E b (by rw[q];simp)with e' | e'
     .subst e';rw[hK (by rw[q];simp)]at e;cases e
     .subst e';rw[Ou]at e;cases e)
  have hM:Mod K mg (vX t.heap H):=⟨S,y N,⟨J,y s,U6⟩,let ⟨mc,h1,h2⟩:=Ot;⟨mc,y h1,h2⟩⟩;have g1:AQ mg (vX t.heap H):=let ⟨bm,L,b1,b2,X,B,r⟩:=g2;⟨bm,L,b1,b2,I X (GC X (by rw[B];decide) (by rw[B];intro z;cases z)),B,r⟩;have e0:jc P w K mg (vX t.heap H) callerA [] t H:=⟨rfl,hM,λb o e=>xY e,le_of_eq (oA _ _),trivial,λb s=>q02 (show b∈([]:List Addr)from s) (by simp),W,.of_eq hg⟩;refine codeAny_mono ((F _ S (y N) g1).run callerA [] t H ⟨[.ref a],[]⟩ [.ref a] [.ref a] _ _ hr e0 (uz t (.ref a)) (.cons rfl .nil) (j5 H R hS)) λr i h=>?_;cases r with
  | error e=>exact(Ov H e i h).elim
  | ok fl =>
    cases fl with
    | next=>exact False.elim h
    | brk=>exact False.elim h
    | cont=>exact False.elim h
    | ret u =>
      obtain⟨v,H',os,g0,un,M,r',q⟩:=h;have q':v=.bl true:=q;subst q';obtain rfl:u=Value.bool true:=r';obtain⟨more,eT⟩:=un.cg T #[] R;have U:i.heap.get? T=some (tabObj (#[]++more)):=M T _ eT;have kept:∀b o,b≠T->t.heap.get? b=some o->i.heap.get? b=some o:=λb o n e=>by
       cases q:H b with
       | none=>exact un.keep b o e q (by intro z;exact q02 (show b∈([]:List Addr)from z) (by simp)) (by simp)
       | some u =>
         rcases hO b n with z | ⟨L,xs,z⟩
         .rw[q]at z;cases z
         .have z2:=un.bX b L _ z;obtain⟨Z,_⟩:=W b _ z;obtain⟨e2,_⟩:=M b _ z2;rw[e]at Z;cases Z;exact e2
      refine⟨rfl,⟨λb o e=>?_,λb o e=>?_⟩,os,g0⟩
      .by_cases n:b=T
       .subst n;rw[j]at e;cases e;exact .inr (.inl ⟨(hC.tab j).isCodeTable,rfl,#[],more,rfl,U⟩)
       .exact .inl (kept b o n e)
      .by_cases n:b=T
       .subst n;exact⟨_,U⟩
       .exact⟨o,kept b o n e⟩
 cases G:K.lookup a with
 | some o =>
   have e:=O a o G;rw[l]at e;cases e;refine Y (λb=>if b=T then some (.dj #[])else none) (λb n=>.inl (q00 n)) (q01 rfl) (.inr ⟨_,vs.toArray,_,G,rfl,rfl,rfl,by rw[q10,Ow];exact hl,by simpa using rv⟩) (λb u z=>?_) (λb z=>?_) λz=>q02 (q00 Q) z
   .by_cases s:b=T
    .have z':=(q01 s).symm.trans z;cases z';subst s;exact j
    .have z':=(q00 s).symm.trans z;cases z'
   .by_cases s:b=T
    .exact .inr s
    .exact q02 (q00 s) z
 | none =>
   refine Y (λb=>if b=a then some (.kX { cls:=.type "list",data:=.seq vs.toArray } (.lst (ns.map V.int)))else if b=T then some (.dj #[])else none) (λb n=>?_) ?_ (.inl (.inr ⟨{ cls:=.type "list",data:=.seq vs.toArray },q01 rfl⟩)) (λb u z=>?_) (λb z=>?_) λ_=>G
   .by_cases s:b=a
    .exact .inr ⟨_,_,q01 s⟩
    .exact .inl ((q00 s).trans (q00 n))
   .exact(q00 (Ne.symm Q)).trans (q01 rfl)
   .by_cases s:b=a
    .have z':=(q01 s).symm.trans z;cases z';subst s;exact⟨l,by rw[q06];exact hl,vs,_,rv,l⟩
    .have z':=(q00 s).symm.trans z;by_cases f:b=T
     .have z2:=(q01 f).symm.trans z';cases z2;subst f;exact j
     .have z2:=(q00 f).symm.trans z';cases z2
   .by_cases s:b=a
    .exact .inl s
    .by_cases f:b=T
     .exact .inr f
     .exact q02 ((q00 s).trans (q00 f)) z
def uA{l:PySem.W.OpenLaw}{n:Nat}{q:Program}{g0:List Str}{E:(Str->Option Value)->Heap->Prop}{j:World->Heap->Prop}{d:DefRec}{K:Params->Frag}{CX:World->qV}{sp:World->Sp}{y:Str}
 (X:l.most=some n) (B:n<=sizeLine) (A:d.params.defaults=[]) (Z:bA k callerA) (c:∃m,(recsOf q).find? (λe=>e.name==y)=some m)
 (O:∀(w:World)(h:Heap),j w h->(K w.params).In h)
 (F:∀(w:World)(mg:Str->Option Value)(v:Addr)(h:Heap),(K w.params).In h->h.Ns mainGlobals mg->mg d.name=some (.ref v) ->
   AR (K w.params) y/\∃fd:FuncData,(∀(s:Shared)(u:Value),BindsTo s fd ⟨[u],[]⟩ [(x,u)]) /\
    ∀t:Heap,(K w.params).In t->t.Ns mainGlobals mg->AQ mg t->ar l.prog w (K w.params) mg t (CX w) k v fd [x] (sp w))
 (j5:∀(w:World)(H:Hp)(a:Addr)(ns:List Int),ns.length<=n->H (wl (K w.params) y)=some (.dj #[])->ah (K w.params) H a (ns.map V.int)->sp w [.ref a] H (λg2 _=>g2=.bl true) λ_ _ _=>False)
 (D:∀(w:World)(H:Hp)(s:Shared)(e:Value)(i:Shared),CX w [] H s (λ_ _ _=>False) e i->False) :
 PySem.W.WalkO q g0 E j l.row.toRowW d [] (λf p=>PySem.call f p):=by
 refine Att.kq X A λw g6 g1 mg mb v g5 pm cd g4 a p ns G Y ho hd iV U z S o R=>?_;have r:=O w _ Y;obtain⟨⟨⟨g3,P⟩,C⟩,fd,Q,J⟩:=F w mg v _ r G.T.g U;obtain⟨m,c⟩:=c;obtain⟨I,N⟩:=tab_of G.T r c P;exact pj r G.T.g G.T.b G.T.builtins G.T.nolimit G.T.bmain R I N C z S (q38 o B) Z J Q (λH L M=>j5 w H a ns o L M) λH e i=>D w H g1 e i
structure aZ (sc:Scope) (N:List Str) (x x2:Str) (fr:List Str) (ix:List Nat) (scope:Scope):Prop where
 kind:scope.kind=.function
 cu:∀y∈scope.names,y.2 ≠ .cell
 lD:∀y∈scope.names,y.2=.local->scope.names.lookup y.1=some .local
 lx:scope.names.lookup x=some .local
 Ht:scope.names.lookup x2=some .local
 free:∀y∈scope.names,y.2=.free->sc.names.lookup y.1=some .cell\/sc.names.lookup y.1=some .free
 at':fr.map some=ix.map λi=>N[i]?
 sZ:∀y∈fr,scope.names.lookup y=some .free/\(sc.names.lookup y=some .cell\/sc.names.lookup y=some .free)
 nd:(x::x2::fr).Nodup
def fW(K:Frag)(J:It)(c:St)(l:TT)(o:TE)(h:Hp)(j:List V->Hp->Prop):Prop :=
 ∃W:Nat->Nat->List V->Hp->Prop,(∃m,W 0 m [] h)/\∀i m e H,W i m e H ->
  (J.stop i H/\e.length<=sizeLine/\j e H) \/
  (J.go i H/\e.length<sizeLine/\∃N:List V->Hp->Prop,(∀r H',N r H'->∃n,n<m/\W (i+1) n r H')/\∀x H',J.Ad i H x H'->∃t a b,x=.ref t/\cE K H' t [a,b]/\l (some a::some b::c) H' λd v=>if d=true then o (some a::some b::c) v λy s=>N (e++[y]) s else N e v)
def uB(K:Frag)(n:List Nat)(h:TI)(a:TT)(r:TE):TE:=λt H Q=>h t H λJ v=>fW K J (iA n t) a r v λs e=>∀l,e l=none->Q (.ref l) (upd e l (.lst s))
section
variable {X:Cx}{H:Hp}{x x2:Str}{fr:List Str}{ix:List Nat}{scope:Scope}{cl:List (Str×Addr)}{fp:List Addr}{C:Addr}
def aZ.g(S:aZ X.env.scope X.N x x2 fr ix scope):bI X.env.scope X.N [x,x2] fr ix scope:=⟨S.kind,S.cu,S.lD,S.free,S.at',S.sZ,S.nd⟩
def fW.g{K:Frag}{J:It}{c:St}{r:TT}{s:TE}{a:List V->Hp->Prop}(h:fW K J c r s H a):Fd 2 (sd K 2 (oE (jB 0) (oE (jB 1) rZ))) J c r s H a:=by
 obtain⟨W,w,t⟩:=h;refine⟨W,w,λi m f H j=>(t i m f H j).imp id λ⟨d,l,N,n,o⟩=>⟨d,l,N,n,λx H' y v e=>?_⟩⟩;obtain⟨t,p,u,rfl,q,z⟩:=o x H' y;obtain _ | ⟨A,v⟩:=v
 .cases e
 obtain _ | ⟨B,v⟩:=v
 .cases e
 obtain _ | ⟨b,v⟩:=v
 .exact⟨t,_,rfl,q,rfl,_,_,rfl,_,_,rfl,rfl,[some p,some u],rfl,rfl,rfl,z⟩
 .simp at e
def aZ.pg{v t a:Pos}{tk:Nat}{n:Shared}(S:aZ X.env.scope X.N x x2 fr ix scope)(e:X.calm=true):PG (dR X (x::x2::fr) scope cl C n H fp) (.Tuple [.Name x v,.Name x2 t] tk a) (sd X.K 2 (oE (jB 0) (oE (jB 1) rZ))):=Jw e (wp (rY S.nd rfl (.inl (lookup_relabel_local S.lx)) (.inr (lookup_relabel_local S.lx))) (wp (rY S.nd rfl (.inl (lookup_relabel_local S.Ht)) (.inr (lookup_relabel_local S.Ht))) Jv))
end
section
variable {X:Cx}{x x2:Str}{fr:List Str}{ix:List Nat}{scope:Scope}{elt iter:Expr}{ifs:List Expr}{px pk tp pos:Pos}{tk:Nat}{wi:TI}{tc:TT}{te:TE}
def Ox(S:aZ X.env.scope X.N x x2 fr ix scope)(i:X.calm=true)(L:PI X (.Tuple [.Name x px,.Name x2 pk] tk tp) iter wi)(R:∀n C r v a,qY (dR X (x::x2::fr) scope n C r v a) ifs tc)(he:∀n C r v a,PE (dR X (x::x2::fr) scope n C r v a) elt te)
 (hs:∀x,foldedSetIterable iter X.env x=pure x:=by intro _;rfl):PE X (.ListComp elt [⟨.Tuple [.Name x px,.Name x2 pk] tk tp,iter,ifs,0⟩] scope pos) (uB X.K ix wi tc te):=by
 intro j s k H g0 I h;obtain⟨n,U,u,f⟩:=DI (env:=X.env) (scope:=scope) λy O G=>I.ok.has y.1 (S.free y O G);rw[eval_ListComp];refine wpAny_comprehension_free (use:=none) rfl hs U S.kind S.lD (aU (L j s k H _ I h) λxv s1 W=>aU W λP r Y=>?_);obtain⟨it,a,tn,J,v,rfl,d,T,q,o,w⟩:=Y;refine GW S.g (λ_ _ _ _ _=>S.pg i) i R he u f d T q o w.g λD C c H' Z m l B M Q A V p=>?_;refine⟨m,M,λh' F=>⟨.ref D,upd H' D (.lst c),?_,rfl,p D B⟩⟩;have t:fL X j (upd H' D (.lst c)) C:=by
  have z:=d.gA (H':=upd H' D (.lst c)) A (by rw[zi (Ne.symm Q)];exact V);exact z
 exact l.turned (t':=Z.toks) (it:=C) (λb g1 E e=>(F.2 b E).trans e) t.1 t.2.1 t.2.2.2.1 t.2.2.2.2.1 t.2.2.2.2.2
def Vb{i:Nat}{y:Str}{n B:Pos}(S:aZ X.env.scope X.N x x2 fr ix scope)(f:X.calm=true)(hN:X.N.Nodup)(U:X.N[i]? = some y)(o:Loc X.env.scope y)(hi:PI X (.Tuple [.Name x px,.Name x2 pk] tk tp) iter wi)(jH:∀c C l r d,qY (dR X (x::x2::fr) scope c C l r d) ifs tc)(he:∀c C l r d,PE (dR X (x::x2::fr) scope c C l r d) elt te)
 (W:swapsWith (.ListComp elt [⟨.Tuple [.Name x px,.Name x2 pk] tk tp,iter,ifs,0⟩] scope pos) (some (.Name y n)) B.line X.env=pure true:=by rfl)
 (m:X.fn y=true\/X.env.scope.names.lookup y=some .local:=by first | exact .inl rfl | exact .inr rfl | assumption)
 (hs:∀x,foldedSetIterable iter X.env x=pure x:=by intro _;rfl) :
 PS X (.Assign [.Name y n] (.ListComp elt [⟨.Tuple [.Name x px,.Name x2 pk] tk tp,iter,ifs,0⟩] scope pos) B) (se (uB X.K ix wi tc te) (jB i)):=by
 intro p s g1 H J I h;obtain⟨c,oV,w,k⟩:=DI (env:=X.env) (scope:=scope) λy o m=>I.ok.has y.1 (S.free y o m);rw[exec_Assign_Name_used _ _ _ _ W];refine q03 (wpAny_standAt (q03 ?_));show wpAny _ X.A (do let _ <-comprehension (.ListComp elt [⟨.Tuple [.Name x px,.Name x2 pk] tk tp,iter,ifs,0⟩] scope pos) scope X.env _ (newList []) false (eval iter X.env) (some (assign (.Name y n) X.env))) _ _ s;refine q03 (aU (Q:=λ_ j=>SP X p J .next j) ?_ λ_ j q=>q04 (q04 q));refine wpAny_comprehension_free (use:=some (assign (.Name y n) X.env)) rfl hs oV S.kind S.lD (aU (hi p s g1 H _ I h) λxv s1 q1=>aU q1 λAe l q2=>?_);obtain⟨it,d,tn,g2,r,rfl,u,T,F,Y,wc⟩:=q2;refine GW S.g (λ_ _ _ _ _=>S.pg f) f jH he w k u T F Y wc.g λD C E H' j g0 L hD hn ib P oW Z=>?_;have t:fL X p (upd H' D (.lst E)) C:=u.gA (H':=upd H' D (.lst E)) P (by rw[zi (Ne.symm ib)];exact oW);show wpAny _ X.A (assign (.Name y n) X.env (.ref D)) _ _ j;refine wpAny_assign_Name (MH (v:=V.ref D) L hN U o rfl (λiu O G=>?_) m);obtain⟨a,sb,ha⟩:=G;have R:C≠a:=λz=>by
  rcases ha with q | q
  .exact t.2.1 (z.trans q)
  .exact t.2.2.2.2.1 y a q z.symm
 refine⟨g0,hn.sameBut sb R,λh' M=>⟨_,_,O.turned (t':=iu.toks) (it:=C) (λb g3 hb e=>(M.2 b hb).trans e) t.1 t.2.1 t.2.2.2.1 t.2.2.2.2.1 t.2.2.2.2.2,Z D hD⟩⟩
end
section
variable {X:Cx}{pins:List (Addr×Obj)}{σ:St}{H:Hp}{s:Shared}{h':Heap}{t':Nat}{ch:List Addr}
def Inv.uC(I:Inv X pins σ H s)(o:∀c∈ch,fL X pins H c)(k:∀b u,b∉ch->s.heap.get? b=some u->h'.get? b=some u):Inv X pins σ H { s with heap:=h',toks:=t' }:=by
 have h:∀b u,H b=some u->b∉ch:=λb u e z=>by rw[(o b z).1]at e;cases e
 have i:X.env.locals∉ch:=λz=>(o _ z).2.1 rfl;refine I.step (g':=s.gens) (d':=s.drawn) (ch:=ch) (λb a=>⟨(o b a).2.2.2.1,(o b a).2.1,(o b a).2.2.2.2.1,(o b a).2.2.2.2.2⟩) (λb u _ _ t e _=>k b u t e) (λb u _ _ t e _=>⟨u.slots,k b u t e⟩)
  (λ_ _ _ _ n=>n) (λb u t e=>⟨u,k b u t e⟩) (λ_ _ e=>e) (λ_ _ _ e=>e) (λb j e=>⟨#[],by rw[e];simp⟩) (λm d=>?_) (λb u e=>?_) I.bare
 .obtain⟨ob,es,ep,ho,r⟩:=d;exact⟨ob,es,ep,k _ ob i ho,r⟩
 .refine(I.aO b u e).dJ (λc v t q=>k c v ?_ q) (λ_ q=>q) λ_ _ q=>q;rcases t with z | z
  .rw[z];exact h b u e
  .exact h c _ z
def Inv.AS{T:Addr}{v:HO}(I:Inv X pins σ H s)(o:∀c∈ch,fL X pins H c)(k:∀b u,b∉ch->s.heap.get? b=some u->h'.get? b=some u)(h:s.heap.objs.size<=T)(new:bH X.prog X.w (upd H T v) h' T v):
 Inv X pins σ (upd H T v) { s with heap:=h',toks:=t' }:=by
 have i:H T=none:=I.aO.fresh h;have d:∀b u,H b=some u->b∉ch:=λb u e z=>by rw[(o b z).1]at e;cases e
 have l:X.env.locals∉ch:=λz=>(o _ z).2.1 rfl;have up:∀b u,H b=some u->upd H T v b=some u:=λb u e=>by rw[zi (zk e i)];exact e
 refine I.step (g':=s.gens) (d':=s.drawn) (ch:=ch) (λb t=>⟨(o b t).2.2.2.1,(o b t).2.1,(o b t).2.2.2.2.1,(o b t).2.2.2.2.2⟩) (λb u _ _ a e _=>k b u a e) (λb u _ _ a e _=>⟨u.slots,k b u a e⟩)
  (λb u _ e n=>?_) (λb u a e=>⟨u,k b u a e⟩) (λb _ e=>up b _ e) (λb _ _ e=>up b _ e) (λb p e=>⟨#[],by rw[up b _ e];simp⟩) (λm j=>?_) (λb u e=>?_) I.bare
 .rw[zi (λz=>by rw[z]at e;exact q02 (lt_size e) (Nat.not_lt.mpr h))];exact n
 .obtain⟨ob,es,ep,ho,r⟩:=j;exact⟨ob,es,ep,k _ ob l ho,r⟩
 .by_cases t:b=T
  .subst t;rw[zd]at e;cases e;exact new
  .rw[zi t]at e;refine(I.aO b u e).dJ (λc w a q=>k c w ?_ q) (λc q=>up c _ q) λc _ q=>up c _ q;rcases a with z | z
   .rw[z];exact d b u e
   .exact d c _ z
end
def Ee(K:Frag)(l1 l2:Addr):It :=
 ⟨λi H=>∃e n x y,ah K H l1 e/\ah K H l2 n/\e[i]? = some x/\n[i]? = some y,
  λi H v H'=>∃t x y,v=.ref t/\H t=none/\H'=upd H t (.tup [x,y])/\(∀e,ah K H l1 e->e[i]? = some x)/\∀n,ah K H l2 n->n[i]? = some y,
  λi H=>∃e n,ah K H l1 e/\ah K H l2 n/\(e.length<=i\/n.length<=i)⟩
def uD{g0:List Expr}{g2:Pos}{z TI TO i1 i2 l1 l2:Addr}(D:ZipApart z TI TO i1 i2 l1 l2):
 Turn P w K (.Tuple g0 k g2) (Ee K l1 l2) [z,TI,TO,i1,i2] z (λi h=>IsZip h z TI TO .none/\IsPair h TI (.ref i1) (.ref i2)/\(∃a b,IsPair h TO a b)/\h.IsListIter i1 l1 i/\h.IsListIter i2 l2 i) where
 mem:=by simp
 obj:=λi h n b F=>by
  obtain⟨d,j,⟨_,_,l⟩,⟨o4,e4,c4,d4⟩,⟨o5,e5,c5,d5⟩⟩:=n;simp only[q27,not_mem_nil,or_false]at F;rcases F with rfl | rfl | rfl | rfl | rfl
  .exact⟨_,d,λv z=>by cases z⟩
  .exact⟨_,j,λv z=>by cases z⟩
  .exact⟨_,l,λv z=>by cases z⟩
  .exact⟨_,e4,λv z=>by rw[d4]at z;cases z⟩
  .exact⟨_,e5,λv z=>by rw[d5]at z;cases z⟩
 keep:=λi h m n k=>by
  obtain⟨d,j,⟨a,b,l⟩,L,M⟩:=n;exact⟨k _ (by simp) _ d,k _ (by simp) _ j,⟨a,b,k _ (by simp) _ l⟩,L.at λo e=>k _ (by simp) o e,M.at λo e=>k _ (by simp) o e⟩
 item:=by
  intro X Q T O t i r s Z H E I p n R;subst Q T O;obtain⟨xs,ys,x,y,C,G,hx,hy⟩:=R;obtain⟨B,g,⟨a,b,J⟩,f,A⟩:=n;obtain⟨us,W,U,z1⟩:=I.list C;obtain⟨vs,Y,V,z2⟩:=I.list G;obtain⟨g3,hu,ru⟩:=W.get hx;obtain⟨v,hv,rv⟩:=Y.get hy;have Oj:TI ∉ [z,TO,i1,i2]:=by simp[D.TIz,D.TITO,D.TIi1,D.TIi2]
  have N:∀c ∈ [z,TO,i1,i2],fL X r H c:=λc t=>p c (by simp only[q27,not_mem_nil,or_false]at t ⊢;rcases t with e | e | e | e <;> simp[e]);refine wpAny_pyNext_zip_item D B g J f A U.isList V.isList (by simpa using hu) (by simpa using hv) λm d j l L M a6 S=>?_;have kk:∀c o,c ∉ [z,TO,i1,i2]->s.heap.get? c=some o->m.get? c=some o:=λc o t e=>S c o (λw=>t (by simp[w])) (λw=>t (by simp[w])) (λw=>t (by simp[w])) (λw=>t (by simp[w])) e;have I1:Inv X r Z (upd H s.heap.objs.size (.tup [x,y])) { s with heap:=m }:=I.AS (t':=s.toks) N kk (le_refl _) ⟨by show 2<=sizeLine;decide,[g3,v],.cons ru (.cons rv .nil),_,M,rfl,_,rfl⟩;refine⟨_,rfl,wpAny_letOwnedTupleGo_zip d λNH g1 u=>?_⟩;have lt:∀c ∈ [z,TI,TO,i1,i2],c≠s.heap.objs.size:=λc t=>by
   have:∃o,s.heap.get? c=some o:=by
    simp only[q27,not_mem_nil,or_false]at t;rcases t with rfl | rfl | rfl | rfl | rfl
    .exact⟨_,B⟩
    .exact⟨_,g⟩
    .exact⟨_,J⟩
    .obtain⟨o,e,_⟩:=f;exact⟨o,e⟩
    .obtain⟨o,e,_⟩:=A;exact⟨o,e⟩
   obtain⟨o,e⟩:=this;exact ne_of_lt (lt_size e)
  have fz:fL X r (upd H s.heap.objs.size (.tup [x,y])) z:=by
   obtain⟨f0,f1⟩:=p z (by simp);exact⟨by rw[zi (lt z (by simp))];exact f0,f1⟩
  have I2:Inv X r Z (upd H s.heap.objs.size (.tup [x,y])) { s with heap:=NH }:=Inv.uC (s:={ s with heap:=m }) (t':=s.toks) (ch:=[z]) I1 (λc t=>by rw[List.mem_singleton.mp t];exact fz) λc o t e=>u.extBut c o (λw=>t (by simp[w])) e;refine⟨.ref s.heap.objs.size,_,I2,rfl,⟨_,x,y,rfl,I.aO.fresh (le_refl _),rfl,λg6 q=>?_,λg8 q=>?_⟩,⟨g1,u.extBut _ _ D.TIz (kk _ _ Oj g),⟨_,_,u.extBut _ _ D.TOz j⟩,l.extBut u.extBut D.i1z,L.extBut u.extBut D.i2z⟩,λc t=>?_⟩
  .rw[I.iq q C];exact hx
  .rw[I.iq q G];exact hy
  .rw[zi (lt c t)];exact(p c t).1
 done:=by
  intro X Q T O t i r s Z H E I p n R;subst Q T O;obtain⟨xs,ys,C,G,Oy⟩:=R;obtain⟨B,g,⟨a,b,J⟩,f,A⟩:=n;obtain⟨us,W,U,z1⟩:=I.list C;obtain⟨vs,Y,V,z2⟩:=I.list G;have g4:=W.length;have g5:=Y.length;have N:∀c ∈ [z,TO,i1,i2],fL X r H c:=λc t=>p c (by simp only[q27,not_mem_nil,or_false]at t ⊢;rcases t with e | e | e | e <;> simp[e]);refine wpAny_pyNext_zip_end (I.ok.hd t) D B g J f A U.isList V.isList ?_ λm S=>⟨rfl,I.uC (t':=s.toks) N λc o t e=>S c o (λw=>t (by simp[w])) (λw=>t (by simp[w])) (λw=>t (by simp[w])) (λw=>t (by simp[w])) e⟩;rcases Oy with h | h
  .exact .inl (by simp;lia)
  .exact .inr (by simp;lia)
 self:=λ_ _ _ _ _ n h=>wpAny_pyIter_zip n.1 h
inductive Cs (K:Frag)(vs:List V)(e:Hp)(R:It->Hp->Prop):Prop|mk(t:_)(v:_)(n:_)(a:_):vs=[.ref t,.ref v]->ah K e t n->ah K e v a->R (Ee K t v) e->Cs K vs e R
def Oz(K:Frag)(t:TA):TI:=λn H R=>t n H λv e=>Cs K v e R
section
variable {X:Cx}{ex ey:Expr}{t:TA}{p pos tp:Pos}{elts:List Expr}{tk:Nat}
def uE(E:Gl X "zip")(L:X.mg "zip"=none)(D:PA X [ex,ey] t)(he:starEach [ex,ey] X.env=(false,eval ex X.env)::starEach [ey] X.env:=by rfl)(hpl:(backTo pos (starEach [ey] X.env)).any (·.1)=false:=by rfl):
 PI X (.Tuple elts tk tp) (.Call (.Name "zip" p) [ex,ey] [] pos) (Oz X.K t):=by
 intro T s F H R I h;refine wpAny_Call_Name_kw (vZ I E L boot_zip ?_ (by decide) (by decide));refine callWith_type1 (aU (D pos T s F H _ I h) λW v G=>?_) he hpl;obtain⟨vs,A,a,z,l1,l2,xs,ys,rfl,U,V,q⟩:=G;cases z with
 | cons B r=>cases r with
   | cons C r =>
     cases r;cases B;cases C;obtain⟨W,z,Q,_⟩:=a.list U;obtain⟨ws,P,S,_⟩:=a.list V;have o:=Q.isList;have g:=S.isList;have c:l1<v.heap.objs.size:=by obtain⟨u,j,_⟩:=o;exact lt_size j
     have i:l2<v.heap.objs.size:=by obtain⟨u,j,_⟩:=g;exact lt_size j
     refine call_zip_2 o g λk y M Z N O x J=>?_;have n:∀(l:Addr)(d:Nat),l<v.heap.objs.size->l≠v.heap.objs.size+d:=λl d h=>ne_of_lt (q21 h (le_add_right _ _));have m:∀d e:Nat,d≠e->v.heap.objs.size+d≠v.heap.objs.size+e:=λd e h w=>h (Nat.add_left_cancel w);refine wpAny_pyIter_zip y ?_;refine⟨v.heap.objs.size+4,[v.heap.objs.size+4,v.heap.objs.size+2,v.heap.objs.size+3,v.heap.objs.size+0,v.heap.objs.size+1],_,Ee X.K l1 l2,A,rfl,a.kept (t':=v.toks) J,
      uD (i1:=v.heap.objs.size+0) (i2:=v.heap.objs.size+1) (TI:=v.heap.objs.size+2) (TO:=v.heap.objs.size+3) (l1:=l1) (l2:=l2) ⟨m 2 4 (by decide),m 3 4 (by decide),m 0 4 (by decide),m 1 4 (by decide),m 2 3 (by decide),m 2 0 (by decide),m 2 1 (by decide),m 3 0 (by decide),m 3 1 (by decide),m 0 1 (by decide),n _ 4 c,n _ 3 c,n _ 0 c,n _ 1 c,n _ 4 i,n _ 3 i,n _ 0 i,n _ 1 i⟩,
      ⟨y,M,⟨_,_,Z⟩,N,O⟩,λb f=>?_,q⟩
     have Y:∃d,b=v.heap.objs.size+d:=by
      simp only[q27,not_mem_nil,or_false]at f;rcases f with w | w | w | w | w
      .exact⟨4,w⟩
      .exact⟨2,w⟩
      .exact⟨3,w⟩
      .exact⟨0,w⟩
      .exact⟨1,w⟩
     obtain⟨d,rfl⟩:=Y;exact a.gA (le_add_right _ _) (a.aO.fresh (le_add_right _ _))
end
def AU{l1 l2:Addr}{xs ys:List V}{g:TG}{d:TS}{D:Ends}{σ:St}(n:Nat->St->Hp->Prop)(q:n 0 σ H)(z:∀i σ H,i<=min xs.length ys.length->n i σ H->ah K H l1 xs/\ah K H l2 ys)
 (hs:∀i x y t σ H,xs[i]? = some x->ys[i]? = some y->H t=none->n i σ H->g (.ref t) σ (upd H t (.tup [x,y])) λb a=>d { D with nx:=n (i+1),ct:=n (i+1),bk:=D.nx } b a) (hd:∀σ H,n (min xs.length ys.length) σ H->D.nx σ H) :
 ∃W:Nat->Nat->St->Hp->Prop,(∃m,W 0 m σ H)/\∀i m σ H,W i m σ H ->
  ((Ee K l1 l2).stop i H/\D.nx σ H)\/((Ee K l1 l2).go i H/\∃N:St->Hp->Prop,(∀s H',N s H'->∃c,c<m/\W (i+1) c s H')/\∀x H',(Ee K l1 l2).Ad i H x H'->g x σ H' λb a=>d { D with nx:=N,ct:=N,bk:=D.nx } b a):=by
 refine⟨λi m σ H=>m=min xs.length ys.length-i/\i<=min xs.length ys.length/\n i σ H,⟨min xs.length ys.length,by simp,zero_le _,q⟩,?_⟩;rintro i m σ H ⟨rfl,f,p⟩;obtain⟨r,h⟩:=z i σ H f p;by_cases j:i<min xs.length ys.length
 .have h1:i<xs.length:=by lia
  have u:i<ys.length:=by lia
  refine .inr ⟨⟨xs,ys,xs[i],ys[i],r,h,by simp[h1],by simp[u]⟩,n (i+1),λs H' B=>⟨min xs.length ys.length-(i+1),by lia,rfl,j,B⟩,λv H' y=>?_⟩;obtain⟨t,x,y,rfl,A,rfl,l,o⟩:=y;exact hs i x y t σ _ (l xs r) (o ys h) A p
 .have e:i=min xs.length ys.length:=by lia
  subst e;exact .inl ⟨⟨xs,ys,r,h,by lia⟩,hd σ H p⟩
end L2
namespace L2
open PySem PySem.W PySem.Spec PyProof.Rows
variable {fin:List V->Hp->Prop}
def znm{K:Frag}{a:Addr}{xs:List V}{c:St}{d:TT}{j:TE}{H:Hp}(w:Nat->List V->Hp->Prop)(o:w 0 [] H)(f:∀i n H,i<=xs.length->w i n H->ah K H a xs/\n.length<=i)(B:xs.length<=sizeLine)
 (hs:∀i x n H,xs[i]? = some x->w i n H->∃t u v,x=.ref t/\cE K H t [u,v]/\d (some u::some v::c) H λb h=>if b=true then j (some u::some v::c) h λy l=>w (i+1) (n++[y]) l else w (i+1) n h) (hd:∀n H,w xs.length n H->fin n H):fW K (ke K a) c d j H fin:=by
 refine⟨λi m n H=>m=xs.length-i/\i<=xs.length/\w i n H,⟨xs.length,by simp,zero_le _,o⟩,?_⟩;rintro i m n H ⟨rfl,g,p⟩;obtain⟨q,A⟩:=f i n H g p;by_cases s:i<xs.length
 .refine .inr ⟨⟨xs,xs[i],q,by simp[s]⟩,by lia,λk r=>w (i+1) k r,λk r z=>⟨xs.length-(i+1),by lia,rfl,s,z⟩,λx r y=>?_⟩;obtain⟨e,y⟩:=y;subst e;exact hs i x n _ (y xs q) p
 .have e:i=xs.length:=by lia
  subst e;exact .inl ⟨⟨xs,q,le_refl _⟩,by lia,hd n H p⟩
def Vc{K:Frag}{a:Addr}{xs:List V}{c:St}{r:TE}{H:Hp}(w:Nat->List V->Hp->Prop)(j:w 0 [] H)(k:∀i n H,i<=xs.length->w i n H->ah K H a xs/\n.length<=i)(l:xs.length<=sizeLine)
 (hs:∀i x n H,xs[i]? = some x->w i n H->∃t u v,x=.ref t/\cE K H t [u,v]/\r (some u::some v::c) H λy s=>w (i+1) (n++[y]) s) (hd:∀n H,w xs.length n H->fin n H):fW K (ke K a) c xh r H fin :=
 znm w j k l (λi x n H e p=>let ⟨t,u,v,b,d,h⟩:=hs i x n H e p;⟨t,u,v,b,d,qX (B:=w (i+1) n H) h⟩) hd
end L2
namespace L2
open PySem PySem.W PySem.Spec PyProof.Rows PySem.Calls
def bM(P:Addr)(q:Str)(H:Hp):Prop:=∃t,H P=some (.dj t)/\TriplesOk t.toList/\∀n v,codeAmong n t.toList=some v->∃e,v=.ref e/\H e=some (rg e q)
def bM.new{P:Addr}{q:Str}{H:Hp}(h:H P=some (.dj #[])):bM P q H:=⟨#[],h,trivial,λv t e=>by simp[codeAmong]at e⟩
def bM.same{P:Addr}{q:Str}{H H':Hp}(h:bM P q H)(s:ae H H'):bM P q H':=by
 obtain⟨d,a,r,b⟩:=h;exact⟨d,s _ _ a,r,λc v e=>let ⟨t,n,w⟩:=b c v e;⟨t,n,s _ _ w⟩⟩
def iG:Str:=("by_place":Str) ++ ".<locals>." ++ "<lambda>"
def lN{v:Pos}{a b:Int}{c x:Value}:∀(l:List Value),TriplesOk l->codeAmong v (l++[rawInt a,rawInt b,c])=some x->codeAmong v l=some x\/x=c:=by
 intro l h e
 fun_induction TriplesOk l with
 | case1 =>
   simp only[nil_append,codeAmong,rawInt]at e;split at e
   .cases e;exact .inr rfl
   .cases e
 | case2 w t r u y ka n =>
   simp only[cons_append,codeAmong]at e ⊢;split at e
   .rename_i hc;rw[q01 hc];exact .inl e
   .rename_i hc;rw[q00 hc];exact n h e
 | case3=>exact h.elim
section
variable {X:Cx}{pins:List (Addr×Obj)}{σ:St}{H:Hp}{s:Shared}{E:Value->Shared->Prop}
def pw{d:Arguments}{body:Expr}{scope:Scope}{h:Pos}{c P:Addr}{Q:Value->Shared->Prop}(I:Inv X pins σ H s)(hL:bM P (X.env.qual ++ "<lambda>") H)(nA:X.env.code=.ref c)(C:CodeHd X.base c P)(B:AQ X.mg X.base)
 (U:defaultsOf d X.env=([],[])) (iD:closureFor scope X.env=pure [])
 (q:∀(f t:Addr)(pm r:Value)(k:Hp)(L:Shared),(∀b u,b≠P->s.heap.get? b=some u->L.heap.get? b=some u)->s.heap.objs.size<=L.heap.objs.size ->
   (∀a,a<s.heap.objs.size->a≠P->k a=H a)->k f=some (ux f (kla_obj "<lambda>" (X.env.qual ++ "<lambda>") d body scope [] pm t r))->k t=some (rg t (X.env.qual ++ "<lambda>"))->bS H k->bM P (X.env.qual ++ "<lambda>") k->Inv X pins σ k L->Q (.ref f) L) :
 wpAny (model X.prog X.w) X.A (eval (.Lambda d body scope h) X.env) Q E s:=by
 obtain⟨ps,i,x,S⟩:=hL;have m:∀b o,X.base.get? b=some o->b≠P:=λb o e z=>by have:=(I.bs b o e).2;rw[z,i]at this;cases this
 have Y:s.heap.get? P=some (tabObj ps):=I.aO P _ i;have V:P<s.heap.objs.size:=I.aO.lt i;obtain⟨M,ob,F,b2,l,b4,b5,y⟩:=B;have hG:mainGlobals≠P:=by obtain⟨o,_,_,e,_⟩:=I.mod.glob;exact m _ o e
 have Z:M≠mainGlobals:=λz=>by
  obtain⟨o,es,ep,e,hd,_⟩:=I.mod.glob;rw[z,e]at l;cases l;rw[hd]at y;cases y
 cases R:codeAmong h ps.toList with
 | none =>
   refine kla_eval U (kla_makeFunction (ps:=ps) (mg:=X.mg) iD I.ok.glob (I.mod.glob.keeps I.bk) nA (C.keeps I.bk) Y x R hG ⟨M,ob,F,b2,Z,m _ _ l,I.bk _ _ l,b4,b5,y⟩ λt r v tk hx j p lM g0=>?_);have J:=I.lam (tk:=tk) (fo:=kla_obj "<lambda>" (X.env.qual ++ "<lambda>") d body scope [] ((X.mg "__name__").getD .none) t r) rfl i hx j p lM g0;have Ol:P≠t:=ne_of_lt (q21 V j);have Om:t≠v.objs.size:=ne_of_lt p;have Oo:P≠v.objs.size:=ne_of_lt (lt_trans (q21 V j) p);have G:∀a,a<s.heap.objs.size->a≠P->(upd (upd (upd H P (.dj (ps ++ #[rawInt ↑h.line,rawInt ↑h.col,Value.ref t]))) t (rg t (X.env.qual ++ "<lambda>"))) v.objs.size (ux v.objs.size (kla_obj "<lambda>" (X.env.qual ++ "<lambda>") d body scope [] ((X.mg "__name__").getD .none) t r))) a=H a:=λa g O=>by
    rw[zi (ne_of_lt (lt_trans (q21 g j) p)),zi (ne_of_lt (q21 g j)),zi O]
   have W:(upd (upd (upd H P (.dj (ps ++ #[rawInt ↑h.line,rawInt ↑h.col,Value.ref t]))) t (rg t (X.env.qual ++ "<lambda>"))) v.objs.size (ux v.objs.size (kla_obj "<lambda>" (X.env.qual ++ "<lambda>") d body scope [] ((X.mg "__name__").getD .none) t r))) P=some (.dj (ps ++ #[rawInt ↑h.line,rawInt ↑h.col,Value.ref t])):=by rw[zi Oo,zi Ol,zd]
   have K:(upd (upd (upd H P (.dj (ps ++ #[rawInt ↑h.line,rawInt ↑h.col,Value.ref t]))) t (rg t (X.env.qual ++ "<lambda>"))) v.objs.size (ux v.objs.size (kla_obj "<lambda>" (X.env.qual ++ "<lambda>") d body scope [] ((X.mg "__name__").getD .none) t r))) t=some (rg t (X.env.qual ++ "<lambda>")):=by rw[zi Om,zd]
   refine q v.objs.size t ((X.mg "__name__").getD .none) r _ _ (λb u n e=>q05 _ (hx b u n e)) ?_ G zd K ⟨λb u e n=>?_,λb qs e=>?_⟩ ⟨_,W,?_,λg1 N e=>?_⟩ J
   .show s.heap.objs.size<=(v.push _).objs.size;rw[size_push];exact le_of_lt (Nat.lt_of_le_of_lt j (lt_succ_of_lt p))
   .rw[G b (I.aO.lt e) (λw=>by rw[w,i]at e;cases e;exact n _ rfl)];exact e
   .by_cases m:b=P
    .subst m;exact⟨_,W⟩
    .exact⟨qs,by rw[G b (I.aO.lt e) m];exact e⟩
   .rw[Array.toList_append];exact TriplesOk_snoc _ _ _ _ x
   .rw[Array.toList_append]at e;rcases lN _ x e with e | rfl
    .obtain⟨c2,e1,e2⟩:=S g1 N e;exact⟨c2,e1,by rw[G c2 (I.aO.lt e2) (λw=>by rw[w,i]at e2;cases e2)];exact e2⟩
    .exact⟨t,rfl,K⟩
 | some N =>
   obtain⟨t,rfl,K⟩:=S h N R;refine kla_eval U (kla_makeFunctionHit (ps:=ps) (mg:=X.mg) iD I.ok.glob (I.mod.glob.keeps I.bk) nA (C.keeps I.bk) Y x R ⟨M,ob,F,b2,Z,m _ _ l,I.bk _ _ l,b4,b5,y⟩ λr v tk hk D=>?_);have T:H v.objs.size=none:=I.aO.fresh D;have J:Inv X pins σ (upd H v.objs.size (ux v.objs.size (kla_obj "<lambda>" (X.env.qual ++ "<lambda>") d body scope [] ((X.mg "__name__").getD .none) t r))) { s with heap:=v.push (kla_obj "<lambda>" (X.env.qual ++ "<lambda>") d body scope [] ((X.mg "__name__").getD .none) t r),toks:=tk } :=
    I.laid (t':=tk) (λb u e=>q05 _ (hk b u e)) D ⟨get?_push_size _ rfl,⟨_,get?_push_size _ rfl⟩,λg O a b=>b _ a⟩
   refine q v.objs.size t ((X.mg "__name__").getD .none) r _ _ (λb u n e=>q05 _ (hk b u e)) ?_ (λa g O=>zi (ne_of_lt (q21 g D))) zd ((ae.new T) _ _ K) (ae.new T).toN (bM.same ⟨ps,i,x,S⟩ (ae.new T)) J;show s.heap.objs.size<=(v.push _).objs.size;rw[size_push];exact Nat.le_succ_of_le D
end
def OA(K:Frag)(P:Addr)(h:Str)(t:TA):TE:=λc H Q=>t c H λb n=>∃(a r:Addr)(e:List Int)(w:List V),b=[.ref a,.ref r]/\ah K n a (e.map V.int)/\ah K n r w/\e.length=w.length/\0<e.length/\e.length<64/\bM P h n /\
 ∀(v:Hp)(s:List Addr)(l:Addr)(p:Array Nat),bS n v->bM P h v->j8 v s ((e.map V.int).zip w)->v l=none->M14.I (λk=>e.getD k 0) e.length p e.length->Q (.ref l) (upd v l (.lst (p.toList.map λi=>V.ref (s.getD i 0))))
section
variable {X:Cx}{ex ey:Expr}{t:TA}{c P:Addr}{y:Str}{p1 p2 p3 p4 p5 pos jg Hs kp:Pos}{j:Nat}{params:Arguments}{scope:Scope}
def pz{qq:Str}(g9:X.env.qual ++ "<lambda>"=qq)(R:bA 3 X.A)(JX:Gl X "sorted")(g8:X.mg "sorted"=none)(N8:Gl X "zip")(N9:X.mg "zip"=none)(nA:X.env.code=.ref c)(C:codeHdIn X.K c P=true)(B:AQ X.mg X.base)(S:af [y] [y] scope)
 (hy:scope.names.lookup y=some .local) (jC:(y==("__debug__":Str))=false) (g6:(y==("__classdict__":Str))=false)
 (AV:defaultsOf params X.env=([],[])) (iD:closureFor scope X.env=pure [])
 (uz:∀(q:Str)(J cv G u:Value)(b:Expr),bindArgs (kla_fn "<lambda>" q params b scope [] J cv G) ⟨[u],[]⟩=pure [(y,u)])
 (n:PA X [ex,ey] t) (he:starEach [ex,ey] X.env=(false,eval ex X.env)::starEach [ey] X.env:=by rfl) (hpl:(backTo jg (starEach [ey] X.env)).any (·.1)=false:=by rfl) :
 PE X (.Call (.Name "sorted" p1) [.Call (.Name "zip" p2) [ex,ey] [] jg] [⟨some "key",.Lambda params (.Subscript (.Name y p3) (.Constant (.int 0) j p4) p5) scope Hs,kp⟩] pos) (OA X.K P qq t):=by
 intro g2 g3 gR H Q I h;refine wpAny_Call_Name_kw (vZ I JX g8 boot_sorted ?_ (by decide) (by decide));refine callWith_kw ?_;refine Calls.spliced_cons ?_;refine wpAny_Call_Name_kw (vZ I N8 N9 boot_zip ?_ (by decide) (by decide));refine callWith_type1 (aU (n jg g2 g3 gR H _ I h) λus s1 hh=>?_) he hpl;obtain⟨vs,H1,I1,r1,l1,l2,d,yv,rfl,q1,q2,hl,h0,JU,m,q⟩:=hh;obtain⟨u1,u2,rfl⟩:∃u1 u2,us=[u1,u2]:=by
  cases r1 with
  | cons _ r=>cases r with
    | cons _ r=>cases r with
      | nil=>exact⟨_,_,rfl⟩
 cases r1 with
 | cons e1 r=>cases r with
   | cons e2 r =>
     cases (show u1=Value.ref l1 from e1);cases (show u2=Value.ref l2 from e2);refine uw I1 q1 q2 λL z TI TO T U gL gQ rx ry M D g1 st=>?_;refine Calls.spliced_nil ?_;refine kws_cons ?_;subst g9;refine pw (c:=c) (P:=P) M m nA (codeHd_of_K M.mod.BN C) B AV iD λf N J G H3 Z k gB gI hf rS sn gC I3=>?_;refine kws_nil ?_;obtain⟨ps,m,_⟩:=m;have JW:L.heap.get? P=some (tabObj ps):=M.aO P _ m;have g:∀a ∈ [z,TO,T,U],a≠P:=λa n w=>by have:=(g1 a n).1.free;rw[w,m]at this;cases this
     have W:∀(a:Addr)(u:Obj),L.heap.get? a=some u->u.cls ≠ .none->a≠P:=λa u e gH w=>by rw[w,JW]at e;cases e;exact gH rfl
     obtain⟨a1,a2,a3,a4,a5,a6⟩:=st;obtain⟨b1,ba,bb,b2⟩:IsZip L.heap z TI TO .none/\∃a b,IsPair L.heap TO a b:=by
      rcases a6 with⟨_,w⟩|⟨w,_⟩
      .exact w
      .exact q02 w (q37 _)
     have Dm:xq z TI TO T U l1 l2 gL.toArray gQ.toArray 0 Z:=by
      refine⟨k _ _ (W _ _ a1 (by intro w;cases w)) a1,a2.at λu e=>k _ u (g _ (by simp)) e,a3.at λu e=>k _ u (g _ (by simp)) e,a4.at λu e=>k _ u ?_ e,a5.at λu e=>k _ u ?_ e,.inl ⟨rfl,k _ _ (g _ (by simp)) b1,ba,bb,k _ _ (g _ (by simp)) b2⟩⟩
      .obtain⟨u',e',hc,_⟩:=a4;exact W _ _ e' (by rw[hc];intro w;cases w)
      .obtain⟨u',e',hc,_⟩:=a5;exact W _ _ e' (by rw[hc];intro w;cases w)
     have o3:∀a ∈ [z,TO,T,U],Own X g2 H3 a/\a<Z.heap.objs.size:=λa n=>by
      obtain⟨l,la⟩:=g1 a n;exact⟨⟨by rw[gI a la (g a n)];exact l.free,l.loc,l.new,l.cell,l.pin,l.fs⟩,q21 la gB⟩
     have p:(d.map V.int).length=d.length:=q06 _;have g4:ar X.prog X.w X.K X.mg X.base bp 1 f (kla_fn "<lambda>" (X.env.qual ++ "<lambda>") params (.Subscript (.Name y p3) (.Constant (.int 0) j p4) p5) scope [] J (.ref N) G) [y] (Ec f N (kla_obj "<lambda>" (X.env.qual ++ "<lambda>") params (.Subscript (.Name y p3) (.Constant (.int 0) j p4) p5) scope [] J N G) (X.env.qual ++ "<lambda>")):=by
      refine Eb S (λvs H Q E h=>?_) (λvs H Q E h=>⟨h.1,h.2.1⟩) λgS outer g3 H vs Q E R h=>?_
      .obtain⟨_,_,t,x,y',rfl,_⟩:=h;rfl
      .obtain⟨_,_,t,x,y',rfl,ht,s⟩:=h;exact⟨_,zx qW (rT (i:=0) rfl (.inl hy) jC g6) zg (λ_ _=>rfl),⟨_,rfl,t,[x,y'],0,x,rfl,rfl,.inl (.inl ht),rfl,s⟩⟩
     show wpAny (model X.prog X.w) X.A (call (.builtin "sorted") [.ref z] [(("key":Str),.ref f)]) _ _ Z;refine znj (kz:=d) (xv:=d.map V.int) (yv:=yv) (q:=f) R.hd D rx ry (by rw[p];exact hl) (by rw[p];exact JU) (by rw[p];exact h0) p.symm I3 o3 Dm (λA ts F Y i gK gT s5 o I5=>?_) λF A ts g0 gJ sm Y hn hi I4=>?_
     .rw[q26]at o;cases O:ts[i]? with
      | none=>rw[O]at o;cases o
      | some a =>
        rw[O]at o;cases o;obtain⟨⟨pa,pb⟩,v,n⟩:=Y.get i a O;have g5:pa=.int (d.getD i 0):=by
         rw[List.getElem?_zip_eq_some]at v;obtain⟨v,_⟩:=v;rw[q26]at v;rw[q18];cases ex:d[i]? with
         | none=>rw[ex]at v;cases v
         | some x=>rw[ex]at v;cases v;rfl
        subst g5;refine wpAny_call (codeAny_mono (g4.run X.A.in1.in1 X.stack s5 A ⟨[.ref a],[]⟩ [.ref a] [.ref a] (λx H'=>x=.int (d.getD i 0)/\H'=A) E0 R.in1.in1 I5.Al.in1.in1 (.of_eq (uz _ _ _ _ _ _)) (.cons rfl .nil) ⟨F _ _ hf,F _ _ rS,a,_,_,rfl,n,rfl,rfl⟩) λr s6 s=>?_);cases r with
        | error e=>exact s
        | ok fl =>
          cases fl with
          | next=>exact False.elim s
          | brk=>exact False.elim s
          | cont=>exact False.elim s
          | ret u =>
            obtain⟨gK,H',I6,rv,rfl,rfl⟩:=I5.after s;obtain⟨tk,rfl⟩:=rv;exact⟨I6,tk,rfl⟩
     .rw[p]at hi;exact⟨.ref g0,_,I4,rfl,q A ts g0 gJ (sn.trans sm.toN) (gC.same sm) Y hn hi⟩
end
def pA{K:Frag}{l1 l2:Addr}{xs ys:List V}{c:St}{d:TT}{j:TE}{H:Hp}{s:List V->Hp->Prop}(w:Nat->List V->Hp->Prop)(u:w 0 [] H)(B:∀i n H,i<=min xs.length ys.length->w i n H->ah K H l1 xs/\ah K H l2 ys/\n.length<=i)(G:min xs.length ys.length<=sizeLine)
 (hs:∀i x y t n H,xs[i]? = some x->ys[i]? = some y->H t=none->w i n H->d (some x::some y::c) (upd H t (.tup [x,y])) λb h=>if b=true then j (some x::some y::c) h λz l=>w (i+1) (n++[z]) l else w (i+1) n h) (hd:∀n H,w (min xs.length ys.length) n H->s n H):fW K (Ee K l1 l2) c d j H s:=by
 refine⟨λi m n H=>m=min xs.length ys.length-i/\i<=min xs.length ys.length/\w i n H,⟨min xs.length ys.length,by simp,zero_le _,u⟩,?_⟩;rintro i m n H ⟨rfl,A,p⟩;obtain⟨a,r,E⟩:=B i n H A p;by_cases o:i<min xs.length ys.length
 .have h1:i<xs.length:=by lia
  have f:i<ys.length:=by lia
  refine .inr ⟨⟨xs,ys,xs[i],ys[i],a,r,by simp[h1],by simp[f]⟩,by lia,w (i+1),λI k D=>⟨min xs.length ys.length-(i+1),by lia,rfl,o,D⟩,λv k y=>?_⟩;obtain⟨t,x,y,rfl,C,rfl,q,g⟩:=y;exact⟨t,x,y,rfl,.inl (.inl zd),hs i x y t n _ (q xs a) (g ys r) C p⟩
 .have e:i=min xs.length ys.length:=by lia
  subst e;exact .inl ⟨⟨xs,ys,a,r,by lia⟩,by lia,hd n H p⟩
end L2
namespace L2
open PySem PySem.Spec PyProof.Rows PySem.Builtin PySem.Builtin.Str
def nB:∀{v:List Str}{n:List Value},Vals (v.map V.str) n->∃l:List (Str×Tok),n=strValues l/\l.map (·.1)=v
 | [],_,h=>by cases h;exact⟨[],rfl,rfl⟩
 | x::v,_,h=>by
   cases h with
   | cons r h =>
     obtain⟨t,rfl⟩:=r;obtain⟨l,rfl,e⟩:=nB h;exact⟨(x,t)::l,rfl,by rw[map_cons,e]⟩
def pB{z:Str}{ts:List Str}(b:z.length<=10)(s:ts.length<=200)(h:∀t∈ts,t.length<=2000):tooLong (ts.toArray.foldl (·+ ·.length+z.length) 0)=false:=by
 have e:∀(l:List Str)(n:Nat),(∀t∈l,t.length<=2000)->l.foldl (·+ ·.length+z.length) n<=n+2010*l.length:=by
  intro l
  induction l with
  | nil=>intro n _;simp
  | cons t l w =>
    intro n h;have:=w (n+t.length+z.length) λu v=>h u (q13 _ v);have r:=h t (q14 ..);rw[foldl_cons,q12]
    lia
 have:=e ts 0 h;have a:=zq;unfold tooLong;rw[List.foldl_toArray];simp only[gt_iff_lt,decide_eq_false_iff_not]
 lia
section
variable {X:Cx}
def wq:wZ X (.type "str") (λe H Q=>(∃i:Int,e=[.int i]/\i.natAbs.log2<1920/\Q (.str (toString i)) H)\/∃y,e=[.str y]/\Q (.str y) H):=by
 intro n s a H e w Q I r h;rcases h with⟨i,rfl,v,q⟩|⟨y,rfl,q⟩
 .obtain⟨u,rfl,⟨t,rfl⟩⟩:=r.one;exact P.str_of_int v ⟨.str _,H,I.tok _,⟨_,rfl⟩,q⟩
 .obtain⟨u,rfl,⟨t,rfl⟩⟩:=r.one;exact P.str_of_str ⟨.str _,H,I,⟨_,rfl⟩,q⟩
inductive uF (K:Frag)(x:V)(xs:List V)(H:Hp)(Q:VK):Prop|mk(z:Str)(a:Addr)(e:List Str):x=.str z->xs=[.ref a]->ah K H a (e.map V.str)->z.length<=10->e.length<=200->((∀t∈e,t.length<=2000))->Q (.str (Txt.join z e)) H->uF K x xs H Q
def rJoin(K:Frag):V->List V->Hp->VK->Prop:=λx e H Q=>uF K x e H Q
def Hu:DA X "str.join" (rJoin X.K):=by
 intro o s B H x A v y Q I j i h;obtain⟨z,a,f,rfl,rfl,b,n,w,r,q⟩:=h;obtain⟨t,rfl⟩:=j;obtain⟨u,rfl,d⟩:=i.one;cases d;obtain⟨m,c,p,_⟩:=I.list b;obtain⟨l,rfl,rfl⟩:=nB c;have e:=pB n w r;exact call_meets F.slot_str_join (typeIs_str _ _ _) F.entry_str_join (F.args_str_join_2 _ _) (meets_str_join_list z t a l e) ⟨p.isList,post_join l ⟨joinFit_length e,λg k=>⟨.str _,H,I.tok _,⟨_,rfl⟩,q⟩⟩⟩
end
def tN(n:Int):Str:=Str.ofString (toString n)
def yI{i:Int}(h:i.natAbs<=100000):i.natAbs.log2<1920:=by
 by_cases e:i.natAbs=0
 .rw[e];decide
 .have:i.natAbs.log2<17:=(Nat.log2_lt e).mpr (by lia)
  lia
def pC{X:Cx}:DA X "str.upper" (λx e H Q=>∃z,x=.str z/\e=[]/\z.length<=1000/\((Txt.upper z).length<=3*z.length->Q (.str (Txt.upper z)) H)):=by
 intro b s d H x e v c Q I a w h;obtain⟨z,rfl,rfl,r,q⟩:=h;obtain⟨t,rfl⟩:=a;cases w;exact SCL.upper (by lia) λn=>⟨.str _,H,I.tok _,⟨_,rfl⟩,q n⟩
def uG:∀k:Fin 26,PySem.Unicode.upperOf (97+k.val)=[65+k.val]:=by decide +kernel
end L2
namespace M2
open PySem L2
def rj(z:Str):Bool:=(decide (1<=(z.length:Int)) && decide ((z.length:Int)<=8)) && (z.cps.toList.map kU).all id
def xw(ts:List Str):Bool:=(decide (1<=(ts.length:Int)) && decide ((ts.length:Int)<=15)) && (decide ts.Nodup && (ts.map rj).all id)
def wx(z:Str):rj z=true↔(1<=z.length/\z.length<=8)/\∀c∈z.cps.toList,kU c=true:=by
 unfold rj;simp only[q42,decide_eq_true_eq,all_map,q39,Function.comp,id];constructor
 .rintro ⟨⟨h1,h2⟩,h3⟩;exact⟨⟨by lia,by lia⟩,h3⟩
 .rintro ⟨⟨h1,h2⟩,h3⟩;exact⟨⟨by lia,by lia⟩,h3⟩
def Ve(ts:List Str):xw ts=true↔(1<=ts.length/\ts.length<=15)/\ts.Nodup/\∀z∈ts,(1<=z.length/\z.length<=8)/\∀c∈z.cps.toList,kU c=true:=by
 unfold xw;simp only[q42,decide_eq_true_eq,all_map,q39,Function.comp,id,wx];constructor
 .rintro ⟨⟨h1,h2⟩,h3,h4⟩;exact⟨⟨by lia,by lia⟩,h3,h4⟩
 .rintro ⟨⟨h1,h2⟩,h3,h4⟩;exact⟨⟨by lia,by lia⟩,h3,h4⟩
def OB(c:Nat):(!decide ((⟨#[c]⟩:Str).cps.toList<("a":Str).cps.toList))=decide (97<=c):=by
 have e:("a":Str).cps.toList=[97]:=by decide +kernel
 rw[e];show(!decide ([c] < [97]))=_;by_cases h:97<=c
 .rw[q19 h,q20];rfl;simp[cons_lt_cons_iff];lia
 .rw[q20 h,q19];rfl;simp[cons_lt_cons_iff];lia
def OC(c:Nat):(!decide (("z":Str).cps.toList<(⟨#[c]⟩:Str).cps.toList))=decide (c<=122):=by
 have e:("z":Str).cps.toList=[122]:=by decide +kernel
 rw[e];show(!decide ([122] < [c]))=_;by_cases h:c<=122
 .rw[q19 h,q20];rfl;simp[cons_lt_cons_iff];lia
 .rw[q20 h,q19];rfl;simp[cons_lt_cons_iff];lia
end M2
namespace L2
open PySem PySem.Spec PyProof.Rows
def pE{z:Str}{l u:Option Int}{c:Nat}(h:c∈(Txt.slice z l u).cps.toList):c∈z.cps.toList:=by
 unfold Txt.slice at h;split at h
 .exact h
 .have h:c∈(filterMap (λi=>z.cps[i]?) (Builtin.Str.strSliceIndices l u 1 z.length)):=by simpa using h
  obtain⟨i,_,e⟩:=List.mem_filterMap.mp h;exact Array.mem_toList_iff.mpr (Array.mem_of_getElem? e)
end L2
namespace M1
def gap(c:Int):Int:=[1,7,500,998].getD (c%4).toNat 1
def aa(c:Int)(m:Nat):List Int:=(List.range m).map fun(k:Nat)=>(c/4+(k:Int)*gap c)%999+1
def Vf(c:Int)(m:Nat):(aa c m).length=m:=by unfold aa;simp
def zk1(c:Int)(m:Nat):aa c (m+1)=aa c m++[(c/4+(m:Int)*gap c)%999+1]:=by unfold aa;rw[range_succ,q07];rfl
variable {x:Int}
def zj6{c:Int}{m:Nat}(h:x∈aa c m):1<=x/\x<=999:=by
 obtain⟨k,_,rfl⟩:=q25.mp h;have e:=Int.emod_nonneg (c/4+(k:Int)*gap c) (show(999:Int)≠0 by decide);have t:=Int.emod_lt_of_pos (c/4+(k:Int)*gap c) (show(0:Int)<999 by decide)
 lia
def pF(c:Int):gap c=1\/gap c=7\/gap c=500\/gap c=998:=by
 have h:c%4=0\/c%4=1\/c%4=2\/c%4=3:=by lia
 unfold gap;rcases h with h | h | h | h <;> rw[h]
 .exact .inl rfl
 .exact .inr (.inl rfl)
 .exact .inr (.inr (.inl rfl))
 .exact .inr (.inr (.inr rfl))
def zjX{c:Int}{m:Nat}(a:m<=999):(aa c m).Nodup:=by
 unfold aa;refine List.pairwise_map.mpr (List.Pairwise.imp_of_mem (λ{i j} t v w e=>?_) (pairwise_lt_range (n:=m)));have t:=List.mem_range.mp t;have v:=List.mem_range.mp v;rcases pF c with g | g | g | g <;> rw[g]at e <;> lia
def lO{l r:List Int}(h:(l++x::r).Nodup):((l++x::r).filter λo => !decide (o=x))=l++r:=by
 rw[nodup_append]at h;obtain⟨_,t,v⟩:=h;rw[List.nodup_cons]at t;rw[q16,filter_cons_of_neg (by simp)];congr 1
 .exact List.filter_eq_self.mpr λy e=>by simp;exact v y e _ q14
 .exact List.filter_eq_self.mpr λy e=>by simp;intro z;rw[z]at e;exact t.1 e
variable {ms:List Int}
def uH{i:Nat}(t:i<ms.length):ms.take i++ms.getD i 0::ms.drop (i+1)=ms:=by
 have e:ms.getD i 0=ms[i]:=by rw[q18,q31 t];rfl
 have:=q35 i ms
 rwa [drop_eq_getElem_cons t,<-e]at this
def JY(h:ms.Nodup){i:Nat}(t:i<ms.length):(ms.filter λo => !decide (o=ms.getD i 0))=ms.take i++ms.drop (i+1):=by
 have e:=uH t;have:=lO (l:=ms.take i) (x:=ms.getD i 0) (r:=ms.drop (i+1)) (by rw[e];exact h)
 rwa [e]at this
def pG{l:List Int}(h:l.Nodup)(e:x∈l):l.count x=1:=by
 have t:=List.nodup_iff_count.mp h x;have v:=List.count_pos_iff.mpr e
 lia
def Vg:∀{ms ns:List Int},ms.Nodup->(∀x∈ms,x∈ns)->ns.length<=ms.length->ms.Perm ns
 | [],ns,_,_,t=>by
   have:ns=[]:=List.eq_nil_of_length_eq_zero (by simpa using t);subst this;exact List.Perm.refl _
 | x::ms,ns,hn,hs,t=>by
   have n:x∈ns:=hs x q14;rw[List.nodup_cons]at hn;have p:=List.perm_cons_erase n;have w:=Vg (ms:=ms) (ns:=ns.erase x) hn.2 (λy v=>(List.mem_erase_of_ne (by intro e;rw[e]at v;exact hn.1 v)).mpr (hs y (q13 _ v))) (by
    rw[List.length_erase_of_mem n];simp at t
    lia)
   exact(w.cons x).trans p.symm
def rn(ns:List Int):Bool:=(decide (1<=(ns.length:Int)) && decide ((ns.length:Int)<=24)) && (decide ns.Nodup && (ns.map λn=>decide (1<=n) && decide (n<=999)).all id)
def pH(ns:List Int):rn ns=true↔(1<=ns.length/\ns.length<=24)/\ns.Nodup/\∀n∈ns,1<=n/\n<=999:=by
 unfold rn;simp only[q42,decide_eq_true_eq,all_map,q39,Function.comp,id];constructor
 .rintro ⟨⟨h1,h2⟩,h3,h4⟩;exact⟨⟨by lia,by lia⟩,h3,h4⟩
 .rintro ⟨⟨h1,h2⟩,h3,h4⟩;exact⟨⟨by lia,by lia⟩,h3,h4⟩
end M1
namespace L2
open PySem PySem.Spec PyProof.Rows
inductive kB (x:V)(vs:List V)(H:Hp)(Q:VK):Prop|mk(l:Addr)(ns:List Int)(c:Int):x=.ref l->vs=[.int c]->H l=some (.lst (ns.map V.int))->ns.Nodup->c∈ns->(Q .bR (upd H l (.lst ((ns.filter λo => !decide (o=c)).map V.int))))->kB x vs H Q
def AW:V->List V->Hp->VK->Prop:=λx e H Q=>kB x e H Q
def OD(c:Int):Value->Bool
 | .int a _=>a==c
 | _=>false
def Vh:∀{ns:List Int}{e:List Value},Vals (ns.map V.int) e->∀(i:Nat)(n:i<e.length),∃t,e[i]=.int (ns.getD i 0) t
 | [],_,.nil,i,n=>q02 n (Nat.not_lt_zero _)
 | a::ns,v::e,.cons r rs,0,_=>by
   obtain⟨t,rfl⟩:=r;exact⟨t,rfl⟩
 | a::ns,v::e,.cons r rs,i+1,n=>Vh rs i (by simpa using n)
def pI{X:Cx}:E9 X "list.remove" AW:=by
 intro S s W H x U v T Q I N M h;obtain⟨l,ns,c,rfl,rfl,p,A,E,q⟩:=h;cases N;obtain⟨u,rfl,L⟩:=M.one;obtain⟨t,rfl⟩:=L;obtain⟨z,a,n,r,J,e⟩:=I.sW p;rw[q06]at J;have f:ns.idxOf c<ns.length:=idxOf_lt_length_of_mem E;have g:ns.getD (ns.idxOf c) 0=c:=by
  rw[q18,q31 f];exact getElem_idxOf _
 have d:=Vh r;have D:(ns.map V.int).eraseIdx (ns.idxOf c)=(ns.filter λo => !decide (o=c)).map V.int:=by
  have k:=M1.JY A f;rw[g]at k;rw[k,List.eraseIdx_eq_take_drop_succ,<-map_take,<-map_drop,q07]
 refine call_meets F.slot_list_remove ⟨_,e,rfl⟩ F.entry_list_remove (F.args_list_remove_2 _ _)
  (MeetsSeq.list_remove l a.toArray n (.int c t) (OD c) (λy j=>?_) (ns.idxOf c) (by rw[q10];lia) ?_ (λm R O=>?_) (by rw[q10];rw[q06]at z;lia)) ⟨e,?_⟩
 .have j:y∈a:=by simpa using j
  obtain⟨i,G,rfl⟩:=List.getElem_of_mem j;obtain⟨B,b⟩:=d i G;rw[b];exact MeetsSeq.EqGives.int _ _ _ _
 .obtain⟨B,b⟩:=d (ns.idxOf c) (by lia);show OD c (a.toArray[ns.idxOf c]'_)=true;rw[getElem_toArray,b,g];show(c==c)=true;simp
 .obtain⟨B,b⟩:=d m (by lia);show OD c (a.toArray[m]'_)=false;rw[getElem_toArray,b];show(ns.getD m 0==c)=false;have:ns.getD m 0≠c:=λw=>by
   have K:m<ns.length:=by lia
   have C:ns[m]=ns[ns.idxOf c]:=by
    rw[getElem_idxOf];rw[q18,q31 K]at w;exact w
   have:=(getElem_inj A).mp C
   lia
  simpa using this
 rw[<-D]at q;refine⟨.bR,_,I.DE (its':=a.eraseIdx (ns.idxOf c)) p e ?_ (r.eraseIdx (ns.idxOf c)) ?_,rfl,q⟩
 .show a.toArray.eraseIdxIfInBounds (ns.idxOf c)=(a.eraseIdx (ns.idxOf c)).toArray;rw[List.eraseIdxIfInBounds_toArray]
 .have:=Nm (ns.map V.int) (ns.idxOf c)
  lia
structure DF (K:Frag) (x:Str) (st:Stmt) (ps:List Str):Prop where
 ex:∃f fd,nsIn K mainGlobals x=some (some (.ref f))/\aS K x x st f fd/\Binds K fd ps []
structure DM (K:Frag) (C:Addr) (m qual:Str) (st:Stmt) (ps:List Str):Prop where
 ex:∃f fd,findIn K (.ref C) m=some (some (.ref f))/\isFn K (.ref f)=true/\aS K m qual st f fd/\Binds K fd ps []
section
variable {K:Frag}{st:Stmt}{f C:Addr}{oc:Value}{od an:Option Addr}{j3:Array (Option Value)}{kV doc pm aN ct:Value}{ps:List Str}
def df{x:Str}(a:nsIn K mainGlobals x=some (some (.ref f)))(l:K.lookup f=some ⟨oc,od,.func (fnOf x x (sY st) (yR st) (zf st) .none kV doc pm an aN ct),j3⟩)(c:codeIn K aN x=true)(k:keepIn K (.ref f)=true)
 (h:∀(kV doc pm:Value)(an:Option Addr)(aN ct:Value)(e:List Value),e.length=ps.length->bindArgs (fnOf x x (sY st) (yR st) (zf st) .none kV doc pm an aN ct) ⟨e,[]⟩=pure (ps.zip e)):DF K x st ps:=⟨⟨f,_,a,Fb l c k,(Fb l c k).binds h⟩⟩
def dm{m qual:Str}(a:findIn K (.ref C) m=some (some (.ref f)))(i:isFn K (.ref f)=true)(l:K.lookup f=some ⟨oc,od,.func (fnOf m qual (sY st) (yR st) (zf st) .none kV doc pm an aN ct),j3⟩)(c:codeIn K aN qual=true)(k:keepIn K (.ref f)=true)
 (h:∀(kV doc pm:Value)(an:Option Addr)(aN ct:Value)(e:List Value),e.length=ps.length->bindArgs (fnOf m qual (sY st) (yR st) (zf st) .none kV doc pm an aN ct) ⟨e,[]⟩=pure (ps.zip e)):DM K C m qual st ps:=⟨⟨f,_,a,i,Fb l c k,(Fb l c k).binds h⟩⟩
end
section
variable {K:Frag}{mg:Str->Option Value}{st:Stmt}{C:Addr}{ps:List Str}{k:Nat}{sp:Sp}{h:Heap}{x m qual:Str}(P:Program)(w:World)(base:Heap)
def zP(X:K.In h)(G:h.Ns mainGlobals mg)(d:DF K x st ps)(g:∀{f e},aS K x x st f e->ar P w K mg base bp k f e ps sp):bJ P w K mg base k x ps sp:=by
 obtain⟨f,e,a,F,b⟩:=d.ex;exact bJ.of F (g F) (mg_of X G a) b
def kC(X:K.In h)(G:h.Ns mainGlobals mg)(d:DF K x st ps)(g:∀{f e},aS K x x st f e->ar P w K mg base (dM P w) k f e ps sp):dq P w K mg base k x ps sp:=by
 obtain⟨f,e,a,F,b⟩:=d.ex;exact dq.of F (g F) (mg_of X G a) b
def Ef(t:yu K x=C)(d:DM K C m qual st ps)(g:∀{f e},aS K m qual st f e->ar P w K mg base bp k f e ps sp):kA P w K mg base k (yu K x) m ps sp:=by
 obtain⟨f,e,a,i,F,b⟩:=d.ex;exact kA.of t (g F) ⟨a,i,F.kp⟩ b
def Fu(t:yu K x=C)(d:DM K C m qual st ps)(g:∀{f e},aS K m qual st f e->ar P w K mg base (dM P w) k f e ps sp):ee P w K mg base k (yu K x) m ps sp:=by
 obtain⟨f,e,a,i,F,b⟩:=d.ex;exact ee.of t (g F) ⟨a,i,F.kp⟩ b
def OE(t:yu K x=C)(X:K.In h)(G:h.Ns mainGlobals mg)(v:nsIn K mainGlobals x=some (some (.ref C)))(mk:makesIn K C=true)(n:keepIn K (.ref C)=true)(d:DM K C "__init__" qual st ps)(g:∀{f e},aS K "__init__" qual st f e->ar P w K mg base (dM P w) k f e ps sp):o9 P w K mg base k x (yu K x) ps sp:=by
 obtain⟨f,e,a,i,F,b⟩:=d.ex;exact o9.of t (g F) (mg_of X G v) ⟨mk,a,i,n⟩ b
end
section
variable {P:List Value->Prop}
def on0(p:P []):∀e:List Value,e.length=0->P e
 | [],_=>p
def onS{n:Nat}(p:∀(a:Value)(t:List Value),t.length=n->P (a::t)):∀t:List Value,t.length=n+1->P t:=by
 intro t e;cases t with
 | nil=>cases e
 | cons a r=>exact p a r (Nat.succ.inj e)
end
def bf{N P:List Str}{e:Scope}(a1:e.kind=.function:=by exact rfl)(a2:e.isCoroutine=false:=by exact rfl)(a3:e.isGenerator=false:=by exact rfl)(a4:N.Nodup:=by decide +kernel)(a5:N.take P.length=P:=by exact rfl)(a6:∀x∈P,e.names.lookup x=some .local\/e.names.lookup x=some .cell:=by decide +kernel)(a7:∀y∈e.names,y.2 ≠ .free:=by decide +kernel):af N P e:=⟨a1,a2,a3,a4,a5,a6,a7⟩
section
variable {sc:Scope}{N:List Str}{x x2:Str}{fr:List Str}{ix:List Nat}{scope:Scope}
def dU(a1:scope.kind=.function:=by exact rfl)(a2:∀y∈scope.names,y.2 ≠ .cell:=by decide +kernel)(a3:∀y∈scope.names,y.2=.local->scope.names.lookup y.1=some .local:=by decide +kernel)(a4:scope.names.lookup x=some .local:=by exact rfl)(a5:∀y∈scope.names,y.2=.free->sc.names.lookup y.1=some .cell\/sc.names.lookup y.1=some .free:=by decide +kernel)
 (a6:fr.map some=ix.map λi=>N[i]? := by exact rfl) (a7:∀y∈fr,scope.names.lookup y=some .free/\(sc.names.lookup y=some .cell\/sc.names.lookup y=some .free):=by decide +kernel) (a8:(x::fr).Nodup:=by decide +kernel):aj sc N x fr ix scope:=⟨a1,a2,a3,a4,a5,a6,a7,a8⟩
def OF(a1:scope.kind=.function:=by exact rfl)(t:∀a e,cellsFrom a scope.names e=(x,a)::e:=by exact λ_ _=>rfl)(v:∀h:Heap,pushCells h scope.names=h.push { cls:=.type "cell",data:=.cell none }:=by exact λ_=>rfl)(n:∀y∈scope.names,y.2=.cell->y.1=x:=by decide +kernel)(a3:∀y∈scope.names,y.2=.local->scope.names.lookup y.1=some .local:=by decide +kernel)(a4:scope.names.lookup x=some .cell:=by exact rfl)(a5:∀y∈scope.names,y.2=.free->sc.names.lookup y.1=some .cell\/sc.names.lookup y.1=some .free:=by decide +kernel)
 (a6:fr.map some=ix.map λi=>N[i]? := by exact rfl) (a7:∀y∈fr,scope.names.lookup y=some .free/\(sc.names.lookup y=some .cell\/sc.names.lookup y=some .free):=by decide +kernel) (a8:(x::fr).Nodup:=by decide +kernel):bK sc N x fr ix scope:=⟨a1,t,v,n,a3,a4,a5,a6,a7,a8⟩
def uI(a1:scope.kind=.function:=by exact rfl)(a2:∀y∈scope.names,y.2 ≠ .cell:=by decide +kernel)(a3:∀y∈scope.names,y.2=.local->scope.names.lookup y.1=some .local:=by decide +kernel)(a4:scope.names.lookup x=some .local:=by exact rfl)(e:scope.names.lookup x2=some .local:=by exact rfl)(a5:∀y∈scope.names,y.2=.free->sc.names.lookup y.1=some .cell\/sc.names.lookup y.1=some .free:=by decide +kernel)
 (a6:fr.map some=ix.map λi=>N[i]? := by exact rfl) (a7:∀y∈fr,scope.names.lookup y=some .free/\(sc.names.lookup y=some .cell\/sc.names.lookup y=some .free):=by decide +kernel) (a8:(x::x2::fr).Nodup:=by decide +kernel):aZ sc N x x2 fr ix scope:=⟨a1,a2,a3,a4,e,a5,a6,a7,a8⟩
end
section
variable {X:Cx}{e:Expr}{p pos:Pos}{te:TE}
def yf(v:X.mg "len"=none)(he:PE X e te)(t:Gl X "len":=by rfl)(hs:starEach [e] X.env=(false,eval e X.env)::starEach [] X.env:=by rfl)(hpl:(backTo pos (starEach [] X.env)).any (·.1)=false:=by rfl):
 PE X (.Call (.Name "len" p) [e] [] pos) (JE (bT X.K) (mM te oN)):=zJ Uk t v PySem.boot_len (za he zb (hs:=hs)) (he:=hs) (hpl:=hpl)
def Ct{K:Frag}(t:X.K=K)(n:X.mg "len"=none)(he:PE X e te)(v:Gl X "len":=by rfl)(hs:starEach [e] X.env=(false,eval e X.env)::starEach [] X.env:=by rfl)(hpl:(backTo pos (starEach [] X.env)).any (·.1)=false:=by rfl):
 PE X (.Call (.Name "len" p) [e] [] pos) (JE (bT K) (mM te oN)):=zJ (ZK t) v n PySem.boot_len (za he zb (hs:=hs)) (he:=hs) (hpl:=hpl)
end
section
variable {X:Cx}{x:Str}{e:Expr}{te:TE}{pos pos' p:Pos}{es:List Expr}{t:TA}{k n:Nat}{ps:List Str}{sp:Sp}
def br(i:Nat)(v:X.N.Nodup)(he:PE X e te)(hs:swapsWith e (some (.Name x pos')) pos.line X.env=pure false:=by rfl)(a:X.N[i]? = some x:=by rfl)(r:Loc X.env.scope x:=by first | exact .inl rfl | exact .inr rfl)(w:X.fn x=true\/X.env.scope.names.lookup x=some .local:=by first | exact .inl rfl | exact .inr rfl | assumption):
 PS X (.Assign [.Name x pos'] e pos) (se te (jB i)):=Dj v a r he hs w
def iH(i:Nat)(v:X.N.Nodup)(a:X.N[i]? = some x:=by rfl)(r:Loc X.env.scope x:=by first | exact .inl rfl | exact .inr rfl)(w:X.fn x=true\/X.env.scope.names.lookup x=some .local:=by first | exact .inl rfl | exact .inr rfl | assumption):PG X (.Name x pos) (jB i):=rY v a r w
def aI(C:bJ X.prog X.w X.K X.mg X.base k x ps sp)(h:bA n X.A)(v:PA X (e::es) t)(r:k<=n:=by decide)(a:Gl X x:=by rfl)(s:(x==("__debug__":Str))=false:=by decide)(he:starEach (e::es) X.env=(false,eval e X.env)::starEach es X.env:=by rfl)
 (hpl:(backTo pos (starEach es X.env)).any (·.1)=false:=by rfl):PE X (.Call (.Name x p) (e::es) [] pos) (sI sp [] E0 t):=DS C (h.mono r) a v s he hpl
end
abbrev yg(K:Frag)(m n:Str)(b:Bool):Prop:=∀C D,aX K m C->aX K n D->zD K C D=b
def yk{K:Frag}{m n:Str}{b:Bool}{c d:Addr}(x:aX K m c)(y:aX K n d)(h:zD K c d=b):yg K m n b:=λC D a e=>by
 cases aX.inj a x;cases aX.inj e y;exact h
abbrev rp(K:Frag)(mg:Str->Option Value)(m:Str):Prop:=∃C,aX K m C/\mg m=some (.ref C)/\Ce K C
section
variable {X:Cx}
def ak:=@pv X 0
def aA:=@pv X 1
def aL:=@pv X 2
def bB:=@pv X 3
def cO:=@pv X 4
def fS:=@pv X 5
def fC:=@pv X 6
def xx:=@pv X 7
def AY:=@pv X 8
def AZ:=@pv X 9
def A0:=@pv X 10
def Eg:=@pv X 11
def Cu:=@pv X 12
def OG:=@pv X 13
end
def bF{e t v:Type}{f:e->t->v}:∀a b,f a b=f a b:=λ_ _=>rfl
variable {H H':Hp}{l:Addr}
def ae.gen{o:HO}(h:H l=Option.none)(e:upd H l o=H'):ae H H':=e ▸ ae.new h
def ae.A1{t:Hp}{o:HO}(s:ae H t)(h:t l=Option.none)(e:upd t l o=H'):ae H H':=s.trans (ae.gen h e)
def rq{o:HO}(e:upd H l o=H'):H' l=some o:=e ▸ zd
def xy(B:Heap)(l:List Env)(x:Addr)(cls a0:Value)(h:Heap):Prop:=B.StaysIn h/\B.get? x=none/\h.FunFrames B l/\∃e,h.TracedAtW B x cls a0 e
section
variable {M:Model}{A:Around}{E:Value->Shared->Prop}{s:Shared}{B:Heap}{env:Env}{outer l:List Env}{L x:Addr}{cls a0:Value}{Q:Unit->Shared->Prop}
def Vi(N:A.frames=some (env::outer))(g:env.frame=some L)(a:xy B (env::outer) x cls a0 s.heap)(m:∀v,xy B (env::outer) x cls a0 v->s.heap.UpToSlots v->Q () { s with heap:=v }):
 wpAny M A (noteFrame (.ref x) env) Q E s:=by
 obtain⟨c,w,d,i,f⟩:=a;have K:=f;obtain⟨X,Y,T,W,y,q,⟨I,G⟩,p,j,C,D,r,h,k⟩:=f;subst I;unfold noteFrame;simp only[g];refine q03 (wpAny_field q p j ?_);rw[q01 (by simp)];refine q03 (wpAny_field r h k ?_);by_cases n:(i==rawInt L)=true
 .rw[q01 n];exact q04 (m s.heap ⟨c,w,d,i,K⟩ (.refl _))
 rw[q00 n];have J:3<y.size:=(Array.getElem?_eq_some_iff.mp k).1;refine q03 (wpAny_setField r h J ?_);have ne:∀b,b≠T->(s.heap.update T (Obj.mapFields (·.setIfInBounds 3 Value.none))).get? b=s.heap.get? b:=λb n=>get?_update_other _ _ (Ne.symm n);have u:∀b o,s.heap.get? b=some o->(∀O,o.data ≠ .fields O)->b≠T:=λb o e t z=>by
  subst z;rw[r]at e;cases e;exact t y h
 refine wpAny_entryW N (d.of_keeps λb o e t=>⟨o,(ne b (u b o e t)).trans e,rfl⟩) g ((ne x (Ne.symm D)).trans q) (λb o e=>?_) w p (Array.getElem?_eq_some_iff.mp j).1 G λv ⟨R,S,U,V⟩=>?_
 .refine(ne b λz=>?_).trans (c b o e);subst z;rw[C]at e;cases e
 .exact m v ⟨R,w,S,_,U⟩ λb o e t=>V b o ((ne b (u b o e t)).trans e) t
def Vj{fr:Option Addr}(a:xy B l x cls a0 s.heap)(i:∀v,xy B l x cls a0 v->v.TracedAtW B x cls a0 (fr.elim Value.none λf=>rawInt f)->s.heap.UpToSlots v->Q () { s with heap:=v }):wpAny M A (setFlight (.ref x) fr) Q E s:=by
 obtain⟨u,y,C,R,K,N,T,S,g,k,I,j,d,h,c,r,n,D⟩:=a;have m:3<g.size:=(Array.getElem?_eq_some_iff.mp D).1;unfold setFlight;refine q03 (wpAny_field k j d ?_);rw[q01 (by simp)];refine wpAny_setField r n m ?_;generalize J:(fr.elim Value.none λf=>rawInt f)=w;rw[J]at i;have ne:∀b,b≠T->(s.heap.update T (Obj.mapFields (·.setIfInBounds 3 w))).get? b=s.heap.get? b:=λb G=>get?_update_other _ _ (Ne.symm G);have p:∀b o,s.heap.get? b=some o->(∀O,o.data ≠ .fields O)->b≠T:=λb o e t z=>by
  subst z;rw[r]at e;cases e;exact t g n
 have q:(s.heap.update T (Obj.mapFields (·.setIfInBounds 3 w))).TracedAtW B x cls a0 w:=⟨K,N,T,_,_,(ne x (Ne.symm c)).trans k,I,j,d,h,c,get?_update_self _ r (Obj.isFreed_of_fields (Obj.data_mapFields n _)),Obj.data_mapFields n _,by simp[m]⟩;refine i _ ⟨λb o e=>?_,y,C.of_keeps λb o e t=>⟨o,(ne b (p b o e t)).trans e,rfl⟩,_,q⟩ q λb o e t=>⟨o.slots,(ne b (p b o e t)).trans e⟩;refine(ne b λz=>?_).trans (u b o e);subst z;rw[h]at e;cases e
def zno(m:A.frames=some (env::outer))(d:env.frame=some L)(a:xy B (env::outer) x cls a0 s.heap)(c:∀e,FlyingW B outer x cls a0 e->s.heap.UpToSlots e->Q () { s with heap:=e }):
 wpAny M A (leaving env (.ref x)) Q E s:=by
 unfold leaving;refine q03 (Vi m d a λh t j=>?_);refine Vj (s:={ s with heap:=h }) t λb v i k=>?_;obtain⟨n,w,⟨_,_,r⟩,_⟩:=v;exact c b ⟨n,w,r,i⟩ (j.trans k)
def xy.but{h h':Heap}{C:Addr}{W:Obj}(a:xy B l x cls a0 h)(O:B.get? C=some W)(n:SameBut C h h'):xy (hideAll B [C]) l x cls a0 h':=by
 obtain⟨y,u,D,G,Y,F,T,X,Z,V,S,U,K,g,f,R,P,N⟩:=a;have k:(hideAll B [C]).StaysIn B:=λb o e=>of_hideAll _ e;have none_of:∀{b},B.get? b=none->(hideAll B [C]).get? b=none:=λ{b} t=>by
  cases e:(hideAll B [C]).get? b with
  | none=>rfl
  | some o=>rw[k b o e]at t;cases t
 have w:∀{b},B.get? b=none->b≠C:=λ{b} t z=>by rw[z,O]at t;cases t
 have I:h'.FunFrames B l:=by
  have c:∀{l:List Env},h.FunFrames B l->h'.FunFrames B l:=λ{l}=>by
   induction l with
   | nil=>exact λ_=>trivial
   | cons e r d =>
     rintro ⟨i,⟨L,o,j,v,m,p⟩,q⟩;exact⟨i,⟨L,o,j,v,(n.2 L (w v)).trans m,p⟩,d q⟩
  exact c D
 have J:h'.FunFrames (hideAll B [C]) l:=by
  have c:∀{l:List Env},h'.FunFrames B l->h'.FunFrames (hideAll B [C]) l:=λ{l}=>by
   induction l with
   | nil=>exact λ_=>trivial
   | cons e r d =>
     rintro ⟨i,⟨L,o,j,v,m,p⟩,q⟩;exact⟨i,⟨L,o,j,none_of v,m,p⟩,d q⟩
  exact c I
 refine⟨λb o e=>(n.2 b λz=>?_).trans (y b o (k b o e)),none_of u,J,G,Y,F,T,X,Z,(n.2 x (w u)).trans V,S,U,K,none_of g,f,(n.2 T (w g)).trans R,P,N⟩;subst z;have:=hideAll_none [b] (h:=B) (List.mem_singleton.mpr rfl);rw[this]at e;cases e
end
structure pJ (X:Cx) (B:Heap) (a0:Value) (x:Addr) (cls:Value) (H':Hp) (s':Shared):Prop where
 os:s'.os=X.s₀.os
 bare:AllBare s'.gens
 JZ:xy B X.stack x cls a0 s'.heap
 aO:eA X.prog X.w H' B
 k1:∀b o,X.s₀.heap.get? b=some o->X.H₀ b=none->b∉cL X.stack->b∉X.ex->B.get? b=some o
 k2:∀b o,X.s₀.heap.get? b=some o->b∉cL X.stack->b∉X.ex->∃o',B.get? b=some o'
 slot:∀b o,X.s₀.heap.get? b=some o->X.H₀ b=none->b∈cL X.stack->b∉X.ex->∃sl,s'.heap.get? b=some { o with slots:=sl }
 free:∀b o,X.s₀.heap.get? b=some o->X.H₀ b=none->b∉X.ex->H' b=none
 cf:∀b xs,X.H₀ b=some (.tup xs)->H' b=some (.tup xs)
 bX:∀b o u,X.H₀ b=some (.kX o u)->H' b=some (.kX o u)
 cg:∀b ps,X.H₀ b=some (.dj ps)->∃more,H' b=some (.dj (ps++more))
 new:H' x=none
section
variable {X:Cx}{pins:List (Addr×Obj)}{σ:St}{H H':Hp}{s s':Shared}{x:Addr}{cls:Value}
def Cx.Ok.outer(ok:X.Ok){b:Addr}{o:Obj}(e:X.s₀.heap.get? b=some o):b∈cL X.stack↔b∈cL X.outer:=by
 rcases ok.qP with z | ⟨z,t⟩
 .rw[z]
 .rw[z];have:cL (X.env::X.outer)=X.env.locals::cL X.outer:=by unfold cL;rw[filterMap_cons,t]
  rw[this,q27];refine⟨λq=>q.resolve_left λz=>?_,.inr⟩;have:=lt_size e;rw[z]at this;exact q02 (q21 this ok.above) (q37 _)
def jJ.toB(I:Inv X pins σ H s)(f:jJ X.prog X.w X.stack H s x cls H' s'):∃B a,pJ X B a x cls H' s'/\∀b o,s.heap.get? b=some o->H b=none->b∉cL X.stack->B.get? b=some o:=by
 obtain⟨B,a,⟨d,i,j,k⟩,m,h,q⟩:=f.ex;refine⟨B,a,⟨f.os.trans I.os,f.bare,⟨d,i,j,_,k⟩,m,λb o e n v t=>?_,λb o e v t=>?_,λb o e n v t=>?_,λb o e n t=>?_,λb c e=>f.cf b c (I.base.cf b c e),λb o u e=>f.bX b o u (I.base.bX b o u e),λb y e=>?_,f.new⟩,h⟩
 .exact h b o (I.base.keep b o e n (λz=>v ((I.ok.outer e).mpr z)) t) (I.base.free b o e n t) v
 .obtain⟨o1,e1⟩:=I.base.there b o e t;exact q b o1 e1 v
 .obtain⟨sl,e1⟩:=I.base.slot b o e n ((I.ok.outer e).mp v) t;obtain⟨p,r⟩:=f.slot b _ e1 (I.base.free b o e n t) v;exact⟨p,r⟩
 .obtain⟨o1,e1⟩:=I.base.there b o e t;exact f.free b o1 e1 (I.base.free b o e n t)
 .obtain⟨m1,e1⟩:=I.base.cg b y e;obtain⟨g,r⟩:=f.cg b _ e1;exact⟨m1++g,by rw[r,Array.append_assoc]⟩
end
def J0(X:Cx)(W:XW):Prop:=X.Ok->∀(B:Heap)(v:Value)(n:St)(x:Addr)(e:Value)(H':Hp)(t:Shared),pJ X B v x e H' t->W n e H'->X.xe (.ref x) t
section
variable {P:Program}{w:World}{K:Frag}{mg:Str->Option Value}{base:Heap}{N:List Str}{qual:Str}{scope:Scope}{f:Addr}{cd:Value}{A:Around}{outer:List Env}{s0:Shared}{H0:Hp}{E:XK}
def A2:J0 (gX (dM P w) P w K mg base N qual scope f cd A outer s0 H0 E) λ_ h H'=>E h none H':=by
 intro ok B a0 G x h H' D t k;have g:∀b o,s0.heap.get? b=some o->b∈cL outer->∀y,o.data ≠ .fields y:=λb o e v=>by
  obtain⟨_,u,a,d⟩:=ok.cM.mem (show b∈cL outer from v);have a:s0.heap.get? b=some u:=a;rw[e]at a;cases a;exact d
 have j:cL (envOfC qual scope s0.heap.objs.size f cd::outer)=s0.heap.objs.size::cL outer:=rfl;have s:∀b o,s0.heap.get? b=some o->b∉cL outer->b∉cL (envOfC qual scope s0.heap.objs.size f cd::outer):=λb o e v=>by
  rw[j];exact λz=>(q27.mp z).elim (λq=>q02 (lt_size e) (by rw[q];exact q37 _)) v
 have r:∀b,b∉(gX (dM P w) P w K mg base N qual scope f cd A outer s0 H0 E).ex:=λb z=>nomatch z
 refine zno (B:=B) (L:=s0.heap.objs.size) (a0:=a0) ok.frames rfl t.JZ λC p up=>?_;refine⟨x,h,H',rfl,⟨t.os,t.bare,⟨B,a0,p,t.aO,λb o e n v=>t.k1 b o e n (s b o e v) (r b),λb o e v=>t.k2 b o e (s b o e v) (r b)⟩,λb o e n v=>?_,λb o e n=>t.free b o e n (r b),t.cf,t.bX,t.cg,t.new⟩,k⟩;obtain⟨sl,c⟩:=t.slot b o e n (q13 _ v) (r b);obtain⟨m,i⟩:=up b _ c (g b o e v);exact⟨m,i⟩
end
def pK(X:Cx)(W:Value->Hp->Prop)(N:List Str)(scope:Scope)(cl:List (Str×Addr))(C:Addr)(w:Shared)(t:Hp)(n:List Addr):Cx :=
 { dR X N scope cl C w t n with xe:=λe h=>∃x v H' B a r m,e=.ref x/\pJ (dR X N scope cl C w t n) B a x v H' h/\B.get? C=some r/\B.Ns C m/\H' C=none/\W v H' }
section
variable {X:Cx}{W:Value->Hp->Prop}{pins:List (Addr×Obj)}{σ:St}{H:Hp}{s:Shared}{x:Str}{fr:List Str}{N:List Str}{scope:Scope}{cl:List (Str×Addr)}{fp:List Addr}{C:Addr}{s2:Shared}{H2:Hp}
def Inv.ofX(I:Inv (pK X W N scope cl C s2 H2 fp) pins σ H s):Inv (dR X N scope cl C s2 H2 fp) pins σ H s :=
 ⟨⟨I.ok.mod,I.ok.kind,I.ok.glob,I.ok.blt,I.ok.above,I.ok.inj,I.ok.has,I.ok.qO,I.ok.hd,I.ok.frames,I.ok.qP,I.ok.rP,I.ok.bs,I.ok.jz,I.ok.gz,I.ok.gU,I.ok.cM,I.ok.kY⟩,I.os,I.bare,I.base,I.loc,I.cell,I.free,I.cI,I.pin,I.aO,I.len⟩
def flX:Fl (pK X W N scope cl C s2 H2 fp) λ_ v H'=>W v H':=by
 intro pins σ H s x v H' j I a d;obtain⟨B,h,b,i⟩:=jJ.toB I.ofX a;obtain⟨m,t,_⟩:=I.loc;have t:s.heap.Ns C m:=t;have c:C∉cL X.stack:=λz=>by
  obtain⟨_,o,e,_⟩:=I.ok.cM.mem z;exact q02 (q21 (lt_size e) I.ok.above) (q37 _)
 obtain⟨w,n⟩:∃o,s.heap.get? C=some o:=by obtain⟨o,_,_,e,_⟩:=t;exact⟨o,e⟩
 have r:=i C w n I.free c;exact⟨x,v,H',B,h,w,m,rfl,b,r,t.at' λo e=>by rw[n]at e;cases e;exact r,a.free C w n I.free,d⟩
def pJ.over{B:Heap}{a0:Value}{a:Addr}{cls:Value}{H':Hp}{d:Shared}(f:pJ (dR X N scope cl C s2 H2 fp) B a0 a cls H' d)(I:Inv X pins σ H2 s2)(r:∀b∈fp,fL X pins H2 b):pJ X B a0 a cls H' d where
 os:=f.os.trans I.os
 bare:=f.bare
 JZ:=f.JZ
 aO:=f.aO
 k1:=λb o e n w t=>by
  have nb:b∉fp:=λz=>by
   rcases (r b z).2.2.2.1 with q | q
   .exact t q
   .exact q02 (q21 (lt_size e) q) (q37 _)
  exact f.k1 b o (I.base.keep b o e n (λz=>w ((I.ok.outer e).mpr z)) t) (I.base.free b o e n t) w nb
 k2:=λb o e w t=>by
  have nb:b∉fp:=λz=>by
   rcases (r b z).2.2.2.1 with q | q
   .exact t q
   .exact q02 (q21 (lt_size e) q) (q37 _)
  obtain⟨c,v⟩:=I.base.there b o e t;exact f.k2 b c v w nb
 slot:=λb o e n w t=>by
  have nb:b∉fp:=λz=>by
   rcases (r b z).2.2.2.1 with q | q
   .exact t q
   .exact q02 (q21 (lt_size e) q) (q37 _)
  obtain⟨sl,v⟩:=I.base.slot b o e n ((I.ok.outer e).mp w) t;obtain⟨j,h⟩:=f.slot b _ v (I.base.free b o e n t) w nb;exact⟨j,h⟩
 free:=λb o e n t=>by
  have nb:b∉fp:=λz=>by
   rcases (r b z).2.2.2.1 with q | q
   .exact t q
   .exact q02 (q21 (lt_size e) q) (q37 _)
  obtain⟨c,v⟩:=I.base.there b o e t;exact f.free b c v (I.base.free b o e n t) nb
 cf:=λb i e=>f.cf b i (I.base.cf b i e)
 bX:=λb o u e=>f.bX b o u (I.base.bX b o u e)
 cg:=λb p e=>by
  obtain⟨k,v⟩:=I.base.cg b p e;obtain⟨m,h⟩:=f.cg b _ v;exact⟨k++m,by rw[h,Array.append_assoc]⟩
 new:=f.new
def lQ{M:Model}{E:Value->Shared->Prop}{use:Option (Value->Sem Unit)}{Q:Value->Shared->Prop}{U e:Value}{c:Shared}{p:XW}(hW:∀σ w H',W w H'->p σ w H')(l:J0 X p)(I:Inv X pins σ H2 s2)(hf:∀b∈fp,fL X pins H2 b)(D:s2.heap.objs.size<=C)
 (k:X.stack=X.env::X.outer) (uJ:X.env.frame=some X.env.locals) (h:(pK X W N scope cl C s2 H2 fp).xe e c):wpAny M X.A (noteFrame e (compEnvC scope cl C X.env)) (λ_ iu=>compPost M X.A X.xe use Q U C (.error e) iu) E c:=by
 obtain⟨x,w,H',B,g,oC,g0,rfl,y,F,hn,j,g1⟩:=h;have G:∀b o,X.s₀.heap.get? b=some o->b∈cL X.stack->∀L,o.data ≠ .fields L:=λb o e t=>by
  obtain⟨_,J,i,d⟩:=I.ok.cM.mem ((I.ok.outer e).mp t);rw[e]at i;cases i;exact d
 show wpAny M X.A (noteFrame (.ref x) X.env) _ E c;have P:xy B (X.env::X.outer) x w g c.heap:=by have:=y.JZ;rw[<-k];exact this
 refine Vi (by rw[<-k];exact I.ok.frames) uJ P λh1 u u1=>?_;have v:=y.over I hf;refine⟨g0,hn.at' λo e=>u.1 C o e,λh2 K H _=>?_⟩;have f:=u.but F K;have S:=f;obtain⟨_,_,_,UE,oe,L,g2,oT,ts,he,hc,hd,R,_⟩:=f;unfold PySem.passOn;refine q03 (wpAny_field he hd R ?_);rw[q00 (by simp)];refine q03 (Vj (s:={ c with heap:=h2 }) (fr:=H.frame) S λh3 T _ u3=>?_);refine wpAny_throw (l I.ok (hideAll B [C]) g σ x w H' _ ?_ (hW _ _ _ g1));have m:∀b o,X.s₀.heap.get? b=some o->b≠C:=λb o e z=>by
  have:=q21 (lt_size e) I.sz;rw[z]at this;exact q02 (q21 this D) (q37 _)
 have g3:s2.heap.get? C=none:=by
  cases q:s2.heap.get? C with
  | none=>rfl
  | some o=>exact q02 (q21 (lt_size q) D) (q37 _)
 have keep:∀{b o},B.get? b=some o->b≠C->(hideAll B [C]).get? b=some o:=λ{b o} e n=>hideAll_get _ e λz=>n (List.mem_singleton.mp z);refine⟨v.os,v.bare,by rw[k];exact T,?_,λb o e n t r=>keep (v.k1 b o e n t r) (m b o e),λb o e t r=>?_,λb o e n t r=>?_,v.free,v.cf,v.bX,v.cg,v.new⟩
 .refine λa o e=>(v.aO a o e).dJ (λb g5 t q=>keep q λz=>?_) (λ_ q=>q) λ_ _ q=>q;subst z;rcases t with t | t
  .rw[t,e]at j;cases j
  .rw[j]at t;cases t
 .obtain⟨J,i⟩:=v.k2 b o e t r;exact⟨J,keep i (m b o e)⟩
 .obtain⟨sl,e1⟩:=v.slot b o e n t r;obtain⟨g4,V⟩:=u1 b _ e1 (G b o e t);have Y:=(K.2 b (m b o e)).trans V;obtain⟨O,Z⟩:=u3 b _ Y (G b o e t);exact⟨O,Z⟩
end
section
variable {X:Cx}{W:Value->Hp->Prop}{WX:XW}{x:Str}{fr:List Str}{ix:List Nat}{scope:Scope}{elt iter:Expr}{px pos:Pos}{wi:TI}{te:TE}
def pL{use:Option (Value->Sem Unit)}{Q:Value->Shared->Prop}{pins:List (Addr×Obj)}{t:Shared}{σ:St}{v:Hp}{it:Addr}{n:List Addr}{k:Nat->Heap->Prop}{J:It}{cl:List (Str×Addr)}(S:aj X.env.scope X.N x fr ix scope)(L:X.calm=true)
 (u:J0 X WX) (p:X.stack=X.env::X.outer) (R:X.env.frame=some X.env.locals) (I:∀σ s H',W s H'->WX σ s H') (he:∀cl C t v n,PE (pK X W (x::fr) scope cl C t v n) elt te)
 (z:∀y c,cl.lookup y=some c->X.env.cells.lookup y=some c) (B:∀y,(y,NameKind.free)∈scope.names->∃c,cl.lookup y=some c)
 (r:Inv X pins σ v t) (T:Turn X.prog X.w X.K (.Name x px) J n it k) (f:k 0 t.heap) (d:∀b∈n,fL X pins v b) {i:List V->Hp->Prop} (U:dD J (iA ix σ) (λ_ H Q=>Q true H) te v i)
 (G:∀(D C:Addr)(o:List V)(H':Hp)(a:Shared)(m:Str->Option Value),Inv X pins σ (upd H' D (.lst o)) a->H' D=none->a.heap.Ns C m->D≠C->t.heap.objs.size<=C->H' C=none->i o H' ->
   compPost (model X.prog X.w) X.A X.xe use Q (.ref D) C (.ok .next) a) :
 wpAny (model X.prog X.w) X.A (newList []) (λh M=>wpAny (model X.prog X.w) X.A (newFunctionEnv scope X.env.globals cl [] X.env.qual none .none (some X.env)) (λj O =>
  codeAny (model X.prog X.w) X.A (.compStart (.ListComp elt [⟨.Name x px,iter,[],0⟩] scope pos) 0 (.ref it) h { j with scope:=relabel scope X.env }) (compPost (model X.prog X.w) X.A X.xe use Q h j.locals) O) X.xe M) X.xe t :=
 Uu (Ξ:=λC=>(pK X W (x::fr) scope cl C t v n).xe) S.g (λC=>rY S.nd rfl (.inl (lookup_relabel_local S.lx)) (.inr (lookup_relabel_local S.lx))) L (λC=>yA) (λC=>he cl C t v n) (λ_ C E e a q=>lQ (σ:=σ) I u r d E p R q) z B r T f d U.g G
def uK(S:aj X.env.scope X.N x fr ix scope)(J:X.calm=true)(g:J0 X WX)(p:X.stack=X.env::X.outer)(P:X.env.frame=some X.env.locals)(E:∀n c H',W c H'->WX n c H')
 (L:PI X (.Name x px) iter wi) (he:∀r C j w d,PE (pK X W (x::fr) scope r C j w d) elt te)
 (hs:∀x,foldedSetIterable iter X.env x=pure x:=by intro _;rfl):PE X (.ListComp elt [⟨.Name x px,iter,[],0⟩] scope pos) (mT ix wi xh te):=by
 intro i s n H g1 I h;obtain⟨r,R,f,z⟩:=DI (env:=X.env) (scope:=scope) λy O K=>I.ok.has y.1 (S.free y O K);rw[eval_ListComp];refine wpAny_comprehension_free (use:=none) rfl hs R S.kind S.lD (aU (L i s n H _ I h) λxv s1 V=>aU V λAe j Y=>?_);obtain⟨it,d,tn,g0,w,rfl,a,T,u,o,l⟩:=Y;refine pL S J g p P E he f z a T u o l λD C v H' Z m k B M Q A U q=>?_;refine⟨m,M,λh' F=>⟨.ref D,upd H' D (.lst v),?_,rfl,q D B⟩⟩;have t:fL X i (upd H' D (.lst v)) C:=a.gA (H':=upd H' D (.lst v)) A (by rw[zi (Ne.symm Q)];exact U);exact k.turned (t':=Z.toks) (it:=C) (λb g2 G e=>(F.2 b G).trans e) t.1 t.2.1 t.2.2.2.1 t.2.2.2.2.1 t.2.2.2.2.2
end
structure cy (sc:Scope) (N:List Str) (x x2 x3 x4:Str) (fr:List Str) (ix:List Nat) (scope:Scope):Prop where
 kind:scope.kind=.function
 cu:∀y∈scope.names,y.2 ≠ .cell
 lD:∀y∈scope.names,y.2=.local->scope.names.lookup y.1=some .local
 lx:scope.names.lookup x=some .local
 Ht:scope.names.lookup x2=some .local
 Vk:scope.names.lookup x3=some .local
 Vl:scope.names.lookup x4=some .local
 free:∀y∈scope.names,y.2=.free->sc.names.lookup y.1=some .cell\/sc.names.lookup y.1=some .free
 at':fr.map some=ix.map λi=>N[i]?
 sZ:∀y∈fr,scope.names.lookup y=some .free/\(sc.names.lookup y=some .cell\/sc.names.lookup y=some .free)
 nd:(x::x2::x3::x4::fr).Nodup
def gD(K:Frag)(J:It)(c:St)(o:TT)(p:TE)(s:Hp)(k:List V->Hp->Prop):Prop :=
 ∃W:Nat->Nat->List V->Hp->Prop,(∃m,W 0 m [] s)/\∀i m e H,W i m e H ->
  (J.stop i H/\e.length<=sizeLine/\k e H) \/
  (J.go i H/\e.length<sizeLine/\∃N:List V->Hp->Prop,(∀h H',N h H'->∃r,r<m/\W (i+1) r h H')/\∀x H',J.Ad i H x H'->∃t a b v n,x=.ref t/\cE K H' t [a,b,v,n]/\o (some a::some b::some v::some n::c) H' λd w=>if d=true then p (some a::some b::some v::some n::c) w λy j=>N (e++[y]) j else N e w)
def Ei(K:Frag)(n:List Nat)(r:TI)(w:TT)(a:TE):TE:=λt H Q=>r t H λJ v=>gD K J (iA n t) w a v λh e=>∀l,e l=none->Q (.ref l) (upd e l (.lst h))
section
variable {X:Cx}{H:Hp}{x x2 x3 x4:Str}{fr:List Str}{ix:List Nat}{scope:Scope}{cl:List (Str×Addr)}{fp:List Addr}{C:Addr}
def cy.g(S:cy X.env.scope X.N x x2 x3 x4 fr ix scope):bI X.env.scope X.N [x,x2,x3,x4] fr ix scope:=⟨S.kind,S.cu,S.lD,S.free,S.at',S.sZ,S.nd⟩
def gD.g{K:Frag}{J:It}{c:St}{r:TT}{s:TE}{a:List V->Hp->Prop}(h:gD K J c r s H a):Fd 4 (sd K 4 (oE (jB 0) (oE (jB 1) (oE (jB 2) (oE (jB 3) rZ))))) J c r s H a:=by
 obtain⟨W,w,t⟩:=h;refine⟨W,w,λi m A H j=>(t i m A H j).imp id λ⟨d,l,N,n,k⟩=>⟨d,l,N,n,λx H' y v e=>?_⟩⟩;obtain⟨t,o,p,u,f,rfl,q,z⟩:=k x H' y;obtain _ | ⟨B,v⟩:=v
 .cases e
 obtain _ | ⟨D,v⟩:=v
 .cases e
 obtain _ | ⟨E,v⟩:=v
 .cases e
 obtain _ | ⟨G,v⟩:=v
 .cases e
 obtain _ | ⟨b,v⟩:=v
 .exact⟨t,_,rfl,q,rfl,_,_,rfl,_,_,rfl,_,_,rfl,_,_,rfl,rfl,[some o,some p,some u,some f],rfl,rfl,rfl,z⟩
 .simp at e
def cy.pg{w n e t r:Pos}{tk:Nat}{a:Shared}(S:cy X.env.scope X.N x x2 x3 x4 fr ix scope)(v:X.calm=true):PG (dR X (x::x2::x3::x4::fr) scope cl C a H fp) (.Tuple [.Name x w,.Name x2 n,.Name x3 e,.Name x4 t] tk r) (sd X.K 4 (oE (jB 0) (oE (jB 1) (oE (jB 2) (oE (jB 3) rZ))))):=Jw v (wp (rY S.nd rfl (.inl (lookup_relabel_local S.lx)) (.inr (lookup_relabel_local S.lx))) (wp (rY S.nd rfl (.inl (lookup_relabel_local S.Ht)) (.inr (lookup_relabel_local S.Ht))) (wp (rY S.nd rfl (.inl (lookup_relabel_local S.Vk)) (.inr (lookup_relabel_local S.Vk))) (wp (rY S.nd rfl (.inl (lookup_relabel_local S.Vl)) (.inr (lookup_relabel_local S.Vl))) Jv))))
end
section
variable {X:Cx}{x x2 x3 x4:Str}{fr:List Str}{ix:List Nat}{scope:Scope}{elt iter:Expr}{ifs:List Expr}{px pk J6 J7 tp pos:Pos}{tk:Nat}{wi:TI}{tc:TT}{te:TE}
def uL(S:cy X.env.scope X.N x x2 x3 x4 fr ix scope)(d:X.calm=true)(G:PI X (.Tuple [.Name x px,.Name x2 pk,.Name x3 J6,.Name x4 J7] tk tp) iter wi)(Q:∀n C a v w,qY (dR X (x::x2::x3::x4::fr) scope n C a v w) ifs tc)(he:∀n C a v w,PE (dR X (x::x2::x3::x4::fr) scope n C a v w) elt te)
 (hs:∀x,foldedSetIterable iter X.env x=pure x:=by intro _;rfl):PE X (.ListComp elt [⟨.Tuple [.Name x px,.Name x2 pk,.Name x3 J6,.Name x4 J7] tk tp,iter,ifs,0⟩] scope pos) (Ei X.K ix wi tc te):=by
 intro i s P H g0 I h;obtain⟨n,R,q,u⟩:=DI (env:=X.env) (scope:=scope) λy M E=>I.ok.has y.1 (S.free y M E);rw[eval_ListComp];refine wpAny_comprehension_free (use:=none) rfl hs R S.kind S.lD (aU (G i s P H _ I h) λxv s1 V=>aU V λl a W=>?_);obtain⟨it,w,tn,J,v,rfl,c,T,p,k,F⟩:=W;refine GW S.g (λ_ _ _ _ _=>S.pg d) d Q he q u c T p k F.g λD C r H' Y m j A L O f U o=>?_;refine⟨m,L,λh' Z=>⟨.ref D,upd H' D (.lst r),?_,rfl,o D A⟩⟩;have t:fL X i (upd H' D (.lst r)) C:=by
  have z:=c.gA (H':=upd H' D (.lst r)) f (by rw[zi (Ne.symm O)];exact U);exact z
 exact j.turned (t':=Y.toks) (it:=C) (λb g1 B e=>(Z.2 b B).trans e) t.1 t.2.1 t.2.2.2.1 t.2.2.2.2.1 t.2.2.2.2.2
end
section
variable {κ:Type} [DecidableEq κ]
def gE(e:List (κ×V))(k:κ):Option V:=(e.find? λt=>decide (t.1=k)).map (·.2)
def jh(t:List (κ×V))(k:κ)(v:V):List (κ×V) :=
 if(t.any λe=>decide (e.1=k))=true then t.map (λe=>if e.1=k then(e.1,v)else e)else t++[(k,v)]
def wF{p:κ×V}{r:List (κ×V)}{k:κ}(e:p.1=k):gE (p::r) k=some p.2:=by simp[gE,find?_cons,e]
def wD{p:κ×V}{r:List (κ×V)}{k:κ}(e:¬p.1=k):gE (p::r) k=gE r k:=by simp[gE,find?_cons,e]
def Hv(k:κ):∀t:List (κ×V),(t.any λv=>decide (v.1=k))=(gE t k).isSome
 | []=>rfl
 | p::r=>by
   rw[any_cons];by_cases e:p.1=k
   .simp only[wF e,q19 e,Bool.true_or,Option.isSome_some]
   .rw[wD e,q20 e,Bool.false_or];exact Hv k r
def Vm(k j:κ)(y:V):∀v:List (κ×V),gE (v.map λt=>if t.1=k then(t.1,y)else t) j=(gE v j).map λx=>if j=k then y else x
 | []=>rfl
 | p::r=>by
   have n:=Vm k j y r;rw[map_cons];by_cases h:p.1=k
   .rw[q01 h];by_cases e:p.1=j
    .rw[wF (p:=(p.1,y)) e,wF e,q41,q01 (e.symm.trans h)]
    .rw[wD (p:=(p.1,y)) e,wD e,n]
   .rw[q00 h];by_cases e:p.1=j
    .rw[wF (p:=p) e,wF e,q41,q00 (λz=>h (e.trans z))]
    .rw[wD (p:=p) e,wD e,n]
def Vn(k j:κ)(y:V):∀t:List (κ×V),gE t k=none->gE (t++[(k,y)]) j=if j=k then some y else gE t j
 | [],_=>by
   by_cases e:k=j
   .rw[q01 e.symm];exact wF (p:=(k,y)) e
   .rw[q00 (λz=>e z.symm)];exact wD (p:=(k,y)) e
 | p::r,hn=>by
   rw[cons_append];have v:¬p.1=k:=λz=>by rw[wF z]at hn;cases hn
   rw[wD v]at hn;have n:=Vn k j y r hn;by_cases e:p.1=j
   .rw[wF e,wF e,q00 (λz=>v (e.trans z))]
   .rw[wD e,wD e,n]
def J9(t:List (κ×V))(k j:κ)(y:V):gE (jh t k y) j=if j=k then some y else gE t j:=by
 unfold jh;by_cases a:(t.any λv=>decide (v.1=k))=true
 .rw[q01 a,Vm];rw[Hv]at a;by_cases e:j=k
  .obtain⟨x,hx⟩:=Option.isSome_iff_exists.mp a;rw[q01 e,e,hx,q41,q01 rfl]
  .rw[q00 e];cases gE t j with
   | none=>rfl
   | some x=>rw[q41,q00 e]
 .rw[q00 a];refine Vn k j y t ?_;rw[Hv]at a;cases q:gE t k with
  | none=>rfl
  | some x=>rw[q]at a;exact(a rfl).elim
def OI(e:List (κ×V))(k:κ)(v:V):(jh e k v).length<=e.length+1:=by
 unfold jh;split
 .rw[q06];omega
 .rw[q08,q12,length_nil];omega
def fB.dN{o:Option V}{u:Option Value}(r:fB o u):o.isSome=u.isSome:=by
 cases o with
 | none=>cases u with
   | none=>rfl
   | some _=>exact(show False from r).elim
 | some _=>cases u with
   | none=>exact(show False from r).elim
   | some _=>rfl
def KV.val{n:List (κ×V)}{vs:List (κ×Value)}(r:KV n vs)(k:κ):fB (gE n k) (valueAt vs k):=by
 unfold KV at r
 induction r with
 | nil=>exact True.intro
 | @cons p q c v h t s =>
   obtain⟨w,a⟩:=h;by_cases e:p.1=k
   .have e':q.1=k:=w.symm.trans e;have b:valueAt (q::v) k=some q.2:=by simp[valueAt,find?_cons,e']
    rw[wF e,b];exact a
   .have e':¬q.1=k:=λz=>e (w.trans z);have b:valueAt (q::v) k=valueAt v k:=by simp[valueAt,find?_cons,e']
    rw[wD e,b];exact s
def KV.any{v:List (κ×V)}{vs:List (κ×Value)}(r:KV v vs)(k:κ):(v.any λe=>decide (e.1=k))=vs.any λe=>decide (e.1=k):=by
 unfold KV at r
 induction r with
 | nil=>rfl
 | cons h t n=>rw[any_cons,any_cons,n,h.1]
def KV.Ej{w:List (κ×V)}{vs:List (κ×Value)}(r:KV w vs)(k:κ){y:V}{u:Value}(b:RelV y u):
 KV (w.map λv=>if v.1=k then(v.1,y)else v) (vs.map λv=>if v.1=k then(v.1,u)else v):=by
 unfold KV at r ⊢
 induction r with
 | nil=>exact .nil
 | @cons p q c d h t s =>
   rw[map_cons,map_cons];refine .cons ?_ s;obtain⟨n,a⟩:=h;by_cases e:p.1=k
   .rw[q01 e,q01 (n.symm.trans e)];exact⟨n,b⟩
   .rw[q00 e,q00 (λz=>e (n.trans z))];exact⟨n,a⟩
def KV.put{t:List (κ×V)}{vs:List (κ×Value)}(r:KV t vs)(k:κ){y:V}{u:Value}(v:RelV y u):KV (jh t k y) (stored vs k u):=by
 unfold jh stored;rw[r.any k];by_cases e:(vs.any λn=>decide (n.1=k))=true
 .rw[q01 e,q01 e];exact r.Ej k v
 .rw[q00 e,q00 e];exact Paired.snoc r ⟨rfl,v⟩
def KV.length{e:List (κ×V)}{vs:List (κ×Value)}(r:KV e vs):e.length=vs.length:=Paired.length r
end
variable {P:Program}{w:World}{u:Value}
def Hw{k:Key}(r:RelV (kV k) u):(wA P w).is k u=true:=by
 cases k with
 | inl i=>obtain⟨t,e⟩:=(show ∃t,u=Value.int i t from r);subst e;exact Y0 P w i t
 | inr x=>obtain⟨t,e⟩:=(show ∃t,u=Value.str x t from r);subst e;exact Y1 P w x t
def Vo:∀{e:List Key}{v:List Value},Vals (e.map kV) v->ItemsAre (wA P w) e v
 | [],_,r=>by rw[map_nil]at r;cases r;exact .nil
 | k::e,_,r=>by
   rw[map_cons]at r;cases r with
   | cons h t=>exact .cons (Hw h) (Vo t)
abbrev KT(H:Hp):List (List Key×V)->List (List Key×Addr×Value)->Prop:=Paired λp q=>p.1=q.1/\H q.2.1=some (.tup (p.1.map kV))/\RelV p.2 q.2.2
variable {ay:List (List Key×V)}{xs:List (List Key×Addr×Value)}
def KT.val(r:KT H ay xs)(k:List Key):fB (gE ay k) ((atKey xs k).map (·.2)):=by
 induction r with
 | nil=>exact True.intro
 | @cons p q c v h t s =>
   obtain⟨n,_,a⟩:=h;by_cases e:p.1=k
   .have e':q.1=k:=n.symm.trans e;have b:atKey (q::v) k=some q.2:=by simp[atKey,find?_cons,e']
    rw[wF e,b];exact a
   .have e':¬q.1=k:=λz=>e (n.trans z);have b:atKey (q::v) k=atKey v k:=by simp[atKey,find?_cons,e']
    rw[wD e,b];exact s
def KT.Ej(r:KT H ay xs)(k:List Key){y:V}(c:RelV y u):
 KT H (ay.map λn=>if n.1=k then(n.1,y)else n) (xs.map (putAt k u)):=by
 induction r with
 | nil=>exact .nil
 | @cons p q d i h t b =>
   rw[map_cons,map_cons];refine .cons ?_ b;obtain⟨v,a,s⟩:=h;unfold putAt;by_cases e:p.1=k
   .rw[q01 e,q01 (v.symm.trans e)];exact⟨v,a,c⟩
   .rw[q00 e,q00 (λz=>e (v.trans z))];exact⟨v,a,s⟩
def KT.put(r:KT H ay xs)(k:List Key){b:Addr}{y:V}(v:H b=some (.tup (k.map kV)))(t:RelV y u):
 KT H (jh ay k y) (storedH xs k b u):=by
 have e:(ay.any λn=>decide (n.1=k))=(atKey xs k).isSome:=by
  rw[Hv,(r.val k).dN,Option.isSome_map]
 unfold jh storedH;rw[e];by_cases q:(atKey xs k).isSome=true
 .rw[q01 q,q01 q];exact r.Ej k t
 .rw[q00 q,q00 q];exact Paired.snoc r ⟨rfl,v,t⟩
def KT.keeps(r:KT H ay xs)(t:∀b e,H b=some (.tup e)->H' b=some (.tup e)):KT H' ay xs :=
 Paired.Dc r λ_ _ z=>⟨z.1,t _ _ z.2.1,z.2.2⟩
section
variable {P:Program}{w:World}{H:Hp}{h:Heap}{a:Addr}
def Cv{u:HO}(ok:eA P w H h)(e:Rd H a u):bH P w H h a u:=e.ok ok
variable {ay:List (Key×V)}
def Hx(ok:eA P w H h)(e:Rd H a (.dK ay)):ay.length<=sizeLine/\(a==sysModules)=false/\∃t,KV ay t/\h.DictOf (wA P w) a t :=
 show bH P w H h a (.dK ay)from Cv ok e
def Hy(ok:eA P w H h)(e:H a=some (.dK ay)):ay.length<=sizeLine/\(a==sysModules)=false/\∃t,KV ay t/\h.DictOf (wA P w) a t:=Hx ok (.inl e)
def Hz{t:List Key}(ok:eA P w H h)(e:H a=some (.tup (t.map kV))):(tupleKind (wA P w)).is h t a:=by
 obtain⟨_,v,r,o,s,b,n,c⟩:=(show bH P w H h a (.tup (t.map kV))from ok a _ e);exact⟨o,v.toArray,n,s,b,c,by simpa using Vo r⟩
def HA{ay:List (List Key×V)}(ok:eA P w H h)(e:Rd H a (.dT ay)):ay.length<=sizeLine/\(a==sysModules)=false /\
 ∃xs,KT H ay xs/\h.DictOfH (tupleKind (wA P w)) a xs:=by
 obtain⟨z,y,xs,r,o,b,s,c,d,i,j,k⟩:=(show bH P w H h a (.dT ay)from Cv ok e);refine⟨z,y,xs,r,o,b,s,c,d,i,j,λx v=>?_,k⟩;have all:∀{l:List (List Key×V)} {m:List (List Key×Addr×Value)},KT H l m->∀x∈m,(tupleKind (wA P w)).is h x.1 x.2.1:=by
  intro l m q
  induction q with
  | nil=>intro x v;exact nomatch v
  | @cons p q f A n t g =>
    intro x v;rcases q27.mp v with e | v
    .subst e;exact Hz ok (by rw[<-n.1];exact n.2.1)
    .exact g x v
 exact all r x v
def HB{ay:List (List Key×V)}(ok:eA P w H h)(e:H a=some (.dT ay)):ay.length<=sizeLine/\(a==sysModules)=false /\
 ∃xs,KT H ay xs/\h.DictOfH (tupleKind (wA P w)) a xs:=HA ok (.inl e)
end
def gF(H:Hp)(a:Addr)(y:V)(r:Option V):Prop :=
 (∃ay k,Rd H a (.dK ay)/\y=kV k/\r=gE ay k)\/∃ay k b,Rd H a (.dT ay)/\y=.ref b/\H b=some (.tup (k.map kV))/\r=gE ay k
def pM(H:Hp)(a:Addr)(y v:V)(H':Hp):Prop :=
 (∃ay k,H a=some (.dK ay)/\y=kV k/\ay.length<sizeLine/\H'=upd H a (.dK (jh ay k v))) \/
 ∃ay k b,H a=some (.dT ay)/\y=.ref b/\H b=some (.tup (k.map kV))/\ay.length<sizeLine/\H'=upd H a (.dT (jh ay k v))
def gF.k{H:Hp}{a:Addr}{ay:List (Key×V)}{k:Key}(e:H a=some (.dK ay)):gF H a (kV k) (gE ay k):=.inl ⟨ay,k,.inl e,rfl,rfl⟩
def pM.k{H:Hp}{a:Addr}{ay:List (Key×V)}{k:Key}{v:V}(e:H a=some (.dK ay))(t:ay.length<sizeLine):pM H a (kV k) v (upd H a (.dK (jh ay k v))):=.inl ⟨ay,k,e,rfl,t,rfl⟩
section
variable {X:Cx}{pins:List (Addr×Obj)}{σ:St}{H:Hp}{s:Shared}{a:Addr}{y v:V}{u r:Value}{o:Option V}{A:Around}{E:Value->Shared->Prop}
def Inv.big(I:Inv X pins σ H s):sysModules<s.heap.objs.size:=by
 have h:mainGlobals<s.heap.objs.size:=(I.mod.glob.keeps I.bk).lt;exact lt_trans (by decide) h
variable {Q:Value->Shared->Prop}
def pN(C:A.units+1<cLine)(I:Inv X pins σ H s)(g:gF H a y (some v))(m:RelV y u)(h:∀t q,Inv X pins σ H q->RelV v t->Q t q):
 wpAny (model X.prog X.w) A (getItem (.ref a) u) Q E s:=by
 rcases g with⟨ay,k,e,c,l⟩|⟨ay,k,b,e,c,f,l⟩
 .subst c;obtain⟨z,x,G,j,n⟩:=Hx I.aO e;obtain⟨t,d,i⟩:=fB.some_of (v:=v) (o:=valueAt G k) (by rw[l];exact j.val k);exact wpAny_getItem_of (Hw m) n.mapOf d (h t _ (I.tok _) i)
 .subst c;cases (show u=Value.ref b from m);obtain⟨z,x,xs,j,n⟩:=HA I.aO e;obtain⟨t,d,i⟩:=fB.some_of (v:=v) (o:=(atKey xs k).map (·.2)) (by rw[l];exact j.val k);obtain⟨p,B,D⟩:=Option.map_eq_some_iff.mp d;refine wpAny_getItem_heap (tupleKind_room_in1 C) (Hz I.aO f) n B ?_;rw[D];exact h t _ (I.tok _) i
def OJ(p:A.units+1<cLine)(I:Inv X pins σ H s)(g:gF H a y o)(i:RelV y u)(h:∀j,Inv X pins σ H j->Q (.bool o.isSome) j):
 wpAny (model X.prog X.w) A (compareOp .In u (.ref a)) Q E s:=by
 rcases g with⟨ay,k,e,n,l⟩|⟨ay,k,b,e,n,m,l⟩
 .subst n;obtain⟨z,c,f,d,t⟩:=Hx I.aO e;refine wpAny_in_of (Hw i) c t.mapOf ?_;rw[<-(d.val k).dN,<-l];exact h _ (I.tok _)
 .subst n;cases (show u=Value.ref b from i);obtain⟨z,c,xs,d,t⟩:=HA I.aO e;refine wpAny_in_heap (tupleKind_room_in1 p) (Hz I.aO m) c t ?_;have q:=(d.val k).dN;rw[Option.isSome_map]at q;rw[<-q,<-l];exact h _ (I.tok _)
def A3(p:A.units+1<cLine)(I:Inv X pins σ H s)(g:gF H a y o)(i:RelV y u)(h:∀j,Inv X pins σ H j->Q (.bool (!o.isSome)) j):
 wpAny (model X.prog X.w) A (compareOp .NotIn u (.ref a)) Q E s:=by
 rcases g with⟨ay,k,e,n,l⟩|⟨ay,k,b,e,n,m,l⟩
 .subst n;obtain⟨z,c,f,d,t⟩:=Hx I.aO e;refine wpAny_notIn_of (Hw i) c t.mapOf ?_;rw[<-(d.val k).dN,<-l];exact h _ (I.tok _)
 .subst n;cases (show u=Value.ref b from i);obtain⟨z,c,xs,d,t⟩:=HA I.aO e;refine wpAny_notIn_heap (tupleKind_room_in1 p) (Hz I.aO m) c t ?_;have q:=(d.val k).dN;rw[Option.isSome_map]at q;rw[<-q,<-l];exact h _ (I.tok _)
def nC{h':Heap}{t':Nat}{t:HO}(I:Inv X pins σ H s)(h:FZ (H a))(hs:SameBut a s.heap h')(he:∃q,h'.get? a=some q)(new:bH X.prog X.w (upd H a t) h' a t):
 Inv X pins σ (upd H a t) { s with heap:=h',toks:=t' } :=
 I.write (x:=a) (e:=a) h (.inl rfl) (λb q n z=>(hs.2 b n).trans z) he new
def Ek{P:Program}{w:World}{H':Hp}{h':Heap}{ay:List (Key×V)}{vs:List (Key×Value)}(z:ay.length<=sizeLine)(hd:(a==sysModules)=false)(e:KV ay vs)(dd:h'.DictOf (wA P w) a vs):
 bH P w H' h' a (.dK ay):=⟨z,hd,vs,e,dd⟩
def pO{H':Hp}{Q:Unit->Shared->Prop}(V:A.units+1<cLine)(I:Inv X pins σ H s)(g:pM H a y v H')(K:RelV y u)(J:RelV v r)(h:∀L,Inv X pins σ H' L->Q () L):
 wpAny (model X.prog X.w) A (setItem (.ref a) u r) Q E s:=by
 rcases g with⟨ay,k,e,m,l,j⟩|⟨ay,k,b,e,m,C,l,j⟩
 .subst m j;obtain⟨z,p,W,t,i⟩:=Hy I.aO e;have B:W.length<=sizeLine:=by rw[<-t.length];exact z
  have f:(jh ay k v).length<=sizeLine:=by have:=OI ay k v;omega
  refine wpAny_setItem_pairs (hsz:=B) (Hw K) i λG n x=>h _ ?_;have U:∃q,G.get? a=some q:=let ⟨q,_,_,d,_⟩:=n;⟨q,d⟩;exact nC I (by rw[e];exact True.intro) x U (Ek f p (t.put k J) n)
 .subst m j;cases (show u=Value.ref b from K);obtain⟨z,p,xs,t,i⟩:=HB I.aO e;have B:xs.length<=sizeLine:=by rw[<-Paired.length t];exact z
  have f:(jh ay k v).length<=sizeLine:=by have:=OI ay k v;omega
  refine wpAny_setItem_heap (hsz:=B) (tupleKind_room_in1 V) (Hz I.aO C) i λG n x=>h _ ?_;obtain⟨q,N,M,d,O,R,S,_,T⟩:=n;refine nC I (by rw[e];exact True.intro) x ⟨q,d⟩ ⟨f,p,_,(t.put k C J).keeps λc Y D=>?_,q,N,M,d,O,R,S,T⟩;rw[zi (yb D e (λz=>nomatch z))];exact D
end
def HC(i:Expr):Prop:=∀t e,subscripted i false t e=operate [t,e] (getItem t e)
def A4{prog:Program}{A:Around}{E:Value->Shared->Prop}{s:Shared}{env:Env}{a e:Expr}{q:Pos}{T p:String}{Q:Value->Shared->Prop}
 (j:typeLookup (.type T) "__getitem__"=pure (some (.builtin p))) (hs:HC e)
 (h:wpAny (model prog w) A (eval a env) (λo c=>wpAny (model prog w) A (eval e env) (λi t=>t.TypeIs o T/\wpAny (model prog w) A (getItem o i) Q E t) E c) E s) :
 wpAny (model prog w) A (eval (.Subscript a e q) env) Q E s:=by
 refine Subscript_ (wpAny_mono h (λo c k=>wpAny_mono k (λi t n=>?_) λ_ _ x=>x) λ_ _ x=>x);obtain⟨b,n⟩:=n;unfold subscriptTail;refine q03 ?_;rw[getitemInPython_of_ne b.not_modules];refine q03 (wpAny_specialOf b j ?_);have v:wpAny (model prog w) A (subscripted e false o i) (λr d=>wpAny (model prog w) A (letTemporaryGo a o r >>= λ_=>pure r) Q E d) E t:=by
  rw[hs o i];exact wpAny_operating (wpAny_mono n (λr d m=>q03 (wpAny_letTemporaryGo (q04 m))) λ_ _ x=>x)
 first
  | exact q04 (q03 v)
  | exact q03 (q04 (q03 v))
  | exact q03 v
def zmN{X:Cx}{pins:List (Addr×Obj)}{σ:St}{s:Shared}{a:Addr}{y:V}{o:Option V}(I:Inv X pins σ H s)(g:gF H a y o):s.TypeIs (.ref a) "dict":=by
 rcases g with⟨ay,k,e,_,_⟩|⟨ay,k,b,e,_,_,_⟩
 .obtain⟨_,_,vs,_,dd⟩:=Hx I.aO e;exact dd.typeIs
 .obtain⟨_,_,xs,_,dd⟩:=HA I.aO e;exact dd.typeIs
def HD(r ty:TE):TE:=λt H Q=>r t H λx n=>ty t n λy e=>∃a v,x=.ref a/\gF e a y (some v)/\Q v e
def OK(ty n:TE):TE:=λt H Q=>ty t H λy v=>n t v λx e=>∃a o,x=.ref a/\gF e a y o/\Q (.bl o.isSome) e
def A5(ty n:TE):TE:=λt H Q=>ty t H λy v=>n t v λx e=>∃a o,x=.ref a/\gF e a y o/\Q (.bl (!o.isSome)) e
def HE(s ty b:TE):TS:=λD e H=>b e H λv n=>s e n λx r=>ty e r λy h=>∃a t,x=.ref a/\pM h a y v t/\D.nx e t
section
variable {X:Cx}{o i value:Expr}{pos pos':Pos}{td ty tv:TE}
def nD(p:X.A.units+1<cLine)(m:PE X o td)(k:PE X i ty)(hs:HC i):PE X (.Subscript o i pos) (HD td ty):=by
 intro t s n H Q I h;refine A4 PySem.F.slot_dict_getitem.lookup hs (aU (m t s n H _ I h) λu D ⟨x,r,c,B,f⟩=>aU (k t D n r _ c f) λE G ⟨y,b,e,C,a,v,j,g,z⟩=>?_);subst j;obtain rfl:u=Value.ref a:=B;exact⟨zmN e g,pN p e g C λK J d q=>⟨v,b,d,q,z⟩⟩
def El(m:X.A.units+1<cLine)(j:PE X i ty)(k:PE X o td):PC X .In i o (OK ty td):=by
 intro e s t H Q I h;refine aU (j e s t H _ I h) λD C ⟨y,v,r,B,q⟩=>aU (k e C t v _ r q) λu E ⟨x,n,b,z,a,p,d,g,f⟩=>?_;subst d;obtain rfl:u=Value.ref a:=z;exact OJ m b g B λG c=>⟨.bl p.isSome,n,c,rfl,f⟩
def pP(m:X.A.units+1<cLine)(j:PE X i ty)(k:PE X o td):PC X .NotIn i o (A5 ty td):=by
 intro e s t H Q I h;refine aU (j e s t H _ I h) λD C ⟨y,v,r,B,q⟩=>aU (k e C t v _ r q) λu E ⟨x,n,b,z,a,p,d,g,f⟩=>?_;subst d;obtain rfl:u=Value.ref a:=z;exact A3 m b g B λG c=>⟨.bl (!p.isSome),n,c,rfl,f⟩
def nE(z:X.A.units+1<cLine)(f:PE X o td)(q:PE X i ty)(B:PE X value tv)(hs:swapsWith value (some (.Subscript o i pos')) pos.line X.env=pure false):
 PS X (.Assign [.Subscript o i pos'] value pos) (HE td ty tv):=by
 intro t s e H D I h;refine wpAny_Assign_Subscript (aU (B t s e H _ I h) λr M ⟨v,n,d,J,C⟩=>aU (f t M e n _ d C) λu N ⟨x,b,j,K,E⟩=>aU (q t N e b _ j E) λQ R ⟨y,O,k,L,a,c,p,g,G⟩=>?_) hs;subst p;obtain rfl:u=Value.ref a:=K;exact pO z k g L J λS m=>⟨e,c,m,G⟩
end
def uM(h:Heap)(e:sysModules<h.objs.size):bH P w H (h.push { cls:=.type "dict",data:=.dict #[] }) h.objs.size (.dK []) :=
 ⟨zero_le _,beq_eq_false_iff_ne.mpr (Ne.symm (ne_of_lt e)),[],.nil,Heap.DictOf.new h⟩
def Em:TE:=λ_ H Q=>∀p,H p=none->Q (.ref p) (upd H p (.dK []))
section
variable {X:Cx}{pos:Pos}
def uN:PE X (.Dict [] [] pos) Em:=λe s t H Q I h =>
 wpAny_Dict_empty ⟨.ref s.heap.objs.size,_,I.laid (a:=s.heap.objs.size) (o:=.dK []) (t':=s.toks) (λ_ _ q=>q05 _ q) (le_refl _) (uM s.heap I.big),rfl,h _ (I.aO.fresh (le_refl _))⟩
end
structure M1 (X:Cx) (o:Expr) (m:Str) (apos:Pos) (e:Expr) (bV:Pos):Prop where
 base:attributeBase o m X.env (eval o X.env)=eval o X.env
 Ka:((backTo bV (starEach [e] X.env)).all (λx => !x.1) && (backToKw bV (keywordEach [] X.env)).all (λx=>x.1.isSome)
  && decide (([e]:List Expr).length+([]:List Keyword).length+(if([]:List Keyword).isEmpty then 0 else 1)<30))=true
 line:(apos.endLine==bV.line)=true
 trees:backTo bV (starEach [e] X.env)=[(false,eval e X.env)]
structure M2 (X:Cx) (o:Expr) (m:Str) (apos:Pos) (e f:Expr) (bV:Pos):Prop where
 base:attributeBase o m X.env (eval o X.env)=eval o X.env
 Ka:((backTo bV (starEach [e,f] X.env)).all (λx => !x.1) && (backToKw bV (keywordEach [] X.env)).all (λx=>x.1.isSome)
  && decide (([e,f]:List Expr).length+([]:List Keyword).length+(if([]:List Keyword).isEmpty then 0 else 1)<30))=true
 line:(apos.endLine==bV.line)=true
 trees:backTo bV (starEach [e,f] X.env)=[(false,eval e X.env),(false,eval f X.env)]
end L2
namespace M3
open PySem L2
def got(ms:List Int)(n:Int):List Int:=ms.filter λm=>decide (m<=n)
def cnt(ms:List Int)(n:Int):Nat:=(got ms n).length
def sm(ms:List Int)(n:Int):Int:=(got ms n).sum
def eR(ms:List Int)(f:Int):Prop:=ms.length<2*cnt ms f/\2*cnt ms (f-1)<=ms.length
variable {ms:List Int}
def En{a b:Int}(h:a<=b):cnt ms a<=cnt ms b:=by
 unfold cnt got
 induction ms with
 | nil=>exact le_refl _
 | cons x ms t =>
   rw[q17,q17];by_cases e:x<=a
   .rw[q01 (q19 e),q01 (q19 (by lia)),q12,q12];lia
   .rw[q00 (by simpa using e)];split
    .rw[q12];lia
    .exact t
def HF{f g:Int}(e:eR ms f)(t:eR ms g):f=g:=by
 unfold eR at e t;rcases Int.lt_trichotomy f g with h | h | h
 .have:=En (ms:=ms) (show f<=g-1 by lia);lia
 .exact h
 .have:=En (ms:=ms) (show g<=f-1 by lia);lia
def OL{n:Int}(h:∀x∈ms,n<x):cnt ms n=0:=by
 unfold cnt got;rw[List.filter_eq_nil_iff.mpr]
 .rfl
 .intro x hx;have:=h x hx;simp;lia
def OM{n:Int}(h:∀x∈ms,x<=n):cnt ms n=ms.length:=by
 unfold cnt got;rw[List.filter_eq_self.mpr];intro x e;have:=h x e;simp;lia
def A6(ms:List Int)(n:Int):cnt ms n<=ms.length:=q09 _ _
def HG{f:Int}(h:eR ms f)(v e:Int)(w:∀x∈ms,v<=x/\x<=e):v<=f/\f<=e:=by
 unfold eR at h;constructor
 .by_cases c:v<=f
  .exact c
  .have:=OL (ms:=ms) (n:=f) λx t=>by have:=(w x t).1;lia
   lia
 .by_cases c:f<=e
  .exact c
  .have:=OM (ms:=ms) (n:=f-1) λx t=>by have:=(w x t).2;lia
   have:=A6 ms f
   lia
def Kb{i:Nat}(n:Int)(e:i<ms.length):got (ms.take (i+1)) n=if ms.getD i 0<=n then got (ms.take i) n++[ms.getD i 0] else got (ms.take i) n:=by
 unfold got;rw[yX e,q16,q17];by_cases h:ms.getD i 0<=n
 .rw[q01 (q19 h),q01 h];rfl
 .rw[q00 (by simpa using h),q00 h];simp
end M3
namespace L2
open PySem
inductive All2 {α β:Type} (R:α->β->Prop):List α->List β->Prop
 | nil:All2 R [] []
 | cons {a:α} {b:β} {as:List α} {bs:List β}:R a b->All2 R as bs->All2 R (a::as) (b::bs)
namespace All2
variable {α β:Type}{R S:α->β->Prop}{as HH:List α}{bs Fn:List β}
def length(h:All2 R as bs):as.length=bs.length:=by
 induction h with
 | nil=>rfl
 | cons _ _ e=>rw[q12,q12,e]
def imp(f:∀a b,R a b->S a b)(h:All2 R as bs):All2 S as bs:=by
 induction h with
 | nil=>exact .nil
 | cons r _ e=>exact .cons (f _ _ r) e
def append(h:All2 R as bs)(h':All2 R HH Fn):All2 R (as++HH) (bs++Fn):=by
 induction h with
 | nil=>exact h'
 | cons r _ e=>exact .cons r e
def snoc{a:α}{b:β}(h:All2 R as bs)(r:R a b):All2 R (as++[a]) (bs++[b]):=h.append (.cons r .nil)
def get(h:All2 R as bs):∀{i:Nat}{b:β},bs[i]? = some b->∃a,as[i]? = some a/\R a b:=by
 induction h with
 | nil=>intro i b e;simp at e
 | cons r _ t =>
   intro i b e;cases i with
   | zero=>simp only[List.getElem?_cons_zero]at e ⊢;cases e;exact⟨_,rfl,r⟩
   | succ i=>simp only[List.getElem?_cons_succ]at e ⊢;exact t e
def getL(h:All2 R as bs):∀{i:Nat}{a:α},as[i]? = some a->∃b,bs[i]? = some b/\R a b:=by
 induction h with
 | nil=>intro i b e;simp at e
 | cons r _ t =>
   intro i b e;cases i with
   | zero=>simp only[List.getElem?_cons_zero]at e ⊢;cases e;exact⟨_,rfl,r⟩
   | succ i=>simp only[List.getElem?_cons_succ]at e ⊢;exact t e
end All2
def Refs{t:Type}(K:Frag)(R:Hp->Addr->t->Prop)(H:Hp)(a:Addr)(xs:List t):Prop:=∃e:List Addr,ah K H a (e.map V.ref)/\All2 (R H) e xs
def nF{t:Type}(R:Hp->Addr->t->Prop):Prop:=∀H e l x,ae H e->R H l x->R e l x
variable {α:Type}{K:Frag}{H H':Hp}{a:Addr}
def Refs.same{R:Hp->Addr->α->Prop}(st:nF R){xs:List α}(s:ae H H')(h:Refs K R H a xs):Refs K R H' a xs:=by
 obtain⟨e,q,r⟩:=h;exact⟨e,s.seq q,r.imp λa b=>st _ _ _ _ s⟩
def IL(K:Frag)(H:Hp)(l:Addr)(c:List Int):Prop:=ah K H l (c.map V.int)
def iI(K:Frag)(H:Hp)(l:Addr)(p:Int×Int):Prop:=cE K H l [.int p.1,.int p.2]
def IL.stays(K:Frag):nF (IL K):=λ_ _ _ _ s h=>ae.seq s h
def iI.stays(K:Frag):nF (iI K):=λ_ _ _ _ s h=>s.lI h
variable {ls:List Addr}{i:Nat}{l:Addr}
def A7(h:ls[i]? = some l):(ls.map V.ref)[i]? = some (.ref l):=by rw[q26,h];rfl
def wN{x:V}(h:(ls.map V.ref)[i]? = some x):∃l,ls[i]? = some l/\x=.ref l:=by
 rw[q26]at h;cases e:ls[i]? with
 | none=>rw[e]at h;cases h
 | some l=>rw[e]at h;cases h;exact⟨l,rfl,rfl⟩
def Kc{ms:List Int}{n:Int}{c:St}{r:TT}{s:TE}{w:List V->Hp->Prop}(b:ah K H a (ms.map V.int))(j:ms.length<=1000000)
 (d:∀x (R:Bool->Hp->Prop),R (decide (x<=n)) H->r (some (.int x)::c) H R) (he:∀x (R:V->Hp->Prop),R (.int x) H->s (some (.int x)::c) H R) (hd:w ((M3.got ms n).map V.int) H):dD (ke K a) c r s H w:=by
 refine yL (xs:=ms.map V.int) (λi t e=>e=H/\t=(M3.got (ms.take i) n).map V.int) ⟨rfl,rfl⟩ ?_ (by rw[q06];have:=zq;lia) ?_ ?_
 .rintro i t e v ⟨rfl,rfl⟩;refine⟨b,?_⟩;rw[q06];have:=M3.A6 (ms.take i) n;unfold M3.cnt at this;rw[q11]at this
  lia
 .rintro i x t e hx ⟨rfl,rfl⟩;obtain⟨v,rfl⟩:=yU hx;refine d _ _ (zX (λh=>?_) (λh=>?_))
  .refine he _ _ ⟨rfl,?_⟩;rw[M3.Kb n v,q01 h,q07];rfl
  .refine⟨rfl,?_⟩;rw[M3.Kb n v,q00 h]
 .rintro t e ⟨rfl,rfl⟩;rw[q06,q15];exact hd
variable {p:Addr}{xs:List V}{o:HO}
def cE.put{ys:List V}(h:cE K H a xs)(t:H p=some (.lst ys)):cE K (upd H p o) a xs:=by
 rcases h with(h | ⟨u,h⟩) | h
 .exact .inl (.inl (by rw[zi (λe=>by rw[e,t]at h;cases h)];exact h))
 .exact .inl (.inr ⟨u,by rw[zi (λe=>by rw[e,t]at h;cases h)];exact h⟩)
 .exact .inr h
def iI.put{ys:List V}{ps:List (Int×Int)}(h:All2 (iI K H) ls ps)(e:H p=some (.lst ys)):All2 (iI K (upd H p o)) ls ps:=h.imp λ_ _ r=>cE.put r e
def ON(ls:List Addr)(x:Addr):upd H l (.lst (ls.map V.ref++[V.ref x])) l=some (.lst ((ls++[x]).map V.ref)):=zd.trans (congrArg (λl=>some (HO.lst l)) (by rw[q07];rfl))
def A8{X:Cx}{e:Expr}{t u:TE}(w:PE X e t)(r:PE X e u):PE X e (λv H Q=>t v H Q\/u v H Q):=by
 intro n s v H Q I h;rcases h with h | h
 .exact w n s v H Q I h
 .exact r n s v H Q I h
structure Sh where
 aa:List Int
 struck:List Int
 ag:List Str
 card:Str->Option (List Int)
 taken:Nat
 bG:Bool
def wo(c:Int)(l:List Int):List Int:=l.filter λo => !decide (o=c)
namespace Sh
structure Ok (S:Sh):Prop where
 c1:1<=S.aa.length
 dO:S.aa.length+S.struck.length<=24
 nd:S.aa.Nodup
 cY:∀c∈S.aa,1<=c/\c<=999
 p1:1<=S.ag.length
 fD:S.ag.length<=15
 uO:S.ag.Nodup
 cd:∀j c,S.card j=some c->j∈S.ag/\c.Perm S.aa
 uP:S.taken<=200
def handed(S:Sh):List Str:=S.ag.filter λj=>(S.card j).isSome
def ao(S:Sh):List (List Int):=S.handed.map λj=>(S.card j).getD []
def new(us:List Int)(ts:List Str):Sh:=⟨us,[],ts,λ_=>none,0,false⟩
def hand(S:Sh)(j:Str)(c:List Int):Sh:={ S with card:=λk=>if k=j then some c else S.card k,taken:=S.taken+1 }
def refuse(S:Sh)(j:Str)(c:List Int):Option Str :=
 if S.bG=true then some "SheetSealed" else if j∈S.ag then(if c.Perm S.aa then(if 200<=S.taken then some "TooManyCards" else none)else some "BadCard")else some "UnknownJudge"
def bN(S:Sh)(c:Int):Sh:={ S with aa:=wo c S.aa,struck:=S.struck++[c],card:=λj=>(S.card j).map (wo c) }
def bo(S:Sh)(c:Int):Option Str :=
 if S.bG=true then some "SheetSealed" else if c∈S.aa then(if S.aa.length=1 then some "LastCouple" else none)else some "UnknownCouple"
def close(S:Sh):Sh:={ S with bG:=true }
def Ok.new{us:List Int}{ts:List Str}(s:M1.rn us=true)(b:M2.xw ts=true):(new us ts).Ok:=by
 have e:=s;unfold M1.rn at e;simp only[q42,decide_eq_true_eq,all_map,q39,Function.comp,id]at e;obtain⟨⟨c,d⟩,t,v⟩:=e;obtain⟨⟨n,w⟩,r,_⟩:=(M2.Ve ts).mp b;exact⟨by show 1<=us.length;lia,by show us.length+0<=24;lia,t,v,n,w,r,(λ_ _ h=>nomatch h),zero_le _⟩
def Ok.hand{S:Sh}(h:S.Ok){j:Str}{c:List Int}(t:S.refuse j c=none):(S.hand j c).Ok/\j∈S.ag/\c.Perm S.aa/\S.taken<200/\S.bG=false:=by
 unfold refuse at t;split at t
 .cases t
 rename_i r;split at t;rename_i n;split at t;rename_i w;split at t
 .cases t
 rename_i s
 .refine⟨⟨h.c1,h.dO,h.nd,h.cY,h.p1,h.fD,h.uO,λk d e=>?_,by show S.taken+1<=200;lia⟩,n,w,by lia,by simpa using r⟩;have e:(if k=j then some c else S.card k)=some d:=e;by_cases v:k=j
  .rw[q01 v]at e;cases e;subst v;exact⟨n,w⟩
  .rw[q00 v]at e;exact h.cd k d e
 .cases t
 .cases t
def Eo{c:Int}{l:List Int}(v:l.Nodup)(t:c∈l):(wo c l).length+1=l.length:=by
 unfold wo;have e:(l.filter λo => !decide (o=c))=l.erase c:=by
  rw[v.erase_eq_filter];refine filter_congr λx _=>?_;by_cases h:x=c
  .subst h;simp
  .simp[h]
 rw[e,List.length_erase_of_mem t];have:=q30 t
 lia
def Ok.bN{S:Sh}(h:S.Ok){c:Int}(t:S.bo c=none):(S.bN c).Ok/\c∈S.aa/\2<=S.aa.length/\S.bG=false:=by
 unfold bo at t;split at t
 .cases t
 rename_i n;split at t;rename_i v;split at t
 .cases t
 rename_i j
 .have hl:=Eo h.nd v;have s:=h.c1;have r:=h.dO;refine⟨⟨?_,?_,h.nd.filter _,λd w=>h.cY d (q24.mp w).1,h.p1,h.fD,h.uO,λk d e=>?_,h.uP⟩,v,by lia,by simpa using n⟩
  .show 1<=(wo c S.aa).length
   lia
  .show(wo c S.aa).length+(S.struck++[c]).length<=24;rw[q08,length_singleton]
   lia
  .have e:(S.card k).map (wo c)=some d:=e;cases q:S.card k with
   | none=>rw[q]at e;cases e
   | some b =>
     rw[q]at e;cases e;exact⟨(h.cd k b q).1,(h.cd k b q).2.filter _⟩
 .cases t
def Ok.close{S:Sh}(h:S.Ok):S.close.Ok:=⟨h.c1,h.dO,h.nd,h.cY,h.p1,h.fD,h.uO,h.cd,h.uP⟩
end Sh
def iJ(a1 a2 a3 d:Addr)(S:Sh):List (Str×V):=[("standing",.ref a1),("struck_so_far",.ref a2),("panel",.ref a3),("card_by_judge",.ref d),("taken_so_far",.int S.taken),("sealed",.bl S.bG)]
structure Shape (K:Frag) (H:Hp) (p:Addr) (F:Addr->Prop) (S:Sh) (dx a1 a2 a3 d:Addr) (ay:List (Key×V)):Prop where
 ip:H p=some (.ins (yu K "Sheet") dx (iJ a1 a2 a3 d S))
 i1:H a1=some (.lst (S.aa.map V.int))
 i2:H a2=some (.lst (S.struck.map V.int))
 i3:H a3=some (.lst (S.ag.map V.str))
 i4:H d=some (.dK ay)
 kl:ay.length<=S.taken
 cn:∀j,S.card j=none->gE ay (Sum.inr j)=none
 cs:∀j c,S.card j=some c->∃l,gE ay (Sum.inr j)=some (.ref l)/\H l=some (.lst (c.map V.int))/\F l/\l≠a2
 fp:F p
 f1:F a1
 f2:F a2
 f3:F a3
 f4:F d
 A9:a1≠a2
 Ba:a3≠a2
 fh:∀b,F b->H b≠none
structure ij (K:Frag) (H:Hp) (p:Addr) (F:Addr->Prop) (S:Sh) (dx a1 a2 a3 d:Addr) (ay:List (Key×V)):Prop extends Shape K H p F S dx a1 a2 a3 d ay where
 ok:S.Ok
def nH(K:Frag)(H:Hp)(p:Addr)(F:Addr->Prop)(S:Sh):Prop:=∃w e t v d n,Shape K H p F S w e t v d n
def aq(K:Frag)(H:Hp)(p:Addr)(F:Addr->Prop)(S:Sh):Prop:=∃w e t v d n,ij K H p F S w e t v d n
variable {F:Addr->Prop}{S:Sh}{ay:List (Key×V)}
def ij.off{t a1 a2 a3 d:Addr}(h:ij K H p F S t a1 a2 a3 d ay)(e:∀b,F b->H' b=H b):ij K H' p F S t a1 a2 a3 d ay :=
 ⟨⟨(e _ h.fp).trans h.ip,(e _ h.f1).trans h.i1,(e _ h.f2).trans h.i2,(e _ h.f3).trans h.i3,(e _ h.f4).trans h.i4,h.kl,h.cn,
  λj c w=>let ⟨l,r,s,n,k⟩:=h.cs j c w;⟨l,r,(e _ n).trans s,n,k⟩,h.fp,h.f1,h.f2,h.f3,h.f4,h.A9,h.Ba,λb v=>by rw[e b v];exact h.fh b v⟩,h.ok⟩
def aq.off(h:aq K H p F S)(e:∀b,F b->H' b=H b):aq K H' p F S:=by
 obtain⟨w,t,v,n,d,ay,h⟩:=h;exact⟨w,t,v,n,d,ay,h.off e⟩
def aq.fh(h:aq K H p F S):∀b,F b->H b≠none:=by
 obtain⟨n,e,t,v,d,ay,h⟩:=h;exact h.fh
def aq.ok(h:aq K H p F S):S.Ok:=by
 obtain⟨n,e,t,v,d,ay,h⟩:=h;exact h.ok
def aq.shape(h:aq K H p F S):nH K H p F S:=by
 obtain⟨n,e,t,v,d,ay,h⟩:=h;exact⟨n,e,t,v,d,ay,h.toShape⟩
def aq.same(h:aq K H p F S)(s:ae H H'):aq K H' p F S:=h.off λb t=>by
 have:=h.fh b t;cases e:H b with
 | none=>exact q02 e this
 | some o=>exact s b o e
def fX(F:Addr->Prop)(H:Hp)(e:Addr->Prop)(H':Hp):Prop:=∀b o,H b=some o->¬F b->H' b=some o/\¬e b
def LQ(K:Frag)(F:Addr->Prop)(H:Hp)(a:Addr)(xs:List V):Prop :=
 (Rd H a (.lst xs)/\¬F a)\/∃(o:Obj)(e:Array Value)(n:Nat),K.lookup a=some o/\o.cls=.type "list"/\o.dict=none/\o.data=.seq e n/\e.size<=sizeLine/\Vals xs e.toList
def LQ.of(h:H a=some (.lst xs))(n:¬F a):LQ K F H a xs:=.inl ⟨.inl h,n⟩
def ah.none(h:ah K H a xs):LQ K (λ_=>False) H a xs:=h.imp (λz=>⟨z,λw=>w⟩) id
def fX.same(s:ae H H'):fX F H F H':=λb o e n=>⟨s b o e,n⟩
def fX.trans{t v:Addr->Prop}{w r:Hp}(a:fX F H t w)(b:fX t w v r):fX F H v r:=λc o e n=>b c o (a c o e n).1 (a c o e n).2
variable {x:Addr}
def Kd{u i:HO}(w:H x=some i)(t:H l=none):upd (upd H l o) x u x=some u/\upd (upd H l o) x u l=some o/\l≠x/\∀b v,H b=some v->b≠x->upd (upd H l o) x u b=some v:=by
 have n:l≠x:=λe=>by rw[e,w]at t;cases t
 exact⟨zd,by rw[zi n];exact zd,n,λb v e nb=>by rw[zi nb,zi (zk e t)];exact e⟩
def OO(f:Str)(v x:V)(r:List (Str×V)):fZ f v ((f,x)::r)=(f,v)::r:=by rw[fZ,q01 rfl]
def ya{f g:Str}(v x:V)(r:List (Str×V))(h:g≠f):fZ f v ((g,x)::r)=(g,x)::fZ f v r:=by rw[fZ,q00 h]
def pf1(v:V):fZ "standing" v []=([("standing",v)]:List (Str×V)):=rfl
def pf2(u v:V):fZ "struck_so_far" v [("standing",u)]=([("standing",u),("struck_so_far",v)]:List (Str×V)):=by rw[ya _ _ _ (by decide)];rfl
def pf3(u w v:V):fZ "panel" v [("standing",u),("struck_so_far",w)]=([("standing",u),("struck_so_far",w),("panel",v)]:List (Str×V)):=by rw[ya _ _ _ (by decide),ya _ _ _ (by decide)];rfl
def pf4(u w y v:V):fZ "card_by_judge" v [("standing",u),("struck_so_far",w),("panel",y)]=([("standing",u),("struck_so_far",w),("panel",y),("card_by_judge",v)]:List (Str×V)):=by rw[ya _ _ _ (by decide),ya _ _ _ (by decide),ya _ _ _ (by decide)];rfl
def pf5(u w y z v:V):fZ "taken_so_far" v [("standing",u),("struck_so_far",w),("panel",y),("card_by_judge",z)]=([("standing",u),("struck_so_far",w),("panel",y),("card_by_judge",z),("taken_so_far",v)]:List (Str×V)):=by rw[ya _ _ _ (by decide),ya _ _ _ (by decide),ya _ _ _ (by decide),ya _ _ _ (by decide)];rfl
def pf6(u w y z t v:V):fZ "sealed" v [("standing",u),("struck_so_far",w),("panel",y),("card_by_judge",z),("taken_so_far",t)]=([("standing",u),("struck_so_far",w),("panel",y),("card_by_judge",z),("taken_so_far",t),("sealed",v)]:List (Str×V)):=by rw[ya _ _ _ (by decide),ya _ _ _ (by decide),ya _ _ _ (by decide),ya _ _ _ (by decide),ya _ _ _ (by decide)];rfl
def zmL(a1 a2 a3 d b:Addr)(S e:Sh)(h:e.taken=S.taken)(t:e.bG=S.bG):fZ "standing" (.ref b) (iJ a1 a2 a3 d S)=iJ b a2 a3 d e:=by unfold iJ;rw[OO,h,t]
def uQ(a1 a2 a3 d:Addr)(S e:Sh)(t:e.bG=S.bG):fZ "taken_so_far" (.int e.taken) (iJ a1 a2 a3 d S)=iJ a1 a2 a3 d e:=by
 unfold iJ;rw[ya _ _ _ (by decide),ya _ _ _ (by decide),ya _ _ _ (by decide),ya _ _ _ (by decide),OO,t]
def pQ(a1 a2 a3 d:Addr)(S e:Sh)(h:e.taken=S.taken):fZ "sealed" (.bl e.bG) (iJ a1 a2 a3 d S)=iJ a1 a2 a3 d e:=by
 unfold iJ;rw[ya _ _ _ (by decide),ya _ _ _ (by decide),ya _ _ _ (by decide),ya _ _ _ (by decide),ya _ _ _ (by decide),OO,h]
def uR{k:Key}{v u:V}(h:gE ay k=some u):(jh ay k v).length=ay.length:=by
 unfold jh;have:(ay.any λe=>decide (e.1=k))=true:=by rw[Hv,h];rfl
 rw[q01 this,q06]
def aq.ins(h:aq K H p F S):∃n e t v d,H p=some (.ins (yu K "Sheet") n (iJ e t v d S)):=by
 obtain⟨n,e,t,v,d,ay,h⟩:=h;exact⟨n,e,t,v,d,h.ip⟩
def Sh.rows(S:Sh):List (List Int):=S.ag.map λj=>(S.card j).getD []
def map_getD(l:List α)(d:α):(List.range l.length).map (λk=>l.getD k d)=l:=by
 refine ext_getElem (by simp) λi t e=>?_;simp[e]
def Sh.bQ(S:Sh):S.rows.length=S.ag.length:=by unfold rows;simp
def Sh.nI(S:Sh){k:Nat}(h:k<S.ag.length):S.rows.getD k []=(S.card (S.ag.getD k "")).getD []:=by
 unfold rows;rw[q18,q18,q26,q31 h];rfl
variable {c:List Int}
def Sh.Ok.full(h:S.Ok){j:Str}(e:S.card j=some c):c≠[]:=λz=>by
 have:=(h.cd j c e).2.length_eq;have t:=h.c1;rw[z]at this;simp at this
 lia
variable {β:Type}
def All2.at{R:α->β->Prop}{t:List α}{bs:List β}(h:All2 R t bs)(v:i<bs.length)(d:β):∃a,t[i]? = some a/\R a (bs.getD i d):=by
 have e:bs[i]? = some (bs.getD i d):=by rw[q18,q31 v];rfl
 exact h.get e
def All2.HI{R S:α->β->Prop}{e:List α}{bs:List β}(h:All2 R e bs)(f:∀a∈e,∀b,R a b->S a b):All2 S e bs:=by
 induction h with
 | nil=>exact .nil
 | cons r _ v=>exact .cons (f _ (q14 ..) _ r) (v λa t b=>f a (q13 _ t) b)
def All2.set{R:α->β->Prop}{e:List α}{bs:List β}(h:All2 R e bs){a:α}{b:β}(r:R a b):∀k,All2 R (e.set k a) (bs.set k b):=by
 induction h with
 | nil=>intro k;exact .nil
 | cons n t v =>
   intro k;cases k with
   | zero=>exact .cons r t
   | succ k=>exact .cons n (v k)
def Rows(F:Addr->Prop)(H:Hp)(e:Addr)(ls:List Addr)(cs:List (List Int)):Prop:=H e=some (.lst (ls.map V.ref))/\¬F e/\All2 (λl c=>H l=some (.lst (c.map V.int))/\¬F l) ls cs
variable {lc:Addr}{cs:List (List Int)}
def Rows.len(h:Rows F H lc ls cs):ls.length=cs.length:=h.2.2.length
def Rows.refs(K:Frag)(h:Rows F H lc ls cs):Refs K (IL K) H lc cs:=⟨ls,ah.of h.1,h.2.2.imp λ_ _ z=>ah.of z.1⟩
def Rows.Ep{e:Addr->Prop}(h:Rows F H lc ls cs)(d:fX F H e H'):Rows e H' lc ls cs :=
 ⟨(d _ _ h.1 h.2.1).1,(d _ _ h.1 h.2.1).2,h.2.2.imp λ_ _ z=>d _ _ z.1 z.2⟩
def Rows.same(h:Rows F H lc ls cs)(s:ae H H'):Rows F H' lc ls cs:=h.Ep (fX.same s)
def All2.uS{R:α->β->Prop}{t:List α}{bs:List β}(h:All2 R t bs){a:α}(v:a∈t):∃b,R a b:=by
 induction h with
 | nil=>cases v
 | cons r _ n =>
   rcases q27.mp v with e | e
   .exact⟨_,e ▸ r⟩
   .exact n e
def Rows.ne(h:Rows F H lc ls cs)(e:H x=none):lc≠x/\∀l∈ls,l≠x :=
 ⟨zk h.1 e,λl t=>let ⟨_,z⟩:=h.2.2.uS t;zk z.1 e⟩
def Rows.put(h:Rows F H lc ls cs)(n:lc≠x/\∀l∈ls,l≠x):Rows F (upd H x o) lc ls cs :=
 ⟨by rw[zi n.1];exact h.1,h.2.1,h.2.2.HI λl e c z=>⟨by rw[zi (n.2 l e)];exact z.1,z.2⟩⟩
def OP(h:ls≠[]):(HO.lst (c.map V.int)) ≠ .lst (ls.map V.ref):=λz=>by
 injection z with z
 cases ls with
 | nil=>exact h rfl
 | cons l ls=>cases c with
   | nil=>cases z
   | cons x c=>simp at z
def Rows.set(h:Rows F H lc ls cs)(e:ls≠[]){m:Addr}(t:H m=some (.lst (c.map V.int)))(nm:¬F m)(k:Nat):
 Rows F (upd H lc (.lst ((ls.map V.ref).set k (.ref m)))) lc (ls.set k m) (cs.set k c):=by
 refine⟨by rw[zd,List.map_set],h.2.1,All2.set (h.2.2.imp λl c z=>⟨?_,z.2⟩) ⟨?_,nm⟩ k⟩
 .rw[zi (yb z.1 h.1 (OP e))];exact z.1
 .rw[zi (yb t h.1 (OP e))];exact t
def Sh.jw(h:S.ag.Nodup){k:Nat}(w:k<S.ag.length)(c:List Int):(S.hand (S.ag.getD k "") c).rows=S.rows.set k c:=by
 unfold Sh.rows;refine ext_getElem (by simp;rfl) λi r n=>?_;have s:i<S.ag.length:=by simpa using n
 rw[List.getElem_set];have v:((S.hand (S.ag.getD k "") c).ag.map λj=>((S.hand (S.ag.getD k "") c).card j).getD [])[i]=(if S.ag[i]=S.ag.getD k "" then some c else S.card S.ag[i]).getD []:=by
  rw[getElem_map];rfl
 rw[v];have t:S.ag.getD k ""=S.ag[k]:=by rw[q18,q31 w];rfl
 by_cases e:k=i
 .subst e;rw[q01 t.symm,q01 rfl];rfl
 .rw[q00 e,q00 (λz=>e (getElem_inj h |>.mp (z.trans t)).symm),getElem_map]
def uT{k:Int}{n:Nat}(e:0<=k)(h:k.toNat<n):sS n k=some k.toNat:=by
 unfold sS;rw[q01 e,q01 (by lia)]
def Sh.jM{j:Str}{x:Str}(h:S.refuse j c=some x):x= "SheetSealed"\/x= "UnknownJudge"\/x= "BadCard"\/x= "TooManyCards":=by
 unfold Sh.refuse at h;split at h
 .cases h;exact .inl rfl
 split at h
 .split at h
  .split at h
   .cases h;exact .inr (.inr (.inr rfl))
   .cases h
  .cases h;exact .inr (.inr (.inl rfl))
 .cases h;exact .inr (.inl rfl)
def Sh.ji{c:Int}{x:Str}(h:S.bo c=some x):x= "SheetSealed"\/x= "UnknownCouple"\/x= "LastCouple":=by
 unfold Sh.bo at h;split at h
 .cases h;exact .inl rfl
 split at h
 .split at h
  .cases h;exact .inr (.inr rfl)
  .cases h
 .cases h;exact .inr (.inl rfl)
def Sh.kD(S:Sh)(c:Int):(S.bN c).rows=S.rows.map (wo c):=by
 unfold Sh.rows;rw[map_map];refine q43 λj _=>?_;show((S.card j).map (wo c)).getD []=wo c ((S.card j).getD []);cases S.card j with
 | none=>rfl
 | some d=>rfl
def Sh.Bb(h:S.Ok){d:List Int}(hd:d∈S.rows):d.length<=24:=by
 unfold Sh.rows at hd;obtain⟨j,_,rfl⟩:=q25.mp hd;cases e:S.card j with
 | none=>exact zero_le _
 | some c =>
   have:=(h.cd j c e).2.length_eq;have:=h.dO;show c.length<=24
   lia
end L2
namespace M5
open PySem L2 M3
def key(ms:List Int):Nat->List Int
 | 0=>[]
 | k+1=>(λa:List Int=>if a=[] then [] else a++[-((got ms ((k:Int)+1)).length:Int),(got ms ((k:Int)+1)).sum])
    (if key ms k=[]/\ms.length<2*(got ms ((k:Int)+1)).length then [(k:Int)+1] else key ms k)
def zp(cs:List (List Int))(c:Int):List Int:=cs.map λcard=>(card.idxOf c:Int)+1
def Bc(cs:List (List Int))(us:List Int):List (List Int):=us.map λc=>key (zp cs c) us.length
def DO(e:List (List Int))(m:List Int):Nat:=(e.filter λr=>HT.lexLt r m).length
def HJ(cs:List (List Int))(us:List Int):List Int:=(Bc cs us).map λm=>1+(DO (Bc cs us) m:Int)
def rows(ps us:List Int):List (Int×Int):=(List.range us.length).flatMap fun(i:Nat)=>(ps.zip us).filter λp=>decide (p.1=(i:Int)+1)
def nJ(ms:List Int):∀k,(key ms k).length<=1+2*k
 | 0=>zero_le _
 | k+1=>by
   have t:=nJ ms k;unfold key;dsimp only;have e:∀a:List Int,a.length<=1+2*k->(if a=[] then [] else a++[-((got ms ((k:Int)+1)).length:Int),(got ms ((k:Int)+1)).sum]).length<=1+2*(k+1):=λa h=>by
    split
    .simp
    .rw[q08,q12,q12,length_nil];lia
   refine e _ ?_;split
   .rw[q12,length_nil];lia
   .exact t
def zU(cs:List (List Int))(c:Int):(zp cs c).length=cs.length:=by unfold zp;simp
def bQ(ps us:List Int)(h:ps.length=us.length):(rows ps us).length<=us.length*us.length:=by
 unfold rows;have t:∀n:Nat,((List.range n).flatMap fun(i:Nat)=>(ps.zip us).filter λp=>decide (p.1=(i:Int)+1)).length<=n*us.length:=λn=>by
  induction n with
  | zero=>simp
  | succ n w =>
    rw[range_succ,flatMap_append,q08,Nat.succ_mul];have v:=q09 (λp=>decide (p.1=(n:Int)+1)) (ps.zip us);rw[length_zip,h,Nat.min_self]at v;have e:flatMap (fun(i:Nat)=>(ps.zip us).filter λp=>decide (p.1=(i:Int)+1)) [n]=(ps.zip us).filter λp=>decide (p.1=(n:Int)+1):=by simp
    rw[e]
    lia
 exact t us.length
end M5
namespace M6
open PySem L2 M3 M5
abbrev Sg:=Option (Int×Int)
def sg(a:List Int)(k:Int):Sg:=if a.length<2*cnt a k then some ((cnt a k:Int),sm a k)else none
def pR:Sg->Sg->Bool
 | some _,none=>true
 | none,_=>false
 | some p,some q=>decide (q.1<p.1) || (decide (p.1=q.1) && decide (p.2<q.2))
def zM:List Sg->List Sg->Bool
 | x::xs,y::ys=>if x=y then zM xs ys else pR x y
 | _,_=>false
def wC(a:List Int)(n:Nat):List Sg:=(List.range n).map fun(i:Nat)=>sg a ((i:Int)+1)
def yp(a b:List Int)(n:Nat):Bool:=zM (wC a n) (wC b n)
def OR(k:Nat)(x:Sg)(xs ys:List Sg):zM (replicate k x++xs) (replicate k x++ys)=zM xs ys:=by
 induction k with
 | zero=>rfl
 | succ k e=>rw[List.replicate_succ,cons_append,cons_append,zM,q01 rfl];exact e
def tl(a:List Int)(f m:Nat):List Int:=(List.range m).flatMap fun(i:Nat)=>[-(cnt a ((f:Int)+i):Int),sm a ((f:Int)+i)]
def nK(a:List Int)(f m:Nat):tl a f (m+1)=tl a f m++[-(cnt a ((f:Int)+m):Int),sm a ((f:Int)+m)]:=by
 unfold tl;rw[range_succ,flatMap_append];simp
def Vp{a:List Int}:∀{k:Nat},(∀j:Nat,j<=k->1<=j->2*cnt a j<=a.length)->key a k=[]
 | 0,_=>rfl
 | k+1,h=>by
   have n:=Vp (a:=a) (k:=k) λj w v=>h j (by lia) v;have t:=h (k+1) (le_refl _) (by lia);have e:((k+1:Nat):Int)=(k:Int)+1:=by lia
   rw[e]at t;unfold cnt at t;unfold key;rw[n,q00 (λz=>q02 z.2 (by lia))];rfl
def OS{a:List Int}{f:Nat}(r:1<=f)(v:eR a f):∀m:Nat,key a (f+m)=(f:Int)::tl a f (m+1)
 | 0=>by
   obtain⟨g,rfl⟩:∃g,f=g+1:=⟨f-1,by lia⟩;have e:((g+1:Nat):Int)=(g:Int)+1:=by lia
   have n:key a g=[]:=Vp λj b s=>by
    have:=En (ms:=a) (show(j:Int)<=((g+1:Nat):Int)-1 by lia);have:=v.2
    lia
   have t:=v.1;rw[e]at t;unfold cnt at t;show key a (g+1)=_;unfold key;rw[n,q01 ⟨rfl,t⟩,nK];have w:((g+1:Nat):Int)+((0:Nat):Int)=(g:Int)+1:=by lia
   rw[w,e];rfl
 | m+1=>by
   have h:=OS r v m;show key a ((f+m)+1)=_;unfold key;rw[h,q00 (λz=>by cases z.1),nK a f (m+1)];have e:((f+m:Nat):Int)+1=(f:Int)+((m+1:Nat):Int):=by lia
   rw[e];rfl
variable {a:List Int}{k:Int}
def Cw(h:2*cnt a k<=a.length):sg a k=none:=by unfold sg;rw[q00 (by lia)]
def wm(h:a.length<2*cnt a k):sg a k=some ((cnt a k:Int),sm a k):=by unfold sg;rw[q01 h]
def Vq{f m:Nat}(w:1<=f)(t:eR a f):wC a (f+m)=replicate (f-1) none++(List.range (m+1)).map fun(i:Nat)=>some ((cnt a ((f:Int)+i):Int),sm a ((f:Int)+i)):=by
 refine ext_getElem ?_ λi e r=>?_
 .unfold wC;simp;lia
 .have hi:i<f+m:=by unfold wC at e;simpa using e
  have v:(wC a (f+m))[i]=sg a ((i:Int)+1):=by
   have:(wC a (f+m))[i]? = some (sg a ((i:Int)+1)):=by
    show((List.range (f+m)).map fun(i:Nat)=>sg a ((i:Int)+1))[i]? = _;rw[q26,q36 hi];rfl
   rw[q31 e]at this;exact q22 this
  rw[v];by_cases c:i<f-1
  .rw[List.getElem_append_left (by simpa using c),List.getElem_replicate];refine Cw ?_;have:=En (ms:=a) (show(i:Int)+1<=(f:Int)-1 by lia);have:=t.2
   lia
  .rw[List.getElem_append_right (by simpa using c)];simp only[List.length_replicate,getElem_map,getElem_range];have n:(f:Int)+((i-(f-1):Nat):Int)=(i:Int)+1:=by lia
   rw[n];refine wm ?_;have:=En (ms:=a) (show(f:Int)<=(i:Int)+1 by lia);have:=t.1
   lia
def Vr(c s e t:Nat->Int):∀(m j:Nat),HT.lexLt ((range' j m).flatMap fun(i:Nat)=>[-c i,s i]) ((range' j m).flatMap fun(i:Nat)=>[-e i,t i])=zM ((range' j m).map fun(i:Nat)=>some (c i,s i)) ((range' j m).map fun(i:Nat)=>some (e i,t i))
 | 0,j=>rfl
 | m+1,j=>by
   rw[List.range'_succ,flatMap_cons,flatMap_cons,map_cons,map_cons];show HT.lexLt (-c j::s j::_) (-e j::t j::_)=_;rw[HT.dS,HT.dS,zM,<-Vr c s e t m (j+1)];by_cases v:c j=e j
   .rw[q01 (by rw[v])];by_cases n:s j=t j
    .rw[q01 n,q01 (by rw[v,n])];rfl
    .rw[q00 n,q00 (λz=>n (by injection z with z;exact(Prod.mk.inj z).2))];show _=(decide (e j<c j) || (decide (c j=e j) && decide (s j<t j)));rw[q20 (show ¬e j<c j by lia),q19 v];rfl
   .rw[q00 (λz=>v (by lia)),q00 (λz=>v (by injection z with z;exact(Prod.mk.inj z).1))];show _=(decide (e j<c j) || (decide (c j=e j) && decide (s j<t j)));rw[q20 v,Bool.false_and,Bool.or_false];by_cases w:e j<c j
    .rw[q19 w,q19 (by lia)]
    .rw[q20 w,q20 (by lia)]
def nM{e:Type}(m n:Nat)(x:e):replicate (m+n) x=replicate m x++replicate n x:=by simp
variable {b:List Int}{n:Nat}
def pS{f g:Nat}(t:1<=f)(v:1<=g)(w:eR a f)(r:eR b g)(c:f<=n)(j:g<=n):HT.lexLt (key a n) (key b n)=yp a b n:=by
 obtain⟨m,rfl⟩:∃m,n=f+m:=⟨n-f,by lia⟩;obtain⟨k,s⟩:∃k,f+m=g+k:=⟨f+m-g,by lia⟩;unfold yp;rw[OS t w m,Vq t w];rw[s,OS v r k,Vq v r,HT.dS];rcases Nat.lt_trichotomy f g with h | h | h
 .rw[q00 (by lia),q19 (show(f:Int)<g by lia)];obtain⟨d,e⟩:∃d,g-1=(f-1)+(d+1):=⟨g-1-(f-1)-1,by lia⟩;rw[e,nM,append_assoc,OR,range_succ_eq_map,map_cons,List.replicate_succ,cons_append,zM,q00 (by intro z;cases z)];rfl
 .subst h;have:k=m:=by lia
  subst this;rw[q01 rfl,OR];have:=Vr (λi=>(cnt a ((f:Int)+i):Int)) (λi=>sm a ((f:Int)+i)) (λi=>(cnt b ((f:Int)+i):Int)) (λi=>sm b ((f:Int)+i)) (k+1) 0;rw[<-List.range_eq_range']at this;exact this
 .rw[q00 (by lia),q20 (show ¬(f:Int)<g by lia)];obtain⟨d,e⟩:∃d,f-1=(g-1)+(d+1):=⟨f-1-(g-1)-1,by lia⟩;rw[e,nM,append_assoc,OR,range_succ_eq_map (n:=k),map_cons,List.replicate_succ,cons_append,zM,q00 (by intro z;cases z)];rfl
def Vs{a:List Int}(t:∀x∈a,1<=x):∀n:Nat,a.length<2*cnt a n->∃f:Nat,1<=f/\f<=n/\eR a f
 | 0,h=>by
   have:=OL (ms:=a) (n:=((0:Nat):Int)) λx v=>by have:=t x v;lia
   lia
 | n+1,h=>by
   by_cases c:a.length<2*cnt a n
   .obtain⟨f,h1,h2,h3⟩:=Vs t n c;exact⟨f,h1,by lia,h3⟩
   .refine⟨n+1,by lia,le_refl _,h,?_⟩;have e:((n+1:Nat):Int)-1=(n:Int):=by lia
    rw[e]
    lia
def Vt(t:a≠[])(h:∀x∈a,1<=x/\x<=n):∃f:Nat,1<=f/\f<=n/\eR a f :=
 Vs (λx e=>(h x e).1) n (by
  rw[OM λx e=>(h x e).2];have:=List.length_pos_iff.mpr t
  lia)
def nN{n:Int}(h:∀x∈a,x<=n)(v:n<=k):sg a k=sg a n:=by
 have e:got a k=got a n:=by
  unfold got;exact filter_congr λx t=>by
   have:=h x t;rw[q19 (by lia),q19 this]
 unfold sg cnt sm;rw[e]
def Vu(a:List Int)(n:Nat):wC a (n+1)=wC a n++[sg a ((n:Int)+1)]:=by unfold wC;rw[range_succ,q07];rfl
def Fy(a:List Int)(n:Nat):(wC a n).length=n:=by unfold wC;simp
def Vv:∀{t v:List Sg}{x y:Sg},t.length=v.length->(x=y\/t≠v)->zM (t++[x]) (v++[y])=zM t v
 | [],[],x,y,_,h=>by
   rcases h with h | h
   .subst h;show(if x=x then false else pR x x)=false;rw[q01 rfl]
   .exact q02 rfl h
 | p::t,q::v,x,y,hl,h=>by
   rw[cons_append,cons_append,zM,zM];by_cases e:p=q
   .subst e;rw[q01 rfl,q01 rfl];exact Vv (by simpa using hl) (h.imp id λz w=>z (by rw[w]))
   .rw[q00 e,q00 e]
def OV(r:1<=n)(t:∀x∈a,x<=n)(v:∀x∈b,x<=n):∀k,yp a b (n+k)=yp a b n
 | 0=>rfl
 | k+1=>by
   rw[<-OV r t v k];show zM (wC a ((n+k)+1)) (wC b ((n+k)+1))=_;rw[Vu,Vu];refine Vv (by rw[Fy,Fy]) ?_;by_cases e:wC a (n+k)=wC b (n+k)
   .left;have:(wC a (n+k))[n-1]? = (wC b (n+k))[n-1]? := by rw[e]
    unfold wC at this;rw[q26,q26,q36 (by lia)]at this;have this:sg a (((n-1:Nat):Int)+1)=sg b (((n-1:Nat):Int)+1):=q22 this;have w:((n-1:Nat):Int)+1=(n:Int):=by lia
    rw[w]at this;rw[nN t (by lia),nN v (by lia)];exact this
   .exact .inr e
def pT{m:Nat}(w:1<=n)(r:1<=m)(t:∀x∈a,x<=n/\x<=m)(v:∀x∈b,x<=n/\x<=m):yp a b n=yp a b m:=by
 rcases Nat.le_total n m with h | h
 .obtain⟨k,rfl⟩:=Nat.exists_eq_add_of_le h;exact(OV w (λx e=>(t x e).1) (λx e=>(v x e).1) k).symm
 .obtain⟨k,rfl⟩:=Nat.exists_eq_add_of_le h;exact OV r (λx e=>(t x e).2) (λx e=>(v x e).2) k
def Be:Sg->Sg->Str
 | some p,some q=>if p.1=q.1 then "sum" else "count"
 | _,_=> "half"
def wa(a b:List Int)(n:Nat):Option (Nat×Str)->Prop
 | none=>∀k:Nat,1<=k->k<=n->sg a k=sg b k
 | some r=>1<=r.1/\r.1<=n/\(∀j:Nat,1<=j->j<r.1->sg a j=sg b j)/\sg a r.1≠sg b r.1/\r.2=Be (sg a r.1) (sg b r.1)
def Ke{r t:Option (Nat×Str)}(h:wa a b n r)(h':wa a b n t):r=t:=by
 cases r with
 | none =>
   cases t with
   | none=>rfl
   | some q=>exact q02 (h q.1 h'.1 h'.2.1) h'.2.2.2.1
 | some p =>
   cases t with
   | none=>exact q02 (h' p.1 h.1 h.2.1) h.2.2.2.1
   | some q =>
     obtain⟨k,w⟩:=p;obtain⟨j,v⟩:=q;obtain⟨s,f,d,i,l⟩:=h;obtain⟨m,x,o,g,u⟩:=h';dsimp only at s f d i l m x o g u;have e:k=j:=by
      rcases Nat.lt_trichotomy k j with c | c | c
      .exact q02 (o k s c) i
      .exact c
      .exact q02 (d j m c) g
     subst e;rw[l,u]
def Vw:∀{t v:List Sg}(k:Nat)(w:k<t.length)(r:k<v.length),(∀j,j<k->t[j]? = v[j]?)->t[k]≠v[k]->zM t v=pR t[k] v[k]
 | x::t,y::v,0,_,_,_,bz=>by rw[zM,q00 (show ¬x=y from bz)];rfl
 | x::t,y::v,k+1,w,r,he,bz=>by
   have e:x=y:=by have:=he 0 (by lia);simpa using this
   rw[zM,q01 e];exact Vw k (by simpa using w) (by simpa using r) (λj h=>by have:=he (j+1) (by lia);simpa using this) (by simpa using bz)
def Vx:∀(e:List Sg),zM e e=false
 | []=>rfl
 | x::e=>by rw[zM,q01 rfl];exact Vx e
def Kf(a:List Int){k:Nat}(h:k<n):(wC a n)[k]? = some (sg a ((k:Int)+1)):=by
 unfold wC;rw[q26,q36 h];rfl
def lR(h:wa a b n none):yp a b n=false:=by
 have e:wC a n=wC b n:=by
  unfold wC;refine q43 λi t=>?_;have t:=List.mem_range.mp t;have:=h (i+1) (by lia) (by lia);have v:((i+1:Nat):Int)=(i:Int)+1:=by lia
  rw[v]at this;exact this
 unfold yp;rw[e];exact Vx _
def OW{r:Nat×Str}(h:wa a b n (some r)):yp a b n=pR (sg a r.1) (sg b r.1):=by
 obtain⟨k,w⟩:=r;obtain⟨m,o,e,t,p⟩:=h;dsimp only at m o e t p ⊢;obtain⟨j,rfl⟩:∃j,k=j+1:=⟨k-1,by lia⟩;have v:((j+1:Nat):Int)=(j:Int)+1:=by lia
 have d:j<(wC a n).length:=by rw[Fy];lia
 have l:j<(wC b n).length:=by rw[Fy];lia
 have s:(wC a n)[j]=sg a ((j+1:Nat):Int):=by
  have:=Kf a (n:=n) (k:=j) (by lia);rw[q31 d]at this;rw[v];exact q22 this
 have c:(wC b n)[j]=sg b ((j+1:Nat):Int):=by
  have:=Kf b (n:=n) (k:=j) (by lia);rw[q31 l]at this;rw[v];exact q22 this
 unfold yp;rw[Vw j d l (λi g=>?_) (by rw[s,c];exact t),s,c];rw[Kf a (by lia),Kf b (by lia)];have:=e (i+1) (by lia) (by lia);have q:((i+1:Nat):Int)=(i:Int)+1:=by lia
 rw[q]at this;rw[this]
def zB(cs:List (List Int))(us:List Int):List Int:=us.map λc=>1+((us.filter λd=>yp (zp cs d) (zp cs c) us.length).length:Int)
variable {cs:List (List Int)}{us:List Int}{c:Int}
def yE(w:∀d∈cs,d.Perm us)(t:c∈us):∀x∈zp cs c,1<=x/\x<=us.length:=λx e=>by
 unfold zp at e;obtain⟨d,v,rfl⟩:=q25.mp e;have h:=w d v;have:d.idxOf c<d.length:=idxOf_lt_length_of_mem (h.mem_iff.mpr t);have:=h.length_eq
 lia
def Vy(h:1<=cs.length):zp cs c≠[]:=λe=>by
 have:=zU cs c;rw[e]at this;simp at this
 lia
def Er{d:Int}(t:∀d∈cs,d.Perm us)(e:1<=cs.length)(j:c∈us)(hd:d∈us):HT.lexLt (key (zp cs c) us.length) (key (zp cs d) us.length)=yp (zp cs c) (zp cs d) us.length:=by
 obtain⟨f,v,w,r⟩:=Vt (Vy e) (yE t j);obtain⟨g,h,s,i⟩:=Vt (Vy e) (yE t hd);exact pS v h r i w s
def wT(w:∀d∈cs,d.Perm us)(e:1<=cs.length):HJ cs us=zB cs us:=by
 unfold HJ zB Bc;rw[map_map];refine q43 λc t=>?_;show 1+(M5.DO (us.map λc=>key (zp cs c) us.length) (key (zp cs c) us.length):Int)=_;unfold M5.DO;rw[filter_map,q06];congr 3;exact filter_congr λd v=>Er w e v t
def yO(cs:List (List Int))(us:List Int):(zB cs us).length=us.length:=by unfold zB;simp
def rz(ms:List Int)(n:Nat):List (Int×Int):=(List.range n).map fun(i:Nat)=>((cnt ms ((i:Int)+1):Int),sm ms ((i:Int)+1))
def Vz(ms:List Int)(n:Nat):rz ms (n+1)=rz ms n++[((cnt ms ((n:Int)+1):Int),sm ms ((n:Int)+1))]:=by unfold rz;rw[range_succ,q07];rfl
def Kg(ms:List Int)(n:Nat):(rz ms n).length=n:=by unfold rz;simp
def pU(p q:Sg):Be p q=Be q p:=by
 cases p with
 | none=>cases q <;> rfl
 | some p=>cases q with
   | none=>rfl
   | some q =>
     show(if p.1=q.1 then("sum":Str)else("count":Str))=if q.1=p.1 then("sum":Str)else("count":Str)
     by_cases h:p.1=q.1
     .rw[q01 h,q01 h.symm]
     .rw[q00 h,q00 λz=>h z.symm]
def znb{a b:List Int}{n:Nat}{r:Option (Nat×Str)}(h:wa a b n r):wa b a n r:=by
 cases r with
 | none=>exact λk e t=>(h k e t).symm
 | some r=>exact⟨h.1,h.2.1,λj e t=>(h.2.2.1 j e t).symm,λz=>h.2.2.2.1 z.symm,by rw[pU];exact h.2.2.2.2⟩
end M6
namespace L2
open PySem
def Told(K:Frag)(H:Hp)(x:V):Option (Nat×Str)->Prop
 | none=>x=.bR
 | some r=>∃l,x=.ref l/\cE K H l [.int (r.1:Nat),.str r.2]
end L2
namespace M3
open PySem L2
def VA{a b:List Int}(h:a.Perm b)(n:Int):cnt a n=cnt b n:=(h.filter _).length_eq
def VB(a b:List Int)(n:Int):cnt (a++b) n=cnt a n+cnt b n:=by
 unfold cnt got;rw[q16,q08]
def uU{a b:List Int}(h:a.Perm b){f:Int}(e:eR a f):eR b f:=by
 unfold eR at *;rw[<-VA h,<-VA h,<-h.length_eq];exact e
def zng{ns:List Int}(hs:ns.Pairwise (·<= ·))(s:ns≠[]):eR ns (ns.getD (ns.length/2) 0):=by
 have i:=List.length_pos_iff.mpr s;have n:ns.length/2<ns.length:=by lia
 generalize d:ns.length/2=k at n ⊢;have e:ns=ns.take k++ns.drop k:=(q35 k ns).symm;have t:ns.drop k=ns.getD k 0::ns.drop (k+1):=by rw[Fh n];exact drop_eq_getElem_cons n
 generalize ns.getD k 0=f at t ⊢;have lt:(ns.take k).length=k:=by rw[q11];lia
 rw[e]at hs;obtain⟨c,w,a⟩:=List.pairwise_append.mp hs;rw[t]at w a;have b:=List.pairwise_cons.mp w;unfold eR;constructor
 .have a1:cnt (ns.take k) f=k:=by rw[OM λx v=>a x v f (q14 ..),lt]
  have r:1<=cnt (ns.drop k) f:=by
   rw[t];unfold cnt got;rw[q17,q01 (q19 (Int.le_refl f)),q12]
   lia
  have h:cnt ns f=cnt (ns.take k) f+cnt (ns.drop k) f:=by rw[<-VB,<-e]
  lia
 .have a1:=A6 (ns.take k) (f-1);have r:cnt (ns.drop k) (f-1)=0:=by
   refine OL λx v=>?_;rw[t]at v;rcases q27.mp v with z | z
   .lia
   .have:=b.1 x z;lia
  have h:cnt ns (f-1)=cnt (ns.take k) (f-1)+cnt (ns.drop k) (f-1):=by rw[<-VB,<-e]
  lia
end M3
namespace M6
open PySem L2 M3 M5
def HK(a b:List Int)(f:Int):Option Int->Prop
 | none=>∀k,f<=k->cnt a k=cnt b k/\sm a k=sm b k
 | some n=>f<=n/\n<=24/\(∀j,f<=j->j<n->cnt a j=cnt b j/\sm a j=sm b j)/\¬(cnt a n=cnt b n/\sm a n=sm b n)
variable {a:List Int}{f:Int}
def xB{j:Int}(e:eR a f)(t:j<f):sg a j=none:=by
 refine Cw ?_;have:=En (ms:=a) (show j<=f-1 by lia);have:=e.2
 lia
def pV{j:Int}(e:eR a f)(t:f<=j):sg a j=some ((cnt a j:Int),sm a j):=by
 refine wm ?_;have:=En (ms:=a) t;have:=e.1
 lia
variable {b:List Int}{g:Int}
def OX(t:eR a f)(v:eR b g)(h:f<g)(w:1<=f)(r:f<=24):wa a b 24 (some (f.toNat,"half")):=by
 have e:((f.toNat:Nat):Int)=f:=by lia
 refine⟨by dsimp only;lia,by dsimp only;lia,λj s n=>?_,?_,?_⟩
 .dsimp only at n;rw[xB t (by lia),xB v (by lia)]
 .dsimp only;rw[e,pV t (Int.le_refl _),xB v h];exact λz=>nomatch z
 .dsimp only;rw[e,pV t (Int.le_refl _),xB v h];rfl
def nQ(v:eR a f)(n:eR b g)(h:g<f)(e:1<=g)(t:g<=24):wa a b 24 (some (g.toNat,"half")):=znb (OX n v h e t)
def VC(e:eR a f)(t:eR b f)(h:HK a b f none):wa a b 24 none:=λk v n=>by
 by_cases c:(k:Int)<f
 .rw[xB e c,xB t c]
 .obtain⟨e1,e2⟩:=h k (by lia);rw[pV e (by lia),pV t (by lia),e1,e2]
def VD{n:Int}(v:eR a f)(w:eR b f)(l:1<=f)(h:HK a b f (some n)):wa a b 24 (some (n.toNat,if(cnt a n:Int)=cnt b n then "sum" else "count")):=by
 obtain⟨t,k,r,s⟩:=h;have e:((n.toNat:Nat):Int)=n:=by lia
 refine⟨by dsimp only;lia,by dsimp only;lia,λj m d=>?_,?_,?_⟩
 .dsimp only at d;by_cases c:(j:Int)<f
  .rw[xB v c,xB w c]
  .obtain⟨e1,e2⟩:=r j (by lia) (by lia);rw[pV v (by lia),pV w (by lia),e1,e2]
 .dsimp only;rw[e,pV v t,pV w t];intro z;injection z with z
  injection z with o i
  exact s ⟨by lia,i⟩
 .dsimp only;rw[e,pV v t,pV w t];rfl
def uV(t:eR a f)(v:eR b g)(h:f<g)(n:1<=f)(w:f<=24):yp a b 24=true:=by
 rw[OW (OX t v h n w)];dsimp only;have e:((f.toNat:Nat):Int)=f:=by lia
 rw[e,pV t (Int.le_refl _),xB v h];rfl
def uW(t:eR a f)(w:eR b g)(h:g<f)(v:1<=g)(n:g<=24):yp a b 24=false:=by
 rw[OW (nQ t w h v n)];dsimp only;have e:((g.toNat:Nat):Int)=g:=by lia
 rw[e,xB t h];rfl
def uX{n:Int}(t:eR a f)(v:eR b f)(w:1<=f)(h:HK a b f (some n)):yp a b 24=if(cnt a n:Int)=cnt b n then decide (sm a n<sm b n)else decide ((cnt b n:Int)<cnt a n):=by
 rw[OW (VD t v w h)];dsimp only;have e:((n.toNat:Nat):Int)=n:=by have:=h.1;lia
 rw[e,pV t h.1,pV v h.1];show(decide ((cnt b n:Int)<cnt a n) || (decide ((cnt a n:Int)=cnt b n) && decide (sm a n<sm b n)))=_;by_cases c:(cnt a n:Int)=cnt b n
 .rw[q01 c,q19 c,q20 (show ¬(cnt b n:Int)<cnt a n by lia)];rfl
 .rw[q00 c,q20 c,Bool.false_and,Bool.or_false]
def lT{M:Int}(v:∀x∈a,x<=M)(n:∀x∈b,x<=M)(hM:f<=M)(h:∀j,f<=j->j<=M->cnt a j=cnt b j/\sm a j=sm b j):HK a b f none:=λk w=>by
 by_cases c:k<=M
 .exact h k w c
 .have ea:got a k=got a M:=by
   unfold got;exact filter_congr λx e=>by have:=v x e;rw[q19 (by lia),q19 this]
  have t:got b k=got b M:=by
   unfold got;exact filter_congr λx e=>by have:=n x e;rw[q19 (by lia),q19 this]
  have:=h M hM (Int.le_refl _);unfold cnt sm at *;rw[ea,t];exact this
def pW{cs:List (List Int)}{us:List Int}(t:∀d∈cs,d.Perm us)(v:1<=us.length)(h:us.length<=24):zB cs us=us.map λc=>1+(((us.map (zp cs)).filter λr=>yp r (zp cs c) 24).length:Int):=by
 unfold zB;refine q43 λc n=>?_;rw[filter_map,q06];congr 3;refine filter_congr λd w=>?_;refine pT v (by lia) (λx e=>?_) (λx e=>?_)
 .have:=yE t w x e;lia
 .have:=yE t n x e;lia
end M6
namespace L2
open PySem
variable {S:Sh}
def Sh.aQ(ok:S.Ok):∀d∈S.ao,d.Perm S.aa:=λd v=>by
 obtain⟨j,n,rfl⟩:=q25.mp v;have t:=(q24.mp n).2;cases e:S.card j with
 | none=>rw[e]at t;cases t
 | some c=>exact(ok.cd j c e).2
def Sh.aT(S:Sh):S.ao.length=S.handed.length:=by unfold Sh.ao;simp
def Sh.bg(S:Sh)(j:Str):List (List Int):=(S.handed.filter λi => !decide (i=j)).map λi=>(S.card i).getD []
def Sh.dW(ok:S.Ok)(j:Str):∀d∈S.bg j,d.Perm S.aa:=λd e=>by
 obtain⟨i,t,rfl⟩:=q25.mp e;exact Sh.aQ ok _ (List.mem_map_of_mem (q24.mp t).1)
def Sh.gh(ok:S.Ok)(j:Str):(!decide ((S.card j).getD []=[]))=(S.card j).isSome:=by
 cases e:S.card j with
 | none=>rfl
 | some c=>rw[show(some c).getD ([]:List Int)=c from rfl,q20 (ok.full e)];rfl
def Sh.bZ(ok:S.Ok):S.ao=S.rows.filter λd => !decide (d=[]):=by
 unfold Sh.ao Sh.handed Sh.rows;rw[filter_map];congr 1;exact filter_congr λj _=>(Sh.gh ok j).symm
def JY:∀{l:List Str},l.Nodup->∀{k:Nat}(e:k<l.length),(l.filter λi => !decide (i=l[k]))=l.take k++l.drop (k+1)
 | a::l,nd,0,_=>by
   have h:=List.nodup_cons.mp nd;show((a::l).filter λi => !decide (i=a))=l;rw[q17,q00 (by rw[q19 rfl];decide),List.filter_eq_self];intro x v;have:¬x=a:=λz=>h.1 (z ▸ v);rw[q20 this];rfl
 | a::l,nd,k+1,e=>by
   have h:=List.nodup_cons.mp nd;have t:k<l.length:=by simpa using e
   show((a::l).filter λi => !decide (i=l[k]))=a::(l.take k++l.drop (k+1));have:¬a=l[k]:=λz=>h.1 (z ▸ q44 t);rw[q17,q01 (by rw[q20 this];rfl),JY h.2 t]
def Sh.gi(ok:S.Ok){k:Nat}(t:k<S.ag.length):S.bg (S.ag.getD k "")=(S.rows.take k++S.rows.drop (k+1)).filter λd => !decide (d=[]):=by
 have e:S.ag.getD k ""=S.ag[k]:=by rw[q18,q31 t];rfl
 unfold Sh.bg Sh.handed Sh.rows;rw[e,filter_filter,<-map_take,<-map_drop,<-q07,<-JY ok.uO t,filter_map,filter_filter];congr 1;refine filter_congr λj _=>?_;show((!decide (j=S.ag[k])) && (S.card j).isSome)=((!decide ((S.card j).getD []=[])) && (!decide (j=S.ag[k])));rw[Sh.gh ok j,Bool.and_comm]
def Sh.lU(ok:S.Ok):S.handed.length=(S.rows.filter λd => !decide (d=[])).length:=by rw[<-Sh.bZ ok,Sh.aT]
variable {j:Str}
def Sh.eU(n:S.ag.Nodup)(t:j∈S.handed):(S.bg j).length+1=S.handed.length:=by
 unfold Sh.bg;rw[q06];have v:S.handed.Nodup:=n.filter _;have e:(S.handed.filter λi => !decide (i=j))=S.handed.erase j:=by
  rw[v.erase_eq_filter];refine filter_congr λx _=>?_;by_cases h:x=j
  .simp[h]
  .simp[h]
 rw[e,List.length_erase_of_mem t];have:=q30 t
 lia
variable {K:Frag}
def Fz{a:Addr}{s:List Addr}{cs:List (List Int)}{c:St}{o:TT}{p:TE}{H:Hp}{b:List V->Hp->Prop}(A:ah K H a (s.map V.ref))(k:All2 (IL K H) s cs)(E:cs.length<=1000)
 (u:∀(m:Addr)(d:List Int)(v:Hp)(Q:Bool->Hp->Prop),ah K v m (d.map V.int)->(∀n,ae v n->Q (!decide (d=[])) n)->o (some (.ref m)::c) v Q)
 (q:∀(m:Addr)(v:Hp)(Q:VK),Q (.ref m) v->p (some (.ref m)::c) v Q)
 (hd:∀(t:List Addr)(v:Hp),ae H v->All2 (IL K v) t (cs.filter λd => !decide (d=[]))->b (t.map V.ref) v):dD (ke K a) c o p H b:=by
 have C:=zq;have B:=k.length;refine yL (xs:=s.map V.ref) (λi r n=>∃t:List Addr,r=t.map V.ref/\ae H n/\All2 (IL K n) t ((cs.take i).filter λd => !decide (d=[]))) ⟨[],rfl,ae.refl _,.nil⟩ ?_ (by rw[q06];lia) ?_ ?_
 .rintro i r n hi ⟨t,rfl,s2,r2⟩;refine⟨s2.seq A,?_⟩;have D:=r2.length;have z:=q09 (λd:List Int => !decide (d=[])) (cs.take i);rw[q11]at z;rw[q06]
  lia
 .rintro i x r n hx ⟨t,rfl,s2,r2⟩;obtain⟨m,y,rfl⟩:=wN hx;obtain⟨d,f,l⟩:=k.getL y;refine u m d n _ (s2.seq l) λg w=>?_;have e:(cs.take (i+1)).filter (λd => !decide (d=[]))=(cs.take i).filter (λd => !decide (d=[]))++if(!decide (d=[]))=true then [d] else []:=by
   rw[take_succ,f,q16];congr 1;show filter _ [d]=_;rw[q17];rfl
  refine Az (λh=>?_) (λh=>?_)
  .refine q m g _ ⟨t++[m],by rw[q07];rfl,s2.trans w,?_⟩;rw[e,q01 h];exact(r2.imp λ_ _=>IL.stays K _ _ _ _ w).snoc ((s2.trans w).seq l)
  .refine⟨t,rfl,s2.trans w,?_⟩;rw[e,q00 (by rw[h];exact q23),append_nil];exact r2.imp λ_ _=>IL.stays K _ _ _ _ w
 .rintro r n ⟨t,rfl,s2,r2⟩;rw[q06,B,q15]at r2;exact hd t n s2 r2
variable {α β:Type}
def All2.uZ{R:α->β->Prop}{e:List α}{bs:List β}(h:All2 R e bs):∀k,All2 R (e.take k) (bs.take k):=by
 induction h with
 | nil=>intro k;rw[take_nil,take_nil];exact .nil
 | cons r _ t =>
   intro k;cases k with
   | zero=>exact .nil
   | succ k=>exact .cons r (t k)
def All2.u6{R:α->β->Prop}{e:List α}{bs:List β}(h:All2 R e bs):∀k,All2 R (e.drop k) (bs.drop k):=by
 induction h with
 | nil=>intro k;rw[drop_nil,drop_nil];exact .nil
 | cons r t v =>
   intro k;cases k with
   | zero=>exact .cons r t
   | succ k=>exact v k
def All2.app{R:α->β->Prop}{v t:List α}{bs e:List β}(h:All2 R v bs)(n:All2 R t e):All2 R (v++t) (bs++e):=by
 induction h with
 | nil=>exact n
 | cons r _ w=>exact .cons r w
def g7(d:List Int)(i:Nat):List Int:=d.take (i-1)++[d.getD i 0,d.getD (i-1) 0]++d.drop (i+1)
variable {d:List Int}{i:Nat}
def u9(w:0<i)(t:i<d.length):∃p q,p.length=i-1/\d=p++[d.getD (i-1) 0,d.getD i 0]++q/\g7 d i=p++[d.getD i 0,d.getD (i-1) 0]++q:=by
 refine⟨d.take (i-1),d.drop (i+1),by rw[q11];lia,?_,rfl⟩;have e:i-1<d.length:=by lia
 have v:d.getD (i-1) 0=d[i-1]:=by rw[q18,q31 e];rfl
 have n:d.getD i 0=d[i]:=by rw[q18,q31 t];rfl
 rw[v,n,append_assoc]
 conv=>lhs;rw[<-q35 (i-1) d]
 congr 1;rw[drop_eq_getElem_cons e];show d[i-1]::d.drop (i-1+1)=d[i-1]::(d[i]::d.drop (i+1));congr 1;have:i-1+1=i:=by lia
 rw[this];exact drop_eq_getElem_cons t
def OY(v:0<i)(n:i<d.length):(g7 d i).Perm d:=by
 obtain⟨p,q,_,e,t⟩:=u9 v n;rw[t]
 conv=>rhs;rw[e]
 refine List.Perm.append_right _ (List.Perm.append_left _ ?_);exact List.Perm.swap _ _ _
def Es(t:0<i)(v:i<d.length):(g7 d i)[i]? = some (d.getD (i-1) 0):=by
 obtain⟨p,q,n,_,e⟩:=u9 t v;rw[e,append_assoc,q29 (by lia),n,show i-(i-1)=1 by lia];rfl
def Sh.bC(S:Sh)(j:Str)(d:List Int):List (List Int):=S.handed.map λi=>if i=j then d else(S.card i).getD []
def Sh.gj(ok:S.Ok)(h:d.Perm S.aa):∀e∈S.bC j d,e.Perm S.aa:=λe t=>by
 obtain⟨i,v,rfl⟩:=q25.mp t;by_cases c:i=j
 .rw[q01 c];exact h
 .rw[q00 c];exact Sh.aQ ok _ (List.mem_map_of_mem v)
def Sh.eV(S:Sh)(j:Str)(d:List Int):(S.bC j d).length=S.handed.length:=by unfold Sh.bC;simp
def Sh.va(S:Sh)(j:Str)(d:List Int):Sh:={ S with card:=λk=>if k=j then some d else S.card k }
def Sh.Ok.va(h:S.Ok)(v:j∈S.ag)(hd:d.Perm S.aa):(S.va j d).Ok:=by
 refine⟨h.c1,h.dO,h.nd,h.cY,h.p1,h.fD,h.uO,λk e z=>?_,h.uP⟩;have z:(if k=j then some d else S.card k)=some e:=z;by_cases t:k=j
 .rw[q01 t]at z;cases z;subst t;exact⟨v,hd⟩
 .rw[q00 t]at z;exact h.cd k e z
def Bg{l:List α}{k:Nat}(e:k<l.length)(x:α):l.take k++[x]++l.drop (k+1)=l.set k x:=by
 rw[List.set_eq_take_append_cons_drop,q01 e,append_assoc];rfl
def Sh.jN(ok:S.Ok){w:Nat}(hw:w<S.ag.length)(hd:d.Perm S.aa)(hs:(S.card (S.ag.getD w "")).isSome=true):S.bC (S.ag.getD w "") d=(S.rows.take w++[d]++S.rows.drop (w+1)).filter λd => !decide (d=[]):=by
 have t:S.ag.getD w "" ∈ S.ag:=wu hw;rw[Bg (by rw[S.bQ];exact hw),<-Sh.jw ok.uO hw d];rw[show(S.hand (S.ag.getD w "") d).rows=(S.va (S.ag.getD w "") d).rows from rfl,<-Sh.bZ (ok.va t hd)];unfold Sh.bC Sh.ao;have e:(S.va (S.ag.getD w "") d).handed=S.handed:=by
  unfold Sh.handed;refine filter_congr λi _=>?_;show(if i=S.ag.getD w "" then some d else S.card i).isSome=_;by_cases c:i=S.ag.getD w ""
  .rw[q01 c,c,hs];rfl
  .rw[q00 c]
 rw[e];refine q43 λi _=>?_;show _=(if i=S.ag.getD w "" then some d else S.card i).getD [];by_cases c:i=S.ag.getD w ""
 .rw[q01 c,q01 c];rfl
 .rw[q00 c,q00 c]
def Cy(ps us:List Int)(n:Nat):List Int:=((List.range n).filter λk=>decide (ps.getD k 0=1)).map λk=>us.getD k 0
def Ki(ps us:List Int)(n:Nat):Cy ps us (n+1)=Cy ps us n++if ps.getD n 0=1 then [us.getD n 0] else []:=by
 unfold Cy;rw[range_succ,q16,q07];congr 1;by_cases h:ps.getD n 0=1
 .rw[q01 h,q17,q01 (by rw[q19 h])];rfl
 .rw[q00 h,q17,q00 (by rw[q20 h];decide)];rfl
def VE(ps us:List Int)(n:Nat):(Cy ps us n).length<=n:=by
 unfold Cy;rw[q06];exact q38 (q09 _ _) (by rw[length_range];exact le_refl _)
def vb(cs:List (List Int))(us:List Int):List Int:=Cy (M6.zB cs us) us us.length
def Sh.decide(S:Sh):List Str:=S.handed.filter λj => !Decidable.decide (vb (S.bg j) S.aa=vb S.ao S.aa)
def Sh.lV(S:Sh)(j:Str):(S.bg j).length<=S.handed.length:=by
 unfold Sh.bg;rw[q06];exact q09 _ _
def Sh.lW(t:S.ag.Nodup)(j:Str):S.handed.length<=(S.bg j).length+1:=by
 by_cases e:j∈S.handed
 .exact le_of_eq (Sh.eU t e).symm
 .unfold Sh.bg;rw[q06,List.filter_eq_self.mpr]
  .exact le_succ _
  .intro x hx;have:¬x=j:=λz=>e (z ▸ hx);rw[q20 this];rfl
def Cz(cs:List (List Int))(us:List Int)(k:Nat):Bool := !decide (cs.getD k []=[]) && !decide (vb ((cs.take k++cs.drop (k+1)).filter λd => !decide (d=[])) us=vb (cs.filter λd => !decide (d=[])) us)
def pX(ts:List Str)(cs:List (List Int))(us:List Int)(n:Nat):List Str:=((List.range n).filter (Cz cs us)).map λk=>ts.getD k ""
def OZ(ts:List Str)(cs:List (List Int))(us:List Int)(n:Nat):pX ts cs us (n+1)=pX ts cs us n++if Cz cs us n=true then [ts.getD n ""] else []:=by
 unfold pX;rw[range_succ,q16,q07];congr 1;by_cases h:Cz cs us n=true
 .rw[q01 h,q17,q01 h];rfl
 .rw[q00 h,q17,q00 h];rfl
def vc(ts:List Str)(cs:List (List Int))(us:List Int)(n:Nat):(pX ts cs us n).length<=n:=by
 unfold pX;rw[q06];exact q38 (q09 _ _) (by rw[length_range];exact le_refl _)
def Sh.kE(ok:S.Ok):S.decide=pX S.ag S.rows S.aa S.ag.length:=by
 unfold Sh.decide Sh.handed pX;rw[filter_filter]
 conv=>lhs;rw[<-map_getD S.ag ""]
 rw[filter_map];congr 1;refine filter_congr λk e=>?_;have e:=List.mem_range.mp e;show((!Decidable.decide (vb (S.bg (S.ag.getD k "")) S.aa=vb S.ao S.aa)) && (S.card (S.ag.getD k "")).isSome)=Cz S.rows S.aa k;unfold Cz;rw[Sh.gi ok e,Sh.bZ ok,S.nI e,Sh.gh ok,Bool.and_comm]
def aq.HL{H H':Hp}{p:Addr}{F:Addr->Prop}(h:aq K H p F S)(s:bS H H'):∃v:Addr->Prop,(∀b,v b->F b)/\aq K H' p v S:=by
 obtain⟨m,w,a,r,d,k,h⟩:=h;refine⟨λb=>F b/\∀t,H b≠some (.dj t),λb z=>z.1,m,w,a,r,d,k,⟨⟨s.1 _ _ h.ip (λ_ z=>by cases z),s.1 _ _ h.i1 (λ_ z=>by cases z),s.1 _ _ h.i2 (λ_ z=>by cases z),s.1 _ _ h.i3 (λ_ z=>by cases z),s.1 _ _ h.i4 (λ_ z=>by cases z),h.kl,h.cn,λj c o=>?_,⟨h.fp,λt z=>by rw[h.ip]at z;cases z⟩,⟨h.f1,λt z=>by rw[h.i1]at z;cases z⟩,⟨h.f2,λt z=>by rw[h.i2]at z;cases z⟩,⟨h.f3,λt z=>by rw[h.i3]at z;cases z⟩,⟨h.f4,λt z=>by rw[h.i4]at z;cases z⟩,h.A9,h.Ba,λb n=>?_⟩,h.ok⟩⟩
 .obtain⟨l,x1,x2,x3,x4⟩:=h.cs j c o;exact⟨l,x1,s.1 _ _ x2 (λ_ z=>by cases z),⟨x3,λt z=>by rw[x2]at z;cases z⟩,x4⟩
 .cases e:H b with
  | none=>exact q02 e (h.fh b n.1)
  | some u =>
    rw[s.1 b u e λt z=>n.2 t (by rw[e,z])];simp
def bS.seq{H H':Hp}(s:bS H H'){a:Addr}{xs:List V}(h:ah K H a xs):ah K H' a xs:=s.same.seq h.ph
end L2
namespace M6
open PySem L2 M3 M5
def front(cs:List (List Int))(us:List Int)(c:Int):Nat:=(us.filter λd=>yp (zp cs d) (zp cs c) us.length).length
def VF{cs:List (List Int)}{us:List Int}{i:Nat}(h:i<us.length):(zB cs us).getD i 0=1+(front cs us (us.getD i 0):Int):=by
 unfold zB front;rw[q18,q26,q18,q31 h];rfl
def dn(a:List Int):List Int:=a.map (·- 1)
def HM(a b:List Int)(n:Nat):Option (Nat×Str):=((List.range n).find? fun(i:Nat)=>decide (sg a ((i:Int)+1)≠sg b ((i:Int)+1))).map fun(i:Nat)=>(i+1,Be (sg a ((i:Int)+1)) (sg b ((i:Int)+1)))
def VG{p:Nat->Bool}:∀{n j i:Nat},(range' j n).find? p=some i->p i=true/\j<=i/\i<j+n/\∀k,j<=k->k<i->p k=false
 | 0,j,i,h=>by cases h
 | n+1,j,i,h=>by
   rw[List.range'_succ,find?_cons]at h;cases t:p j with
   | true =>
     rw[t]at h;have e:j=i:=q22 h;subst e;exact⟨t,le_refl _,by lia,λk v w=>by lia⟩
   | false =>
     rw[t]at h;obtain⟨v,w,s,a⟩:=VG h;refine⟨v,by lia,by lia,λk b r=>?_⟩;by_cases e:k=j
     .subst e;exact t
     .exact a k (by lia) r
def HN(a b:List Int)(n:Nat):wa a b n (HM a b n):=by
 unfold HM;rw[List.range_eq_range'];cases h:(range' 0 n).find? fun(i:Nat)=>decide (sg a ((i:Int)+1)≠sg b ((i:Int)+1))with
 | none =>
   rw[List.find?_eq_none]at h;show wa a b n none;intro k t r;have:=h (k-1) (by rw[List.mem_range'_1];lia);have e:((k-1:Nat):Int)+1=(k:Int):=by lia
   rw[e]at this;by_cases c:sg a k=sg b k
   .exact c
   .exact q02 (q19 c) this
 | some i =>
   obtain⟨t,r,d,s⟩:=VG h;have e:((i+1:Nat):Int)=(i:Int)+1:=by lia
   show wa a b n (some (i+1,Be (sg a ((i:Int)+1)) (sg b ((i:Int)+1))));refine⟨by show 1<=i+1;lia,by show i+1<=n;lia,λj l v=>?_,?_,?_⟩
   .have v:j<i+1:=v;have:=s (j-1) (by lia) (by lia);have w:((j-1:Nat):Int)+1=(j:Int):=by lia
    rw[w]at this;by_cases c:sg a j=sg b j
    .exact c
    .rw[q19 c]at this;cases this
   .show sg a ((i+1:Nat):Int)≠sg b ((i+1:Nat):Int);rw[e];exact of_decide_eq_true t
   .show _=Be (sg a ((i+1:Nat):Int)) (sg b ((i+1:Nat):Int));rw[e]
abbrev R4:=Int×Int×Int×Str
def nb(cs:List (List Int))(us:List Int)(p q:Int×Int):Option R4:=if p.1=q.1 then none else(HM (zp cs p.2) (zp cs q.2) us.length).map λr=>(p.2,q.2,(r.1:Int),r.2)
def yq(cs:List (List Int))(us:List Int):List R4:=((rows (zB cs us) us).zip (rows (zB cs us) us).tail).filterMap λe=>nb cs us e.1 e.2
def wk(cs:List (List Int))(us:List Int)(c:Int):Int:=1+((us.filter λd=>yp (zp cs d) (zp cs c) us.length).length:Int)
variable {cs:List (List Int)}{us:List Int}
def CA{p:Int×Int}(h:p∈rows (zB cs us) us):p.2∈us/\p.1=wk cs us p.2:=by
 unfold rows at h;obtain⟨i,_,n⟩:=List.mem_flatMap.mp h;have t:=(q24.mp n).1;have e:(zB cs us).zip us=us.map λc=>(wk cs us c,c):=by
  show(us.map λc=>wk cs us c).zip us=_;rw[List.zip_map_left];have:us.zip us=us.map λc=>(c,c):=by
   induction us with
   | nil=>rfl
   | cons a us w=>rw[List.zip_cons_cons,map_cons];congr 1;rw[List.zip_eq_zipWith,List.zipWith_self]
  rw[this,map_map];rfl
 rw[e]at t;obtain⟨c,v,rfl⟩:=q25.mp t;exact⟨v,rfl⟩
def zi8{c d:Int}(h:wk cs us c≠wk cs us d):HM (zp cs c) (zp cs d) us.length≠none:=λe=>by
 have v:=HN (zp cs c) (zp cs d) us.length;rw[e]at v;apply h;have w:wC (zp cs c) us.length=wC (zp cs d) us.length:=by
  unfold wC;refine q43 λi t=>?_;have t:=List.mem_range.mp t;have:=v (i+1) (by lia) (by lia);have n:((i+1:Nat):Int)=(i:Int)+1:=by lia
  rw[n]at this;exact this
 unfold wk yp;rw[w]
end M6
namespace L2
open PySem
def F4(K:Frag)(H:Hp)(l:Addr)(p:M6.R4):Prop:=cE K H l [.int p.1,.int p.2.1,.int p.2.2.1,.str p.2.2.2]
def F4.stays(K:Frag):nF (F4 K):=λ_ _ _ _ s h=>s.lI h
def F4.put{K:Frag}{H:Hp}{p:Addr}{ys:List V}{o:HO}{e:List Addr}{ps:List M6.R4}(h:All2 (F4 K H) e ps)(t:H p=some (.lst ys)):All2 (F4 K (upd H p o)) e ps:=h.imp λ_ _ r=>cE.put r t
end L2
namespace M6
open PySem L2 M3 M5
def CB(c:Int)(d d':List Int):Prop:=d'.Perm d/\d'.idxOf c<=d.idxOf c/\∀e∈d,e≠c->d.idxOf e<=d'.idxOf e
def CB.nil{c:Int}{d d':List Int}(h:CB c d d'):d=[]↔d'=[]:=by
 constructor
 .intro e;rw[e]at h;exact List.Perm.eq_nil h.1
 .intro e;rw[e]at h;exact List.Perm.eq_nil h.1.symm
def O0{d:List Int}{e:Int}(h:e∈d):d.getD (d.idxOf e) 0=e:=by
 rw[Fh (idxOf_lt_length_of_mem h)];exact getElem_idxOf _
end M6
namespace L2
open PySem M6 M5
def Sh.more(S:Sh)(n:Nat):Sh:={ S with taken:=S.taken+n }
end L2
namespace L2
open PySem
def pY{xs:List V}(h:xs≠[]):∃x,x∈xs/\fN xs (-1)=some x:=by
 have e:=List.dropLast_concat_getLast h;refine⟨xs.getLast h,List.getLast_mem h,?_⟩
 conv=>lhs;rw[<-e]
 exact Ui _ _
end L2
namespace M6
open PySem L2 M3 M5
def vd(f:Int->Int):∀e:List Int,(e.map f).zip e=e.map λc=>(f c,c)
 | []=>rfl
 | c::e=>by rw[map_cons,List.zip_cons_cons,vd f e];rfl
def dR(f:Int->Int)(us:List Int)(i:Nat):List (Int×Int):=(us.filter λc=>decide (f c=(i:Int)+1)).map λc=>(f c,c)
def ve(f:Int->Int)(us:List Int):rows (us.map f) us=(List.range us.length).flatMap (dR f us):=by
 unfold rows dR;congr 1;funext i;rw[vd,filter_map];rfl
variable {cs:List (List Int)}{us:List Int}{c:Int}
def gk(cs:List (List Int))(us:List Int)(c:Int):Int:=1+(front cs us c:Int)
def zmX(cs:List (List Int))(us:List Int):rows (zB cs us) us=(List.range us.length).flatMap (dR (gk cs us) us):=ve _ _
def bar:Str:=("|":Str)
def sl:Str:=("/":Str)
def zE:Str:=(" ":Str)
def HP(p:Int×Int):Str:=tN p.1++sl++tN p.2
def kF(ms:List Int)(n:Nat):List Str:=(rz ms n).map HP
def lX(p c:Int)(ms:List Int)(n:Nat):List Str:=[tN p,tN c]++[bar]++ms.map tN++[bar]++kF ms n
def Bh(p c:Int)(ms:List Int)(n:Nat):Str:=Txt.join zE (lX p c ms n)
def lY{n:Int}(h:n.natAbs<=990):(tN n).length<=992:=by
 have:=len_str_of_int n;unfold tN
 lia
def VH:∀{ms:List Int},(∀x∈ms,1<=x/\x<=24)->0<=ms.sum/\ms.sum<=24*ms.length
 | [],_=>by simp
 | x::ms,h=>by
   have t:=h x (q14 ..);have v:=VH (ms:=ms) λy e=>h y (q13 _ e);simp only[sum_cons,q12]
   lia
variable {ms:List Int}
def O1(h:∀x∈ms,1<=x/\x<=24)(n:Int):0<=sm ms n/\sm ms n<=24*ms.length:=by
 have v:=VH (ms:=got ms n) λx t=>h x (q24.mp t).1;have e:=A6 ms n;unfold cnt at e;unfold sm
 lia
def Kj:sl.length=1:=by decide +kernel
def nR:bar.length=1:=by decide +kernel
def VI(ms:List Int)(n:Nat):kF ms (n+1)=kF ms n++[tN (cnt ms ((n:Int)+1))++sl++tN (sm ms ((n:Int)+1))]:=by
 unfold kF;rw[Vz,q07];rfl
def O2(v:ms.length<=15)(h:∀x∈ms,1<=x/\x<=24)(n:Int):(tN (cnt ms n)).length<=992/\(tN (sm ms n)).length<=992:=by
 have e:=A6 ms n;have t:=O1 h n;exact⟨lY (by lia),lY (by lia)⟩
def VJ(ms:List Int)(n:Nat):(kF ms n).length=n:=by unfold kF;rw[q06,Kg]
def lZ(t:ms.length<=15)(h:∀x∈ms,1<=x/\x<=24)(n:Nat):∀w∈kF ms n,w.length<=2000:=λw e=>by
 induction n with
 | zero=>unfold kF rz at e;simp at e
 | succ n v =>
   rw[VI]at e;rcases List.mem_append.mp e with z | z
   .exact v z
   .rw[List.mem_singleton.mp z,zw,zw,Kj];have:=O2 t h ((n:Int)+1)
    lia
def VL(t:ms.length<=15)(h:∀x∈ms,1<=x/\x<=24){p c:Int}(r:p.natAbs<=990)(a:c.natAbs<=1000)(n:Nat):∀w∈lX p c ms n,w.length<=2000:=λw e=>by
 unfold lX at e;simp only[mem_append,q27,not_mem_nil,or_false,q25]at e;have s:=len_str_of_int p;have b:=len_str_of_int c;rcases e with((((rfl | rfl) | rfl) | ⟨x,v,rfl⟩) | rfl) | e
 .unfold tN;lia
 .unfold tN;lia
 .rw[nR];lia
 .have:=h x v;have:=lY (n:=x) (by lia)
  lia
 .rw[nR];lia
 .exact lZ t h n w e
def O3(y:Str):Str.empty++y=y:=by
 refine PySem.Str.ext' ?_;show(#[]:Array Nat)++y.cps=y.cps;simp
end M6
namespace L2
open PySem
inductive eW:V->Str->Prop
 | int {i:Int}:i.natAbs<=100000->eW (.int i) (tN i)
 | str {y:Str}:eW (.str y) y
 | big:eW (.int 1000000000000000000000000000000) (tN 1000000000000000000000000000000)
def Kk:∀{ns:List Int},(∀n∈ns,n.natAbs<=100000)->All2 eW (ns.map V.int) (ns.map tN)
 | [],_=>.nil
 | n::ns,h=>.cons (.int (h n (q14 ..))) (Kk λm e=>h m (q13 _ e))
def FA:∀(e:List Str),All2 eW (e.map V.str) e
 | []=>.nil
 | t::e=>.cons .str (FA e)
variable {fin:List V->Hp->Prop}
def O4{K:Frag}{a:Addr}{w:List Addr}{v:List (Int×Int)}{f:Int×Int->Str}{c:St}{b:TE}{H:Hp}(k:ah K H a (w.map V.ref))(s:All2 (iI K H) w v)(y:v.length<=1000)
 (d:∀(p:Int×Int)(e:Hp)(Q:VK),p∈v->ae H e->(∀r,ae e r->Q (.str (f p)) r)->b (some (.int p.1)::some (.int p.2)::c) e Q)
 (hd:∀(e:Hp),ae H e->fin ((v.map f).map V.str) e):fW K (ke K a) c xh b H fin:=by
 have u:=zq;have l:=s.length;refine Vc (xs:=w.map V.ref) (λi n t=>ae H t/\n=((v.take i).map f).map V.str) ⟨ae.refl _,rfl⟩ ?_ (by rw[q06];lia) ?_ ?_
 .rintro i n t hi ⟨s3,rfl⟩;refine⟨s3.seq k,?_⟩;rw[q06,q06,q11]
  lia
 .rintro i x n t hx ⟨s3,rfl⟩;obtain⟨p,j,rfl⟩:=wN hx;obtain⟨m,h,o⟩:=s.getL j;refine⟨p,.int m.1,.int m.2,rfl,s3.lI o,d m t _ (mem_of_getElem? h) s3 λg q=>⟨s3.trans q,?_⟩⟩;rw[take_succ,h,q07,q07];rfl
 .rintro n t ⟨s3,rfl⟩;rw[q06,l,q15];exact hd t s3
def VM{K:Frag}{a:Addr}{us:List Int}{f:Int->Str}{c:St}{r:TE}{H:Hp}(s:ah K H a (us.map V.int))(i:us.length<=1000)
 (h:∀(x:Int)(e:Hp)(Q:VK),x∈us->ae H e->(∀(n:Hp),ae e n->Q (.str (f x)) n)->r (some (.int x)::c) e Q)
 (hd:∀(e:Hp),ae H e->fin ((us.map f).map V.str) e):dD (ke K a) c xh r H fin:=by
 have d:=zq;refine zY (xs:=us.map V.int) (λk v t=>v=((us.take k).map f).map V.str/\ae H t) ⟨rfl,ae.refl _⟩ ?_ (by rw[q06];lia) ?_ ?_
 .rintro k v t w ⟨rfl,s5⟩;refine⟨s5.seq s,?_⟩;rw[q06,q06,q11]
  lia
 .rintro k x v t hx ⟨rfl,s5⟩;obtain⟨w,rfl⟩:=yU hx;refine h _ t _ (tG w) s5 λn b=>⟨?_,s5.trans b⟩;rw[yX w,q07,q07];rfl
 .rintro v t ⟨rfl,s5⟩;rw[q06,q15];exact hd t s5
def iK(G:Addr->Prop)(H:Hp)(e:Addr->Prop)(H':Hp):Prop:=∀b o,H b=some o->(∀t,o ≠ .dj t)->¬G b->H' b=some o/\¬e b
def iK.trans{G t v:Addr->Prop}{H w r:Hp}(a:iK G H t w)(b:iK t w v r):iK G H v r:=λc o e n m=>b c o (a c o e n m).1 n (a c o e n m).2
def KB:HO->Prop
 | .lst _=>True
 | .ins _ _ _=>True
 | .dK _=>True
 | _=>False
def aq.kinds{K:Frag}{H:Hp}{p:Addr}{F:Addr->Prop}{S:Sh}(h:aq K H p F S):aq K H p (λb=>F b/\∃o,H b=some o/\KB o) S:=by
 obtain⟨a,t,v,n,d,w,h⟩:=h;refine⟨a,t,v,n,d,w,⟨⟨h.ip,h.i1,h.i2,h.i3,h.i4,h.kl,h.cn,λj c s=>?_,⟨h.fp,_,h.ip,trivial⟩,⟨h.f1,_,h.i1,trivial⟩,⟨h.f2,_,h.i2,trivial⟩,⟨h.f3,_,h.i3,trivial⟩,⟨h.f4,_,h.i4,trivial⟩,h.A9,h.Ba,λb r=>?_⟩,h.ok⟩⟩
 .obtain⟨l,x1,x2,x3,x4⟩:=h.cs j c s;exact⟨l,x1,x2,⟨x3,_,x2,trivial⟩,x4⟩
 .obtain⟨_,o,e,_⟩:=r;rw[e];simp
variable {H H':Hp}{G:Addr->Prop}{n:Addr}
def bM.Ep{P:Addr}{q:Str}(h:bM P q H)(i:∀b,G b->∃o,H b=some o/\KB o)(d:∀b o,H b=some o->¬G b->H' b=some o):bM P q H':=by
 obtain⟨k,e,t,c⟩:=h;have no:∀{b:Addr}{o:HO},H b=some o->¬KB o->¬G b:=λ{b o} e n z=>by
  obtain⟨m,v,l⟩:=i b z;rw[e]at v;cases v;exact n l
 refine⟨k,d _ _ e (no e λz=>z),t,λj r s=>?_⟩;obtain⟨a,rfl,w⟩:=c j r s;exact⟨a,rfl,d _ _ w (no w λz=>z)⟩
end L2
namespace M19
open PySem
def wv(y x:PySem.Str)(z:PySem.Str)(r:List PySem.Str):Str.join y (x::z::r)=x++y++Str.join y (z::r):=rfl
def O5(x y:PySem.Str):(x++y).cps.toList=x.cps.toList++y.cps.toList:=by
 show(x.cps++y.cps).toList=_;simp
def VN{c:Nat}:∀{a b r q:List Nat},c∉a->c∉b->a++c::r=b++c::q->a=b/\r=q
 | [],[],r,q,_,_,h=>⟨rfl,by simpa using h⟩
 | [],y::b,r,q,_,hb,h=>by
   simp only[nil_append,cons_append,List.cons.injEq]at h;exact q02 (h.1 ▸ q14 ..) hb
 | x::a,[],r,q,ha,_,h=>by
   simp only[nil_append,cons_append,List.cons.injEq]at h;exact q02 (h.1 ▸ q14 ..) ha
 | x::a,y::b,r,q,ha,hb,h=>by
   simp only[cons_append,List.cons.injEq]at h;obtain⟨e,t⟩:=VN (λz=>ha (q13 _ z)) (λz=>hb (q13 _ z)) h.2;exact⟨by rw[h.1,e],t⟩
def HQ{c:Nat}{a b r:List Nat}(e:c∉a)(h:a=b++c::r):False:=e (by rw[h];simp)
def FC{x y:PySem.Str}(h:x.cps.toList=y.cps.toList):x=y:=by
 cases x;cases y;have:_=_:=Array.toList_inj.mp h
 simpa using this
def FD(c:Nat)(x z:PySem.Str)(r:List PySem.Str):(Str.join ⟨#[c]⟩ (x::z::r)).cps.toList=x.cps.toList++c::(Str.join ⟨#[c]⟩ (z::r)).cps.toList:=by
 rw[wv,O5,O5,append_assoc];rfl
def VO{c:Nat}:∀{ws vs:List PySem.Str},(∀w∈ws,c∉w.cps.toList)->(∀w∈vs,c∉w.cps.toList)->ws≠[]->vs≠[]->Str.join ⟨#[c]⟩ ws=Str.join ⟨#[c]⟩ vs->ws=vs
 | [],_,_,_,h,_,_=>q02 rfl h
 | _::_,[],_,_,_,h,_=>q02 rfl h
 | [x],[y],_,_,_,_,h=>by
   have h:x=y:=h;rw[h]
 | [x],y::z::r,hx,_,_,_,h=>by
   have:=congrArg (λs:PySem.Str=>s.cps.toList) h;rw[FD]at this;exact(HQ (hx x (q14 ..)) this).elim
 | x::z::r,[y],_,hy,_,_,h=>by
   have:=congrArg (λs:PySem.Str=>s.cps.toList) h;rw[FD]at this;exact(HQ (hy y (q14 ..)) this.symm).elim
 | x::z::r,y::z'::r',hx,hy,_,_,h=>by
   have:=congrArg (λs:PySem.Str=>s.cps.toList) h;rw[FD,FD]at this;obtain⟨t,v⟩:=VN (hx x (q14 ..)) (hy y (q14 ..)) this;have n:=VO (ws:=z::r) (vs:=z'::r') (λw e=>hx w (q13 _ e)) (λw e=>hy w (q13 _ e)) (by simp) (by simp) (FC v);rw[FC t,n]
def vf(x y:PySem.Str):Txt.split x y≠[]:=by
 unfold Txt.split;split
 .simp
 .split
  .simp
  .rw[StrLaws.partsBetween_eq];obtain⟨p,r,e⟩:=StrLaws.partsFrom_ne x y.length 0 (Builtin.Str.occurrences x y 0 x.length (x.length+1));rw[e];simp
def me{c:Nat}{ws:List PySem.Str}(h:∀w∈ws,c∉w.cps.toList)(e:ws≠[]):Txt.split (Str.join ⟨#[c]⟩ ws) ⟨#[c]⟩=ws :=
 VO (StrLaws.split_free _ c) h (vf _ _) e (StrLaws.join_split _ _)
end M19
namespace M20
open PySem L2
def Bi:List Str:=["seal","couples","places","parts","deciders"]
def yr:List Str:=["card","show","leave","step"]
def Bj:List Str:=["strike","step","row"]
def gO(n:Int):Str:=Str.ofString (toString n)
def zE:Str:=⟨#[32]⟩
def Kl:(" ":Str)=zE:=by decide +kernel
def zm2:∀m:Fin 1000,0<m.val->((toDigits 10 m.val).map Char.toNat).length<=3/\((toDigits 10 m.val).map Char.toNat).head? ≠ some 48/\((toDigits 10 m.val).map Char.toNat)≠[]/\(((toDigits 10 m.val).map Char.toNat).all λc=>decide (48<=c) && decide (c<=57))=true:=by decide +kernel
variable {n:Int}
def VP(e:0<=n):(gO n).cps.toList=(toDigits 10 n.toNat).map Char.toNat:=by
 obtain⟨m,rfl⟩:=Int.eq_ofNat_of_zero_le e;exact PySem.W.KIN.signs_num m
structure Num (z:Str):Prop where
 len:z.length<=3
 ex:∃c r,z.cps.toList=c::r/\c≠48
 all:∀c∈z.cps.toList,48<=c/\c<=57
def Bk(z:Str):z.length=z.cps.toList.length:=by simp[PySem.Str.length]
def O6(h:1<=n/\n<=999):Num (gO n):=by
 have e:=VP (n:=n) (by lia);obtain⟨v,t,w,a⟩:=zm2 ⟨n.toNat,by lia⟩ (by show 0<n.toNat;lia);dsimp only at v t w a;rw[<-e]at v t w a;refine⟨by rw[Bk];exact v,?_,λc s=>?_⟩
 .cases q:(gO n).cps.toList with
  | nil=>exact q02 q w
  | cons c r =>
    rw[q]at t;exact⟨c,r,rfl,λz=>t (by rw[z];rfl)⟩
 .have:=q39.mp a c s
  simpa using this
def O7(h:1<=n/\n<=999):PySem.intText? (gO n)=some n:=PySem.W.KIN.num_reads (by lia) (by lia)
structure Wd (z:Str):Prop where
 ne:z≠("":Str)
 no:(32:Nat)∉z.cps.toList
 len:z.length<=12
def Km:("":Str).cps.toList=[]:=by decide +kernel
def xE(h:1<=n/\n<=999):Wd (gO n):=by
 have q:=O6 h;obtain⟨c,r,e,_⟩:=q.ex;refine⟨λz=>?_,λz=>?_,by have:=q.len;lia⟩
 .rw[z,Km]at e;cases e
 .have:=q.all 32 z;lia
def cG(f:Str)(l:List Str):Bool:=mR (.str f) (l.map V.str)
def jO(f:Str):Int:=if cG f Bj=true then 1 else 0
structure Row (f j:Str) (ns:List Int):Prop where
 fT:cG f (Bi++yr++Bj)=true
 fw:Wd f
 VQ:cG f yr=true->Wd j
 HR:cG f yr=false->j=("":Str)
 jO:f=("card":Str)\/(ns.length:Int)=jO f
 cY:∀n∈ns,1<=n/\n<=999
 len:ns.length<=24
def wz(f j:Str)(ns:List Int):List Str:=f::((if cG f yr=true then [j] else [])++ns.map gO)
def row(f j:Str)(ns:List Int):Str:=Str.join zE (wz f j ns)
variable {f j:Str}{ns:List Int}
def vg(h:Row f j ns):∀w∈wz f j ns,Wd w:=λw t=>by
 unfold wz at t;rcases q27.mp t with e | t
 .rw[e];exact h.fw
 .rcases List.mem_append.mp t with t | t
  .by_cases c:cG f yr=true
   .rw[q01 c]at t;rw[List.mem_singleton.mp t];exact h.VQ c
   .rw[q00 c]at t;cases t
  .obtain⟨n,hn,rfl⟩:=q25.mp t;exact xE (h.cY n hn)
def pZ(h:Row f j ns):(wz f j ns).length<=26:=by
 unfold wz;have:=h.len;rw[q12,q08,q06];split <;> simp <;> lia
def vh:∀(e:List Str),(∀w∈e,w.length<=12)->(e.map (·.length)).sum<=12*e.length
 | [],_=>le_refl _
 | w::e,h=>by
   have:=vh e λx t=>h x (q13 _ t);have:=h w (q14 ..);simp only[map_cons,sum_cons,q12]
   lia
def mf{ws:List Str}(h:∀w∈ws,w.length<=12):(Str.join zE ws).length<=13*ws.length:=by
 have:=StrLaws.join_length_le zE ws;have t:=vh ws h;have e:zE.length=1:=rfl;rw[e]at this
 lia
def Bl(h:Row f j ns):(row f j ns).length<=338:=by
 have:=mf (ws:=wz f j ns) λw e=>(vg h w e).len;have:=pZ h;unfold row
 lia
def HS(ws:List Str):(ws.map V.str).all wM=true:=by
 rw[q39];intro y e;obtain⟨w,_,rfl⟩:=q25.mp e;rfl
def CC(c:Nat):Bool:=decide (48<=c) && decide (c<=57)
def le_0(c:Nat):(!decide ((⟨#[c]⟩:Str).cps.toList<("0":Str).cps.toList))=decide (48<=c):=by
 have e:("0":Str).cps.toList=[48]:=by decide +kernel
 rw[e];show(!decide ([c] < [48]))=_;by_cases h:48<=c
 .rw[q19 h,q20];rfl;simp[cons_lt_cons_iff];lia
 .rw[q20 h,q19];rfl;simp[cons_lt_cons_iff];lia
def O8(c:Nat):(!decide (("9":Str).cps.toList<(⟨#[c]⟩:Str).cps.toList))=decide (c<=57):=by
 have e:("9":Str).cps.toList=[57]:=by decide +kernel
 rw[e];show(!decide ([57] < [c]))=_;by_cases h:c<=57
 .rw[q19 h,q20];rfl;simp[cons_lt_cons_iff];lia
 .rw[q20 h,q19];rfl;simp[cons_lt_cons_iff];lia
def VR:List Str:=["seal","couples","places","parts","deciders","show","leave","strike","row","step","card","card","card","step"]
def CD(f:Str):Bool:=cG f (Bi++yr++Bj) && (f != ("":Str)) && (!decide ((32:Nat)∈f.cps.toList)) && decide (f.length<=12) && (cG f ["show","leave","step","card"]==cG f yr) && (cG f ["strike","row","step"]==cG f Bj)
def vi:VR.all CD=true:=by decide +kernel
structure O9 (f:Str):Prop where
 fT:cG f (Bi++yr++Bj)=true
 fw:Wd f
 jd:cG f ["show","leave","step","card"]=cG f yr
 cp:cG f ["strike","row","step"]=cG f Bj
def ym(h:f∈VR):O9 f:=by
 have:=q39.mp vi f h;unfold CD at this;simp only[q42,Bool.not_eq_true',bne_iff_ne,ne_eq,decide_eq_false_iff_not,decide_eq_true_eq,beq_iff_eq]at this;obtain⟨⟨⟨⟨⟨e,t⟩,v⟩,w⟩,a⟩,r⟩:=this;exact⟨e,⟨t,v,w⟩,a,r⟩
def pre(f j:Str):List Str:=f::(if cG f yr=true then [j] else [])
end M20
namespace M57
open PySem L2 M20
def Pa:∀a:Fin 10,0<a.val->(toDigits 10 a.val).map Char.toNat=[48+a.val]:=by decide +kernel
def toD2:∀a b:Fin 10,0<a.val->(toDigits 10 (a.val*10+b.val)).map Char.toNat=[48+a.val,48+b.val]:=by decide +kernel
def toD3:∀a b c:Fin 10,0<a.val->(toDigits 10 (a.val*100+b.val*10+c.val)).map Char.toNat=[48+a.val,48+b.val,48+c.val]:=by decide +kernel
variable {w:Str}
def vj(h:Num w):∃n:Int,(1<=n/\n<=999)/\w=gO n:=by
 obtain⟨c,r,e,l⟩:=h.ex;have v:=h.len;rw[Bk,e]at v;have t:=h.all;rw[e]at t;have j:=t c q14;have s:∀{m:Nat},1<=m->m<=999->(toDigits 10 m).map Char.toNat=c::r->∃n:Int,(1<=n/\n<=999)/\w=gO n:=λ{m} a b q=>by
  refine⟨(m:Int),⟨by lia,by lia⟩,M19.FC ?_⟩;rw[e,VP (by lia),show((m:Int)).toNat=m by lia,q]
 match r,v,t with
 | [],_,_ =>
   refine s (m:=c-48) (by lia) (by lia) ?_;have:=Pa ⟨c-48,by lia⟩ (by show 0<c-48;lia);dsimp only at this;rw[this,show 48+(c-48)=c by lia]
 | [d],_,t =>
   have i:=t d (by simp);refine s (m:=(c-48)*10+(d-48)) (by lia) (by lia) ?_;have:=toD2 ⟨c-48,by lia⟩ ⟨d-48,by lia⟩ (by show 0<c-48;lia);dsimp only at this;rw[this,show 48+(c-48)=c by lia,show 48+(d-48)=d by lia]
 | [d,f],_,t =>
   have i:=t d (by simp);have k:=t f (by simp);refine s (m:=(c-48)*100+(d-48)*10+(f-48)) (by lia) (by lia) ?_;have:=toD3 ⟨c-48,by lia⟩ ⟨d-48,by lia⟩ ⟨f-48,by lia⟩ (by show 0<c-48;lia);dsimp only at this;rw[this,show 48+(c-48)=c by lia,show 48+(d-48)=d by lia,show 48+(f-48)=f by lia]
 | _::_::_::_,v,_=>simp at v
def cw(w:Str):Bool:=decide (w.length<=3) && (!decide (w.cps.toList.head? = some 48) && w.cps.toList.all CC)
def cw_iff(hw:w≠("":Str)):cw w=true↔Num w:=by
 unfold cw;rw[q42,q42,decide_eq_true_eq,q39];constructor
 .rintro ⟨h1,h2,h3⟩;refine⟨h1,?_,λc t=>?_⟩
  .cases e:w.cps.toList with
   | nil=>exact q02 (M19.FC (by rw[e,Km])) hw
   | cons c r =>
     rw[e]at h2;exact⟨c,r,rfl,λz=>by rw[z]at h2;simp at h2⟩
  .have:=h3 c t;unfold CC at this
   simpa using this
 .intro h;refine⟨h.len,?_,λc t=>?_⟩
  .obtain⟨c,r,e,n⟩:=h.ex;rw[e]
   simpa using n
  .obtain⟨a,b⟩:=h.all c t;unfold CC;rw[q19 a,q19 b];rfl
def vk{n m:Int}(h:1<=n/\n<=999)(g:1<=m/\m<=999)(e:gO n=gO m):n=m:=by
 have a:=O7 h;rw[e,O7 g]at a;exact(q22 a).symm
def num(w:Str):Int:=match (List.range 999).find? fun(k:Nat)=>decide (w=gO (k+1))with
 | some k=>k+1
 | none=>0
def vm{n:Int}(h:1<=n/\n<=999):num (gO n)=n:=by
 unfold num;cases q:(List.range 999).find? fun(k:Nat)=>decide (gO n=gO (k+1))with
 | none =>
   have:=List.find?_eq_none.mp q (n.toNat-1) (List.mem_range.mpr (by lia));rw[decide_eq_true_eq,show(((n.toNat-1:Nat):Int)+1)=n by lia]at this;exact q02 rfl this
 | some k =>
   have e:=List.find?_some q;have t:=List.mem_range.mp (List.mem_of_find?_eq_some q);rw[decide_eq_true_eq]at e;exact(vk h (by lia) e).symm
def Kn:List Str:=Bi++yr++Bj
def xF(f:Str)(r:List Str):Option (List Int) :=
 if decide (f=("card":Str))=false/\(r.length:Int)≠jO f then none else if r.all cw=true then some (r.map num)else none
def vn(ws:List Str):Option (Str×Str×List Int) :=
 if cG ("":Str) ws=true then none else match ws with
  | []=>none
  | f::r=>if cG f Kn=false then none else if cG f yr=false then(xF f r).map λns=>(f,("":Str),ns)else match r with
    | []=>none
    | j::r=>(xF f r).map λns=>(f,j,ns)
def Bm(z:Str):Option (Str×Str×List Int):=vn (Txt.split z zE)
def nS(c:Nat):∀e:List Str,e.length<=(Str.join ⟨#[c]⟩ e).cps.toList.length+1
 | []=>zero_le _
 | [x]=>by show 1<=_;lia
 | x::z::r=>by
   have t:=nS c (z::r);rw[M19.FD,q08];simp only[q12]at t ⊢
   lia
def split_len(z:Str):(Txt.split z zE).length<=z.length+1:=by
 have h:=nS 32 (Txt.split z zE);rw[show Str.join ⟨#[32]⟩ (Txt.split z zE)=z from StrLaws.join_split _ _]at h;rw[Bk];exact h
def VS(c:Nat):∀(t:List Str),∀w∈t,w.cps.toList.length<=(Str.join ⟨#[c]⟩ t).cps.toList.length
 | [x],w,h=>by rw[List.mem_singleton.mp h];exact le_refl _
 | x::z::r,w,h=>by
   rw[M19.FD,q08];simp only[q12];rcases q27.mp h with e | h
   .rw[e];lia
   .have:=VS c (z::r) w h
    lia
def znq{z:Str}(h:w∈Txt.split z zE):w.length<=z.length:=by
 have:=VS 32 (Txt.split z zE) w h;rw[show Str.join ⟨#[32]⟩ (Txt.split z zE)=z from StrLaws.join_split _ _]at this;rw[Bk,Bk];exact this
def xG:List Str:=["couples","show","places","leave","step","parts","deciders","row"]
def RW:Str:=("refused: row":Str)
end M57
namespace M6
open M5
def zll(xs:List Sg):zM xs xs=false:=by
 induction xs with
 | nil=>rfl
 | cons x xs e=>rw[zM,q01 rfl];exact e
def VT(a:List Int)(n:Nat):yp a a n=false:=zll _
def VU{t:Type}{p:t->Bool}:∀{l:List t}{x:t},x∈l->p x=false->(l.filter p).length<l.length
 | y::l,x,h,hp=>by
   rcases q27.mp h with e | h
   .subst e;rw[filter_cons_of_neg (by rw[hp];exact q23),q12];exact Nat.lt_succ_of_le (q09 _ _)
   .have:=VU h hp;rw[q17];split
    .rw[q12,q12];lia
    .rw[q12];lia
def Pb(cs:List (List Int))(us:List Int):∀k,k<us.length->1<=(zB cs us).getD k 0/\(zB cs us).getD k 0<=us.length:=λk t=>by
 have e:(zB cs us).getD k 0=1+((us.filter λd=>yp (zp cs d) (zp cs us[k]) us.length).length:Int):=by
  unfold zB;rw[q18,q26,q31 t];rfl
 have:=VU (p:=λd=>yp (zp cs d) (zp cs us[k]) us.length) (q44 t) (VT _ _);rw[e]
 lia
end M6
namespace M6
open PySem L2 M3 M5
def p7{x y z:Sg}(h:pR x y=true)(k:pR y z=true):pR x z=true:=by
 cases x with
 | none=>cases h
 | some p =>
   cases y with
   | none=>cases k
   | some q =>
     cases z with
     | none=>rfl
     | some r =>
       simp only[pR,Bool.or_eq_true,q42,decide_eq_true_eq]at h k ⊢
       lia
def Et{x y:Sg}(h:pR x y=true):x≠y:=λe=>by
 subst e;cases x with
 | none=>cases h
 | some p=>simp only[pR,Bool.or_eq_true,q42,decide_eq_true_eq]at h;lia
def p8{x y:Sg}(h:x≠y):pR x y=true\/pR y x=true:=by
 cases x with
 | none=>cases y with
   | none=>exact q02 rfl h
   | some q=>exact .inr rfl
 | some p=>cases y with
   | none=>exact .inl rfl
   | some q =>
     obtain⟨e,t⟩:=p;obtain⟨v,n⟩:=q;have:¬(e=v/\t=n):=λz=>h (by rw[z.1,z.2]);simp only[pR,Bool.or_eq_true,q42,decide_eq_true_eq]
     lia
def VV:∀{e t v:List Sg},zM e t=true->zM t v=true->zM e v=true
 | [],_,_,h,_=>by cases h
 | _::_,[],_,h,_=>by cases h
 | _::_,_::_,[],_,k=>by cases k
 | x::e,y::t,z::v,h,k=>by
   rw[zM]at h k ⊢;by_cases c:x=y
   .rw[q01 c]at h;subst c;by_cases d:x=z
    .rw[q01 d]at k ⊢;exact VV h k
    .rw[q00 d]at k ⊢;exact k
   .rw[q00 c]at h;by_cases d:y=z
    .subst d;rw[q00 c];exact h
    .rw[q00 d]at k;have:=p7 h k;rw[q00 (Et this)];exact this
def VW:∀{e t:List Sg},e.length=t.length->e≠t->zM e t=true\/zM t e=true
 | [],[],_,h=>q02 rfl h
 | [],_::_,l,_=>by cases l
 | _::_,[],l,_=>by cases l
 | x::e,y::t,l,h=>by
   rw[zM,zM];by_cases c:x=y
   .rw[q01 c,q01 c.symm];exact VW (by simpa using l) λz=>h (by rw[c,z])
   .rw[q00 c,q00 λz=>c z.symm];exact p8 c
def VX{t:Type}{p q:t->Bool}:∀{l:List t},(∀x∈l,p x=true->q x=true)->(l.filter p).length<=(l.filter q).length
 | [],_=>le_refl _
 | x::l,h=>by
   have e:=VX (p:=p) (q:=q) λy n=>h y (q13 _ n);rw[q17,q17];cases v:p x with
   | false =>
     cases w:q x with
     | false=>exact e
     | true=>exact Nat.le_succ_of_le e
   | true =>
     rw[h x (q14 ..) v];exact Nat.succ_le_succ e
def VY{n:Type}{p q:n->Bool}:∀{l:List n}{x:n},x∈l->p x=false->q x=true->(∀x∈l,p x=true->q x=true)->(l.filter p).length<(l.filter q).length
 | y::l,x,t,hp,hq,h=>by
   have le:=VX (p:=p) (q:=q) λy v=>h y (q13 _ v);rw[q17,q17];rcases q27.mp t with e | t
   .subst e;rw[hp,hq];exact Nat.lt_succ_of_le le
   .have ih:=VY t hp hq λy v=>h y (q13 _ v);cases w:p y with
    | false =>
      cases a:q y with
      | false=>exact ih
      | true=>exact lt_succ_of_lt ih
    | true =>
      rw[h y (q14 ..) w];exact Nat.succ_lt_succ ih
variable {cs:List (List Int)}{us:List Int}{c d:Int}
def VZ(t:c∈us)(h:yp (zp cs c) (zp cs d) us.length=true):wk cs us c<wk cs us d:=by
 unfold wk;have:=VY (p:=λe=>yp (zp cs e) (zp cs c) us.length) (q:=λe=>yp (zp cs e) (zp cs d) us.length) t (VT _ _) h λx _ v=>VV v h
 lia
def vo(t:c∈us)(hd:d∈us)(h:wk cs us c=wk cs us d):wC (zp cs c) us.length=wC (zp cs d) us.length:=by
 by_cases e:wC (zp cs c) us.length=wC (zp cs d) us.length
 .exact e
 .rcases VW (by rw[Fy,Fy]) e with z | z
  .have:=VZ (d:=d) t z;lia
  .have:=VZ (d:=c) hd z;lia
def V0{a:List Int}{n:Nat}(t:∀x∈a,x<=n){k:Nat}(h:n<=k):sg a k=sg a n:=by
 have e:got a k=got a n:=by
  unfold got;exact filter_congr λx v=>by have:=t x v;rw[q19 (by lia),q19 this]
 unfold sg cnt sm;rw[e]
variable {r:Option (Nat×Str)}
def zm7{a b:List Int}{n m:Nat}(t:∀x∈a,x<=n)(v:∀x∈b,x<=n)(e:1<=n)(s:n<=m)(h:wa a b m r):wa a b n r:=by
 cases r with
 | none=>exact λk w i=>h k w (by lia)
 | some r =>
   refine⟨h.1,?_,h.2.2.1,h.2.2.2⟩;by_cases c:r.1<=n
   .exact c
   .refine q02 ?_ h.2.2.2.1;rw[V0 t (by lia),V0 v (by lia)];exact h.2.2.1 n e (by lia)
def Bn(w:∀d∈cs,d.Perm us)(i:1<=us.length)(a:us.length<=24)(n:c∈us)(hd:d∈us)(h:wa (zp cs c) (zp cs d) 24 r):
 nb cs us (wk cs us c,c) (wk cs us d,d)=r.map λr=>(c,d,(r.1:Int),r.2):=by
 have v:=zm7 (λx t=>(yE w n x t).2) (λx t=>(yE w hd x t).2) i a h;have e:=Ke v (HN (zp cs c) (zp cs d) us.length);unfold nb;dsimp only;by_cases z:wk cs us c=wk cs us d
 .rw[q01 z];have b:=vo n hd z;have:wa (zp cs c) (zp cs d) us.length none:=λk j m=>by
   have:=congrArg (λl=>l[k-1]?) b;unfold wC at this;simp only[q26]at this;rw[q36 (by lia)]at this;have s:((k-1:Nat):Int)+1=(k:Int):=by lia
   simpa [s] using this
  rw[Ke v this];rfl
 .rw[q00 z,e]
def V1{t:Type}{g g':Nat->List t}:∀l:List Nat,(∀i∈l,g' i=g i)->l.flatMap g'=l.flatMap g
 | [],_=>rfl
 | j::l,h=>by rw[flatMap_cons,flatMap_cons,h j (by simp),V1 l λi e=>h i (q13 _ e)]
def HU{t:Type}{x:t}{g g':Nat->List t}{i0:Nat}:∀l:List Nat,l.Nodup->i0∈l->g' i0=x::g i0->(∀i,i≠i0->g' i=g i)->(l.flatMap g').Perm (x::l.flatMap g)
 | [],_,h,_,_=>by cases h
 | j::l,nd,h,h1,h2=>by
   obtain⟨n,w⟩:=List.nodup_cons.mp nd;rw[flatMap_cons,flatMap_cons];by_cases e:j=i0
   .subst e;rw[h1,V1 l λi v=>h2 i (λz=>n (z ▸ v))];exact List.Perm.refl _
   .have hm:i0∈l:=by
     rcases q27.mp h with z | z
     .exact q02 z.symm e
     .exact z
    rw[h2 j e];exact((HU l w hm h1 h2).append_left (g j)).trans List.perm_middle
def V2(f:Int->Int)(n:Nat):∀us:List Int,(∀u∈us,1<=f u/\f u<=n)->((List.range n).flatMap (dR f us)).Perm (us.map λc=>(f c,c))
 | [],_=>by
   rw[show(List.range n).flatMap (dR f [])=[] from List.flatMap_eq_nil_iff.mpr λi _=>rfl];exact List.Perm.refl _
 | u::us,h=>by
   have s:=h u (by simp);have w:=V2 f n us λv t=>h v (q13 _ t);have e:=HU (x:=(f u,u)) (g:=dR f us) (g':=dR f (u::us)) (i0:=(f u-1).toNat) (List.range n) List.nodup_range (List.mem_range.mpr (by lia)) (by
    unfold dR;rw[q17,q01 (by rw[q19 (by lia)])];rfl) (λi a=>by
    unfold dR;rw[q17,q00 (by rw[q20 (by lia)];decide)])
   exact e.trans (w.cons _)
def FE{u:Int}(h:u∈us):1<=gk cs us u/\gk cs us u<=us.length:=by
 obtain⟨i,t,rfl⟩:=List.getElem_of_mem h;have:=Pb cs us i t;have e:(zB cs us).getD i 0=gk cs us us[i]:=by
  unfold zB;rw[q18,q26,q31 t];rfl
 rw[e]at this;exact this
def p9(cs:List (List Int))(us:List Int):(rows (zB cs us) us).Perm (us.map λc=>(gk cs us c,c)):=by
 rw[zmX];exact V2 _ _ _ λu e=>FE e
def HV(cs:List (List Int))(us:List Int):(rows (zB cs us) us).length=us.length:=by rw[(p9 cs us).length_eq,q06]
end M6
namespace M6
open PySem L2
def Eu(x y z:Str):x++y++z=x++(y++z):=M19.FC (by simp only[M19.O5,append_assoc])
def qa(z x y:Str)(r:List Str):Str.join z ((x++z++y)::r)=x++z++Str.join z (y::r):=by
 cases r with
 | nil=>rfl
 | cons w r=>rw[M19.wv,M19.wv,Eu,Eu,Eu,Eu,Eu]
def V3(z:Str):∀(r:List Str)(x:Str),Builtin.Str.glued z (x::r)=Str.join z (x::r)
 | [],x=>rfl
 | y::r,x=>by
   have e:=V3 z r (x++z++y);rw[M19.wv,<-qa,<-e];rfl
def V4(z:Str)(ts:List Str):Txt.join z ts=Str.join z ts:=by
 cases ts with
 | nil=>rfl
 | cons x r=>exact V3 z r x
def V5:zE=M20.zE:=M20.Kl
def mh:("card ":Str)=("card":Str) ++ M20.zE:=by decide +kernel
def vp:M20.cG ("card":Str) M20.yr=true:=by decide +kernel
def Bo{j:Str}(h:M2.rj j=true):M20.Wd j:=by
 obtain⟨⟨e,v⟩,t⟩:=(M2.wx j).mp h;refine⟨λz=>?_,λz=>?_,by lia⟩
 .rw[z,M20.Bk,M20.Km]at e;simp at e
 .have:=t _ z;revert this;decide
end M6
namespace M6
open PySem L2 M3 M5
def mi(c:Str):Str :=
 if c=("SheetSealed":Str)then ("refused: sealed":Str) else if c=("UnknownJudge":Str)then ("refused: judge":Str) else if c=("BadCard":Str)then ("refused: card":Str) else
 if c=("TooManyCards":Str)then ("refused: full":Str) else if c=("UnknownCouple":Str)then ("refused: couple":Str) else if c=("LastCouple":Str)then ("refused: last":Str) else
 if c=("NoCard":Str)then ("refused: none":Str) else if c=("TooFewCards":Str)then ("refused: few":Str) else ("refused: top":Str)
def colon:Str:=(":":Str)
def xH(p:Int×Int):Str:=tN p.1++colon++tN p.2
def Ko:colon.length=1:=by decide +kernel
def yt{n:Int}(h:1<=n/\n<=999):(tN n).length<=12:=(M20.xE h).len
def HW{p:Int×Int}(e:1<=p.1/\p.1<=999)(t:1<=p.2/\p.2<=999):(tN p.1).length<=12/\(tN p.2).length<=12/\(xH p).length<=25:=by
 have a:=yt e;have b:=yt t;refine⟨a,b,?_⟩;unfold xH;rw[zw,zw,Ko]
 lia
def V6:M20.cG ("strike":Str) M20.yr=false:=by decide +kernel
def mj(c:Int):("strike ":Str) ++ tN c=M20.row ("strike":Str) ("":Str) [c]:=by
 unfold M20.row M20.wz;rw[V6,q00 q23];show _=Str.join M20.zE (("strike":Str) :: [M20.gO c]);rw[M19.wv];have e:("strike ":Str)=("strike":Str) ++ M20.zE:=by decide +kernel
 rw[e];rfl
def V7{c:Int}(h:1<=c/\c<=999):M20.Row ("strike":Str) ("":Str) [c] :=
 ⟨by decide +kernel,(M20.ym (by decide)).fw,(λz=>by rw[V6]at z;cases z),λ_=>rfl,.inr (by show(1:Int)=M20.jO ("strike":Str);decide +kernel),(λn e=>by rw[List.mem_singleton.mp e];exact h),by show 1<=24;lia⟩
def vq:M20.row ("seal":Str) ("":Str) []=("seal":Str)/\M20.row ("places":Str) ("":Str) []=("places":Str):=by decide +kernel
def V8:M20.Row ("seal":Str) ("":Str) [] :=
 ⟨by decide +kernel,(M20.ym (by decide)).fw,λh=>q02 h (by decide +kernel),λ_=>rfl,.inr (by decide +kernel),(λn e=>by cases e),by decide⟩
def qb{j:Str}{us:List Int}:("card ":Str) ++ Txt.join zE (j::us.map tN)=M20.row ("card":Str) j us:=by
 unfold M20.row M20.wz;rw[vp,q01 rfl,V4,V5,mh];show _=Str.join M20.zE (("card":Str) :: j::us.map M20.gO);rw[M19.wv];rfl
end M6
namespace L2
open PySem
inductive Qn where
 | xI
 | gk
 | rC
 | rD
 | ml (j:Str)
 | nT (j:Str)
 | ik (j:Str) (c:Int)
 | row (c:Int)
def Qn.f:Qn->Str
 | .xI=>("couples":Str)
 | .gk=>("places":Str)
 | .rC=>("parts":Str)
 | .rD=>("deciders":Str)
 | .ml _=>("show":Str)
 | .nT _=>("leave":Str)
 | .ik _ _=>("step":Str)
 | .row _=>("row":Str)
def Qn.j:Qn->Str
 | .ml j=>j
 | .nT j=>j
 | .ik j _=>j
 | _=>("":Str)
def Qn.ns:Qn->List Int
 | .ik _ c=>[c]
 | .row c=>[c]
 | _=>[]
def Qn.text(q:Qn):Str:=M20.row q.f q.j q.ns
def Qn.Ok:Qn->Prop
 | .ml j=>M20.Wd j
 | .nT j=>M20.Wd j
 | .ik j c=>M20.Wd j/\1<=c/\c<=999
 | .row c=>1<=c/\c<=999
 | _=>True
def Qn.Row{q:Qn}(h:q.Ok):M20.Row q.f q.j q.ns:=by
 cases q with
 | xI=>exact⟨(M20.ym (f:=("couples":Str)) (by decide)).fT,(M20.ym (f:=("couples":Str)) (by decide)).fw,λz=>q02 (show M20.cG ("couples":Str) M20.yr=true from z) (by decide +kernel),λ_=>rfl,.inr (show(0:Int)=M20.jO ("couples":Str)by decide +kernel),(λn e=>by cases e),by show 0<=24;decide⟩
 | gk=>exact⟨(M20.ym (f:=("places":Str)) (by decide)).fT,(M20.ym (f:=("places":Str)) (by decide)).fw,λz=>q02 (show M20.cG ("places":Str) M20.yr=true from z) (by decide +kernel),λ_=>rfl,.inr (show(0:Int)=M20.jO ("places":Str)by decide +kernel),(λn e=>by cases e),by show 0<=24;decide⟩
 | rC=>exact⟨(M20.ym (f:=("parts":Str)) (by decide)).fT,(M20.ym (f:=("parts":Str)) (by decide)).fw,λz=>q02 (show M20.cG ("parts":Str) M20.yr=true from z) (by decide +kernel),λ_=>rfl,.inr (show(0:Int)=M20.jO ("parts":Str)by decide +kernel),(λn e=>by cases e),by show 0<=24;decide⟩
 | rD=>exact⟨(M20.ym (f:=("deciders":Str)) (by decide)).fT,(M20.ym (f:=("deciders":Str)) (by decide)).fw,λz=>q02 (show M20.cG ("deciders":Str) M20.yr=true from z) (by decide +kernel),λ_=>rfl,.inr (show(0:Int)=M20.jO ("deciders":Str)by decide +kernel),(λn e=>by cases e),by show 0<=24;decide⟩
 | ml j=>exact⟨(M20.ym (f:=("show":Str)) (by decide)).fT,(M20.ym (f:=("show":Str)) (by decide)).fw,λ_=>h,λz=>q02 (show M20.cG ("show":Str) M20.yr=false from z) (by decide +kernel),.inr (show(0:Int)=M20.jO ("show":Str)by decide +kernel),(λn e=>by cases e),by show 0<=24;decide⟩
 | nT j=>exact⟨(M20.ym (f:=("leave":Str)) (by decide)).fT,(M20.ym (f:=("leave":Str)) (by decide)).fw,λ_=>h,λz=>q02 (show M20.cG ("leave":Str) M20.yr=false from z) (by decide +kernel),.inr (show(0:Int)=M20.jO ("leave":Str)by decide +kernel),(λn e=>by cases e),by show 0<=24;decide⟩
 | ik j c=>exact⟨(M20.ym (f:=("step":Str)) (by decide)).fT,(M20.ym (f:=("step":Str)) (by decide)).fw,λ_=>h.1,λz=>q02 (show M20.cG ("step":Str) M20.yr=false from z) (by decide +kernel),.inr (show(1:Int)=M20.jO ("step":Str)by decide +kernel),(λn e=>by rw[List.mem_singleton.mp e];exact h.2),by show 1<=24;decide⟩
 | row c=>exact⟨(M20.ym (f:=("row":Str)) (by decide)).fT,(M20.ym (f:=("row":Str)) (by decide)).fw,λz=>q02 (show M20.cG ("row":Str) M20.yr=true from z) (by decide +kernel),λ_=>rfl,.inr (show(1:Int)=M20.jO ("row":Str)by decide +kernel),(λn e=>by rw[List.mem_singleton.mp e];exact h),by show 1<=24;decide⟩
end L2
namespace M6
open PySem L2 M3 M5
def gt:Str:=(">":Str)
def CF(r:R4):Str:=tN r.1++gt++tN r.2.1++colon++tN r.2.2.1++colon++r.2.2.2
def vt(cs:List (List Int))(us:List Int):Str:=Txt.join zE ((rows (zB cs us) us).map xH)
def CG(ws:List Str):Str:=if ws=[] then ("none":Str) else Txt.join zE ws
def nU(m:Nat):∀(e:List Str),(∀w∈e,w.length<=m)->(e.map (·.length)).sum<=m*e.length
 | [],_=>zero_le _
 | w::e,h=>by
   have:=nU m e λx t=>h x (q13 _ t);have:=h w (q14 ..);simp only[map_cons,sum_cons,q12,Nat.mul_add,Nat.mul_one]
   lia
def V9(m:Nat){ws:List Str}(h:∀w∈ws,w.length<=m):(Txt.join zE ws).length<=m*ws.length+ws.length:=by
 rw[V4,V5];have:=StrLaws.join_length_le M20.zE ws;have t:=nU m ws h;have e:M20.zE.length=1:=rfl;rw[e]at this
 lia
variable {cs:List (List Int)}{us:List Int}
def Wa(h:∀u∈us,1<=u/\u<=999)(a:us.length<=24):(vt cs us).length<=1000:=by
 unfold vt;have:=V9 25 (ws:=(rows (zB cs us) us).map xH) λw n=>by
  obtain⟨p,v,rfl⟩:=q25.mp n;obtain⟨e,t⟩:=CA v;have r:=FE (cs:=cs) e;have t:p.1=gk cs us p.2:=t;exact(HW (by lia) (h _ e)).2.2
 rw[q06,HV]at this
 lia
def vv(x y:Sg):(Be x y).length<=5:=by unfold Be;split <;> (try split) <;> decide +kernel
def Wb{r:R4}(h:r∈yq cs us):r.1∈us/\r.2.1∈us/\(1<=r.2.2.1/\r.2.2.1<=us.length)/\r.2.2.2.length<=5:=by
 unfold yq at h;obtain⟨c,n,e⟩:=List.mem_filterMap.mp h;unfold nb at e;split at e
 .cases e
 obtain⟨p,q⟩:=c;have s:=(of_mem_zip n).1;have b:=List.mem_of_mem_tail (of_mem_zip n).2;cases t:HM (zp cs p.2) (zp cs q.2) us.length with
 | none=>rw[t]at e;cases e
 | some w =>
   rw[t]at e;cases e;have v:=HN (zp cs p.2) (zp cs q.2) us.length;rw[t]at v;obtain⟨d,i,_,_,a⟩:=v;refine⟨(CA s).1,(CA b).1,⟨by show(1:Int)<=(w.1:Int);lia,by show(w.1:Int)<=_;lia⟩,?_⟩;show w.2.length<=5;rw[a];exact vv _ _
def Wc(cs:List (List Int))(us:List Int):(yq cs us).length<=us.length:=by
 unfold yq;refine q38 (List.length_filterMap_le _ _) ?_;rw[length_zip];have:=HV (cs:=cs) (us:=us)
 lia
def We{r:R4}(e:1<=r.1/\r.1<=999)(t:1<=r.2.1/\r.2.1<=999)(v:1<=r.2.2.1/\r.2.2.1<=999)(n:r.2.2.2.length<=5):(CF r).length<=60:=by
 have a:=yt e;have b:=yt t;have c:=yt v;have g:gt.length=1:=by decide +kernel
 unfold CF;simp only[zw,Ko,g]
 lia
end M6
namespace L2
open PySem M3 M5 M6
def Sh.cz(S:Sh):Qn->Option Str
 | .xI=>none
 | .gk=>if S.handed.length=0 then some ("TooFewCards":Str)else none
 | .rC=>if S.handed.length=0 then some ("TooFewCards":Str)else none
 | .rD=>if S.handed.length<2 then some ("TooFewCards":Str)else none
 | .ml j=>if j∈S.ag then(if S.card j=none then some ("NoCard":Str)else none)else some ("UnknownJudge":Str)
 | .nT j=>if j∈S.ag then(if S.card j=none then some ("NoCard":Str)else if S.handed.length<2 then some ("TooFewCards":Str)else none)else some ("UnknownJudge":Str)
 | .ik j c=>if j∈S.ag then(if S.card j=none then some ("NoCard":Str)else if c∈S.aa then(if((S.card j).getD []).getD 0 0=c then some ("AtTop":Str)else none)else some ("UnknownCouple":Str))else some ("UnknownJudge":Str)
 | .row c=>if S.handed.length=0 then some ("TooFewCards":Str)else if c∈S.aa then none else some ("UnknownCouple":Str)
def HX(d:List Int)(c:Int)(t:Str):Str:=tN (d.getD (d.idxOf c-1) 0)++(" | ":Str) ++ t
def Sh.kG(S:Sh):Qn->Str
 | .xI=>Txt.join M6.zE (S.aa.map tN)
 | .gk=>vt S.ao S.aa
 | .rC=>CG ((yq S.ao S.aa).map CF)
 | .rD=>CG S.decide
 | .ml j=>Txt.join M6.zE (((S.card j).getD []).map tN)
 | .nT j=>vt (S.bg j) S.aa
 | .ik j c=>HX ((S.card j).getD []) c (vt (S.bC j (g7 ((S.card j).getD []) (((S.card j).getD []).idxOf c))) S.aa)
 | .row c=>Bh (M6.gk S.ao S.aa c) c (zp S.ao c) S.aa.length
def Sh.dv(S:Sh)(q:Qn):Str:=match S.cz q with
 | some z=>M6.mi z
 | none=>S.kG q
variable {z:Str}
def Sh.mm{S:Sh}{q:Qn}(h:S.cz q=some z):z=("UnknownJudge":Str)\/z=("NoCard":Str)\/z=("TooFewCards":Str)\/z=("UnknownCouple":Str)\/z=("AtTop":Str):=by
 cases q <;> simp only[Sh.cz]at h <;> (repeat' split at h) <;> first | (cases h;done) | (injection h with h;subst h;simp)
inductive Rw where
 | card (j:Str) (ns:List Int)
 | bW (n:Int)
 | iY
 | ask (q:Qn)
 | two (c:Int)
def Rw.f:Rw->Str
 | .card _ _=>("card":Str)
 | .bW _=>("strike":Str)
 | .iY=>("seal":Str)
 | .ask q=>q.f
 | .two _=>("row":Str)
def Rw.j:Rw->Str
 | .card j _=>j
 | .ask q=>q.j
 | _=>("":Str)
def Rw.ns:Rw->List Int
 | .card _ ns=>ns
 | .bW n=>[n]
 | .ask q=>q.ns
 | .two c=>[c,1]
 | _=>[]
def Rw.text(r:Rw):Str:=M20.row r.f r.j r.ns
def Nn(n:Int):Prop:=(1<=n/\n<=999)\/n=0\/n = -1\/n=1000\/n=1000000000000000000000000000000
def qd(n:Int):Bool:=decide (1<=n) && decide (n<=999)
def Rw.bad:Rw->Bool
 | .card _ ns => !ns.all qd
 | .two _=>true
 | _=>false
def Rw.Ok:Rw->Prop
 | .card j ns=>M20.Wd j/\(∀n∈ns,Nn n)/\ns.length<=25
 | .bW n=>1<=n/\n<=999
 | .iY=>True
 | .ask q=>q.Ok
 | .two c=>1<=c/\c<=999
structure W0 (z:Str):Prop where
 ne:z≠("":Str)
 no:(32:Nat)∉z.cps.toList
 len:z.length<=31
def W0.of(h:M20.Wd z):W0 z:=⟨h.ne,h.no,by have:=h.len;lia⟩
def W0.num{n:Int}(h:Nn n):W0 (M20.gO n):=by
 rcases h with h | rfl | rfl | rfl | rfl
 .exact W0.of (M20.xE h)
 all_goals exact⟨by decide +kernel,by decide +kernel,by decide +kernel⟩
def cw_num{n:Int}(h:Nn n):M57.cw (M20.gO n)=qd n:=by
 rcases h with h | rfl | rfl | rfl | rfl
 .rw[(M57.cw_iff (M20.xE h).ne).mpr (M20.O6 h)];unfold qd;rw[q19 h.1,q19 h.2];rfl
 all_goals decide +kernel
variable {f:Str}{ns:List Int}
def Pc{j:Str}(a:W0 f)(r:M20.cG f M20.yr=true->W0 j)(hd:M20.cG f M20.yr=false->j=("":Str))(s:∀n∈ns,W0 (M20.gO n))(e:M20.cG f M57.Kn=true):
 M57.Bm (M20.row f j ns)=(M57.xF f (ns.map M20.gO)).map λc=>(f,j,c):=by
 have t:∀w∈M20.wz f j ns,W0 w:=λw h=>by
  unfold M20.wz at h;rcases q27.mp h with rfl | h
  .exact a
  .rcases List.mem_append.mp h with h | h
   .split at h
    .rename_i z;rw[mem_singleton]at h;subst h;exact r z
    .cases h
   .obtain⟨n,m,rfl⟩:=q25.mp h;exact s n m
 unfold M57.Bm M20.row;rw[show Txt.split (Str.join M20.zE (M20.wz f j ns)) M20.zE=M20.wz f j ns from M19.me (λw h=>(t w h).no) (by unfold M20.wz;simp)];have v:M20.cG ("":Str) (M20.wz f j ns)=false:=by
  unfold M20.cG mR;rw[List.any_eq_false];intro y b;obtain⟨w,h,rfl⟩:=q25.mp b;have:=(t w h).ne;show ¬(w==("":Str))=true
  simpa using this
 unfold M57.vn;rw[v,q00 q23];unfold M20.wz;cases q:M20.cG f M20.yr with
 | true =>
   rw[q01 rfl];dsimp only[List.singleton_append];rw[e,q00 (by decide),q,q00 (by decide)]
 | false =>
   rw[q00 q23,hd q];dsimp only[nil_append];rw[e,q00 (by decide),q,q01 rfl]
def nV(h:∀n∈ns,1<=n/\n<=999)(hd:f=("card":Str)\/(ns.length:Int)=M20.jO f):M57.xF f (ns.map M20.gO)=some ns:=by
 unfold M57.xF;rw[q00 (λz=>by
  rcases hd with e | e
  .rw[q19 e]at z;exact q02 z.1 (by decide)
  .rw[q06]at z;exact z.2 e)]
 rw[q01 (by
  rw[q39];intro w t;obtain⟨n,m,rfl⟩:=q25.mp t;exact(M57.cw_iff (M20.xE (h n m)).ne).mpr (M20.O6 (h n m)))]
 rw[map_map];congr 1
 conv=>rhs;rw[<-map_id ns]
 exact q43 λn m=>M57.vm (h n m)
def Pd{j:Str}(h:M20.Row f j ns):M57.Bm (M20.row f j ns)=some (f,j,ns):=by
 rw[Pc (W0.of h.fw) (λz=>W0.of (h.VQ z)) h.HR (λn m=>W0.of (M20.xE (h.cY n m))) h.fT,nV h.cY h.jO];rfl
def Bp(h:ns.all qd=true):∀n∈ns,1<=n/\n<=999:=λn m=>by
 have:=q39.mp h n m;unfold qd at this;rw[q42]at this;exact⟨of_decide_eq_true this.1,of_decide_eq_true this.2⟩
def nW:M20.Wd ("card":Str):=(M20.ym (f:=("card":Str)) (by decide)).fw
def Bq{r:Rw}(h:r.Ok):M57.Bm r.text=if r.bad=true then none else some (r.f,r.j,r.ns):=by
 cases r with
 | card j ns =>
   unfold Rw.text;show M57.Bm (M20.row ("card":Str) j ns)=if(!ns.all qd)=true then none else some (("card":Str),j,ns)
   rw[Pc (W0.of nW) (λ_=>W0.of h.1) (λz=>q02 z (by decide +kernel)) (λn m=>W0.num (h.2.1 n m)) (by decide +kernel)];cases q:ns.all qd with
   | true=>rw[nV (Bp q) (.inl rfl)];rfl
   | false =>
     unfold M57.xF;rw[q00 (λz=>q02 z.1 (by decide)),q00 (λz=>by
      rw[all_map]at z;have:ns.all qd=true:=by
       rw[q39]at z ⊢;intro n m;rw[<-cw_num (h.2.1 n m)];exact z n m
      rw[q]at this;cases this)]
     rfl
 | bW n=>exact Pd (M6.V7 h)
 | iY=>exact Pd M6.V8
 | ask q=>exact Pd (Qn.Row h)
 | two c =>
   unfold Rw.text;show M57.Bm (M20.row ("row":Str) ("":Str) [c,1])=none;rw[Pc (W0.of (M20.ym (f:=("row":Str)) (by decide)).fw) (λz=>q02 z (by decide +kernel)) (λ_=>rfl) (λn m=>by
    rcases q27.mp m with rfl | m
    .exact W0.of (M20.xE h)
    .rw[mem_singleton]at m;subst m;exact W0.of (M20.xE (by decide))) (by decide +kernel)]
   unfold M57.xF;rw[q01 ⟨by decide,λz=>q02 (show(2:Int)=M20.jO ("row":Str)from z) (by decide +kernel)⟩];rfl
def CH:∀(e:List Str),(∀w∈e,w.length<=31)->(e.map (·.length)).sum<=31*e.length
 | [],_=>le_refl _
 | w::e,h=>by
   have:=CH e λx t=>h x (q13 _ t);have:=h w (q14 ..);simp only[map_cons,sum_cons,q12]
   lia
def Rw.len{r:Rw}(h:r.Ok):r.text.length<=864:=by
 have t:∀{f j:Str}{ns:List Int},W0 f->(M20.cG f M20.yr=true->W0 j)->(∀n∈ns,W0 (M20.gO n))->ns.length<=25->(M20.row f j ns).length<=864:=λ{f j ns} v a s d=>by
  have b:∀w∈M20.wz f j ns,w.length<=31:=λw h=>by
   unfold M20.wz at h;rcases q27.mp h with rfl | h
   .exact v.len
   .rcases List.mem_append.mp h with h | h
    .split at h
     .rename_i z;rw[mem_singleton]at h;subst h;exact(a z).len
     .cases h
    .obtain⟨n,m,rfl⟩:=q25.mp h;exact(s n m).len
  have k:(M20.wz f j ns).length<=27:=by
   unfold M20.wz;rw[q12,q08,q06];split <;> simp <;> lia
  have:=StrLaws.join_length_le M20.zE (M20.wz f j ns);have i:=CH _ b;have e:M20.zE.length=1:=rfl;rw[e]at this;unfold M20.row
  lia
 have row:∀{f j:Str}{ns:List Int},M20.Row f j ns->(M20.row f j ns).length<=864:=λh=>by
  have:=M20.Bl h
  lia
 cases r with
 | card j ns=>exact t (W0.of nW) (λ_=>W0.of h.1) (λn m=>W0.num (h.2.1 n m)) h.2.2
 | bW n=>exact row (M6.V7 h)
 | iY=>exact row M6.V8
 | ask q=>exact row (Qn.Row h)
 | two c=>exact t (W0.of (M20.ym (f:=("row":Str)) (by decide)).fw) (λz=>q02 (show M20.cG ("row":Str) M20.yr=true from z) (by decide +kernel)) (λn m=>by
    rcases q27.mp m with rfl | m
    .exact W0.of (M20.xE h)
    .rw[mem_singleton]at m;subst m;exact W0.of (M20.xE (by decide))) (show(2:Nat)<=25 by decide)
def Sh.jj(S:Sh):Rw->Option Str
 | .card j ns=>S.refuse j ns
 | .bW n=>S.bo n
 | .iY=>if S.bG=true then some ("SheetSealed":Str)else none
 | .ask q=>S.cz q
 | .two _=>none
def Sh.Wf(S:Sh):Rw->Sh
 | .card j ns=>S.hand j ns
 | .bW n=>S.bN n
 | .iY=>S.close
 | _=>S
def Sh.HY(S:Sh):Rw->Str
 | .card _ _=>("taken":Str)
 | .bW _=>("struck":Str)
 | .iY=>("sealed":Str)
 | .ask q=>S.kG q
 | .two _=>("":Str)
def Sh.cJ(S:Sh)(r:Rw):Str:=if r.bad=true then M57.RW else match S.jj r with
 | some z=>M6.mi z
 | none=>S.HY r
def Sh.cH(S:Sh)(r:Rw):Sh:=if r.bad=true then S else match S.jj r with
 | some _=>S
 | none=>S.Wf r
def Pe:List Str:=["SheetSealed","UnknownJudge","BadCard","TooManyCards","UnknownCouple","LastCouple","NoCard","TooFewCards","AtTop"]
def Sh.mn{S:Sh}{r:Rw}(h:S.jj r=some z):z∈Pe:=by
 unfold Pe;cases r with
 | card j ns=>rcases Sh.jM (show S.refuse j ns=some z from h)with rfl | rfl | rfl | rfl <;> decide
 | bW n=>rcases Sh.ji (show S.bo n=some z from h)with rfl | rfl | rfl <;> decide
 | iY =>
   have h:(if S.bG=true then some ("SheetSealed":Str)else none)=some z:=h;split at h
   .injection h with h
    subst h;decide
   .cases h
 | ask q=>rcases Sh.mm (show S.cz q=some z from h)with rfl | rfl | rfl | rfl | rfl <;> decide
 | two c=>cases h
def Sh.cA(S:Sh):List Rw->List Str
 | []=>[]
 | r::rs=>S.cJ r::(S.cH r).cA rs
def Sh.cC(S:Sh)(e:List Rw):Sh:=e.foldl Sh.cH S
def Sh.eX(r:Rw):∀(e:List Rw)(S:Sh),S.cA (e++[r])=S.cA e++[(S.cC e).cJ r]
 | [],S=>rfl
 | q::e,S=>by
   show S.cJ q::(S.cH q).cA (e++[r])=S.cJ q::((S.cH q).cA e++[_]);rw[Sh.eX r e];rfl
def Sh.gP(r:Rw)(e:List Rw)(S:Sh):S.cC (e++[r])=(S.cC e).cH r:=by
 unfold Sh.cC;rw[List.foldl_append];rfl
def Sh.dX:∀(e:List Rw)(S:Sh),(S.cA e).length=e.length
 | [],_=>rfl
 | r::e,S=>congrArg (·+ 1) (Sh.dX e (S.cH r))
def Sh.gG(S:Sh)(r:Rw):(S.cH r).ag=S.ag:=by
 unfold Sh.cH;split
 .rfl
 .split
  .rfl
  .cases r <;> rfl
def Sh.b8:∀(e:List Rw)(S:Sh),(S.cC e).ag=S.ag
 | [],_=>rfl
 | r::e,S=>(Sh.b8 e (S.cH r)).trans (Sh.gG S r)
def Ew{c:Nat}(h:kU c=true):PySem.Unicode.upperOf c=[c-32]:=by
 have t:97<=c/\c<=122:=by
  unfold kU at h
  simpa using h
 have e:=uG ⟨c-97,by lia⟩;rw[show 97+(⟨c-97,by lia⟩:Fin 26).val=c from(by show 97+(c-97)=c;lia),show 65+(⟨c-97,by lia⟩:Fin 26).val=c-32 from(by show 65+(c-97)=c-32;lia)]at e;exact e
def HU:∀l:List Nat,(l.map λc=>[c-32]).flatten=l.map (·- 32)
 | []=>rfl
 | c::l=>congrArg (List.cons (c-32)) (HU l)
def Ex(t:∀c∈z.cps.toList,kU c=true):(Txt.upper z).cps.toList=z.cps.toList.map (·- 32):=by
 show(PySem.placed z λ_ c=>PySem.Unicode.upperOf c).toList=_;unfold PySem.placed;rw[Array.toList_flatten,Array.toList_mapIdx,<-HU];congr 1;refine ext_getElem (by simp) λi e v=>?_;have e:i<z.cps.toList.length:=by simpa using e
 simp only[List.getElem_mapIdx,getElem_map,Function.comp];exact Ew (t _ (q44 e))
def HZ(n:M2.rj z=true):M20.Wd (Txt.upper z):=by
 obtain⟨⟨w,a⟩,v⟩:=(M2.wx z).mp n;have e:=Ex v;have t:(Txt.upper z).cps.toList.length=z.cps.toList.length:=by rw[e,q06]
 rw[<-M20.Bk,<-M20.Bk]at t;refine⟨λh=>?_,λh=>?_,by lia⟩
 .rw[h,show("":Str).length=0 by decide +kernel]at t;lia
 .rw[e]at h;obtain⟨c,m,k⟩:=q25.mp h;have:=v c m;unfold kU at this;simp only[q42,decide_eq_true_eq]at this
  lia
def Ey{A B:TT}{a b:Prop} [Decidable a] [Decidable b]{σ:St}{H:Hp}(t:∀R:Bool->Hp->Prop,R (decide a) H->A σ H R)(v:∀R:Bool->Hp->Prop,R (decide b) H->B σ H R)(R:Bool->Hp->Prop)(h:R (decide (a\/b)) H):T1 A B σ H R:=by
 refine t _ ?_;by_cases e:a
 .rw[q19 e,q01 rfl];rw[q19 (.inl e)]at h;exact h
 .rw[q20 e,q00 q23];refine v _ ?_;rw[show decide b=decide (a\/b)from decide_eq_decide.mpr ⟨λz=>.inr z,λz=>z.resolve_left e⟩];exact h
def znw{K:Frag}{a:Addr}{ts:List Int}{p:Int->Bool}{c:St}{j:TT}{k:TE}{H:Hp}{b:List V->Hp->Prop}(q:ah K H a (ts.map V.int))(y:ts.length<=1000)
 (m:∀(t:Int)(e:Hp)(Q:Bool->Hp->Prop),t∈ts->ae H e->(∀h,ae e h->Q (p t) h)->j (some (.int t)::c) e Q)
 (l:∀(t:Int)(e:Hp)(Q:VK),Q (.int t) e->k (some (.int t)::c) e Q)
 (hd:∀(e:Hp),ae H e->b ((ts.filter p).map V.int) e):dD (ke K a) c j k H b:=by
 have u:=zq;refine yL (xs:=ts.map V.int) (λi w v=>w=((ts.take i).filter p).map V.int/\ae H v) ⟨rfl,ae.refl _⟩ ?_ (by rw[q06];lia) ?_ ?_
 .rintro i w v r ⟨rfl,s5⟩;refine⟨s5.seq q,?_⟩;have:=q09 p (ts.take i);rw[q11]at this;rw[q06]
  lia
 .rintro i x w v hx ⟨rfl,s5⟩;obtain⟨r,rfl⟩:=yU hx;have o:ts[i]? = some (ts.getD i 0):=by rw[q18,q31 r];rfl
  refine m _ v _ (tG r) s5 λg d=>?_;have s:(ts.take (i+1)).filter p=(ts.take i).filter p++if p (ts.getD i 0)=true then [ts.getD i 0] else []:=by
   rw[take_succ,o,q16];congr 1;show filter p [ts.getD i 0]=_;rw[q17];split <;> rfl
  by_cases n:p (ts.getD i 0)=true
  .rw[q01 n];refine l _ _ _ ⟨?_,s5.trans d⟩;rw[s,q01 n,q07];rfl
  .rw[q00 n];refine⟨?_,s5.trans d⟩;rw[s,q00 n,append_nil]
 .rintro w v ⟨rfl,s5⟩;rw[q06,q15];exact hd _ s5
end L2
namespace M13
open PySem L2 M2
def sub_len{w:Type} [DecidableEq w]:∀{l m:List w},l.Nodup->(∀x∈l,x∈m)->l.length<=m.length
 | [],_,_,_=>zero_le _
 | a::l,m,nd,h=>by
   have v:=List.nodup_cons.mp nd;have:=sub_len (l:=l) (m:=m.erase a) v.2 λx n=>(List.mem_erase_of_ne (λe=>v.1 (by rw[<-e];exact n))).mpr (h x (q13 _ n));have t:=h a (q14 ..);rw[List.length_erase_of_mem t]at this;have:=q30 t;rw[q12]
   lia
def tx(l:List Nat):Str:=⟨l.toArray⟩
variable {b:List Nat}
def Ez{a:List Nat}(h:tx a=tx b):a=b:=by
 have:=congrArg (λs:Str=>s.cps.toList) h
 simpa [tx] using this
def FF(l:List Nat):(tx l).length=l.length:=by show l.toArray.size=_;simp
def vw(l:List Nat)(c:Nat):tx l++⟨#[c]⟩=tx (l++[c]):=by
 show(⟨l.toArray ++ #[c]⟩:Str)=⟨(l++[c]).toArray⟩;congr 1;simp
def EA(b:List Nat)(c:Nat):PySem.Txt.slice (tx (b++[c])) none (some (-1))=tx b:=by
 have r:(tx (b++[c])).length=b.length+1:=by rw[FF];simp
 have e:Builtin.Str.strSliceIndices none (some (-1)) 1 (b.length+1)=List.range b.length:=by
  have a:∀x:Int,x=(b.length:Int)->map (fun(k:Nat)=>((0:Int)+1*(k:Int)).toNat) (List.range (if(0:Int)<x then(x-0+1-1)/1 else 0).toNat)=List.range b.length:=λx j=>by
   have t:(if(0:Int)<x then(x-0+1-1)/1 else 0).toNat=b.length:=by
    split
    .rw[Int.ediv_one];lia
    .lia
   rw[t]
   conv=>rhs;rw[<-map_id (List.range b.length)]
   refine q43 λk _=>?_;show(0+1*(k:Int)).toNat=k
   lia
  exact a (max 0 (min (-1+((b.length+1:Nat):Int)) ((b.length+1:Nat):Int))) (by lia)
 unfold PySem.Txt.slice;rw[r,e,q00 (by simp)];unfold tx;congr 2;show filterMap (λi=>(b++[c]).toArray[i]?) (List.range b.length)=b;have:filterMap (λi=>(b++[c]).toArray[i]?) (List.range b.length)=(List.range b.length).map λi=>b.getD i 0:=by
  have v:∀n,n<=b.length->filterMap (λi=>(b++[c]).toArray[i]?) (List.range n)=(List.range n).map λi=>b.getD i 0:=λn=>by
   induction n with
   | zero=>intro _;rfl
   | succ n h =>
     intro d;rw[range_succ,filterMap_append,q07,h (by lia)];congr 1;have:(b++[c]).toArray[n]? = some (b.getD n 0):=by
      rw[List.getElem?_toArray,q28 (by lia),q18,q31 (by lia)];rfl
     show filterMap (λi=>(b++[c]).toArray[i]?) [n]=[b.getD n 0];rw[filterMap_cons,this];rfl
  exact v _ (le_refl _)
 rw[this];refine ext_getElem (by simp) λi s w=>?_;simp[w]
def vz(k:Fin 26):PySem.Txt.find tX ⟨#[97+k.val]⟩=(k.val:Int):=by
 revert k;decide +kernel
def turn(b:List Nat)(t s:Nat):Str:=tx (b++[97+(t+s)%26])
def vA{t s v:Nat}(h:s<26)(h':v<26)(e:turn b t s=turn b t v):s=v:=by
 have:=Ez e;have:=List.append_cancel_left this;have:=(List.cons.inj this).1
 lia
def Wg{t:Nat}{ts:List Str}(h:∀s,s<26->turn b t s∈ts):26<=ts.length:=by
 have c:((List.range 26).map (turn b t)).Nodup:=by
  refine List.pairwise_map.mpr (List.Pairwise.imp_of_mem (λ{i j} v w k e=>?_) (pairwise_lt_range (n:=26)));have:=vA (List.mem_range.mp v) (List.mem_range.mp w) e
  lia
 have d:((List.range 26).map (turn b t)) ⊆ ts:=λx r=>by
  obtain⟨s,a,rfl⟩:=q25.mp r;exact h s (List.mem_range.mp a)
 have:=sub_len c d
 simpa using this
end M13
namespace L2
open PySem
variable {S:Sh}
def Sh.vB(ok:S.Ok)(r:Rw):(S.cH r).Ok:=by
 unfold Sh.cH;split
 .exact ok
 .split
  .exact ok
  .rename_i hr;cases r with
   | card j ns=>exact(ok.hand hr).1
   | bW n=>exact(ok.bN hr).1
   | iY=>exact ok.close
   | ask q=>exact ok
   | two c=>exact ok
def Sh.qf(S:Sh)(r:Rw):(S.cH r).taken<=S.taken+1:=by
 unfold Sh.cH;split
 .exact le_succ _
 .split
  .exact le_succ _
  .cases r
   .exact le_refl _
   all_goals exact le_succ _
def Sh.jP(S:Sh)(q:Qn):S.cH (.ask q)=S:=by
 unfold Sh.cH;rw[q00 (show ¬(Rw.ask q).bad=true from q23)];split <;> rfl
def Sh.jQ(S:Sh)(q:Qn):S.cJ (.ask q)=S.dv q:=q00 (show ¬(Rw.ask q).bad=true from q23)
def Sh.Br(S:Sh)(c:Int):S.cH (.two c)=S:=q01 rfl
def Sh.Bs(S:Sh)(c:Int):S.cJ (.two c)=M57.RW:=q01 rfl
def qg:∀q∈([.xI,.gk,.rC,.rD]:List Qn),M20.row q.f ("":Str) []=q.f:=by
 intro q e;simp only[q27,not_mem_nil,or_false]at e;rcases e with rfl | rfl | rfl | rfl <;> decide +kernel
variable {f:Str}
def Bt(e:M20.cG f M20.yr=false)(c:Int):f++M20.zE++tN c=M20.row f ("":Str) [c]:=by
 unfold M20.row M20.wz;rw[e,q00 q23];rfl
def Wh:("row ":Str)=("row":Str) ++ M20.zE:=by decide +kernel
def qi:(" 1":Str)=M20.zE++M20.gO 1:=by decide +kernel
def Bu(c:Int):("row ":Str) ++ tN c++(" 1":Str)=(Rw.two c).text:=by
 show _=M20.row ("row":Str) ("":Str) [c,1];unfold M20.row M20.wz;rw[show M20.cG ("row":Str) M20.yr=false by decide +kernel,q00 q23,Wh,qi];show _=Str.join M20.zE [("row":Str),M20.gO c,M20.gO 1];rw[M19.wv,M19.wv];simp only[M6.Eu];rfl
def Bv(c:Int):("row ":Str) ++ tN c=(Rw.ask (.row c)).text:=by
 rw[Wh];exact Bt (by decide +kernel) c
variable {j:Str}
def nY(e:M20.cG f M20.yr=true):f++M20.zE++j=M20.row f j []:=by
 unfold M20.row M20.wz;rw[e,q01 rfl];rfl
def Bw(e:M20.cG f M20.yr=true)(c:Int):f++M20.zE++j++M20.zE++tN c=M20.row f j [c]:=by
 unfold M20.row M20.wz;rw[e,q01 rfl];show _=Str.join M20.zE [f,j,M20.gO c];rw[M19.wv,M19.wv];simp only[M6.Eu];rfl
def Wi:∀{ns:List Int},(∀n∈ns,Nn n)->All2 eW (ns.map V.int) (ns.map tN)
 | [],_=>.nil
 | n::ns,h=>by
   refine .cons ?_ (Wi λm e=>h m (q13 _ e));rcases h n (q14 ..)with h | rfl | rfl | rfl | rfl
   .exact .int (by lia)
   .exact .int (by decide)
   .exact .int (by decide)
   .exact .int (by decide)
   .exact .big
structure jk (H:Hp) (S:Sh) (G:Addr->Prop) (st nm u g k:Addr) (y:Int) (out:Str) (ls:List Addr):Prop where
 hs:H st=some (.lst [.bl S.bG,.int y,.str out])
 hn:H nm=some (.lst (S.ag.map V.str))
 hu:H u=some (.lst (S.aa.map V.int))
 hg:H g=some (.lst (S.struck.map V.int))
 ug:u≠g
 hr:Rows G H k ls S.rows
 gu:G u
 gg:G g
 gx:∀b,G b->H b≠none
variable {G:Addr->Prop}{H H':Hp}
def Ia(h:∀b,G b->H b≠none)(k:∀b o,H b=some o->H' b≠none):∀b,G b->H' b≠none:=λb g=>by
 cases e:H b with
 | none=>exact q02 e (h b g)
 | some o=>exact k b o e
variable {st nm u g k:Addr}{y:Int}{out:Str}{ls:List Addr}
def jk.same(h:jk H S G st nm u g k y out ls)(s:ae H H'):jk H' S G st nm u g k y out ls :=
 ⟨s _ _ h.hs,s _ _ h.hn,s _ _ h.hu,s _ _ h.hg,h.ug,h.hr.same s,h.gu,h.gg,Ia h.gx λb o e z=>by rw[s b o e]at z;cases z⟩
def jk.apart(h:jk H S G st nm u g k y out ls)(ok:S.Ok):(st≠u/\st≠g/\st≠k)/\(nm≠u/\nm≠g/\nm≠k)/\k≠u/\k≠g/\nm≠st/\∀l∈ls,l≠st:=by
 have n:=h.hr.len;rw[S.bQ]at n;have v:=ok.p1;have w:∀ns:List Int,(HO.lst [.bl S.bG,.int y,.str out]) ≠ .lst (ns.map V.int):=λns z=>by
  injection z with z
  cases ns <;> simp at z
 have b:(HO.lst [.bl S.bG,.int y,.str out]) ≠ .lst (ls.map V.ref):=λz=>by
  injection z with z
  cases ls <;> simp at z
 have a:∀ns:List Int,(HO.lst (S.ag.map V.str)) ≠ .lst (ns.map V.int):=λns z=>by
  injection z with z
  cases e:S.ag with
  | nil=>rw[e]at v;simp at v
  | cons t r=>rw[e]at z;cases ns <;> simp at z
 have s:(HO.lst (S.ag.map V.str)) ≠ .lst (ls.map V.ref):=λz=>by
  injection z with z
  cases e:S.ag with
  | nil=>rw[e]at v;simp at v
  | cons t r=>rw[e]at z;cases ls <;> simp at z
 have ns:(HO.lst (S.ag.map V.str)) ≠ .lst [.bl S.bG,.int y,.str out]:=λz=>by
  injection z with z
  cases e:S.ag with
  | nil=>rw[e]at v;simp at v
  | cons t r=>rw[e]at z;simp at z
 exact⟨⟨yb h.hs h.hu (w _),yb h.hs h.hg (w _),yb h.hs h.hr.1 b⟩,⟨yb h.hn h.hu (a _),yb h.hn h.hg (a _),yb h.hn h.hr.1 s⟩,λz=>h.hr.2.1 (by rw[z];exact h.gu),λz=>h.hr.2.1 (by rw[z];exact h.gg),yb h.hn h.hs ns,λl n z=>by
  obtain⟨d,e,_⟩:=h.hr.2.2.uS n;exact w _ (by rw[z,h.hs]at e;injection e)⟩
def Kq:List Str:=["card","card","card","card","strike","couples","places","parts","deciders","show","step","row"]
def Sh.kH(S:Sh)(r:Rw)(h:r ≠ .iY):(S.cH r).bG=S.bG:=by
 unfold Sh.cH;split
 .rfl
 .split
  .rfl
  .cases r
   all_goals first | rfl | exact q02 rfl h
variable {gQ:List Addr}
def jk.card{ns:List Int}(h:jk H S G st nm u g k y out ls)(ok:S.Ok)(t:∀b o,H b=some o->b≠k->H' b=some o)(r:Rows G H' k gQ (S.cH (.card j ns)).rows):jk H' (S.cH (.card j ns)) G st nm u g k y out gQ:=by
 obtain⟨⟨i,sg,s⟩,⟨d,c,a⟩,w,v,_⟩:=h.apart ok;have e:(S.cH (.card j ns)).aa=S.aa/\(S.cH (.card j ns)).struck=S.struck:=by
  unfold Sh.cH;split
  .exact⟨rfl,rfl⟩
  .split <;> exact⟨rfl,rfl⟩
 exact⟨by rw[Sh.kH S _ (λz=>by cases z)];exact t _ _ h.hs s,by rw[Sh.gG];exact t _ _ h.hn a,by rw[e.1];exact t _ _ h.hu w.symm,by rw[e.2];exact t _ _ h.hg v.symm,h.ug,r,h.gu,h.gg,Ia h.gx λb o e z=>by
  by_cases n:b=k
  .rw[n,r.1]at z;cases z
  .rw[t b o e n]at z;cases z⟩
def jk.bW{n:Int}(h:jk H S G st nm u g k y out ls)(ok:S.Ok)(t:∀b o,H b=some o->b≠k->b≠u->b≠g->H' b=some o)(r:Rows G H' k gQ (S.cH (.bW n)).rows)(w:H' u=some (.lst ((S.cH (.bW n)).aa.map V.int)))(v:H' g=some (.lst ((S.cH (.bW n)).struck.map V.int))):jk H' (S.cH (.bW n)) G st nm u g k y out gQ:=by
 obtain⟨⟨p,sg,m⟩,⟨l,d,i⟩,_⟩:=h.apart ok;exact⟨by rw[Sh.kH S _ (λz=>by cases z)];exact t _ _ h.hs m p sg,by rw[Sh.gG];exact t _ _ h.hn i l d,w,v,h.ug,r,h.gu,h.gg,Ia h.gx λb o e z=>by
  by_cases a:b=k
  .rw[a,r.1]at z;cases z
  by_cases s:b=u
  .rw[s,w]at z;cases z
  by_cases c:b=g
  .rw[c,v]at z;cases z
  rw[t b o e a s c]at z;cases z⟩
def Sh.Bx(S:Sh):S.cH .iY=S.close:=by
 unfold Sh.cH;rw[q00 (show ¬Rw.iY.bad=true from q23)];show(match (if S.bG=true then some ("SheetSealed":Str)else none)with | some _=>S | none=>S.close)=_;by_cases h:S.bG=true
 .rw[q01 h];cases S;cases h;rfl
 .rw[q00 h]
def jk.seal(h:jk H S G st nm u g k y out ls)(ok:S.Ok):jk (upd H st (.lst [.bl true,.int y,.str out])) (S.cH .iY) G st nm u g k y out ls:=by
 obtain⟨⟨v,sg,t⟩,_,_,_,ns,lst⟩:=h.apart ok;rw[Sh.Bx];exact⟨zd,by rw[zi ns];exact h.hn,by rw[zi v.symm];exact h.hu,by rw[zi sg.symm];exact h.hg,h.ug,h.hr.put ⟨t.symm,lst⟩,h.gu,h.gg,Ia h.gx λb o e z=>by
  by_cases n:b=st
  .rw[n,zd]at z;cases z
  .rw[zi n,e]at z;cases z⟩
def Sh.By(S:Sh):S.cJ .iY=if S.bG=true then ("refused: sealed":Str) else ("sealed":Str):=by
 unfold Sh.cJ;rw[q00 (show ¬Rw.iY.bad=true from q23)];show(match (if S.bG=true then some ("SheetSealed":Str)else none)with | some z=>M6.mi z | none=>("sealed":Str))=_;by_cases h:S.bG=true
 .rw[q01 h,q01 h];decide +kernel
 .rw[q00 h,q00 h]
def Sh.mq(ok:S.Ok)(h:∀c∈S.struck,1<=c/\c<=999)(r:Rw):∀c∈(S.cH r).struck,1<=c/\c<=999:=by
 unfold Sh.cH;split
 .exact h
 .split
  .exact h
  .rename_i hr;cases r with
   | bW n =>
     intro c e;rcases List.mem_append.mp (show c∈S.struck++[n] from e)with m | m
     .exact h c m
     .rw[List.mem_singleton.mp m];exact ok.cY n (ok.bN hr).2.1
   | card j ns=>exact h
   | iY=>exact h
   | ask q=>exact h
   | two c=>exact h
def jk.put{x:Addr}{o:HO}(h:jk H S G st nm u g k y out ls)(n:st≠x/\nm≠x/\u≠x/\g≠x)(t:G x):jk (upd H x o) S G st nm u g k y out ls :=
 ⟨by rw[zi n.1];exact h.hs,by rw[zi n.2.1];exact h.hn,by rw[zi n.2.2.1];exact h.hu,by rw[zi n.2.2.2];exact h.hg,h.ug,h.hr.put ⟨λz=>h.hr.2.1 (by rw[z];exact t),λl v z=>let ⟨_,w⟩:=h.hr.2.2.uS v;w.2 (by rw[z];exact t)⟩,h.gu,h.gg,Ia h.gx λb p e z=>by
  by_cases n:b=x
  .rw[n,zd]at z;cases z
  .rw[zi n,e]at z;cases z⟩
def Sh.jx:∀(e:List Rw){S:Sh},S.Ok->(S.cC e).Ok
 | [],_,ok=>ok
 | r::e,_,ok=>Sh.jx e (Sh.vB ok r)
def Sh.gm:∀(e:List Rw)(S:Sh),(S.cC e).taken<=S.taken+e.length
 | [],_=>le_refl _
 | r::e,S=>by
   have t:=Sh.gm e (S.cH r);have v:=Sh.qf S r;show((S.cH r).cC e).taken<=S.taken+(e.length+1)
   lia
def Sh.fU:∀(e:List Rw){S:Sh},S.Ok->(∀c∈S.struck,1<=c/\c<=999)->∀c∈(S.cC e).struck,1<=c/\c<=999
 | [],_,_,h=>h
 | r::e,_,ok,h=>Sh.fU e (Sh.vB ok r) (Sh.mq ok h r)
end L2
namespace M15
open M14
def idx(key:Nat->Int)(n:Nat):List Nat:=(List.range n).flatMap fun(i:Nat)=>(List.range n).filter λk=>decide (key k=(i:Int)+1)
def mr(key:Nat->Int)(n:Nat):(idx key n).Pairwise (R key):=by
 unfold idx;rw[List.pairwise_flatMap];refine⟨λi _=>?_,?_⟩
 .rw[List.pairwise_filter];refine List.Pairwise.imp ?_ (pairwise_lt_range (n:=n));intro a b l e t;have e:=of_decide_eq_true e;have t:=of_decide_eq_true t;exact .inr ⟨by lia,l⟩
 .refine List.Pairwise.imp ?_ (pairwise_lt_range (n:=n));intro i j l x v y w;have v:=of_decide_eq_true (q24.mp v).2;have w:=of_decide_eq_true (q24.mp w).2;exact .inl (by lia)
def nZ(key:Nat->Int)(n:Nat)(h:∀k,k<n->1<=key k/\key k<=n)(x:Nat):x∈idx key n↔x∈List.range n:=by
 unfold idx;rw[List.mem_flatMap];constructor
 .rintro ⟨i,_,z⟩;exact(q24.mp z).1
 .intro z;have e:=List.mem_range.mp z;have:=h x e;exact⟨(key x-1).toNat,List.mem_range.mpr (by lia),q24.mpr ⟨z,q19 (by lia)⟩⟩
variable {key:Nat->Int}
def R.asymm{a b:Nat}(h:R key a b)(k:R key b a):False:=by
 rcases h with h | h <;> rcases k with k | k <;> lia
def one{key:Nat->Int}:∀{l m:List Nat},l.Pairwise (R key)->m.Pairwise (R key)->(∀x,x∈l↔x∈m)->l=m
 | [],[],_,_,_=>rfl
 | [],b::m,_,_,h=>q02 ((h b).mpr (q14 ..)) (not_mem_nil)
 | a::l,[],_,_,h=>q02 ((h a).mp (q14 ..)) (not_mem_nil)
 | a::l,b::m,hl,hm,h=>by
   rw[List.pairwise_cons]at hl hm;have e:a=b:=by
    rcases q27.mp ((h a).mp (q14 ..))with e | z
    .exact e
    .rcases q27.mp ((h b).mpr (q14 ..))with e | y
     .exact e.symm
     .exact(R.asymm (hm.1 a z) (hl.1 b y)).elim
   subst e;refine congrArg _ (one hl.2 hm.2 λx=>?_);have t:∀{l:List Nat},(∀y,y∈l->R key a y)->a∉l:=λq z=>R.asymm (q a z) (q a z);constructor
   .intro z;rcases q27.mp ((h x).mp (q13 _ z))with e | y
    .subst e;exact(t hl.1 z).elim
    .exact y
   .intro z;rcases q27.mp ((h x).mpr (q13 _ z))with e | y
    .subst e;exact(t hm.1 z).elim
    .exact y
variable {p:Array Nat}
def zl6{n:Nat}(h:I key n p n):p.toList.Pairwise (R key):=by
 rw[List.pairwise_iff_getElem];intro i j w t l;have a:=h.1.size;have e:∀(k:Nat)(v:k<p.toList.length),p.toList[k]=g p k:=λk v=>by
  have r:k<p.size:=by simpa using v
  show _=p.getD k 0;simp[Array.getD,r]
 rw[e i w,e j t];refine h.2 i j l ?_;rw[<-a]
 simpa using t
def vC{n:Nat}(h:I key n p n)(e:∀k,k<n->1<=key k/\key k<=n):p.toList=idx key n:=by
 refine one (zl6 h) (mr key n) λx=>?_;rw[nZ key n e];have:=h.1.pm.toList.mem_iff (a:=x)
 simpa using this
def zip_get(ps us:List Int)(h:ps.length=us.length):(List.range us.length).map (λk=>(ps.getD k 0,us.getD k 0))=ps.zip us:=by
 refine ext_getElem (by simp[h]) λi e n=>?_;have t:i<us.length:=by simpa using e
 have v:i<ps.length:=by lia
 simp[t,v]
def Bz{ps us:List Int}(t:ps.length=us.length)(e:∀k,k<us.length->1<=ps.getD k 0/\ps.getD k 0<=us.length)(h:I (λk=>ps.getD k 0) us.length p us.length):
 p.toList.map (λk=>(ps.getD k 0,us.getD k 0))=M5.rows ps us:=by
 rw[vC h e];unfold idx M5.rows;rw[List.map_flatMap];congr 1;funext i;rw[<-zip_get ps us t,filter_map];rfl
end M15
namespace L2
open PySem PySem.W
variable {K:Frag}{H:Hp}{a:Addr}
def Refs.ph{cs:List (List Int)}(h:Refs K (IL K) H a cs):Refs K (IL K) (L2.ph H) a cs:=by
 obtain⟨v,e,t⟩:=h;exact⟨v,e.ph,t.imp λ_ _ r=>ah.ph r⟩
def Wj{K:Frag}{H:Hp}{ts:List Addr}{ps us:List Int}(c:ps.length=us.length)(t:j8 H ts ((ps.map V.int).zip (us.map V.int))):∀(l:List Nat),(∀i∈l,i<us.length)->All2 (iI K H) (l.map λi=>ts.getD i 0) (l.map λi=>(ps.getD i 0,us.getD i 0))
 | [],_=>.nil
 | i::l,h=>by
   have k:=h i (q14 ..);have lt:ts.length=us.length:=by rw[t.length,length_zip,q06,q06];lia
   refine .cons ?_ (Wj c t l λj b=>h j (q13 _ b));have d:ts[i]? = some (ts.getD i 0):=by rw[q18,q31 (by lia)];rfl
   obtain⟨⟨m,o⟩,w,e⟩:=t.get i _ d;rw[List.getElem?_zip_eq_some]at w;obtain⟨v,n⟩:=w;rw[q26,q31 (by lia)]at v n;cases v;cases n;have r:ps.getD i 0=ps[i]:=by rw[q18,q31 (by lia)];rfl
   have s:us.getD i 0=us[i]:=by rw[q18,q31 (by lia)];rfl
   show cE K H (ts.getD i 0) [.int (ps.getD i 0),.int (us.getD i 0)];rw[r,s];exact .inl (.inl e)
variable {te:TE}{fin:List V->Hp->Prop}
def znr{xs:List V}{c:St}{k:TT}(w:Nat->List V->Hp->Prop)(g:w 0 [] H)(z:∀i n H,i<=xs.length->w i n H->ah K H a xs/\n.length<=i)(C:xs.length<=sizeLine)
 (hs:∀i x n H,xs[i]? = some x->w i n H->∃t u v h s,x=.ref t/\cE K H t [u,v,h,s]/\k (some u::some v::some h::some s::c) H λb d=>if b=true then te (some u::some v::some h::some s::c) d λy o=>w (i+1) (n++[y]) o else w (i+1) n d) (hd:∀n H,w xs.length n H->fin n H):gD K (ke K a) c k te H fin:=by
 refine⟨λi m n H=>m=xs.length-i/\i<=xs.length/\w i n H,⟨xs.length,by simp,zero_le _,g⟩,?_⟩;rintro i m n H ⟨rfl,f,p⟩;obtain⟨q,B⟩:=z i n H f p;by_cases j:i<xs.length
 .refine .inr ⟨⟨xs,xs[i],q,by simp[j]⟩,by lia,λl r=>w (i+1) l r,λl r A=>⟨xs.length-(i+1),by lia,rfl,j,A⟩,λx r y=>?_⟩;obtain⟨e,y⟩:=y;subst e;exact hs i x n _ (y xs q) p
 .have e:i=xs.length:=by lia
  subst e;exact .inl ⟨⟨xs,q,le_refl _⟩,by lia,hd n H p⟩
def zma{xs:List V}{c:St}(w:Nat->List V->Hp->Prop)(k:w 0 [] H)(l:∀i n H,i<=xs.length->w i n H->ah K H a xs/\n.length<=i)(m:xs.length<=sizeLine)
 (hs:∀i x n H,xs[i]? = some x->w i n H->∃t u v r s,x=.ref t/\cE K H t [u,v,r,s]/\te (some u::some v::some r::some s::c) H λy b=>w (i+1) (n++[y]) b) (hd:∀n H,w xs.length n H->fin n H):gD K (ke K a) c xh te H fin :=
 znr w k l m (λi x n H e p=>let ⟨t,u,v,r,s,d,j,h⟩:=hs i x n H e p;⟨t,u,v,r,s,d,j,qX (B:=w (i+1) n H) h⟩) hd
def mv{w:List Addr}{v:List M6.R4}{f:M6.R4->Str}{c:St}(j:ah K H a (w.map V.ref))(s:All2 (F4 K H) w v)(u:v.length<=1000)
 (b:∀(p:M6.R4)(e:Hp)(Q:VK),p∈v->ae H e->(∀r,ae e r->Q (.str (f p)) r)->te (some (.int p.1)::some (.int p.2.1)::some (.int p.2.2.1)::some (.str p.2.2.2)::c) e Q)
 (hd:∀(e:Hp),ae H e->fin ((v.map f).map V.str) e):gD K (ke K a) c xh te H fin:=by
 have g:=zq;have k:=s.length;refine zma (xs:=w.map V.ref) (λi n t=>ae H t/\n=((v.take i).map f).map V.str) ⟨ae.refl _,rfl⟩ ?_ (by rw[q06];lia) ?_ ?_
 .rintro i n t hi ⟨s3,rfl⟩;refine⟨s3.seq j,?_⟩;rw[q06,q06,q11]
  lia
 .rintro i x n t hx ⟨s3,rfl⟩;obtain⟨p,d,rfl⟩:=wN hx;obtain⟨m,h,l⟩:=s.getL d;refine⟨p,.int m.1,.int m.2.1,.int m.2.2.1,.str m.2.2.2,rfl,s3.lI l,b m t _ (mem_of_getElem? h) s3 λq o=>⟨s3.trans o,?_⟩⟩;rw[take_succ,h,q07,q07];rfl
 .rintro n t ⟨s3,rfl⟩;rw[q06,k,q15];exact hd t s3
end L2
set_option maxHeartbeats 4000000
namespace Pp
open PySem L2
def top(i:Nat):Stmt:=PySem.Challenge.pw_panelplace_k47_whole_day_at_the_desk.main.body.getD i (.Pass ⟨0,0,0,0⟩)
structure Txt (K:Frag) (mg:Str->Option Value):Prop where
 n5:mg "all"=none
 EB:mg "bool"=none
 n6:mg "int"=none
 b9:mg "isinstance"=none
 az:mg "len"=none
 cP:mg "list"=none
 Ib:mg "max"=none
 Ic:mg "min"=none
 bt:mg "range"=none
 CI:mg "set"=none
 gn:mg "sorted"=none
 cb:mg "str"=none
 kI:mg "sum"=none
 vD:mg "zip"=none
 jR:uf K mg "BARE_WORDS" ["seal","couples","places","parts","deciders"]
 fV:uf K mg "JUDGE_WORDS" ["card","show","leave","step"]
 eY:uf K mg "COUPLE_WORDS" ["strike","step","row"]
 iL:∃t,mg "MOST_FIGURES"=some (.int 3 t)
 iM:∃t,mg "MOST_COUPLES"=some (.int 24 t)
 jl:∃t,mg "MOST_JUDGES"=some (.int 15 t)
 jm:∃t,mg "MOST_NUMBER"=some (.int 999 t)
 jS:∃t,mg "MOST_SIGNS"=some (.int 8 t)
 jT:∃t,mg "MOST_CARDS"=some (.int 200 t)
 dY:rp K mg "BadCouples"
 eZ:rp K mg "BadJudges"
 bh:rp K mg "SheetSealed"
 dw:yg K "SheetSealed" "SheetSealed" true
 fc:yg K "SheetSealed" "BadRow" false
 aR:rp K mg "UnknownJudge"
 cZ:yg K "UnknownJudge" "SheetSealed" false
 cT:yg K "UnknownJudge" "UnknownJudge" true
 eB:yg K "UnknownJudge" "BadRow" false
 bL:rp K mg "BadCard"
 eD:yg K "BadCard" "SheetSealed" false
 dZ:yg K "BadCard" "UnknownJudge" false
 gp:yg K "BadCard" "BadCard" true
 gH:yg K "BadCard" "BadRow" false
 aJ:rp K mg "TooManyCards"
 c6:yg K "TooManyCards" "SheetSealed" false
 cU:yg K "TooManyCards" "UnknownJudge" false
 d0:yg K "TooManyCards" "BadCard" false
 cV:yg K "TooManyCards" "TooManyCards" true
 eE:yg K "TooManyCards" "BadRow" false
 au:rp K mg "UnknownCouple"
 cW:yg K "UnknownCouple" "SheetSealed" false
 cQ:yg K "UnknownCouple" "UnknownJudge" false
 dP:yg K "UnknownCouple" "BadCard" false
 cR:yg K "UnknownCouple" "TooManyCards" false
 cK:yg K "UnknownCouple" "UnknownCouple" true
 d6:yg K "UnknownCouple" "BadRow" false
 aM:rp K mg "LastCouple"
 dE:yg K "LastCouple" "SheetSealed" false
 dy:yg K "LastCouple" "UnknownJudge" false
 fe:yg K "LastCouple" "BadCard" false
 dz:yg K "LastCouple" "TooManyCards" false
 c8:yg K "LastCouple" "UnknownCouple" false
 dQ:yg K "LastCouple" "LastCouple" true
 fE:yg K "LastCouple" "BadRow" false
 bu:rp K mg "NoCard"
 fg:yg K "NoCard" "SheetSealed" false
 eF:yg K "NoCard" "UnknownJudge" false
 gI:yg K "NoCard" "BadCard" false
 eG:yg K "NoCard" "TooManyCards" false
 d8:yg K "NoCard" "UnknownCouple" false
 fH:yg K "NoCard" "LastCouple" false
 g8:yg K "NoCard" "NoCard" true
 hV:yg K "NoCard" "BadRow" false
 aD:rp K mg "TooFewCards"
 dA:yg K "TooFewCards" "SheetSealed" false
 c9:yg K "TooFewCards" "UnknownJudge" false
 eI:yg K "TooFewCards" "BadCard" false
 da:yg K "TooFewCards" "TooManyCards" false
 cX:yg K "TooFewCards" "UnknownCouple" false
 dF:yg K "TooFewCards" "LastCouple" false
 fi:yg K "TooFewCards" "NoCard" false
 dB:yg K "TooFewCards" "TooFewCards" true
 fj:yg K "TooFewCards" "BadRow" false
 bD:rp K mg "AtTop"
 fI:yg K "AtTop" "SheetSealed" false
 fk:yg K "AtTop" "UnknownJudge" false
 hZ:yg K "AtTop" "BadCard" false
 fq:yg K "AtTop" "TooManyCards" false
 eJ:yg K "AtTop" "UnknownCouple" false
 fY:yg K "AtTop" "LastCouple" false
 iN:yg K "AtTop" "NoCard" false
 fJ:yg K "AtTop" "TooFewCards" false
 jn:yg K "AtTop" "AtTop" true
 iO:yg K "AtTop" "BadRow" false
 bj:rp K mg "BadRow"
 ia:yg K "BadRow" "BadRow" true
 ai:qS K (yu K "Sheet")
 aV:cN K (yu K "Sheet") "standing"
 cm:cN K (yu K "Sheet") "struck_so_far"
 dG:cN K (yu K "Sheet") "panel"
 aG:cN K (yu K "Sheet") "card_by_judge"
 bw:cN K (yu K "Sheet") "taken_so_far"
 dc:cN K (yu K "Sheet") "sealed"
abbrev yQ:Stmt:=xf (top 74) 12
def zc3:af ["self"] ["self"] (zf yQ):=bf
abbrev yy:Stmt:=xf (top 74) 13
abbrev zH:List Str:=["self","judge"]
def zbu:af zH zH (zf yy):=bf
abbrev Pf:Stmt:=xf (top 74) 4
abbrev y9:List Str:=["self"]
def zht:af y9 y9 (zf Pf):=bf
abbrev Kr:Stmt:=xf (top 74) 7
abbrev yJ:List Str:=["self"]
def zh7:af yJ yJ (zf Kr):=bf
abbrev Ks:Stmt:=top 100
abbrev Wk:List Str:=["_law_marks_here","_law_last","_law_key_here","_law_number","_law_got"]
abbrev Kt:List Str:=["_law_marks_here","_law_last"]
def Ku:af Wk Kt (zf Ks):=bf
abbrev Pg:Stmt:=top 102
abbrev Kv:List Str:=["_law_spots_here","_law_couples_here"]
def Kw:af ["_law_spots_here","_law_couples_here","_law_rows_here","_law_place","_law_k"] Kv (zf Pg):=bf
abbrev Ie:Stmt:=top 103
abbrev Ph:List Str:=["_law_one","_law_other","_law_last","_law_number","_law_got","_law_had"]
abbrev Kx:List Str:=["_law_one","_law_other","_law_last"]
def Ky:af Ph Kx (zf Ie):=bf
abbrev Pj:Stmt:=top 105
abbrev Kz:List Str:=["_law_card_here","_law_couples_here"]
def Wl:af ["_law_card_here","_law_couples_here","_law_couple"] Kz (zf Pj):=bf
abbrev Pk:Stmt:=top 106
abbrev KA:List Str:=["_law_card_here","_law_cell"]
def KC:af ["_law_card_here","_law_cell","_law_spot","_law_twin","_law_stray"] KA (zf Pk):=bf
abbrev KD:Stmt:=top 107
abbrev Pl:List Str:=["_law_card_here","_law_couple"]
abbrev KG:List Str:=Pl
def ziN:af Pl KG (zf KD):=bf
abbrev KH:Stmt:=top 108
abbrev wP:List Str:=["_law_things"]
def zlf:af wP wP (zf KH):=bf
abbrev KI:Stmt:=top 109
abbrev Wm:List Str:=["_law_marks_here","_law_last","_law_steps","_law_number","_law_got"]
abbrev KJ:List Str:=["_law_marks_here","_law_last"]
def KL:af Wm KJ (zf KI):=bf
abbrev KN:Stmt:=top 116
abbrev Wn:List Str:=["_law_cards","_law_who","_law_k","_law_card_here","_law_up"]
abbrev KO:List Str:=["_law_cards","_law_who","_law_k"]
def Pm:af Wn KO (zf KN):=bf
abbrev Pn:Stmt:=top 122
abbrev KP:List Str:=["_law_names_here","_law_cell"]
def Wo:af ["_law_names_here","_law_cell","_law_near"] KP (zf Pn):=bf
abbrev Po:Stmt:=top 16
abbrev Ig:List Str:=["card","couples"]
def zka:af Ig Ig (zf Po):=bf
abbrev Pq:Stmt:=top 17
abbrev Ih:List Str:=["card","couple"]
def znf:af Ih Ih (zf Pq):=bf
abbrev wR:Stmt:=top 18
abbrev yw:List Str:=["card","couple"]
def zgP:af yw yw (zf wR):=bf
abbrev Pr:Stmt:=top 19
abbrev KQ:List Str:=["card","couple"]
def Pt:af ["card","couple","place","passed"] KQ (zf Pr):=bf
abbrev Pu:Stmt:=top 21
def ziO:af ["many"] ["many"] (zf Pu):=bf
abbrev KR:Stmt:=top 25
abbrev FG:List Str:=["marks","number"]
def zne:af FG FG (zf KR):=bf
abbrev Pw:Stmt:=top 56
def zjD:af ["first"] ["first"] (zf Pw):=bf
abbrev Px:Stmt:=top 59
def qj:af ["sign"] ["sign"] (zf Px):=bf
abbrev Py:Stmt:=top 67
def zjC:af ["couple"] ["couple"] (zf Py):=bf
abbrev Pz:Stmt:=top 69
def zh1:af ["sign"] ["sign"] (zf Pz):=bf
abbrev PB:Stmt:=top 70
abbrev wG:List Str:=["things","most"]
def ziE:af wG wG (zf PB):=bf
abbrev PD:Stmt:=top 71
def zjT:af ["things"] ["things"] (zf PD):=bf
abbrev KS:Stmt:=top 83
def zh6:af ["couples"] ["couples"] (zf KS):=bf
abbrev KU:Stmt:=top 84
def zic:af ["rows"] ["rows"] (zf KU):=bf
abbrev PF:Stmt:=top 87
def zif:af ["words"] ["words"] (zf PF):=bf
abbrev PK:Stmt:=top 89
abbrev Ii:List Str:=["_law_found"]
def zlC:af Ii Ii (zf PK):=bf
abbrev PL:Stmt:=top 90
abbrev Ij:List Str:=["_law_script","_law_k"]
def ql:af Ij Ij (zf PL):=bf
abbrev PM:Stmt:=top 92
abbrev KW:List Str:=["_law_found","_law_due"]
def Wq:af ["_law_found","_law_due","_law_k"] KW (zf PM):=bf
abbrev PN:Stmt:=top 93
abbrev KY:List Str:=["_law_cell","_law_place"]
def Wr:af ["_law_cell","_law_place","_law_once"] KY (zf PN):=bf
abbrev PQ:Stmt:=top 94
abbrev Ik:List Str:=["_law_mode","_law_cell","_law_least","_law_few","_law_most"]
def zm6:af Ik Ik (zf PQ):=bf
abbrev KZ:Stmt:=top 95
abbrev Ws:List Str:=["_law_cell","_law_many_here","_law_gap"]
abbrev K0:List Str:=["_law_cell","_law_many_here"]
def Wt:af Ws K0 (zf KZ):=bf
abbrev K1:Stmt:=top 99
abbrev wQ:List Str:=["_law_cards","_law_couple"]
def zlA:af wQ wQ (zf K1):=bf
abbrev PR:Stmt:=xf (top 74) 1
abbrev yY:List Str:=["self","judge","card"]
def zhf:af yY yY (zf PR):=bf
abbrev PU:Stmt:=xf (top 74) 2
abbrev K2:List Str:=["self","couple"]
def Wu:af ["self","couple","judge"] K2 (zf PU):=bf
abbrev PV:Stmt:=xf (top 74) 3
def zjZ:af ["self"] ["self"] (zf PV):=bf
abbrev PX:Stmt:=xf (top 74) 9
abbrev yW:List Str:=["self","judge"]
def zhA:af yW yW (zf PX):=bf
abbrev Il:Stmt:=top 101
abbrev PY:List Str:=["_law_cards","_law_couples_here","_law_ranks"]
abbrev K3:List Str:=["_law_cards","_law_couples_here"]
def Wv:af PY K3 (zf Il):=bf
abbrev PZ:Stmt:=top 104
abbrev K4:List Str:=["_law_cards","_law_couples_here","_law_spots_here"]
def wg:af ["_law_cards","_law_couples_here","_law_spots_here","_law_rows_here","_law_made","_law_k","_law_one","_law_other","_law_what"] K4 (zf PZ):=bf
abbrev P0:Stmt:=top 110
abbrev K5:List Str:=["_law_place","_law_couple","_law_cards","_law_last"]
def Ww:af ["_law_place","_law_couple","_law_cards","_law_last","_law_marks_here"] K5 (zf P0):=bf
abbrev K6:Stmt:=top 111
abbrev P1:List Str:=["_law_spots_here","_law_couples_here"]
abbrev wX:List Str:=P1
def zhp:af P1 wX (zf K6):=bf
abbrev K7:Stmt:=top 120
abbrev P2:List Str:=["_law_shut","_law_who","_law_cards","_law_couples_here","_law_card_here"]
abbrev K8:List Str:=P2
def zh9:af P2 K8 (zf K7):=bf
abbrev P4:Stmt:=top 121
abbrev wB:List Str:=["_law_shut","_law_cards","_law_couples_here","_law_gone","_law_couple"]
def Wx:af ["_law_shut","_law_cards","_law_couples_here","_law_gone","_law_couple","_law_k"] wB (zf P4):=bf
abbrev K9:Stmt:=top 22
abbrev FH:List Str:=["cards","couple"]
def zlW:af FH FH (zf K9):=bf
abbrev P5:Stmt:=top 23
abbrev Im:List Str:=["marks","number"]
def znh:af Im Im (zf P5):=bf
abbrev P6:Stmt:=top 24
abbrev wJ:List Str:=["marks","number"]
def ziA:af wJ wJ (zf P6):=bf
abbrev P7:Stmt:=top 26
def zid:af ["marks"] ["marks"] (zf P7):=bf
abbrev wL:Stmt:=top 46
abbrev yi:List Str:=["sheet","least"]
def zeW:af yi yi (zf wL):=bf
abbrev La:Stmt:=top 58
def zjf:af ["word"] ["word"] (zf La):=bf
abbrev Lb:Stmt:=top 65
def zin:af ["couples"] ["couples"] (zf Lb):=bf
abbrev Lc:Stmt:=top 68
def zk2:af ["judge"] ["judge"] (zf Lc):=bf
abbrev P8:Stmt:=top 91
abbrev Ld:List Str:=["_law_found","_law_due"]
def Wy:af ["_law_found","_law_due","_law_k"] Ld (zf P8):=bf
abbrev P9:Stmt:=top 96
abbrev Le:List Str:=["_law_cell","_law_many_here"]
def zQ:af ["_law_cell","_law_many_here","_law_letters","_law_made","_law_left","_law_k","_law_name","_law_size","_law_j"] Le (zf P9):=bf
abbrev Qa:Stmt:=top 97
abbrev Lf:List Str:=["_law_cell","_law_couples_here","_law_style"]
def ye:af ["_law_cell","_law_couples_here","_law_style","_law_pool","_law_turn","_law_left","_law_made","_law_k","_law_spot"] Lf (zf Qa):=bf
abbrev Lg:Stmt:=xf (top 74) 8
def ziL:af ["self"] ["self"] (zf Lg):=bf
abbrev Qb:Stmt:=top 112
abbrev wS:List Str:=["_law_cards","_law_couples_here","_law_spots_here"]
def yF:af ["_law_cards","_law_couples_here","_law_spots_here","_law_made","_law_one","_law_other","_law_number","_law_by"] wS (zf Qb):=bf
abbrev Lh:Stmt:=top 113
abbrev Wz:List Str:=["_law_cards","_law_couples_here","_law_spots_here"]
abbrev Li:List Str:=["_law_cards","_law_couples_here"]
def WA:af Wz Li (zf Lh):=bf
abbrev Lj:Stmt:=top 118
abbrev WB:List Str:=["_law_deed","_law_cards","_law_couples_here","_law_who","_law_couple","_law_rest","_law_k","_law_then"]
abbrev Lk:List Str:=["_law_deed","_law_cards","_law_couples_here","_law_who","_law_couple"]
def Ll:af WB Lk (zf Lj):=bf
abbrev Lm:Stmt:=top 119
abbrev WC:List Str:=["_law_cards","_law_couples_here","_law_couple","_law_into"]
abbrev Ln:List Str:=["_law_cards","_law_couples_here","_law_couple"]
def WD:af WC Ln (zf Lm):=bf
abbrev Lo:Stmt:=top 27
abbrev wU:List Str:=["marks","last"]
def zlN:af wU wU (zf Lo):=bf
abbrev Qc:Stmt:=top 30
abbrev Lp:List Str:=["one","other"]
def WE:af ["one","other","number"] Lp (zf Qc):=bf
abbrev Lq:Stmt:=top 48
abbrev yG:List Str:=["sheet","judge"]
def zhz:af yG yG (zf Lq):=bf
abbrev Qd:Stmt:=top 57
def zje:af ["word"] ["word"] (zf Qd):=bf
abbrev Lr:Stmt:=top 66
def zjb:af ["judges"] ["judges"] (zf Lr):=bf
abbrev Qe:Stmt:=top 98
abbrev Io:List Str:=["_law_cell","_law_used","_law_couples_here","_law_style"]
def zlj:af Io Io (zf Qe):=bf
abbrev Qf:Stmt:=xf (top 74) 0
abbrev Ip:List Str:=["self","couples","judges"]
def zj0:af Ip Ip (zf Qf):=bf
abbrev wE:Stmt:=top 114
abbrev Qg:List Str:=["_law_names_here","_law_cards","_law_couples_here","_law_now","_law_made","_law_k","_law_rest"]
abbrev Ls:List Str:=["_law_names_here","_law_cards","_law_couples_here"]
def wt:af Qg Ls (zf wE):=bf
abbrev Qh:Stmt:=top 29
abbrev Lu:List Str:=["one","other"]
def WG:af ["one","other","number"] Lu (zf Qh):=bf
abbrev Qi:Stmt:=top 36
abbrev Lv:List Str:=["one","other"]
def WH:af ["one","other","number"] Lv (zf Qi):=bf
abbrev wO:Stmt:=top 55
abbrev yK:List Str:=["first","words"]
def zim:af yK yK (zf wO):=bf
abbrev Iq:Stmt:=top 77
abbrev Qj:List Str:=["sheet","place","couple","marks","ladder","head","steps"]
abbrev Lw:List Str:=["sheet","place","couple"]
def Ir:af Qj Lw (zf Iq):=bf
abbrev Qk:Stmt:=top 115
abbrev we:List Str:=["_law_names_here","_law_cards","_law_couples_here"]
def WI:af ["_law_names_here","_law_cards","_law_couples_here","_law_made"] we (zf Qk):=bf
abbrev Lx:Stmt:=top 32
abbrev yV:List Str:=["rows","own"]
def zix:af yV yV (zf Lx):=bf
abbrev Ql:Stmt:=top 54
def Qm:af ["row","words","first"] ["row"] (zf Ql):=bf
abbrev Ly:Stmt:=top 117
abbrev WJ:List Str:=["_law_deed","_law_names_here","_law_cards","_law_couples_here","_law_into","_law_spots_here"]
abbrev Lz:List Str:=["_law_deed","_law_names_here","_law_cards","_law_couples_here"]
def Qo:af WJ Lz (zf Ly):=bf
abbrev Iu:Stmt:=top 31
abbrev Qp:List Str:=["cards","couples","rows"]
abbrev LA:List Str:=["cards","couples"]
def WK:af Qp LA (zf Iu):=bf
abbrev Iv:Stmt:=top 123
abbrev LB:List Str:=["_law_cell","_law_state","_law_names_here","_law_couples_here","_law_gone","_law_cards"]
def zZ:af ["_law_cell","_law_state","_law_names_here","_law_couples_here","_law_gone","_law_cards","_law_deed","_law_who","_law_judge","_law_couple","_law_card_here","_law_due","_law_row"] LB (zf Iv):=bf
abbrev Qq:Stmt:=top 39
def qm:af ["sheet"] ["sheet"] (zf Qq):=bf
abbrev Qr:Stmt:=top 43
abbrev Iw:List Str:=["sheet","judge"]
def zl7:af Iw Iw (zf Qr):=bf
abbrev LC:Stmt:=top 45
abbrev WL:List Str:=["sheet","judge","couple","card","stepped","passed","cards"]
abbrev LD:List Str:=["sheet","judge","couple"]
def Iy:af WL LD (zf LC):=bf
abbrev LF:Stmt:=top 47
abbrev wV:List Str:=["cards","couples"]
def zlP:af wV wV (zf LF):=bf
abbrev Qs:Stmt:=top 41
def qo:af ["sheet"] ["sheet"] (zf Qs):=bf
abbrev Qt:Stmt:=top 76
abbrev LG:List Str:=["sheet","couple"]
def WM:af ["sheet","couple","all_places"] LG (zf Qt):=bf
abbrev LH:Stmt:=top 44
def WN:af ["sheet","now"] ["sheet"] (zf LH):=bf
abbrev FI:Stmt:=top 34
def zmM:af ["places","couples"] ["places","couples"] (zf FI):=bf
abbrev Qu:Stmt:=top 33
abbrev Iz:List Str:=["cards","couples"]
def zjO:af Iz Iz (zf Qu):=bf
abbrev Qv:Stmt:=top 85
abbrev wH:List Str:=["sheet","places"]
def zi2:af wH wH (zf Qv):=bf
abbrev LI:Stmt:=top 37
abbrev WO:List Str:=["cards","couples","ranked","rows","one","other","parting"]
abbrev LJ:List Str:=["cards","couples"]
def yT:af WO LJ (zf LI):=bf
abbrev Qw:Stmt:=top 40
def mw:af ["sheet"] ["sheet"] (zf Qw):=bf
abbrev Qx:Stmt:=top 86
abbrev LL:List Str:=["sheet","judge","couple"]
def WQ:af ["sheet","judge","couple","step"] LL (zf Qx):=bf
abbrev Qy:Stmt:=top 42
def zlY:af ["sheet"] ["sheet"] (zf Qy):=bf
abbrev LM:Stmt:=top 82
abbrev zev:List Str:=["sheet","first","judge","couples"]
abbrev LN:List Str:=zev
def zls:af zev LN (zf LM):=bf
abbrev Qz:Stmt:=top 81
abbrev wb:List Str:=["sheet","first","judge","couples"]
def zg7:af wb wb (zf Qz):=bf
abbrev QA:Stmt:=top 80
abbrev LO:List Str:=["sheet","row"]
def WR:af ["sheet","row","said"] LO (zf QA):=bf
abbrev LP:Stmt:=top 79
abbrev WS:List Str:=["couples","judges","rows","sheet"]
abbrev LR:List Str:=["couples","judges","rows"]
def WT:af WS LR (zf LP):=bf
abbrev xJ:Stmt:=top 124
abbrev vE:List Str:=["_law_script","_law_mode","_law_couples_here","_law_names_here","_law_state","_law_cards","_law_left","_law_gone","_law_rows_here","_law_due","_law_cell","_law_pair","_law_handed","_law_found"]
def n8:af vE ["_law_script"] (zf xJ):=bf
section
variable {P:Program}{w:World}{K:Frag}{m:Str->Option Value}{b:Heap}{f:Addr}{fd:FuncData}(T:Txt K m)
inductive yH (K:Frag)(vs:List V)(H:Hp)(Q:VK)(E:XK):Prop|mk(p:Addr)(F:Addr->Prop)(S:Sh):vs=[.ref p]->aq K H p F S->((S.bG=true->∀C,aX K "SheetSealed" C->E (.ref C) none H))->((S.bG=false->Q .bR H))->yH K vs H Q E
include T in
theorem zc4(F:aS K "refuse_if_sealed" "Sheet.refuse_if_sealed" yQ f fd):ar P w K m b (dM P w) 1 f fd ["self"] (yH K):=by
 obtain⟨z,t,n,v⟩:=T.bh;refine F.ic zc3 ?_;rintro X W g A outer s H B Q E c r x i y⟨p,F,S,rfl,⟨a,k,l,o,d,u,h⟩,j,q⟩;subst c;refine⟨_,(ze (zu (mI (wI ak rfl)) (ze (yh rfl i rfl n v (za zm zb))) zn)),?_⟩;refine⟨_,rfl,p,_,a,_,_,rfl,h.ip,T.ai,T.dc,rfl,_,rfl,Az (λe=>?_) (λe=>q e)⟩;exact⟨(by show 1<=sizeLine;decide),by rw[r];exact j e _ t⟩
variable (FJ:ee P w K m b 1 (yu K "Sheet") "refuse_if_sealed" ["self"] (yH K))
inductive yo (K:Frag)(vs:List V)(H:Hp)(Q:VK)(E:XK):Prop|mk(p:Addr)(F:Addr->Prop)(S:Sh)(j:Str):vs=[.ref p,.str j]->aq K H p F S->((j∉S.ag->∀C,aX K "UnknownJudge" C->E (.ref C) none H))->((j∈S.ag->Q .bR H))->yo K vs H Q E
include T in
theorem zbA(F:aS K "refuse_unknown_judge" "Sheet.refuse_unknown_judge" yy f fd):ar P w K m b (dM P w) 1 f fd zH (yo K):=by
 obtain⟨B,t,n,v⟩:=T.aR;refine F.ic zbu ?_;rintro X W u A outer s H C Q E c r y i z⟨p,F,S,j,rfl,⟨a,l,o,g,d,x,h⟩,k,q⟩;subst c;refine⟨_,(ze (zu (zj yC aA (wI ak rfl) (by first | exact zl _ | rfl)) (ze (yh rfl i rfl n v (za zm zb))) zn)),?_⟩;refine⟨_,rfl,_,rfl,p,_,a,_,_,rfl,h.ip,T.ai,T.dG,rfl,_,_,rfl,.inl (ah.of h.i3),rfl,Oa _,_,rfl,?_⟩;rw[Ob];refine yl (λe=>?_) (λe=>q e);exact⟨(by show 1<=sizeLine;decide),by rw[r];exact k e _ t⟩
variable (LS:ee P w K m b 1 (yu K "Sheet") "refuse_unknown_judge" zH (yo K))
inductive QB (K:Frag)(vs:List V)(H:Hp)(Q:VK)(E:XK):Prop|mk(p:Addr)(F:Addr->Prop)(S:Sh):vs=[.ref p]->aq K H p F S->(∀(l:Addr)(e:Hp),ae H e->H l=none->e l=some (.lst (S.aa.map V.int))->Q (.ref l) e)->QB K vs H Q E
include T in
theorem zhe(F:aS K "couples" "Sheet.couples" Pf f fd):ar P w K m b bp 1 f fd y9 (QB K):=by
 refine F.ok zht ?_;rintro r A outer s H j Q E i⟨p,F,S,rfl,⟨t,v,n,a,d,c,h⟩,q⟩;refine⟨_,(ze (zh (zy yn (by rfl) T.cP boot_list (za (wI ak rfl) zb)))),?_⟩;exact⟨_,rfl,p,_,t,_,_,rfl,h.ip,T.ai,T.aV,rfl,_,_,rfl,.inl (ah.of h.i1),λl e=>q l _ (ae.new e) e zd⟩
variable (il:kA P w K m b 1 (yu K "Sheet") "couples" y9 (QB K))
inductive QC (K:Frag)(vs:List V)(H:Hp)(Q:VK)(E:XK):Prop|mk(p:Addr)(F:Addr->Prop)(S:Sh):vs=[.ref p]->nH K H p F S->S.ag.length<=15->(∀(l:Addr)(e:Hp),ae H e->H l=none->e l=some (.lst (S.handed.map V.str))->Q (.ref l) e)->QC K vs H Q E
include T in
theorem zh5(F:aS K "handed" "Sheet.handed" Kr f fd):ar P w K m b bp 1 f fd yJ (QC K):=by
 refine F.ok zh7 ?_;rintro D A outer s H J Q E y⟨p,F,S,rfl,⟨r,B,C,o,d,g,h⟩,I,q⟩;refine⟨_,(ze (zh (zN (show aj (zf Kr) yJ "judge" ["self"] [0] _ from dU) rfl (zz (wI ak rfl)) (λ_ _ _ _ _=>(yP (rV (El (Fc y) ak (AK (K:=K) rfl aA rfl))))) (λ_ _ _ _ _=>ak)))),?_⟩;have G:=zq;refine⟨_,rfl,p,_,r,_,_,rfl,h.ip,T.ai,T.dG,rfl,o,rfl,⟨_,ah.of h.i3⟩,?_⟩;refine yL (xs:=S.ag.map V.str) (λi v t=>t=H/\v=((S.ag.take i).filter λj=>(S.card j).isSome).map V.str) ⟨rfl,rfl⟩ ?_ (by rw[q06];lia) ?_ ?_
 .rintro i v t a ⟨rfl,rfl⟩;refine⟨ah.of h.i3,?_⟩;rw[q06];exact q38 (q09 _ _) (by rw[q11];lia)
 .rintro i x v t hx ⟨rfl,rfl⟩;obtain⟨a,rfl⟩:=DZ hx;refine⟨_,rfl,_,rfl,p,_,r,_,_,rfl,h.ip,T.ai,T.aG,rfl,d,_,rfl,gF.k (k:=Sum.inr (S.ag.getD i "")) h.i4,_,rfl,?_⟩;have z:(gE g (Sum.inr (S.ag.getD i ""))).isSome=(S.card (S.ag.getD i "")).isSome:=by
   cases e:S.card (S.ag.getD i "")with
   | none=>rw[h.cn _ e];rfl
   | some c=>obtain⟨l,u,_⟩:=h.cs _ _ e;rw[u];rfl
  rw[z];refine Az (λn=>?_) (λn=>?_)
  .refine⟨_,rfl,rfl,?_⟩;rw[yz a,q16,q17,q01 n,q07];rfl
  .refine⟨rfl,?_⟩;rw[yz a,q16,q17,q00 (by rw[n];exact q23)];simp
 .rintro v t ⟨rfl,rfl⟩ l hl;rw[q06,q15];exact q l _ (ae.new hl) hl zd
variable (rE:kA P w K m b 1 (yu K "Sheet") "handed" yJ (QC K))
inductive QD (K:Frag)(vs:List V)(H:Hp)(Q:VK)(E:XK):Prop|mk(a:Addr)(t:List Int)(n:Int):vs=[.ref a,.int n]->ah K H a (t.map V.int)->t.length<=1000->0<=n->n<=1000->(∀(l:Addr)(e:Hp),ae H e->H l=none->e l=some (.lst ((M5.key t n.toNat).map V.int))->Q (.ref l) e)->QD K vs H Q E
def n9(ns:List Int):gZ (ns.map V.int) []=decide (ns=[]):=by cases ns <;> rfl
include T in
theorem zni(F:aS K "_law_key" "_law_key" Ks f fd):ar P w K m b bp 1 f fd Kt (QD K):=by
 refine F.ok Ku ?_;rintro aN g4 outer g6 H vs g5 E Y⟨a,ms,n,rfl,X,hz,n0,n1,g2⟩;refine⟨_,(zc (br 2 Ku.nd (zv zb))
  (zc (wf PassesOwn.never rfl (Dl rfl T.bt (za zg (za (zo zS aA zg) zb))) (iH 3 Ku.nd)
    (zc (yN (i:=4) (show aj (zf Ks) Wk "_law_mark" ["_law_number"] [3] _ from dU) rfl Ku.nd rfl (Or.inl rfl) (zz ak) (λ_ _ _ _ _=>(yP (zj xb ak aA (zl _)))) (λ_ _ _ _ _=>ak))
  (zc (q9 (zu (PW.pt (Ab (zj (Fi Y.bE) aL (zv zb) (zl _)) (Aa (zj BZ (zo BY zg (yf T.az cO)) (yf T.az ak) (zl _))))) (ze (zI (yD PySem.F.plainAttrs_list PySem.F.slot_list_append PySem.F.type_list_append yj aL (za bB zb)))) zn))
  (ze (q9 (zu (zj (Hg Y.bE) aL (zv zb) (zl _)) (zc (zI (yD PySem.F.plainAttrs_list PySem.F.slot_list_append PySem.F.type_list_append yj aL (za (Dq Dt (yf T.az cO)) zb)))
  (ze (zI (yD PySem.F.plainAttrs_list PySem.F.slot_list_append PySem.F.type_list_append yj aL (za (zJ (Hc rfl) (by rfl) T.kI boot_sum (za cO zb)) zb))))) zn))))))
  (ze (zh aL)))),?_⟩
 have cF:=zq;refine⟨by decide,λt y=>?_⟩;refine⟨_,rfl,_,_,rfl,rfl,_,_,rfl,⟨by decide,by decide,by lia,by lia⟩,?_⟩;refine yx (λi O x=>∃(M N:Option V),O=[some (.ref a),some (.int n),some (.ref t),M,N]/\ae H x/\x t=some (.lst ((M5.key ms i).map V.int))) ⟨_,_,rfl,ae.new y,zd⟩ ?_ ?_
 .rintro i O x hi ⟨M,N,rfl,s2,e2⟩;have hi:i<1000:=by lia
  have Q:=M5.nJ ms i;have S:=s2.seq X;refine⟨_,rfl,a,rfl,⟨_,S⟩,?_⟩;refine Kc (ms:=ms) (n:=1+(i:Int)) S (by lia) (λg3 R h=>⟨_,rfl,_,rfl,_,_,rfl,rfl,_,rfl,h⟩) (λg3 R h=>⟨_,rfl,h⟩) ?_;intro v I;have en:(1:Int)+(i:Int)=(i:Int)+1:=by lia
  rw[en];have g1:(M3.got ms ((i:Int)+1)).length<=ms.length:=M3.A6 ms _;have C:M5.key ms (i+1)=(λa:List Int=>if a=[] then [] else a++[-((M3.got ms ((i:Int)+1)).length:Int),(M3.got ms ((i:Int)+1)).sum]) (if M5.key ms i=[]/\ms.length<2*(M3.got ms ((i:Int)+1)).length then [(i:Int)+1] else M5.key ms i):=rfl;generalize M3.got ms ((i:Int)+1)=g at g1 C ⊢;generalize M5.key ms i=j at Q C e2 ⊢;generalize J:upd x v _=D;have s3:ae H D:=by rw[<-J];exact s2.aw I
  have G:t≠v:=zk e2 I;have u:D t=some (.lst (j.map V.int)):=by rw[<-J,zi G];exact e2
  have A:D v=some (.lst (g.map V.int)):=by rw[<-J];exact zd
  have f3:H v=none:=s2.free I;refine⟨λB q=>B=[some (.ref a),some (.int n),some (.ref t),some (.int ((i:Int)+1)),some (.ref v)]/\ae H q/\q v=some (.lst (g.map V.int))/\q t=some (.lst ((if j=[]/\ms.length<2*g.length then [(i:Int)+1] else j).map V.int)),?_,?_⟩
  .refine⟨_,rfl,by decide,λk d=>?_⟩;have l:=s3.aw (o:=.lst []) d;have r:t≠k:=zk u d;have p:v≠k:=zk A d;refine⟨t,k,_,_,rfl,rfl,ah.of (by rw[zi r];exact u),ah.new,zA _,rfl,_,rfl,?_⟩;rw[n9];refine zX (λs=>?_) (λs=>j6 ⟨rfl,l,by rw[zi p];exact A,by rw[zi r,q00 (λz=>s z.1)];exact u⟩);refine⟨_,rfl,v,_,rfl,.inl (ah.of (by rw[zi p];exact A)),_,_,rfl,rfl,.inl ⟨by decide,by decide⟩,_,rfl,a,_,rfl,.inl (l.seq X),_,_,rfl,rfl,_,rfl,?_⟩;rw[q06,q06];refine zX (λW=>?_) (λW=>⟨rfl,l,by rw[zi p];exact A,by rw[zi r,q00 (λz=>W (by lia))];exact u⟩);refine⟨_,rfl,.inl ⟨rfl,_,ah.of (by rw[zi r];exact u)⟩,_,rfl,t,_,_,rfl,rfl,(by rw[zi r];exact u),(by rw[q06];lia),?_⟩;refine⟨rfl,l.put y,by rw[zi (Ne.symm G),zi p];exact A,?_⟩;rw[mU,q01 ⟨s,by lia⟩,s];rfl
  rintro B H5 ⟨rfl,s5,L,c⟩;have g0:(if j=[]/\ms.length<2*g.length then [(i:Int)+1] else j).length<=1+2*i:=by
   split
   .rw[q12,length_nil];lia
   .exact Q
  generalize (if j=[]/\ms.length<2*g.length then [(i:Int)+1] else j)=U at c C g0;refine⟨λB q=>B=[some (.ref a),some (.int n),some (.ref t),some (.int ((i:Int)+1)),some (.ref v)]/\ae H q/\q t=some (.lst ((if U=[] then [] else U++[-(g.length:Int),g.sum]).map V.int)),?_,?_⟩
  .refine⟨_,rfl,by decide,λk d=>?_⟩;have l:=s5.aw (o:=.lst []) d;have r:t≠k:=zk c d;have p:v≠k:=zk L d;refine⟨t,k,_,_,rfl,rfl,ah.of (by rw[zi r];exact c),ah.new,zA _,rfl,_,rfl,?_⟩;rw[n9];refine yl (λs=>?_) (λs=>⟨rfl,l,by rw[zi r,q01 s];rw[s]at c;exact c⟩);refine⟨_,rfl,.inl ⟨rfl,_,ah.of (by rw[zi r];exact c)⟩,_,rfl,v,_,rfl,.inl (ah.of (by rw[zi p];exact L)),_,rfl,t,_,_,rfl,rfl,(by rw[zi r];exact c),(by rw[q06];lia),?_⟩;rw[q06];refine⟨_,rfl,.inl ⟨rfl,_,ah.of zd⟩,_,rfl,v,g,rfl,ah.of (by rw[zi (Ne.symm G),zi p];exact L),t,_,_,rfl,rfl,zd,(by rw[q08,q06,q12,length_nil];lia),?_⟩;refine⟨rfl,(l.put y).put y,?_⟩;rw[zd,q00 s,q07,append_assoc];rfl
  rintro B H6 ⟨rfl,s6,Z⟩;exact⟨_,_,rfl,s6,by rw[C];exact Z⟩
 .rintro O x ⟨M,N,rfl,s2,e2⟩;have e:(n+1-1).toNat=n.toNat:=by lia
  rw[e]at e2;exact⟨_,rfl,g2 t _ s2 y e2⟩
variable (WU:bJ P w K m b 1 "_law_key" Kt (QD K))
inductive QF (K:Frag)(vs:List V)(H:Hp)(Q:VK)(E:XK):Prop|mk(a b:Addr)(v t:List Int):vs=[.ref a,.ref b]->ah K H a (v.map V.int)->ah K H b (t.map V.int)->v.length=t.length->t.length<=500->(∀(l:Addr)(e:Hp)(n:List Addr),ae H e->H l=none->e l=some (.lst (n.map V.ref))->All2 (iI K e) n (M5.rows v t)->Q (.ref l) e)->QF K vs H Q E
def WV{ps us:List Int}{j:Nat}(t:j<ps.length)(v:j<us.length):(ps.zip us).take (j+1)=(ps.zip us).take j++[(ps.getD j 0,us.getD j 0)]:=by
 have e:(ps.zip us)[j]? = some (ps.getD j 0,us.getD j 0):=by
  rw[q31 (by rw[length_zip];lia),List.getElem_zip,Fh t,Fh v]
 rw[take_succ,e];rfl
include T in
theorem znc(F:aS K "_law_rows" "_law_rows" Pg f fd):ar P w K m b bp 1 f fd Kv (QF K):=by
 refine F.ok Kw ?_;rintro W A outer g0 H vs Q E hr⟨a,b,n,t,rfl,L,y,Y,R,q⟩;refine⟨_,(zc (br 2 Kw.nd (zv zb))
  (zc (wf PassesOwn.never rfl (Dl rfl T.bt (za zg (za (zo zS (yf T.az aA) zg) zb))) (iH 3 Kw.nd)
    (ze (wf PassesOwn.never rfl (ww rfl T.bt (za (yf T.az aA) zb)) (iH 4 Kw.nd)
    (ze (zu (zj zG (zx zr ak cO bF) bB (zl _)) (ze (zI (yD PySem.F.plainAttrs_list PySem.F.slot_list_append PySem.F.type_list_append yj aL (za (oO (za bB (za (zx zr aA cO bF) zb))) zb)))) zn)))))
  (ze (zh aL)))),?_⟩
 have X:=zq;let F:=fun(i:Nat)=>(n.zip t).filter λp=>decide (p.1=(i:Int)+1);have M:∀i,(F i).length<=t.length:=λi=>by
  have:=q09 (λp=>decide (p.1=(i:Int)+1)) (n.zip t);rw[length_zip]at this;show(filter _ _).length<=_
  lia
 have N:∀i,((List.range i).flatMap F).length<=i*t.length:=λi=>by
  induction i with
  | zero=>simp
  | succ i ih =>
    rw[range_succ,flatMap_append,q08];have e:flatMap F [i]=F i:=by simp
    rw[e,Nat.succ_mul];have:=M i
    lia
 refine⟨by decide,λr o=>?_⟩;refine⟨_,rfl,b,_,rfl,.inl ((ae.new o).seq y),_,_,rfl,rfl,_,_,rfl,⟨by decide,by decide,by rw[q06];lia,by rw[q06];lia⟩,?_⟩;refine yx (λi c d=>∃(C s:Option V)(v:List Addr),c=[some (.ref a),some (.ref b),some (.ref r),C,s]/\ae H d/\d r=some (.lst (v.map V.ref))/\All2 (iI K d) v ((List.range i).flatMap F)) ⟨_,_,[],rfl,ae.new o,zd,.nil⟩ ?_ ?_
 .rintro i c d D ⟨C,s,v,rfl,s2,e2,r2⟩;have D:i<t.length:=by rw[q06]at D;lia
  have U:=N i;have Z:i*t.length<=500*500:=mul_le_mul (by lia) R;refine⟨_,rfl,b,_,rfl,.inl (s2.seq y),_,rfl,by lia,by rw[q06];lia,?_⟩;refine yx (λj c k=>∃(s:Option V)(v:List Addr),c=[some (.ref a),some (.ref b),some (.ref r),some (.int (1+(i:Int))),s]/\ae H k/\k r=some (.lst (v.map V.ref))/\All2 (iI K k) v ((List.range i).flatMap F++(((n.zip t).take j).filter λp=>decide (p.1=(i:Int)+1)))) ⟨_,v,rfl,s2,e2,by rw[take_zero,filter_nil,append_nil];exact r2⟩ ?_ ?_
  .rintro j c k l ⟨s,v,rfl,s3,e3,r3⟩;have l:j<t.length:=by rw[q06]at l;lia
   have u:j<n.length:=by lia
   have G:fN (n.map V.int) (0+(j:Int))=some (.int (n.getD j 0)):=by rw[Int.zero_add];exact zO (qZ u)
   have I:fN (t.map V.int) (0+(j:Int))=some (.int (t.getD j 0)):=by rw[Int.zero_add];exact zO (qZ l)
   have O:=r3.length;rw[q08]at O;have S:=q09 (λp=>decide (p.1=(i:Int)+1)) ((n.zip t).take j);rw[q11]at S;refine⟨_,rfl,_,rfl,a,_,_,_,rfl,rfl,s3.seq L,G,_,rfl,rfl,_,rfl,zX (λh=>?_) (λh=>?_)⟩
   .have h:n.getD j 0=(i:Int)+1:=by injection h with h;lia
    refine⟨_,rfl,.inl ⟨rfl,_,ah.of e3⟩,_,rfl,_,rfl,_,rfl,b,_,_,_,rfl,rfl,s3.seq y,I,(by show 2<=sizeLine;decide),λg B=>?_⟩;have x:r≠g:=zk e3 B;refine⟨r,_,_,rfl,rfl,(by rw[zi x];exact e3),(by rw[q06];lia),?_⟩;refine⟨_,v++[g],rfl,(s3.aw B).put o,ON v g,?_⟩;rw[WV u l,q16,filter_cons_of_pos (by simpa using h),filter_nil,<-append_assoc];refine All2.snoc (iI.put (r3.imp λ_ _=>iI.stays K _ _ _ _ (ae.new B)) (by rw[zi x];exact e3)) ?_;refine cE.put (ys:=v.map V.ref) ?_ (by rw[zi x];exact e3);show cE K _ g [.int (n.getD j 0),.int (t.getD j 0)];rw[h,Int.add_comm];exact cE.new
   .have h:¬n.getD j 0=(i:Int)+1:=λz=>h (by rw[z,Int.add_comm]);refine⟨_,v,rfl,s3,e3,?_⟩;rw[WV u l,q16,filter_cons_of_neg (by simpa using h),filter_nil,append_nil];exact r3
  .rintro c k ⟨s,v,rfl,s3,e3,r3⟩;refine⟨_,_,v,rfl,s3,e3,?_⟩;rw[range_succ,flatMap_append];have e:flatMap F [i]=F i:=by simp
   have J:(n.zip t).take ((t.map V.int).length:Int).toNat=n.zip t:=take_of_length_le (by rw[length_zip,q06];lia);rw[J]at r3;rw[e];exact r3
 .rintro c d ⟨C,s,v,rfl,s2,e2,r2⟩;have e:(((t.map V.int).length:Int)+1-1).toNat=t.length:=by rw[q06];lia
  rw[e]at r2;exact⟨_,rfl,q r _ v s2 o e2 r2⟩
variable (LU:bJ P w K m b 1 "_law_rows" Kv (QF K))
inductive QH (K:Frag)(vs:List V)(H:Hp)(Q:VK)(E:XK):Prop|mk(a b:Addr)(t v:List Int)(n:Nat):vs=[.ref a,.ref b,.int n]->ah K H a (t.map V.int)->ah K H b (v.map V.int)->t.length=v.length->t.length<=1000->n<=1000->((M6.wa t v n none->∀e,ae H e->Q .bR e))->((∀r,M6.wa t v n (some r)->∀(l:Addr)(e:Hp),ae H e->cE K e l [.int (r.1:Nat),.str r.2]->Q (.ref l) e))->QH K vs H Q E
include T in
theorem zmj(F:aS K "_law_part" "_law_part" Ie f fd):ar P w K m b bp 1 f fd Kx (QH K):=by
 refine F.ok Ky ?_;rintro aN g4 outer g5 H vs g0 E hr⟨a,b,ms,t,n,rfl,g,hB,hl,hz,hn,qn,qs⟩;refine⟨_,(zc (wf PassesOwn.never rfl (Dl rfl T.bt (za zg (za (zo zS aL zg) zb))) (iH 3 Ky.nd)
  (zc (yN (i:=4) (show aj (zf Ie) Ph "_law_mark" ["_law_number"] [3] _ from dU) rfl Ky.nd rfl (Or.inl rfl) (zz ak) (λ_ _ _ _ _=>(yP (zj xb ak aA (zl _)))) (λ_ _ _ _ _=>ak))
  (zc (yN (i:=5) (show aj (zf Ie) Ph "_law_mark" ["_law_number"] [3] _ from dU) rfl Ky.nd rfl (Or.inl rfl) (zz aA) (λ_ _ _ _ _=>(yP (zj xb ak aA (zl _)))) (λ_ _ _ _ _=>ak))
  (zc (q9 (zu (zj jb (sD BZ (zo BY zg (yf T.az cO)) (yf T.az ak) (zl _)) (sD BZ (zo BY zg (yf T.az fS)) (yf T.az ak) (zl _)) (zl _)) (ze (zh (oO (za bB (za zm zb))))) zn))
  (zc (q9 (zu (PW.pt (Ab (zj BZ (zo BY zg (yf T.az cO)) (yf T.az ak) (zl _)) (Aa (zj jb (yf T.az cO) (yf T.az fS) (zl _))))) (ze (zh (oO (za bB (za zm zb))))) zn))
  (ze (zu (PW.pt (Ab (zj BZ (zo BY zg (yf T.az cO)) (yf T.az ak) (zl _)) (Aa (zj jb (zJ (Hc rfl) (by rfl) T.kI boot_sum (za cO zb)) (zJ (Hc rfl) (by rfl) T.kI boot_sum (za fS zb)) (zl _))))) (ze (zh (oO (za bB (za zm zb))))) zn)))))))
  (ze (zh E4))),?_⟩
 have cF:=zq;refine⟨_,rfl,_,_,rfl,rfl,_,_,rfl,⟨by decide,by decide,by lia,by lia⟩,?_⟩;refine yx (λi X D=>∃(Q S U:Option V),X=[some (.ref a),some (.ref b),some (.int n),Q,S,U]/\ae H D/\∀j:Nat,1<=j->j<=i->M6.sg ms j=M6.sg t j) ⟨_,_,_,rfl,ae.refl _,λj s A=>by lia⟩ ?_ ?_
 .rintro i X D hi ⟨Q,S,U,rfl,s2,hj⟩;have hi:i<n:=by lia
  refine⟨_,rfl,a,rfl,⟨_,s2.seq g⟩,?_⟩;refine Kc (ms:=ms) (n:=1+(i:Int)) (s2.seq g) (by lia) (λx R h=>⟨_,rfl,_,rfl,_,_,rfl,rfl,_,rfl,h⟩) (λx R h=>⟨_,rfl,h⟩) ?_;intro c eK;have N:=s2.aw (o:=.lst ((M3.got ms (1+(i:Int))).map V.int)) eK;refine⟨_,rfl,b,rfl,⟨_,N.seq hB⟩,?_⟩;refine Kc (ms:=t) (n:=1+(i:Int)) (N.seq hB) (by lia) (λx R h=>⟨_,rfl,_,rfl,_,_,rfl,rfl,_,rfl,h⟩) (λx R h=>⟨_,rfl,h⟩) ?_;intro l rF;have en:(1:Int)+(i:Int)=((i+1:Nat):Int):=by lia
  have vF:c≠l:=zk zd rF;generalize W:upd (upd D c _) l _=y;have d:ae H y:=by rw[<-W];exact N.aw rF
  have t3:y c=some (.lst ((M3.got ms (1+(i:Int))).map V.int)):=by rw[<-W,zi vF];exact zd
  have t4:y l=some (.lst ((M3.got t (1+(i:Int))).map V.int)):=by rw[<-W];exact zd
  rw[en]at t3 t4 ⊢;have c3:(M3.got ms ((i+1:Nat):Int)).length=M3.cnt ms ((i+1:Nat):Int):=rfl;have c4:(M3.got t ((i+1:Nat):Int)).length=M3.cnt t ((i+1:Nat):Int):=rfl;have m3:(M3.got ms ((i+1:Nat):Int)).sum=M3.sm ms ((i+1:Nat):Int):=rfl;have m4:(M3.got t ((i+1:Nat):Int)).sum=M3.sm t ((i+1:Nat):Int):=rfl;have O:∀(w:Str),M6.sg ms ((i+1:Nat):Int)≠M6.sg t ((i+1:Nat):Int)->w=M6.Be (M6.sg ms ((i+1:Nat):Int)) (M6.sg t ((i+1:Nat):Int))->∀(G:Hp),ae H G->∀p,G p=none->g0 (.ref p) (upd G p (.tup [.int ((i+1:Nat):Int),.str w])):=λw q hw G s5 p hp =>
   qs (i+1,w) ⟨Nat.succ_le_succ (zero_le _),hi,λj s A=>hj j s (Nat.le_of_lt_succ A),q,hw⟩ p _ (s5.aw hp) cE.new
  generalize hk:((i+1:Nat):Int)=k at *;have B:=ah.of (K:=K) t3;have M:=ah.of (K:=K) t4;have I:(M3.got ms k).length=M3.cnt ms k:=rfl;have g2:(M3.got t k).length=M3.cnt t k:=rfl;refine⟨λC L=>C=[some (.ref a),some (.ref b),some (.int n),some (.int k),some (.ref c),some (.ref l)]/\L=y/\(t.length<2*M3.cnt t k↔ms.length<2*M3.cnt ms k),?_,?_⟩
  .refine⟨_,rfl,c,_,rfl,.inl B,_,_,rfl,rfl,.inl ⟨by decide,by decide⟩,_,rfl,a,_,rfl,.inl (d.seq g),_,_,rfl,rfl,_,rfl,l,_,rfl,.inl M,_,_,rfl,rfl,.inl ⟨by decide,by decide⟩,_,rfl,a,_,rfl,.inl (d.seq g),_,_,rfl,rfl,rfl,_,rfl,?_⟩;rw[q06,q06,q06,I,g2];refine yl (λq=>?_) (λr=>?_)
   .have kJ:¬(ms.length<2*M3.cnt ms k↔t.length<2*M3.cnt t k):=λz=>q (by
     show V.bl (decide ((ms.length:Int)<2*(M3.cnt ms k:Int)))=V.bl (decide ((ms.length:Int)<2*(M3.cnt t k:Int)));rw[decide_eq_decide.mpr (show(ms.length:Int)<2*(M3.cnt ms k:Int)↔(ms.length:Int)<2*(M3.cnt t k:Int)by lia)])
    refine⟨_,rfl,(by show 2<=sizeLine;decide),O "half" (λz=>kJ ?_) ?_ y d⟩
    .by_cases v:ms.length<2*M3.cnt ms k
     .by_cases c2:t.length<2*M3.cnt t k
      .exact⟨λ_=>c2,λ_=>v⟩
      .rw[M6.wm v,M6.Cw (by lia)]at z;cases z
     .by_cases c2:t.length<2*M3.cnt t k
      .rw[M6.Cw (by lia),M6.wm c2]at z;cases z
      .exact⟨λz=>q02 z v,λz=>q02 z c2⟩
    .by_cases v:ms.length<2*M3.cnt ms k
     .by_cases c2:t.length<2*M3.cnt t k
      .exact q02 ⟨λ_=>c2,λ_=>v⟩ kJ
      .rw[M6.wm v,M6.Cw (by lia)];rfl
     .rw[M6.Cw (show 2*M3.cnt ms k<=ms.length by lia)];rfl
   .refine⟨rfl,rfl,?_⟩;injection r with r
    have:=decide_eq_decide.mp r
    lia
  rintro C L ⟨rfl,rfl,u⟩;refine⟨λC Y=>C=[some (.ref a),some (.ref b),some (.int n),some (.int k),some (.ref c),some (.ref l)]/\Y=L/\(ms.length<2*M3.cnt ms k->M3.cnt ms k=M3.cnt t k),?_,?_⟩
  .refine⟨_,rfl,c,_,rfl,.inl B,_,_,rfl,rfl,.inl ⟨by decide,by decide⟩,_,rfl,a,_,rfl,.inl (d.seq g),_,_,rfl,rfl,_,rfl,?_⟩;rw[q06,q06,I];refine zX (λs=>?_) (λs=>j6 ⟨rfl,rfl,λz=>q02 (show(ms.length:Int)<2*(M3.cnt ms k:Int)by lia) s⟩);refine⟨_,rfl,c,_,rfl,.inl B,_,rfl,l,_,rfl,.inl M,rfl,_,rfl,?_⟩;rw[q06,q06,I,g2];refine yl (λq=>?_) (λr=>⟨rfl,rfl,λ_=>by injection r with r;lia⟩);have v:ms.length<2*M3.cnt ms k:=by lia
   have J:¬M3.cnt ms k=M3.cnt t k:=λz=>q (by rw[z]);refine⟨_,rfl,(by show 2<=sizeLine;decide),O "count" (λz=>J ?_) ?_ _ d⟩
   .rw[M6.wm v,M6.wm (u.mpr v)]at z;injection z with z
    have:=(Prod.mk.inj z).1
    lia
   .rw[M6.wm v,M6.wm (u.mpr v)];show _=if((M3.cnt ms k:Nat):Int)=(M3.cnt t k:Nat)then _ else _
    rw[q00 (by lia)]
  rintro C Y ⟨rfl,rfl,Z⟩;refine⟨_,rfl,c,_,rfl,.inl B,_,_,rfl,rfl,.inl ⟨by decide,by decide⟩,_,rfl,a,_,rfl,.inl (d.seq g),_,_,rfl,rfl,_,rfl,?_⟩;rw[q06,q06,I];have same:M6.sg ms k=M6.sg t k->∀j:Nat,1<=j->j<=i+1->M6.sg ms j=M6.sg t j:=λe j s A=>by
   by_cases g3:j<=i
   .exact hj j s g3
   .have:j=i+1:=by lia
    subst this;rw[hk];exact e
  refine zX (λs=>?_) (λs=>j6 ⟨_,_,_,rfl,d,same ?_⟩)
  .have v:ms.length<2*M3.cnt ms k:=by lia
   refine⟨_,rfl,c,_,rfl,B,_,rfl,l,_,rfl,M,rfl,_,rfl,yl (λq=>?_) (λr=>⟨_,_,_,rfl,d,same ?_⟩)⟩
   .have J:¬M3.sm ms k=M3.sm t k:=λz=>q (by show V.int (M3.sm ms k)=V.int (M3.sm t k);rw[z]);refine⟨_,rfl,(by show 2<=sizeLine;decide),O "sum" (λz=>J ?_) ?_ _ d⟩
    .rw[M6.wm v,M6.wm (u.mpr v)]at z;injection z with z
     exact(Prod.mk.inj z).2
    .rw[M6.wm v,M6.wm (u.mpr v)];show _=if((M3.cnt ms k:Nat):Int)=(M3.cnt t k:Nat)then _ else _
     rw[q01 (by rw[Z v])]
   .injection r with r
    have r:M3.sm ms k=M3.sm t k:=r;rw[M6.wm v,M6.wm (u.mpr v),Z v,r]
  .rw[M6.Cw (by lia),M6.Cw (by lia)]
 .rintro X D ⟨Q,S,U,rfl,s2,hj⟩;have e:((n:Int)+1-1).toNat=n:=by lia
  rw[e]at hj;exact qn (λk s A=>hj k s A) _ s2
variable (WW:bJ P w K m b 1 "_law_part" Kx (QH K))
inductive QK (K:Frag)(vs:List V)(H:Hp)(Q:VK)(E:XK):Prop|mk(a b:Addr)(ns e:List Int):vs=[.ref a,.ref b]->ah K H a (ns.map V.int)->ah K H b (e.map V.int)->e.Nodup->Q (.bl (decide (ns.Perm e))) H->QK K vs H Q E
variable {ns ms:List Int}
def qp(t:ms.Nodup)(h:∀x∈ms,ns.count x=1)(e:ns.length=ms.length):ns.Perm ms :=
 (M1.Vg t (λx v=>List.count_pos_iff.mp (by rw[h x v];decide)) (le_of_eq e)).symm
def zns(e:ms.Nodup)(h:ns.Perm ms){x:Int}(t:x∈ms):ns.count x=1:=by
 rw[h.count_eq];exact M1.pG e t
include T in
theorem zmm(F:aS K "_law_good" "_law_good" Pj f fd):ar P w K m b bp 1 f fd Kz (QK K):=by
 refine F.ok Wl ?_;rintro g A outer s H y Q E u⟨a,b,ns,ms,rfl,r,c,l,q⟩;refine⟨_,(zc (wf PassesOwn.never rfl (zz aA) (iH 2 Wl.nd)
  (ze (zu (zj jb (yD PySem.F.plainAttrs_list PySem.F.slot_list_count PySem.F.type_list_count tw ak (za aL zb)) zg (zl _)) (ze (zh oB)) zn)))
  (ze (zh (sD zG (yf T.az ak) (yf T.az aA) (zl _))))),?_⟩
 refine⟨_,rfl,b,rfl,⟨_,c⟩,Jy (K:=K) (a:=b) (xs:=ms.map V.int) (λi n v=>∃(j:Option V),n=[some (.ref a),some (.ref b),j]/\v=H/\∀x∈ms.take i,ns.count x=1)
  ⟨_,rfl,rfl,λx t=>by simp at t⟩ (λi n v _ ⟨_,_,e,_⟩=>by rw[e];exact c) ?_ ?_⟩
 .rintro i x n v t ⟨j,rfl,rfl,hc⟩;obtain⟨k,rfl⟩:=yU t;refine⟨_,rfl,.inl ⟨rfl,_,r⟩,_,rfl,a,_,_,rfl,rfl,r,rfl,zA _,?_⟩;rw[lJ];refine⟨rfl,_,rfl,yl (λo=>?_) (λd=>?_)⟩
  .show Q (.bl false) _;have:¬ns.Perm ms:=λp=>o (by rw[zns l p (tG k)];rfl);rw[q20 this]at q;exact q
  .refine⟨_,rfl,rfl,λx t=>?_⟩;rw[yX k]at t;rcases List.mem_append.mp t with h | h
   .exact hc x h
   .rw[List.mem_singleton.mp h];injection d with d
    exact Int.ofNat.inj d
 .rintro n v ⟨j,rfl,rfl,hc⟩;rw[q06,q15]at hc;refine⟨_,rfl,a,_,rfl,.inl r,_,rfl,b,_,rfl,.inl c,rfl,?_⟩;rw[q06,q06];have e:decide (V.int (ns.length:Int)=V.int (ms.length:Int))=decide (ns.Perm ms):=by
   by_cases h:ns.Perm ms
   .rw[q19 h,h.length_eq];exact q19 rfl
   .rw[q20 h];refine q20 λz=>h (qp l hc ?_);injection z with z
    exact Int.ofNat.inj z
  rw[e];exact q
variable (WY:bJ P w K m b 1 "_law_good" Kz (QK K))
inductive QL (K:Frag)(vs:List V)(H:Hp)(Q:VK)(E:XK):Prop|mk(a:Addr)(ns:List Int)(c:Int):vs=[.ref a,.int c]->ah K H a (ns.map V.int)->ns≠[]->ns.length<=30->((∀n∈ns,1<=n/\n<=999))->(∀(l:Addr)(e:Hp)(ms:List Int),ae H e->H l=none->e l=some (.lst (ms.map V.int))->ms.length<=ns.length+1->(∀m∈ms,Nn m)->Q (.ref l) e)->QL K vs H Q E
include T in
theorem zjl(F:aS K "_law_spoiled" "_law_spoiled" Pk f fd):ar P w K m b bp 1 f fd KA (QL K):=by
 refine F.ok KC ?_;rintro aN g4 outer g6 H vs g5 E hr⟨a,ns,c,rfl,y,bz,hz,R,q⟩;refine⟨_,(zc (br 2 KC.nd (zo zW (zo yB aA zg) (yf T.az ak)))
  (zc (br 3 KC.nd (zx zr ak (zo zW (zo yB aA zg) (yf T.az ak)) bF))
  (zc (br 4 KC.nd (zx zr (zv (za zg (za (Dq Dt zg) (za zg (za (zo Ds zg zg) (za (zo zS (zx zr ak aL bF) zg) zb)))))) (zo zW (zo yB aA zg) zg) bF))
  (zc (zu (zj zG (zo zW aA zg) zg (zl _)) (ze (zh (zo yd (zF zV ak zR (zK aL)) (zF zV ak (zK (zo zS aL zg)) zR)))) zn)
  (zc (zu (zj zG (zo zW aA zg) zg (zl _)) (ze (zh (zo yd (zo yd (zF zV ak zR (zK aL)) (zv (za bB zb))) (zF zV ak (zK (zo zS aL zg)) zR)))) zn)
  (zc (zu (zj zG (zo zW aA zg) zg (zl _)) (ze (zh (zo yd (zo yd (zF zV ak zR (zK aL)) (zv (za bB zb))) (zF zV ak (zK aL) zR)))) zn)
  (zc (zu (zj zG (zo zW aA zg) zg (zl _)) (ze (zh (zo yd (zo yd (zF zV ak zR (zK aL)) (zv (za cO zb))) (zF zV ak (zK (zo zS aL zg)) zR)))) zn)
  (zc (zu (zj zG (zo zW aA zg) zg (zl _)) (ze (zh (zo yd (zo yd (zF zV ak zR (zK aL)) (zv (za cO zb))) (zF zV ak (zK aL) zR)))) zn)
  (ze (zh (zv zb))))))))))),?_⟩
 have hl:=zq;have AG:=List.length_pos_iff.mpr bz;have hL:((ns.map V.int).length:Int)=ns.length:=by rw[q06]
 refine⟨_,rfl,_,_,rfl,rfl,⟨by decide,by decide⟩,_,rfl,a,_,rfl,.inl y,?_⟩;rw[hL];refine⟨_,_,rfl,rfl,(by show(0:Int)<ns.length;lia),?_⟩;dsimp only;have G:=Int.emod_nonneg (c/6) (b:=(ns.length:Int)) (by lia);have Z:=Int.emod_lt_of_pos (c/6) (b:=(ns.length:Int)) (by lia);generalize c/6%(ns.length:Int)=e at G Z ⊢;have g0:=Int.emod_nonneg (c/144) (b:=(ns.length:Int)) (by lia);have g1:=Int.emod_lt_of_pos (c/144) (b:=(ns.length:Int)) (by lia);refine⟨_,rfl,_,rfl,_,_,rfl,rfl,⟨by decide,by decide⟩,_,rfl,a,_,rfl,.inl y,?_⟩;rw[hL];refine⟨_,_,rfl,rfl,(by show(0:Int)<ns.length;lia),a,_,_,_,rfl,rfl,y,xj g0 g1,?_⟩;have U:Nn (ns.getD (c/144%(ns.length:Int)).toNat 0):=.inl (R _ (tG (by lia)));generalize ns.getD (c/144%(ns.length:Int)).toNat 0=M at U ⊢;refine⟨_,rfl,_,_,rfl,rfl,⟨by decide,by decide,by decide⟩,_,rfl,_,rfl,a,_,_,_,rfl,rfl,y,xj G Z,_,_,rfl,rfl,(by show 5<=sizeLine;decide),λX IA=>?_⟩;generalize kW:upd H X _=Y;have D:ae H Y:=by rw[<-kW];exact ae.new IA
 have t1:Y X=some (.lst ([0,-1,1000,10 ^ (30:Int).toNat,ns.getD e.toNat 0+1].map V.int)):=by rw[<-kW];exact zd
 have h5:0<=c/3456%5/\c/3456%5<5:=⟨Int.emod_nonneg _ (by decide),Int.emod_lt_of_pos _ (by decide)⟩;refine⟨_,rfl,_,_,rfl,rfl,⟨by decide,by decide⟩,_,_,rfl,rfl,(by show(0:Int)<5;decide),X,[0,-1,1000,10 ^ (30:Int).toNat,ns.getD e.toNat 0+1].map V.int,_,_,rfl,rfl,ah.of t1,xj h5.1 (by simpa using h5.2),?_⟩;have W:Nn ([0,-1,1000,10 ^ (30:Int).toNat,ns.getD e.toNat 0+1].getD (c/3456%5).toNat 0):=by
  have h:=tG (ns:=[0,-1,1000,10 ^ (30:Int).toNat,ns.getD e.toNat 0+1]) (i:=(c/3456%5).toNat) (by show(c/3456%5).toNat<5;lia);have hg:=R _ (tG (ns:=ns) (i:=e.toNat) (by lia));generalize getD [0,-1,1000,10 ^ (30:Int).toNat,ns.getD e.toNat 0+1] (c/3456%5).toNat 0=x at h ⊢;simp only[q27,not_mem_nil,or_false]at h;unfold Nn;rcases h with h | h | h | h | h
  .lia
  .lia
  .lia
  .exact .inr (.inr (.inr (.inr (h.trans (by decide +kernel)))))
  .lia
 generalize [0,-1,1000,10 ^ (30:Int).toNat,ns.getD e.toNat 0+1].getD (c/3456%5).toNat 0=L at W ⊢;have C:∀{a b:List Int},(∀m∈a,Nn m)->(∀m∈b,Nn m)->∀m∈a++b,Nn m:=λx g3 m h=>(List.mem_append.mp h).elim (x m) (g3 m);have Q:∀k,∀m∈ns.take k,Nn m:=λk m h=>.inl (R m (List.mem_of_mem_take h));have O:∀k,∀m∈ns.drop k,Nn m:=λk m h=>.inl (R m (List.mem_of_mem_drop h));have S:∀{x},Nn x->∀m ∈ [x],Nn m:=λh m g2=>by rw[List.mem_singleton.mp g2];exact h
 have N:=D.seq y;refine⟨_,rfl,_,_,rfl,rfl,(by show(0:Int)<6;decide),rfl,_,rfl,zX (λ_=>?_) (λ_=>?_)⟩
 .refine⟨_,rfl,_,rfl,_,rfl,a,_,rfl,N,λt s=>?_⟩;rw[Cb G];have z:=D.aw (o:=.lst ((ns.take e.toNat).map V.int)) s;refine⟨_,rfl,_,rfl,_,_,rfl,rfl,_,rfl,a,_,rfl,z.seq y,λn v=>?_⟩;rw[wY (by lia)];have A:=z.aw (o:=.lst ((ns.drop (e+1).toNat).map V.int)) v;have B:t≠n:=zk zd v;refine⟨t,n,_,_,rfl,rfl,by rw[zi B];exact zd,zd,by simp only[q06,q11,length_drop];lia,λr u=>?_⟩;rw[<-q07];exact q r _ _ (A.aw u) (A.free u) zd (by simp only[q08,q11,length_drop];lia) (C (Q _) (O _))
 refine⟨_,rfl,_,_,rfl,rfl,(by show(0:Int)<6;decide),rfl,_,rfl,zX (λ_=>?_) (λ_=>?_)⟩
 .refine⟨_,rfl,_,rfl,_,rfl,a,_,rfl,N,λt s=>?_⟩;rw[Cb G];have z:=D.aw (o:=.lst ((ns.take e.toNat).map V.int)) s;refine⟨_,rfl,(by show 1<=sizeLine;decide),λn v=>?_⟩;have A:=z.aw (o:=.lst ([M].map V.int)) v;have B:t≠n:=zk zd v;refine⟨t,n,_,[M].map V.int,rfl,rfl,by rw[zi B];exact zd,zd,by simp only[q06,q11,q12,length_nil];lia,λr u=>?_⟩;rw[<-q07];have p:=A.aw (o:=.lst ((ns.take e.toNat++[M]).map V.int)) u;refine⟨_,rfl,_,rfl,_,_,rfl,rfl,_,rfl,a,_,rfl,p.seq y,λj d=>?_⟩;rw[wY (by lia)];have g:=p.aw (o:=.lst ((ns.drop (e+1).toNat).map V.int)) d;have J:r≠j:=zk zd d;refine⟨r,j,_,_,rfl,rfl,by rw[zi J];exact zd,zd,by simp only[q06,q08,q11,length_drop,q12,length_nil];lia,λI l=>?_⟩;rw[<-q07];exact q I _ _ (g.aw l) (g.free l) zd (by simp only[q08,q11,length_drop,q12,length_nil];lia) (C (C (Q _) (S U)) (O _))
 refine⟨_,rfl,_,_,rfl,rfl,(by show(0:Int)<6;decide),rfl,_,rfl,zX (λ_=>?_) (λ_=>?_)⟩
 .refine⟨_,rfl,_,rfl,_,rfl,a,_,rfl,N,λt s=>?_⟩;rw[Cb G];have z:=D.aw (o:=.lst ((ns.take e.toNat).map V.int)) s;refine⟨_,rfl,(by show 1<=sizeLine;decide),λn v=>?_⟩;have A:=z.aw (o:=.lst ([M].map V.int)) v;have B:t≠n:=zk zd v;refine⟨t,n,_,[M].map V.int,rfl,rfl,by rw[zi B];exact zd,zd,by simp only[q06,q11,q12,length_nil];lia,λr u=>?_⟩;rw[<-q07];have p:=A.aw (o:=.lst ((ns.take e.toNat++[M]).map V.int)) u;refine⟨_,rfl,_,rfl,_,rfl,a,_,rfl,p.seq y,λj d=>?_⟩;rw[wY (by lia)];have g:=p.aw (o:=.lst ((ns.drop e.toNat).map V.int)) d;have J:r≠j:=zk zd d;refine⟨r,j,_,_,rfl,rfl,by rw[zi J];exact zd,zd,by simp only[q06,q08,q11,length_drop,q12,length_nil];lia,λI l=>?_⟩;rw[<-q07];exact q I _ _ (g.aw l) (g.free l) zd (by simp only[q08,q11,length_drop,q12,length_nil];lia) (C (C (Q _) (S U)) (O _))
 refine⟨_,rfl,_,_,rfl,rfl,(by show(0:Int)<6;decide),rfl,_,rfl,zX (λ_=>?_) (λ_=>?_)⟩
 .refine⟨_,rfl,_,rfl,_,rfl,a,_,rfl,N,λt s=>?_⟩;rw[Cb G];have z:=D.aw (o:=.lst ((ns.take e.toNat).map V.int)) s;refine⟨_,rfl,(by show 1<=sizeLine;decide),λn v=>?_⟩;have A:=z.aw (o:=.lst ([L].map V.int)) v;have B:t≠n:=zk zd v;refine⟨t,n,_,[L].map V.int,rfl,rfl,by rw[zi B];exact zd,zd,by simp only[q06,q11,q12,length_nil];lia,λr u=>?_⟩;rw[<-q07];have p:=A.aw (o:=.lst ((ns.take e.toNat++[L]).map V.int)) u;refine⟨_,rfl,_,rfl,_,_,rfl,rfl,_,rfl,a,_,rfl,p.seq y,λj d=>?_⟩;rw[wY (by lia)];have g:=p.aw (o:=.lst ((ns.drop (e+1).toNat).map V.int)) d;have J:r≠j:=zk zd d;refine⟨r,j,_,_,rfl,rfl,by rw[zi J];exact zd,zd,by simp only[q06,q08,q11,length_drop,q12,length_nil];lia,λI l=>?_⟩;rw[<-q07];exact q I _ _ (g.aw l) (g.free l) zd (by simp only[q08,q11,length_drop,q12,length_nil];lia) (C (C (Q _) (S W)) (O _))
 refine⟨_,rfl,_,_,rfl,rfl,(by show(0:Int)<6;decide),rfl,_,rfl,zX (λ_=>?_) (λ_=>?_)⟩
 .refine⟨_,rfl,_,rfl,_,rfl,a,_,rfl,N,λt s=>?_⟩;rw[Cb G];have z:=D.aw (o:=.lst ((ns.take e.toNat).map V.int)) s;refine⟨_,rfl,(by show 1<=sizeLine;decide),λn v=>?_⟩;have A:=z.aw (o:=.lst ([L].map V.int)) v;have B:t≠n:=zk zd v;refine⟨t,n,_,[L].map V.int,rfl,rfl,by rw[zi B];exact zd,zd,by simp only[q06,q11,q12,length_nil];lia,λr u=>?_⟩;rw[<-q07];have p:=A.aw (o:=.lst ((ns.take e.toNat++[L]).map V.int)) u;refine⟨_,rfl,_,rfl,_,rfl,a,_,rfl,p.seq y,λj d=>?_⟩;rw[wY (by lia)];have g:=p.aw (o:=.lst ((ns.drop e.toNat).map V.int)) d;have J:r≠j:=zk zd d;refine⟨r,j,_,_,rfl,rfl,by rw[zi J];exact zd,zd,by simp only[q06,q08,q11,length_drop,q12,length_nil];lia,λI l=>?_⟩;rw[<-q07];exact q I _ _ (g.aw l) (g.free l) zd (by simp only[q08,q11,length_drop,q12,length_nil];lia) (C (C (Q _) (S W)) (O _))
 exact⟨(by show 0<=sizeLine;decide),λt s=>q t _ [] (D.aw s) (D.free s) zd (zero_le _) (λm h=>nomatch h)⟩
variable (WZ:bJ P w K m b 1 "_law_spoiled" KA (QL K))
inductive QN (K:Frag)(vs:List V)(H:Hp)(Q:VK)(E:XK):Prop|mk(a:Addr)(ns:List Int)(c:Int):vs=[.ref a,.int c]->ah K H a (ns.map V.int)->ns.length<=1000->(∀(l:Addr)(e:Hp),ae H e->H l=none->e l=some (.lst ((ns.filter λo => !decide (o=c)).map V.int))->Q (.ref l) e)->QN K vs H Q E
include T in
theorem zjv(F:aS K "_law_without" "_law_without" KD f fd):ar P w K m b bp 1 f fd KG (QN K):=by
 refine F.ok ziN ?_;rintro r A outer s H k Q E d⟨a,ns,c,rfl,n,j,q⟩;refine⟨_,(ze (zh (zN (show aj (zf KD) Pl "_law_other" ["_law_couple"] [1] _ from dU) rfl (zz ak) (λ_ _ _ _ _=>(yP (zj jb ak aA (zl _)))) (λ_ _ _ _ _=>ak)))),?_⟩;refine⟨_,rfl,a,rfl,⟨_,n⟩,?_⟩;refine yL (xs:=ns.map V.int) (λi t e=>e=H/\t=((ns.take i).filter λo => !decide (o=c)).map V.int) ⟨rfl,rfl⟩ ?_ (by rw[q06];have:=zq;lia) ?_ ?_
 .rintro i t e v ⟨rfl,rfl⟩;refine⟨n,?_⟩;rw[q06];have:=q09 (λo => !decide (o=c)) (ns.take i);rw[q11]at this
  lia
 .rintro i x t e hx ⟨rfl,rfl⟩;obtain⟨v,rfl⟩:=yU hx;refine⟨_,rfl,_,rfl,rfl,_,rfl,yl (λh=>?_) (λh=>?_)⟩
  .have h:¬ns.getD i 0=c:=λz=>h (by rw[z]);refine⟨_,rfl,rfl,?_⟩;rw[yX v,q16,filter_cons_of_pos (by simpa using h),q07];rfl
  .have h:ns.getD i 0=c:=by injection h
   refine⟨rfl,?_⟩;rw[yX v,q16,filter_cons_of_neg (by simpa using h),filter_nil,append_nil]
 .rintro t e ⟨rfl,rfl⟩ l hl;rw[q06,q15];exact q l _ (ae.new hl) hl zd
variable (W2:bJ P w K m b 1 "_law_without" KG (QN K))
inductive QO (K:Frag)(vs:List V)(H:Hp)(Q:VK)(E:XK):Prop|mk(a:Addr)(v:List V)(e:List Str):vs=[.ref a]->ah K H a v->All2 eW v e->e.length<=200->((∀w∈e,w.length<=2000))->(∀t,ae H t->Q (.str (Txt.join M6.zE e)) t)->QO K vs H Q E
include T in
theorem zlz(F:aS K "_law_words" "_law_words" KH f fd):ar P w K m b bp 1 f fd wP (QO K):=by
 refine F.ok zlf ?_;rintro u A outer s H B Q E z⟨a,xs,v,rfl,r,h,j,k,q⟩;refine⟨_,(ze (zh (yD PySem.F.plainAttrs_str PySem.F.slot_str_join PySem.F.type_str_join Hu zm (za (zN (show aj (zf KH) wP "_law_thing" [] [] _ from dU) rfl (zz ak) (λ_ _ _ _ _=>yA) (λ_ _ _ _ _=>(zy wq (by rfl) T.cb boot_str (za ak zb)))) zb)))),?_⟩;have y:=zq;have o:=h.length;refine⟨rfl,_,rfl,a,rfl,⟨_,r⟩,?_⟩;refine zY (xs:=xs) (λi n t=>t=H/\n=(v.take i).map V.str) ⟨rfl,rfl⟩ ?_ (by lia) ?_ ?_
 .rintro i n t hi ⟨rfl,rfl⟩;exact⟨r,by rw[q06,q11];lia⟩
 .rintro i x n t hx ⟨rfl,rfl⟩;obtain⟨w,c,p⟩:=h.getL hx;have e:(v.take (i+1)).map V.str=(v.take i).map V.str++[.str w]:=by rw[take_succ,c,q07];rfl
  cases p with
  | int d=>exact⟨_,rfl,.inl ⟨_,rfl,yI d,rfl,e.symm⟩⟩
  | big=>exact⟨_,rfl,.inl ⟨_,rfl,(by decide +kernel),rfl,e.symm⟩⟩
  | str=>exact⟨_,rfl,.inr ⟨_,rfl,rfl,e.symm⟩⟩
 rintro n t ⟨rfl,rfl⟩ l g;rw[o,q15];refine⟨_,l,v,rfl,rfl,ah.new,by decide +kernel,j,k,?_⟩;exact q _ (ae.new g)
variable (og:bJ P w K m b 1 "_law_words" wP (QO K))
inductive QP (K:Frag)(vs:List V)(H:Hp)(Q:VK)(E:XK):Prop|mk(a:Addr)(ms:List Int)(n:Nat):vs=[.ref a,.int n]->ah K H a (ms.map V.int)->ms.length<=15->((∀x∈ms,1<=x/\x<=24))->n<=24->(∀(l:Addr)(e:Hp),ae H e->H l=none->e l=some (.lst ((M6.kF ms n).map V.str))->Q (.ref l) e)->QP K vs H Q E
include T in
theorem zkd(F:aS K "_law_ladder" "_law_ladder" KI f fd):ar P w K m b bp 1 f fd KJ (QP K):=by
 refine F.ok KL ?_;rintro J A outer s H X Q E O⟨a,ms,n,rfl,p,C,g,N,q⟩;refine⟨_,(zc (br 2 KL.nd (zv zb))
  (zc (wf PassesOwn.never rfl (Dl rfl T.bt (za zg (za (zo zS aA zg) zb))) (iH 3 KL.nd)
    (zc (yN (i:=4) (show aj (zf KI) Wm "_law_mark" ["_law_number"] [3] _ from dU) rfl KL.nd rfl (Or.inl rfl) (zz ak) (λ_ _ _ _ _=>(yP (zj xb ak aA (zl _)))) (λ_ _ _ _ _=>ak))
  (ze (zI (yD PySem.F.plainAttrs_list PySem.F.slot_list_append PySem.F.type_list_append yj aL (za (zo zC (zo zC (zy wq (by rfl) T.cb boot_str (za (yf T.az cO) zb)) zm) (zy wq (by rfl) T.cb boot_str (za (zJ (Hc rfl) (by rfl) T.kI boot_sum (za cO zb)) zb))) zb))))))
  (ze (zh aL)))),?_⟩
 have L:=zq;refine⟨(by show 0<=sizeLine;decide),λl d=>?_⟩;generalize u:upd H l _=G;have D:=ae.gen d u;have B:=rq u;refine⟨_,rfl,_,_,rfl,rfl,_,_,rfl,⟨by decide,by decide,by lia,by lia⟩,?_⟩;rw[show((n:Int)+1-1).toNat=n by lia];refine yx (λi j e=>∃v w,j=[some (.ref a),some (.int n),some (.ref l),v,w]/\ae H e/\e l=some (.lst ((M6.kF ms i).map V.str))) ⟨_,_,rfl,D,B⟩ ?_ ?_
 .rintro i j e hi ⟨v,w,rfl,s2,e2⟩;refine⟨_,rfl,a,rfl,⟨_,s2.seq p⟩,?_⟩;refine Kc (ms:=ms) (n:=1+(i:Int)) (s2.seq p) (by lia) (λx R h=>⟨_,rfl,_,rfl,_,_,rfl,rfl,_,rfl,h⟩) (λx R h=>⟨_,rfl,h⟩) ?_;intro t k;have y:=s2.aw (o:=.lst ((M3.got ms (1+(i:Int))).map V.int)) k;have r:=(ae.new (o:=.lst ((M3.got ms (1+(i:Int))).map V.int)) k) _ _ e2;have c:ah K (upd e t (.lst ((M3.got ms (1+(i:Int))).map V.int))) t ((M3.got ms (1+(i:Int))).map V.int):=ah.new;generalize U:upd e t _=I at y r c ⊢;have M:=M3.A6 ms (1+(i:Int));have S:0<=M3.sm ms (1+(i:Int))/\M3.sm ms (1+(i:Int))<=24*ms.length:=M6.O1 g _;have W:=M6.O2 C g (1+(i:Int));have z:(M6.kF ms i).length=i:=by unfold M6.kF;rw[q06,M6.Kg]
  refine⟨_,rfl,.inl ⟨rfl,_,ah.of r⟩,_,rfl,t,_,rfl,.inl c,.inl ⟨_,rfl,?_,_,_,rfl,rfl,?_,_,rfl,t,_,rfl,c,.inl ⟨_,rfl,?_,_,_,rfl,rfl,?_,?_⟩⟩⟩
  .rw[q06];exact yI (by show((M3.cnt ms (1+(i:Int)):Nat):Int).natAbs<=100000;lia)
  .rw[q06];show(tN ((M3.cnt ms (1+(i:Int)):Nat):Int)).length+M6.sl.length<=sizeLine;rw[M6.Kj];lia
  .exact yI (by show(M3.sm ms (1+(i:Int))).natAbs<=100000;lia)
  .rw[q06];show(tN ((M3.cnt ms (1+(i:Int)):Nat):Int)++M6.sl).length+(tN (M3.sm ms (1+(i:Int)))).length<=sizeLine;rw[zw,M6.Kj];lia
  .rw[q06];refine⟨l,_,_,rfl,rfl,r,by rw[q06,z];lia,_,_,rfl,y.put d,?_⟩;rw[zd,M6.VI,q07,show(i:Int)+1=1+(i:Int)by lia];rfl
 .rintro j e ⟨v,w,rfl,s2,e2⟩;exact⟨_,rfl,q l e s2 d e2⟩
variable (W3:bJ P w K m b 1 "_law_ladder" KJ (QP K))
inductive QQ (K:Frag)(vs:List V)(H:Hp)(Q:VK)(E:XK):Prop|mk(a:Addr) (e:List (List Int)) (w k:Nat):vs=[.ref a,.int w,.int k]->Refs K (IL K) H a e->w<e.length->e.length<=500->0<k->k<(e.getD w []).length->(e.getD w []).length<=500->(∀(l:Addr)(t:Hp),ae H t->H l=none->Refs K (IL K) t l ((e.take w++[g7 (e.getD w []) k]++e.drop (w+1)).filter λd => !decide (d=[]))->Q (.ref l) t)->QQ K vs H Q E
include T in
theorem zli(F:aS K "_law_moved" "_law_moved" KN f fd):ar P w K m b bp 1 f fd KO (QQ K):=by
 refine F.ok Pm ?_;rintro aN g2 outer g5 H vs g3 E hr⟨a,p,w,k,rfl,⟨e,x,I⟩,hw,hz,k0,hk,g4,g1⟩;refine⟨_,(zc (br 3 Pm.nd (zx zr ak aA bF))
  (zc (br 4 Pm.nd (zo yd (zo yd (zF zV bB zR (zK (zo xa aL zg))) (zv (za (zx zr bB aL bF) (za (zx zr bB (zo xa aL zg) bF) zb)))) (zF zV bB (zK (zo zS aL zg)) zR)))
  (ze (zh (zN (show aj (zf KN) Wn "_law_other" [] [] _ from dU) rfl (zz (zo yd (zo yd (zF zV ak zR (zK aA)) (zv (za cO zb))) (zF zV ak (zK (zo zS aA zg)) zR))) (λ_ _ _ _ _=>(yP (zj (wK (K:=K) rfl hr.bE) ak (zv zb) (zl _)))) (λ_ _ _ _ _=>ak)))))),?_⟩
 have cF:=zq;have CJ:=I.length;obtain⟨m,em,n⟩:=I.at (i:=w) hw [];have am:fN (e.map V.ref) (w:Int)=some (.ref m):=zO (A7 em);generalize hd:p.getD w []=d at *;have n:ah K H m (d.map V.int):=n;refine⟨_,rfl,_,rfl,a,_,_,_,rfl,rfl,x,am,?_⟩;refine⟨_,rfl,_,rfl,_,_,rfl,rfl,_,rfl,m,_,rfl,n,λX du=>?_⟩;rw[Cb (by lia),show((k:Int)-1).toNat=k-1 by lia];generalize W:upd H X _=s;have J:=ae.gen du W;have e1:=rq W;refine⟨_,rfl,_,rfl,m,_,_,_,rfl,rfl,J.seq n,xj (by lia) (by lia),_,rfl,_,rfl,_,_,rfl,rfl,m,_,_,_,rfl,rfl,J.seq n,xj (by lia) (by lia),(by show 2<=sizeLine;decide),λr di=>?_⟩;rw[show((k:Int)).toNat=k by lia,show((k:Int)-1).toNat=k-1 by lia];have Z:=ae.new (o:=.lst ([d.getD k 0,d.getD (k-1) 0].map V.int)) di;refine⟨X,r,_,[d.getD k 0,d.getD (k-1) 0].map V.int,rfl,rfl,Z _ _ e1,zd,by simp only[q06,q11,q12,length_nil];lia,λv eK=>?_⟩;rw[<-q07];have j:=(J.trans Z).aw (o:=.lst ((d.take (k-1)++[d.getD k 0,d.getD (k-1) 0]).map V.int)) eK;have q:=zd (H:=upd s r (.lst ([d.getD k 0,d.getD (k-1) 0].map V.int))) (a:=v) (o:=.lst ((d.take (k-1)++[d.getD k 0,d.getD (k-1) 0]).map V.int));change ae H (upd (upd s r (.lst [.int (d.getD k 0),.int (d.getD (k-1) 0)])) v _)at j;change upd (upd s r (.lst [.int (d.getD k 0),.int (d.getD (k-1) 0)])) v _ v=_ at q;generalize jq:upd (upd s r _) v _=N at j q ⊢;refine⟨_,rfl,_,rfl,_,_,rfl,rfl,_,rfl,m,_,rfl,j.seq n,λA rF=>?_⟩;rw[wY (by lia),show((k:Int)+1).toNat=k+1 by lia];have T:=ae.new (o:=.lst ((d.drop (k+1)).map V.int)) rF;refine⟨v,A,_,_,rfl,rfl,T _ _ q,zd,by simp only[q06,q08,q11,length_drop,q12,length_nil];lia,λt gy=>?_⟩;rw[<-q07];have l:=(j.trans T).aw (o:=.lst ((d.take (k-1)++[d.getD k 0,d.getD (k-1) 0]++d.drop (k+1)).map V.int)) gy;have g:=zd (H:=upd N A (.lst ((d.drop (k+1)).map V.int))) (a:=t) (o:=.lst ((d.take (k-1)++[d.getD k 0,d.getD (k-1) 0]++d.drop (k+1)).map V.int));change _=some (HO.lst ((g7 d k).map V.int))at g;generalize BC:upd (upd N A _) t _=H5 at l g ⊢;refine⟨_,rfl,_,rfl,_,rfl,a,_,rfl,l.seq x,λY oh=>?_⟩;rw[JL (by lia),show((w:Int)).toNat=w by lia];generalize M:upd H5 Y _=O;have s6:=ae.gen oh M;have e6:=rq M;refine⟨_,rfl,(by show 1<=sizeLine;decide),λB rH=>?_⟩;have s7:=ae.new (o:=.lst [.ref t]) rH;refine⟨Y,B,_,[.ref t],rfl,rfl,s7 _ _ e6,zd,by rw[q11,q06];simp only[q12,length_nil];lia,λC IC=>?_⟩;have L:=(s6.trans s7).aw (o:=.lst ((e.map V.ref).take w++[.ref t])) IC;have U:=zd (H:=upd O B (.lst [.ref t])) (a:=C) (o:=.lst ((e.map V.ref).take w++[.ref t]));generalize QR:upd (upd O B _) C _=Q at L U ⊢;have t8:=l.trans L;refine⟨_,rfl,_,rfl,_,_,rfl,rfl,_,rfl,a,_,rfl,t8.seq x,λD jr=>?_⟩;rw[Fg (by lia),show((w:Int)+1).toNat=w+1 by lia];have s9:=ae.new (o:=.lst ((e.map V.ref).drop (w+1))) jr;refine⟨C,D,_,_,rfl,rfl,s9 _ _ U,zd,by simp only[q06,q08,q11,length_drop,q12,length_nil];lia,λy jU=>?_⟩;have ex:(e.map V.ref).take w++[.ref t]++(e.map V.ref).drop (w+1)=(e.take w++[t]++e.drop (w+1)).map V.ref:=by rw[q07,q07,map_take,map_drop];rfl
 rw[ex];have u:=(L.trans s9).aw (o:=.lst ((e.take w++[t]++e.drop (w+1)).map V.ref)) jU;have z:=zd (H:=upd Q D (.lst ((e.map V.ref).drop (w+1)))) (a:=y) (o:=.lst ((e.take w++[t]++e.drop (w+1)).map V.ref));generalize vH:upd (upd Q D _) y _=vI at u z ⊢;have xO:=l.trans u;have FL:All2 (IL K vI) (e.take w++[t]++e.drop (w+1)) (p.take w++[g7 d k]++p.drop (w+1)):=by
  have g0:=I.imp λ_ _=>IL.stays K _ _ _ _ xO;exact((g0.uZ w).app (.cons (show IL K vI t (g7 d k)from ah.of (u _ _ g)) .nil)).app (g0.u6 (w+1))
 refine⟨y,rfl,⟨_,ah.of z⟩,?_⟩;refine Fz (ah.of z) FL (by simp only[q08,q11,length_drop,q12,length_nil];lia) (λm d H' R hm h=>?_) (λm H' R h=>⟨_,rfl,h⟩) λks FN c ID=>?_
 .refine⟨_,rfl,(by show 0<=sizeLine;decide),λqu gJ=>?_⟩;have c:=ae.new (o:=.lst []) gJ;refine⟨m,qu,_,[],rfl,rfl,c.seq hm,ah.new,zA _,rfl,_,rfl,?_⟩;rw[show gZ (d.map V.int) []=decide (d=[])from yZ _ []];exact h _ c
 intro rJ G;have S:=xO.trans c;exact g1 rJ _ (S.aw G) (S.free G) ⟨ks,ah.of zd,ID.imp λ_ _=>IL.stays K _ _ _ _ (ae.new G)⟩
variable (W5:bJ P w K m b 1 "_law_moved" KO (QQ K))
inductive QS (K:Frag)(vs:List V)(H:Hp)(Q:VK)(E:XK):Prop|mk(a:Addr)(e:List Str)(c:Int):vs=[.ref a,.int c]->ah K H a (e.map V.str)->1<=e.length->e.length<=15->((∀z∈e,M2.rj z=true))->(∀(y:Str)(t:Hp),ae H t->M20.Wd y->y∉e->Q (.str y) t)->QS K vs H Q E
include T in
theorem zik(F:aS K "_law_outsider" "_law_outsider" Pn f fd):ar P w K m b bp 1 f fd KP (QS K):=by
 refine F.ok Wo ?_;rintro aN A outer g1 H vs Q E j⟨a,ts,c,rfl,t,h1,gR,s,q⟩;refine⟨_,(zc (br 2 Wo.nd (zx zr (zv (za (zo zC (zx zr ak zg bF) zm) (za (zF tS (zx zr ak zg bF) zR (zK (Dq Dt zg))) (za (DD PySem.F.plainAttrs_str PySem.F.slot_str_upper PySem.F.type_str_upper pC (zx zr ak zg bF)) (za zm (za (zo zC (zx zr ak (Dq Dt zg) bF) zm) zb)))))) (zo zW aA zg) bF))
  (zc (zu (PW.pt (Ac (zj GN aL ak (by first | exact zl _ | rfl)) (BS (zj zG aL zm (zl _))))) (ze (zh zm)) zn)
  (ze (zh aL)))),?_⟩
 have cF:=zq;have W:("a":Str).length=1:=by decide +kernel
 have X:("z":Str).length=1:=by decide +kernel
 have l:fN (ts.map V.str) 0=some (.str (ts.getD 0 "")):=Ha (ts:=ts) (i:=0) (by lia) (by lia);have Y:ts.getD 0 "" ∈ ts:=wu (by lia);have B:=s _ Y;obtain⟨⟨z1,z8⟩,J⟩:=(M2.wx _).mp B;have ls:=PySem.Txt.slice_le (ts.getD 0 "") none (some (-1));obtain⟨v9,R,U⟩:=pY (xs:=ts.map V.str) (λz=>by
  have:=congrArg List.length z;rw[q06]at this;have this:ts.length=0:=this
  lia)
 obtain⟨y,Z,rfl⟩:=q25.mp R;have M:=s _ Z;generalize ts.getD 0 ""=z at *;refine⟨_,rfl,a,_,_,_,rfl,rfl,t,l,_,_,rfl,rfl,(by show z.length+("a":Str).length<=sizeLine;lia),?_⟩;refine⟨_,rfl,a,_,_,_,rfl,rfl,t,l,_,rfl,_,rfl,z,rfl,(by lia),?_⟩;refine⟨_,rfl,a,_,_,_,rfl,rfl,t,l,rfl,z,rfl,rfl,by lia,λhy=>?_⟩;have n:=HZ B;obtain⟨⟨y1,y8⟩,T⟩:=(M2.wx _).mp M;refine⟨_,rfl,_,rfl,a,_,_,_,rfl,rfl,t,U,_,_,rfl,rfl,(by show y.length+("z":Str).length<=sizeLine;lia),(by show 5<=sizeLine;decide),λp N=>?_⟩;have x:=ae.new (o:=.lst (([z++("a":Str),PySem.Txt.slice z none (some (-1)),PySem.Txt.upper z,("0":Str),y++("z":Str)]:List Str).map V.str)) N;have D:0<=c%5/\c%5<5:=⟨Int.emod_nonneg _ (by decide),Int.emod_lt_of_pos _ (by decide)⟩;refine⟨_,rfl,_,_,rfl,rfl,(by show(0:Int)<5;decide),p,_,_,_,rfl,rfl,(show ah K _ p (([z++("a":Str),PySem.Txt.slice z none (some (-1)),PySem.Txt.upper z,("0":Str),y++("z":Str)]:List Str).map V.str)from ah.new),Ha D.1 (by simpa using D.2),?_⟩;have g:∀{w:Str},(∀c∈w.cps.toList,kU c=true)->(32:Nat)∉w.cps.toList:=λS h=>q02 (S _ h) (by decide);have I:∀{u v:Str},(32:Nat)∉u.cps.toList->(32:Nat)∉v.cps.toList->(32:Nat)∉(u++v).cps.toList:=λ{u v} n O h=>by
  have h:(32:Nat)∈(u.cps++v.cps).toList:=h;rw[Array.toList_append]at h;rcases List.mem_append.mp h with h | h
  .exact n h
  .exact O h
 have W:("a":Str).length=1:=by decide +kernel
 have X:("z":Str).length=1:=by decide +kernel
 have d:=wu (ts:=([z++("a":Str),PySem.Txt.slice z none (some (-1)),PySem.Txt.upper z,("0":Str),y++("z":Str)]:List Str)) (i:=(c%5).toNat) (by simp;lia);generalize ([z++("a":Str),PySem.Txt.slice z none (some (-1)),PySem.Txt.upper z,("0":Str),y++("z":Str)]:List Str).getD (c%5).toNat ""=r at d ⊢;have j:(32:Nat)∉r.cps.toList/\r.length<=12:=by
  simp only[q27,not_mem_nil,or_false]at d;rcases d with h | h | h | h | h
  .rw[h,zw];exact⟨I (g J) (by decide +kernel),by lia⟩
  .rw[h];exact⟨λk=>g J (pE k),by lia⟩
  .rw[h];exact⟨n.no,n.len⟩
  .rw[h];exact⟨by decide +kernel,by decide +kernel⟩
  .rw[h,zw];exact⟨I (g T) (by decide +kernel),by lia⟩
 have L:∀{w:Str},w∈ts->mR (.str w) (ts.map V.str)=true:=λ{w} h=>by
  unfold mR;exact q40.mpr ⟨.str w,List.mem_map_of_mem h,by show(w==w)=true;simp⟩
 have G:Q (.str "abcdefghi") (upd H p (.lst (([z++("a":Str),PySem.Txt.slice z none (some (-1)),PySem.Txt.upper z,("0":Str),y++("z":Str)]:List Str).map V.str))) :=
  q _ _ x ⟨by decide +kernel,by decide +kernel,by decide +kernel⟩ λh=>by
   have:=((M2.wx _).mp (s _ h)).1.2;rw[show("abcdefghi":Str).length=9 by decide +kernel]at this
   lia
 refine⟨_,rfl,_,rfl,a,_,rfl,.inl (x.seq t),rfl,M20.HS _,_,rfl,?_⟩;cases e:mR (.str r) (ts.map V.str)with
 | true=>exact wn rfl (wn rfl G)
 | false =>
   refine zt rfl ⟨_,rfl,rfl,_,rfl,?_⟩;refine zX (λC=>G) (λC=>⟨_,rfl,q _ _ x ⟨λz=>C (by rw[z]),j.1,j.2⟩ λh=>by rw[L h]at e;cases e⟩)
variable (W6:bJ P w K m b 1 "_law_outsider" KP (QS K))
inductive QT (K:Frag)(vs:List V)(H:Hp)(Q:VK)(E:XK):Prop|mk(a b:Addr)(ns ms:List Int):vs=[.ref a,.ref b]->ah K H a (ns.map V.int)->ah K H b (ms.map V.int)->ns.length<64->ms.length<64->(∀e,ae H e->Q (.bl (decide (ns.Perm ms))) e)->QT K vs H Q E
def zmZ{t v:List Int}(n:t.Perm ns)(s:t.Pairwise (·<= ·))(r:v.Perm ms)(c:v.Pairwise (·<= ·)):decide (t=v)=decide (ns.Perm ms):=by
 by_cases h:ns.Perm ms
 .rw[q19 h];exact q19 (List.Perm.eq_of_pairwise (λa b _ _ x y=>Int.le_antisymm x y) s c (n.trans (h.trans r.symm)))
 .rw[q20 h];refine q20 λe=>h ?_;subst e;exact n.symm.trans r
include T in
theorem zjU(F:aS K "whole_card" "whole_card" Po f fd):ar P w K m b bp 1 f fd Ig (QT K):=by
 refine F.ok zka ?_;rintro u A outer s H x Q E h⟨a,b,ns,ms,rfl,n,r,c,v,q⟩;refine⟨_,(ze (zh (sD (Fi h.bE) (zJ NJ (by rfl) T.gn PyProof.Rows.boot_sorted (za ak zb)) (zJ NJ (by rfl) T.gn PyProof.Rows.boot_sorted (za aA zb)) (zl _)))),?_⟩;refine⟨_,rfl,a,ns,rfl,n,c,λd p t j l=>?_⟩;refine⟨_,rfl,b,ms,rfl,(ae.new t).seq r,v,λi g e k o=>?_⟩;refine⟨d,i,_,_,rfl,rfl,(ae.new e).seq ah.new,ah.new,zA _,zA _,?_⟩;rw[yZ,zmZ j l k o];exact q _ ((ae.new t).aw e)
variable (W7:bJ P w K m b 1 "whole_card" Ig (QT K))
inductive QU (K:Frag)(vs:List V)(H:Hp)(Q:VK)(E:XK):Prop|mk(a:Addr)(ns:List Int)(c:Int):vs=[.ref a,.int c]->ah K H a (ns.map V.int)->c∈ns->Q (.int ((ns.idxOf c:Nat)+1)) H->QU K vs H Q E
include T in
theorem znn(F:aS K "mark_on" "mark_on" Pq f fd):ar P w K m b bp 1 f fd Ih (QU K):=by
 refine F.ok znf ?_;rintro v A outer s H r Q E n⟨a,ns,c,rfl,e,t,q⟩;refine⟨_,(ze (zh (zo zS (yD PySem.F.plainAttrs_list PySem.F.slot_list_index PySem.F.type_list_index DP ak (za aA zb)) zg))),?_⟩;refine⟨_,rfl,.inl ⟨rfl,_,e⟩,_,rfl,a,_,_,rfl,rfl,e,rfl,zA _,?_,_,_,rfl,rfl,?_⟩
 .rw[wd,q06];exact List.idxOf_lt_length_iff.mpr t
 .rw[wd];exact q
variable (W8:bJ P w K m b 1 "mark_on" Ih (QU K))
inductive QV (K:Frag)(vs:List V)(H:Hp)(Q:VK)(E:XK):Prop|mk(a:Addr)(ns:List Int)(c:Int):vs=[.ref a,.int c]->ah K H a (ns.map V.int)->ns.length<=1000->(∀l e,ae H e->H l=none->e l=some (.lst ((ns.filter λo => !decide (o=c)).map V.int))->Q (.ref l) e)->QV K vs H Q E
include T in
theorem zgQ(F:aS K "without_couple" "without_couple" wR f fd):ar P w K m b bp 1 f fd yw (QV K):=by
 refine F.ok zgP ?_;rintro k A outer s H g Q E p⟨a,ns,c,rfl,r,j,q⟩;refine⟨_,(ze (zh (zN (show aj (zf wR) yw "other" ["couple"] [1] _ from dU) rfl (zz ak) (λ_ _ _ _ _=>(yP (zj jb ak aA (zl _)))) (λ_ _ _ _ _=>ak)))),?_⟩;refine⟨_,rfl,a,rfl,⟨_,r⟩,?_⟩;refine yL (xs:=ns.map V.int) (λi v t=>t=H/\v=((ns.take i).filter λo => !decide (o=c)).map V.int) ⟨rfl,rfl⟩ ?_ (by rw[q06];exact q38 j (q38 (by decide) zq)) ?_ ?_
 .rintro i v t n ⟨rfl,rfl⟩;refine⟨r,?_⟩;rw[q06];exact q38 (q09 _ _) (by rw[q11];lia)
 .rintro i x v t hx ⟨rfl,rfl⟩;obtain⟨n,rfl⟩:=yU hx;refine⟨_,rfl,_,rfl,rfl,_,rfl,yl (λh=>?_) (λd=>?_)⟩
  .refine⟨_,rfl,rfl,?_⟩;have:¬ns.getD i 0=c:=λe=>h (by rw[e]);rw[yX n,q16,filter_cons_of_pos (by show(!decide (ns.getD i 0=c))=true;rw[q20 this];rfl),q07];rfl
  .refine⟨rfl,?_⟩;have:ns.getD i 0=c:=by injection d
   rw[yX n,q16,filter_cons_of_neg (by show ¬(!decide (ns.getD i 0=c))=true;rw[q19 this];decide),q07];simp
 .rintro v t ⟨rfl,rfl⟩ l hl;rw[q06,q15];exact q l _ (ae.new hl) hl zd
variable (QW:bJ P w K m b 1 "without_couple" yw (QV K))
inductive QX (K:Frag)(vs:List V)(H:Hp)(Q:VK)(E:XK):Prop|mk(a:Addr)(ns:List Int)(i:Nat):vs=[.ref a,.int (ns.getD i 0)]->ah K H a (ns.map V.int)->ns.Nodup->i<ns.length->ns.length<=1000->((∀n∈ns,1<=n/\n<=999))->((i=0->∀C,aX K "AtTop" C->E (.ref C) none H))->((0<i->∀l e,ae H e->H l=none->e l=some (.lst ((ns.take (i-1)++[ns.getD i 0,ns.getD (i-1) 0]++ns.drop (i+1)).map V.int))->Q (.ref l) e))->QX K vs H Q E
include T in
theorem qw(F:aS K "one_up" "one_up" Pr f fd):ar P w K m b (dM P w) 1 f fd KQ (QX K):=by
 obtain⟨Z,y,L,x⟩:=T.bD;refine F.ic Pt ?_;rintro X W aN A outer g0 H vs Q E I G fl N hr⟨a,ns,i,rfl,t,J,h,hz,u,O,R⟩;subst I;refine⟨_,(zc (br 2 Pt.nd (yD PySem.F.plainAttrs_list PySem.F.slot_list_index PySem.F.type_list_index DP ak (za aA zb)))
  (zc (zu (zj zG aL zg (zl _)) (ze (yh rfl N rfl L x (za (JO (yS zm (yS (AE aA) (yS zm JN)))) zb))) zn)
  (zc (br 3 Pt.nd (zx zr ak (zo xa aL zg) bF))
  (ze (zh (zo yd (zo yd (zF zV ak zR (zK (zo xa aL zg))) (zv (za aA (za bB zb)))) (zF zV ak (zK (zo zS aL zg)) zR))))))),?_⟩
 have d:ns.idxOf (ns.getD i 0)=i:=by rw[Fh h];exact J.idxOf_getElem i h
 have hl:=zq;have s:(ns.getD i 0).natAbs.log2<1920:=by
  have:=u _ (tG h);exact(Nat.log2_lt (by lia)).mpr (q21 (show(ns.getD i 0).natAbs<2 ^ 10 by lia) (Nat.pow_le_pow_right (by decide) (by decide)))
 refine⟨_,rfl,.inl ⟨rfl,_,t⟩,_,rfl,a,_,_,rfl,rfl,t,rfl,zA _,by rw[wd,d,q06];exact h,?_⟩;rw[wd,d];refine⟨_,rfl,rfl,_,rfl,zX (λe=>?_) (λe=>?_)⟩
 .have e:i=0:=by injection e with e;lia
  have D:=PyProof.Rows.int_text_len_1921 s;have v:(Str.empty++("couple ":Str)).length<=0+7:=NQ (by decide) (by decide);have n:=NQ v D;have r:=NQ n (show(" is the first one on the card":Str).length<=29 by decide);exact⟨_,rfl,q38 v (by decide),_,rfl,.inl ⟨_,rfl,s,_,rfl,q38 n (by decide),_,rfl,q38 r (by decide),q38 r (by decide),(by show 1<=sizeLine;decide),by rw[G];exact O e _ y⟩⟩
 .have e:0<i:=Nat.pos_of_ne_zero λz=>e (by rw[z];rfl);refine⟨_,rfl,_,rfl,_,_,rfl,rfl,a,_,_,_,rfl,rfl,t,xj (by lia) (by lia),?_⟩;refine⟨_,rfl,_,rfl,_,_,rfl,rfl,_,rfl,a,_,rfl,t,λv B=>?_⟩;rw[Cb (by lia),show((i:Int)-1).toNat=i-1 by lia];refine⟨_,rfl,_,rfl,(by show 2<=sizeLine;decide),λn c=>?_⟩;have S:=ae.new (o:=.lst ((ns.take (i-1)).map V.int)) B;have U:=S.aw (o:=.lst ([ns.getD i 0,ns.getD (i-1) 0].map V.int)) c;have g:v≠n:=zk zd c;refine⟨v,n,_,[ns.getD i 0,ns.getD (i-1) 0].map V.int,rfl,rfl,by rw[zi g];exact zd,zd,by simp only[q06,q11,q12,length_nil];lia,λr C=>?_⟩;rw[<-q07];have p:=U.aw (o:=.lst ((ns.take (i-1)++[ns.getD i 0,ns.getD (i-1) 0]).map V.int)) C;refine⟨_,rfl,_,rfl,_,_,rfl,rfl,_,rfl,a,_,rfl,p.seq t,λk l=>?_⟩;rw[wY (by lia),show((i:Int)+1).toNat=i+1 by lia];have q:=p.aw (o:=.lst ((ns.drop (i+1)).map V.int)) l;have Y:r≠k:=zk zd l;refine⟨r,k,_,_,rfl,rfl,by rw[zi Y];exact zd,zd,by simp only[q06,q08,q11,length_drop,q12,length_nil];lia,λM j=>?_⟩;rw[<-q07];exact R e M _ (q.aw j) (q.free j) zd
variable (W9:dq P w K m b 1 "one_up" KQ (QX K))
inductive QY (K:Frag)(vs:List V)(H:Hp)(Q:VK)(E:XK):Prop|mk(n:Int):vs=[.int n]->Q (.int (n/2+1)) H->QY K vs H Q E
include T in
theorem zjc(F:aS K "majority_of" "majority_of" Pu f fd):ar P w K m b bp 1 f fd ["many"] (QY K):=by
 refine F.ok ziO ?_;rintro e A outer s H v Q E t⟨n,rfl,q⟩;refine⟨_,(ze (zh (zo zS (zo yB ak zg) zg))),?_⟩;exact⟨_,rfl,_,_,rfl,rfl,⟨by decide,by decide⟩,_,_,rfl,rfl,q⟩
variable (Xa:bJ P w K m b 1 "majority_of" ["many"] (QY K))
inductive QZ (K:Frag)(vs:List V)(H:Hp)(Q:VK)(E:XK):Prop|mk(a:Addr)(ms:List Int)(n:Int):vs=[.ref a,.int n]->ah K H a (ms.map V.int)->ms.length<=1000->(∀(l:Addr)(e:Hp),ae H e->H l=none->e l=some (.lst ((M3.got ms n).map V.int))->Q (.ref l) e)->QZ K vs H Q E
include T in
theorem zmG(F:aS K "granting" "granting" KR f fd):ar P w K m b bp 1 f fd FG (QZ K):=by
 refine F.ok zne ?_;rintro c A outer s H k Q E d⟨a,ms,n,rfl,r,j,q⟩;refine⟨_,(ze (zh (zN (show aj (zf KR) FG "mark" ["number"] [1] _ from dU) rfl (zz ak) (λ_ _ _ _ _=>(yP (zj xb ak aA (zl _)))) (λ_ _ _ _ _=>ak)))),?_⟩;refine⟨_,rfl,a,rfl,⟨_,r⟩,?_⟩;refine yL (xs:=ms.map V.int) (λi t e=>e=H/\t=(M3.got (ms.take i) n).map V.int) ⟨rfl,rfl⟩ ?_ (by rw[q06];have:=zq;lia) ?_ ?_
 .rintro i t e v ⟨rfl,rfl⟩;refine⟨r,?_⟩;rw[q06];have:=M3.A6 (ms.take i) n;unfold M3.cnt at this;rw[q11]at this
  lia
 .rintro i x t e hx ⟨rfl,rfl⟩;obtain⟨v,rfl⟩:=yU hx;refine⟨_,rfl,_,rfl,_,_,rfl,rfl,_,rfl,zX (λh=>?_) (λh=>?_)⟩
  .refine⟨_,rfl,rfl,?_⟩;rw[M3.Kb n v,q01 h,q07];rfl
  .refine⟨rfl,?_⟩;rw[M3.Kb n v,q00 h]
 .rintro t e ⟨rfl,rfl⟩ l hl;rw[q06,q15];exact q l _ (ae.new hl) hl zd
variable (LW:bJ P w K m b 1 "granting" FG (QZ K))
inductive Q0 (K:Frag)(vs:List V)(H:Hp)(Q:VK)(E:XK):Prop|mk(f:Str):vs=[.str f]->Q (.int (M20.jO f)) H->Q0 K vs H Q E
include T in
theorem zjL(F:aS K "due_couples" "due_couples" Pw f fd):ar P w K m b bp 1 f fd ["first"] (Q0 K):=by
 refine F.ok zjD ?_;rintro v A outer s H r Q E n⟨f,rfl,q⟩;refine⟨_,(ze (zh (ML (zj GN ak (Hi T.eY rfl) (by first | exact zl _ | rfl)) zg zg))),?_⟩;unfold M20.jO at q;refine⟨_,rfl,λa t=>⟨a,_,rfl,.inr (t _),rfl,M20.HS _,_,rfl,?_⟩⟩;refine Az (λe=>?_) (λe=>?_)
 .rw[q01 (show M20.cG f M20.Bj=true from e)]at q;exact q
 .rw[q00 (by rw[show M20.cG f M20.Bj=false from e];exact q23)]at q;exact q
variable (Xb:bJ P w K m b 1 "due_couples" ["first"] (Q0 K))
inductive Q1 (K:Frag)(vs:List V)(H:Hp)(Q:VK)(E:XK):Prop|mk(c:Nat):vs=[.str ⟨#[c]⟩]->Q (.bl (M20.CC c)) H->Q1 K vs H Q E
include T in
theorem qx(F:aS K "figure" "figure" Px f fd):ar P w K m b bp 1 f fd ["sign"] (Q1 K):=by
 refine F.ok qj ?_;rintro t A outer s H n Q E v⟨c,rfl,q⟩;refine⟨_,(ze (zh (JB JP JP zm ak zm))),?_⟩;unfold M20.CC at q;refine⟨_,rfl,_,_,rfl,rfl,_,rfl,?_⟩;rw[M20.le_0];refine zX (λe=>?_) (λe=>?_)
 .rw[q19 e,Bool.true_and]at q;refine⟨_,_,rfl,rfl,?_⟩;rw[M20.O8];exact q
 .rw[q20 e,Bool.false_and]at q;exact q
variable (Xc:bJ P w K m b 1 "figure" ["sign"] (Q1 K))
inductive Q2 (K:Frag)(vs:List V)(H:Hp)(Q:VK)(E:XK):Prop|mk(n:Int):vs=[.int n]->Q (.bl (decide (1<=n) && decide (n<=999))) H->Q2 K vs H Q E
include T in
theorem zi4(F:aS K "good_number" "good_number" Py f fd):ar P w K m b bp 1 f fd ["couple"] (Q2 K):=by
 refine F.ok zjC ?_;rintro t A outer s H a Q E v⟨n,rfl,q⟩;refine⟨_,(ze (zh (JB xb xb zg ak (Fe T.jm rfl)))),?_⟩;refine⟨_,rfl,_,_,rfl,rfl,_,rfl,zX (λe=>?_) (λe=>?_)⟩
 .rw[q19 e,Bool.true_and]at q;exact⟨_,_,rfl,rfl,q⟩
 .rw[q20 e,Bool.false_and]at q;exact q
variable (Xd:bJ P w K m b 1 "good_number" ["couple"] (Q2 K))
inductive Q3 (K:Frag)(vs:List V)(H:Hp)(Q:VK)(E:XK):Prop|mk(c:Nat):vs=[.str ⟨#[c]⟩]->Q (.bl (kU c)) H->Q3 K vs H Q E
include T in
theorem zil(F:aS K "small_letter" "small_letter" Pz f fd):ar P w K m b bp 1 f fd ["sign"] (Q3 K):=by
 refine F.ok zh1 ?_;rintro t A outer s H n Q E v⟨c,rfl,q⟩;refine⟨_,(ze (zh (JB JP JP zm ak zm))),?_⟩;unfold kU at q;refine⟨_,rfl,_,_,rfl,rfl,_,rfl,?_⟩;rw[M2.OB];refine zX (λe=>?_) (λe=>?_)
 .rw[q19 e,Bool.true_and]at q;refine⟨_,_,rfl,rfl,?_⟩;rw[M2.OC];exact q
 .rw[q20 e,Bool.false_and]at q;exact q
variable (Xe:bJ P w K m b 1 "small_letter" ["sign"] (Q3 K))
inductive Q4 (K:Frag)(vs:List V)(H:Hp)(Q:VK)(E:XK):Prop|mk(x:V)(n:Nat)(m:Int):vs=[x,.int m]->Gy K x H n->Q (.bl (decide (1<=(n:Int)) && decide ((n:Int)<=m))) H->Q4 K vs H Q E
include T in
theorem zjw(F:aS K "good_length" "good_length" PB f fd):ar P w K m b bp 1 f fd wG (Q4 K):=by
 refine F.ok ziE ?_;rintro v A outer s H r Q E a⟨x,n,m,rfl,t,q⟩;refine⟨_,(ze (zh (JB xb xb zg (zJ sF (by rfl) T.az PySem.boot_len (za ak zb)) aA))),?_⟩;refine⟨_,rfl,x,n,rfl,t,_,_,rfl,rfl,_,rfl,zX (λe=>?_) (λe=>?_)⟩
 .rw[q19 e,Bool.true_and]at q;exact⟨_,rfl,_,_,rfl,rfl,q⟩
 .rw[q20 e,Bool.false_and]at q;exact q
variable (FO:bJ P w K m b 1 "good_length" wG (Q4 K))
inductive Q5 (K:Frag)(vs:List V)(H:Hp)(Q:VK)(E:XK):Prop|mk(a:Addr):vs=[.ref a]->(((∃ns:List Int,ah K H a (ns.map V.int)/\ns.length<4000/\∀t,ae H t->Q (.bl (decide ns.Nodup)) t)\/∃e:List Str,ah K H a (e.map V.str)/\e.length<4000/\Q (.bl (decide e.Nodup)) H))->Q5 K vs H Q E
include T in
theorem zjV(F:aS K "all_unlike" "all_unlike" PD f fd):ar P w K m b bp 1 f fd ["things"] (Q5 K):=by
 refine F.ok zjT ?_;rintro c A outer s H j Q E d⟨a,rfl,h⟩;refine⟨_,(ze (zh (sD zG (A8 (zJ call_len_set (by rfl) T.az PySem.boot_len (za (zy (ZD rfl) (by rfl) T.CI boot_set (za ak zb)) zb)) (lK rfl (by rfl) T.az (by rfl) T.CI ak)) (yf T.az ak) (zl _)))),?_⟩;rcases h with⟨ns,v,n,q⟩|⟨t,v,n,q⟩
 .refine .inl ⟨_,rfl,a,ns,rfl,v,n,λl r=>?_⟩;refine⟨l,_,_,rfl,zd,_,rfl,a,_,rfl,.inl ((ae.new r).seq v),rfl,?_⟩;have e:decide (V.int ((PyProof.Rows.firstMet (λi=>ns.getD i 0) ns.length).length:Int)=V.int ((ns.map V.int).length:Int))=decide ns.Nodup:=by
   rw[q06];by_cases h:ns.Nodup
   .rw[q19 h,(UC ns).mpr h];exact q19 rfl
   .rw[q20 h];refine q20 λz=>h ((UC ns).mp ?_);injection z with z
    exact Int.ofNat.inj z
  rw[e];exact q _ (ae.new r)
 .refine .inr ⟨_,rfl,a,t,rfl,v,n,?_⟩;refine⟨_,rfl,a,_,rfl,.inl v,rfl,?_⟩;have e:decide (V.int ((met (λi=>t.getD i "") t.length).length:Int)=V.int ((t.map V.str).length:Int))=decide t.Nodup:=by
   rw[q06];by_cases h:t.Nodup
   .rw[q19 h,(UH t "").mpr h];exact q19 rfl
   .rw[q20 h];refine q20 λz=>h ((UH t "").mp ?_);injection z with z
    exact Int.ofNat.inj z
  rw[e];exact q
variable (LX:bJ P w K m b 1 "all_unlike" ["things"] (Q5 K))
inductive Q6 (K:Frag)(vs:List V)(H:Hp)(Q:VK)(E:XK):Prop|mk(a:Addr)(ns:List Int):vs=[.ref a]->ah K H a (ns.map V.int)->ns.length<=24->((∀n∈ns,1<=n/\n<=999))->(∀e,ae H e->Q (.str (Txt.join M6.zE (ns.map tN))) e)->Q6 K vs H Q E
include T in
theorem zio(F:aS K "numbers_text" "numbers_text" KS f fd):ar P w K m b bp 1 f fd ["couples"] (Q6 K):=by
 refine F.ok zh6 ?_;rintro l A outer s H x Q E g⟨a,ns,rfl,e,p,t,q⟩;refine⟨_,(ze (zh (yD PySem.F.plainAttrs_str PySem.F.slot_str_join PySem.F.type_str_join Hu zm (za (zN (show aj (zf KS) ["couples"] "couple" [] [] _ from dU) rfl (zz ak) (λ_ _ _ _ _=>yA) (λ_ _ _ _ _=>(zy wq (by rfl) T.cb boot_str (za ak zb)))) zb)))),?_⟩;have o:=zq;refine⟨rfl,_,rfl,a,rfl,⟨_,e⟩,?_⟩;refine VM (f:=tN) e (by lia) (λy v R d u h=>⟨_,rfl,.inl ⟨_,rfl,yI (by have:=t y d;lia),h v (ae.refl _)⟩⟩) λk j=>?_;intro i r;refine⟨_,i,ns.map tN,rfl,rfl,ah.new,by decide +kernel,by rw[q06];lia,λw c=>?_,q _ (j.aw r)⟩;obtain⟨n,h,rfl⟩:=q25.mp c;have:=M6.yt (t n h)
 lia
variable (Q7:bJ P w K m b 1 "numbers_text" ["couples"] (Q6 K))
inductive Q8 (K:Frag)(vs:List V)(H:Hp)(Q:VK)(E:XK):Prop|mk(a:Addr)(v:List Addr) (e:List (Int×Int)):vs=[.ref a]->ah K H a (v.map V.ref)->All2 (iI K H) v e->e.length<=24->((∀p∈e,(1<=p.1/\p.1<=999)/\1<=p.2/\p.2<=999))->(∀t,ae H t->Q (.str (Txt.join M6.zE (e.map M6.xH))) t)->Q8 K vs H Q E
include T in
theorem zh8(F:aS K "ranking_text" "ranking_text" KU f fd):ar P w K m b bp 1 f fd ["rows"] (Q8 K):=by
 refine F.ok zic ?_;rintro y A outer s H M Q E C⟨a,J,o,rfl,t,r,B,e,q⟩;refine⟨_,(ze (zh (yD PySem.F.plainAttrs_str PySem.F.slot_str_join PySem.F.type_str_join Hu zm (za (Ox (show aZ (zf KU) ["rows"] "place" "couple" [] [] _ from uI) rfl (zz ak) (λ_ _ _ _ _=>yA) (λ_ _ _ _ _=>(JO (yS (AE ak) (yS zm (yS (AE aA) JN)))))) zb)))),?_⟩;have z:=zq;refine⟨rfl,_,rfl,a,rfl,⟨_,t⟩,?_⟩;refine O4 (f:=M6.xH) t r (by lia) (λl n R u L h=>?_) λx g=>?_
 .obtain⟨p1,p2⟩:=e l u;obtain⟨d,i,G⟩:=M6.HW p1 p2;have D:Str.empty.length=0:=rfl;have I:(":":Str).length=1:=M6.Ko;unfold tN at d i;refine⟨_,rfl,.inl ⟨_,rfl,yI (by lia),_,rfl,?_,_,rfl,?_,_,rfl,.inl ⟨_,rfl,yI (by lia),_,rfl,?_,?_,?_⟩⟩⟩
  .rw[zw];lia
  .rw[zw,zw];lia
  .rw[zw,zw,zw];lia
  .rw[zw,zw,zw];lia
  .rw[M6.O3];exact h n (ae.refl _)
 intro j k;refine⟨_,j,o.map M6.xH,rfl,rfl,ah.new,by decide +kernel,by rw[q06];lia,λw c=>?_,q _ (g.aw k)⟩;obtain⟨p,v,rfl⟩:=q25.mp c;have:=(M6.HW (e p v).1 (e p v).2).2.2
 lia
variable (LY:bJ P w K m b 1 "ranking_text" ["rows"] (Q8 K))
inductive Ra (K:Frag)(vs:List V)(H:Hp)(Q:VK)(E:XK):Prop|mk(a:Addr)(e:List Str):vs=[.ref a]->ah K H a (e.map V.str)->e.length<=200->((∀w∈e,w.length<=2000))->(Q (.str (if e=[] then ("none":Str) else Txt.join M6.zE e)) H)->Ra K vs H Q E
include T in
theorem zh3(F:aS K "text_or_none" "text_or_none" PF f fd):ar P w K m b bp 1 f fd ["words"] (Ra K):=by
 refine F.ok zif ?_;rintro r A outer s H c Q E h⟨a,e,rfl,t,v,n,q⟩;refine⟨_,(ze (zh (ML (M0 ak (λ_=>rfl)) (yD PySem.F.plainAttrs_str PySem.F.slot_str_join PySem.F.type_str_join Hu zm (za ak zb)) zm))),?_⟩;refine⟨_,rfl,_,.inl ⟨_,t,rfl⟩,?_⟩;cases e with
 | nil=>exact q
 | cons w e=>exact⟨rfl,_,rfl,_,a,w::e,rfl,rfl,t,by decide +kernel,v,n,q⟩
variable (Rb:bJ P w K m b 1 "text_or_none" ["words"] (Ra K))
inductive Rc (K:Frag)(vs:List V)(H:Hp)(Q:VK)(E:XK):Prop|mk(x:_)(e:_)(t:_):vs=[x]->isInt x=some e->isBool x=some t->Q (.bl (e && !t)) H->Rc K vs H Q E
include T in
theorem zlR(F:aS K "_law_whole" "_law_whole" PK f fd):ar P w K m b bp 1 f fd Ii (Rc K):=by
 refine F.ok zlC ?_;rintro r A outer s H c Q E h⟨x,e,t,rfl,n,a,k⟩;refine⟨_,(ze (zh (BU (zJ Zy (by rfl) T.b9 boot_isinstance (za ak (za (Gd (v:=V.ty "int") rfl T.n6 boot_int rfl) zb))) (Gh (Dg (zJ Zz (by rfl) T.b9 boot_isinstance (za ak (za (Gd (v:=V.ty "bool") rfl T.EB boot_bool rfl) zb)))))))),?_⟩;refine⟨_,rfl,x,e,rfl,n,_,rfl,?_⟩;cases e with
 | false=>exact j6 k
 | true=>exact qX ⟨_,rfl,x,t,rfl,a,_,rfl,k⟩
variable (Xf:bJ P w K m b 1 "_law_whole" Ii (Rc K))
inductive Rf (K:Frag)(vs:List V)(H:Hp)(Q:VK)(E:XK):Prop|mk(a:Addr)(ns:List Int)(k:Int):vs=[.ref a,.int k]->ah K H a (ns.map V.int)->0<=k->Q (.int (ns.getD k.toNat 0)) H->Rf K vs H Q E
include T in
theorem qy(F:aS K "_law_at" "_law_at" PL f fd):ar P w K m b bp 1 f fd Ij (Rf K):=by
 refine F.ok ql ?_;rintro n A outer s H h Q E r⟨a,ns,k,rfl,t,v,q⟩;refine⟨_,(zc (zu (zj E6 aA (yf T.az ak) (zl _)) (ze (zh (zx zr ak aA bF))) zn)
  (ze (zh zg))),?_⟩
 refine⟨_,rfl,_,rfl,a,_,rfl,.inl t,_,_,rfl,rfl,_,rfl,zX (λe=>?_) (λe=>?_)⟩
 .rw[q06]at e;exact⟨_,rfl,_,rfl,a,_,k,_,rfl,rfl,t,xj v e,q⟩
 .rw[q06]at e;show Q (.int 0) H;rw[q18,List.getElem?_eq_none (by lia)]at q;exact q
variable (CK:bJ P w K m b 1 "_law_at" Ij (Rf K))
inductive Rg (K:Frag)(vs:List V)(H:Hp)(Q:VK)(E:XK):Prop|mk(a b:Addr)(t e:List Str):vs=[.ref a,.ref b]->ah K H a (t.map V.str)->ah K H b (e.map V.str)->e.length<=1000000->Q (.bl (decide (t=e))) H->Rg K vs H Q E
def qz{ts us:List Str}(v:ts.length=us.length)(h:∀j,j<us.length->ts.getD j ""=us.getD j ""):ts=us:=by
 refine ext_getElem v λj t e=>?_;have:=h j e
 rwa [q18,q18,q31 t,q31 e]at this
include T in
theorem zkY(F:aS K "_law_texts" "_law_texts" PM f fd):ar P w K m b bp 1 f fd KW (Rg K):=by
 refine F.ok Wq ?_;rintro B A outer s H G Q E C⟨a,b,n,t,rfl,c,o,D,q⟩;refine⟨_,(zc (zu (PW.pt (Ac (qR (mI (zJ Ux (by rfl) T.b9 boot_isinstance (za ak (za (Gd (v:=V.ty "list") rfl T.cP boot_list rfl) zb))))) (BS (zj jb (yf T.az ak) (yf T.az aA) (zl _))))) (ze (zh oB)) zn)
  (zc (wf PassesOwn.never rfl (ww rfl T.bt (za (yf T.az aA) zb)) (iH 2 Wq.nd)
    (ze (zu (PW.pt (Ac (qR (mI (zJ ZA (by rfl) T.b9 boot_isinstance (za (zx zr ak aL bF) (za (Gd (v:=V.ty "str") rfl T.cb boot_str rfl) zb))))) (BS (zj jb (zx zr ak aL bF) (zx zr aA aL bF) (zl _))))) (ze (zh oB)) zn)))
  (ze (zh oB)))),?_⟩
 refine⟨_,rfl,_,_,rfl,.yes c,_,rfl,j6 ?_⟩;refine⟨_,rfl,a,_,rfl,.inl c,_,rfl,b,_,rfl,.inl o,rfl,_,rfl,?_⟩;rw[q06,q06];refine yl (λl=>?_) (λr=>?_)
 .show Q (.bl false) H;have:n≠t:=λe=>l (by rw[e]);rw[q20 this]at q;exact q
 .have hl:n.length=t.length:=by injection r with r;exact Int.ofNat.inj r
  refine⟨_,rfl,b,_,rfl,.inl o,_,rfl,by lia,by rw[q06];lia,?_⟩;rw[q06];refine yx (λi p k=>∃v,p=[some (.ref a),some (.ref b),v]/\k=H/\∀j,j<i->n.getD j ""=t.getD j "") ⟨_,rfl,rfl,λj d=>by lia⟩ ?_ ?_
  .rintro i p k hi ⟨v,rfl,rfl,d⟩;have u:i<t.length:=by simpa using hi
   have g:fN (n.map V.str) (0+(i:Int))=some (.str (n.getD i "")):=by rw[Int.zero_add];exact zO (JR (by lia))
   have y:fN (t.map V.str) (0+(i:Int))=some (.str (t.getD i "")):=by rw[Int.zero_add];exact zO (JR u)
   refine⟨_,rfl,_,rfl,a,_,_,_,rfl,rfl,c,g,_,_,rfl,rfl,_,rfl,j6 ?_⟩;refine⟨_,rfl,_,rfl,a,_,_,_,rfl,rfl,c,g,_,rfl,_,rfl,b,_,_,_,rfl,rfl,o,y,rfl,_,rfl,yl (λl=>?_) (λr=>?_)⟩
   .show Q (.bl false) _;have:n≠t:=λe=>l (by rw[e]);rw[q20 this]at q;exact q
   .refine⟨_,rfl,rfl,λj z=>?_⟩;by_cases x:j=i
    .subst x;injection r
    .exact d j (by lia)
  .rintro p k ⟨v,rfl,rfl,d⟩;show Q (.bl true) _;have:n=t:=qz hl λj h=>d j (by simpa using h);rw[q19 this]at q;exact q
variable (LZ:bJ P w K m b 1 "_law_texts" KW (Rg K))
def Ri(c p:Int):Int:=(c*48271%2147483647+p+1)*69621%2147483647
inductive Rj (K:Frag)(vs:List V)(H:Hp)(Q:VK)(E:XK):Prop|mk(c:_)(p:_):vs=[.int c,.int p]->Q (.int (Ri c p)) H->Rj K vs H Q E
include T in
theorem mz(F:aS K "_law_mix" "_law_mix" PN f fd):ar P w K m b bp 1 f fd KY (Rj K):=by
 refine F.ok Wr ?_;rintro e A outer s H v Q E t⟨c,p,rfl,q⟩;refine⟨_,(zc (br 2 Wr.nd (zo zW (zo BY ak zg) zg))
  (ze (zh (zo zW (zo BY (zo zS (zo zS aL aA) zg) zg) zg)))),?_⟩
 refine⟨_,rfl,_,_,rfl,rfl,.inr ⟨by decide,by decide⟩,_,_,rfl,rfl,(by show(0:Int)<2147483647;decide),?_⟩;exact⟨_,rfl,_,rfl,_,_,rfl,rfl,_,_,rfl,rfl,_,_,rfl,rfl,.inr ⟨by decide,by decide⟩,_,_,rfl,rfl,(by show(0:Int)<2147483647;decide),q⟩
variable (EF:bJ P w K m b 1 "_law_mix" KY (Rj K))
inductive Rk (K:Frag)(vs:List V)(H:Hp)(Q:VK)(E:XK):Prop|mk(e c a b d:Int):vs=[.int e,.int c,.int a,.int b,.int d]->a<=b->b<=d->(∀r:Int,a<=r->r<=d->Q (.int r) H)->Rk K vs H Q E
include T in
theorem zmQ(F:aS K "_law_many" "_law_many" PQ f fd):ar P w K m b bp 1 f fd Ik (Rk K):=by
 refine F.ok zm6 ?_;rintro e A outer s H l Q E j⟨k,c,a,b,d,rfl,h,i,q⟩;refine⟨_,(zc (zu (zj zG ak zg (zl _)) (ze (zh cO)) zn)
  (zc (zu (zj zG ak zg (zl _)) (ze (zh (zo zS aL (zo zW aA (zo xa (zo zS cO zg) aL))))) zn)
  (ze (zh (zo zS aL (zo zW aA (zo xa (zo zS bB zg) aL))))))),?_⟩
 have t:=Int.emod_nonneg c (show d+1-a≠0 by lia);have v:=Int.emod_lt_of_pos c (show 0<d+1-a by lia);have n:=Int.emod_nonneg c (show b+1-a≠0 by lia);have r:=Int.emod_lt_of_pos c (show 0<b+1-a by lia);refine⟨_,rfl,rfl,_,rfl,zX (λ_=>⟨_,rfl,q d (by lia) (by lia)⟩) (λ_=>?_)⟩;refine⟨_,rfl,rfl,_,rfl,zX (λ_=>?_) (λ_=>?_)⟩
 .exact⟨_,rfl,_,rfl,_,rfl,_,_,rfl,rfl,_,rfl,_,_,rfl,rfl,_,_,rfl,rfl,(by show 0<d+1-a;lia),_,_,rfl,rfl,q _ (by lia) (by lia)⟩
 .exact⟨_,rfl,_,rfl,_,rfl,_,_,rfl,rfl,_,rfl,_,_,rfl,rfl,_,_,rfl,rfl,(by show 0<b+1-a;lia),_,_,rfl,rfl,q _ (by lia) (by lia)⟩
variable (Rl:bJ P w K m b 1 "_law_many" Ik (Rk K))
inductive Rm (K:Frag)(vs:List V)(H:Hp)(Q:VK)(E:XK):Prop|mk(c:_)(m:_):vs=[.int c,.int m]->0<=m->m<=1000->(∀l e,ae H e->H l=none->e l=some (.lst ((M1.aa c m.toNat).map V.int))->Q (.ref l) e)->Rm K vs H Q E
include T in
theorem zjM(F:aS K "_law_couples" "_law_couples" KZ f fd):ar P w K m b bp 1 f fd K0 (Rm K):=by
 refine F.ok Wt ?_;rintro a A outer s H o Q E k⟨c,m,rfl,d,j,q⟩;refine⟨_,(zc (br 2 Wt.nd (zx zr (zv (za zg (za zg (za zg (za zg zb))))) (zo zW ak zg) bF))
  (ze (zh (zN (show aj (zf KZ) Ws "_law_k" ["_law_cell","_law_gap"] [0,2] _ from dU) rfl (ww rfl T.bt (za aA zb)) (λ_ _ _ _ _=>yA) (λ_ _ _ _ _=>(zo zS (zo zW (zo zS (zo yB aA zg) (zo BY ak aL)) zg) zg)))))),?_⟩
 refine⟨by decide,λp v=>?_⟩;have r:0<=c%4/\c%4<4:=⟨Int.emod_nonneg _ (by decide),Int.emod_lt_of_pos _ (by decide)⟩;have n:fN [V.int 1,V.int 7,V.int 500,V.int 998] (c%4)=some (.int (M1.gap c)):=by
  have h:c%4=0\/c%4=1\/c%4=2\/c%4=3:=by lia
  unfold M1.gap;rcases h with h | h | h | h <;> rw[h] <;> rfl
 refine⟨_,rfl,_,_,rfl,rfl,(by show(0:Int)<4;decide),p,_,_,_,rfl,rfl,ah.new,n,?_⟩;refine⟨_,rfl,m,rfl,by lia,by lia,?_⟩;refine Uz (λi t e=>e=upd H p (.lst [V.int 1,V.int 7,V.int 500,V.int 998])/\t=(M1.aa c i).map V.int) ⟨rfl,rfl⟩ ?_ (q38 (by lia) zq) ?_ ?_
 .rintro i t e hi ⟨_,rfl⟩;rw[q06,M1.Vf];exact le_refl _
 .rintro i t e hi ⟨rfl,rfl⟩;refine⟨_,rfl,_,_,rfl,rfl,⟨by decide,by decide⟩,_,rfl,_,rfl,_,_,rfl,rfl,.inl ⟨by lia,by lia⟩,_,_,rfl,rfl,_,_,rfl,rfl,(by show(0:Int)<999;decide),_,_,rfl,rfl,rfl,?_⟩;rw[M1.zk1,q07,Int.zero_add];rfl
 .rintro t e ⟨rfl,rfl⟩ l hl;exact q l _ ((ae.new v).aw hl) (ae.free (ae.new v) hl) zd
variable (Xg:bJ P w K m b 1 "_law_couples" K0 (Rm K))
inductive Rn (K:Frag)(vs:List V)(H:Hp)(Q:VK)(E:XK):Prop|mk(a:Addr) (e:List (List Int)) (c:Int):vs=[.ref a,.int c]->Refs K (IL K) H a e->e.length<=1000->((∀d∈e,c∈d))->(∀(l:Addr)(t:Hp),ae H t->H l=none->t l=some (.lst ((M5.zp e c).map V.int))->Q (.ref l) t)->Rn K vs H Q E
include T in
theorem zlJ(F:aS K "_law_marks" "_law_marks" K1 f fd):ar P w K m b bp 1 f fd wQ (Rn K):=by
 refine F.ok zlA ?_;rintro y A outer s H C Q E z⟨a,j,c,rfl,⟨u,r,n⟩,B,g,q⟩;refine⟨_,(ze (zh (zN (show aj (zf K1) wQ "_law_card_here" ["_law_couple"] [1] _ from dU) rfl (zz ak) (λ_ _ _ _ _=>yA) (λ_ _ _ _ _=>(zo zS (DY (K:=K) rfl PySem.F.plainAttrs_list PySem.F.slot_list_index PySem.F.type_list_index (oZ (K:=K) rfl) ak (za aA zb)) zg))))),?_⟩;have p:=n.length;refine⟨_,rfl,a,rfl,⟨_,r⟩,?_⟩;refine zY (xs:=u.map V.ref) (λi t e=>e=H/\t=(M5.zp (j.take i) c).map V.int) ⟨rfl,rfl⟩ ?_ (by rw[q06];have:=zq;lia) ?_ ?_
 .rintro i t e hi ⟨rfl,rfl⟩;refine⟨r,?_⟩;rw[q06,M5.zU,q11]
  lia
 .rintro i x t e hx ⟨rfl,rfl⟩;obtain⟨l,k,rfl⟩:=wN hx;obtain⟨d,v,h⟩:=n.getL k;have o:=g d (mem_of_getElem? v);refine⟨_,rfl,.inl ⟨rfl,_,h⟩,_,rfl,l,_,_,rfl,rfl,h,rfl,zA _,?_⟩;rw[wd,q06];refine⟨idxOf_lt_length_of_mem o,_,_,rfl,rfl,rfl,?_⟩;rw[take_succ,v];unfold M5.zp;rw[q07,q07];rfl
 .rintro t e ⟨rfl,rfl⟩ l xN;rw[q06,p,q15];exact q l _ (ae.new xN) xN zd
variable (EG:bJ P w K m b 1 "_law_marks" wQ (Rn K))
inductive Ro (K:Frag)(vs:List V)(H:Hp)(Q:VK)(E:XK):Prop|mk(p:Addr)(F:Addr->Prop)(S:Sh)(j:Str)(a:Addr)(ns:List Int):vs=[.ref p,.str j,.ref a]->aq K H p F S->ah K H a (ns.map V.int)->ns.length<64->((∀c,S.refuse j ns=some c->∀C e,aX K c C->ae H e->E (.ref C) none e))->((S.refuse j ns=none->∀e t,aq K e p t (S.hand j ns)->fX F H t e->Q .bR e))->Ro K vs H Q E
include T FJ LS W7 in
theorem zhv(F:aS K "hand_in" "Sheet.hand_in" PR f fd):ar P w K m b (dM P w) 2 f fd yY (Ro K):=by
 obtain⟨qA,aY,gK,bL⟩:=T.bL;obtain⟨iS,aC,dg,aJ⟩:=T.aJ;refine F.ic zhf ?_;rintro g5 g4 aN g2 outer g8 g0 vs g3 E hX L fl md N⟨p,F,S,j,a,ns,rfl,R,hA,hz,Q,g1⟩;obtain⟨v,r,s,u,d,G,h⟩:=id R;subst hX;refine⟨_,(zc (zI (JT FJ T.ai fl (hM N) ak))
  (zc (zI (xo LS T.ai fl (hM N) ak (za aA zb)))
  (zc (zu (qR (mI (aI W7 N (za aL (za (wI ak rfl) zb))))) (ze (yh rfl md rfl gK bL (za zm zb))) zn)
  (zc (zu (zj Gv (wI ak rfl) (Fe T.jT rfl) (zl _)) (ze (yh rfl md rfl dg aJ (za zm zb))) zn)
  (zc (nE (Fc N) (wI ak rfl) aA (zy yn (by rfl) T.cP boot_list (za aL zb)) rfl)
  (ze (Ak ak (zo zS (wI ak rfl) zg) rfl))))))),?_⟩
 have cF:=zq;have Fw:=h.ok.dO;refine⟨_,rfl,p,v,_,rfl,h.ip,rfl,p,F,S,rfl,R,(λA C U=>?_),λA=>?_⟩
 .rw[L];exact Q "SheetSealed" (by unfold Sh.refuse;rw[q01 A]) C _ U (ae.refl _)
 refine⟨_,rfl,p,v,_,rfl,h.ip,rfl,_,rfl,p,F,S,j,rfl,R,(λI C U=>?_),λI=>?_⟩
 .rw[L];exact Q "UnknownJudge" (by unfold Sh.refuse;rw[q00 (by rw[A];exact q23),q00 I]) C _ U (ae.refl _)
 refine⟨_,rfl,_,rfl,p,_,v,_,_,rfl,h.ip,T.ai,T.aV,rfl,a,r,ns,S.aa,rfl,hA,ah.of h.i1,hz,by lia,λx t=>⟨_,rfl,?_⟩⟩;refine yl (λM=>?_) (λM=>?_)
 .refine⟨(by show 1<=sizeLine;decide),?_⟩;rw[L];exact Q "BadCard" (by unfold Sh.refuse;rw[q00 (by rw[A];exact q23),q01 I,q00 M]) _ _ aY t
 have g:=t _ _ h.ip;have W:=t _ _ h.i1;have O:=t _ _ h.i2;have X:=t _ _ h.i3;have B:=t _ _ h.i4;refine⟨_,rfl,p,_,v,_,_,rfl,g,T.ai,T.bw,rfl,_,_,rfl,rfl,_,rfl,zX (λht=>?_) (λht=>?_)⟩
 .refine⟨(by show 1<=sizeLine;decide),?_⟩;rw[L];exact Q "TooManyCards" (by unfold Sh.refuse;rw[q00 (by rw[A];exact q23),q01 I,q01 M,q01 (by lia)]) _ _ aC t
 have hn:S.refuse j ns=none:=by unfold Sh.refuse;rw[q00 (by rw[A];exact q23),q01 I,q01 M,q00 (by lia)]
 have hk:=h.kl;have g6:=h.ok.uP;refine⟨_,rfl,a,_,rfl,.inl (t.seq hA),λl q=>?_⟩;have J:∀b o,x b=some o->upd x l (.lst (ns.map V.int)) b=some o:=λb o e=>ae.new q b o e;refine⟨_,rfl,p,_,v,_,_,rfl,J _ _ g,T.ai,T.aG,rfl,_,rfl,d,_,rfl,pM.k (k:=Sum.inr j) (J _ _ B) (by lia),?_⟩;have n1:r≠p:=yb W g (by intro z;cases z);have n2:s≠p:=yb O g (by intro z;cases z);have n3:u≠p:=yb X g (by intro z;cases z);have n4:d≠p:=yb B g (by intro z;cases z);have m1:r≠d:=yb W B (by intro z;cases z);have m2:s≠d:=yb O B (by intro z;cases z);have m3:u≠d:=yb X B (by intro z;cases z);have lp:l≠p:=λz=>by rw[z,g]at q;cases q
 have ld:l≠d:=λz=>by rw[z,B]at q;cases q
 have l2:l≠s:=λz=>by rw[z,O]at q;cases q
 have Z:upd (upd x l (.lst (ns.map V.int))) d (.dK (jh G (Sum.inr j) (.ref l))) p=some (.ins (yu K "Sheet") v (iJ r s u d S)):=by rw[zi (Ne.symm n4)];exact J _ _ g
 refine⟨_,rfl,p,_,v,_,_,rfl,Z,T.ai,T.bw,rfl,_,_,rfl,rfl,?_⟩;refine⟨_,rfl,p,_,v,_,rfl,Z,T.ai,T.bw,(by show 6<1000;decide),?_⟩;have et:(V.int ((S.taken:Int)+1))=.int ((S.hand j ns).taken:Nat):=by show V.int _=V.int ((S.taken+1:Nat):Int);congr 1
 show _;dsimp only;rw[et,uQ r s u d S (S.hand j ns) rfl];obtain⟨D5,_⟩:=h.ok.hand hn;have up:∀b o,x b=some o->b≠p->b≠d->upd (upd (upd x l (.lst (ns.map V.int))) d (.dK (jh G (Sum.inr j) (.ref l)))) p (.ins (yu K "Sheet") v (iJ r s u d (S.hand j ns))) b=some o:=λb o e nb nd=>by rw[zi nb,zi nd];exact J b o e
 have el:upd (upd (upd x l (.lst (ns.map V.int))) d (.dK (jh G (Sum.inr j) (.ref l)))) p (.ins (yu K "Sheet") v (iJ r s u d (S.hand j ns))) l=some (.lst (ns.map V.int)):=by rw[zi lp,zi ld];exact zd
 refine g1 hn _ (λb=>F b\/b=l) ⟨v,r,s,u,d,jh G (Sum.inr j) (.ref l),⟨⟨zd,up _ _ W n1 m1,up _ _ O n2 m2,up _ _ X n3 m3,by rw[zi n4];exact zd,?_,λk D=>?_,λk c y=>?_,.inl h.fp,.inl h.f1,.inl h.f2,.inl h.f3,.inl h.f4,h.A9,h.Ba,λb H=>?_⟩,D5⟩⟩ λb o e n=>⟨up b o (t _ _ e) (λz=>n (z ▸ h.fp)) (λz=>n (z ▸ h.f4)),?_⟩
 .have:=OI G (Sum.inr j) (.ref l);show _<=S.taken+1
  lia
 .have D:(if k=j then some ns else S.card k)=none:=D;rw[J9];by_cases i:k=j
  .rw[q01 i]at D;cases D
  .rw[q00 i]at D;rw[q00 (λz=>i (by injection z))];exact h.cn k D
 .have y:(if k=j then some ns else S.card k)=some c:=y;rw[J9];by_cases i:k=j
  .rw[q01 i]at y;cases y;rw[q01 (by rw[i])];exact⟨l,rfl,el,.inr rfl,l2⟩
  .rw[q00 i]at y;rw[q00 (λz=>i (by injection z))];obtain⟨l',x1,Y,x3,x4⟩:=h.cs k c y;exact⟨l',x1,up _ _ (t _ _ Y) (yb Y h.ip (by intro z;cases z)) (yb Y h.i4 (by intro z;cases z)),.inl x3,x4⟩
 .by_cases CL:b=p
  .rw[CL,zd];exact λz=>nomatch z
  rw[zi CL];by_cases vL:b=d
  .rw[vL,zd];exact λz=>nomatch z
  rw[zi vL];rcases H with H | H
  .have:=h.fh b H;cases e:g0 b with
   | none=>exact q02 e this
   | some o=>rw[J _ _ (t _ _ e)];exact λz=>nomatch z
  .rw[H,zd];exact λz=>nomatch z
 .rintro (z | z)
  .exact n z
  .have:=t _ _ e;rw[z,q]at this;cases this
variable (Xi:ee P w K m b 2 (yu K "Sheet") "hand_in" yY (Ro K))
inductive Rp (K:Frag)(vs:List V)(H:Hp)(Q:VK)(E:XK):Prop|mk(p:Addr)(F:Addr->Prop)(S:Sh)(c:Int):vs=[.ref p,.int c]->aq K H p F S->((∀x,S.bo c=some x->∀C,aX K x C->E (.ref C) none H))->((S.bo c=none->∀e t,aq K e p t (S.bN c)->fX F H t e->Q .bR e))->Rp K vs H Q E
include T FJ rE QW in
theorem zig(F:aS K "strike" "Sheet.strike" PU f fd):ar P w K m b (dM P w) 2 f fd K2 (Rp K):=by
 obtain⟨cS,av,bc,au⟩:=T.au;obtain⟨jW,aH,d9,aM⟩:=T.aM;refine F.ic Wu ?_;rintro gH gC aN g9 outer gJ g2 vs gB E hX hW fl md Q⟨p,F,S,c,rfl,bq,qE,g8⟩;obtain⟨r,a1,t,u,d,ay,h⟩:=id bq;subst hX;refine⟨_,(zc (zI (JT FJ T.ai fl (hM Q) ak))
  (zc (zu (zj yC aA (wI ak rfl) (by first | exact zl _ | rfl)) (ze (yh rfl md rfl bc au (za zm zb))) zn)
  (zc (zu (zj zG (yf T.az (wI ak rfl)) zg (zl _)) (ze (yh rfl md rfl d9 aM (za zm zb))) zn)
  (zc (Ak ak (aI QW Q (za (wI ak rfl) (za aA zb))) rfl)
  (zc (zI (yD PySem.F.plainAttrs_list PySem.F.slot_list_append PySem.F.type_list_append yj (wI ak rfl) (za aA zb)))
  (ze (wf PassesOwn.leaving rfl (zz (zL rE T.ai (hM Q) ak)) (iH 2 Wu.nd)
    (ze (nE (Fc Q) (wI ak rfl) aL (aI QW Q (za (nD (Fc Q) (wI ak rfl) aL bF) (za aA zb))) rfl))))))))),?_⟩
 have cF:=zq;have Fw:=h.ok.dO;refine⟨_,rfl,p,r,_,rfl,h.ip,rfl,p,F,S,rfl,bq,(λhs g4 hC=>?_),λhs=>?_⟩
 .rw[hW];exact qE "SheetSealed" (by unfold Sh.bo;rw[q01 hs]) g4 hC
 have tR:¬S.bG=true:=by rw[hs];exact q23
 refine⟨_,rfl,_,rfl,p,_,r,_,_,rfl,h.ip,T.ai,T.aV,rfl,a1,_,rfl,.inl (ah.of h.i1),rfl,zA _,_,rfl,?_⟩;rw[Ff];refine yl (λhc=>?_) (λhc=>?_)
 .refine⟨(by show 1<=sizeLine;decide),?_⟩;rw[hW];exact qE "UnknownCouple" (by unfold Sh.bo;rw[q00 tR,q00 hc]) _ av
 refine⟨_,rfl,p,_,r,_,_,rfl,h.ip,T.ai,T.aV,rfl,a1,_,rfl,.inl (ah.of h.i1),rfl,_,rfl,?_⟩;rw[q06];refine zX (λO=>?_) (λO=>?_)
 .refine⟨(by show 1<=sizeLine;decide),?_⟩;rw[hW];injection O with O
  exact qE "LastCouple" (by unfold Sh.bo;rw[q00 tR,q01 hc,q01 (by lia)]) _ aH
 have O:S.aa.length≠1:=λz=>O (by rw[z];rfl);have hn:S.bo c=none:=by unfold Sh.bo;rw[q00 tR,q01 hc,q00 O]
 refine⟨_,rfl,p,_,r,_,_,rfl,h.ip,T.ai,T.aV,rfl,_,rfl,a1,S.aa,c,rfl,ah.of h.i1,by lia,λv N L f2 I=>?_⟩;have W:=L _ _ h.ip;have i2:=L _ _ h.i2;have i3:=L _ _ h.i3;have i4:=L _ _ h.i4;refine⟨_,rfl,p,_,r,_,rfl,W,T.ai,T.aV,(by show 6<1000;decide),?_⟩;rw[zmL a1 t u d v S (S.bN c) rfl rfl];have n2:t≠p:=yb i2 W (by intro z;cases z);have n3:u≠p:=yb i3 W (by intro z;cases z);have n4:d≠p:=yb i4 W (by intro z;cases z);have n1:v≠p:=yb I W (by intro z;cases z);have m2:t≠d:=yb i2 i4 (by intro z;cases z);have U:v≠t:=λz=>by rw[z,h.i2]at f2;cases f2
 have Xj:upd N p (.ins (yu K "Sheet") r (iJ v t u d (S.bN c))) t=some (.lst (S.struck.map V.int)):=by rw[zi n2];exact i2
 refine⟨_,rfl,p,_,r,_,_,rfl,zd,T.ai,T.cm,rfl,.inl ⟨rfl,_,ah.of Xj⟩,_,rfl,t,_,_,rfl,rfl,Xj,(by rw[q06];lia),?_⟩;have up:∀b o,N b=some o->b≠p->b≠t->upd (upd N p (.ins (yu K "Sheet") r (iJ v t u d (S.bN c)))) t (.lst (S.struck.map V.int++[V.int c])) b=some o:=λb o e nb D=>by rw[zi D,zi nb];exact e
 have Y:upd (upd N p (.ins (yu K "Sheet") r (iJ v t u d (S.bN c)))) t (.lst (S.struck.map V.int++[V.int c])) p=some (.ins (yu K "Sheet") r (iJ v t u d (S.bN c))):=by rw[zi (Ne.symm n2)];exact zd
 have Cf:upd (upd N p (.ins (yu K "Sheet") r (iJ v t u d (S.bN c)))) t (.lst (S.struck.map V.int++[V.int c])) t=some (.lst ((S.bN c).struck.map V.int)):=mU _ _;generalize jq:upd (upd N p _) t _=H3 at up Y Cf ⊢;have F3:∀b,(F b\/b=v)->H3 b≠none:=λb s=>by
  by_cases CL:b=p
  .rw[CL,Y];exact λz=>nomatch z
  by_cases Xk:b=t
  .rw[Xk,Cf];exact λz=>nomatch z
  rcases s with s | s
  .have:=h.fh b s;cases e:g2 b with
   | none=>exact q02 e this
   | some o=>rw[up _ _ (L _ _ e) CL Xk];exact λz=>nomatch z
  .rw[s,up _ _ I n1 U];exact λz=>nomatch z
 have D3:fX F g2 (λb=>F b\/b=v) H3:=λb o e n=>⟨up b o (L _ _ e) (λz=>n (z ▸ h.fp)) (λz=>n (z ▸ h.f2)),λz=>z.elim n λz=>by rw[z,f2]at e;cases e⟩;have JS:∀j a,S.card j=some a->∃l,gE ay (Sum.inr j)=some (.ref l)/\H3 l=some (.lst (a.map V.int))/\(F l\/l=v)/\l≠t:=λj a e=>by
  obtain⟨l,H,C,R,M⟩:=h.cs j a e;exact⟨l,H,up _ _ (L _ _ C) (yb C h.ip (by intro z;cases z)) M,.inl R,M⟩
 obtain⟨D5,_⟩:=h.ok.bN hn;refine⟨_,rfl,p,r,_,rfl,Y,rfl,p,(λb=>F b\/b=v),⟨wo c S.aa,S.struck++[c],S.ag,S.card,S.taken,S.bG⟩,rfl,⟨r,v,t,u,d,ay,⟨Y,up _ _ I n1 U,Cf,up _ _ i3 n3 h.Ba,up _ _ i4 n4 (Ne.symm m2),h.kl,h.cn,JS,.inl h.fp,.inr rfl,.inl h.f2,.inl h.f3,.inl h.f4,U,h.Ba,F3⟩⟩,h.ok.fD,λg3 H4 G f4 e4=>?_⟩;have gI:S.handed.length<=15:=q38 (q09 _ _) h.ok.fD;refine⟨g3,rfl,⟨_,ah.of e4⟩,?_⟩;refine Jy (xs:=S.handed.map V.str) (λi g1 q=>∃(g0:Option V)(B:List (Key×V)) (y:Addr->Prop),g1=[some (.ref p),some (.int c),g0]/\q p=some (.ins (yu K "Sheet") r (iJ v t u d (S.bN c)))/\q v=some (.lst ((wo c S.aa).map V.int))/\q t=some (.lst ((S.bN c).struck.map V.int))/\q u=some (.lst (S.ag.map V.str))/\q d=some (.dK B)/\q g3=some (.lst (S.handed.map V.str)) /\
  B.length<=S.taken/\(∀j,S.card j=none->gE B (Sum.inr j)=none)/\(∀j a,S.card j=some a->∃l,gE B (Sum.inr j)=some (.ref l)/\q l=some (.lst ((if j∈S.handed.take i then wo c a else a).map V.int))/\y l/\l≠t)/\(∀b,F b->y b)/\y v/\(∀b,y b->q b≠none)/\fX F g2 y q)
  ⟨_,ay,λb=>F b\/b=v,rfl,G _ _ Y,G _ _ (up _ _ I n1 U),G _ _ Cf,G _ _ (up _ _ i3 n3 h.Ba),G _ _ (up _ _ i4 n4 (Ne.symm m2)),e4,h.kl,h.cn,(λj a e=>?_),(λb s=>.inl s),.inr rfl,(λb s=>?_),λb o e n=>⟨G _ _ (D3 b o e n).1,(D3 b o e n).2⟩⟩ ?_ ?_ ?_
 .obtain⟨l,H,C,R,M⟩:=JS j a e;exact⟨l,H,by rw[q00 (by rw[take_zero];exact not_mem_nil)];exact G _ _ C,R,M⟩
 .have:=F3 b s;cases e:H3 b with
  | none=>exact q02 e this
  | some o=>rw[G _ _ e];exact λz=>nomatch z
 .rintro i g1 q hi ⟨g0,B,y,rfl,w1,w2,w3,w4,w5,w6,_⟩;exact ah.of w6
 .rintro i x g1 q hx ⟨g0,B,y,rfl,w1,w2,w3,w4,w5,w6,w7,w8,w9,FP,CM,Rq,Rr⟩;obtain⟨hi,rfl⟩:=DZ hx;have hm:=q24.mp (show S.handed.getD i "" ∈ S.ag.filter λj=>(S.card j).isSome from wu hi);generalize A:S.handed.getD i ""=j at hm;cases e:S.card j with
  | none=>rw[e]at hm;exact q02 hm.2 q23
  | some a =>
    have xP:S.handed.Nodup:=h.ok.uO.filter _;have g5:j∉S.handed.take i:=λz=>by
     have e1:S.handed.take (i+1)=S.handed.take i++[j]:=by rw[yz hi,A]
     have I:(S.handed.take (i+1)).Nodup:=xP.sublist (List.take_sublist _ _);rw[e1]at I;exact(List.nodup_append.mp I).2.2 j z j (List.mem_singleton.mpr rfl) rfl
    obtain⟨l,H,C,R,M⟩:=w9 j a e;rw[q00 g5]at C;have iD:a.length<=24:=by have:=(h.ok.cd j a e).2.length_eq;lia
    refine⟨_,rfl,p,_,r,_,_,rfl,w1,T.ai,T.aG,rfl,_,rfl,d,.ref l,rfl,H ▸ gF.k (k:=Sum.inr j) w5,_,rfl,l,a,c,rfl,ah.of C,by lia,λX H6 g f6 e6=>?_⟩;refine⟨_,rfl,p,_,r,_,_,rfl,g _ _ w1,T.ai,T.aG,rfl,_,rfl,d,_,rfl,pM.k (k:=Sum.inr j) (g _ _ w5) (by have:=h.ok.uP;lia),?_⟩;have D:∀b o,H6 b=some o->(∀k,o ≠ .dK k)->upd H6 d (.dK (jh B (Sum.inr j) (.ref X))) b=some o:=λb o e n=>by rw[zi (yb e (g _ _ w5) (n _))];exact e
    have ld:X≠d:=yb e6 (g _ _ w5) (by intro z;cases z);refine⟨_,jh B (Sum.inr j) (.ref X),λb=>y b\/b=X,rfl,D _ _ (g _ _ w1) (λ_ z=>nomatch z),D _ _ (g _ _ w2) (λ_ z=>nomatch z),D _ _ (g _ _ w3) (λ_ z=>nomatch z),D _ _ (g _ _ w4) (λ_ z=>nomatch z),zd,D _ _ (g _ _ w6) (λ_ z=>nomatch z),by rw[uR H];exact w7,λk J=>?_,λk b J=>?_,λb s=>.inl (FP b s),.inl CM,λb s=>?_,λb o e' n=>?_⟩
    .rw[J9,q00 (λz=>by injection z with z;rw[z,e]at J;cases J)];exact w8 k J
    .rw[J9,yz hi,A];by_cases ek:k=j
     .subst ek;rw[e]at J;cases J;rw[q01 rfl];refine⟨X,rfl,?_,.inr rfl,λz=>by rw[z,w3]at f6;cases f6⟩;rw[q01 (mem_append_right _ (List.mem_singleton.mpr rfl))];exact D _ _ e6 (λ_ z=>nomatch z)
     .rw[q00 (λz=>ek (by injection z))];obtain⟨m,Z,y2,y3,y4⟩:=w9 k b J;refine⟨m,Z,?_,.inl y3,y4⟩;have:(k∈S.handed.take i++[j])↔k∈S.handed.take i:=by
       rw[mem_append,mem_singleton];exact⟨λz=>z.elim id λw=>q02 w ek,.inl⟩
      simp only[this];exact D _ _ (g _ _ y2) (λ_ z=>nomatch z)
    .by_cases vL:b=d
     .rw[vL,zd];exact λz=>nomatch z
     rw[zi vL];rcases s with s | s
     .have:=Rq b s;cases e7:q b with
      | none=>exact q02 e7 this
      | some o=>rw[g _ _ e7];exact λz=>nomatch z
     .rw[s,e6];exact λz=>nomatch z
    .obtain⟨Z,y2⟩:=Rr b o e' n;refine⟨?_,λz=>z.elim y2 λw=>by rw[w,f6]at Z;cases Z⟩;have g6:b≠d:=λz=>n (by rw[z];exact h.f4);rw[zi g6];exact g _ _ Z
 .rintro g1 q ⟨g0,B,y,rfl,w1,w2,w3,w4,w5,w6,w7,w8,w9,FP,CM,Rq,Rr⟩;rw[q06,q15]at w9;refine g8 hn q y ⟨r,v,t,u,d,B,⟨⟨w1,w2,w3,w4,w5,w7,λj A=>?_,λj b A=>?_,FP _ h.fp,CM,FP _ h.f2,FP _ h.f3,FP _ h.f4,U,h.Ba,Rq⟩,D5⟩⟩ Rr
  .have A:(S.card j).map (wo c)=none:=A;exact w8 j (Option.map_eq_none_iff.mp A)
  .have A:(S.card j).map (wo c)=some b:=A;obtain⟨a,e,rfl⟩:=Option.map_eq_some_iff.mp A;obtain⟨l,H,C,R,M⟩:=w9 j a e;refine⟨l,H,?_,R,M⟩;have vM:j∈S.handed:=q24.mpr ⟨(h.ok.cd j a e).1,by rw[e];rfl⟩;rw[q01 vM]at C;exact C
variable (Xl:ee P w K m b 2 (yu K "Sheet") "strike" K2 (Rp K))
inductive Rt (K:Frag)(vs:List V)(H:Hp)(Q:VK)(E:XK):Prop|mk(p:Addr)(F:Addr->Prop)(S:Sh):vs=[.ref p]->aq K H p F S->((S.bG=true->∀C,aX K "SheetSealed" C->E (.ref C) none H))->((S.bG=false->∀e,aq K e p F S.close->fX F H F e->Q .bR e))->Rt K vs H Q E
include T FJ in
theorem zj2(F:aS K "seal" "Sheet.seal" PV f fd):ar P w K m b (dM P w) 2 f fd ["self"] (Rt K):=by
 refine F.ic zjZ ?_;rintro X W O A outer s H U Q E y x g R G⟨p,F,S,rfl,⟨r,t,v,a,d,k,h⟩,N,q⟩;subst y;refine⟨_,(zc (zI (JT FJ T.ai g (hM G) ak))
  (ze (Ak ak oB rfl))),?_⟩
 refine⟨_,rfl,p,r,_,rfl,h.ip,rfl,p,F,S,rfl,⟨r,t,v,a,d,k,h⟩,λi C u=>by rw[x];exact N i C u,λi=>?_⟩;refine⟨_,rfl,p,_,r,_,rfl,h.ip,T.ai,T.dc,(by show 6<1000;decide),?_⟩;rw[show V.bl true=V.bl S.close.bG from rfl,pQ t v a d S S.close rfl];have up:∀b o,H b=some o->b≠p->upd H p (.ins (yu K "Sheet") r (iJ t v a d S.close)) b=some o:=λb o e n=>by rw[zi n];exact e
 have I:t≠p:=yb h.i1 h.ip (by intro z;cases z);have J:v≠p:=yb h.i2 h.ip (by intro z;cases z);have L:a≠p:=yb h.i3 h.ip (by intro z;cases z);have M:d≠p:=yb h.i4 h.ip (by intro z;cases z);refine q i _ ⟨r,t,v,a,d,k,⟨⟨zd,up _ _ h.i1 I,up _ _ h.i2 J,up _ _ h.i3 L,up _ _ h.i4 M,h.kl,h.cn,λj c D=>?_,h.fp,h.f1,h.f2,h.f3,h.f4,h.A9,h.Ba,λb B=>?_⟩,h.ok.close⟩⟩ λb o e n=>⟨up b o e λz=>n (z ▸ h.fp),n⟩
 .obtain⟨l,x1,x2,x3,x4⟩:=h.cs j c D;exact⟨l,x1,up _ _ x2 (yb x2 h.ip (by intro z;cases z)),x3,x4⟩
 .by_cases CL:b=p
  .rw[CL,zd];exact λz=>nomatch z
  .rw[zi CL];exact h.fh b B
variable (Xm:ee P w K m b 2 (yu K "Sheet") "seal" ["self"] (Rt K))
inductive Ru (K:Frag)(vs:List V)(H:Hp)(Q:VK)(E:XK):Prop|mk(p:Addr)(F:Addr->Prop)(S:Sh)(j:Str):vs=[.ref p,.str j]->aq K H p F S->((j∉S.ag->∀C,aX K "UnknownJudge" C->E (.ref C) none H))->((j∈S.ag->S.card j=none->∀C,aX K "NoCard" C->E (.ref C) none H))->((∀c,S.card j=some c->∀(l:Addr)(e:Hp),ae H e->H l=none->e l=some (.lst (c.map V.int))->Q (.ref l) e))->Ru K vs H Q E
include T LS in
theorem zha(F:aS K "card_of" "Sheet.card_of" PX f fd):ar P w K m b (dM P w) 2 f fd yW (Ru K):=by
 obtain⟨U,z,J,y⟩:=T.bu;refine F.ic zhA ?_;rintro X W R A outer s H V Q E I r D M n⟨p,F,S,j,rfl,⟨t,o,g,u,d,x,h⟩,O,N,q⟩;subst I;refine⟨_,(zc (zI (xo LS T.ai D (hM n) ak (za aA zb)))
  (zc (zu (rV (pP (Fc n) aA (wI ak rfl))) (ze (yh rfl M rfl J y (za zm zb))) zn)
  (ze (zh (zy yn (by rfl) T.cP boot_list (za (nD (Fc n) (wI ak rfl) aA bF) zb)))))),?_⟩
 refine⟨_,rfl,p,t,_,rfl,h.ip,rfl,_,rfl,p,F,S,j,rfl,⟨t,o,g,u,d,x,h⟩,λv C G=>by rw[r];exact O v C G,λv=>?_⟩;refine⟨_,rfl,_,rfl,p,_,t,_,_,rfl,h.ip,T.ai,T.aG,rfl,d,_,rfl,gF.k (k:=Sum.inr j) h.i4,_,rfl,?_⟩;cases e:S.card j with
 | none =>
   rw[h.cn _ e];exact⟨(by show 1<=sizeLine;decide),by rw[r];exact N v e _ z⟩
 | some c =>
   obtain⟨l,a,B,_⟩:=h.cs _ _ e;rw[a];refine⟨_,rfl,p,_,t,_,_,rfl,h.ip,T.ai,T.aG,rfl,_,rfl,d,.ref l,rfl,a ▸ gF.k (k:=Sum.inr j) h.i4,l,_,rfl,.inl (ah.of B),λL i=>?_⟩;exact q c e L _ (ae.new i) i zd
variable (vO:ee P w K m b 2 (yu K "Sheet") "card_of" yW (Ru K))
inductive Rv (K:Frag)(vs:List V)(H:Hp)(Q:VK)(E:XK):Prop|mk(a b:Addr) (e:List (List Int)) (t:List Int):vs=[.ref a,.ref b]->Refs K (IL K) H a e->ah K H b (t.map V.int)->e.length<=500->t.length<=500->((∀u∈t,∀d∈e,u∈d))->(∀(l:Addr)(v:Hp),ae H v->H l=none->v l=some (.lst ((M5.HJ e t).map V.int))->Q (.ref l) v)->Rv K vs H Q E
include T WU EG in
theorem zla(F:aS K "_law_spots" "_law_spots" Il f fd):ar P w K m b bp 2 f fd K3 (Rv K):=by
 refine F.ok Wv ?_;rintro aN g2 outer g4 H vs g3 E G⟨a,b,s,t,rfl,hA,D,hz,hu,hm,q⟩;refine⟨_,(zc (br 2 Wv.nd (zN (show aj (zf Il) PY "_law_couple" ["_law_cards","_law_couples_here"] [0,1] _ from dU) rfl (zz aA) (λ_ _ _ _ _=>yA) (λ_ _ _ _ _=>(aI WU G (za (aI EG G (za aA (za ak zb))) (za (Ct (K:=K) rfl T.az aL) zb))))))
  (ze (zh (tZ (show bK (zf Il) PY "_law_mine" ["_law_ranks"] [2] _ from OF) rfl (zz aL) (λ_ _ _ _ _ _=>yA) (λ_ _ _ _ _ _=>(zo zS zg (Ct (K:=K) rfl T.az (zN (aj.under (show aj _ ["_law_mine","_law_ranks"] "_law_rank" ["_law_mine"] [0] _ from dU)) rfl (tO (K:=K) rfl aA) (λ_ _ _ _ _=>(yP (zj (Z1 (K:=K) rfl G.bE) ak aA (zl _)))) (λ_ _ _ _ _=>ak))))))))),?_⟩
 have cF:=zq;refine⟨_,rfl,b,rfl,⟨_,D⟩,?_⟩;refine zY (xs:=t.map V.int) (λi n c=>ae H c/\∃v:List Addr,n=v.map V.ref/\All2 (IL K c) v ((t.take i).map λg0=>M5.key (M5.zp s g0) t.length)) ⟨ae.refl _,[],rfl,.nil⟩ ?_ (by rw[q06];lia) ?_ ?_
 .rintro i n c u ⟨d,v,rfl,r⟩;refine⟨d.seq D,?_⟩;have:=r.length;rw[q06,q11]at this;rw[q06]
  lia
 .rintro i x n c hx ⟨d,v,rfl,r⟩;obtain⟨u,rfl⟩:=yU hx;refine⟨_,rfl,_,rfl,a,s,_,rfl,hA.same (IL.stays K) d,by lia,hm _ (tG u),λl3 H3 W f3 e3=>?_⟩;have N:=d.trans W;refine⟨_,rfl,b,_,rfl,.inl (N.seq D),l3,_,_,rfl,ah.of e3,by rw[M5.zU];lia,by lia,by rw[q06];lia,λR Y X f4 O=>?_⟩;have C:(((t.map V.int).length:Nat):Int).toNat=t.length:=by rw[q06];lia
  rw[C]at O;refine⟨N.trans X,v++[R],by rw[q07];rfl,?_⟩;rw[yX u,q07];exact(r.imp λx y=>IL.stays K _ _ _ _ (W.trans X)).snoc (show IL K Y R _ from ah.of O)
 rintro n c ⟨d,v,rfl,r⟩ o gy;rw[q06,q15]at r;generalize M:upd c o _=p;have J:ae c p:=by rw[<-M];exact ae.new gy
 have L:p o=some (.lst (v.map V.ref)):=by rw[<-M];exact zd
 have z:All2 (IL K p) v (M5.Bc s t):=r.imp λx y=>IL.stays K _ _ _ _ J;have lr:(M5.Bc s t).length=t.length:=by unfold M5.Bc;rw[q06]
 have I:=z.length;have j5:M5.HJ s t=(M5.Bc s t).map λm=>1+(M5.DO (M5.Bc s t) m:Int):=rfl;rw[j5]at q;generalize M5.Bc s t=A at z lr I q;refine⟨_,rfl,o,rfl,⟨_,ah.of L⟩,?_⟩;refine zY (xs:=v.map V.ref) (λi n l=>ae p l/\n=((A.take i).map λm=>1+(M5.DO A m:Int)).map V.int) ⟨ae.refl _,rfl⟩ ?_ (by rw[q06];lia) ?_ ?_
 .rintro i n l u ⟨s6,rfl⟩;refine⟨s6.seq (ah.of L),?_⟩;rw[q06,q06,q11]
  lia
 .rintro i x n l hx ⟨s6,rfl⟩;obtain⟨g1,C,rfl⟩:=wN hx;obtain⟨m,em,rm⟩:=z.getL C;have S:ah K l o (v.map V.ref):=s6.seq (ah.of L);have m6:=IL.stays K _ _ _ _ s6 rm;refine⟨_,rfl,o,rfl,⟨_,S⟩,?_⟩;refine yL (xs:=v.map V.ref) (λj B g=>g=l/\B.length=((A.take j).filter λr=>HT.lexLt r m).length) ⟨rfl,rfl⟩ ?_ (by rw[q06];lia) ?_ ?_
  .rintro j B g hj ⟨rfl,e⟩;refine⟨S,?_⟩;have:=q09 (λr=>HT.lexLt r m) (A.take j);rw[q11]at this
   lia
  .rintro j y B g hy ⟨rfl,e⟩;obtain⟨k,ek,rfl⟩:=wN hy;obtain⟨U,Q,rr⟩:=z.getL ek;have r6:=IL.stays K _ _ _ _ s6 rr;refine⟨_,rfl,_,rfl,k,g1,_,_,rfl,rfl,r6,m6,_,rfl,Az (λh=>?_) (λh=>?_)⟩
   .refine⟨_,rfl,rfl,?_⟩;rw[take_succ,Q,q16,q08,q08,e];show _+1=_+(filter (λr=>HT.lexLt r m) [U]).length;rw[filter_cons_of_pos (by simpa using h)];rfl
   .refine⟨rfl,?_⟩;rw[take_succ,Q,q16,q08,e];show _=_+(filter (λr=>HT.lexLt r m) [U]).length;rw[filter_cons_of_neg (by simpa using h)];rfl
  rintro B g ⟨rfl,e⟩ l8 Z;rw[q06,I,q15]at e;refine⟨l8,_,rfl,.inl ah.new,_,_,rfl,rfl,s6.aw Z,?_⟩;rw[e,take_succ,em,q07,q07];rfl
 .rintro n l ⟨s6,rfl⟩ l9 jr;rw[q06,I,q15];exact q l9 _ ((d.trans (J.trans s6)).aw jr) ((d.trans (J.trans s6)).free jr) zd
variable (BF:bJ P w K m b 2 "_law_spots" K3 (Rv K))
inductive Rx (K:Frag)(vs:List V)(H:Hp)(Q:VK)(E:XK):Prop|mk(a b c:Addr) (e:List (List Int)) (t:List Int):vs=[.ref a,.ref b,.ref c]->Refs K (IL K) H a e->ah K H b (t.map V.int)->ah K H c ((M6.zB e t).map V.int)->e.length<=500->t.length<=500->((∀u∈t,∀d∈e,u∈d))->(∀(l:Addr)(v:Hp)(n:List Addr),ae H v->H l=none->v l=some (.lst (n.map V.ref))->All2 (F4 K v) n (M6.yq e t)->Q (.ref l) v)->Rx K vs H Q E
include T LU WW EG in
theorem zlK(F:aS K "_law_parts" "_law_parts" PZ f fd):ar P w K m b bp 2 f fd K4 (Rx K):=by
 refine F.ok wg ?_;rintro aN g8 outer gH g9 vs gB E j⟨a,b,g0,t,e,rfl,hA,hB,hC,hz,H,hm,q⟩;refine⟨_,(zc (br 3 wg.nd (aI LU j (za aL (za aA zb))))
  (zc (br 4 wg.nd (zv zb))
  (zc (wf PassesOwn.never rfl (Dl rfl T.bt (za zg (za (yf T.az bB) zb))) (iH 5 wg.nd)
    (ze (zu (zj jb (zx qW (zx zr bB fS bF) zg bF) (zx qW (zx zr bB (zo xa fS zg) bF) zg bF) (zl _)) (zc (br 6 wg.nd (zx qW (zx zr bB (zo xa fS zg) bF) zg bF))
  (zc (br 7 wg.nd (zx qW (zx zr bB fS bF) zg bF))
  (zc (br 8 wg.nd (aI WW j (za (aI EG j (za ak (za fC zb))) (za (aI EG j (za ak (za xx zb))) (za (yf T.az aA) zb)))))
  (ze (zI (yD PySem.F.plainAttrs_list PySem.F.slot_list_append PySem.F.type_list_append yj cO (za (oO (za fC (za xx (za (zx qW AY zg bF) (za (zx qW AY zg bF) zb))))) zb))))))) zn)))
  (ze (zh cO))))),?_⟩
 have cF:=zq;refine⟨_,rfl,_,rfl,g0,b,_,e,rfl,hC,hB,M6.yO t e,H,λc H1 u M f1 e1 z=>?_⟩;have mB:=M5.bQ (M6.zB t e) e (M6.yO t e);have gC:e.length*e.length<=500*500:=mul_le_mul H H;have D:=λg3 (k:g3∈M5.rows (M6.zB t e) e)=>M6.CA k;unfold M6.yq at q;generalize M5.rows (M6.zB t e) e=n at z mB D q;have du:=z.length;refine⟨by decide,λx I=>?_⟩;have s2:=ae.new (o:=.lst []) I;refine⟨_,rfl,c,_,rfl,.inl (ah.of (s2 _ _ e1)),_,_,rfl,⟨by decide,by decide,by rw[q06];lia,by rw[q06];lia⟩,?_⟩;refine yx (λi U d=>∃(O Q R S:Option V)(ms:List Addr),U=[some (.ref a),some (.ref b),some (.ref g0),some (.ref c),some (.ref x),O,Q,R,S]/\ae H1 d/\d x=some (.lst (ms.map V.ref))/\All2 (F4 K d) ms (((n.zip n.tail).take i).filterMap λv=>M6.nb t e v.1 v.2)) ⟨_,_,_,_,[],rfl,s2,zd,.nil⟩ ?_ ?_
 .rintro i U d hi ⟨O,Q,R,S,ms,rfl,fu,e2,r2⟩;rw[q06]at hi;have iX:i+1<n.length:=by lia
  have Xn:i<n.length:=by lia
  have ez:(n.zip n.tail)[i]? = some (n[i],n[i+1]):=by
   rw[q31 (by rw[length_zip,length_tail];lia),List.getElem_zip,List.getElem_tail]
  obtain⟨J,g1,ra⟩:=z.get (q31 Xn);obtain⟨L,g2,rb⟩:=z.get (q31 iX);obtain⟨W,Z⟩:=D _ (q44 Xn);obtain⟨X,L1⟩:=D _ (q44 iX);rw[take_succ,ez,filterMap_append];generalize n[i]=h at ra W Z ⊢;generalize n[i+1]=s at rb X L1 ⊢;have y:ah K d c (u.map V.ref):=ah.of (fu _ _ e1);have ta:=fu.lI ra;have tb:=fu.lI rb;have ea:fN (u.map V.ref) (1+(i:Int)-1)=some (.ref J):=by
   have:(1:Int)+(i:Int)-1=(i:Int):=by lia
   rw[this];exact zO (A7 g1)
  have eb:fN (u.map V.ref) (1+(i:Int))=some (.ref L):=by
   have:(1:Int)+(i:Int)=((i+1:Nat):Int):=by lia
   rw[this];exact zO (A7 g2)
  refine⟨_,rfl,_,rfl,c,_,_,_,rfl,rfl,y,eb,L,_,_,_,rfl,rfl,tb,rfl,_,rfl,_,rfl,_,_,rfl,rfl,c,_,_,_,rfl,rfl,y,ea,J,_,_,_,rfl,rfl,ta,rfl,rfl,_,rfl,yl (λg=>?_) (λG=>?_)⟩
  .have g:¬h.1=s.1:=λg5=>g (by rw[g5]);refine⟨_,rfl,_,rfl,_,_,rfl,rfl,c,_,_,_,rfl,rfl,y,ea,J,_,_,_,rfl,rfl,ta,rfl,?_⟩;refine⟨_,rfl,_,rfl,c,_,_,_,rfl,rfl,y,eb,L,_,_,_,rfl,rfl,tb,rfl,?_⟩;have Xo:=M.trans fu;refine⟨_,rfl,_,rfl,a,t,_,rfl,hA.same (IL.stays K) Xo,by lia,hm _ W,λl3 H3 s3 f3 e3=>?_⟩;have Y:=Xo.trans s3;refine⟨_,rfl,_,rfl,a,t,_,rfl,hA.same (IL.stays K) Y,by lia,hm _ X,λl4 H4 N f4 e4=>?_⟩;have g4:=Y.trans N;refine⟨_,rfl,b,_,rfl,.inl (g4.seq hB),l3,l4,_,_,e.length,?_,ah.of (N _ _ e3),ah.of e4,by rw[M5.zU,M5.zU],by rw[M5.zU];lia,by lia,?_,?_⟩
   .rw[q06];rfl
   .intro hn;have k:=M6.HN (M5.zp t h.2) (M5.zp t s.2) e.length;exact q02 (M6.Ke k hn) (M6.zi8 (by rw[<-Z,<-L1];exact g))
   .intro r j l5 H5 s5 hT;have k:=M6.Ke (M6.HN (M5.zp t h.2) (M5.zp t s.2) e.length) j;have A:=s3.trans (N.trans s5);have p:=A _ _ e2;refine⟨_,rfl,.inl ⟨rfl,_,ah.of p⟩,_,rfl,_,rfl,_,rfl,l5,_,_,_,rfl,rfl,hT,rfl,_,rfl,l5,_,_,_,rfl,rfl,hT,rfl,(by show 4<=sizeLine;decide),λp6 qr=>?_⟩;have l:=ae.new (o:=.tup [.int h.2,.int s.2,.int (r.1:Nat),.str r.2]) qr;have di:=r2.length;have iC:=List.length_filterMap_le (λv:(Int×Int)×(Int×Int)=>M6.nb t e v.1 v.2) ((n.zip n.tail).take i);rw[q11]at iC;refine⟨x,_,_,rfl,rfl,l _ _ p,by rw[q06];lia,?_⟩;refine⟨_,_,_,_,ms++[p6],rfl,(fu.trans (A.trans l)).put I,ON ms p6,?_⟩;have C:M6.nb t e h s=some (h.2,s.2,(r.1:Int),r.2):=by unfold M6.nb;rw[q00 g,k];rfl
    have B:filterMap (λv:(Int×Int)×(Int×Int)=>M6.nb t e v.1 v.2) (some (h,s)).toList=[(h.2,s.2,(r.1:Int),r.2)]:=by
     show filterMap _ [(h,s)]=_;rw[List.filterMap_cons_some (f:=λv:(Int×Int)×(Int×Int)=>M6.nb t e v.1 v.2) (a:=(h,s)) C,filterMap_nil]
    rw[B];refine All2.snoc (F4.put (r2.imp λ_ _=>F4.stays K _ _ _ _ (A.trans l)) (l _ _ p)) ?_;exact cE.put (ys:=ms.map V.ref) cE.new (l _ _ p)
  .have G:s.1=h.1:=by injection G
   have C:M6.nb t e h s=none:=by unfold M6.nb;rw[q01 G.symm]
   have B:filterMap (λv:(Int×Int)×(Int×Int)=>M6.nb t e v.1 v.2) (some (h,s)).toList=[]:=by
    show filterMap _ [(h,s)]=_;rw[List.filterMap_cons_none (f:=λv:(Int×Int)×(Int×Int)=>M6.nb t e v.1 v.2) (a:=(h,s)) C,filterMap_nil]
   rw[B,append_nil];exact⟨_,_,_,_,ms,rfl,fu,e2,r2⟩
 .rintro U d ⟨O,Q,R,S,ms,rfl,fu,e2,r2⟩;have et:(n.zip n.tail).take ((((u.map V.ref).length:Nat):Int)-1).toNat=n.zip n.tail:=take_of_length_le (by rw[length_zip,length_tail,q06];lia);rw[et]at r2;exact⟨_,rfl,q x _ ms (M.trans fu) (M.free I) e2 r2⟩
variable (Xp:bJ P w K m b 2 "_law_parts" K4 (Rx K))
inductive Rz (K:Frag)(vs:List V)(H:Hp)(Q:VK)(E:XK):Prop|mk(p c:Int)(a:Addr) (e:List (List Int)) (n:Nat):vs=[.int p,.int c,.ref a,.int n]->Refs K (IL K) H a e->e.length<=15->((∀d∈e,c∈d))->((∀x∈M5.zp e c,1<=x/\x<=24))->n<=24->p.natAbs<=990->c.natAbs<=1000->(∀t,ae H t->Q (.str (M6.Bh p c (M5.zp e c) n)) t)->Rz K vs H Q E
include T og W3 EG in
theorem zmF(F:aS K "_law_line" "_law_line" P0 f fd):ar P w K m b bp 2 f fd K5 (Rz K):=by
 refine F.ok Ww ?_;rintro aN g1 outer g4 H vs g2 E g⟨p,c,a,k,n,rfl,S,hz,U,r,W,X,rS,q⟩;refine⟨_,(zc (br 4 Ww.nd (aI EG g (za aL (za aA zb))))
  (ze (zh (aI og g (za (zo yd (zo yd (zo yd (zv (za ak (za aA (za zm zb)))) cO) (zv (za zm zb))) (aI W3 g (za cO (za bB zb)))) zb))))),?_⟩
 have cF:=zq;refine⟨_,rfl,_,rfl,a,k,c,rfl,S,by lia,U,λu t s1 f1 D=>?_⟩;have O:=M5.zU k c;generalize M5.zp k c=ms at D O r q;refine⟨_,rfl,_,rfl,(by show 3<=sizeLine;decide),λe C=>?_⟩;have x:=s1.aw (o:=.lst [.int p,.int c,.str M6.bar]) C;have l:upd t e (.lst [.int p,.int c,.str M6.bar]) e=some (.lst [.int p,.int c,.str M6.bar]):=zd;have s:=(ae.new (o:=.lst [.int p,.int c,.str M6.bar]) C) _ _ D;change ae H (upd t e (.lst [.int p,.int c,.str "|"]))at x;change upd t e (.lst [.int p,.int c,.str "|"]) e=_ at l;change upd t e (.lst [.int p,.int c,.str "|"]) u=_ at s;generalize mD:upd t e _=A at x l s ⊢;refine⟨_,rfl,e,u,_,_,rfl,rfl,l,s,by rw[q06];simp only[q12,length_nil];lia,λd J=>?_⟩;have L:=x.aw (o:=.lst ([.int p,.int c,.str M6.bar]++ms.map V.int)) J;have G:upd A d (.lst ([.int p,.int c,.str M6.bar]++ms.map V.int)) d=some (.lst ([.int p,.int c,.str M6.bar]++ms.map V.int)):=zd;have B:=(ae.new (o:=.lst ([.int p,.int c,.str M6.bar]++ms.map V.int)) J) _ _ s;generalize jq:upd A d _=v at L G B ⊢;refine⟨(by show 1<=sizeLine;decide),λi T=>?_⟩;have y:=ae.new (o:=.lst [.str M6.bar]) T;change ae v (upd v i (.lst [.str "|"]))at y;refine⟨d,i,_,[.str M6.bar],rfl,rfl,y _ _ G,zd,by rw[q08,q06];simp only[q12,length_nil];lia,λj R=>?_⟩;have z:=y.aw (o:=.lst ([.int p,.int c,.str M6.bar]++ms.map V.int++[.str M6.bar])) R;have I:upd (upd v i (.lst [.str "|"])) j (.lst ([.int p,.int c,.str M6.bar]++ms.map V.int++[.str M6.bar])) j=some (.lst ([.int p,.int c,.str M6.bar]++ms.map V.int++[.str M6.bar])):=zd;generalize BC:upd (upd v i _) j _=H5 at z I ⊢;have t5:=L.trans z;refine⟨_,rfl,_,rfl,u,ms,n,rfl,ah.of (z _ _ B),by lia,r,W,λY H6 M f6 Q=>?_⟩;have g3:=M6.VJ ms n;refine⟨j,Y,_,_,rfl,rfl,M _ _ I,Q,by simp only[q08,q06,q12,length_nil];lia,λZ rH=>?_⟩;have s7:=(t5.trans M).aw (o:=.lst ([.int p,.int c,.str M6.bar]++ms.map V.int++[.str M6.bar]++(M6.kF ms n).map V.str)) rH;refine⟨Z,_,M6.lX p c ms n,rfl,ah.new,?_,?_,?_,λN s'=>q N (s7.trans s')⟩
 .have hw1:All2 eW [.int p,.int c,.str M6.bar] ([tN p,tN c]++[M6.bar]):=.cons (.int (by lia)) (.cons (.int (by lia)) (.cons .str .nil));exact((hw1.append (Kk λg0 h=>by have:=r g0 h;lia)).append (FA [M6.bar])).append (FA _)
 .unfold M6.lX;simp only[q08,q06,q12,length_nil]
  lia
 .intro w hw;exact M6.VL (by lia) r X rS n w hw
variable (Xr:bJ P w K m b 2 "_law_line" K5 (Rz K))
inductive RB (K:Frag)(vs:List V)(H:Hp)(Q:VK)(E:XK):Prop|mk(a b:Addr) (v:List (List Int)) (e:List Int):vs=[.ref a,.ref b]->ah K H a ((M6.zB v e).map V.int)->ah K H b (e.map V.int)->e.length<=24->((∀u∈e,1<=u/\u<=999))->(∀t,ae H t->Q (.str (Txt.join M6.zE ((M5.rows (M6.zB v e) e).map M6.xH))) t)->RB K vs H Q E
include T LU og in
theorem zhD(F:aS K "_law_spot_text" "_law_spot_text" K6 f fd):ar P w K m b bp 2 f fd wX (RB K):=by
 refine F.ok zhp ?_;rintro S A outer s H vs Q E i⟨a,b,cs,e,rfl,u,x,W,y,q⟩;refine⟨_,(ze (zh (aI og i (za (Ox (show aZ (zf K6) P1 "_law_place" "_law_couple" [] [] _ from uI) rfl (zz (aI LU i (za ak (za aA zb)))) (λ_ _ _ _ _=>yA) (λ_ _ _ _ _=>(zo zC (zo zC (zy wq (by rfl) T.cb boot_str (za ak zb)) zm) (zy wq (by rfl) T.cb boot_str (za aA zb))))) zb)))),?_⟩;have U:=zq;have v:∀p∈M5.rows (M6.zB cs e) e,(1<=p.1/\p.1<=999)/\1<=p.2/\p.2<=999:=λt r=>by
  obtain⟨k,l⟩:=M6.CA r;have N:=M6.FE (cs:=cs) k;have O:=y _ k;have l:t.1=M6.gk cs e t.2:=l
  lia
 have Z:=M6.HV cs e;refine⟨_,rfl,_,rfl,a,b,_,e,rfl,u,x,by rw[M6.yO],by lia,λn J Y D V c C=>?_⟩;refine⟨n,rfl,⟨_,ah.of c⟩,?_⟩;refine O4 (f:=M6.xH) (ah.of c) C (by lia) (λt o R r s' h=>?_) λL G=>?_
 .obtain⟨p1,p2⟩:=v t r;obtain⟨n,B,j⟩:=M6.HW p1 p2;have X:(":":Str).length=1:=M6.Ko;unfold tN at n B;refine⟨_,rfl,.inl ⟨_,rfl,yI (by lia),_,_,rfl,rfl,(by lia),_,rfl,.inl ⟨_,rfl,yI (by lia),_,_,rfl,rfl,(by rw[zw];lia),?_⟩⟩⟩;exact h o (ae.refl _)
 intro j g;refine⟨j,_,(M5.rows (M6.zB cs e) e).map M6.xH,rfl,ah.new,FA _,by rw[q06];lia,λw z=>?_,λM I=>q _ (D.trans ((G.aw g).trans I))⟩;obtain⟨p,d,rfl⟩:=q25.mp z;have:=(M6.HW (v p d).1 (v p d).2).2.2
 lia
variable (IH:bJ P w K m b 2 "_law_spot_text" wX (RB K))
inductive RC (K:Frag)(vs:List V)(H:Hp)(Q:VK)(E:XK):Prop|mk(G:Addr->Prop)(k u c:Addr)(w:Nat)(S:Sh)(j:Str)(v:List Addr)(ns:List Int):vs=[.bl S.bG,.int w,.ref k,.ref u,.ref c]->Rows G H k v S.rows->H u=some (.lst (S.aa.map V.int))->H c=some (.lst (ns.map V.int))->¬G c->ns.length<=25->S.Ok->S.taken<200->(((w=S.ag.length/\j∉S.ag)\/(w<S.ag.length/\j=S.ag.getD w "")))->(∀(e:Hp)(t:List Addr),(∀b o,H b=some o->b≠k->e b=some o)->Rows G e k t (S.cH (.card j ns)).rows->Q (.str (S.cJ (.card j ns))) e)->RC K vs H Q E
include T WY in
theorem zib(F:aS K "_law_card_due" "_law_card_due" K7 f fd):ar P w K m b bp 2 f fd K8 (RC K):=by
 refine F.ok zh9 ?_;rintro aN g2 outer g5 g4 vs Q E H⟨g3,k,g1,c,w,S,j,u,ns,rfl,s,hU,r,nG,Kp,ok,ht,l,q⟩;refine⟨_,(zc (zu (zj (Hg H.bE) (zN (show aj (zf K7) P2 "_law_number" [] [] _ from dU) rfl (zz cO) (λ_ _ _ _ _=>(yP (PW.pt (Ac (zj E6 ak zg (zl _)) (BS (zj BZ ak zg (zl _))))))) (λ_ _ _ _ _=>ak)) (zv zb) (zl _)) (ze (zh zm)) zn)
  (zc (zu (M0 ak (λ_=>rfl)) (ze (zh zm)) zn)
  (zc (zu (zj zG aA (yf T.az aL) (zl _)) (ze (zh zm)) zn)
  (zc (zu (qR (mI (aI WY H (za cO (za bB zb))))) (ze (zh zm)) zn)
  (zc (kZ cO (MR aL aA Ni))
  (ze (zh zm))))))),?_⟩
 have cF:=zq;have i:=s.len;rw[S.bQ]at i;have p1:=ok.p1;have Y:u≠[]:=λz=>by rw[z]at i;simp at i;lia
 have J:((ns.filter λn=>decide (n<1\/n > 999))=[])↔ns.all qd=true:=by
  rw[List.filter_eq_nil_iff,q39];refine forall_congr' λn=>forall_congr' λ_=>?_;unfold qd;rw[q42,decide_eq_true_eq,decide_eq_true_eq,decide_eq_true_eq]
  lia
 refine⟨_,rfl,c,rfl,⟨_,ah.of r⟩,?_⟩;refine znw (p:=λn=>decide (n<1\/n > 999)) (ah.of r) (by lia) (λn U R hn s' h=>?_) (λn U R h=>⟨_,rfl,h⟩) λW s1=>?_
 .exact Ey (λR h=>⟨_,rfl,_,_,rfl,rfl,_,rfl,h⟩) (λR h=>⟨_,rfl,_,_,rfl,rfl,_,rfl,h⟩) R (h _ (ae.refl _))
 intro L Z;generalize N:upd W L _=X;have s2:=s1.A1 Z N;have e2:=rq N;refine⟨(by decide),λM eK=>?_⟩;have C:=ae.new (o:=.lst []) eK;have t:=s2.trans C;refine⟨L,M,_,[],rfl,rfl,ah.of (C _ _ e2),ah.new,zA _,rfl,_,rfl,?_⟩;generalize jq:upd X M _=a at C t ⊢;rw[show gZ ((ns.filter λn=>decide (n<1\/n > 999)).map V.int) []=decide ((ns.filter λn=>decide (n<1\/n > 999))=[])from yZ _ []];have dJ:S.cH (.card j ns)=S->Q (.str (S.cJ (.card j ns))) a:=λe=>q a u (λb o e _=>t b o e) (by rw[e];exact s.same t);refine yl (λA=>?_) (λA=>?_)
 .have v:(Rw.card j ns).bad=true:=by
   show(!ns.all qd)=true;cases e:ns.all qd with
   | true=>exact q02 (J.mpr e) A
   | false=>rfl
  have:=dJ (by unfold Sh.cH;rw[q01 v]);unfold Sh.cJ at this;rw[q01 v]at this;exact this
 have v:(Rw.card j ns).bad=false:=by
  show(!ns.all qd)=false;rw[J.mp A];rfl
 have ref:∀x,S.refuse j ns=some x->Q (.str (M6.mi x)) a:=λx g=>by
  have g:S.jj (.card j ns)=some x:=g;have:=dJ (by unfold Sh.cH;rw[v,q00 q23,g]);unfold Sh.cJ at this;rw[v,q00 q23,g]at this;exact this
 refine⟨_,rfl,_,rfl,?_⟩;cases I:S.bG with
 | true=>exact wn rfl (ref "SheetSealed" (q01 I))
 | false =>
   have y:¬S.bG=true:=by rw[I];exact q23
   refine zt rfl ?_;refine⟨_,rfl,_,rfl,k,_,rfl,.inl (ah.of (t _ _ s.1)),rfl,_,rfl,?_⟩;rw[q06,i];rcases l with⟨rfl,d⟩|⟨l,d⟩
   .exact wn (q19 rfl) (ref "UnknownJudge" (by unfold Sh.refuse;rw[q00 y,q00 d]))
   have O:j∈S.ag:=by rw[d];exact wu l
   refine zt (q20 λz=>by injection z with z;lia) ?_;refine⟨_,rfl,_,rfl,c,g1,ns,S.aa,rfl,ah.of (t _ _ r),ah.of (t _ _ hU),ok.nd,_,rfl,?_⟩;refine yl (λB=>?_) (λB=>?_)
   .exact ref "BadCard" (by unfold Sh.refuse;rw[q00 y,q01 O,q00 B])
   have D:S.jj (.card j ns)=none:=by
    show S.refuse j ns=none;unfold Sh.refuse;rw[q00 y,q01 O,q01 B,q00 (by lia)]
   have G:=s.same t;have g0:(S.cH (.card j ns)).rows=S.rows.set w ns:=by
    unfold Sh.cH;rw[v,q00 q23,D];show(S.hand j ns).rows=_;rw[d];exact Sh.jw (S:=S) ok.uO (k:=w) l ns
   have r4:=G.set Y (t _ _ r) nG w;have:=q (upd a k (.lst ((u.map V.ref).set w (.ref c)))) (u.set w c) (λb o e n=>by rw[zi n];exact t b o e) (by rw[g0];exact r4);unfold Sh.cJ at this;rw[v,q00 q23,D]at this;exact⟨_,rfl,_,rfl,_,rfl,k,_,_,w,rfl,rfl,G.1,uT (k:=(w:Int)) (by lia) (by rw[q06];lia),this⟩
variable (Xv:bJ P w K m b 2 "_law_card_due" K8 (RC K)){rs:List (List Int)}
def qD(f:List Int->List Int){i:Nat}(t:i<rs.length):((rs.take i).map f++rs.drop i).set i (f (rs.getD i []))=(rs.take (i+1)).map f++rs.drop (i+1):=by
 have v:((rs.take i).map f).length=i:=by rw[q06,q11];lia
 have e:rs.getD i []=rs[i]:=by rw[q18,q31 t];rfl
 rw[List.set_append_right _ _ (by lia),v,sub_self,drop_eq_getElem_cons t,List.set_cons_zero,e,take_succ,q31 t,q07,append_assoc];rfl
def qG(f:List Int->List Int){i:Nat}(e:i<rs.length):((rs.take i).map f++rs.drop i)[i]? = some (rs.getD i []):=by
 have t:((rs.take i).map f).length=i:=by rw[q06,q11];lia
 rw[q29 (by lia),t,sub_self,List.getElem?_drop,add_zero,q18,q31 e];rfl
inductive RD (K:Frag)(vs:List V)(H:Hp)(Q:VK)(E:XK):Prop|mk(G:Addr->Prop)(k u g:Addr)(n:Int)(S:Sh)(v:List Addr):vs=[.bl S.bG,.ref k,.ref u,.ref g,.int n]->Rows G H k v S.rows->H u=some (.lst (S.aa.map V.int))->H g=some (.lst (S.struck.map V.int))->(u≠g/\G u/\G g)->((∀b,G b->H b≠none))->S.Ok->(∀(e:Hp)(t:List Addr),(∀b o,H b=some o->b≠k->b≠u->b≠g->e b=some o)->Rows G e k t (S.cH (.bW n)).rows->e u=some (.lst ((S.cH (.bW n)).aa.map V.int))->e g=some (.lst ((S.cH (.bW n)).struck.map V.int))->Q (.str (S.cJ (.bW n))) e)->RD K vs H Q E
include T W2 in
theorem zgS(F:aS K "_law_strike_due" "_law_strike_due" P4 f fd):ar P w K m b bp 2 f fd wB (RD K):=by
 refine F.ok Wx ?_;rintro aN g8 outer g9 H vs Q E hr⟨G,k,u,g,n,S,d,rfl,s,D,N,⟨ug,gu,gg⟩,gx,ok,q⟩;refine⟨_,(zc (zu (M0 ak (λ_=>rfl)) (ze (zh zm)) zn)
  (zc (zu (zj yC cO aL (by first | exact zl _ | rfl)) (ze (zh zm)) zn)
  (zc (zu (zj zG (yf T.az aL) zg (zl _)) (ze (zh zm)) zn)
  (zc (zI (yD PySem.F.plainAttrs_list PySem.F.slot_list_append PySem.F.type_list_append yj bB (za cO zb)))
  (zc (zI (yD PySem.F.plainAttrs_list PySem.F.slot_list_remove PySem.F.type_list_remove pI aL (za cO zb)))
  (zc (wf PassesOwn.never rfl (ww rfl T.bt (za (yf T.az aA) zb)) (iH 5 Wx.nd)
    (ze (kZ (aI W2 hr (za (zx zr aA fS bF) (za cO zb))) (MR aA fS Ni))))
  (ze (zh zm)))))))),?_⟩
 have cF:=zq;have R:=s.len;have mB:S.rows.length=S.ag.length:=S.bQ;rw[mB]at R;have p1:=ok.p1;have fD:=ok.fD;have c1:=ok.c1;have dO:=ok.dO;have Xt:d≠[]:=λz=>by rw[z]at R;simp at R;lia
 have I:(Rw.bW n).bad=false:=rfl;have ref:∀x,S.bo n=some x->Q (.str (M6.mi x)) H:=λx J=>by
  have J:S.jj (.bW n)=some x:=J;have e:S.cH (.bW n)=S:=by unfold Sh.cH;rw[I,q00 q23,J]
  have:=q H d (λb o e _ _ _=>e) (by rw[e];exact s) (by rw[e];exact D) (by rw[e];exact N);unfold Sh.cJ at this;rw[I,q00 q23,J]at this;exact this
 refine⟨_,rfl,_,rfl,?_⟩;cases hs:S.bG with
 | true=>exact wn rfl (ref "SheetSealed" (q01 hs))
 | false =>
   have L:¬S.bG=true:=by rw[hs];exact q23
   refine zt rfl ?_;refine⟨_,rfl,_,rfl,u,_,rfl,.inl (ah.of D),rfl,zA _,_,rfl,?_⟩;rw[Ff];refine yl (λp=>?_) (λp=>?_)
   .exact ref "UnknownCouple" (by unfold Sh.bo;rw[q00 L,q00 p])
   refine⟨_,rfl,u,_,rfl,.inl (ah.of D),rfl,_,rfl,?_⟩;rw[q06];refine zX (λc=>?_) (λc=>?_)
   .exact ref "LastCouple" (by unfold Sh.bo;rw[q00 L,q01 p,q01 (by injection c with c;lia)])
   have c:¬S.aa.length=1:=λz=>c (by rw[z];rfl);have Z:S.jj (.bW n)=none:=by
    show S.bo n=none;unfold Sh.bo;rw[q00 L,q01 p,q00 c]
   have g6:S.cH (.bW n)=S.bN n:=by
    unfold Sh.cH;rw[I,q00 q23,Z];rfl
   rw[g6]at q;have q:∀(a:Hp)(t:List Addr),(∀b o,H b=some o->b≠k->b≠u->b≠g->a b=some o)->Rows G a k t (S.rows.map (wo n))->a u=some (.lst ((wo n S.aa).map V.int))->a g=some (.lst ((S.struck++[n]).map V.int))->Q (.str "struck") a:=λa t g0 b g1 g4=>by
    have:=q a t g0 (by rw[Sh.kD];exact b) g1 g4;unfold Sh.cJ at this;rw[I,q00 q23,Z]at this;exact this
   have ku:k≠u:=λz=>s.2.1 (by rw[z];exact gu);have kg:k≠g:=λz=>s.2.1 (by rw[z];exact gg);refine⟨_,rfl,.inl ⟨rfl,_,ah.of N⟩,_,rfl,g,_,_,rfl,rfl,N,by rw[q06];lia,?_⟩;have X:upd H g (.lst (S.struck.map V.int++[V.int n])) u=some (.lst (S.aa.map V.int)):=by rw[zi ug];exact D
   have g2:upd H g (.lst (S.struck.map V.int++[V.int n])) g=some (.lst ((S.struck++[n]).map V.int)):=by rw[zd,q07];rfl
   have r2:=s.put (o:=.lst (S.struck.map V.int++[V.int n])) (x:=g) ⟨kg,λl O z=>let ⟨_,w⟩:=s.2.2.uS O;w.2 (by rw[z];exact gg)⟩;have o2:∀b o,H b=some o->b≠g->upd H g (.lst (S.struck.map V.int++[V.int n])) b=some o:=λb o e nb=>by rw[zi nb];exact e
   generalize mD:upd H g _=C at X g2 r2 o2 ⊢;refine⟨_,rfl,.inl ⟨rfl,_,ah.of X⟩,_,rfl,u,S.aa,n,rfl,rfl,X,ok.nd,p,?_⟩;have u3:upd C u (.lst ((wo n S.aa).map V.int)) u=some (.lst ((wo n S.aa).map V.int)):=zd;have g3:upd C u (.lst ((wo n S.aa).map V.int)) g=some (.lst ((S.struck++[n]).map V.int)):=by rw[zi ug.symm];exact g2
   have W:=r2.put (o:=.lst ((wo n S.aa).map V.int)) (x:=u) ⟨ku,λl O z=>let ⟨_,w⟩:=s.2.2.uS O;w.2 (by rw[z];exact gu)⟩;have o3:∀b o,H b=some o->b≠u->b≠g->upd C u (.lst ((wo n S.aa).map V.int)) b=some o:=λb o e A y=>by rw[zi A];exact o2 b o e y
   have g5:HO.lst ((S.aa.filter λo => !decide (o=n)).map V.int)=.lst ((wo n S.aa).map V.int):=rfl;rw[g5];generalize jq:upd C u _=H3 at u3 g3 W o3 ⊢;refine⟨_,rfl,k,_,rfl,.inl (ah.of W.1),_,rfl,by lia,by rw[q06];lia,?_⟩;rw[q06,show((d.length:Nat):Int).toNat=d.length by lia];refine yx (λj Y r=>∃(v:Option V)(t:List Addr),Y=[some (.bl false),some (.ref k),some (.ref u),some (.ref g),some (.int n),v]/\r u=some (.lst ((wo n S.aa).map V.int))/\r g=some (.lst ((S.struck++[n]).map V.int))/\Rows G r k t ((S.rows.take j).map (wo n)++S.rows.drop j)/\(∀b o,H b=some o->b≠k->b≠u->b≠g->r b=some o)) ⟨_,d,rfl,u3,g3,W,λb o e _ A y=>o3 b o e A y⟩ ?_ ?_
   .rintro j Y r hj7 ⟨v,t,rfl,i3,i4,i6,i7⟩;have U:j<S.rows.length:=by lia
    have oh:=i6.len;have rH:((S.rows.take j).map (wo n)++S.rows.drop j).length=S.rows.length:=by rw[q08,q06,q11,length_drop];lia
    have RE:t≠[]:=λz=>by rw[z]at oh;simp at oh;lia
    obtain⟨l,el,rl⟩:=i6.2.2.get (qG (wo n) U);have Ci:(S.rows.getD j []).length<=24:=Sh.Bb ok (by rw[q18,q31 U];exact q44 _);rw[Int.zero_add];refine⟨_,rfl,_,rfl,k,_,_,_,rfl,rfl,ah.of i6.1,zO (A7 el),_,rfl,l,_,n,rfl,ah.of rl.1,by lia,λi H8 B h M=>?_⟩;have M:H8 i=some (.lst ((wo n (S.rows.getD j [])).map V.int)):=M;refine⟨_,rfl,_,rfl,k,_,_,j,rfl,rfl,B _ _ i6.1,uT (by lia) (by rw[q06];show j<t.length;lia),?_⟩;have nv:¬G i:=λz=>by
     cases e:H i with
     | none=>exact gx i z e
     | some o =>
       have:=i7 i o e (λw=>by rw[w,i6.1]at h;cases h) (λw=>by rw[w,i3]at h;cases h) (λw=>by rw[w,i4]at h;cases h);rw[h]at this;cases this
    have r8:=(i6.same B).set RE M nv j;rw[qD (wo n) U]at r8;exact⟨_,t.set j i,rfl,by rw[zi ku.symm];exact B _ _ i3,by rw[zi kg.symm];exact B _ _ i4,r8,λb o e nk A y=>by rw[zi nk];exact B _ _ (i7 b o e nk A y)⟩
   .rintro Y r ⟨v,t,rfl,i3,i4,i6,i7⟩;rw[show d.length=S.rows.length by lia,q15,List.drop_length,append_nil]at i6;exact q r t i7 i6 i3 i4
variable (Xw:bJ P w K m b 2 "_law_strike_due" wB (RD K))
inductive RF (K:Frag)(vs:List V)(H:Hp)(Q:VK)(E:XK):Prop|mk(a:Addr) (e:List (List Int)) (c:Int):vs=[.ref a,.int c]->Refs K (IL K) H a e->e.length<=1000->((∀d∈e,c∈d))->(∀(l:Addr)(t:Hp),ae H t->H l=none->t l=some (.lst ((M5.zp e c).map V.int))->Q (.ref l) t)->RF K vs H Q E
include T W8 in
theorem zmB(F:aS K "marks_of" "marks_of" K9 f fd):ar P w K m b bp 2 f fd FH (RF K):=by
 refine F.ok zlW ?_;rintro y A outer s H B Q E p⟨a,h,c,rfl,⟨g,r,n⟩,z,k,q⟩;refine⟨_,(ze (zh (zN (show aj (zf K9) FH "card" ["couple"] [1] _ from dU) rfl (zz ak) (λ_ _ _ _ _=>yA) (λ_ _ _ _ _=>(aI W8 p (za ak (za aA zb))))))),?_⟩;have o:=n.length;refine⟨_,rfl,a,rfl,⟨_,r⟩,?_⟩;refine zY (xs:=g.map V.ref) (λi t e=>e=H/\t=(M5.zp (h.take i) c).map V.int) ⟨rfl,rfl⟩ ?_ (by rw[q06];have:=zq;lia) ?_ ?_
 .rintro i t e hi ⟨rfl,rfl⟩;refine⟨r,?_⟩;rw[q06,M5.zU,q11]
  lia
 .rintro i x t e hx ⟨rfl,rfl⟩;obtain⟨l,j,rfl⟩:=wN hx;obtain⟨d,v,u⟩:=n.getL j;refine⟨_,rfl,_,rfl,l,d,c,rfl,u,k d (mem_of_getElem? v),rfl,?_⟩;rw[take_succ,v];unfold M5.zp;rw[q07,q07];rfl
 .rintro t e ⟨rfl,rfl⟩ l hl;rw[q06,o,q15];exact q l _ (ae.new hl) hl zd
variable (EI:bJ P w K m b 2 "marks_of" FH (RF K))
inductive RG (K:Frag)(vs:List V)(H:Hp)(Q:VK)(E:XK):Prop|mk(a:Addr)(ms:List Int)(n:Int):vs=[.ref a,.int n]->ah K H a (ms.map V.int)->ms.length<=1000->(∀(e:Hp),ae H e->Q (.int (M3.cnt ms n)) e)->RG K vs H Q E
include T LW in
theorem znt(F:aS K "granted" "granted" P5 f fd):ar P w K m b bp 2 f fd Im (RG K):=by
 refine F.ok znh ?_;rintro d A outer s H j Q E v⟨a,ms,n,rfl,t,r,q⟩;refine⟨_,(ze (zh (yf T.az (aI LW v (za ak (za aA zb)))))),?_⟩;refine⟨_,rfl,_,rfl,a,ms,n,rfl,t,r,λl c h i e=>?_⟩;refine⟨l,_,rfl,.inl (ah.of e),?_⟩;rw[q06];exact q _ h
variable (qH:bJ P w K m b 2 "granted" Im (RG K))
inductive RH (K:Frag)(vs:List V)(H:Hp)(Q:VK)(E:XK):Prop|mk(a:Addr)(ms:List Int)(n:Int):vs=[.ref a,.int n]->ah K H a (ms.map V.int)->ms.length<=1000->(∀(e:Hp),ae H e->Q (.int (M3.sm ms n)) e)->RH K vs H Q E
include T LW in
theorem ziH(F:aS K "granted_sum" "granted_sum" P6 f fd):ar P w K m b bp 2 f fd wJ (RH K):=by
 refine F.ok ziA ?_;rintro d A outer s H j Q E v⟨a,ms,n,rfl,t,r,q⟩;refine⟨_,(ze (zh (zJ (Hc rfl) (by rfl) T.kI boot_sum (za (aI LW v (za ak (za aA zb))) zb)))),?_⟩;refine⟨_,rfl,_,rfl,a,ms,n,rfl,t,r,λl c h i e=>?_⟩;exact⟨l,_,rfl,ah.of e,q _ h⟩
variable (CN:bJ P w K m b 2 "granted_sum" wJ (RH K))
inductive RI (K:Frag)(vs:List V)(H:Hp)(Q:VK)(E:XK):Prop|mk(a:Addr)(ms:List Int):vs=[.ref a]->ah K H a (ms.map V.int)->ms≠[]->ms.length<=60->((∀x∈ms,1<=x/\x<=24))->(∀(e:Hp)(f:Int),ae H e->M3.eR ms f->Q (.int f) e)->RI K vs H Q E
include T Xa in
theorem zia(F:aS K "first_number" "first_number" P7 f fd):ar P w K m b bp 2 f fd ["marks"] (RI K):=by
 refine F.ok zid ?_;rintro c A outer s H k Q E h⟨a,ms,rfl,t,r,j,i,q⟩;refine⟨_,(ze (zh (zx zr (zJ NJ (by rfl) T.gn PyProof.Rows.boot_sorted (za ak zb)) (zo xa (aI Xa h (za (yf T.az ak) zb)) zg) bF))),?_⟩;refine⟨_,rfl,a,ms,rfl,t,by lia,λl ns v p w=>?_⟩;refine⟨_,rfl,a,_,rfl,.inl ((ae.new v).seq t),_,rfl,_,_,rfl,rfl,?_⟩;have n:=p.length_eq;have d:=List.length_pos_iff.mpr r;rw[q06];refine⟨l,_,_,_,rfl,rfl,ah.new,xj (by lia) (by lia),?_⟩;have e:(((ms.length:Nat):Int)/2+1-1).toNat=ns.length/2:=by lia
 rw[e];exact q _ _ (ae.new v) (M3.uU p (M3.zng w λz=>by rw[z]at n;simp at n;lia))
variable (rK:bJ P w K m b 2 "first_number" ["marks"] (RI K))
inductive wy (K:Frag)(vs:List V)(H:Hp)(Q:VK)(E:XK):Prop|mk(p:Addr)(F:Addr->Prop)(S:Sh)(n:Int):vs=[.ref p,.int n]->aq K H p F S->((¬n<=S.handed.length->∀C e,aX K "TooFewCards" C->ae H e->E (.ref C) none e))->((n<=S.handed.length->∀e,ae H e->Q .bR e))->wy K vs H Q E
include T rE in
theorem zeV(F:aS K "refuse_fewer_cards" "refuse_fewer_cards" wL f fd):ar P w K m b (dM P w) 2 f fd yi (wy K):=by
 obtain⟨J,r,i,a⟩:=T.aD;refine F.ic zeW ?_;rintro X W z A outer s H L Q E o l I x g⟨p,F,S,n,rfl,e,y,q⟩;subst o;refine⟨_,(ze (zu (zj E6 (yf T.az (zL rE T.ai (hM g) ak)) aA (zl _)) (ze (yh rfl x rfl i a (za zm zb))) zn)),?_⟩;obtain⟨j,B,C,D,d,c⟩:=e.ins;refine⟨_,rfl,p,j,_,rfl,c,rfl,p,F,S,rfl,e.shape,e.ok.fD,λu v t G k=>?_⟩;refine⟨u,_,rfl,.inl (ah.of k),_,rfl,_,_,rfl,rfl,_,rfl,zX (λh=>?_) (λh=>?_)⟩
 .rw[q06]at h;exact⟨(by show 1<=sizeLine;decide),by rw[l];exact y (by lia) _ _ r t⟩
 .rw[q06]at h;exact q (by lia) v t
variable (rL:dq P w K m b 2 "refuse_fewer_cards" yi (wy K))
inductive RJ (K:Frag)(vs:List V)(H:Hp)(Q:VK)(E:XK):Prop|mk(z:Str):vs=[.str z]->z≠("":Str)->z.length<=1000->(∀e,ae H e->Q (.bl (M57.cw z)) e)->RJ K vs H Q E
include T Xc in
theorem ziQ(F:aS K "couple_word" "couple_word" La f fd):ar P w K m b bp 2 f fd ["word"] (RJ K):=by
 refine F.ok zjf ?_;rintro C A outer s H J Q E B⟨z,rfl,u,G,q⟩;refine⟨_,(ze (zh (BU (sD xb (zJ Zj (by rfl) T.az PySem.boot_len (za ak zb)) (Fe T.iL rfl) (zl _)) (BU (sD jb (zx JF ak zg bF) zm (zl _)) (Gh (zJ (JM rfl) (by rfl) T.n5 boot_all (za (zN (show aj (zf La) ["word"] "sign" [] [] _ from dU) rfl (tT ak) (λ_ _ _ _ _=>yA) (λ_ _ _ _ _=>(aI Xc B (za ak zb)))) zb))))))),?_⟩;have g:=zq;obtain⟨n,I,o⟩:∃c r,z.cps.toList=c::r:=by
  cases e:z.cps.toList with
  | nil=>exact q02 (M19.FC (by rw[e,M20.Km])) u
  | cons c r=>exact⟨c,r,rfl⟩
 unfold M57.cw at q;refine⟨_,rfl,z,rfl,by lia,_,_,rfl,rfl,_,rfl,zX (λp=>?_) (λD=>?_)⟩
 .have p:z.length<=3:=by lia
  rw[q19 p,Bool.true_and]at q;refine⟨_,rfl,z,0,n,rfl,rfl,by lia,by rw[o];exact zO (j:=0) rfl,rfl,_,rfl,?_⟩;have x:(("0":Str))=⟨#[48]⟩:=by decide +kernel
  have y:(decide (V.str ⟨#[n]⟩=V.str "0"))=decide (z.cps.toList.head? = some 48):=by
   rw[o,x];by_cases k:n=48
   .rw[k,q19 rfl];exact(q19 rfl).symm
   .rw[q20 (λw=>k (by injection w with w;injection w with w;have:=congrArg (λa:Array Nat=>a.toList) w;simpa using this)),q20 (λw=>k (by simpa using w))]
  rw[y];refine yl (λh=>?_) (λh=>?_)
  .rw[q20 h,Bool.not_false,Bool.true_and]at q;refine⟨_,rfl,z,rfl,?_⟩;refine UO (λi v t=>t=H/\v=((z.cps.toList.take i).map M20.CC).map V.bl) ⟨rfl,rfl⟩ ?_ (by lia) ?_ ?_
   .rintro i v t hi ⟨rfl,rfl⟩;simp only[q06,q11]
    lia
   .rintro i d v t hx ⟨rfl,rfl⟩;refine⟨_,rfl,d,rfl,rfl,?_⟩;rw[take_succ,hx,q07,q07];rfl
   .rintro v t ⟨rfl,rfl⟩ l g;have e:z.cps.toList.take z.length=z.cps.toList:=take_of_length_le (by rw[M20.Bk];exact le_refl _);rw[e];refine⟨l,_,rfl,ah.new,?_⟩;rw[all_map,show(id ∘ M20.CC)=M20.CC from rfl];exact q _ (ae.new g)
  .rw[q19 h]at q;exact q _ (ae.refl _)
 .rw[q20 (show ¬z.length<=3 by lia),Bool.false_and]at q;exact q _ (ae.refl _)
variable (Xx:bJ P w K m b 2 "couple_word" ["word"] (RJ K))
inductive RK (K:Frag)(vs:List V)(H:Hp)(Q:VK)(E:XK):Prop|mk(a:Addr)(ns:List Int):vs=[.ref a]->ah K H a (ns.map V.int)->ns.length<4000->(∀e,ae H e->Q (.bl (M1.rn ns)) e)->RK K vs H Q E
include T Xd FO LX in
theorem ziq(F:aS K "good_couples" "good_couples" Lb f fd):ar P w K m b bp 2 f fd ["couples"] (RK K):=by
 refine F.ok zin ?_;rintro g A outer s H u Q E c⟨a,ns,rfl,h,p,q⟩;refine⟨_,(ze (zh (BU (aI FO c (za ak (za (Fe T.iM rfl) zb))) (BU (aI LX c (za ak zb)) (Gh (zJ (JM rfl) (by rfl) T.n5 boot_all (za (zN (show aj (zf Lb) ["couples"] "couple" [] [] _ from dU) rfl (zz ak) (λ_ _ _ _ _=>yA) (λ_ _ _ _ _=>(aI Xd c (za ak zb)))) zb))))))),?_⟩;refine⟨_,rfl,_,_,_,rfl,.inl ⟨_,h,rfl⟩,_,rfl,?_⟩;rw[q06];unfold M1.rn at q;refine Az (λv=>?_) (λv=>?_)
 .rw[v,Bool.true_and]at q;refine⟨_,rfl,a,rfl,.inl ⟨ns,h,p,λo d=>⟨_,rfl,zX (λr=>?_) (λr=>?_)⟩⟩⟩
  .rw[q19 r,Bool.true_and]at q;have j:=d.seq h;refine⟨_,rfl,a,rfl,⟨_,j⟩,?_⟩;refine zY (xs:=ns.map V.int) (λi t e=>e=o/\t=((ns.take i).map λn=>decide (1<=n) && decide (n<=999)).map V.bl) ⟨rfl,rfl⟩ ?_ (by rw[q06];have:=zq;lia) ?_ ?_
   .rintro i t e k ⟨rfl,rfl⟩;exact⟨j,by simp only[q06,q11];lia⟩
   .rintro i x t e hx ⟨rfl,rfl⟩;obtain⟨k,rfl⟩:=yU hx;refine⟨_,rfl,_,rfl,rfl,?_⟩;rw[yX k,q07,q07];rfl
   .rintro t e ⟨rfl,rfl⟩ l hl;rw[q06,q15];exact⟨l,_,rfl,ah.new,q _ (d.aw hl)⟩
  .rw[q20 r,Bool.false_and]at q;exact q _ d
 .rw[v,Bool.false_and]at q;exact q _ (ae.refl _)
variable (Xy:bJ P w K m b 2 "good_couples" ["couples"] (RK K))
inductive RL (K:Frag)(vs:List V)(H:Hp)(Q:VK)(E:XK):Prop|mk(z:Str):vs=[.str z]->z.length<=1000->(∀e,ae H e->Q (.bl (M2.rj z)) e)->RL K vs H Q E
include T Xe FO in
theorem zlO(F:aS K "good_name" "good_name" Lc f fd):ar P w K m b bp 2 f fd ["judge"] (RL K):=by
 refine F.ok zk2 ?_;rintro h A outer s H j Q E r⟨z,rfl,c,q⟩;refine⟨_,(ze (zh (BU (aI FO r (za ak (za (Fe T.jS rfl) zb))) (Gh (zJ (JM rfl) (by rfl) T.n5 boot_all (za (zN (show aj (zf Lc) ["judge"] "sign" [] [] _ from dU) rfl (tT ak) (λ_ _ _ _ _=>yA) (λ_ _ _ _ _=>(aI Xe r (za ak zb)))) zb)))))),?_⟩;have a:=zq;refine⟨_,rfl,_,_,_,rfl,⟨by lia,rfl⟩,_,rfl,?_⟩;unfold M2.rj at q;refine Az (λn=>?_) (λn=>?_)
 .rw[n,Bool.true_and]at q;refine⟨_,rfl,z,rfl,?_⟩;refine UO (λi v t=>t=H/\v=((z.cps.toList.take i).map kU).map V.bl) ⟨rfl,rfl⟩ ?_ (by lia) ?_ ?_
  .rintro i v t hi ⟨rfl,rfl⟩;simp only[q06,q11]
   lia
  .rintro i d v t hx ⟨rfl,rfl⟩;refine⟨_,rfl,d,rfl,rfl,?_⟩;rw[take_succ,hx,q07,q07];rfl
  .rintro v t ⟨rfl,rfl⟩ l a;have e:z.cps.toList.take z.length=z.cps.toList:=take_of_length_le (by show z.cps.toList.length<=z.cps.size;rw[Array.length_toList];exact le_refl _);rw[e];exact⟨l,_,rfl,ah.new,q _ (ae.new a)⟩
 .rw[n,Bool.false_and]at q;exact q _ (ae.refl _)
variable (Xz:bJ P w K m b 2 "good_name" ["judge"] (RL K))
inductive RM (K:Frag)(vs:List V)(H:Hp)(Q:VK)(E:XK):Prop|mk(a b:Addr)(ns ms:List Int):vs=[.ref a,.ref b]->ah K H a (ns.map V.int)->ah K H b (ms.map V.int)->ms.length<=1000000->Q (.bl (decide (ns=ms))) H->RM K vs H Q E
def vP(v:ns.length=ms.length)(h:∀j,j<ms.length->ns.getD j 0=ms.getD j 0):ns=ms:=by
 refine ext_getElem v λj t e=>?_;have:=h j e
 rwa [q18,q18,q31 t,q31 e]at this
include T Xf in
theorem zmt(F:aS K "_law_same" "_law_same" P8 f fd):ar P w K m b bp 2 f fd Ld (RM K):=by
 refine F.ok Wy ?_;rintro z A outer s H C Q E x⟨a,b,ns,ms,rfl,n,k,B,q⟩;refine⟨_,(zc (zu (PW.pt (Ac (qR (mI (zJ Ux (by rfl) T.b9 boot_isinstance (za ak (za (Gd (v:=V.ty "list") rfl T.cP boot_list rfl) zb))))) (BS (zj jb (yf T.az ak) (yf T.az aA) (zl _))))) (ze (zh oB)) zn)
  (zc (wf PassesOwn.never rfl (ww rfl T.bt (za (yf T.az aA) zb)) (iH 2 Wy.nd)
    (ze (zu (PW.pt (Ac (qR (mI (aI Xf x (za (zx zr ak aL bF) zb)))) (BS (zj jb (zx zr ak aL bF) (zx zr aA aL bF) (zl _))))) (ze (zh oB)) zn)))
  (ze (zh oB)))),?_⟩
 refine⟨_,rfl,_,_,rfl,.yes n,_,rfl,j6 ?_⟩;refine⟨_,rfl,a,_,rfl,.inl n,_,rfl,b,_,rfl,.inl k,rfl,_,rfl,?_⟩;rw[q06,q06];refine yl (λd=>?_) (λt=>?_)
 .show Q (.bl false) H;have:ns≠ms:=λe=>d (by rw[e]);rw[q20 this]at q;exact q
 .have hl:ns.length=ms.length:=by injection t with t;exact Int.ofNat.inj t
  refine⟨_,rfl,b,_,rfl,.inl k,_,rfl,by lia,by rw[q06];lia,?_⟩;rw[q06];refine yx (λi l c=>∃v,l=[some (.ref a),some (.ref b),v]/\c=H/\∀j,j<i->ns.getD j 0=ms.getD j 0) ⟨_,rfl,rfl,λj r=>by lia⟩ ?_ ?_
  .rintro i l c hi ⟨v,rfl,rfl,r⟩;have p:i<ms.length:=by simpa using hi
   have o:fN (ns.map V.int) (0+(i:Int))=some (.int (ns.getD i 0)):=by rw[Int.zero_add];exact zO (qZ (by lia))
   have u:fN (ms.map V.int) (0+(i:Int))=some (.int (ms.getD i 0)):=by rw[Int.zero_add];exact zO (qZ p)
   refine⟨_,rfl,_,rfl,a,_,_,_,rfl,rfl,n,o,_,true,false,rfl,rfl,rfl,_,rfl,j6 ?_⟩;refine⟨_,rfl,_,rfl,a,_,_,_,rfl,rfl,n,o,_,rfl,_,rfl,b,_,_,_,rfl,rfl,k,u,rfl,_,rfl,yl (λd=>?_) (λt=>?_)⟩
   .show Q (.bl false) _;have:ns≠ms:=λe=>d (by rw[e]);rw[q20 this]at q;exact q
   .refine⟨_,rfl,rfl,λj y=>?_⟩;by_cases g:j=i
    .subst g;injection t
    .exact r j (by lia)
  .rintro l c ⟨v,rfl,rfl,r⟩;show Q (.bl true) _;have:ns=ms:=vP hl λj h=>r j (by simpa using h);rw[q19 this]at q;exact q
variable (XA:bJ P w K m b 2 "_law_same" Ld (RM K))
inductive RN (K:Frag)(vs:List V)(H:Hp)(Q:VK)(E:XK):Prop|mk(c m:Int):vs=[.int c,.int m]->0<=m->m<=15->(∀(l:Addr)(t:Hp)(e:List Str),ae H t->H l=none->t l=some (.lst (e.map V.str))->e.length=m.toNat->e.Nodup->(∀z∈e,M2.rj z=true)->Q (.ref l) t)->RN K vs H Q E
def vQ{i:Int}(e:0<=i)(t:i<26):fN tX.cps.toList i=some (97+i.toNat):=by
 have:∀k:Fin 26,tX.cps.toList[k.val]? = some (97+k.val):=by decide +kernel
 have:=zO (this ⟨i.toNat,by lia⟩)
 rwa [show((i.toNat:Nat):Int)=i by lia]at this
def XB{k:Nat}(h:k<26):kU (97+k)=true:=by
 unfold kU;rw[q19 (by lia),q19 (by lia)];rfl
include T EF in
theorem zkW(F:aS K "_law_names" "_law_names" P9 f fd):ar P w K m b bp 2 f fd Le (RN K):=by
 refine F.ok zQ ?_;rintro aN g1 outer s H vs g2 E N⟨c,m,rfl,m0,m1,g0⟩;refine⟨_,(zc (br 2 zQ.nd zm)
  (zc (br 3 zQ.nd (zv zb))
  (zc (br 4 zQ.nd (zo yB ak zg))
  (zc (wf PassesOwn.never rfl (ww rfl T.bt (za aA zb)) (iH 5 zQ.nd)
    (zc (q9 (zu (zj zG (zo zW ak zg) zg (zl _)) (ze (br 4 zQ.nd (aI EF N (za (zo zS cO ak) (za fS zb))))) zn))
  (zc (br 6 zQ.nd zm)
  (zc (br 7 zQ.nd (zo zS zg (zo zW cO zg)))
  (zc (br 4 zQ.nd (zo yB cO zg))
  (zc (wf PassesOwn.never rfl (ww rfl T.bt (za xx zb)) (iH 8 zQ.nd)
    (zc (br 6 zQ.nd (zo zC fC (zx JF aL (zo zW cO zg) bF)))
  (ze (br 4 zQ.nd (zo yB cO zg)))))
  (zc (sf PassesOwn.never (zj GN fC bB (by first | exact zl _ | rfl)) (ze (br 6 zQ.nd (zo zC (zF tS fC zR (zK (Dq Dt zg))) (zx JF aL (zo zW (zo zS (yD PySem.F.plainAttrs_str PySem.F.slot_str_index PySem.F.type_str_index (ud rfl) aL (za (zx JF fC (Dq Dt zg) bF) zb)) zg) zg) bF)))))
  (ze (zI (yD PySem.F.plainAttrs_list PySem.F.slot_list_append PySem.F.type_list_append yj bB (za fC zb)))))))))))
  (ze (zh bB)))))),?_⟩
 have cF:=zq;refine⟨(by show 0<=sizeLine;decide),λl L=>?_⟩;refine⟨_,rfl,_,_,rfl,rfl,⟨by decide,by decide⟩,?_⟩;generalize U:upd H l _=R;have s1:ae H R:=by rw[<-U];exact ae.new L
 have Z:R l=some (.lst (([]:List Str).map V.str)):=by rw[<-U];exact zd
 refine⟨_,rfl,m,rfl,by lia,by lia,?_⟩;refine yx (λi d g=>∃(left:Int)(ts:List Str)(O D G h:Option V),d=[some (.int c),some (.int m),some (.str tX),some (.ref l),some (.int left),O,D,G,h]/\g l=some (.lst (ts.map V.str))/\(∀b o,H b=some o->g b=some o)/\ts.length=i/\ts.Nodup/\∀z∈ts,M2.rj z=true) ⟨_,[],_,_,_,_,rfl,Z,s1,rfl,nodup_nil,λz p=>nomatch p⟩ ?_ ?_
 .rintro i d g hi ⟨left,ts,O,D,G,h,rfl,e2,s2,hlen,xP,RO⟩;have hi:i<15:=by lia
  refine⟨λu q=>∃left:Int,u=[some (.int c),some (.int m),some (.str tX),some (.ref l),some (.int left),some (.int (0+(i:Int))),D,G,h]/\q=g,?_,?_⟩
  .refine⟨_,rfl,_,_,rfl,rfl,(by show(0:Int)<2;decide),rfl,_,rfl,zX (λ_=>?_) (λ_=>⟨_,rfl,rfl⟩)⟩;exact⟨_,rfl,_,rfl,_,_,rfl,rfl,_,rfl,_,_,rfl,_,rfl,rfl⟩
  rintro u q ⟨left,rfl,rfl⟩;have g4:0<=left%8:=Int.emod_nonneg _ (by decide);have g5:left%8<8:=Int.emod_lt_of_pos _ (by decide);refine⟨_,rfl,_,_,rfl,rfl,(by show(0:Int)<8;decide),_,_,rfl,rfl,?_⟩;refine⟨_,rfl,_,_,rfl,rfl,⟨by decide,by decide⟩,?_⟩;dsimp only;generalize g6:1+left%8=size;refine⟨_,rfl,size,rfl,by lia,by lia,?_⟩;refine yx (λj d A=>∃(left:Int)(z:List Nat)(h:Option V),d=[some (.int c),some (.int m),some (.str tX),some (.ref l),some (.int left),some (.int (0+(i:Int))),some (.str (M13.tx z)),some (.int size),h]/\A=q/\z.length=j/\∀x∈z,kU x=true) ⟨_,[],_,rfl,rfl,rfl,λx v=>nomatch v⟩ ?_ ?_
  .rintro j d A hj ⟨left,z,h,rfl,rfl,p,B⟩;have h0:0<=left%26:=Int.emod_nonneg _ (by decide);have h1:left%26<26:=Int.emod_lt_of_pos _ (by decide);refine⟨_,rfl,_,rfl,_,rfl,_,_,rfl,rfl,(by show(0:Int)<26;decide),tX,_,_,rfl,rfl,(by decide),vQ h0 h1,_,_,rfl,rfl,(by rw[M13.FF];show z.length+1<=sizeLine;lia),?_⟩;refine⟨_,rfl,_,_,rfl,rfl,⟨by decide,by decide⟩,?_⟩;rw[M13.vw];refine⟨_,_,_,rfl,rfl,by rw[q08,p];rfl,λx v=>?_⟩;rcases List.mem_append.mp v with w | w
   .exact B x w
   .rw[List.mem_singleton.mp w];exact XB (by lia)
  rintro d A ⟨left,z,h,rfl,rfl,p,B⟩;have J:z.length=size.toNat:=p;obtain⟨b,y,rfl⟩:∃b y,z=b++[y]:=by
   have:z≠[]:=λe=>by rw[e]at J;simp at J;lia
   exact⟨z.dropLast,z.getLast this,(List.dropLast_concat_getLast this).symm⟩
  have C:=B y (mem_append_right _ (List.mem_singleton.mpr rfl));have hb:∀x∈b,kU x=true:=λx v=>B x (mem_append_left _ v);have L5:b.length<=7:=by rw[q08,length_singleton]at J;lia
  obtain⟨t,ht,rfl⟩:∃t,t<26/\y=97+t:=by
   unfold kU at C;simp only[q42,decide_eq_true_eq]at C;exact⟨y-97,by lia,by lia⟩
  have Y:M13.tx (b++[97+t])=M13.turn b t 0:=by unfold M13.turn;rw[add_zero,Nat.mod_eq_of_lt ht]
  rw[Y];refine⟨λn d I=>∃s,n+s=26/\(∀r,r<s->M13.turn b t r∈ts)/\d=[some (.int c),some (.int m),some (.str tX),some (.ref l),some (.int left),some (.int (0+(i:Int))),some (.str (M13.turn b t s)),some (.int size),h]/\I=A,⟨26,0,rfl,λr N=>by lia,rfl,rfl⟩,?_⟩;rintro n d I ⟨r,hn,X,rfl,rfl⟩;refine⟨_,rfl,_,rfl,l,_,rfl,.inl (ah.of e2),rfl,Oa _,_,rfl,?_⟩;rw[Ob];have S:(t+r)%26<26:=Nat.mod_lt _ (by decide);refine zX (λM=>?_) (λM=>?_)
  .have IK:∀k,k<r+1->M13.turn b t k∈ts:=λk W=>by
    by_cases er:k=r
    .rw[er];exact M
    .exact X k (by lia)
   have N:r<26:=by
    refine Nat.lt_of_not_le λz=>?_;have:=M13.Wg (b:=b) (t:=t) (ts:=ts) λk W=>X k (by lia)
    lia
   refine⟨λu q=>u=[some (.int c),some (.int m),some (.str tX),some (.ref l),some (.int left),some (.int (0+(i:Int))),some (.str (M13.turn b t (r+1))),some (.int size),h]/\q=I,?_,?_⟩
   .rintro u q ⟨rfl,rfl⟩;by_cases g3:r+1=26
    .exfalso;have:=M13.Wg (b:=b) (t:=t) (ts:=ts) λk W=>IK k (by lia)
     lia
    .exact⟨n-1,by lia,r+1,by lia,IK,rfl,rfl⟩
   .have IM:fN (M13.turn b t r).cps.toList (-1)=some (97+(t+r)%26):=by
     unfold M13.turn M13.tx;show fN ((b++[97+(t+r)%26]).toArray.toList) (-1)=_;rw[List.toList_toArray];exact Ui _ _
    have Q:=M13.vz ⟨(t+r)%26,S⟩;dsimp only at Q;have i0:(0:Int)<=(((t+r)%26:Nat)+1:Int)%26:=Int.emod_nonneg _ (by decide);have i1:(((t+r)%26:Nat)+1:Int)%26<26:=Int.emod_lt_of_pos _ (by decide);refine⟨_,rfl,_,rfl,_,rfl,_,rfl,(by unfold M13.turn;rw[M13.FF,q08,length_singleton];lia),?_⟩;rw[show PySem.Txt.slice (M13.turn b t r) none (some (-1))=M13.tx b from M13.EA b _];refine⟨_,rfl,_,rfl,rfl,_,rfl,_,rfl,M13.turn b t r,_,_,rfl,rfl,(by unfold M13.turn;rw[M13.FF,q08,length_singleton];lia),IM,tX,_,rfl,rfl,by rw[Q];lia,?_⟩;rw[Q];refine⟨_,_,rfl,rfl,_,_,rfl,rfl,(by show(0:Int)<26;decide),tX,_,_,rfl,rfl,(by decide),vQ i0 i1,_,_,rfl,rfl,(by rw[M13.FF];show b.length+1<=sizeLine;lia),?_⟩;rw[M13.vw];refine⟨?_,rfl⟩;have:97+((((t+r)%26:Nat)+1:Int)%26).toNat=97+(t+(r+1))%26:=by lia
    rw[this];rfl
  .refine⟨_,rfl,.inl ⟨rfl,_,ah.of e2⟩,_,rfl,l,_,_,rfl,rfl,e2,(by rw[q06];lia),?_⟩;refine⟨left,ts++[M13.turn b t r],_,_,_,_,rfl,tW _ _,λa o e=>?_,by rw[q08,hlen];rfl,?_,λz p=>?_⟩
   .rw[zi (λz=>by rw[z,L]at e;cases e)];exact s2 a o e
   .refine List.nodup_append.mpr ⟨xP,List.pairwise_singleton _ _,λx v y C e=>?_⟩;rw[List.mem_singleton.mp C]at e;exact M (e ▸ v)
   .rcases List.mem_append.mp p with w | w
    .exact RO z w
    .rw[List.mem_singleton.mp w,M2.wx];have CJ:(M13.turn b t r).length=b.length+1:=by unfold M13.turn;rw[M13.FF,q08,length_singleton]
     refine⟨by lia,λx v=>?_⟩;have v:x∈b++[97+(t+r)%26]:=by
      unfold M13.turn M13.tx at v
      simpa using v
     rcases List.mem_append.mp v with w | w
     .exact hb x w
     .rw[List.mem_singleton.mp w];exact XB S
 .rintro d g ⟨left,ts,O,D,G,h,rfl,e2,s2,hlen,xP,RO⟩;exact⟨_,rfl,g0 l g ts s2 L e2 hlen xP RO⟩
variable (XC:bJ P w K m b 2 "_law_names" Le (RN K))
inductive RP (K:Frag)(vs:List V)(H:Hp)(Q:VK)(E:XK):Prop|mk(c:Int)(a:Addr)(ns:List Int)(y:Int):vs=[.int c,.ref a,.int y]->ah K H a (ns.map V.int)->ns≠[]->ns.length<=1000->(∀(l:Addr)(e:Hp)(ms:List Int),ae H e->H l=none->e l=some (.lst (ms.map V.int))->ms.Perm ns->Q (.ref l) e)->RP K vs H Q E
include T EF in
theorem zlX(F:aS K "_law_card" "_law_card" Qa f fd):ar P w K m b bp 2 f fd Lf (RP K):=by
 refine F.ok ye ?_;rintro aN g4 outer g8 H vs g5 E N⟨c,a,ns,g3,rfl,l,Z,hz,q⟩;refine⟨_,(zc (br 3 ye.nd (zy yn (by rfl) T.cP boot_list (za aA zb)))
  (zc (zu (zj zG aL zg (zl _)) (zc (br 4 ye.nd (zo zW ak (yf T.az aA)))
  (zc (br 3 ye.nd (zo yd (zF zV bB (zK cO) zR) (zF zV bB zR (zK cO))))
  (zc (zu (zj zG (zo zW (zo yB ak (yf T.az aA)) zg) zg (zl _)) (ze (br 3 ye.nd (DR bB (Dq Dt zg)))) zn)
  (ze (zh bB))))) zn)
  (zc (br 5 ye.nd ak)
  (zc (zu (zj zG aL zg (zl _)) (ze (br 5 ye.nd (aI EF N (za ak (za (yf T.az aA) zb))))) zn)
  (zc (br 6 ye.nd (zv zb))
  (zc (wf PassesOwn.never rfl (ww rfl T.bt (za (yf T.az aA) zb)) (iH 7 ye.nd)
    (zc (br 8 ye.nd (zo zW fS (yf T.az bB)))
  (zc (br 5 ye.nd (zo yB fS (yf T.az bB)))
  (zc (zI (yD PySem.F.plainAttrs_list PySem.F.slot_list_append PySem.F.type_list_append yj fC (za (yD PySem.F.plainAttrs_list PySem.F.slot_list_pop PySem.F.type_list_pop sX bB (za AY zb)) zb)))
  (ze (zu (zj zG aL zg (zl _)) (ze (br 5 ye.nd (aI EF N (za (zo zS fS AY) (za xx zb))))) zn))))))
  (ze (zh fC)))))))),?_⟩
 have AG:0<ns.length:=List.length_pos_iff.mpr Z;refine⟨_,rfl,a,_,rfl,.inl l,λv R=>?_⟩;have s:ae H (upd H v (.lst (ns.map V.int))):=ae.new R;refine⟨_,rfl,rfl,_,rfl,zX (λ_=>?_) (λ_=>?_)⟩
 .
  have O:0<=c%(ns.map V.int).length:=Int.emod_nonneg _ (by rw[q06];lia);refine⟨_,rfl,_,rfl,a,_,rfl,.inl (s.seq l),_,_,rfl,rfl,(by show(0:Int)<(ns.map V.int).length;rw[q06];lia),?_⟩;refine⟨_,rfl,_,rfl,_,rfl,v,_,rfl,ah.new,λz x=>?_⟩;rw[wY O];refine⟨_,rfl,_,rfl,_,rfl,v,_,rfl,(ae.new x).seq ah.new,λU Q=>?_⟩;rw[Cb O];have g2:z≠U:=zk zd Q;refine⟨z,U,_,_,rfl,rfl,by rw[zi g2];exact zd,zd,?_,λW S=>?_⟩
  .simp only[q06,q11,length_drop];have:=zq;lia
  rw[<-q07];have f1:H z=none:=s.free x;have u:=s.aw (o:=.lst ((ns.drop (c%(ns.map V.int).length).toNat).map V.int)) x;have d:=u.aw (o:=.lst ((ns.take (c%(ns.map V.int).length).toNat).map V.int)) Q;have k:=d.aw (o:=.lst ((ns.drop (c%(ns.map V.int).length).toNat++ns.take (c%(ns.map V.int).length).toNat).map V.int)) S;have h:(ns.drop (c%(ns.map V.int).length).toNat++ns.take (c%(ns.map V.int).length).toNat).Perm ns:=by
   have:=List.perm_append_comm (l₁:=ns.drop (c%(ns.map V.int).length).toNat) (l₂:=ns.take (c%(ns.map V.int).length).toNat)
   rwa [q35]at this
  refine⟨_,rfl,_,rfl,a,_,rfl,.inl (k.seq l),_,_,rfl,rfl,⟨by rw[q06];lia,by rw[q06];lia⟩,_,_,rfl,rfl,(by show(0:Int)<2;decide),rfl,_,rfl,zX (λ_=>?_) (λ_=>?_)⟩
  .refine⟨_,rfl,_,rfl,rfl,W,_,rfl,ah.new,λp4 M=>?_⟩;rw[<-List.map_reverse];exact⟨_,rfl,q p4 _ _ (k.aw M) (k.free M) zd ((List.reverse_perm _).trans h)⟩
  .exact⟨_,rfl,q W _ _ k (d.free S) zd h⟩
 .
  refine⟨_,rfl,?_⟩;refine⟨_,rfl,rfl,_,rfl,zX (λ_=>?_) (λ_=>?_)⟩
  all_goals
   first
    | refine⟨by decide,λn g=>?_⟩
    | refine⟨_,rfl,_,rfl,a,_,rfl,.inl (s.seq l),_,_,rfl,?_⟩
      refine⟨by decide,λn g=>?_⟩
   have u:=s.aw (o:=.lst []) g;have L:H n=none:=s.free g;have y:v≠n:=zk zd g;refine⟨_,rfl,a,_,rfl,.inl (u.seq l),_,rfl,by lia,by rw[q06];lia,?_⟩;rw[q06];refine yx (λi D r=>∃(t made:List Int)(left:Int)(A B C:Option V),D=[some (.int c),some (.ref a),some (.int g3),some (.ref v),A,some (.int left),some (.ref n),B,C]/\ae H r/\r v=some (.lst (t.map V.int))/\r n=some (.lst (made.map V.int))/\t.length+i=ns.length/\(made++t).Perm ns)
    ⟨ns,[],_,_,_,_,rfl,u,by rw[zi y];exact zd,zd,rfl,List.Perm.refl _⟩ ?_ ?_
   .rintro i D r hi ⟨t,made,left,A,B,C,rfl,d,e1,e2,hlen,h⟩;have Fp:i<ns.length:=by simpa using hi
    have g6:0<t.length:=by lia
    have g1:0<=left%((t.map V.int).length:Int):=Int.emod_nonneg _ (by rw[q06];lia);have G:left%((t.map V.int).length:Int)<t.length:=by
     have:=Int.emod_lt_of_pos left (b:=((t.map V.int).length:Int)) (by rw[q06];lia)
     rwa [q06]at this ⊢
    have p:(left%((t.map V.int).length:Int)).toNat<t.length:=by lia
    have gT:seqIndex? (left%((t.map V.int).length:Int)) (t.map V.int).length=some (left%((t.map V.int).length:Int)).toNat:=tF g1 (by rw[q06]at G ⊢;exact G);refine⟨_,rfl,_,rfl,v,_,rfl,.inl (ah.of e1),_,_,rfl,rfl,(by show(0:Int)<(t.map V.int).length;rw[q06];lia),?_⟩;refine⟨_,rfl,_,rfl,v,_,rfl,.inl (ah.of e1),_,_,rfl,rfl,⟨by rw[q06];lia,by rw[q06];lia⟩,?_⟩;refine⟨_,rfl,.inl ⟨rfl,_,ah.of e2⟩,_,rfl,.inl ⟨rfl,_,ah.of e1⟩,_,rfl,v,_,_,_,_,rfl,rfl,e1,by lia,by lia,gT,qZ p,?_⟩;generalize (left%((t.map V.int).length:Int)).toNat=j at p;rw[UA];have k:ae H (upd r v (.lst ((t.eraseIdx j).map V.int))):=d.put R;refine⟨n,_,_,rfl,rfl,by rw[zi (Ne.symm y)];exact e2,by rw[q06];have:=h.length_eq;rw[q08]at this;have:=zq;lia,?_⟩;have X:ae H (upd (upd r v (.lst ((t.eraseIdx j).map V.int))) n (.lst ((made++[t.getD j 0]).map V.int))):=k.put L;have I:(made++[t.getD j 0]++t.eraseIdx j).Perm ns:=by
     refine List.Perm.trans ?_ h;rw[append_assoc];refine List.Perm.append_left _ ?_;have e:t.getD j 0=t[j]:=by rw[q18,q31 p];rfl
     rw[e];exact UB t j p
    have J:(t.eraseIdx j).length+(i+1)=ns.length:=by rw[List.length_eraseIdx_of_lt p];lia
    have Y:upd (upd r v (.lst ((t.eraseIdx j).map V.int))) n (.lst ((made++[t.getD j 0]).map V.int)) v=some (.lst ((t.eraseIdx j).map V.int)):=by rw[zi y];exact zd
    have g0:made.map V.int++[V.int (t.getD j 0)]=(made++[t.getD j 0]).map V.int:=by rw[q07];rfl
    rw[g0];refine⟨_,rfl,rfl,_,rfl,zX (λ_=>?_) (λ_=>?_)⟩
    .refine⟨_,rfl,_,rfl,_,_,rfl,rfl,_,rfl,_,_,rfl,?_⟩;exact⟨_,_,_,_,_,_,rfl,X,Y,zd,J,I⟩
    .exact⟨_,_,_,_,_,_,rfl,X,Y,zd,J,I⟩
   .rintro D r ⟨t,made,left,A,B,C,rfl,d,e1,e2,hlen,h⟩;have FT:(ns.length:Int).toNat=ns.length:=Int.toNat_natCast _;have hp:t=[]:=List.eq_nil_of_length_eq_zero (by lia);subst hp;rw[append_nil]at h;exact⟨_,rfl,q n _ _ d L e2 h⟩
variable (L9:bJ P w K m b 2 "_law_card" Lf (RP K))
inductive RR (K:Frag)(vs:List V)(H:Hp)(Q:VK)(E:XK):Prop|mk(p:Addr)(F:Addr->Prop)(S:Sh):vs=[.ref p]->aq K H p F S->(∀(l:Addr)(e:Hp)(t:List Addr),ae H e->H l=none->e l=some (.lst (t.map V.ref))->All2 (λk c=>H k=none/\e k=some (.lst (c.map V.int))) t S.ao->Q (.ref l) e)->RR K vs H Q E
include T rE vO in
theorem zi5(F:aS K "cards" "Sheet.cards" Lg f fd):ar P w K m b bp 3 f fd ["self"] (RR K):=by
 refine F.ok ziL ?_;rintro Z A outer g1 H vs Q E G⟨p,F,S,rfl,r,q⟩;refine⟨_,(ze (zh (zN (show aj (zf Lg) ["self"] "judge" ["self"] [0] _ from dU) rfl (zz (zL rE T.ai (hM G) ak)) (λ_ _ _ _ _=>yA) (λ_ _ _ _ _=>(xo vO T.ai mZ (hM G) aA (za ak zb)))))),?_⟩;have cF:=zq;have D:=r.ok.fD;have s:∃v fs,H p=some (.ins (yu K "Sheet") v fs)/\fs.lookup ("handed":Str)=none/\fs.lookup ("card_of":Str)=none:=by
  obtain⟨v,W,X,Y,g0,ay,h⟩:=r;exact⟨v,_,h.ip,rfl,rfl⟩
 obtain⟨v,fs,s,N,O⟩:=s;refine⟨_,rfl,p,v,_,rfl,s,N,p,F,S,rfl,r.shape,D,λa J y f1 C=>?_⟩;have di:S.handed.length<=15:=q38 (q09 _ _) D;refine⟨a,rfl,⟨_,ah.of C⟩,?_⟩;refine zY (xs:=S.handed.map V.str) (λi d n=>∃t:List Addr,d=t.map V.ref/\ae J n/\All2 (λk c=>H k=none/\n k=some (.lst (c.map V.int))) t ((S.handed.take i).map λj=>(S.card j).getD [])) ⟨[],rfl,ae.refl _,.nil⟩ ?_ (by rw[q06];lia) ?_ ?_
 .rintro i d n g ⟨t,rfl,s2,r2⟩;refine⟨s2.seq (ah.of C),?_⟩;have:=r2.length;rw[q06,q11]at this;rw[q06]
  lia
 .rintro i x d n hx ⟨t,rfl,s2,r2⟩;obtain⟨g,rfl⟩:=DZ hx;have u:=q24.mp (show S.handed.getD i "" ∈ S.ag.filter λj=>(S.card j).isSome from wu g);have o:=y.trans s2;cases e:S.card (S.handed.getD i "")with
  | none=>rw[e]at u;exact q02 u.2 q23
  | some c =>
    refine⟨_,rfl,p,v,_,rfl,o _ _ s,O,_,rfl,p,F,S,_,rfl,r.same o,λR=>q02 u.1 R,(λ_ z=>by rw[e]at z;cases z),λc' B l U I M L=>?_⟩;rw[e]at B;cases B;refine⟨t++[l],by rw[q07];rfl,s2.trans I,?_⟩;rw[yz g,q07];refine(r2.imp λ_ _ z=>⟨z.1,I _ _ z.2⟩).snoc ⟨o.free M,?_⟩;dsimp only;rw[e];exact L
 .rintro d n ⟨t,rfl,s2,r2⟩ l hl;rw[q06,q15]at r2;exact q l _ t ((y.trans s2).aw hl) ((y.trans s2).free hl) zd (r2.imp λ_ _ z=>⟨z.1,ae.new hl _ _ z.2⟩)
variable (xQ:kA P w K m b 3 (yu K "Sheet") "cards" ["self"] (RR K))
inductive RS (K:Frag)(vs:List V)(H:Hp)(Q:VK)(E:XK):Prop|mk(a b c:Addr) (t:List (List Int)) (e:List Int):vs=[.ref a,.ref b,.ref c]->Refs K (IL K) H a t->ah K H b (e.map V.int)->ah K H c ((M6.zB t e).map V.int)->t.length<=500->e.length<=24->((∀u∈e,∀d∈t,u∈d))->((∀u∈e,1<=u/\u<=999))->(∀v,ae H v->Q (.str (M6.CG ((M6.yq t e).map M6.CF))) v)->RS K vs H Q E
def vS(ws:List Str):gZ (ws.map V.str) []=decide (ws=[]):=by
 cases ws with
 | nil=>rfl
 | cons _ _=>rfl
include T og Xp in
theorem zhl(F:aS K "_law_part_text" "_law_part_text" Qb f fd):ar P w K m b bp 3 f fd wS (RS K):=by
 refine F.ok yF ?_;rintro aN g5 outer g9 H vs g6 E e⟨a,b,c,v,n,rfl,Y,Z,hC,iD,hl,hm,N,q⟩;refine⟨_,(zc (br 3 yF.nd (zv zb))
  (zc (wf PassesOwn.never rfl (zz (aI Xp e (za ak (za aA (za aL zb))))) (Jw rfl (wp (iH 4 yF.nd) (wp (iH 5 yF.nd) (wp (iH 6 yF.nd) (wp (iH 7 yF.nd) Jv)))))
    (ze (zI (yD PySem.F.plainAttrs_list PySem.F.slot_list_append PySem.F.type_list_append yj bB (za (zo zC (zo zC (zo zC (zo zC (zo zC (zo zC (zy wq (by rfl) T.cb boot_str (za cO zb)) zm) (zy wq (by rfl) T.cb boot_str (za fS zb))) zm) (zy wq (by rfl) T.cb boot_str (za fC zb))) zm) xx) zb)))))
  (zc (zu (zj (Fi e.bE) bB (zv zb) (zl _)) (ze (zh zm)) zn)
  (ze (zh (aI og e (za bB zb))))))),?_⟩
 have cF:=zq;have g8:=M6.Wc v n;have R:∀r∈M6.yq v n,(1<=r.1/\r.1<=999)/\(1<=r.2.1/\r.2.1<=999)/\(1<=r.2.2.1/\r.2.2.1<=999)/\r.2.2.2.length<=5:=λr e=>by
  obtain⟨s,d,k,p⟩:=M6.Wb e;exact⟨N _ s,N _ d,by lia,p⟩
 refine⟨(by show 0<=sizeLine;decide),λl S=>?_⟩;have j:=ae.new (o:=.lst []) S;have g:upd H l (.lst []) l=some (.lst []):=zd;generalize kW:upd H l _=H1 at j g ⊢;refine⟨_,rfl,_,rfl,_,rfl,a,b,c,v,n,rfl,Refs.same (IL.stays K) j Y,j.seq Z,j.seq hC,iD,by lia,hm,λB H2 C O X L r2=>?_⟩;have t2:=j.trans O;have kM:=O _ _ g;have U:l≠B:=λz=>by rw[z,X]at g;cases g
 refine⟨B,rfl,⟨_,ah.of L⟩,?_⟩;refine Jy (xs:=C.map V.ref) (λi u t=>∃D G I J:Option V,u=[some (.ref a),some (.ref b),some (.ref c),some (.ref l),D,G,I,J]/\ae H t/\t l=some (.lst ((((M6.yq v n).take i).map M6.CF).map V.str))/\t B=some (.lst (C.map V.ref))/\All2 (F4 K t) C (M6.yq v n)) ⟨_,_,_,_,rfl,t2,by rw[take_zero];exact kM,L,r2⟩ (λi u t _ h=>?_) ?_ ?_
 .obtain⟨_,_,_,_,_,_,_,z,_⟩:=h;exact ah.of z
 .rintro i x u t hx ⟨D,G,I,J,rfl,s3,e3,XE,r3⟩;obtain⟨g4,W,rfl⟩:=wN hx;obtain⟨r,M,e⟩:=r3.getL W;have g3:=mem_of_getElem? M;obtain⟨s,d,k,p⟩:=R r g3;have w1:=M6.yt s;have w2:=M6.yt d;have w3:=M6.yt k;have g1:(">":Str).length=1:=by decide +kernel
  have g2:(":":Str).length=1:=by decide +kernel
  unfold tN at w1 w2 w3;refine⟨g4,_,rfl,e,rfl,_,_,rfl,_,_,rfl,_,_,rfl,_,_,rfl,rfl,?_⟩;refine⟨_,rfl,.inl ⟨rfl,_,ah.of e3⟩,_,rfl,.inl ⟨_,rfl,yI (by lia),_,_,rfl,rfl,?_,_,rfl,.inl ⟨_,rfl,yI (by lia),_,_,rfl,rfl,?_,_,_,rfl,rfl,?_,_,rfl,.inl ⟨_,rfl,yI (by lia),_,_,rfl,rfl,?_,_,_,rfl,rfl,?_,_,rfl,_,_,rfl,rfl,?_,?_⟩⟩⟩⟩
  .lia
  .rw[zw];lia
  .simp only[zw];lia
  .simp only[zw];lia
  .simp only[zw];lia
  .simp only[zw];lia
  .refine⟨l,_,_,rfl,rfl,e3,by rw[q06,q06,q11];lia,_,_,_,_,rfl,s3.put S,?_,?_,F4.put r3 e3⟩
   .rw[zd,take_succ,M,q07,q07];rfl
   .rw[zi (Ne.symm U)];exact XE
 .rintro u t ⟨D,G,I,J,rfl,s3,e3,XE,r3⟩;have g0:=r3.length;rw[q06,g0,q15]at e3;refine⟨_,rfl,(by decide),λl5 y=>?_⟩;have Q:=s3.aw (o:=.lst []) y;refine⟨l,l5,_,_,rfl,rfl,ah.of ((ae.new y) _ _ e3),ah.new,M20.HS _,rfl,_,rfl,?_⟩;rw[vS];refine zX (λA=>?_) (λA=>?_)
  .have:=q _ Q;unfold M6.CG at this;rw[q01 A]at this;exact this
  .refine⟨_,rfl,l,_,(M6.yq v n).map M6.CF,rfl,ah.of ((ae.new y) _ _ e3),FA _,by rw[q06];lia,λw hw=>?_,λH4 s4=>?_⟩
   .obtain⟨r,e,rfl⟩:=q25.mp hw;obtain⟨s,d,k,p⟩:=R r e;have:=M6.We s d k p
    lia
   .have:=q _ (Q.trans s4);unfold M6.CG at this;rw[q00 A]at this;exact this
variable (XF:bJ P w K m b 3 "_law_part_text" wS (RS K))
inductive RT (K:Frag)(vs:List V)(H:Hp)(Q:VK)(E:XK):Prop|mk(a b:Addr) (e:List (List Int)) (t:List Int):vs=[.ref a,.ref b]->Refs K (IL K) H a e->ah K H b (t.map V.int)->((∀d∈e,d.Perm t))->1<=e.length->e.length<=500->t.length<=500->(∀(l:Addr)(v:Hp),ae H v->H l=none->v l=some (.lst ((vb e t).map V.int))->Q (.ref l) v)->RT K vs H Q E
include T BF in
theorem zke(F:aS K "_law_firsts" "_law_firsts" Lh f fd):ar P w K m b bp 3 f fd Li (RT K):=by
 refine F.ok WA ?_;rintro L A outer s H R Q E G⟨a,b,t,e,rfl,C,h,o,B,x,y,q⟩;refine⟨_,(zc (br 2 WA.nd (aI BF G (za ak (za aA zb))))
  (ze (zh (zN (show aj (zf Lh) Wz "_law_k" ["_law_couples_here","_law_spots_here"] [1,2] _ from dU) rfl (ww rfl T.bt (za (yf T.az aA) zb)) (λ_ _ _ _ _=>(yP (zj zG (zx (UG (K:=K) rfl) aL ak bF) zg (zl _)))) (λ_ _ _ _ _=>(zx (UG (K:=K) rfl) aA ak bF)))))),?_⟩
 have M:=zq;refine⟨_,rfl,_,rfl,a,b,t,e,rfl,C,h,x,y,λu I d D=>(o d D).mem_iff.mpr I,λJ g j N k=>?_⟩;rw[M6.wT o B]at k;have O:=M6.yO t e;refine⟨_,rfl,b,_,rfl,.inl (j.seq h),_,rfl,by lia,by rw[q06];lia,?_⟩;rw[q06,show((e.length:Nat):Int).toNat=e.length by lia];refine Uy (λi n v=>ae g v/\n=(Cy (M6.zB t e) e i).map V.int) ⟨ae.refl _,rfl⟩ ?_ (by lia) ?_ ?_
 .rintro i n v hi ⟨s2,rfl⟩;rw[q06];exact VE _ _ _
 .rintro i n v hi ⟨s2,rfl⟩;refine⟨_,rfl,_,rfl,J,_,_,_,rfl,rfl,ah.of (s2 _ _ k),(by rw[Int.zero_add];exact zO (qZ (by lia))),rfl,_,rfl,zX (λc=>?_) (λr=>?_)⟩
  .have c:(M6.zB t e).getD i 0=1:=by injection c
   refine⟨_,rfl,_,rfl,b,_,_,_,rfl,rfl,(j.trans s2).seq h,(by rw[Int.zero_add];exact zO (qZ hi)),s2,?_⟩;rw[Ki,q01 c,q07];rfl
  .have r:¬(M6.zB t e).getD i 0=1:=λz=>r (by rw[z]);refine⟨s2,?_⟩;rw[Ki,q00 r,append_nil]
 .rintro n v ⟨s2,rfl⟩ l hl;have p:=j.trans s2;exact q l _ (p.aw hl) (p.free hl) zd
variable (RX:bJ P w K m b 3 "_law_firsts" Li (RT K))
inductive RY (K:Frag)(vs:List V)(H:Hp)(Q:VK)(E:XK):Prop|mk(a b:Addr)(w:Nat)(c:Int)(S:Sh)(j:Str)(e:Qn):vs=[.str e.f,.ref a,.ref b,.int w,.int c]->((e=.ml j\/e=.nT j\/e=.ik j c))->Refs K (IL K) H a S.rows->ah K H b (S.aa.map V.int)->S.Ok->(((w=S.ag.length/\j∉S.ag)\/(w<S.ag.length/\j=S.ag.getD w "")))->(∀t,ae H t->Q (.str (S.dv e)) t)->RY K vs H Q E
include T og W5 BF IH in
theorem zij(F:aS K "_law_of_judge" "_law_of_judge" Lj f fd):ar P w K m b bp 3 f fd Lk (RY K):=by
 refine F.ok Ll ?_;rintro aN g9 outer gQ H vs gI E k⟨a,b,w,c,S,j,qn,rfl,oi,hA,A,ok,y,q⟩;refine⟨_,(zc (zu (zj zG bB (yf T.az aA) (zl _)) (ze (zh zm)) zn)
  (zc (zu (zj (Fi k.bE) (zx zr aA bB bF) (zv zb) (zl _)) (ze (zh zm)) zn)
  (zc (zu (zj zG ak zm (zl _)) (ze (zh (aI og k (za (zx zr aA bB bF) zb)))) zn)
  (zc (zu (zj zG ak zm (zl _)) (zc (yN (i:=5) (show aj (zf Lj) WB "_law_card_here" [] [] _ from dU) rfl Ll.nd rfl (Or.inl rfl) (zz (zo yd (zF zV aA zR (zK bB)) (zF zV aA (zK (zo zS bB zg)) zR))) (λ_ _ _ _ _=>(yP (zj (wK (K:=K) rfl k.bE) ak (zv zb) (zl _)))) (λ_ _ _ _ _=>ak))
  (zc (zu (zj (Od k.bE) fS (zv zb) (zl _)) (ze (zh zm)) zn)
  (ze (zh (aI IH k (za (aI BF k (za fS (za aL zb))) (za aL zb))))))) zn)
  (zc (zu (zj yC cO aL (by first | exact zl _ | rfl)) (ze (zh zm)) zn)
  (zc (br 6 Ll.nd (yD PySem.F.plainAttrs_list PySem.F.slot_list_index PySem.F.type_list_index DP (zx zr aA bB bF) (za cO zb)))
  (zc (zu (zj zG fC zg (zl _)) (ze (zh zm)) zn)
  (zc (br 7 Ll.nd (aI BF k (za (aI W5 k (za aA (za bB (za fC zb)))) (za aL zb))))
  (ze (zh (zo zC (zo zC (zy wW (by rfl) T.cb boot_str (za (zx zr (zx zr aA bB bF) (zo xa fC zg) bF) zb)) zm) (aI IH k (za xx (za aL zb)))))))))))))),?_⟩
 have cF:=zq;have dO:=ok.dO;have fD:=ok.fD;have mB:=Sh.bQ S;obtain⟨r,B,hR⟩:=id hA;have CJ:=hR.length;refine⟨_,rfl,_,rfl,a,_,rfl,.inl B,rfl,_,rfl,?_⟩;rw[q06,CJ,mB];rcases y with⟨rfl,hj⟩|⟨y,hj⟩
 .refine wn (q19 rfl) ?_;have:=q _ (ae.refl _);unfold Sh.dv at this;rw[show S.cz qn=some ("UnknownJudge":Str)by rcases oi with rfl | rfl | rfl <;> exact q00 hj]at this;exact this
 refine zt (q20 λz=>by injection z with z;lia) ?_;obtain⟨m,M,u⟩:=hR.at (i:=w) (by lia) [];have RZ:=Sh.nI S y;have s:S.ag.getD w "" ∈ S.ag:=wu y;have D:=Sh.gh ok (S.ag.getD w "");have FU:=Sh.gi ok y;have R0:=λh=>Sh.eU (j:=S.ag.getD w "") ok.uO h;have R1:=Sh.dW ok (S.ag.getD w "");have IP:=λd hp Q=>Sh.jN ok y (d:=d) hp Q;rw[<-hj]at RZ s D FU R0 R1 IP;have u:ah K H m ((S.rows.getD w []).map V.int):=u;refine⟨_,rfl,_,rfl,a,_,_,_,rfl,rfl,B,zO (A7 M),(by decide),λl1 du=>?_⟩;have v:=ae.new (o:=.lst []) du;refine⟨m,l1,_,[],rfl,rfl,v.seq u,ah.new,zA _,rfl,_,rfl,?_⟩;rw[show gZ ((S.rows.getD w []).map V.int) []=decide (S.rows.getD w []=[])from yZ _ []];have CO:S.rows.getD w []=[]↔S.card j=none:=by
  rw[RZ];constructor
  .intro h;rw[q19 h]at D;cases e:S.card j with
   | none=>rfl
   | some d=>rw[e]at D;cases D
  .intro h;rw[h];rfl
 refine zX (λt=>?_) (λt=>?_)
 .have n:=CO.mp t;have:=q _ v;unfold Sh.dv at this;rw[show S.cz qn=some ("NoCard":Str)by rcases oi with rfl | rfl | rfl <;> (show(if j∈S.ag then _ else _)=_;rw[q01 s,q01 n])]at this;exact this
 have n:¬S.card j=none:=λz=>t (CO.mpr z);obtain⟨d,l⟩:∃d,S.card j=some d:=by
  cases e:S.card j with
  | none=>exact q02 e n
  | some d=>exact⟨d,rfl⟩
 have I:S.rows.getD w []=d:=by rw[RZ,l];rfl
 rw[I]at u;obtain⟨_,p⟩:=ok.cd j d l;have Ci:=p.length_eq;have EK:d.Nodup:=p.nodup_iff.mpr ok.nd;have Ma:j∈S.handed:=q24.mpr ⟨s,by rw[l];rfl⟩;have R0:=R0 Ma;have gR:S.handed.length<=15:=q38 (q09 _ _) fD;generalize kW:upd H l1 _=H1 at v ⊢;have EL:=v.seq B;rcases oi with rfl | rfl | rfl
 .refine⟨_,rfl,rfl,_,rfl,wn (show decide (V.str "show"=V.str "show")=true by decide) ?_⟩;refine⟨_,rfl,_,rfl,a,_,_,_,rfl,rfl,EL,zO (A7 M),m,_,d.map tN,rfl,v.seq u,?_,by rw[q06];lia,?_,λgB EM=>?_⟩
  .exact Kk λg0 n=>by have:=ok.cY g0 (p.mem_iff.mp n);lia
  .intro x hx;obtain⟨g0,n,rfl⟩:=q25.mp hx;have:=M6.yt (ok.cY g0 (p.mem_iff.mp n))
   lia
  .have:=q _ (v.trans EM);unfold Sh.dv at this;rw[show S.cz (.ml j)=none by show(if j∈S.ag then _ else _)=_;rw[q01 s,q00 n],show S.kG (.ml j)=Txt.join M6.zE (d.map tN)by show Txt.join M6.zE (((S.card j).getD []).map tN)=_;rw[l];rfl]at this;exact this
 .refine⟨_,rfl,rfl,_,rfl,zt (show decide (V.str "leave"=V.str "show")=false by decide) ?_⟩;refine⟨_,rfl,rfl,_,rfl,wn (show decide (V.str "leave"=V.str "leave")=true by decide) ?_⟩;refine⟨_,rfl,_,rfl,_,rfl,a,_,rfl,EL,λU jU=>?_⟩;rw[JL (by lia),show((w:Int)).toNat=w by lia];have gq:=ae.new (o:=.lst ((r.map V.ref).take w)) jU;refine⟨_,rfl,_,rfl,_,_,rfl,rfl,_,rfl,a,_,rfl,(v.trans gq).seq B,λrN vT=>?_⟩;rw[Fg (by lia),show((w:Int)+1).toNat=w+1 by lia];have iZ:=ae.new (o:=.lst ((r.map V.ref).drop (w+1))) vT;have kL:=iZ _ _ (zd (H:=H1) (a:=U) (o:=.lst ((r.map V.ref).take w)));refine⟨U,rN,_,_,rfl,rfl,kL,zd,by rw[q11,length_drop,q06];lia,λW vU=>?_⟩;rw[<-map_take,<-map_drop,<-q07]at *;have fu:=(gq.trans iZ).aw (o:=.lst ((r.take w++r.drop (w+1)).map V.ref)) vU;have kM:upd (upd (upd H1 U (.lst ((r.take w).map V.ref))) rN (.lst ((r.drop (w+1)).map V.ref))) W (.lst ((r.take w++r.drop (w+1)).map V.ref)) W=some (.lst ((r.take w++r.drop (w+1)).map V.ref)):=zd;generalize IQ:upd (upd (upd H1 U _) rN _) W _=CP at fu kM ⊢;have Mb:=v.trans fu;have R3:All2 (IL K CP) (r.take w++r.drop (w+1)) (S.rows.take w++S.rows.drop (w+1)):=by
   have z:=hR.imp λ_ _=>IL.stays K _ _ _ _ Mb;exact(z.uZ w).app (z.u6 (w+1))
  refine⟨W,rfl,⟨_,ah.of kM⟩,?_⟩;refine Fz (ah.of kM) R3 (by rw[q08,q11,length_drop];lia) (λm d H' R g h=>?_) (λm H' R h=>⟨_,rfl,h⟩) λX FN L ID=>?_
  .refine⟨_,rfl,(by show 0<=sizeLine;decide),λqu gJ=>?_⟩;have L:=ae.new (o:=.lst []) gJ;refine⟨m,qu,_,[],rfl,rfl,L.seq g,ah.new,zA _,rfl,_,rfl,?_⟩;rw[show gZ (d.map V.int) []=decide (d=[])from yZ _ []];exact h _ L
  intro C my;have vV:=ae.new (o:=.lst (X.map V.ref)) my;have Z:upd FN C (.lst (X.map V.ref)) C=some (.lst (X.map V.ref)):=zd;have G:=ID.imp λ_ _=>IL.stays K _ _ _ _ vV;rw[<-FU]at G;generalize IS:upd FN C _=R5 at vV Z G ⊢;have Mc:=(Mb.trans L).trans vV;have FV:=G.length;refine⟨_,rfl,(by decide),λg2 R6=>?_⟩;have J:=ae.new (o:=.lst []) R6;have R7:=Mc.trans J;refine⟨C,g2,_,rfl,rfl,ah.of (J _ _ Z),ah.new,_,rfl,?_⟩;rw[q06,FV];refine zX (λO=>?_) (λbz=>?_)
  .have:=q _ R7;unfold Sh.dv at this;rw[show S.cz (.nT j)=some ("TooFewCards":Str)by show(if j∈S.ag then _ else _)=_;rw[q01 s,q00 n,q01 (by lia)]]at this;exact this
  refine⟨_,rfl,_,rfl,C,b,S.bg j,S.aa,rfl,⟨X,ah.of (J _ _ Z),G.imp λ_ _=>IL.stays K _ _ _ _ J⟩,R7.seq A,by have:=Sh.lU ok;have:=q09 (λd:List Int => !decide (d=[])) S.rows;lia,by lia,λg8 hu e O=>(R1 e O).mem_iff.mpr hu,λg3 gC g4 gK XG=>?_⟩;rw[M6.wT R1 (by lia)]at XG;have XH:=R7.trans g4;refine⟨_,rfl,g3,b,S.bg j,S.aa,rfl,ah.of XG,XH.seq A,by lia,ok.cY,λgH g6=>?_⟩;have:=q _ (XH.trans g6);unfold Sh.dv at this;rw[show S.cz (.nT j)=none by show(if j∈S.ag then _ else _)=_;rw[q01 s,q00 n,q00 (by lia)]]at this;exact this
 .refine⟨_,rfl,rfl,_,rfl,zt (show decide (V.str "step"=V.str "show")=false by decide) ?_⟩;refine⟨_,rfl,rfl,_,rfl,zt (show decide (V.str "step"=V.str "leave")=false by decide) ?_⟩;have g1:=v.seq A;have XI:=v.seq u;refine⟨_,rfl,_,rfl,b,_,rfl,.inl g1,rfl,zA _,_,rfl,?_⟩;rw[Ff];refine yl (λg=>?_) (λg=>?_)
  .have:=q _ v;unfold Sh.dv at this;rw[show S.cz (.ik j c)=some ("UnknownCouple":Str)by show(if j∈S.ag then _ else _)=_;rw[q01 s,q00 n,q00 g]]at this;exact this
  have iV:c∈d:=p.mem_iff.mpr g;have N:=idxOf_lt_length_of_mem iV;have Mf:d.getD (d.idxOf c) 0=c:=M6.O0 iV;refine⟨_,rfl,_,rfl,a,_,_,_,rfl,rfl,EL,zO (A7 M),.inl ⟨rfl,_,XI⟩,_,rfl,m,_,_,rfl,rfl,XI,rfl,zA _,(by rw[wd,q06];exact N),?_⟩;rw[wd];refine⟨_,rfl,rfl,_,rfl,zX (λt=>?_) (λt=>?_)⟩
  .have t:d.idxOf c=0:=by injection t with t;lia
   have:=q _ v;unfold Sh.dv at this;rw[show S.cz (.ik j c)=some ("AtTop":Str)by show(if j∈S.ag then _ else _)=_;rw[q01 s,q00 n,q01 g,q01 (by rw[l];show d.getD 0 0=c;rw[<-t];exact Mf)]]at this;exact this
  have t:0<d.idxOf c:=by
   by_cases z:d.idxOf c=0
   .exact q02 (by rw[z];rfl) t
   .lia
  have EO:S.cz (.ik j c)=none:=by
   show(if j∈S.ag then _ else _)=_;rw[q01 s,q00 n,q01 g,q00];rw[l];intro z;have z:d.getD 0 0=c:=z;have IT:0<d.length:=by lia
   have:d.idxOf c=0:=by
    rw[<-z,show d.getD 0 0=d[0] by rw[q18,q31 IT];rfl];exact EK.idxOf_getElem 0 IT
   lia
  have Q:(S.card j).isSome=true:=by rw[l];rfl
  have Mg:=IP (g7 d (d.idxOf c)) ((OY t N).trans p) Q;refine⟨_,rfl,_,rfl,_,rfl,a,S.rows,w,d.idxOf c,rfl,Refs.same (IL.stays K) v hA,by lia,by lia,t,by rw[I];exact N,by rw[I];lia,λl2 H2 g5 f2 r2=>?_⟩;have s2:=v.trans g5;rw[I,<-Mg]at r2;have gL:=Sh.eV S j (g7 d (d.idxOf c));have Ma:1<=S.handed.length:=q30 (q24.mpr ⟨s,Q⟩);have XJ:=Sh.gj ok (j:=j) ((OY t N).trans p);refine⟨_,rfl,l2,b,_,S.aa,rfl,r2,s2.seq A,by lia,by lia,λg8 hu e O=>(XJ e O).mem_iff.mpr hu,λl3 H3 s3 f3 e3=>?_⟩;rw[M6.wT XJ (by lia)]at e3;have Y:=s2.trans s3;have BE:1<=d.getD (d.idxOf c-1) 0/\d.getD (d.idxOf c-1) 0<=999:=by
   have iX:d.idxOf c-1<d.length:=by lia
   rw[show d.getD (d.idxOf c-1) 0=d[d.idxOf c-1] by rw[q18,q31 iX];rfl];exact ok.cY _ (p.mem_iff.mp (q44 iX))
  have rG:=M6.Wa (cs:=S.bC j (g7 d (d.idxOf c))) ok.cY (by lia);have Mh:=M6.yt BE;have L5:(" | ":Str).length=3:=by decide +kernel
  unfold tN at Mh;refine⟨_,rfl,_,rfl,a,_,_,_,rfl,rfl,Y.seq B,zO (A7 M),_,rfl,_,_,rfl,rfl,m,_,_,.int (d.getD (d.idxOf c-1) 0),rfl,rfl,Y.seq u,?_,_,rfl,yI (by lia),_,_,rfl,rfl,?_,_,rfl,_,rfl,l3,b,_,S.aa,rfl,ah.of e3,Y.seq A,by lia,ok.cY,λH4 s4=>⟨_,_,rfl,rfl,?_,?_⟩⟩
  .rw[show((d.idxOf c:Nat):Int)-1=((d.idxOf c-1:Nat):Int)by lia];exact zO (qZ (by lia))
  .show(Str.ofString (toString (d.getD (d.idxOf c-1) 0))).length+(" | ":Str).length<=sizeLine
   lia
  .rw[zw,L5];show(Str.ofString (toString (d.getD (d.idxOf c-1) 0))).length+3+(M6.vt (S.bC j (g7 d (d.idxOf c))) S.aa).length<=sizeLine
   lia
  .have:=q _ (Y.trans s4);unfold Sh.dv at this;rw[EO]at this;have e:S.kG (.ik j c)=tN (d.getD (d.idxOf c-1) 0)++(" | ":Str) ++ M6.vt (S.bC j (g7 d (d.idxOf c))) S.aa:=by
    show HX ((S.card j).getD []) c (M6.vt (S.bC j (g7 ((S.card j).getD []) (((S.card j).getD []).idxOf c))) S.aa)=_;rw[l];rfl
   rw[e]at this;exact this
variable (XM:bJ P w K m b 3 "_law_of_judge" Lk (RY K))
inductive R8 (K:Frag)(vs:List V)(H:Hp)(Q:VK)(E:XK):Prop|mk(a b:Addr)(c:Int)(S:Sh):vs=[.ref a,.ref b,.int c]->Refs K (IL K) H a S.rows->ah K H b (S.aa.map V.int)->S.Ok->c.natAbs<=1000->(∀e,ae H e->Q (.str (S.dv (.row c))) e)->R8 K vs H Q E
include T BF Xr in
theorem zj9(F:aS K "_law_of_row" "_law_of_row" Lm f fd):ar P w K m b bp 3 f fd Ln (R8 K):=by
 refine F.ok WD ?_;rintro aN g1 outer s g2 vs Q E p⟨N,b,c,S,rfl,X,Y,ok,hc,q0⟩;refine⟨_,(zc (yN (i:=3) (show aj (zf Lm) WC "_law_card_here" [] [] _ from dU) rfl WD.nd rfl (Or.inl rfl) (zz ak) (λ_ _ _ _ _=>(yP (zj (wK (K:=K) rfl p.bE) ak (zv zb) (zl _)))) (λ_ _ _ _ _=>ak))
  (zc (zu (zj (Od p.bE) bB (zv zb) (zl _)) (ze (zh zm)) zn)
  (zc (zu (zj yC aL aA (by first | exact zl _ | rfl)) (ze (zh zm)) zn)
  (ze (zh (aI Xr p (za (zx zr (aI BF p (za bB (za aA zb))) (yD PySem.F.plainAttrs_list PySem.F.slot_list_index PySem.F.type_list_index DP aA (za aL zb)) bF) (za aL (za bB (za (yf T.az aA) zb)))))))))),?_⟩
 have cF:=zq;have mB:=Sh.bQ S;have fD:=ok.fD;obtain⟨g3,C,g0⟩:=id X;refine⟨_,rfl,N,rfl,⟨_,C⟩,?_⟩;refine Fz C g0 (by lia) (λm d v R e h=>?_) (λm v R h=>⟨_,rfl,h⟩) λg G t r1=>?_
 .refine⟨_,rfl,(by show 0<=sizeLine;decide),λqu U=>?_⟩;have H:=ae.new (o:=.lst []) U;refine⟨m,qu,_,[],rfl,rfl,H.seq e,ah.new,zA _,rfl,_,rfl,?_⟩;rw[show gZ (d.map V.int) []=decide (d=[])from yZ _ []];exact h _ H
 intro a ha;have r:=ae.new (o:=.lst (g.map V.ref)) ha;have k:upd G a (.lst (g.map V.ref)) a=some (.lst (g.map V.ref)):=zd;have B:=r1.imp λ_ _=>IL.stays K _ _ _ _ r;rw[<-Sh.bZ ok]at B;generalize mD:upd G a _=D at r k B ⊢;have I:=t.trans r;have z:Refs K (IL K) D a S.ao:=⟨g,ah.of k,B⟩;have n:=I.seq Y;have q:∀v,ae D v->Q (.str (S.dv (.row c))) v:=λv s=>q0 v (I.trans s);obtain⟨ls,hl,Z⟩:=id z;have M:=Z.length;have iD:=Sh.aT S;have dO:=ok.dO;have gR:S.handed.length<=15:=q38 (q09 _ _) ok.fD;refine⟨_,rfl,(by decide),λl1 O=>?_⟩;have t:=ae.new (o:=.lst []) O;refine⟨a,l1,_,rfl,rfl,t.seq hl,ah.new,_,rfl,?_⟩;rw[q06,M,iD];refine zX (λl=>?_) (λl=>?_)
 .have:=q _ t;unfold Sh.dv at this;rw[show S.cz (.row c)=some ("TooFewCards":Str)from q01 l]at this;exact this
 refine⟨_,rfl,_,rfl,b,_,rfl,.inl (t.seq n),rfl,zA _,_,rfl,?_⟩;rw[Ff];refine yl (λe=>?_) (λe=>?_)
 .have:=q _ t;unfold Sh.dv at this;rw[show S.cz (.row c)=some ("UnknownCouple":Str)by show(if S.handed.length=0 then _ else _)=_;rw[q00 l,q00 e]]at this;exact this
 have J:∀u∈S.aa,∀d∈S.ao,u∈d:=λu hu d A=>(Sh.aQ ok d A).mem_iff.mpr hu;refine⟨_,rfl,_,rfl,a,b,S.ao,S.aa,rfl,Refs.same (IL.stays K) t z,t.seq n,by lia,by lia,J,λl2 H2 r f2 k=>?_⟩;have j:=t.trans r;have W:1<=S.ao.length:=by lia
 have y:=idxOf_lt_length_of_mem e;have L:fN ((M5.HJ S.ao S.aa).map V.int) (S.aa.idxOf c:Int)=some (.int (M6.gk S.ao S.aa c)):=by
  rw[M6.wT (Sh.aQ ok) W];have:=zO (qZ (ns:=M6.zB S.ao S.aa) (i:=S.aa.idxOf c) (by rw[M6.yO];exact y));rw[M6.VF y,M6.O0 e]at this;exact this
 refine⟨_,rfl,.inl ⟨rfl,_,j.seq n⟩,_,rfl,b,_,_,rfl,rfl,j.seq n,rfl,zA _,(by rw[wd,q06];exact y),l2,_,_,.int (M6.gk S.ao S.aa c),rfl,rfl,ah.of k,(by rw[wd];exact L),_,rfl,_,rfl,_,rfl,b,_,rfl,.inl (j.seq n),?_⟩;rw[q06]
 .have hp:=M6.FE (cs:=S.ao) e;refine⟨_,c,a,S.ao,S.aa.length,rfl,Refs.same (IL.stays K) j z,by lia,λd A=>J c e d A,?_,by lia,by lia,hc,λH3 s3=>?_⟩
  .intro x hx;have:=M6.yE (Sh.aQ ok) e x hx;lia
  .have:=q _ (j.trans s3);unfold Sh.dv at this;rw[show S.cz (.row c)=none by show(if S.handed.length=0 then _ else _)=_;rw[q00 l,q01 e]]at this;exact this
variable (XN:bJ P w K m b 3 "_law_of_row" Ln (R8 K))
inductive R9 (K:Frag)(vs:List V)(H:Hp)(Q:VK)(E:XK):Prop|mk(a:Addr)(ms:List Int)(n:Int):vs=[.ref a,.int n]->ah K H a (ms.map V.int)->ms.length<=1000->0<=n->n<=1000->(∀(l:Addr)(e:Hp)(t:List Addr),ae H e->H l=none->e l=some (.lst (t.map V.ref))->All2 (iI K e) t (M6.rz ms n.toNat)->Q (.ref l) e)->R9 K vs H Q E
include T qH CN in
theorem zln(F:aS K "ladder_of" "ladder_of" Lo f fd):ar P w K m b bp 3 f fd wU (R9 K):=by
 refine F.ok zlN ?_;rintro B A outer s H G Q E j⟨a,ms,n,rfl,d,o,C,D,q⟩;refine⟨_,(ze (zh (zN (show aj (zf Lo) wU "number" ["marks"] [0] _ from dU) rfl (Dl rfl T.bt (za zg (za (zo zS aA zg) zb))) (λ_ _ _ _ _=>yA) (λ_ _ _ _ _=>(oO (za (aI qH j (za aA (za ak zb))) (za (aI CN j (za aA (za ak zb))) zb))))))),?_⟩;refine⟨_,rfl,_,_,rfl,rfl,_,_,rfl,⟨by lia,by lia,by lia,by lia⟩,?_⟩;have g:(n+1-1).toNat=n.toNat:=by lia
 rw[g];refine Uz (λi h r=>∃v:List Addr,h=v.map V.ref/\ae H r/\All2 (iI K r) v (M6.rz ms i)) ⟨[],rfl,ae.refl _,.nil⟩ ?_ (by have:=zq;lia) ?_ ?_
 .rintro i h r hi ⟨v,rfl,s2,r2⟩;have:=r2.length;rw[M6.Kg]at this;rw[q06]
  lia
 .rintro i h r hi ⟨v,rfl,s2,r2⟩;refine⟨_,rfl,_,rfl,a,ms,_,rfl,s2.seq d,o,λy c=>?_⟩;refine⟨_,rfl,_,rfl,a,ms,_,rfl,(s2.trans c).seq d,o,λz p=>?_⟩;refine⟨by show 2<=sizeLine;decide,λt k=>?_⟩;have x:=(s2.trans c).trans p;refine⟨v++[t],by rw[q07];rfl,x.aw k,?_⟩;rw[M6.Vz,Int.add_comm (i:Int) 1];exact(r2.imp λ_ _=>iI.stays K _ _ _ _ ((c.trans p).aw k)).snoc (show iI K _ t _ from cE.new)
 .rintro h r ⟨v,rfl,s2,r2⟩ l hl;refine q l _ v (s2.aw hl) ?_ zd (r2.imp λ_ _=>iI.stays K _ _ _ _ (ae.new hl));cases e:H l with
  | none=>rfl
  | some u=>have:=s2 l u e;rw[hl]at this;cases this
variable (XO:bJ P w K m b 3 "ladder_of" wU (R9 K))
def Sa:Option Int->V
 | none=>.bR
 | some n=>.int n
inductive Sb (K:Frag)(vs:List V)(H:Hp)(Q:VK)(E:XK):Prop|mk(a b:Addr)(ms e:List Int)(f:Int):vs=[.ref a,.ref b]->ah K H a (ms.map V.int)->ah K H b (e.map V.int)->1<=ms.length->ms.length<=60->e.length<=60->((∀x∈ms,1<=x/\x<=24))->((∀x∈e,1<=x/\x<=24))->M3.eR ms f->M3.eR e f->(∀(r:Option Int)(t:Hp),ae H t->M6.HK ms e f r->Q (Sa r) t)->Sb K vs H Q E
include T qH CN rK in
theorem zlB(F:aS K "unlike_at" "unlike_at" Qc f fd):ar P w K m b bp 3 f fd Lp (Sb K):=by
 refine F.ok WE ?_;rintro aN g0 outer g3 H vs g1 E k⟨a,b,ms,r,f,rfl,g,A,J,Z,JQ,B,X,V,fG,q⟩;refine⟨_,(zc (wf PassesOwn.never rfl (Dl rfl T.bt (za (aI rK k (za ak zb)) (za (zo zS (zJ (Z2 rfl) (by rfl) T.Ib boot_max (za (zo AM ak aA) zb)) zg) zb))) (iH 2 WE.nd)
  (zc (q9 (zu (zj jb (aI qH k (za ak (za aL zb))) (aI qH k (za aA (za aL zb))) (zl _)) (ze (zh aL)) zn))
  (ze (q9 (zu (zj jb (aI CN k (za ak (za aL zb))) (aI CN k (za aA (za aL zb))) (zl _)) (ze (zh aL)) zn)))))
  (ze (zh E4))),?_⟩
 have cF:=zq;have s:ms≠[]:=by intro z;rw[z]at J;simp at J
 refine⟨_,rfl,a,ms,rfl,g,s,Z,B,λQ e C O=>?_⟩;have U:=M3.HF O V;subst U;refine⟨_,rfl,_,rfl,a,b,_,_,rfl,rfl,C.seq g,C.seq A,(by rw[q06,q06];lia),λl W=>?_⟩;rw[<-q07];refine⟨l,ms++r,rfl,ah.new,(by rw[q08];lia),λM hM G=>?_⟩;have g2:1<=M/\M<=24:=by
  rcases List.mem_append.mp hM with z | z
  .exact B M z
  .exact X M z
 have I:∀x∈ms,x<=M:=λx h=>G x (mem_append_left _ h);have Y:∀x∈r,x<=M:=λx h=>G x (mem_append_right _ h);have uJ:=M3.HG O 1 M λx h=>⟨(B x h).1,I x h⟩;refine⟨_,_,rfl,rfl,_,_,rfl,⟨by lia,by lia,by lia,by lia⟩,?_⟩;generalize mD:upd Q l _=R;have s2:ae H R:=by rw[<-mD];exact C.aw W
 refine yx (λi D y=>∃v,D=[some (.ref a),some (.ref b),v]/\ae H y/\∀j,e<=j->j<e+i->M3.cnt ms j=M3.cnt r j/\M3.sm ms j=M3.sm r j) ⟨_,rfl,s2,λj u L=>by lia⟩ ?_ ?_
 .rintro i D y hi ⟨v,rfl,s3,hj⟩;refine⟨λo p=>o=[some (.ref a),some (.ref b),some (.int (e+i))]/\ae H p/\M3.cnt ms (e+i)=M3.cnt r (e+i),?_,?_⟩
  .refine⟨_,rfl,_,rfl,a,ms,_,rfl,s3.seq g,by lia,λH4 t=>?_⟩;refine⟨_,rfl,_,rfl,b,r,_,rfl,(s3.trans t).seq A,by lia,λS n=>?_⟩;refine⟨rfl,_,rfl,yl (λs=>?_) (λd=>?_)⟩
   .refine⟨_,rfl,q (some (e+i)) _ ((s3.trans t).trans n) ⟨by lia,by lia,hj,λz=>s (by rw[z.1])⟩⟩
   .refine⟨rfl,(s3.trans t).trans n,?_⟩;injection d with d
    lia
  .rintro o p ⟨rfl,t,Sd⟩;refine⟨λo p=>o=[some (.ref a),some (.ref b),some (.int (e+i))]/\ae H p/\M3.sm ms (e+i)=M3.sm r (e+i),?_,?_⟩
   .refine⟨_,rfl,_,rfl,a,ms,_,rfl,t.seq g,by lia,λS n=>?_⟩;refine⟨_,rfl,_,rfl,b,r,_,rfl,(t.trans n).seq A,by lia,λH6 N=>?_⟩;refine⟨rfl,_,rfl,yl (λs=>?_) (λd=>?_)⟩
    .refine⟨_,rfl,q (some (e+i)) _ ((t.trans n).trans N) ⟨by lia,by lia,hj,λz=>s (by rw[z.2])⟩⟩
    .refine⟨rfl,(t.trans n).trans N,?_⟩;injection d with d
   .rintro o QI ⟨rfl,n,EJ⟩;refine⟨_,rfl,n,λj u L=>?_⟩;by_cases c:j<e+i
    .exact hj j u c
    .have:j=e+i:=by lia
     subst this;exact⟨Sd,EJ⟩
 .rintro D y ⟨v,rfl,s3,hj⟩;exact q none _ s3 (M6.lT I Y uJ.2 λj u L=>hj j u (by lia))
variable (Mi:bJ P w K m b 3 "unlike_at" Lp (Sb K))
inductive Se (K:Frag)(vs:List V)(H:Hp)(Q:VK)(E:XK):Prop|mk(p:Addr)(F:Addr->Prop)(S:Sh)(j:Str):vs=[.ref p,.str j]->aq K H p F S->(∀(l:Addr)(e:Hp)(t:List Addr),ae H e->H l=none->e l=some (.lst (t.map V.ref))->All2 (IL K e) t (S.bg j)->Q (.ref l) e)->Se K vs H Q E
include T rE vO in
theorem zho(F:aS K "cards_without" "cards_without" Lq f fd):ar P w K m b bp 3 f fd yG (Se K):=by
 refine F.ok zhz ?_;rintro U A outer g1 H vs Q E D⟨p,F,S,j,rfl,r,q⟩;refine⟨_,(ze (zh (zN (show aj (zf Lq) yG "other" ["sheet","judge"] [0,1] _ from dU) rfl (zz (zL rE T.ai (hM D) ak)) (λ_ _ _ _ _=>(yP (zj jb ak aL (zl _)))) (λ_ _ _ _ _=>(xo vO T.ai mZ (hM D) aA (za ak zb)))))),?_⟩;have cF:=zq;have C:=r.ok.fD;obtain⟨u,W,X,Y,g0,g⟩:=r.ins;refine⟨_,rfl,p,u,_,rfl,g,rfl,p,F,S,rfl,r.shape,C,λa J G f1 B=>?_⟩;have di:S.handed.length<=15:=q38 (q09 _ _) C;refine⟨a,rfl,⟨_,ah.of B⟩,?_⟩;refine yL (xs:=S.handed.map V.str) (λi s v=>∃t:List Addr,s=t.map V.ref/\ae J v/\All2 (IL K v) t (((S.handed.take i).filter λi => !decide (i=j)).map λi=>(S.card i).getD [])) ⟨[],rfl,ae.refl _,.nil⟩ ?_ (by rw[q06];lia) ?_ ?_
 .rintro i s v h ⟨t,rfl,s2,r2⟩;refine⟨s2.seq (ah.of B),?_⟩;have N:=r2.length;have O:=q09 (λi => !decide (i=j)) (S.handed.take i);rw[q06]at N;rw[q11]at O;rw[q06]
  lia
 .rintro i x s v hx ⟨t,rfl,s2,r2⟩;obtain⟨h,rfl⟩:=DZ hx;have o:=q24.mp (show S.handed.getD i "" ∈ S.ag.filter λj=>(S.card j).isSome from wu h);have n:=G.trans s2;refine⟨_,rfl,_,rfl,rfl,_,rfl,yl (λd=>?_) (λk=>?_)⟩
  .have d:¬S.handed.getD i ""=j:=λz=>d (by rw[z]);cases e:S.card (S.handed.getD i "")with
   | none=>rw[e]at o;exact q02 o.2 q23
   | some c =>
     refine⟨_,rfl,p,u,_,rfl,n _ _ g,rfl,_,rfl,p,F,S,_,rfl,r.same n,λR=>q02 o.1 R,(λ_ z=>by rw[e]at z;cases z),λZ y l L I f3 M=>?_⟩;rw[e]at y;cases y;refine⟨t++[l],by rw[q07];rfl,s2.trans I,?_⟩;rw[yz h,q16,q17,q01 (by rw[q20 d];rfl),q07];refine(r2.imp λ_ _=>IL.stays K _ _ _ _ I).snoc ?_;show IL K L l ((S.card (S.handed.getD i "")).getD []);rw[e];exact ah.of M
  .have k:S.handed.getD i ""=j:=by injection k
   refine⟨t,rfl,s2,?_⟩;rw[yz h,q16,q17,q00 (by rw[q19 k];decide),filter_nil,append_nil];exact r2
 .rintro s v ⟨t,rfl,s2,r2⟩ l hl;rw[q06,q15]at r2;have n:=G.trans s2;exact q l _ t (n.aw hl) (n.free hl) zd (r2.imp λ_ _=>IL.stays K _ _ _ _ (ae.new hl))
variable (Mj:bJ P w K m b 3 "cards_without" yG (Se K))
inductive Sf (K:Frag)(vs:List V)(H:Hp)(Q:VK)(E:XK):Prop|mk(z:Str):vs=[.str z]->z≠("":Str)->z.length<=1000->((M57.cw z=false->∀C e,aX K "BadRow" C->ae H e->E (.ref C) none e))->((M57.cw z=true->∀e,ae H e->Q (.int (M57.num z)) e))->Sf K vs H Q E
include T Xx in
theorem zjH(F:aS K "read_couple" "read_couple" Qd f fd):ar P w K m b (dM P w) 3 f fd ["word"] (Sf K):=by
 obtain⟨D,c,i,d⟩:=T.bj;refine F.ic zje ?_;rintro X W y A outer s H G Q E l k C g o⟨z,rfl,v,p,u,q⟩;subst l;refine⟨_,(zc (zu (qR (mI (aI Xx o (za ak zb)))) (ze (yh rfl g rfl i d (za zm zb))) zn)
  (ze (zh (zy Z3 (by rfl) T.n6 boot_int (za ak zb))))),?_⟩
 refine⟨_,rfl,z,rfl,v,p,λx h=>?_⟩;cases t:M57.cw z with
 | false =>
   refine⟨_,rfl,qX ?_⟩;exact⟨(by show 1<=sizeLine;decide),by rw[k];exact u t _ _ c h⟩
 | true =>
   have a:=(M57.cw_iff v).mp t;have B:=a.len;obtain⟨n,r,e⟩:=M57.vj a;have j:M57.num z=n:=by rw[e];exact M57.vm r
   rw[j]at q;refine⟨_,rfl,j6 ?_⟩;exact⟨_,rfl,_,n,rfl,by rw[e];exact M20.O7 r,by lia,q t _ h⟩
variable (XS:dq P w K m b 3 "read_couple" ["word"] (Sf K))
inductive Si (K:Frag)(vs:List V)(H:Hp)(Q:VK)(E:XK):Prop|mk(a:Addr)(e:List Str):vs=[.ref a]->ah K H a (e.map V.str)->e.length<4000->((∀z∈e,z.length<=1000))->(∀t,ae H t->Q (.bl (M2.xw e)) t)->Si K vs H Q E
include T FO LX Xz in
theorem ziP(F:aS K "good_judges" "good_judges" Lr f fd):ar P w K m b bp 3 f fd ["judges"] (Si K):=by
 refine F.ok zjb ?_;rintro g A outer s H u Q E c⟨a,d,rfl,t,k,j,q⟩;refine⟨_,(ze (zh (BU (aI FO c (za ak (za (Fe T.jl rfl) zb))) (BU (aI LX c (za ak zb)) (Gh (zJ (JM rfl) (by rfl) T.n5 boot_all (za (zN (show aj (zf Lr) ["judges"] "judge" [] [] _ from dU) rfl (zz ak) (λ_ _ _ _ _=>yA) (λ_ _ _ _ _=>(aI Xz c (za ak zb)))) zb))))))),?_⟩;refine⟨_,rfl,_,_,_,rfl,.inl ⟨_,t,rfl⟩,_,rfl,?_⟩;rw[q06];unfold M2.xw at q;refine Az (λn=>?_) (λn=>?_)
 .rw[n,Bool.true_and]at q;refine⟨_,rfl,a,rfl,.inr ⟨d,t,k,_,rfl,zX (λr=>?_) (λr=>?_)⟩⟩
  .rw[q19 r,Bool.true_and]at q;refine⟨_,rfl,a,rfl,⟨_,t⟩,?_⟩;refine zY (xs:=d.map V.str) (λi v e=>ae H e/\v=((d.take i).map M2.rj).map V.bl) ⟨ae.refl _,rfl⟩ ?_ (by rw[q06];have:=zq;lia) ?_ ?_
   .rintro i v e h ⟨s2,rfl⟩;exact⟨s2.seq t,by simp only[q06,q11];lia⟩
   .rintro i x v e hx ⟨s2,rfl⟩;obtain⟨h,rfl⟩:=DZ hx;refine⟨_,rfl,_,rfl,j _ (wu h),λp o=>⟨s2.trans o,?_⟩⟩;rw[yz h,q07,q07];rfl
   .rintro v e ⟨s2,rfl⟩ l hl;rw[q06,q15];exact⟨l,_,rfl,ah.new,q _ (s2.aw hl)⟩
  .rw[q20 r,Bool.false_and]at q;exact q _ (ae.refl _)
 .rw[n,Bool.false_and]at q;exact q _ (ae.refl _)
variable (XT:bJ P w K m b 3 "good_judges" ["judges"] (Si K))
inductive Sj (K:Frag)(vs:List V)(H:Hp)(Q:VK)(E:XK):Prop|mk(c u:Int)(a:Addr)(ns:List Int)(y:Int):vs=[.int c,.int u,.ref a,.int y]->1<=u->u<=1000000->ah K H a (ns.map V.int)->ns≠[]->ns.length<=1000->(∀(l:Addr)(e:Hp)(ms:List Int),ae H e->H l=none->e l=some (.lst (ms.map V.int))->ms.Perm ns->Q (.ref l) e)->Sj K vs H Q E
include T EF L9 in
theorem zly(F:aS K "_law_dealt" "_law_dealt" Qe f fd):ar P w K m b bp 3 f fd Io (Sj K):=by
 refine F.ok zlj ?_;rintro r A outer s H i Q E e⟨c,u,a,ns,y,rfl,h,d,v,t,n,q⟩;refine⟨_,(zc (zu (zj zG bB zg (zl _)) (ze (zh (aI L9 e (za ak (za aL (za zg zb)))))) zn)
  (zc (zu (zj zG bB zg (zl _)) (ze (zh (aI L9 e (za (aI EF e (za ak (za zg zb))) (za aL (za zg zb)))))) zn)
  (ze (zh (aI L9 e (za (zo yB ak aA) (za aL (za bB zb)))))))),?_⟩
 refine⟨_,rfl,rfl,_,rfl,zX (λ_=>?_) (λ_=>?_)⟩
 .exact⟨_,rfl,_,rfl,_,a,ns,_,rfl,v,t,n,q⟩
 refine⟨_,rfl,rfl,_,rfl,zX (λ_=>?_) (λ_=>?_)⟩
 .exact⟨_,rfl,_,_,rfl,_,rfl,_,a,ns,_,rfl,v,t,n,q⟩
 .exact⟨_,rfl,_,rfl,_,_,rfl,rfl,⟨by lia,by lia⟩,_,rfl,_,rfl,_,a,ns,_,rfl,v,t,n,q⟩
variable (XU:bJ P w K m b 3 "_law_dealt" Io (Sj K))
inductive Sk (K:Frag)(vs:List V)(H:Hp)(Q:VK)(E:XK):Prop|mk(x n a b:Addr)(v:List Int)(t:List Str):vs=[.ref x,.ref a,.ref b]->H x=some (.ins (yu K "Sheet") n [])->ah K H a (v.map V.int)->v.length<4000->ah K H b (t.map V.str)->t.length<4000->((∀z∈t,z.length<=1000))->((M1.rn v=false->∀C e,aX K "BadCouples" C->ae H e->E (.ref C) none e))->((M1.rn v=true->M2.xw t=false->∀C e,aX K "BadJudges" C->ae H e->E (.ref C) none e))->((M1.rn v=true->M2.xw t=true->∀e F,aq K e x F (Sh.new v t)->(∀b o,H b=some o->b≠x->e b=some o/\¬F b)->Q .bR e))->Sk K vs H Q E
include T Xy XT in
theorem zkb(F:aS K "__init__" "Sheet.__init__" Qf f fd):ar P w K m b (dM P w) 4 f fd Ip (Sk K):=by
 obtain⟨BH,jY,jZ,dY⟩:=T.dY;obtain⟨CQ,kO,kP,eZ⟩:=T.eZ;refine F.ic zj0 ?_;rintro gC gB aN g8 outer gH g0 vs g9 E hX hW fl md hr⟨x,t,g4,b,k,s,rfl,S,hA,Sl,hB,Sm,Ml,qC,qJ,g6⟩;subst hX;refine⟨_,(zc (zu (qR (mI (aI Xy hr (za aA zb)))) (ze (yh rfl md rfl jZ dY (za zm zb))) zn)
  (zc (zu (qR (mI (aI XT hr (za aL zb)))) (ze (yh rfl md rfl kP eZ (za zm zb))) zn)
  (zc (Ak ak (zy yn (by rfl) T.cP boot_list (za aA zb)) rfl)
  (zc (Ak ak (zv zb) rfl)
  (zc (Ak ak (zy yn (by rfl) T.cP boot_list (za aL zb)) rfl)
  (zc (Ak ak uN rfl)
  (zc (Ak ak zg rfl)
  (ze (Ak ak oB rfl))))))))),?_⟩
 refine⟨_,rfl,g4,k,rfl,hA,Sl,λH1 Y=>⟨_,rfl,?_⟩⟩;cases C:M1.rn k with
 | false=>exact⟨(by show 1<=sizeLine;decide),by rw[hW];exact qC C _ _ jY Y⟩
 | true =>
   refine⟨_,rfl,b,s,rfl,Y.seq hB,Sm,Ml,λH2 s2=>⟨_,rfl,?_⟩⟩;have l:=Y.trans s2;cases R:M2.xw s with
   | false=>exact⟨(by show 1<=sizeLine;decide),by rw[hW];exact qJ C R _ _ kO l⟩
   | true =>
     have Z:=l _ _ S;have k2:∀c o,g0 c=some o->c≠x->H2 c=some o:=λc o e _=>l c o e;refine⟨_,rfl,g4,_,rfl,.inl (l.seq hA),λv A=>?_⟩;have f1:=l.free A;obtain⟨G,B,j,U⟩:=Kd (o:=.lst (k.map V.int)) (u:=.ins (yu K "Sheet") t [("standing",.ref v)]) Z A;refine⟨_,rfl,x,_,t,_,rfl,(by rw[zi (zk Z A)];exact Z),T.ai,T.aV,(by decide),?_⟩;rw[pf1];generalize jq:upd (upd H2 v _) x _=H3 at G B U ⊢;refine⟨(by show 0<=sizeLine;decide),λa y=>?_⟩;obtain⟨H,N,D,p⟩:=Kd (o:=.lst []) (u:=.ins (yu K "Sheet") t [("standing",.ref v),("struck_so_far",.ref a)]) G y;refine⟨_,rfl,x,_,t,_,rfl,(by rw[zi (zk G y)];exact G),T.ai,T.cm,(by show 1<1000;decide),?_⟩;rw[pf2];generalize vG:upd (upd H3 a _) x _=J at H N p ⊢;have L:∀c o,g0 c=some o->c≠x->J c=some o:=λc o e n=>p c o (U c o (k2 c o e n) n) n;have g5:ah K J b (s.map V.str):=by
      rcases hB with(e | ⟨o,e⟩) | e
      .exact .inl (.inl (L _ _ e (yb e S (by intro z;cases z))))
      .exact .inl (.inr ⟨o,L _ _ e (yb e S (by intro z;cases z))⟩)
      .exact .inr e
     refine⟨_,rfl,b,_,rfl,.inl g5,λr h=>?_⟩;obtain⟨I,e3,X,q⟩:=Kd (o:=.lst (s.map V.str)) (u:=.ins (yu K "Sheet") t [("standing",.ref v),("struck_so_far",.ref a),("panel",.ref r)]) H h;refine⟨_,rfl,x,_,t,_,rfl,(by rw[zi (zk H h)];exact H),T.ai,T.dG,(by show 2<1000;decide),?_⟩;rw[pf3];generalize BC:upd (upd J r _) x _=H5 at I e3 q ⊢;intro d Q;obtain⟨x6,O,n4,g⟩:=Kd (o:=.dK []) (u:=.ins (yu K "Sheet") t [("standing",.ref v),("struck_so_far",.ref a),("panel",.ref r),("card_by_judge",.ref d)]) I Q;refine⟨_,rfl,x,_,t,_,rfl,(by rw[zi (zk I Q)];exact I),T.ai,T.aG,(by show 3<1000;decide),?_⟩;rw[pf4];generalize FK:upd (upd H5 d _) x _=i at x6 O g ⊢;refine⟨_,rfl,x,_,t,_,rfl,x6,T.ai,T.bw,(by show 4<1000;decide),?_⟩;rw[pf5];refine⟨_,rfl,x,_,t,_,rfl,zd,T.ai,T.dc,(by show 5<1000;decide),?_⟩;rw[pf6,xX];have keep:∀c o,i c=some o->c≠x->upd i x (.ins (yu K "Sheet") t (iJ v a r d (Sh.new k s))) c=some o:=λc o e n=>by rw[zi n];exact e
     have g1:i v=some (.lst (k.map V.int)):=g _ _ (q _ _ (p _ _ B j) j) j;have g2:i a=some (.lst []):=g _ _ (q _ _ N D) D;have g3:i r=some (.lst (s.map V.str)):=g _ _ e3 X;refine g6 C R (upd i x (.ins (yu K "Sheet") t (iJ v a r d (Sh.new k s)))) (λc=>c=x\/c=v\/c=a\/c=r\/c=d) ⟨t,v,a,r,d,[],?_⟩ λc o e n=>⟨?_,?_⟩
     .refine⟨⟨zd,keep _ _ g1 j,keep _ _ g2 D,keep _ _ g3 X,keep _ _ O n4,zero_le _,λ_ _=>rfl,(λ_ _ z=>nomatch z),.inl rfl,.inr (.inl rfl),.inr (.inr (.inl rfl)),.inr (.inr (.inr (.inl rfl))),.inr (.inr (.inr (.inr rfl))),?_,?_,?_⟩,Sh.Ok.new C R⟩
      .exact zk B y
      .exact λz=>zk (p _ _ (show H3 v=_ from B) j) h (by rw[z]at h;rw[N]at h;cases h)
      .rintro c (rfl | rfl | rfl | rfl | rfl)
       .rw[zd];exact λz=>nomatch z
       .rw[keep _ _ g1 j];exact λz=>nomatch z
       .rw[keep _ _ g2 D];exact λz=>nomatch z
       .rw[keep _ _ g3 X];exact λz=>nomatch z
       .rw[keep _ _ O n4];exact λz=>nomatch z
     .exact keep _ _ (g _ _ (q _ _ (L _ _ e n) n) n) n
     .have kx:=k2 _ _ e n;have W:=U _ _ kx n;have M:=p _ _ W n;have XX:=q _ _ M n;rintro (z | z | z | z | z)
      .exact n z
      .rw[z,A]at kx;cases kx
      .rw[z,y]at W;cases W
      .rw[z,h]at M;cases M
      .rw[z,Q]at XX;cases XX
variable (XY:o9 P w K m b 4 "Sheet" (yu K "Sheet") Ip (Sk K))
inductive Sq (K:Frag)(vs:List V)(H:Hp)(Q:VK)(E:XK):Prop|mk(a b c:Addr)(t:List Str) (e:List (List Int)) (v:List Int):vs=[.ref a,.ref b,.ref c]->ah K H a (t.map V.str)->Refs K (IL K) H b e->ah K H c (v.map V.int)->e.length=t.length->t.length<=500->v.length<=500->((∀d∈e,d=[]\/d.Perm v))->(2<=(e.filter λd => !decide (d=[])).length)->(∀(l:Addr)(n:Hp),ae H n->H l=none->n l=some (.lst ((pX t e v t.length).map V.str))->Q (.ref l) n)->Sq K vs H Q E
def zmA{cs:List (List Int)}{k:Nat}(e:k<cs.length):(cs.filter λd => !decide (d=[])).length<=((cs.take k++cs.drop (k+1)).filter λd => !decide (d=[])).length+1:=by
 conv=>lhs;rw[<-q35 k cs,drop_eq_getElem_cons e,q16,q08,q17]
 rw[q16,q08];split
 .rw[q12];lia
 .lia
include T RX in
theorem zir(F:aS K "_law_deciding" "_law_deciding" wE f fd):ar P w K m b bp 4 f fd Ls (Sq K):=by
 refine F.ok wt ?_;rintro aN g8 outer gK H vs gH E s⟨a,b,c,ts,cs,q,rfl,hA,⟨e,p,B⟩,hC,iD,hz,XZ,iV,M,g4⟩;refine⟨_,(zc (br 3 wt.nd (aI RX s (za (zN (show aj (zf wE) Qg "_law_card_here" [] [] _ from dU) rfl (zz aA) (λ_ _ _ _ _=>(yP (zj (wK (K:=K) rfl s.bE) ak (zv zb) (zl _)))) (λ_ _ _ _ _=>ak)) (za aL zb))))
  (zc (br 4 wt.nd (zv zb))
  (zc (wf PassesOwn.never rfl (ww rfl T.bt (za (yf T.az ak) zb)) (iH 5 wt.nd)
    (zc (yN (i:=6) (show aj (zf wE) Qg "_law_card_here" [] [] _ from dU) rfl wt.nd rfl (Or.inl rfl) (zz (zo yd (zF zV aA zR (zK fS)) (zF zV aA (zK (zo zS fS zg)) zR))) (λ_ _ _ _ _=>(yP (zj (wK (K:=K) rfl s.bE) ak (zv zb) (zl _)))) (λ_ _ _ _ _=>ak))
  (ze (zu (PW.pt (Ab (zj (Hg s.bE) (zx zr aA fS bF) (zv zb) (zl _)) (Aa (zj (Hg s.bE) (aI RX s (za fC (za aL zb))) bB (zl _))))) (ze (zI (yD PySem.F.plainAttrs_list PySem.F.slot_list_append PySem.F.type_list_append yj cO (za (zx zr ak fS bF) zb)))) zn))))
  (ze (zh cO))))),?_⟩
 have cF:=zq;have CJ:=B.length;have X0:∀I:List (List Int),(∀d∈I,d∈cs)->∀d∈I.filter (λd => !decide (d=[])),d.Perm q:=λI hs d O=>by
  have h:=q24.mp O;refine(iV d (hs d h.1)).resolve_left λz=>?_;have M:=h.2;rw[q19 z]at M;exact q02 M (by decide)
 refine⟨_,rfl,b,rfl,⟨_,p⟩,?_⟩;refine Fz p B (by lia) (λm d G R Q h=>?_) (λm G R h=>⟨_,rfl,h⟩) λr H1 s1 r1=>?_
 .refine⟨_,rfl,(by show 0<=sizeLine;decide),λU L=>?_⟩;have n:=ae.new (o:=.lst []) L;refine⟨m,U,_,[],rfl,rfl,n.seq Q,ah.new,zA _,rfl,_,rfl,?_⟩;rw[show gZ (d.map V.int) []=decide (d=[])from yZ _ []];exact h _ n
 intro l1 du;have s2:=ae.new (o:=.lst (r.map V.ref)) du;have t2:=s1.trans s2;refine⟨_,rfl,l1,c,_,q,rfl,⟨r,ah.new,r1.imp λ_ _=>IL.stays K _ _ _ _ s2⟩,t2.seq hC,X0 cs λ_ h=>h,by lia,q38 (q09 _ _) (by lia),XZ,λl3 H3 s3 f3 e3=>?_⟩;have D:=t2.trans s3;refine⟨(by show 0<=sizeLine;decide),λA x=>?_⟩;have g6:=D.aw (o:=.lst []) x;refine⟨_,rfl,a,_,rfl,.inl (g6.seq hA),_,rfl,by lia,by rw[q06];lia,?_⟩;rw[q06,show((ts.length:Nat):Int).toNat=ts.length by lia];refine yx (λi g0 t=>∃(Y Z:Option V),g0=[some (.ref a),some (.ref b),some (.ref c),some (.ref l3),some (.ref A),Y,Z]/\ae H3 t/\t A=some (.lst ((pX ts cs q i).map V.str))) ⟨_,_,rfl,ae.new x,zd⟩ ?_ ?_
 .rintro i g0 t hi ⟨Y,Z,rfl,s4,e4⟩;have j:=D.trans s4;rw[show(0:Int)+(i:Int)=(i:Int)by lia];refine⟨_,rfl,_,rfl,_,rfl,b,_,rfl,j.seq p,λu jU=>?_⟩;rw[JL (by lia),show((i:Int)).toNat=i by lia];have gq:=ae.new (o:=.lst ((e.map V.ref).take i)) jU;refine⟨_,rfl,_,rfl,_,_,rfl,rfl,_,rfl,b,_,rfl,(j.trans gq).seq p,λW vT=>?_⟩;rw[Fg (by lia),show((i:Int)+1).toNat=i+1 by lia];have iZ:=ae.new (o:=.lst ((e.map V.ref).drop (i+1))) vT;have kL:=iZ _ _ (zd (H:=t) (a:=u) (o:=.lst ((e.map V.ref).take i)));refine⟨u,W,_,_,rfl,rfl,kL,zd,by rw[q11,length_drop,q06];lia,λy vU=>?_⟩;rw[<-map_take,<-map_drop,<-q07]at *;have J:=(gq.trans iZ).aw (o:=.lst ((e.take i++e.drop (i+1)).map V.ref)) vU;have S:upd (upd (upd t u (.lst ((e.take i).map V.ref))) W (.lst ((e.drop (i+1)).map V.ref))) y (.lst ((e.take i++e.drop (i+1)).map V.ref)) y=some (.lst ((e.take i++e.drop (i+1)).map V.ref)):=zd;generalize IQ:upd (upd (upd t u _) W _) y _=CP at J S ⊢;have Mb:=j.trans J;have R3:All2 (IL K CP) (e.take i++e.drop (i+1)) (cs.take i++cs.drop (i+1)):=by
   have z:=B.imp λ_ _=>IL.stays K _ _ _ _ Mb;exact(z.uZ i).app (z.u6 (i+1))
  refine⟨y,rfl,⟨_,ah.of S⟩,?_⟩;refine Fz (ah.of S) R3 (by rw[q08,q11,length_drop];lia) (λm d G R Q h=>?_) (λm G R h=>⟨_,rfl,h⟩) λr FN n ID=>?_
  .refine⟨_,rfl,(by show 0<=sizeLine;decide),λU L=>?_⟩;have n:=ae.new (o:=.lst []) L;refine⟨m,U,_,[],rfl,rfl,n.seq Q,ah.new,zA _,rfl,_,rfl,?_⟩;rw[show gZ (d.map V.int) []=decide (d=[])from yZ _ []];exact h _ n
  intro C my;have vV:=ae.new (o:=.lst (r.map V.ref)) my;have BG:upd FN C (.lst (r.map V.ref)) C=some (.lst (r.map V.ref)):=zd;have EN:=ID.imp λ_ _=>IL.stays K _ _ _ _ vV;generalize IS:upd FN C _=R5 at vV BG EN ⊢;have Mc:=(J.trans n).trans vV;obtain⟨m,em,X⟩:=B.at (i:=i) (by lia) [];have X:ah K H m ((cs.getD i []).map V.int):=X;have X1:=j.trans Mc;refine⟨_,rfl,_,rfl,b,_,_,_,rfl,rfl,X1.seq p,zO (A7 em),(by show 0<=sizeLine;decide),λX2 Sr=>?_⟩;have l:=ae.new (o:=.lst []) Sr;refine⟨m,X2,_,[],rfl,rfl,(X1.trans l).seq X,ah.new,zA _,rfl,_,rfl,?_⟩;rw[show gZ ((cs.getD i []).map V.int) []=decide (cs.getD i []=[])from yZ _ []];generalize g9:upd R5 X2 _=gB at l ⊢;have g:=Mc.trans l;refine yl (λbz=>?_) (λhe=>?_)
  .have hf:=zmA (cs:=cs) (k:=i) (by lia);have o7:∀d∈cs.take i++cs.drop (i+1),d∈cs:=λd O=>by
    rcases List.mem_append.mp O with h | h
    .exact List.mem_of_mem_take h
    .exact List.mem_of_mem_drop h
   have g2:=q09 (λd:List Int => !decide (d=[])) (cs.take i++cs.drop (i+1));rw[q08,q11,length_drop]at g2;refine⟨_,rfl,_,rfl,C,c,_,q,rfl,⟨r,ah.of (l _ _ BG),EN.imp λ_ _=>IL.stays K _ _ _ _ l⟩,(j.trans g).seq hC,X0 _ o7,by lia,by lia,XZ,λg3 gC g5 gI g1=>?_⟩;have v:=g.trans g5;refine⟨_,rfl,g3,l3,_,_,rfl,rfl,ah.of g1,ah.of ((s4.trans v) _ _ e3),zA _,zA _,_,rfl,?_⟩;rw[yZ];refine yl (λN=>?_) (λN=>?_)
   .have ats:fN (ts.map V.str) (i:Int)=some (.str (ts.getD i "")):=by
     have:=Ha (ts:=ts) (i:=(i:Int)) (by lia) (by lia);rw[show((i:Int)).toNat=i by lia]at this;exact this
    refine⟨_,rfl,.inl ⟨rfl,_,ah.of (v _ _ e4)⟩,_,rfl,_,rfl,a,_,_,_,rfl,rfl,(j.trans v).seq hA,ats,A,_,_,rfl,rfl,v _ _ e4,?_,_,_,rfl,(s4.trans v).put x,?_⟩
    .have:=vc ts cs q i;rw[q06]
     lia
    .rw[zd,OZ,q01 (by unfold Cz;rw[q20 bz,q20 N];rfl),q07];rfl
   .refine⟨_,_,rfl,s4.trans v,?_⟩;rw[OZ,q00 (by unfold Cz;rw[q19 N];simp),append_nil];exact v _ _ e4
  .refine⟨_,_,rfl,s4.trans g,?_⟩;rw[OZ,q00 (by unfold Cz;rw[q19 he];simp),append_nil];exact g _ _ e4
 .rintro g0 t ⟨Y,Z,rfl,s4,e4⟩;exact⟨_,rfl,g4 A t (D.trans s4) (D.free x) e4⟩
variable (X3:bJ P w K m b 4 "_law_deciding" Ls (Sq K))
inductive Ss (K:Frag)(vs:List V)(H:Hp)(Q:VK)(E:XK):Prop|mk(a b:Addr)(ms e:List Int):vs=[.ref a,.ref b]->ah K H a (ms.map V.int)->ah K H b (e.map V.int)->ms.length=e.length->1<=ms.length->ms.length<=60->((∀x∈ms,1<=x/\x<=24))->((∀x∈e,1<=x/\x<=24))->(∀t,ae H t->Q (.bl (M6.yp ms e 24)) t)->Ss K vs H Q E
include T qH CN rK Mi in
theorem zl5(F:aS K "is_ahead" "is_ahead" Qh f fd):ar P w K m b bp 4 f fd Lu (Ss K):=by
 refine F.ok WG ?_;rintro aN g0 outer g3 g1 vs Q E t⟨a,b,ms,v,rfl,h,s,R,G,H,y,A,q⟩;refine⟨_,(zc (zu (zj jb (aI rK t (za ak zb)) (aI rK t (za aA zb)) (zl _)) (ze (zh (sD E6 (aI rK t (za ak zb)) (aI rK t (za aA zb)) (zl _)))) zn)
  (zc (br 2 WG.nd (aI Mi t (za ak (za aA zb))))
  (zc (zu (zj sy aL E4 (zl _)) (ze (zh oB)) zn)
  (zc (zu (zj jb (aI qH t (za ak (za aL zb))) (aI qH t (za aA (za aL zb))) (zl _)) (ze (zh (sD BZ (aI qH t (za ak (za aL zb))) (aI qH t (za aA (za aL zb))) (zl _)))) zn)
  (ze (zh (sD E6 (aI CN t (za ak (za aL zb))) (aI CN t (za aA (za aL zb))) (zl _)))))))),?_⟩
 have N:ms≠[]:=by intro z;rw[z]at G;simp at G
 have S:v≠[]:=by intro z;rw[z]at R;have:ms.length=0:=R;lia
 refine⟨_,rfl,a,ms,rfl,h,N,H,y,λH1 f V k=>?_⟩;refine⟨_,rfl,b,v,rfl,V.seq s,S,by lia,A,λH2 g s2 l=>?_⟩;have D:=M3.HG k 1 24 y;have O:=M3.HG l 1 24 A;have p:=V.trans s2;refine⟨rfl,_,rfl,yl (λd=>?_) (λd=>?_)⟩
 .refine⟨_,rfl,a,ms,rfl,p.seq h,N,H,y,λW u I L=>?_⟩;have n:=p.trans I;refine⟨_,rfl,b,v,rfl,n.seq s,S,by lia,A,λM x B C=>?_⟩;have Z:=M3.HF L k;have T:=M3.HF C l;subst Z T;refine⟨_,_,rfl,rfl,?_⟩;have d:u≠x:=λz=>d (by rw[z]);have e:decide (u<x)=M6.yp ms v 24:=by
   by_cases c:u<x
   .rw[q19 c,M6.uV L C c D.1 D.2]
   .rw[q20 c,M6.uW L C (by lia) O.1 O.2]
  show Q (.bl (decide (u<x))) M;rw[e];exact q _ (n.trans B)
 .injection d with d
  subst d;refine⟨_,rfl,_,rfl,a,b,ms,v,f,rfl,p.seq h,p.seq s,G,H,by lia,y,A,k,l,λr W I U=>?_⟩;have n:=p.trans I;cases r with
  | none =>
    refine⟨_,rfl,rfl,_,rfl,zX (λ_=>?_) (λz=>q02 rfl z)⟩;rw[M6.lR (M6.VC k l U)]at q;exact q _ n
  | some g2 =>
    refine⟨_,rfl,rfl,_,rfl,zX (λz=>nomatch z) (λ_=>?_)⟩;rw[M6.uX k l D.1 U]at q;refine⟨_,rfl,_,rfl,a,ms,_,rfl,n.seq h,by lia,λM B=>?_⟩;refine⟨_,rfl,_,rfl,b,v,_,rfl,(n.trans B).seq s,by lia,λH5 s5=>?_⟩;have i:=(n.trans B).trans s5;refine⟨rfl,_,rfl,yl (λj=>?_) (λj=>?_)⟩
    .rw[q00 λz=>j (by rw[z])]at q;refine⟨_,rfl,_,rfl,a,ms,_,rfl,i.seq h,by lia,λX o=>?_⟩;refine⟨_,rfl,_,rfl,b,v,_,rfl,(i.trans o).seq s,by lia,λY J=>?_⟩;exact⟨_,_,rfl,rfl,q _ ((i.trans o).trans J)⟩
    .injection j with j
     rw[q01 j]at q;refine⟨_,rfl,_,rfl,a,ms,_,rfl,i.seq h,by lia,λX o=>?_⟩;refine⟨_,rfl,_,rfl,b,v,_,rfl,(i.trans o).seq s,by lia,λY J=>?_⟩;exact⟨_,_,rfl,rfl,q _ ((i.trans o).trans J)⟩
variable (X4:bJ P w K m b 4 "is_ahead" Lu (Ss K))
inductive Su (K:Frag)(vs:List V)(H:Hp)(Q:VK)(E:XK):Prop|mk(a b:Addr)(ms e:List Int):vs=[.ref a,.ref b]->ah K H a (ms.map V.int)->ah K H b (e.map V.int)->ms.length=e.length->1<=ms.length->ms.length<=60->((∀x∈ms,1<=x/\x<=24))->((∀x∈e,1<=x/\x<=24))->(∀r,M6.wa ms e 24 r->∀(x:V)(t:Hp),ae H t->Told K t x r->Q x t)->Su K vs H Q E
include T qH rK Mi in
theorem zj7(F:aS K "parting_of" "parting_of" Qi f fd):ar P w K m b bp 4 f fd Lv (Su K):=by
 refine F.ok WH ?_;rintro aN g0 outer g3 g1 vs g2 E h⟨a,b,ms,x,rfl,y,A,R,I,J,B,D,q⟩;refine⟨_,(zc (zu (zj jb (aI rK h (za ak zb)) (aI rK h (za aA zb)) (zl _)) (ze (zh (oO (za (zJ (oI rfl) (by rfl) T.Ic boot_min (za (aI rK h (za ak zb)) (za (aI rK h (za aA zb)) zb))) (za zm zb))))) zn)
  (zc (br 2 WH.nd (aI Mi h (za ak (za aA zb))))
  (zc (zu (zj sy aL E4 (zl _)) (ze (zh E4)) zn)
  (zc (zu (zj jb (aI qH h (za ak (za aL zb))) (aI qH h (za aA (za aL zb))) (zl _)) (ze (zh (oO (za aL (za zm zb))))) zn)
  (ze (zh (oO (za aL (za zm zb))))))))),?_⟩
 have O:ms≠[]:=by intro z;rw[z]at I;simp at I
 have S:x≠[]:=by intro z;rw[z]at R;have:ms.length=0:=R;lia
 refine⟨_,rfl,a,ms,rfl,y,O,J,B,λH1 f U l=>?_⟩;refine⟨_,rfl,b,x,rfl,U.seq A,S,by lia,D,λH2 g s2 o=>?_⟩;have H:=M3.HG l 1 24 B;have Q:=M3.HG o 1 24 D;have u:=U.trans s2;refine⟨rfl,_,rfl,yl (λd=>?_) (λd=>?_)⟩
 .refine⟨_,rfl,a,ms,rfl,u.seq y,O,J,B,λW i M N=>?_⟩;have v:=u.trans M;refine⟨_,rfl,b,x,rfl,v.seq A,S,by lia,D,λX j p G=>?_⟩;have Y:=M3.HF N l;have Z:=M3.HF G o;subst Y Z;refine⟨_,_,rfl,(by show 2<=sizeLine;decide),λt s=>?_⟩;have d:i≠j:=λz=>d (by rw[z]);by_cases c:j<i
  .rw[q01 c];refine q (some (j.toNat,"half")) (M6.nQ N G c Q.1 Q.2) _ _ ((v.trans p).aw s) ⟨t,rfl,?_⟩;have e:((j.toNat:Nat):Int)=j:=by lia
   dsimp only;rw[e];exact cE.new
  .rw[q00 c];refine q (some (i.toNat,"half")) (M6.OX N G (by lia) H.1 H.2) _ _ ((v.trans p).aw s) ⟨t,rfl,?_⟩;have e:((i.toNat:Nat):Int)=i:=by lia
   dsimp only;rw[e];exact cE.new
 .injection d with d
  subst d;refine⟨_,rfl,_,rfl,a,b,ms,x,f,rfl,u.seq y,u.seq A,I,J,by lia,B,D,l,o,λr W M L=>?_⟩;have v:=u.trans M;cases r with
  | none =>
    refine⟨_,rfl,rfl,_,rfl,zX (λ_=>?_) (λz=>q02 rfl z)⟩;exact q none (M6.VC l o L) _ _ v rfl
  | some n =>
    refine⟨_,rfl,rfl,_,rfl,zX (λz=>nomatch z) (λ_=>?_)⟩;have C:=M6.VD l o H.1 L;have e:((n.toNat:Nat):Int)=n:=by have:=L.1;lia
    refine⟨_,rfl,_,rfl,a,ms,_,rfl,v.seq y,by lia,λX p=>?_⟩;refine⟨_,rfl,_,rfl,b,x,_,rfl,(v.trans p).seq A,by lia,λH5 s5=>?_⟩;have V:=(v.trans p).trans s5;refine⟨rfl,_,rfl,yl (λk=>?_) (λk=>?_)⟩
    .rw[q00 λz=>k (by rw[z])]at C;refine⟨_,rfl,(by show 2<=sizeLine;decide),λt s=>?_⟩;refine q _ C _ _ (V.aw s) ⟨t,rfl,?_⟩;dsimp only;rw[e];exact cE.new
    .injection k with k
     rw[q01 k]at C;refine⟨_,rfl,(by show 2<=sizeLine;decide),λt s=>?_⟩;refine q _ C _ _ (V.aw s) ⟨t,rfl,?_⟩;dsimp only;rw[e];exact cE.new
variable (X5:bJ P w K m b 4 "parting_of" Lv (Su K))
inductive Sv (K:Frag)(vs:List V)(H:Hp)(Q:VK)(E:XK):Prop|mk(f:Str)(a:Addr)(t:List Str):vs=[.str f,.ref a]->ah K H a (t.map V.str)->((∀w∈t,w≠("":Str)/\w.length<=1000))->t.length<=1000->((M57.xF f t=none->∀C e,aX K "BadRow" C->ae H e->E (.ref C) none e))->(∀ns,M57.xF f t=some ns->∀(l:Addr)(e:Hp),ae H e->H l=none->e l=some (.lst (ns.map V.int))->Q (.ref l) e)->Sv K vs H Q E
include T Xb XS in
theorem zh4(F:aS K "read_couples" "read_couples" wO f fd):ar P w K m b (dM P w) 4 f fd yK (Sv K):=by
 obtain⟨iU,I,L,J⟩:=T.bj;refine F.ic zim λg1 g0 G A outer s H vs Q E S R fl X u h=>?_;have M:=A2 (P:=P) (w:=w) (K:=K) (mg:=m) (base:=b) (N:=["first","words"]) (qual:= "read_couples") (scope:=zf wO) (f:=f) (cd:=G) (A:=A) (outer:=outer) (s0:=s) (H0:=H) (E:=E);obtain⟨f,a,t,rfl,j,W,hz,r,q⟩:=h;subst S;refine⟨_,(zc (q9 (zu (PW.pt (Ab (zj jb ak zm (zl _)) (Aa (zj jb (yf T.az aA) (aI Xb u (za ak zb)) (zl _))))) (ze (yh rfl X rfl L J (za zm zb))) zn))
  (ze (zh (uK (show aj (zf wO) yK "word" [] [] _ from dU) rfl M rfl rfl (λ_ _ _ z=>z) (zz aA) (λ_ _ _ _ _=>(yc XS flX (hM u) rfl (za ak zb))))))),?_⟩
 have cF:=zq;unfold M57.xF at r q;refine⟨λy B=>y=[some (.str f),some (.ref a)]/\B=H/\¬(decide (f=("card":Str))=false/\(t.length:Int)≠M20.jO f),?_,?_⟩
 .refine⟨_,rfl,rfl,_,rfl,?_⟩;have U:decide (V.str f=V.str "card")=decide (f=("card":Str)):=decide_eq_decide.mpr ⟨λz=>by injection z,λz=>by rw[z]⟩;rw[U];refine yl (λe=>?_) (λe=>⟨rfl,rfl,λz=>by rw[q19 e]at z;exact Bool.noConfusion z.1⟩);refine⟨_,rfl,a,_,rfl,.inl j,_,rfl,f,rfl,rfl,_,rfl,?_⟩;rw[q06];refine yl (λn=>?_) (λn=>⟨rfl,rfl,λz=>z.2 (V.int.inj n)⟩);have n:(t.length:Int)≠M20.jO f:=λz=>n (by rw[z]);rw[q01 ⟨q20 e,n⟩]at r;exact⟨(by show 1<=sizeLine;decide),by rw[R];exact r rfl _ _ I (ae.refl _)⟩
 rintro y D ⟨rfl,rfl,o⟩;rw[q00 o]at r;rw[q00 o]at q;refine⟨_,rfl,a,rfl,⟨_,j⟩,?_⟩;refine zY (xs:=t.map V.str) (λi d c=>ae D c/\d=((t.take i).map M57.num).map V.int/\(t.take i).all M57.cw=true) ⟨ae.refl _,rfl,rfl⟩ ?_ (by rw[q06];lia) ?_ ?_
 .rintro i d c hi ⟨s2,rfl,_⟩;refine⟨s2.seq j,?_⟩;rw[q06,q06,q11]
  lia
 .rintro i x d c hx ⟨s2,rfl,kn⟩;rw[q26]at hx;cases v:t[i]? with
  | none=>rw[v]at hx;cases hx
  | some w =>
    rw[v]at hx;cases hx;have g:=mem_of_getElem? v;obtain⟨Y,Z⟩:=W w g;refine⟨_,rfl,w,rfl,Y,Z,λe C p O k=>?_,λe p k=>⟨s2.trans k,?_,?_⟩⟩
    .refine r ?_ C p O (s2.trans k);rw[q00];intro z;rw[q39]at z;rw[z w g]at e;cases e
    .rw[take_succ,v,q07,q07];rfl
    .rw[take_succ,v,List.all_append,kn];show(true && (M57.cw w && true))=true;rw[e];rfl
 .rintro d c ⟨s2,rfl,kn⟩ l hl;rw[q06,q15]at kn ⊢;exact q _ (by rw[q01 kn]) l _ (s2.aw hl) (s2.free hl) zd
variable (Sw:dq P w K m b 4 "read_couples" yK (Sv K))
inductive Sx (K:Frag)(vs:List V)(H:Hp)(Q:VK)(E:XK):Prop|mk(x:Addr)(F:Addr->Prop)(S:Sh)(p c:Int):vs=[.ref x,.int p,.int c]->aq K H x F S->c∈S.aa->p.natAbs<=990->(∀e,ae H e->Q (.str (M6.Bh p c (M5.zp S.ao c) S.aa.length)) e)->Sx K vs H Q E
include T il EI xQ XO in
theorem znd(F:aS K "row_text" "row_text" Iq f fd):ar P w K m b bp 4 f fd Lw (Sx K):=by
 refine F.ok Ir ?_;rintro aN g4 outer gB g5 vs g6 E u⟨x,F,S,p,c,rfl,g,O,hp,g1⟩;refine⟨_,(zc (br 3 Ir.nd (aI EI u (za (zL xQ T.ai (hM u) ak) (za aL zb))))
  (zc (br 4 Ir.nd (aI XO u (za bB (za (yf T.az (zL il T.ai (hM u) ak)) zb))))
  (zc (br 5 Ir.nd (zv (za (zy wq (by rfl) T.cb boot_str (za aA zb)) (za (zy wq (by rfl) T.cb boot_str (za aL zb)) zb))))
  (zc (Vb (i:=6) (show aZ (zf Iq) Qj "many" "total" [] [] _ from uI) rfl Ir.nd rfl (Or.inl rfl) (zz cO) (λ_ _ _ _ _=>yA) (λ_ _ _ _ _=>(JO (yS (AE ak) (yS zm (yS (AE aA) JN))))))
  (ze (zh (yD PySem.F.plainAttrs_str PySem.F.slot_str_join PySem.F.type_str_join Hu zm (za (zo yd (zo yd (zo yd (zo yd fS (zv (za zm zb))) (zN (show aj (zf Iq) Qj "mark" [] [] _ from dU) rfl (zz bB) (λ_ _ _ _ _=>yA) (λ_ _ _ _ _=>(zy wq (by rfl) T.cb boot_str (za ak zb))))) (zv (za zm zb))) fC) zb)))))))),?_⟩
 have cF:=zq;have ok:=g.ok;have gR:S.handed.length<=15:=q38 (q09 _ _) ok.fD;have g8:=Sh.aT S;have dC:=Sh.aQ ok;have dO:=ok.dO;have Sy:=ok.cY c O;obtain⟨dx,b1,b2,b3,g0,hi⟩:=g.ins;refine⟨_,rfl,x,dx,_,rfl,hi,rfl,x,F,S,rfl,g,λl1 H1 ks s1 f1 e1 r1=>?_⟩;refine⟨_,rfl,l1,S.ao,c,rfl,⟨ks,ah.of e1,r1.imp λ_ _ g3=>ah.of g3.2⟩,by lia,λg0 hd=>(dC g0 hd).mem_iff.mpr O,λU H2 s2 f2 H=>?_⟩;have d:∀y∈M5.zp S.ao c,1<=y/\y<=24:=λy Q=>by have:=M6.yE dC O y Q;lia
 have RA:=M5.zU S.ao c;generalize M5.zp S.ao c=ms at H RA d g1;have Z:=s1.trans s2;refine⟨_,rfl,_,rfl,x,dx,_,rfl,Z _ _ hi,rfl,x,F,S,rfl,g.same Z,λl3 H3 X f3 e3=>?_⟩;refine⟨l3,_,rfl,.inl (ah.of e3),?_⟩;rw[q06];refine⟨U,ms,_,rfl,ah.of (X _ _ H),by lia,by lia,by lia,λl4 a ls s4 f4 e4 r4=>?_⟩;rw[show((S.aa.length:Nat):Int).toNat=S.aa.length by lia]at r4;have t4:=(Z.trans X).trans s4;refine⟨_,rfl,.inl ⟨_,rfl,yI (by lia),_,rfl,.inl ⟨_,rfl,yI (by lia),(by show 2<=sizeLine;decide),λt gy=>?_⟩⟩⟩;have j:=ae.new (o:=.lst ([tN p,tN c].map V.str)) gy;have I:upd a t (.lst ([tN p,tN c].map V.str)) t=some (.lst ([tN p,tN c].map V.str)):=zd;change ae a (upd a t (.lst [.str (Str.ofString (toString p)),.str (Str.ofString (toString c))]))at j;change upd a t (.lst [.str (Str.ofString (toString p)),.str (Str.ofString (toString c))]) t=_ at I;generalize BC:upd a t _=H5 at j I ⊢;have X6:=j _ _ e4;have g2:=r4.imp λ_ _=>iI.stays K _ _ _ _ j;refine⟨_,rfl,l4,rfl,⟨_,ah.of X6⟩,?_⟩;refine O4 (f:=M6.HP) (ah.of X6) g2 (by rw[M6.Kg];lia) (λpr D R vK s' h=>?_) λs s6=>?_
 .obtain⟨k,hk,rfl⟩:=q25.mp vK;have QJ:=M3.A6 ms ((k:Int)+1);have EJ:=M6.O1 d ((k:Int)+1);have rG:=M6.O2 (by lia) d ((k:Int)+1);dsimp only at h ⊢;refine⟨_,rfl,.inl ⟨_,rfl,yI (by lia),_,rfl,?_,_,rfl,?_,_,rfl,.inl ⟨_,rfl,yI (by lia),_,rfl,?_,?_,?_⟩⟩⟩
  all_goals unfold tN at rG
  all_goals have l0:Str.empty.length=0:=rfl
  all_goals have l1:("/":Str).length=1:=M6.Kj
  .rw[zw];lia
  .rw[zw,zw];lia
  .rw[zw,zw,zw];lia
  .rw[zw,zw,zw];lia
  .rw[M6.O3];exact h D (ae.refl _)
 intro v oh;have C:=(j.trans s6).aw (o:=.lst ((M6.kF ms S.aa.length).map V.str)) oh;have J:upd s v (.lst ((M6.kF ms S.aa.length).map V.str)) v=some (.lst ((M6.kF ms S.aa.length).map V.str)):=zd;have G:=(s6.aw (o:=.lst ((M6.kF ms S.aa.length).map V.str)) oh) _ _ I;change ae a (upd s v (.lst (((M6.rz ms S.aa.length).map M6.HP).map V.str)))at C;change upd s v (.lst (((M6.rz ms S.aa.length).map M6.HP).map V.str)) v=_ at J;change upd s v (.lst (((M6.rz ms S.aa.length).map M6.HP).map V.str)) t=_ at G;generalize IU:upd s v _=e at C J G ⊢;have m7:e U=some (.lst (ms.map V.int)):=C _ _ (s4 _ _ (X _ _ H));refine⟨rfl,_,rfl,(by show 1<=sizeLine;decide),λr rH=>?_⟩;have Y:=ae.new (o:=.lst [.str M6.bar]) rH;change ae e (upd e r (.lst [.str "|"]))at Y;refine⟨t,r,_,[.str M6.bar],rfl,rfl,Y _ _ G,zd,(by show 3<=sizeLine;decide),λn IC=>?_⟩;have l:=Y.aw (o:=.lst (([tN p,tN c]++[M6.bar]).map V.str)) IC;have L:upd (upd e r (.lst [.str "|"])) n (.lst (([tN p,tN c]++[M6.bar]).map V.str)) n=some (.lst (([tN p,tN c]++[M6.bar]).map V.str)):=zd;change ae e (upd (upd e r (.lst [.str "|"])) n (.lst ([tN p,tN c].map V.str++[.str M6.bar])))at l;change upd (upd e r (.lst [.str "|"])) n (.lst ([tN p,tN c].map V.str++[.str M6.bar])) n=_ at L;generalize xS:upd (upd e r _) n _=H9 at l L ⊢;have m9:=l _ _ m7;refine⟨_,rfl,U,rfl,⟨_,ah.of m9⟩,?_⟩;refine VM (f:=tN) (ah.of m9) (by lia) (λy D R Q s' h=>⟨_,rfl,.inl ⟨_,rfl,yI (by have:=d y Q;lia),h D (ae.refl _)⟩⟩) λvI gq=>?_;intro W jr;have iZ:=gq.aw (o:=.lst ((ms.map tN).map V.str)) jr;refine⟨n,W,_,_,rfl,rfl,iZ _ _ L,zd,by rw[q06,q06,q06];simp only[q08,q12,length_nil];lia,λz jU=>?_⟩;rw[<-q07];have N:=iZ.aw (o:=.lst (([tN p,tN c]++[M6.bar]++ms.map tN).map V.str)) jU;have kM:upd (upd vI W (.lst ((ms.map tN).map V.str))) z (.lst (([tN p,tN c]++[M6.bar]++ms.map tN).map V.str)) z=some (.lst (([tN p,tN c]++[M6.bar]++ms.map tN).map V.str)):=zd;generalize IQ:upd (upd vI W _) z _=q at N kM ⊢;refine⟨(by show 1<=sizeLine;decide),λB vT=>?_⟩;have M:=ae.new (o:=.lst [.str M6.bar]) vT;change ae q (upd q B (.lst [.str "|"]))at M;refine⟨z,B,_,[.str M6.bar],rfl,rfl,M _ _ kM,zd,by rw[q06];simp only[q08,q06,q12,length_nil];lia,λA vU=>?_⟩;rw[show([tN p,tN c]++[M6.bar]++ms.map tN).map V.str++[V.str M6.bar]=([tN p,tN c]++[M6.bar]++ms.map tN++[M6.bar]).map V.str by rw[q07 (l₂:=[M6.bar])];rfl];have vV:=M.aw (o:=.lst (([tN p,tN c]++[M6.bar]++ms.map tN++[M6.bar]).map V.str)) vU;have BG:upd (upd q B (.lst [.str "|"])) A (.lst (([tN p,tN c]++[M6.bar]++ms.map tN++[M6.bar]).map V.str)) A=some (.lst (([tN p,tN c]++[M6.bar]++ms.map tN++[M6.bar]).map V.str)):=zd;generalize IS:upd (upd q B _) A _=R5 at vV BG ⊢;have g9:=M6.VJ ms S.aa.length;refine⟨_,rfl,A,v,_,_,rfl,rfl,BG,vV _ _ (N _ _ (l _ _ J)),by simp only[q08,q06,q12,length_nil];lia,λqu gJ=>?_⟩;rw[<-q07];refine⟨_,qu,M6.lX p c ms S.aa.length,rfl,rfl,ah.new,by decide +kernel,?_,M6.VL (by lia) d hp (by lia) _,?_⟩
 .unfold M6.lX;simp only[q08,q06,q12,length_nil]
  lia
 .exact g1 _ ((((((t4.trans C).trans l).trans N).trans vV)).aw gJ)
variable (X7:bJ P w K m b 4 "row_text" Lw (Sx K))
inductive SA (K:Frag)(vs:List V)(H:Hp)(Q:VK)(E:XK):Prop|mk(a b c:Addr)(e:List Str) (t:List (List Int)) (v:List Int):vs=[.ref a,.ref b,.ref c]->ah K H a (e.map V.str)->Refs K (IL K) H b t->ah K H c (v.map V.int)->t.length=e.length->e.length<=15->v.length<=24->((∀d∈t,d=[]\/d.Perm v))->(2<=(t.filter λd => !decide (d=[])).length)->((∀z∈pX e t v e.length,z.length<=8))->(pX e t v e.length).length<=15->(∀n,ae H n->Q (.str (M6.CG (pX e t v e.length))) n)->SA K vs H Q E
def vW(ws:List Str):gZ (ws.map V.str) []=decide (ws=[]):=by
 cases ws with
 | nil=>rfl
 | cons _ _=>rfl
include T og X3 in
theorem zgl(F:aS K "_law_decide_text" "_law_decide_text" Qk f fd):ar P w K m b bp 5 f fd we (SA K):=by
 refine F.ok WI ?_;rintro L A outer s H U Q E t⟨a,b,c,v,n,i,rfl,x,y,z,k,O,R,p,g,u,S,q⟩;refine⟨_,(zc (br 3 WI.nd (aI X3 t (za ak (za aA (za aL zb)))))
  (zc (zu (zj (Fi t.bE) bB (zv zb) (zl _)) (ze (zh zm)) zn)
  (ze (zh (aI og t (za bB zb)))))),?_⟩
 have M:=zq;refine⟨_,rfl,_,rfl,_,rfl,a,b,c,v,n,i,rfl,x,y,z,k,by lia,by lia,p,g,λl I D N j=>?_⟩;refine⟨_,rfl,(by decide),λC h=>?_⟩;have d:=D.aw (o:=.lst []) h;have r:=(ae.new (o:=.lst []) h) _ _ j;refine⟨l,C,_,_,rfl,rfl,ah.of r,ah.new,M20.HS _,rfl,_,rfl,?_⟩;rw[vW];refine zX (λe=>?_) (λe=>?_)
 .have:=q _ d;unfold M6.CG at this;rw[q01 e]at this;exact this
 .refine⟨_,rfl,l,_,pX v n i v.length,rfl,ah.of r,FA _,by lia,λw B=>by have:=u w B;lia,λJ G=>?_⟩;have:=q _ (d.trans G);unfold M6.CG at this;rw[q00 e]at this;exact this
variable (X8:bJ P w K m b 5 "_law_decide_text" we (SA K))
inductive SD (K:Frag)(vs:List V)(H:Hp)(Q:VK)(E:XK):Prop|mk(a b:Addr) (rs:List (List Int)) (ms:List Int):vs=[.ref a,.ref b]->Refs K (IL K) H a rs->ah K H b (ms.map V.int)->((∀r∈rs,r.length=ms.length/\∀x∈r,1<=x/\x<=24))->((∀x∈ms,1<=x/\x<=24))->1<=ms.length->ms.length<=60->rs.length<=1000->(∀e,ae H e->Q (.int (1+((rs.filter λr=>M6.yp r ms 24).length:Int))) e)->SD K vs H Q E
include T X4 in
theorem ziS(F:aS K "place_among" "place_among" Lx f fd):ar P w K m b bp 5 f fd yV (SD K):=by
 refine F.ok zix ?_;rintro G A outer s H M Q E y⟨a,b,rs,ms,rfl,⟨B,c,h⟩,p,z,u,I,J,L,q⟩;refine⟨_,(ze (zh (zo zS zg (yf T.az (zN (show aj (zf Lx) yV "marks" ["own"] [1] _ from dU) rfl (zz ak) (λ_ _ _ _ _=>(yP (mI (aI X4 y (za ak (za aA zb)))))) (λ_ _ _ _ _=>ak)))))),?_⟩;have g:=h.length;refine⟨_,rfl,a,rfl,⟨_,c⟩,?_⟩;refine yL (xs:=B.map V.ref) (λi t e=>ae H e/\t.length=((rs.take i).filter λr=>M6.yp r ms 24).length) ⟨ae.refl _,rfl⟩ ?_ (by rw[q06];have:=zq;lia) ?_ ?_
 .rintro i t e hi ⟨s2,e2⟩;refine⟨s2.seq c,?_⟩;rw[e2];have:=q09 (λr=>M6.yp r ms 24) (rs.take i);rw[q11]at this
  lia
 .rintro i x t e hx ⟨s2,e2⟩;obtain⟨l,o,rfl⟩:=wN hx;obtain⟨d,v,C⟩:=h.getL o;have j:=z d (mem_of_getElem? v);refine⟨_,rfl,_,rfl,l,b,d,ms,rfl,s2.seq C,s2.seq p,j.1,by lia,by lia,j.2,u,λD k=>⟨_,rfl,Az (λn=>?_) (λn=>?_)⟩⟩
  .refine⟨_,rfl,s2.trans k,?_⟩;rw[take_succ,v,q16,q08,q08,e2];show _=_+(filter (λr=>M6.yp r ms 24) [d]).length;rw[q17,q01 n];rfl
  .refine⟨s2.trans k,?_⟩;rw[take_succ,v,q16,q08,e2];show _=_+(filter (λr=>M6.yp r ms 24) [d]).length;rw[q17,q00 (by rw[n];exact q23)];rfl
 .rintro t e ⟨s2,e2⟩ l hl;rw[q06,g,q15]at e2;refine⟨l,_,rfl,.inl ah.new,_,_,rfl,rfl,?_⟩;rw[e2];exact q _ (s2.aw hl)
variable (X9:bJ P w K m b 5 "place_among" yV (SD K))
inductive SE (K:Frag)(vs:List V)(H:Hp)(Q:VK)(E:XK):Prop|mk(z:Str):vs=[.str z]->z.length<=900->((M57.Bm z=none->∀C e,aX K "BadRow" C->ae H e->E (.ref C) none e))->(∀f j ns,M57.Bm z=some (f,j,ns)->∀(t l:Addr)(e:Hp),ae H e->H t=none->H l=none->e t=some (.tup [.str f,.str j,.ref l])->e l=some (.lst (ns.map V.int))->Q (.ref t) e)->SE K vs H Q E
include T Sw in
theorem zmI(F:aS K "read_row" "read_row" Ql f fd):ar P w K m b (dM P w) 5 f fd ["row"] (SE K):=by
 obtain⟨iU,x,A,y⟩:=T.bj;refine F.ic Qm ?_;rintro g6 g5 aN g3 outer g8 g2 vs g4 E hX l Y M hr⟨z,rfl,hz,t,q⟩;subst hX;refine⟨_,(zc (br 1 Qm.nd (yD PySem.F.plainAttrs_str PySem.F.slot_str_split PySem.F.type_str_split ue ak (za zm zb)))
  (zc (zu (zj GN zm aA (by first | exact zl _ | rfl)) (ze (yh rfl M rfl A y (za zm zb))) zn)
  (zc (br 2 Qm.nd (zx zr aA zg bF))
  (zc (zu (zj yC aL (zo mP (zo mP (Hi T.jR rfl) (Hi T.fV rfl)) (Hi T.eY rfl)) (by first | exact zl _ | rfl)) (ze (yh rfl M rfl A y (za zm zb))) zn)
  (zc (zu (zj yC aL (Hi T.fV rfl) (by first | exact zl _ | rfl)) (ze (zh (oO (za aL (za zm (za (yc Sw Y (hM hr) rfl (za aL (za (zF zV aA (zK zg) zR) zb))) zb)))))) zn)
  (zc (zu (zj zG (yf T.az aA) zg (zl _)) (ze (yh rfl M rfl A y (za zm zb))) zn)
  (ze (zh (oO (za aL (za (zx zr aA zg bF) (za (yc Sw Y (hM hr) rfl (za aL (za (zF zV aA (zK zg) zR) zb))) zb)))))))))))),?_⟩
 have cF:=zq;have rG:=M57.split_len z;refine⟨_,rfl,rfl,_,_,rfl,rfl,by decide +kernel,by lia,by rw[M20.Kl];lia,λs X=>?_⟩;rw[M20.Kl];unfold M57.Bm at t q;have g:∀w∈Txt.split z M20.zE,w.length<=900:=λw v=>q38 (M57.znq v) hz;have W:Txt.split z M20.zE≠[]:=λe=>by
  have j:=StrLaws.join_split z M20.zE;rw[e]at j;rw[<-j]at e;exact q02 e (by decide +kernel)
 generalize Txt.split z M20.zE=i at rG g W t q X ⊢;generalize kW:upd g2 s _=H1;have s1:=ae.gen X kW;have B:=rq kW;unfold M57.vn at t q;refine⟨_,rfl,s,_,rfl,.inl (ah.of B),rfl,M20.HS _,_,rfl,?_⟩;cases S:mR (V.str "") (i.map V.str)with
 | true =>
   have p:M20.cG ("":Str) i=true:=S;rw[q01 p]at t;refine qX ?_;exact⟨(by show 1<=sizeLine;decide),by rw[l];exact t rfl _ _ x s1⟩
 | false =>
 have p:¬M20.cG ("":Str) i=true:=by rw[show M20.cG ("":Str) i=false from S];exact q23
 rw[q00 p]at t q;refine j6 ?_;have U:∀w∈i,w≠("":Str):=λw v e=>by
  apply p;unfold M20.cG mR;rw[q40];exact⟨.str w,q25.mpr ⟨w,v,rfl⟩,by show(w==("":Str))=true;simpa using e⟩
 obtain _ | ⟨f,r⟩:=i
 .exact q02 rfl W
 dsimp only at t q;refine⟨_,rfl,s,_,_,.str f,rfl,rfl,ah.of B,zO (j:=0) rfl,?_⟩;refine⟨_,rfl,λa1 h1=>λa2 h2=>⟨a1,a2,_,_,rfl,rfl,h1 _,h2 _,by decide,by decide,(λz=>by cases z),λ_ g1 hp=>λa3 h3=>⟨g1,a3,_,_,rfl,rfl,.inl (.inl zd),h3 _,by decide,by decide,(λz=>by cases z),λ_ p2 ig=>?_⟩⟩⟩;have n:=(ae.aw s1 (o:=.tup (map V.str ["seal","couples","places","parts","deciders"]++map V.str ["card","show","leave","step"])) hp).aw (o:=.tup ((map V.str ["seal","couples","places","parts","deciders"]++map V.str ["card","show","leave","step"])++map V.str ["strike","step","row"])) ig;have k:=(ae.aw (ae.new (o:=.tup (map V.str ["seal","couples","places","parts","deciders"]++map V.str ["card","show","leave","step"])) hp) (o:=.tup ((map V.str ["seal","couples","places","parts","deciders"]++map V.str ["card","show","leave","step"])++map V.str ["strike","step","row"])) ig) _ _ B;refine⟨p2,_,rfl,.inr (.inl (.inl zd)),rfl,by rfl,_,rfl,?_⟩;have kn:mR (V.str f) ((map V.str ["seal","couples","places","parts","deciders"]++map V.str ["card","show","leave","step"])++map V.str ["strike","step","row"])=M20.cG f M57.Kn:=rfl;rw[kn];generalize jq:upd (upd H1 g1 _) p2 _=R at n k ⊢;cases Z:M20.cG f M57.Kn with
 | false =>
   rw[q01 Z]at t;refine qX ?_;exact⟨(by show 1<=sizeLine;decide),by rw[l];exact t rfl _ _ x n⟩
 | true =>
 rw[q00 (by rw[Z];exact λz=>Bool.noConfusion z)]at t q;refine j6 ?_;have g0:(f::r).length<=901:=by lia
 refine⟨_,rfl,λa4 h4=>⟨a4,_,rfl,.inr (h4 _),rfl,by rfl,_,rfl,?_⟩⟩;show if(!M20.cG f M20.yr)=true then _ else _
 cases hJ:M20.cG f M20.yr with
 | false =>
   rw[q01 hJ]at t q;refine qX ?_;refine⟨_,rfl,_,rfl,_,rfl,_,rfl,s,_,rfl,ah.of k,λc I=>?_⟩;have d:=ae.new (o:=.lst (kT ((f::r).map V.str) (some 1) none)) I;have D:upd R c (.lst (kT ((f::r).map V.str) (some 1) none)) c=some (.lst (r.map V.str)):=by rw[zd,Fg (by decide)];rfl
   refine⟨f,c,r,rfl,ah.of D,λw v=>⟨U w (q13 _ v),by have:=g w (q13 _ v);lia⟩,by rw[q12]at g0;lia,λh C u J N=>?_,λns h L H6 O H G=>⟨(by show 3<=sizeLine;decide),λQ a=>?_⟩⟩
   .rw[l];exact t (by rw[h];rfl) C u J ((n.trans d).trans N)
   .have sA:=(n.trans d).trans O;exact q _ _ _ (by rw[h];rfl) Q L _ (sA.aw a) (sA.free a) ((n.trans d).free H) zd ((ae.new a) _ _ G)
 | true =>
   rw[q00 (by rw[hJ];exact λz=>Bool.noConfusion z)]at t q;refine j6 ?_;refine⟨_,rfl,s,_,rfl,.inl (ah.of k),rfl,_,rfl,?_⟩;obtain _ | ⟨j,r⟩:=r
   .refine wn (q19 rfl) ?_;exact⟨(by show 1<=sizeLine;decide),by rw[l];exact t rfl _ _ x n⟩
   refine zt ?_ ?_
   .refine q20 λz=>?_;injection z with z
    simp only[q12,q06]at z
    lia
   dsimp only at t q;refine⟨_,rfl,_,rfl,s,_,_,.str j,rfl,rfl,ah.of k,zO (j:=1) rfl,_,rfl,_,rfl,_,rfl,s,_,rfl,ah.of k,λc I=>?_⟩;have d:=ae.new (o:=.lst (kT ((f::j::r).map V.str) (some 2) none)) I;have D:upd R c (.lst (kT ((f::j::r).map V.str) (some 2) none)) c=some (.lst (r.map V.str)):=by rw[zd,Fg (by decide)];rfl
   have hm:∀w∈r,w∈f::j::r:=λw v=>q13 _ (q13 _ v);refine⟨f,c,r,rfl,ah.of D,λw v=>⟨U w (hm w v),by have:=g w (hm w v);lia⟩,by simp only[q12]at g0;lia,λh C u J N=>?_,λns h L H6 O H G=>⟨(by show 3<=sizeLine;decide),λQ a=>?_⟩⟩
   .rw[l];exact t (by rw[h];rfl) C u J ((n.trans d).trans N)
   .have sA:=(n.trans d).trans O;exact q _ _ _ (by rw[h];rfl) Q L _ (sA.aw a) (sA.free a) ((n.trans d).free H) zd ((ae.new a) _ _ G)
variable (Yc:dq P w K m b 5 "read_row" ["row"] (SE K))
inductive SF (K:Frag)(vs:List V)(H:Hp)(Q:VK)(E:XK):Prop|mk(e:Qn)(a b c:Addr)(S:Sh):vs=[.str e.f,.ref a,.ref b,.ref c]->((e=.xI\/e=.gk\/e=.rC\/e=.rD))->ah K H a (S.ag.map V.str)->Refs K (IL K) H b S.rows->ah K H c (S.aa.map V.int)->S.Ok->((∀z∈S.ag,z.length<=8))->(∀t,ae H t->Q (.str (S.dv e)) t)->SF K vs H Q E
include T og BF IH XF X8 in
theorem zlr(F:aS K "_law_plain" "_law_plain" Ly f fd):ar P w K m b bp 6 f fd Lz (SF K):=by
 refine F.ok Qo ?_;rintro aN g3 outer g5 g4 vs g1 E k⟨qn,g2,b,c,S,rfl,oi,hT,Y,l,ok,h8,q⟩;refine⟨_,(zc (yN (i:=4) (show aj (zf Ly) WJ "_law_card_here" [] [] _ from dU) rfl Qo.nd rfl (Or.inl rfl) (zz aL) (λ_ _ _ _ _=>(yP (zj (wK (K:=K) rfl k.bE) ak (zv zb) (zl _)))) (λ_ _ _ _ _=>ak))
  (zc (zu (zj zG ak zm (zl _)) (ze (zh (aI og k (za bB zb)))) zn)
  (zc (zu (PW.pt (Ac (zj (Od k.bE) cO (zv zb) (zl _)) (BS (PW.pt (Ab (zj zG ak zm (zl _)) (Aa (zj E6 (yf T.az cO) zg (zl _)))))))) (ze (zh zm)) zn)
  (zc (zu (zj zG ak zm (zl _)) (ze (zh (aI X8 k (za aA (za aL (za bB zb)))))) zn)
  (zc (br 5 Qo.nd (aI BF k (za cO (za bB zb))))
  (zc (zu (zj zG ak zm (zl _)) (ze (zh (aI IH k (za fS (za bB zb))))) zn)
  (ze (zh (aI XF k (za cO (za bB (za fS zb)))))))))))),?_⟩
 have cF:=zq;have dO:=ok.dO;have X:=ok.fD;have mB:=Sh.bQ S;obtain⟨ls,Z,hR⟩:=id Y;have G:=Sh.aQ ok;have C:=Sh.aT S;have gR:S.handed.length<=15:=q38 (q09 _ _) X;have U:=Sh.bZ ok;refine⟨_,rfl,b,rfl,⟨_,Z⟩,?_⟩;refine Fz Z hR (by lia) (λm d H' R hm h=>?_) (λm H' R h=>⟨_,rfl,h⟩) λp O s1 r1=>?_
 .refine⟨_,rfl,(by show 0<=sizeLine;decide),λqu gJ=>?_⟩;have W:=ae.new (o:=.lst []) gJ;refine⟨m,qu,_,[],rfl,rfl,W.seq hm,ah.new,zA _,rfl,_,rfl,?_⟩;rw[show gZ (d.map V.int) []=decide (d=[])from yZ _ []];exact h _ W
 intro a di;have M:=ae.new (o:=.lst (p.map V.ref)) di;have r:upd O a (.lst (p.map V.ref)) a=some (.lst (p.map V.ref)):=zd;have u:=r1.imp λ_ _=>IL.stays K _ _ _ _ M;rw[<-U]at u;generalize mD:upd O a _=H2 at M r u ⊢;have z:=s1.trans M;have B:=u.length;have Aq:M6.mi ("TooFewCards":Str)=("refused: few":Str):=by decide +kernel
 have BJ:∀d∈S.rows,d=[]\/d.Perm S.aa:=λd hd=>by
  obtain⟨j,hj,rfl⟩:=q25.mp hd;cases e:S.card j with
  | none=>exact .inl rfl
  | some d=>exact .inr (ok.cd j d e).2
 have N:∀g0∈S.aa,∀e∈S.ao,g0∈e:=λg0 hu e he=>(G e he).mem_iff.mpr hu;rcases oi with rfl | rfl | rfl | rfl
 .refine⟨_,rfl,rfl,_,rfl,wn (by decide) ?_⟩;refine⟨_,rfl,c,_,S.aa.map tN,rfl,z.seq l,Kk λn I=>(by have:=ok.cY n I;lia),by rw[q06];lia,λg6 hx=>?_,λH3 t=>q _ (z.trans t)⟩;obtain⟨n,I,rfl⟩:=q25.mp hx;have:=M6.yt (ok.cY n I)
  lia
 .refine⟨_,rfl,rfl,_,rfl,zt (by decide) ?_⟩;refine⟨_,rfl,(by decide),λg y=>?_⟩;have t:=ae.new (o:=.lst []) y;have v:=z.trans t;refine⟨a,g,_,rfl,rfl,ah.of (t _ _ r),ah.new,_,rfl,?_⟩;rw[q06,B,C];refine zX (λs=>?_) (λs=>?_)
  .refine wn rfl ?_;have:=q _ v;unfold Sh.dv at this;rw[show S.cz .gk=some ("TooFewCards":Str)from q01 (by lia)]at this;exact this
  refine⟨_,rfl,rfl,_,rfl,zt (by decide) ?_⟩;refine zt rfl ?_;refine⟨_,rfl,rfl,_,rfl,zt (by decide) ?_⟩;refine⟨_,rfl,_,rfl,a,c,S.ao,S.aa,rfl,⟨p,ah.of (t _ _ r),u.imp λ_ _=>IL.stays K _ _ _ _ t⟩,v.seq l,by lia,by lia,N,λL H5 D f5 x=>?_⟩;rw[M6.wT G (by lia)]at x;have A:=v.trans D;refine⟨_,rfl,rfl,_,rfl,wn (by decide) ?_⟩;refine⟨_,rfl,_,rfl,L,c,S.ao,S.aa,rfl,ah.of x,A.seq l,by lia,ok.cY,λH6 s6=>?_⟩;have:=q _ (A.trans s6);unfold Sh.dv at this;rw[show S.cz .gk=none from q00 (by lia)]at this;exact this
 .refine⟨_,rfl,rfl,_,rfl,zt (by decide) ?_⟩;refine⟨_,rfl,(by decide),λg y=>?_⟩;have t:=ae.new (o:=.lst []) y;have v:=z.trans t;refine⟨a,g,_,rfl,rfl,ah.of (t _ _ r),ah.new,_,rfl,?_⟩;rw[q06,B,C];refine zX (λs=>?_) (λs=>?_)
  .refine wn rfl ?_;have:=q _ v;unfold Sh.dv at this;rw[show S.cz .rC=some ("TooFewCards":Str)from q01 (by lia)]at this;exact this
  refine⟨_,rfl,rfl,_,rfl,zt (by decide) ?_⟩;refine zt rfl ?_;refine⟨_,rfl,rfl,_,rfl,zt (by decide) ?_⟩;refine⟨_,rfl,_,rfl,a,c,S.ao,S.aa,rfl,⟨p,ah.of (t _ _ r),u.imp λ_ _=>IL.stays K _ _ _ _ t⟩,v.seq l,by lia,by lia,N,λL H5 D f5 x=>?_⟩;rw[M6.wT G (by lia)]at x;have A:=v.trans D;have u5:=t.trans D;refine⟨_,rfl,rfl,_,rfl,zt (by decide) ?_⟩;refine⟨_,rfl,_,rfl,_,rfl,a,c,L,S.ao,S.aa,rfl,⟨p,ah.of (u5 _ _ r),u.imp λ_ _=>IL.stays K _ _ _ _ u5⟩,A.seq l,ah.of x,by lia,by lia,N,ok.cY,λH7 s7=>?_⟩;have:=q _ (A.trans s7);unfold Sh.dv at this;rw[show S.cz .rC=none from q00 (by lia)]at this;exact this
 .refine⟨_,rfl,rfl,_,rfl,zt (by decide) ?_⟩;refine⟨_,rfl,(by decide),λg y=>?_⟩;have t:=ae.new (o:=.lst []) y;have v:=z.trans t;refine⟨a,g,_,rfl,rfl,ah.of (t _ _ r),ah.new,_,rfl,?_⟩;rw[q06,B,C];have Q:S.handed.length<2->g1 (.str "refused: few") (upd H2 g (.lst [])):=λs=>by
   have:=q _ v;unfold Sh.dv at this;rw[show S.cz .rD=some ("TooFewCards":Str)from q01 s]at this;exact this
  refine zX (λs=>?_) (λs=>?_)
  .exact wn rfl (Q (by lia))
  refine⟨_,rfl,rfl,_,rfl,wn (by decide) ?_⟩;refine⟨_,rfl,a,_,rfl,.inl (ah.of (t _ _ r)),_,_,rfl,rfl,_,rfl,?_⟩;rw[q06,B,C];refine zX (λh1=>?_) (λh1=>?_)
  .exact Q (by lia)
  refine⟨_,rfl,rfl,_,rfl,wn (by decide) ?_⟩;have H:=Sh.kE ok;have o7:∀w∈S.decide,w∈S.ag:=λw J=>(q24.mp (q24.mp J).1).1;have Ci:S.decide.length<=S.ag.length:=q38 (q09 _ _) (q09 _ _);refine⟨_,rfl,_,rfl,_,rfl,g2,b,c,S.ag,S.rows,S.aa,rfl,v.seq hT,Refs.same (IL.stays K) v Y,v.seq l,mB,X,by lia,BJ,by rw[<-U];lia,λw J=>h8 w (o7 w (by rw[H];exact J)),by rw[<-H];lia,λH8 s8=>?_⟩;rw[<-H];have:=q _ (v.trans s8);unfold Sh.dv at this;rw[show S.cz .rD=none from q00 (by lia)]at this;exact this
variable (Yd:bJ P w K m b 6 "_law_plain" Lz (SF K))
inductive SH (K:Frag)(vs:List V)(H:Hp)(Q:VK)(E:XK):Prop|mk(a b:Addr) (t:List (List Int)) (e:List Int):vs=[.ref a,.ref b]->Refs K (IL K) H a t->ah K H b (e.map V.int)->e.Nodup->((∀d∈t,d.Perm e))->1<=t.length->t.length<=15->1<=e.length->e.length<=24->(∀(l:Addr)(v:Hp),ae H v->H l=none->v l=some (.lst ((M6.zB t e).map V.int))->Q (.ref l) v)->SH K vs H Q E
include T EI X9 in
theorem zlG(F:aS K "places_of" "places_of" Iu f fd):ar P w K m b bp 6 f fd LA (SH K):=by
 refine F.ok WK ?_;rintro aN A outer g1 H vs g0 E G⟨a,b,t,s,rfl,W,N,xP,J,S,c2,Z,T,q⟩;refine⟨_,(zc (br 2 WK.nd (zN (show aj (zf Iu) Qp "couple" ["cards"] [0] _ from dU) rfl (zz aA) (λ_ _ _ _ _=>yA) (λ_ _ _ _ _=>(aI EI G (za aA (za ak zb))))))
  (ze (zh (zN (show aj (zf Iu) Qp "own" ["rows"] [2] _ from dU) rfl (zz aL) (λ_ _ _ _ _=>yA) (λ_ _ _ _ _=>(aI X9 G (za aA (za ak zb)))))))),?_⟩
 have cF:=zq;refine⟨_,rfl,b,rfl,⟨_,N⟩,?_⟩;refine zY (xs:=s.map V.int) (λi n h=>∃v:List Addr,n=v.map V.ref/\ae H h/\All2 (IL K h) v ((s.take i).map (M5.zp t))) ⟨[],rfl,ae.refl _,.nil⟩ ?_ (by rw[q06];lia) ?_ ?_
 .rintro i n h D ⟨v,rfl,s2,r2⟩;refine⟨s2.seq N,?_⟩;have:=r2.length;rw[q06,q11]at this;rw[q06]
  lia
 .rintro i x n h g ⟨v,rfl,s2,r2⟩;obtain⟨D,rfl⟩:=yU g;refine⟨_,rfl,_,rfl,a,t,_,rfl,W.same (IL.stays K) s2,by lia,λd j=>(J d j).mem_iff.mpr (tG D),λl y I f3 k=>?_⟩;refine⟨v++[l],by rw[q07];rfl,s2.trans I,?_⟩;rw[yX D,q07];exact(r2.imp λ_ _=>IL.stays K _ _ _ _ I).snoc (show IL K _ l _ from ah.of k)
 .rintro n h ⟨v,rfl,s2,r2⟩ l hl;rw[q06,q15]at r2;generalize Q:upd h l _=y;have M:ae h y:=by rw[<-Q];exact ae.new hl
  have k:y l=some (.lst (v.map V.ref)):=by rw[<-Q];exact zd
  have L:=r2.imp λ_ _=>IL.stays K _ _ _ _ M;have I:=s2.trans M;have O:=L.length;rw[q06]at O;refine⟨_,rfl,l,rfl,⟨_,ah.of k⟩,?_⟩;refine zY (xs:=v.map V.ref) (λi n z=>ae y z/\n=((s.take i).map λc=>1+(((s.map (M5.zp t)).filter λr=>M6.yp r (M5.zp t c) 24).length:Int)).map V.int) ⟨ae.refl _,rfl⟩ ?_ (by rw[q06];lia) ?_ ?_
  .rintro i n z D ⟨s4,rfl⟩;refine⟨s4.seq (ah.of k),?_⟩;rw[q06,q06,q11]
   lia
  .rintro i x n z g ⟨s4,rfl⟩;obtain⟨p,U,rfl⟩:=wN g;obtain⟨m,o,X⟩:=L.getL U;rw[q26]at o;cases B:s[i]? with
   | none=>rw[B]at o;cases o
   | some c =>
     rw[B]at o;cases o;have C:=mem_of_getElem? B;have cY:∀d∈s,(M5.zp t d).length=t.length/\∀x∈M5.zp t d,1<=x/\x<=24:=λd j=>⟨M5.zU t d,λx g=>by have:=M6.yE J j x g;lia⟩;refine⟨_,rfl,_,rfl,l,p,s.map (M5.zp t),M5.zp t c,rfl,⟨v,s4.seq (ah.of k),L.imp λ_ _=>IL.stays K _ _ _ _ s4⟩,s4.seq X,λr G=>?_,(cY c C).2,by rw[(cY c C).1];exact S,by rw[(cY c C).1];lia,by rw[q06];lia,λH5 Y=>⟨s4.trans Y,?_⟩⟩
     .obtain⟨d,j,rfl⟩:=q25.mp G;exact⟨by rw[(cY d j).1,(cY c C).1],(cY d j).2⟩
     .rw[take_succ,B,q07,q07];rfl
  .rintro n z ⟨s4,rfl⟩ p B8;rw[q06,O,q15];have R:=I.trans s4;refine q p _ (R.aw B8) ?_ ?_
   .cases e:H p with
    | none=>rfl
    | some u=>have:=R p u e;rw[B8]at this;cases this
   .rw[M6.pW J Z T];exact zd
variable (xT:bJ P w K m b 6 "places_of" LA (SH K))
def oj{P G:Prop}(e:P->G)(h:P):G:=e h
abbrev Mn(e:Int)(st nm u g k:Addr)(t:St):St:=some (.int e)::some (.ref st)::some (.ref nm)::some (.ref u)::some (.ref g)::some (.ref k)::t
inductive SI (K:Frag)(vs:List V)(H:Hp)(Q:VK)(E:XK):Prop|mk(a:Int)(G:Addr->Prop)(v n u g k:Addr)(y:Int)(t:Str)(S:Sh)(s:List Addr):vs=[.int a,.ref v,.ref n,.ref u,.ref g,.ref k]->jk H S G v n u g k y t s->S.Ok->S.taken<200->((∀z∈S.ag,M2.rj z=true))->((∀c∈S.struck,1<=c/\c<=999))->M20.Wd t->t∉S.ag->(∀(r:Rw)(e:Hp)(h:List Addr)(l:Addr),r.Ok->(∀b o,H b=some o->b≠v->b≠k->b≠u->b≠g->e b=some o)->jk e (S.cH r) G v n u g k y t h->H l=none->e l=some (.lst [.str r.text,.str (S.cJ r)])->Q (.ref l) e)->SI K vs H Q E
include T WZ og Xv Xw XM XN XU Yd in
theorem zl8(F:aS K "_law_next" "_law_next" Iv f fd):ar P w K m b bp 7 f fd LB (SI K):=by
 refine F.ok zZ ?_;rintro aN gC outer g3 H vs g6 E B⟨d,g4,y,J,u,g,k,gB,Q,S,ls,rfl,D,ok,ht,OU,IW,FU,SJ,g2⟩;obtain⟨es,p1,p2,p3,g8,hb⟩:∃es p1 p2 p3,bO es Kq/\yR Iv = .Assign [.Name "_law_deed" p1] (.List es p2) p3::(yR Iv).tail:=⟨_,_,_,_,(bO.cons (bO.cons (bO.cons (bO.cons (bO.cons (bO.cons (bO.cons (bO.cons (bO.cons (bO.cons (bO.cons (bO.cons bO.nil)))))))))))),rfl⟩;rw[hb];refine⟨_,(zc (br 6 zZ.nd (nt g8) Z5)
  (zc (br 6 zZ.nd (zx zr fC (zo zW ak zg) bF))
  (zc (br 7 zZ.nd (zo zW (zo yB ak zg) (yf T.az aL)))
  (zc (q9 (zu (zj zG (zo zW (zo yB ak zg) zg) zg (zl _)) (ze (br 7 zZ.nd (yf T.az aL))) zn))
  (zc (br 8 zZ.nd (zx zr (zo yd aL (zv (za (zx zr aA zg bF) zb))) xx bF))
  (zc (br 9 zZ.nd (zx zr (zo yd bB (zv (za zg (za zg (za (zx zr (zo yd cO (zv (za zg zb))) zg bF) zb))))) (zo zW (zo yB ak zg) (zo zS (yf T.az bB) zg)) bF))
  (zc (zu (zj zG fC zm (zl _)) (zc (br 10 zZ.nd (aI XU B (za ak (za zg (za bB (za (zx zr aA zg bF) zb))))))
  (zc (q9 (zu (zj zG (zo zW (zo yB ak zg) zg) zg (zl _)) (ze (br 10 zZ.nd (aI WZ B (za A0 (za (zo yB ak zg) zb))))) zn))
  (ze (zh (zv (za (zo zC zm (aI og B (za (zo yd (zv (za AY zb)) A0) zb))) (za (aI Xv B (za (zx zr aA zg bF) (za xx (za fS (za bB (za A0 zb)))))) zb))))))) zn)
  (zc (zu (zj zG fC zm (zl _)) (ze (zh (zv (za (zo zC zm (zy wW (by rfl) T.cb boot_str (za AZ zb))) (za (aI Xw B (za (zx zr aA zg bF) (za fS (za bB (za cO (za AZ zb)))))) zb))))) zn)
  (zc (zu (PW.pt (Ab (zj zG fC zm (zl _)) (Aa (zj zG (zo zW (zo yB ak zg) zg) zg (zl _))))) (zc (br 11 zZ.nd (zx zr (zv (za zm (za zm zb))) (zy T7 (by rfl) T.n6 boot_int (za (zx zr aA zg bF) zb)) bF))
  (zc (kZ oB (MR aA zg Ni))
  (ze (zh (zv (za zm (za Eg zb))))))) zn)
  (zc (zu (zj GN fC (nt (bO.cons (bO.cons (bO.cons (bO.cons bO.nil))))) (by first | exact zl _ | rfl)) (ze (zh (zv (za fC (za (aI Yd B (za fC (za aL (za fS (za bB zb))))) zb))))) zn)
  (zc (zu (PW.pt (Ab (zj zG fC zm (zl _)) (Aa (zj zG (zo zW (zo yB ak zg) zg) zg (zl _))))) (ze (zh (zv (za (zo zC (zo zC zm (zy wW (by rfl) T.cb boot_str (za AZ zb))) zm) (za zm zb))))) zn)
  (zc (zu (zj zG fC zm (zl _)) (ze (zh (zv (za (zo zC zm (zy wW (by rfl) T.cb boot_str (za AZ zb))) (za (aI XN B (za fS (za bB (za AZ zb)))) zb))))) zn)
  (zc (q9 (zu (PW.pt (Ab (zj zG fC zm (zl _)) (Aa (zj zG (zo zW (zo yB ak zg) zg) zg (zl _))))) (ze (br 6 zZ.nd zm)) zn))
  (zc (br 12 zZ.nd (zo zC (zo zC fC zm) AY))
  (zc (q9 (zu (zj zG fC zm (zl _)) (ze (br 12 zZ.nd (zo zC (zo zC Cu zm) (zy wW (by rfl) T.cb boot_str (za AZ zb))))) zn))
  (ze (zh (zv (za Cu (za (aI XM B (za fC (za fS (za bB (za xx (za AZ zb)))))) zb)))))))))))))))))))),?_⟩
 have cF:=zq;have c1:=ok.c1;have dO:=ok.dO;have p1:=ok.p1;have fD:=ok.fD;have SK:S.aa≠[]:=λz=>by rw[z]at c1;simp at c1
 have g1:∀(r:Rw)(a:Hp)(x z:Str),r.Ok->S.cH r=S->ae H a->x=r.text->z=S.cJ r->∀l,a l=none->g6 (.ref l) (upd a l (.lst [.str x,.str z])):=λr a x z B e g3 ex ez l v=>by
  subst ex ez;exact g2 r _ ls l B (λb o e _ _ _ _=>(g3.aw v) b o e) (by rw[e];exact D.same (g3.aw v)) (g3.free v) zd
 refine⟨by decide,λl0 FT=>?_⟩;generalize IX:upd H l0 _=H0;have s0:=ae.gen FT IX;have e0:=rq IX;have x0:=Int.emod_nonneg d (b:=12) (by decide);have x1:=Int.emod_lt_of_pos d (b:=12) (by decide);refine⟨_,rfl,_,rfl,_,_,rfl,rfl,(by show(0:Int)<12;decide),l0,_,_,_,rfl,rfl,ah.of e0,Ha x0 (by exact x1),?_⟩;have hd:=wu (ts:=Kq) (i:=(d%12).toNat) (by show(d%12).toNat<12;lia);generalize Kq.getD (d%12).toNat ""=g0 at hd ⊢;refine⟨_,rfl,_,_,rfl,rfl,⟨by decide,by decide⟩,_,rfl,J,_,rfl,.inl (ah.of (s0 _ _ D.hn)),?_⟩;rw[q06];refine⟨_,_,rfl,rfl,(by show(0:Int)<S.ag.length;lia),?_⟩;dsimp only;have w0:=Int.emod_nonneg (d/12) (b:=(S.ag.length:Int)) (by lia);have w1:=Int.emod_lt_of_pos (d/12) (b:=(S.ag.length:Int)) (by lia);obtain⟨Mo,Ye,SM⟩:∃Mo:Nat,d/12%(S.ag.length:Int)=(Mo:Int)/\Mo<S.ag.length:=⟨(d/12%(S.ag.length:Int)).toNat,by lia,by lia⟩;rw[Ye];refine⟨λA a=>∃w:Nat,A=Mn d y J u g k [some (.str g0),some (.int w),none,none,none,none,none]/\ae H a/\w<=S.ag.length,?_,?_⟩
 .refine⟨_,rfl,_,_,rfl,rfl,⟨by decide,by decide⟩,_,_,rfl,rfl,(by show(0:Int)<8;decide),rfl,_,rfl,zX (λ_=>?_) (λ_=>⟨Mo,rfl,s0,by lia⟩)⟩;exact⟨_,rfl,J,_,rfl,.inl (ah.of (s0 _ _ D.hn)),S.ag.length,by rw[q06];rfl,s0,le_refl _⟩
 clear IX s0 e0 FT Ye SM w0 w1 x0 x1;rintro A H1 ⟨w,rfl,s1,hw⟩;refine⟨_,rfl,_,rfl,y,_,_,_,rfl,rfl,ah.of (s1 _ _ D.hs),rfl,(by show 1<=sizeLine;decide),λl2 di=>?_⟩;generalize mD:upd H1 l2 _=H2;have s2:=s1.A1 di mD;have e2:=rq mD;refine⟨J,l2,_,_,rfl,rfl,s2 _ _ D.hn,e2,(by rw[q06];show S.ag.length+1<=sizeLine;lia),λl3 eK=>?_⟩;have s3:=s2.aw (o:=.lst (S.ag.map V.str++[V.str Q])) eK;have e3:upd H2 l3 (.lst (S.ag.map V.str++[V.str Q])) l3=some (.lst ((S.ag++[Q]).map V.str)):=by rw[zd,q07];rfl
 generalize jq:upd H2 l3 _=H3 at s3 e3 ⊢;refine⟨_,rfl,l3,_,_,_,rfl,rfl,ah.of e3,Ha (by lia) (by rw[q08];show(w:Int)<((S.ag.length+1:Nat):Int);lia),?_⟩;obtain⟨j,ej,wj,Yf⟩:∃j,(S.ag++[Q]).getD ((w:Int)).toNat ""=j/\M20.Wd j/\((w=S.ag.length/\j∉S.ag)\/(w<S.ag.length/\j=S.ag.getD w "")):=by
  rw[show((w:Int)).toNat=w by lia];rcases lt_or_ge w S.ag.length with h | h
  .have e:(S.ag++[Q]).getD w ""=S.ag.getD w "":=by rw[q18,q28 h,<-q18]
   exact⟨_,e,M6.Bo (OU _ (wu h)),.inr ⟨h,rfl⟩⟩
  .have hw:w=S.ag.length:=by lia
   have e:(S.ag++[Q]).getD w ""=Q:=by rw[hw,q18,q29 (le_refl _),sub_self];rfl
   exact⟨_,e,FU,.inl ⟨hw,SJ⟩⟩
 rw[ej];clear mD jq e2 e3 di eK s2 s1 ej hw;refine⟨_,rfl,_,rfl,(by show 1<=sizeLine;decide),λl4 rF=>?_⟩;have s4:=s3.aw (o:=.lst [.int 2]) rF;have e4:upd H3 l4 (.lst [.int 2]) l4=some (.lst [.int 2]):=zd;generalize vG:upd H3 l4 (.lst [.int 2])=H4 at s4 e4 ⊢;refine⟨g,l4,_,_,rfl,rfl,s4 _ _ D.hg,e4,(by rw[q06];show S.struck.length+1<=sizeLine;lia),λl5 gy=>?_⟩;have s5:=s4.aw (o:=.lst (S.struck.map V.int++[.int 2])) gy;have e5:upd H4 l5 (.lst (S.struck.map V.int++[.int 2])) l5=some (.lst ((S.struck++[2]).map V.int)):=by rw[zd,q07];rfl
 generalize BC:upd H4 l5 _=H5 at s5 e5 ⊢;refine⟨l5,_,_,_,rfl,rfl,ah.of e5,xj (by decide) (by rw[q08];show(0:Int)<((S.struck.length+1:Nat):Int);lia),?_⟩;have I:1<=(S.struck++[2]).getD (0:Int).toNat 0/\(S.struck++[2]).getD (0:Int).toNat 0<=999:=by
  rcases List.mem_append.mp (tG (ns:=S.struck++[2]) (i:=(0:Int).toNat) (by rw[q08];show 0<S.struck.length+1;lia))with h | h
  .exact IW _ h
  .rw[List.mem_singleton.mp h];decide
 generalize (S.struck++[2]).getD (0:Int).toNat 0=x at I ⊢;refine⟨(by show 3<=sizeLine;decide),λl6 oh=>?_⟩;have s6:=s5.aw (o:=.lst [.int 1,.int 999,.int x]) oh;have e6:upd H5 l6 (.lst [.int 1,.int 999,.int x]) l6=some (.lst [.int 1,.int 999,.int x]):=zd;generalize FK:upd H5 l6 (.lst [.int 1,.int 999,.int x])=H6 at s6 e6 ⊢;refine⟨u,l6,_,_,rfl,rfl,s6 _ _ D.hu,e6,(by rw[q06];show S.aa.length+3<=sizeLine;lia),λl7 rH=>?_⟩;have M:=s6.aw (o:=.lst (S.aa.map V.int++[.int 1,.int 999,.int x])) rH;have e7:upd H6 l7 (.lst (S.aa.map V.int++[.int 1,.int 999,.int x])) l7=some (.lst ((S.aa++[1,999,x]).map V.int)):=by rw[zd,q07];rfl
 generalize IU:upd H6 l7 _=H7 at M e7 ⊢;refine⟨_,rfl,_,_,rfl,rfl,⟨by decide,by decide⟩,_,rfl,u,_,rfl,.inl (ah.of (M _ _ D.hu)),?_⟩;rw[q06];refine⟨_,_,rfl,rfl,_,_,rfl,rfl,(by show(0:Int)<S.aa.length+3;lia),?_⟩;dsimp only;have q0:=Int.emod_nonneg (d/96) (b:=(S.aa.length:Int)+3) (by lia);have q1:=Int.emod_lt_of_pos (d/96) (b:=(S.aa.length:Int)+3) (by lia);have iD:(S.aa++[1,999,x]).length=S.aa.length+3:=by rw[q08];rfl
 refine⟨l7,_,_,_,rfl,rfl,ah.of e7,xj q0 (by rw[iD];lia),?_⟩;have X:1<=(S.aa++[1,999,x]).getD (d/96%((S.aa.length:Int)+3)).toNat 0/\(S.aa++[1,999,x]).getD (d/96%((S.aa.length:Int)+3)).toNat 0<=999:=by
  rcases List.mem_append.mp (tG (ns:=S.aa++[1,999,x]) (i:=(d/96%((S.aa.length:Int)+3)).toNat) (by rw[iD];lia))with h | h
  .exact ok.cY _ h
  .generalize getD (S.aa++[1,999,x]) _ 0=z at h ⊢;simp only[q27,not_mem_nil,or_false]at h;rcases h with h | h | h <;> lia
 generalize (S.aa++[1,999,x]).getD (d/96%((S.aa.length:Int)+3)).toNat 0=c at X ⊢;have q:=D.same M;have t7:=M;clear vG BC FK IU e4 e5 e6 e7 rF gy oh rH s4 s5 s6 s3 q0 q1 iD I;have Mp:c.natAbs.log2<1920:=yI (by lia);have Kh:=M6.yt X;refine⟨_,rfl,rfl,_,rfl,zX (λhk=>?_) (λIY=>?_)⟩
 .refine⟨_,rfl,_,rfl,_,rfl,y,_,_,_,rfl,rfl,ah.of q.hs,rfl,d,384,u,S.aa,gB,rfl,by decide,by decide,ah.of q.hu,SK,by lia,λla H8 ma Z f8 U Mq=>?_⟩;have EU:=Mq.length_eq;refine⟨λA a=>∃(G:Addr)(ms:List Int),A=Mn d y J u g k [some (.str g0),some (.int w),some (.str j),some (.int c),some (.ref G),none,none]/\ae H7 a/\H7 G=none/\a G=some (.lst (ms.map V.int))/\ms.length<=25/\(∀m∈ms,Nn m),?_,?_⟩
  .refine⟨_,rfl,_,_,rfl,rfl,⟨by decide,by decide⟩,_,_,rfl,rfl,(by show(0:Int)<4;decide),rfl,_,rfl,zX (λ_=>?_) (λ_=>⟨la,ma,rfl,Z,f8,U,by lia,λm p=>.inl (ok.cY m (Mq.mem_iff.mp p))⟩)⟩;exact⟨_,rfl,_,rfl,_,_,rfl,rfl,⟨by decide,by decide⟩,la,ma,_,rfl,ah.of U,(λz=>by rw[z]at EU;simp at EU;lia),by lia,λm p=>ok.cY m (Mq.mem_iff.mp p),λG H3 ms s3 f3 e3 v p=>⟨G,ms,rfl,Z.trans s3,Z.free f3,e3,by lia,p⟩⟩
  clear Z f8 U Mq EU;rintro A H8 ⟨G,ms,rfl,Z,f8,U,Kp,SN⟩;refine⟨_,rfl,(by show 1<=sizeLine;decide),λC Y=>?_⟩;generalize R:upd H8 C _=H9;have s:=ae.gen Y R;have W:=rq R;refine⟨_,rfl,C,G,_,_,rfl,rfl,W,s _ _ U,(by rw[q06];show 1+ms.length<=sizeLine;lia),λiQ jU=>?_⟩;generalize vH:upd H9 iQ _=vI;have gq:=s.A1 jU vH;have kL:=rq vH;have Yg:∀x∈j::ms.map tN,x.length<=31:=λx I=>by
   rcases q27.mp I with rfl | I
   .have:=wj.len;lia
   .obtain⟨n,hn,rfl⟩:=q25.mp I;exact(W0.num (SN n hn)).len
  have Au:(j::ms.map tN).length<=26:=by rw[q12,q06];lia
  have g9:=M6.V9 31 Yg;refine⟨iQ,_,j::ms.map tN,rfl,ah.of kL,.cons .str (Wi SN),by lia,λx I=>q38 (Yg x I) (by decide),λCT iZ=>?_⟩;have xU:=M.trans ((Z.trans gq).trans iZ);have xV:=D.same xU;have h5:("card ":Str).length=5:=by decide +kernel
  refine⟨_,_,rfl,rfl,(by show("card ":Str).length+(Txt.join M6.zE (j::ms.map tN)).length<=sizeLine;lia),_,rfl,y,_,_,_,rfl,rfl,ah.of xV.hs,rfl,_,rfl,_,rfl,_,rfl,_,rfl,?_⟩;refine⟨g4,k,u,G,w,S,j,ls,ms,rfl,xV.hr,xV.hu,iZ _ _ (gq _ _ U),(λz=>q.gx G z f8),Kp,ok,ht,Yf,λa gQ kp r'=>⟨by show 2<=sizeLine;decide,λl v=>?_⟩⟩;have O:∀b o,H b=some o->b≠k->a b=some o:=λb o e n=>kp b o (xU b o e) n;have fr:H l=none:=by
   cases e:H l with
   | none=>rfl
   | some o =>
     have z:=O l o e (λz=>by rw[z,r'.1]at v;cases v);rw[v]at z;cases z
  rw[show ("card ":Str) ++ Txt.join M6.zE (j::ms.map tN)=(Rw.card j ms).text from M6.qb];exact g2 (.card j ms) _ gQ l ⟨wj,SN,Kp⟩ (λb o e _ n _ _=>(ae.new v) b o (O b o e n)) ((D.card ok O r').same (ae.new v)) fr zd
 refine⟨_,rfl,rfl,_,rfl,zX (λhk=>?_) (λYh=>?_)⟩
 .have h7:("strike ":Str).length=7:=by decide +kernel
  refine⟨_,rfl,_,rfl,Mp,_,_,rfl,rfl,(by show("strike ":Str).length+(tN c).length<=sizeLine;lia),_,rfl,y,_,_,_,rfl,rfl,ah.of q.hs,rfl,_,rfl,_,rfl,_,rfl,_,rfl,?_⟩;refine⟨g4,k,u,g,c,S,ls,rfl,q.hr,q.hu,q.hg,⟨q.ug,q.gu,q.gg⟩,q.gx,ok,λa gQ kp r' u' g'=>⟨by show 2<=sizeLine;decide,λl v=>?_⟩⟩;have O:∀b o,H b=some o->b≠k->b≠u->b≠g->a b=some o:=λb o e n1 n2 n3=>kp b o (M b o e) n1 n2 n3;have fr:H l=none:=by
   cases e:H l with
   | none=>rfl
   | some o =>
     have z:=O l o e (λz=>by rw[z,r'.1]at v;cases v) (λz=>by rw[z,u']at v;cases v) (λz=>by rw[z,g']at v;cases v);rw[v]at z;cases z
  rw[show ("strike ":Str) ++ Str.ofString (toString c)=(Rw.bW c).text from M6.mj c];exact g2 (.bW c) _ gQ l X (λb o e _ n1 n2 n3=>(ae.new v) b o (O b o e n1 n2 n3)) ((D.bW ok O r' u' g').same (ae.new v)) fr zd
 apply oj
 .intro last;refine⟨_,rfl,rfl,_,rfl,zX (λ_=>?_) (λ_=>zt rfl last)⟩;refine⟨_,rfl,_,_,rfl,rfl,⟨by decide,by decide⟩,_,_,rfl,rfl,(by show(0:Int)<10;decide),rfl,_,rfl,zX (λ_=>?_) (λ_=>last)⟩;clear last;refine⟨(by show 2<=sizeLine;decide),λC Y=>?_⟩;generalize R:upd H7 C _=H9;have s:=M.A1 Y R;have W:=rq R;have AX:fN [V.str "sealed",V.str "refused: sealed"] (if S.bG=true then(1:Int)else 0)=some (V.str (S.cJ .iY)):=by
   rw[Sh.By];cases S.bG <;> rfl
  refine⟨_,rfl,y,_,_,_,rfl,rfl,ah.of (s _ _ D.hs),rfl,.inr ⟨S.bG,rfl,C,_,_,_,rfl,rfl,ah.of W,AX,?_⟩⟩;refine⟨_,rfl,y,_,_,0,rfl,rfl,s _ _ D.hs,rfl,?_⟩;refine⟨_,rfl,(by show 2<=sizeLine;decide),λl v=>?_⟩;have D':=((D.same s).seal ok).same (ae.new (o:=.lst [.str "seal",.str (S.cJ .iY)]) v);have nl:l≠y:=λz=>by rw[z,zd]at v;cases v
  have di:=v;rw[zi nl]at di;refine g2 .iY _ ls l trivial (λb o e n _ _ _=>(ae.new v) b o (by rw[zi n];exact s b o e)) D' (s.free di) ?_;rw[show Rw.iY.text=("seal":Str) from M6.vq.1];exact zd
 refine⟨_,rfl,(by show 4<=sizeLine;decide),λC Y=>?_⟩;have s:=M.aw (o:=.lst (([("couples":Str),("places":Str),("parts":Str),("deciders":Str)]:List Str).map V.str)) Y;have W:upd H7 C (.lst (([("couples":Str),("places":Str),("parts":Str),("deciders":Str)]:List Str).map V.str)) C=some (.lst (([("couples":Str),("places":Str),("parts":Str),("deciders":Str)]:List Str).map V.str)):=zd;have N:=D.same s;refine⟨C,_,rfl,.inl (ah.of W),rfl,Oa _,_,rfl,?_⟩;rw[Ob];generalize R:upd H7 C _=H9 at s N ⊢;refine zX (λp=>?_) (λp=>?_)
 .obtain⟨t,L,rfl⟩:∃t:Qn,(t=.xI\/t=.gk\/t=.rC\/t=.rD)/\g0=t.f:=by
   simp only[q27,not_mem_nil,or_false]at p;rcases p with h | h | h | h
   .exact⟨.xI,.inl rfl,h⟩
   .exact⟨.gk,.inr (.inl rfl),h⟩
   .exact⟨.rC,.inr (.inr (.inl rfl)),h⟩
   .exact⟨.rD,.inr (.inr (.inr rfl)),h⟩
  refine⟨_,rfl,_,rfl,_,rfl,_,rfl,_,rfl,t,J,k,u,S,rfl,L,ah.of N.hn,N.hr.refs K,ah.of N.hu,ok,λz hz=>((M2.wx z).mp (OU z hz)).1.2,λa s'=>⟨by show 2<=sizeLine;decide,g1 (.ask t) a _ _ ?_ (Sh.jP S t) (s.trans s') ?_ (Sh.jQ S t).symm⟩⟩
  .rcases L with rfl | rfl | rfl | rfl <;> exact trivial
  .rcases L with rfl | rfl | rfl | rfl <;> exact(qg _ (by simp)).symm
 have h4:("row ":Str).length=4:=by decide +kernel
 have h2:(" 1":Str).length=2:=by decide +kernel
 apply oj
 .intro last;refine⟨_,rfl,rfl,_,rfl,zX (λ_=>?_) (λ_=>zt rfl last)⟩;refine⟨_,rfl,_,_,rfl,rfl,⟨by decide,by decide⟩,_,_,rfl,rfl,(by show(0:Int)<5;decide),rfl,_,rfl,zX (λ_=>?_) (λ_=>last)⟩;refine⟨_,rfl,_,rfl,Mp,_,_,rfl,rfl,(by show("row ":Str).length+(tN c).length<=sizeLine;lia),_,_,rfl,rfl,?_,(by show 2<=sizeLine;decide),g1 (.two c) H9 _ _ X (Sh.Br S c) s (Bu c) ?_⟩
  .rw[zw];show("row ":Str).length+(tN c).length+(" 1":Str).length<=sizeLine
   lia
  .rw[Sh.Bs];decide +kernel
 refine⟨_,rfl,rfl,_,rfl,zX (λhk=>?_) (λYi=>?_)⟩
 .refine⟨_,rfl,_,rfl,Mp,_,_,rfl,rfl,(by show("row ":Str).length+(tN c).length<=sizeLine;lia),_,rfl,_,rfl,_,rfl,k,u,c,S,rfl,N.hr.refs K,ah.of N.hu,ok,by lia,λa s'=>⟨by show 2<=sizeLine;decide,g1 (.ask (.row c)) a _ _ X (Sh.jP S _) (s.trans s') (Bv c) (Sh.jQ S _).symm⟩⟩
 have g5:g0=("show":Str)\/g0=("step":Str):=by
  unfold Kq at hd;simp only[q27,not_mem_nil,or_false]at hd p;rcases hd with h | h | h | h | h | h | h | h | h | h | h | h
  .exact q02 (congrArg V.str h) IY
  .exact q02 (congrArg V.str h) IY
  .exact q02 (congrArg V.str h) IY
  .exact q02 (congrArg V.str h) IY
  .exact q02 (congrArg V.str h) Yh
  .exact q02 (.inl h) p
  .exact q02 (.inr (.inl h)) p
  .exact q02 (.inr (.inr (.inl h))) p
  .exact q02 (.inr (.inr (.inr h))) p
  .exact .inl h
  .exact .inr h
  .exact q02 (congrArg V.str h) Yi
 refine⟨λA a=>∃t:Qn,A=Mn d y J u g k [some (.str t.f),some (.int w),some (.str j),some (.int c),none,none,none]/\ae H a/\(t=.ml j\/t=.nT j\/t=.ik j c),?_,?_⟩
 .rcases g5 with rfl | rfl
  .refine⟨_,rfl,rfl,_,rfl,wn (show decide (V.str "show"=V.str "show")=true by decide) ?_⟩;exact⟨_,rfl,_,_,rfl,rfl,⟨by decide,by decide⟩,_,_,rfl,rfl,(by show(0:Int)<2;decide),rfl,_,rfl,zX (λ_=>⟨.nT j,rfl,s,.inr (.inl rfl)⟩) (λ_=>⟨.ml j,rfl,s,.inl rfl⟩)⟩
  .exact⟨_,rfl,rfl,_,rfl,zt (show decide (V.str "step"=V.str "show")=false by decide) (zt rfl ⟨.ik j c,rfl,s,.inr (.inr rfl)⟩)⟩
 clear hd g5 p IY Yh Yi W N R s Y h2 h4;rintro A H9 ⟨t,rfl,s,L⟩;obtain⟨Fx,gI⟩:M20.cG t.f M20.yr=true/\t.f.length<=5:=by
  have h:∀z∈([("show":Str),("leave":Str),("step":Str)]:List Str),M20.cG z M20.yr=true/\z.length<=5:=by decide +kernel
  refine h t.f ?_;rcases L with rfl | rfl | rfl
  .exact .head _
  .exact .tail _ (.head _)
  .exact .tail _ (.tail _ (.head _))
 have gH:(" ":Str).length=1:=by decide +kernel
 have g9:=wj.len;refine⟨_,rfl,_,_,rfl,rfl,(by show t.f.length+(" ":Str).length<=sizeLine;lia),_,rfl,_,_,rfl,rfl,(by rw[zw];show t.f.length+(" ":Str).length+j.length<=sizeLine;lia),?_⟩;rw[show (" ":Str)=M20.zE from M20.Kl];refine⟨λA a=>A=Mn d y J u g k [some (.str t.f),some (.int w),some (.str j),some (.int c),none,none,some (.str (Rw.ask t).text)]/\ae H a,?_,?_⟩
 .rcases L with rfl | rfl | rfl
  .exact⟨_,rfl,rfl,_,rfl,zt (show decide (V.str "show"=V.str "step")=false by decide) ⟨by rw[nY Fx];rfl,s⟩⟩
  .exact⟨_,rfl,rfl,_,rfl,zt (show decide (V.str "leave"=V.str "step")=false by decide) ⟨by rw[nY Fx];rfl,s⟩⟩
  .have U6:M20.zE.length=1:=rfl;refine⟨_,rfl,rfl,_,rfl,wn (show decide (V.str "step"=V.str "step")=true by decide) ?_⟩;refine⟨_,rfl,_,_,rfl,rfl,?_,_,rfl,_,rfl,Mp,_,_,rfl,rfl,?_,?_,s⟩
   .rw[zw,zw];show(Qn.ik j c).f.length+M20.zE.length+j.length+(" ":Str).length<=sizeLine
    lia
   .rw[zw,zw,zw];show(Qn.ik j c).f.length+M20.zE.length+j.length+(" ":Str).length+(tN c).length<=sizeLine
    lia
   .rw[show Str.ofString (toString c)=tN c from rfl,Bw Fx];rfl
 rintro A vI ⟨rfl,gq⟩;have Yj:=D.same gq;refine⟨_,rfl,_,rfl,_,rfl,_,rfl,_,rfl,_,rfl,k,u,w,c,S,j,t,rfl,L,Yj.hr.refs K,ah.of Yj.hu,ok,Yf,λa s'=>⟨by show 2<=sizeLine;decide,g1 (.ask t) a _ _ ?_ (Sh.jP S t) (gq.trans s') rfl (Sh.jQ S t).symm⟩⟩;rcases L with rfl | rfl | rfl
 .exact wj
 .exact wj
 .exact⟨wj,X⟩
variable (Yk:bJ P w K m b 7 "_law_next" LB (SI K))
inductive SO (K:Frag)(vs:List V)(H:Hp)(Q:VK)(E:XK):Prop|mk(p:Addr)(F:Addr->Prop)(S:Sh):vs=[.ref p]->aq K H p F S->((S.handed.length=0->∀C e,aX K "TooFewCards" C->ae H e->E (.ref C) none e))->((1<=S.handed.length->∀(l:Addr)(e:Hp),ae H e->H l=none->e l=some (.lst ((M6.zB S.ao S.aa).map V.int))->Q (.ref l) e))->SO K vs H Q E
include T il rL xQ xT in
theorem qK(F:aS K "places" "places" Qq f fd):ar P w K m b (dM P w) 7 f fd ["sheet"] (SO K):=by
 refine F.ic qm ?_;rintro X W V A outer g2 H vs Q E B y g md v⟨p,F,S,rfl,e,L,q⟩;subst B;refine⟨_,(zc (zI (yc rL g (hM v) rfl (za ak (za zg zb))))
  (ze (zh (aI xT v (za (zL xQ T.ai (hM v) ak) (za (zL il T.ai (hM v) ak) zb)))))),?_⟩
 have ok:=e.ok;have u:S.handed.length<=15:=q38 (q09 _ _) ok.fD;have dO:=ok.dO;obtain⟨s,Y,Z,b3,g0,h⟩:=e.ins;refine⟨_,rfl,p,F,S,1,rfl,e,(λg1 C r x t=>by rw[y];exact L (by lia) C r x t),λh0 r t=>?_⟩;have c:1<=S.handed.length:=by lia
 refine⟨_,rfl,p,s,_,rfl,t _ _ h,rfl,p,F,S,rfl,e.same t,λD R J N f2 j M=>?_⟩;have a:=t.trans N;refine⟨_,rfl,p,s,_,rfl,a _ _ h,rfl,p,F,S,rfl,e.same a,λG U n f3 k=>?_⟩;have d:=a.trans n;refine⟨D,G,S.ao,S.aa,rfl,⟨J,ah.of (n _ _ j),M.imp λ_ _ z=>ah.of (n _ _ z.2)⟩,ah.of k,ok.nd,Sh.aQ ok,by rw[Sh.aT];exact c,by rw[Sh.aT];exact u,ok.c1,by lia,λI i O o l=>?_⟩;exact q c I i (d.trans O) (d.free o) l
variable (Mr:dq P w K m b 7 "places" ["sheet"] (SO K))
inductive SQ (K:Frag)(vs:List V)(H:Hp)(Q:VK)(E:XK):Prop|mk(p:Addr)(F:Addr->Prop)(S:Sh)(j:Str):vs=[.ref p,.str j]->aq K H p F S->((j∉S.ag->∀C,aX K "UnknownJudge" C->E (.ref C) none H))->((j∈S.ag->S.card j=none->∀C,aX K "NoCard" C->E (.ref C) none H))->((j∈S.handed->S.handed.length<2->∀C e,aX K "TooFewCards" C->ae H e->E (.ref C) none e))->((j∈S.handed->2<=S.handed.length->∀(l:Addr)(e:Hp),ae H e->H l=none->e l=some (.lst ((M6.zB (S.bg j) S.aa).map V.int))->Q (.ref l) e))->SQ K vs H Q E
include T il vO rL Mj xT in
theorem zl0(F:aS K "left_out" "left_out" Qr f fd):ar P w K m b (dM P w) 7 f fd Iw (SQ K):=by
 refine F.ic zl7 ?_;rintro g3 g2 aN A outer g6 g0 vs g1 E L a u md n⟨p,F,S,j,rfl,t,W,V,U,q⟩;subst L;refine⟨_,(zc (zI (xo vO T.ai u (hM n) ak (za aA zb)))
  (zc (zI (yc rL u (hM n) rfl (za ak (za zg zb))))
  (ze (zh (aI xT n (za (aI Mj n (za ak (za aA zb))) (za (zL il T.ai (hM n) ak) zb))))))),?_⟩
 have cF:=zq;have ok:=t.ok;have I:=ok.fD;have dO:=ok.dO;obtain⟨g,b1,b2,b3,g4,o⟩:=t.ins;refine⟨_,rfl,p,g,_,rfl,o,rfl,_,rfl,p,F,S,j,rfl,t,(λh C v=>by rw[a];exact W h C v),(λM h C v=>by rw[a];exact V M h C v),λc e l1 H1 s f1 e1=>?_⟩;have r:j∈S.handed:=q24.mpr ⟨(ok.cd j c e).1,by rw[e];rfl⟩;refine⟨_,rfl,p,F,S,2,rfl,t.same s,(λg5 C l v d=>by rw[a];exact U r (by lia) C l v (s.trans d)),λh0 l d=>?_⟩;have J:2<=S.handed.length:=by lia
 have x:=s.trans d;refine⟨_,rfl,_,rfl,p,F,S,j,rfl,t.same x,λO H3 N Y f3 B X=>?_⟩;have k:=x.trans Y;refine⟨_,rfl,p,g,_,rfl,k _ _ o,rfl,p,F,S,rfl,t.same k,λQ H4 i f4 D=>?_⟩;have y:=k.trans i;have Au:=Sh.eU ok.uO r;have di:S.handed.length<=15:=q38 (q09 _ _) I;refine⟨O,Q,S.bg j,S.aa,rfl,⟨N,ah.of (i _ _ B),X.imp λ_ _=>IL.stays K _ _ _ _ i⟩,ah.of D,ok.nd,Sh.dW ok j,by lia,by lia,ok.c1,by lia,λR z Z H G=>?_⟩;exact q r J R z (y.trans Z) (y.free H) G
variable (Yl:dq P w K m b 7 "left_out" Iw (SQ K))
inductive SR (K:Frag)(vs:List V)(H:Hp)(Q:VK)(E:XK):Prop|mk(p:Addr)(F:Addr->Prop)(S:Sh)(j:Str)(c:Int):vs=[.ref p,.str j,.int c]->aq K H p F S->((j∉S.ag->∀C,aX K "UnknownJudge" C->E (.ref C) none H))->((j∈S.ag->S.card j=none->∀C,aX K "NoCard" C->E (.ref C) none H))->(((S.card j).isSome=true->c∉S.aa->∀C e,aX K "UnknownCouple" C->ae H e->E (.ref C) none e))->((∀d,S.card j=some d->c∈S.aa->d.getD 0 0=c->∀C e,aX K "AtTop" C->ae H e->E (.ref C) none e))->(∀(d:List Int)(i:Nat),S.card j=some d->0<i->i<d.length->d.getD i 0=c->∀(t l:Addr)(e:Hp),ae H e->H t=none->H l=none->e t=some (.tup [.int (d.getD (i-1) 0),.ref l])->e l=some (.lst ((M6.zB (S.bC j (g7 d i)) S.aa).map V.int))->Q (.ref t) e)->SR K vs H Q E
include T il rE W9 vO xT in
theorem mE(F:aS K "step_up" "step_up" LC f fd):ar P w K m b (dM P w) 7 f fd LD (SR K):=by
 obtain⟨cS,av,bc,au⟩:=T.au;refine F.ic Iy ?_;rintro g6 g5 aN g2 outer g8 g3 vs g4 E hX B fl md r⟨p,F,S,j,c,rfl,a,qU,qN,qC,qT,q⟩;subst hX;refine⟨_,(zc (br 3 Iy.nd (xo vO T.ai fl (hM r) ak (za aA zb)))
  (zc (zu (zj yC aL (zL il T.ai (hM r) ak) (by first | exact zl _ | rfl)) (ze (yh rfl md rfl bc au (za zm zb))) zn)
  (zc (br 4 Iy.nd (yc W9 fl (hM r) rfl (za bB (za aL zb))))
  (zc (br 5 Iy.nd (zx zr cO (yD PySem.F.plainAttrs_list PySem.F.slot_list_index PySem.F.type_list_index DP bB (za aL zb)) bF))
  (zc (yN (i:=6) (show aj (zf LC) WL "other" ["sheet","judge","stepped"] [0,1,4] _ from dU) rfl Iy.nd rfl (Or.inl rfl) (zz (zL rE T.ai (hM r) ak)) (λ_ _ _ _ _=>yA) (λ_ _ _ _ _=>(ML (zj zG ak aL (zl _)) bB (xo vO T.ai mZ (hM r) aA (za ak zb)))))
  (ze (zh (oO (za fS (za (aI xT r (za fC (za (zL il T.ai (hM r) ak) zb))) zb)))))))))),?_⟩
 have cF:=zq;have ok:=a.ok;have gR:=ok.fD;have dO:=ok.dO;obtain⟨s,b1,b2,b3,dd,h⟩:=a.ins;refine⟨_,rfl,p,s,_,rfl,h,rfl,_,rfl,p,F,S,j,rfl,a,(λu C l=>by rw[B];exact qU u C l),(λhp u C l=>by rw[B];exact qN hp u C l),λd g l1 H1 O f1 e1=>?_⟩;obtain⟨BA,y⟩:=ok.cd j d g;have Ci:=y.length_eq;have Y:d.Nodup:=y.nodup_iff.mpr ok.nd;refine⟨_,rfl,_,rfl,p,s,_,rfl,O _ _ h,rfl,p,F,S,rfl,a.same O,λl2 H2 Q f2 e2=>?_⟩;have U:=O.trans Q;refine⟨l2,_,rfl,.inl (ah.of e2),rfl,zA _,_,rfl,?_⟩;rw[Ff];refine yl (λA=>?_) (λA=>?_)
 .exact⟨(by show 1<=sizeLine;decide),by rw[B];exact qC (by rw[g];rfl) A _ _ av U⟩
 obtain⟨i,v,rfl⟩:∃i,i<d.length/\d.getD i 0=c:=by
  obtain⟨i,v,e⟩:=List.getElem_of_mem (y.mem_iff.mpr A);exact⟨i,v,by rw[q18,q31 v];exact e⟩
 refine⟨_,rfl,_,rfl,l1,d,i,rfl,ah.of (Q _ _ e1),Y,v,by lia,λg0 u=>ok.cY g0 (y.mem_iff.mp u),?_,λJ G H3 s3 f3 e3=>?_⟩
 .intro z C l;subst z;rw[B];exact qT d g A rfl C _ l U
 have q:=q d i g J v rfl;have W:=U.trans s3;have tj:=s3 _ _ (Q _ _ e1);have gT:d.idxOf (d.getD i 0)=i:=by
  have:d.getD i 0=d[i]:=by rw[q18,q31 v];rfl
  rw[this];exact Y.idxOf_getElem i v
 refine⟨_,rfl,_,rfl,.inl ⟨rfl,_,ah.of tj⟩,_,rfl,l1,_,_,rfl,rfl,ah.of tj,rfl,zA _,?_,G,_,_,.int (d.getD (i-1) 0),rfl,rfl,ah.of e3,?_,?_⟩
 .rw[wd,q06,gT];exact v
 .rw[wd,gT];refine zO ?_;rw[q26,show d.take (i-1)++[d.getD i 0,d.getD (i-1) 0]++d.drop (i+1)=g7 d i from rfl,Es J v];rfl
 refine⟨_,rfl,p,s,_,rfl,W _ _ h,rfl,p,F,S,rfl,(a.same W).shape,gR,λl4 Z s4 f4 e4=>?_⟩;have di:S.handed.length<=15:=q38 (q09 _ _) gR;have lE:Z G=some (.lst ((g7 d i).map V.int)):=s4 _ _ e3;have t4:=W.trans s4;refine⟨l4,rfl,⟨_,ah.of e4⟩,?_⟩;refine zY (xs:=S.handed.map V.str) (λk H n=>∃t:List Addr,H=t.map V.ref/\ae Z n/\All2 (IL K n) t ((S.handed.take k).map λi'=>if i'=j then g7 d i else(S.card i').getD [])) ⟨[],rfl,ae.refl _,.nil⟩ ?_ (by rw[q06];lia) ?_ ?_
 .rintro k H n D ⟨t,rfl,s5,r5⟩;refine⟨s5.seq (ah.of e4),?_⟩;have:=r5.length;rw[q06,q11]at this;rw[q06]
  lia
 .rintro k x H n hx ⟨t,rfl,s5,r5⟩;obtain⟨D,rfl⟩:=DZ hx;have N:=q24.mp (show S.handed.getD k "" ∈ S.ag.filter λj=>(S.card j).isSome from wu D);have t5:=t4.trans s5;refine⟨_,rfl,_,rfl,rfl,_,rfl,zX (λM=>?_) (λI=>?_)⟩
  .have M:S.handed.getD k ""=j:=by injection M
   refine⟨_,rfl,t++[G],by rw[q07];rfl,s5,?_⟩;rw[yz D,q07];refine r5.snoc ?_;show IL K n G (if S.handed.getD k ""=j then g7 d i else _);rw[q01 M];exact ah.of (s5 _ _ lE)
  .have I:¬S.handed.getD k ""=j:=λz=>I (by rw[z]);cases e:S.card (S.handed.getD k "")with
   | none=>rw[e]at N;exact q02 N.2 q23
   | some c =>
     refine⟨_,rfl,p,s,_,rfl,t5 _ _ h,rfl,_,rfl,p,F,S,_,rfl,a.same t5,λhj=>q02 N.1 hj,(λ_ z=>by rw[e]at z;cases z),λc' e' l6 H6 s6 f6 e6=>?_⟩;rw[e]at e';cases e';refine⟨t++[l6],by rw[q07];rfl,s5.trans s6,?_⟩;rw[yz D,q07];refine(r5.imp λ_ _=>IL.stays K _ _ _ _ s6).snoc ?_;show IL K H6 l6 (if S.handed.getD k ""=j then g7 d i else(S.card (S.handed.getD k "")).getD []);rw[q00 I,e];exact ah.of e6
 .rintro H n ⟨t,rfl,s5,r5⟩ l7 rH;rw[q06,q15]at r5;have s7:=s5.aw (o:=.lst (t.map V.ref)) rH;have e7:upd n l7 (.lst (t.map V.ref)) l7=some (.lst (t.map V.ref)):=zd;have r7:=r5.imp λ_ _=>IL.stays K _ _ _ _ (ae.new (o:=.lst (t.map V.ref)) rH);generalize IU:upd n l7 _=H7 at s7 e7 r7 ⊢;have X:=t4.trans s7;refine⟨_,rfl,_,rfl,_,rfl,p,s,_,rfl,X _ _ h,rfl,p,F,S,rfl,a.same X,λl8 H8 R f8 e8=>?_⟩;have t8:=X.trans R;have Ma:1<=S.handed.length:=q30 (q24.mpr ⟨BA,by rw[g];rfl⟩);refine⟨l7,l8,S.bC j (g7 d i),S.aa,rfl,⟨t,ah.of (R _ _ e7),r7.imp λ_ _=>IL.stays K _ _ _ _ R⟩,ah.of e8,ok.nd,Sh.gj ok ((OY J v).trans y),by rw[Sh.eV];exact Ma,by rw[Sh.eV];exact di,ok.c1,by lia,λl9 H9 s9 f9 e9=>⟨(by show 2<=sizeLine;decide),λg1 L=>?_⟩⟩;have t9:=t8.trans s9;exact q g1 l9 _ (t9.aw L) (t9.free L) (t8.free f9) zd ((ae.new L) _ _ e9)
variable (Ym:dq P w K m b 7 "step_up" LD (SR K))
inductive SS (K:Frag)(vs:List V)(H:Hp)(Q:VK)(E:XK):Prop|mk(a b:Addr) (t:List (List Int)) (e:List Int):vs=[.ref a,.ref b]->Refs K (IL K) H a t->ah K H b (e.map V.int)->e.Nodup->((∀d∈t,d.Perm e))->1<=t.length->t.length<=15->1<=e.length->e.length<=24->(∀(l:Addr)(v:Hp),ae H v->H l=none->v l=some (.lst ((vb t e).map V.int))->Q (.ref l) v)->SS K vs H Q E
include T xT in
theorem zlt(F:aS K "firsts_of" "firsts_of" LF f fd):ar P w K m b bp 7 f fd wV (SS K):=by
 refine F.ok zlP ?_;rintro O A outer s H W Q E J⟨a,b,v,e,rfl,C,c,M,G,B,g,N,u,q⟩;refine⟨_,(ze (zh (Ox (show aZ (zf LF) wV "place" "couple" [] [] _ from uI) rfl (uE rfl T.vD (za (aI xT J (za ak (za aA zb))) (za aA zb))) (λ_ _ _ _ _=>(yP (zj zG ak zg (zl _)))) (λ_ _ _ _ _=>aA)))),?_⟩;have R:=zq;refine⟨_,rfl,_,rfl,a,b,v,e,rfl,C,c,M,G,B,g,N,u,λL p j S k=>?_⟩;have I:=M6.yO v e;refine⟨_,rfl,L,b,_,_,rfl,ah.of k,j.seq c,?_⟩;refine pA (xs:=(M6.zB v e).map V.int) (ys:=e.map V.int) (λi r n=>ae p n/\r=(Cy (M6.zB v e) e i).map V.int) ⟨ae.refl _,rfl⟩ ?_ (by rw[q06,q06];lia) ?_ ?_
 .rintro i r n D ⟨s2,rfl⟩;refine⟨ah.of (s2 _ _ k),(j.trans s2).seq c,?_⟩;rw[q06];exact VE _ _ _
 .rintro i x y t r n hx hy ht ⟨s2,rfl⟩;obtain⟨D,rfl⟩:=yU hx;obtain⟨U,rfl⟩:=yU hy;refine⟨_,rfl,rfl,_,rfl,zX (λd=>?_) (λh=>?_)⟩
  .have d:(M6.zB v e).getD i 0=1:=by injection d
   refine⟨_,rfl,s2.aw ht,?_⟩;rw[Ki,q01 d,q07];rfl
  .have h:¬(M6.zB v e).getD i 0=1:=λz=>h (by rw[z]);refine⟨s2.aw ht,?_⟩;rw[Ki,q00 h,append_nil]
 .rintro r n ⟨s2,rfl⟩ l hl;rw[q06,q06,I,Nat.min_self]at *;have o:=j.trans s2;exact q l _ (o.aw hl) (o.free hl) zd
variable (Ms:bJ P w K m b 7 "firsts_of" wV (SS K))
inductive SU (K:Frag)(vs:List V)(H:Hp)(Q:VK)(E:XK):Prop|mk(p:Addr)(F:Addr->Prop)(S:Sh):vs=[.ref p]->aq K H p F S->((S.handed.length=0->∀C e,aX K "TooFewCards" C->ae H e->E (.ref C) none e))->((1<=S.handed.length->∀(l:Addr)(e:Hp),ae H e->H l=none->e l=some (.lst ((vb S.ao S.aa).map V.int))->Q (.ref l) e))->SU K vs H Q E
include T il rL xQ Ms in
theorem qL(F:aS K "firsts" "firsts" Qs f fd):ar P w K m b (dM P w) 8 f fd ["sheet"] (SU K):=by
 refine F.ic qo ?_;rintro X W V A outer g2 H vs Q E B y g md v⟨p,F,S,rfl,e,L,q⟩;subst B;refine⟨_,(zc (zI (yc rL g (hM v) rfl (za ak (za zg zb))))
  (ze (zh (aI Ms v (za (zL xQ T.ai (hM v) ak) (za (zL il T.ai (hM v) ak) zb)))))),?_⟩
 have ok:=e.ok;have u:S.handed.length<=15:=q38 (q09 _ _) ok.fD;have dO:=ok.dO;obtain⟨s,Y,Z,b3,g0,h⟩:=e.ins;refine⟨_,rfl,p,F,S,1,rfl,e,(λg1 C r x t=>by rw[y];exact L (by lia) C r x t),λh0 r t=>?_⟩;have c:1<=S.handed.length:=by lia
 refine⟨_,rfl,p,s,_,rfl,t _ _ h,rfl,p,F,S,rfl,e.same t,λD R J N f2 j M=>?_⟩;have a:=t.trans N;refine⟨_,rfl,p,s,_,rfl,a _ _ h,rfl,p,F,S,rfl,e.same a,λG U n f3 k=>?_⟩;have d:=a.trans n;refine⟨D,G,S.ao,S.aa,rfl,⟨J,ah.of (n _ _ j),M.imp λ_ _ z=>ah.of (n _ _ z.2)⟩,ah.of k,ok.nd,Sh.aQ ok,by rw[Sh.aT];exact c,by rw[Sh.aT];exact u,ok.c1,by lia,λI i O o l=>?_⟩;exact q c I i (d.trans O) (d.free o) l
variable (Yn:dq P w K m b 8 "firsts" ["sheet"] (SU K))
inductive SV (K:Frag)(vs:List V)(H:Hp)(Q:VK)(E:XK):Prop|mk(x:Addr)(F:Addr->Prop)(S:Sh)(c:Int):vs=[.ref x,.int c]->aq K H x F S->((S.handed.length=0->∀C e,aX K "TooFewCards" C->ae H e->E (.ref C) none e))->((1<=S.handed.length->c∉S.aa->∀C e,aX K "UnknownCouple" C->ae H e->E (.ref C) none e))->((1<=S.handed.length->c∈S.aa->∀e,ae H e->Q (.str (M6.Bh (M6.gk S.ao S.aa c) c (M5.zp S.ao c) S.aa.length)) e))->SV K vs H Q E
include T il X7 Mr in
theorem zlg(F:aS K "table_row" "table_row" Qt f fd):ar P w K m b (dM P w) 8 f fd LG (SV K):=by
 obtain⟨cS,G,H,D⟩:=T.au;refine F.ic WM ?_;rintro g3 g2 aN A outer g4 g0 vs g1 E N o L W n⟨x,F,S,c,rfl,e,Y,X,q⟩;subst N;refine⟨_,(zc (br 2 WM.nd (yc Mr L (hM n) rfl (za ak zb)))
  (zc (zu (zj yC aA (zL il T.ai (hM n) ak) (by first | exact zl _ | rfl)) (ze (yh rfl W rfl H D (za zm zb))) zn)
  (ze (zh (aI X7 n (za ak (za (zx zr aL (yD PySem.F.plainAttrs_list PySem.F.slot_list_index PySem.F.type_list_index DP (zL il T.ai (hM n) ak) (za aA zb)) bF) (za aA zb)))))))),?_⟩
 have cF:=zq;have ok:=e.ok;have dO:=ok.dO;obtain⟨j,b1,b2,b3,d,p⟩:=e.ins;refine⟨_,rfl,x,F,S,rfl,e,(λh C s M v=>by rw[o];exact Y h C s M v),λl Q s v f1 I=>?_⟩;refine⟨_,rfl,_,rfl,x,j,_,rfl,v _ _ p,rfl,x,F,S,rfl,e.same v,λR H2 g f2 J=>?_⟩;have a:=v.trans g;refine⟨R,_,rfl,.inl (ah.of J),rfl,zA _,_,rfl,?_⟩;rw[Ff];refine yl (λt=>?_) (λt=>?_)
 .exact⟨(by show 1<=sizeLine;decide),by rw[o];exact X l t _ _ G a⟩
 have r:=idxOf_lt_length_of_mem t;refine⟨_,rfl,_,rfl,_,rfl,x,j,_,rfl,a _ _ p,rfl,x,F,S,rfl,e.same a,λU H3 u f3 k=>?_⟩;refine⟨.inl ⟨rfl,_,ah.of k⟩,_,rfl,U,_,_,rfl,rfl,ah.of k,rfl,zA _,(by rw[wd,q06];exact r),?_⟩;rw[wd];have z:fN ((M6.zB S.ao S.aa).map V.int) (S.aa.idxOf c:Int)=some (.int (M6.gk S.ao S.aa c)):=by
  have:=zO (qZ (ns:=M6.zB S.ao S.aa) (i:=S.aa.idxOf c) (by rw[M6.yO];exact r));rw[M6.VF r,M6.O0 t]at this;exact this
 have O:(M6.gk S.ao S.aa c).natAbs<=990:=by
  unfold M6.gk M6.front;have:=q09 (λd=>M6.yp (M5.zp S.ao d) (M5.zp S.ao c) S.aa.length) S.aa
  lia
 have y:=a.trans u;refine⟨Q,_,_,_,rfl,rfl,ah.of (u _ _ (g _ _ I)),z,_,rfl,x,F,S,_,c,rfl,e.same y,t,O,λB Z=>q l t B (y.trans Z)⟩
variable (Yo:dq P w K m b 8 "table_row" LG (SV K))
inductive SW (K:Frag)(vs:List V)(H:Hp)(Q:VK)(E:XK):Prop|mk(p:Addr)(F:Addr->Prop)(S:Sh):vs=[.ref p]->aq K H p F S->((S.handed.length<2->∀C e,aX K "TooFewCards" C->ae H e->E (.ref C) none e))->((2<=S.handed.length->∀(l:Addr)(e:Hp),ae H e->H l=none->e l=some (.lst (S.decide.map V.str))->Q (.ref l) e))->SW K vs H Q E
include T il rE rL Mj Ms Yn in
theorem zmJ(F:aS K "deciders" "deciders" LH f fd):ar P w K m b (dM P w) 9 f fd ["sheet"] (SW K):=by
 refine F.ic WN ?_;rintro g8 g6 aN g3 outer gC g4 vs g5 E R Q y md t⟨p,F,S,rfl,e,qE,q⟩;subst R;refine⟨_,(zc (zI (yc rL y (hM t) rfl (za ak (za zg zb))))
  (zc (br 1 WN.nd (yc Yn y (hM t) rfl (za ak zb)))
  (ze (zh (zN (show aj (zf LH) ["sheet","now"] "judge" ["sheet","now"] [0,1] _ from dU) rfl (zz (zL rE T.ai (hM t) ak)) (λ_ _ _ _ _=>(yP (zj (wK (K:=K) rfl t.bE) (aI Ms t (za (aI Mj t (za aA (za ak zb))) (za (zL il T.ai (hM t) aA) zb))) aL (zl _)))) (λ_ _ _ _ _=>ak)))))),?_⟩
 have cF:=zq;have ok:=e.ok;have gR:S.handed.length<=15:=q38 (q09 _ _) ok.fD;have dO:=ok.dO;obtain⟨g,b1,b2,b3,g9,o⟩:=e.ins;refine⟨_,rfl,p,F,S,2,rfl,e,(λgB C k O a=>by rw[Q];exact qE (by lia) C k O a),λh0 k a=>?_⟩;have N:2<=S.handed.length:=by lia
 have q:=q N;refine⟨_,rfl,p,F,S,rfl,e.same a,(λg0=>q02 g0 (by lia)),λ_ X H2 s2 f2 I=>?_⟩;have c:=a.trans s2;refine⟨_,rfl,p,g,_,rfl,c _ _ o,rfl,p,F,S,rfl,(e.same c).shape,ok.fD,λY G z f3 u=>?_⟩;have B:=c.trans z;refine⟨Y,rfl,⟨_,ah.of u⟩,?_⟩;refine yL (xs:=S.handed.map V.str) (λi r n=>ae G n/\r=((S.handed.take i).filter λj => !Decidable.decide (vb (S.bg j) S.aa=vb S.ao S.aa)).map V.str) ⟨ae.refl _,rfl⟩ ?_ (by rw[q06];lia) ?_ ?_
 .rintro i r n h ⟨s4,rfl⟩;refine⟨s4.seq (ah.of u),?_⟩;rw[q06];exact q38 (q09 _ _) (by rw[q11];lia)
 .rintro i x r n hx ⟨s4,rfl⟩;obtain⟨h,rfl⟩:=DZ hx;have v:=B.trans s4;refine⟨_,rfl,_,rfl,p,F,S,_,rfl,e.same v,λZ H5 W A f5 J r5=>?_⟩;have D:=v.trans A;refine⟨_,rfl,p,g,_,rfl,D _ _ o,rfl,p,F,S,rfl,e.same D,λl6 H6 s f6 L=>?_⟩;have g1:=Sh.lW ok.uO (S.handed.getD i "");have g2:=Sh.lV S (S.handed.getD i "");refine⟨Z,l6,_,S.aa,rfl,⟨W,ah.of (s _ _ J),r5.imp λ_ _=>IL.stays K _ _ _ _ s⟩,ah.of L,ok.nd,Sh.dW ok _,by lia,by lia,ok.c1,by lia,λl7 H7 s7 f7 M=>?_⟩;have d:=((s4.trans A).trans s).trans s7;refine⟨_,rfl,l7,X,_,_,rfl,rfl,ah.of M,ah.of ((z.trans d) _ _ I),zA _,zA _,_,rfl,?_⟩;rw[yZ];refine yl (λH=>?_) (λU=>?_)
  .refine⟨_,rfl,d,?_⟩;rw[yz h,q16,q17,q01 (by rw[q20 H];rfl),q07];rfl
  .refine⟨d,?_⟩;rw[yz h,q16,q17,q00 (by rw[q19 U];decide),filter_nil,append_nil]
 .rintro r n ⟨s4,rfl⟩ l hl;rw[q06,q15]at *;have v:=B.trans s4;exact q l _ (v.aw hl) (v.free hl) zd
variable (Yp:dq P w K m b 9 "deciders" ["sheet"] (SW K))
inductive Mt (K:Frag)(vs:List V)(H:Hp)(Q:VK)(E:XK):Prop|mk(a b:Addr)(v e:List Int):vs=[.ref a,.ref b]->ah K H a (v.map V.int)->ah K H b (e.map V.int)->v.length=e.length->((∀k,k<e.length->1<=v.getD k 0/\v.getD k 0<=e.length))->1<=e.length->e.length<=24->bM (wl K "by_place") iG H->(∀(l:Addr)(t:Hp)(n:List Addr),bS H t->bM (wl K "by_place") iG t->H l=none->t l=some (.lst (n.map V.ref))->All2 (iI K t) n (M5.rows v e)->Q (.ref l) t)->Mt K vs H Q E
include T Mr in
theorem zme(F:aS K "by_place" "by_place" FI f fd)(L:Oq K "by_place" f)(B:AQ m b):ar P w K m b bp 11 f fd ["places","couples"] (Mt K):=by
 refine F.okC L zmM (λu H Q E h=>?_) (λc A outer s H u Q E r j h=>?_)
 .obtain⟨a,b,ps,us,rfl,_⟩:=h;rfl
 .obtain⟨a,b,ps,us,rfl,hA,hB,hl,hk,u1,u2,hT,q⟩:=h;refine⟨_,(ze (zh (pz rfl (hM j) (by rfl) T.gn (by rfl) T.vD rfl r B ⟨rfl,rfl,rfl,by decide,rfl,by decide +kernel,by decide +kernel⟩ rfl (by decide) (by decide) rfl rfl (λ_ _ _ _ _ _=>rfl) (za ak (za aA zb))))),?_⟩;refine⟨_,rfl,_,rfl,a,b,ps,us.map V.int,rfl,hA,hB,by rw[q06];exact hl,by lia,by lia,hT,λx g l p n k o e t=>?_⟩;rw[hl]at t;have d:∀i∈p.toList,i<us.length:=λi h=>by
   rw[M15.vC t hk]at h;exact List.mem_range.mp ((M15.nZ _ _ hk i).mp h)
  have v:=Wj (K:=K) hl o p.toList d;rw[M15.Bz hl hk t]at v;refine q l _ (p.toList.map λi=>g.getD i 0) (n.trans (ae.new e).toN) (k.same (ae.new e)) (n.free e) ?_ (v.imp λ_ _=>iI.stays K _ _ _ _ (ae.new e));rw[map_map];exact zd
variable (Mu:bJ P w K m b 11 "by_place" ["places","couples"] (Mt K))
inductive SX (K:Frag)(vs:List V)(H:Hp)(Q:VK)(E:XK):Prop|mk(a b:Addr) (v:List (List Int)) (e:List Int):vs=[.ref a,.ref b]->Refs K (IL K) H a v->ah K H b (e.map V.int)->e.Nodup->((∀d∈v,d.Perm e))->1<=v.length->v.length<=15->1<=e.length->e.length<=24->bM (wl K "by_place") iG H->(∀(l:Addr)(t:Hp)(n:List Addr),bS H t->bM (wl K "by_place") iG t->H l=none->t l=some (.lst (n.map V.ref))->All2 (iI K t) n (M5.rows (M6.zB v e) e)->Q (.ref l) t)->SX K vs H Q E
include T xT Mu in
theorem zj3(F:aS K "ranking_of" "ranking_of" Qu f fd):ar P w K m b bp 12 f fd Iz (SX K):=by
 refine F.ok zjO ?_;rintro J A outer s H M Q E r⟨a,b,t,e,rfl,g,n,D,x,i,j,h,c,u,q⟩;refine⟨_,(ze (zh (aI Mu r (za (aI xT r (za ak (za aA zb))) (za aA zb))))),?_⟩;refine⟨_,rfl,_,rfl,a,b,t,e,rfl,g,n,D,x,i,j,h,c,λy I v L k=>?_⟩;refine⟨_,rfl,y,b,M6.zB t e,e,rfl,ah.of k,v.seq n,M6.yO t e,M6.Pb t e,h,c,u.same v,λl d z C G p o B=>?_⟩;exact q l d z (v.toN.trans C) G (v.toN.free p) o B
variable (Mv:bJ P w K m b 12 "ranking_of" Iz (SX K))
inductive SY (K:Frag)(vs:List V)(H:Hp)(Q:VK)(E:XK):Prop|mk(p:Addr)(F:Addr->Prop)(S:Sh)(a:Addr) (t:List (List Int)):vs=[.ref p,.ref a]->aq K H p F S->ah K H a ((M6.zB t S.aa).map V.int)->bM (wl K "by_place") iG H->(∀e,bS H e->bM (wl K "by_place") iG e->Q (.str (M6.vt t S.aa)) e)->SY K vs H Q E
include T il LY Mr Mu in
theorem ziD(F:aS K "places_text" "places_text" Qv f fd):ar P w K m b bp 12 f fd wH (SY K):=by
 refine F.ok zi2 ?_;rintro R A outer s H vs Q E t⟨p,F,S,a,cs,rfl,e,u,x,q⟩;refine⟨_,(ze (zh (aI LY t (za (aI Mu t (za aA (za (zL il T.ai (hM t) ak) zb))) zb)))),?_⟩;have ok:=e.ok;have X:=ok.dO;obtain⟨l,U,V,W,d,j⟩:=e.ins;refine⟨_,rfl,_,rfl,p,l,_,rfl,j,rfl,p,F,S,rfl,e,λz L v Y o=>?_⟩;refine⟨a,z,M6.zB cs S.aa,S.aa,rfl,v.seq u,ah.of o,M6.yO cs S.aa,λk y=>M6.Pb cs S.aa k y,ok.c1,by lia,x.same v,λB M C G J Z g D=>?_⟩;refine⟨B,C,_,rfl,ah.of g,D,by rw[M6.HV];lia,λh I=>?_,λi c=>q i ((v.toN.trans G).trans c.toN) (J.same c)⟩;obtain⟨n,r⟩:=M6.CA I;have N:=M6.FE (cs:=cs) n;have O:=ok.cY _ n;have r:h.1=M6.gk cs S.aa h.2:=r
 lia
variable (Mw:bJ P w K m b 12 "places_text" wH (SY K))
inductive S0 (K:Frag)(vs:List V)(H:Hp)(Q:VK)(E:XK):Prop|mk(a b:Addr) (v:List (List Int)) (e:List Int):vs=[.ref a,.ref b]->Refs K (IL K) H a v->ah K H b (e.map V.int)->e.Nodup->((∀d∈v,d.Perm e))->1<=v.length->v.length<=15->1<=e.length->e.length<=24->bM (wl K "by_place") iG H->(∀(l:Addr)(t:Hp)(n:List Addr),bS H t->bM (wl K "by_place") iG t->H l=none->t l=some (.lst (n.map V.ref))->All2 (F4 K t) n (M6.yq v e)->Q (.ref l) t)->S0 K vs H Q E
include T EI X5 Mv in
theorem zjm(F:aS K "partings_of" "partings_of" LI f fd):ar P w K m b bp 13 f fd LJ (S0 K):=by
 refine F.ok yT ?_;rintro aN g3 outer gC g4 vs g5 E A⟨a,b,n,v,rfl,hC,hU,xP,u,c1,c2,u1,M,hT,g0⟩;refine⟨_,(zc (Vb (i:=2) (show aZ (zf LI) WO "place" "couple" [] [] _ from uI) rfl yT.nd rfl (Or.inl rfl) (zz (aI Mv A (za ak (za aA zb)))) (λ_ _ _ _ _=>yA) (λ_ _ _ _ _=>aA))
  (zc (br 3 yT.nd (zv zb))
  (zc (wf PassesOwn.never rfl (uE rfl T.vD (za aL (za (zF zV aL (zK zg) zR) zb))) (Jw rfl (wp (iH 4 yT.nd) (wp (iH 5 yT.nd) Jv)))
    (zc (br 6 yT.nd (aI X5 A (za (aI EI A (za ak (za cO zb))) (za (aI EI A (za ak (za fS zb))) zb))))
  (ze (zu (zj Ah fC E4 (zl _)) (ze (zI (yD PySem.F.plainAttrs_list PySem.F.slot_list_append PySem.F.type_list_append yj bB (za (oO (za cO (za fS (za (zx qW fC zg bF) (za (zx qW fC zg bF) zb))))) zb)))) zn))))
  (ze (zh bB))))),?_⟩
 have cF:=zq;refine⟨_,rfl,_,rfl,a,b,n,v,rfl,hC,hU,xP,u,c1,c2,u1,M,hT,λl1 H1 ls s1 z1 f1 e1 r1=>?_⟩;refine⟨l1,rfl,⟨_,ah.of e1⟩,?_⟩;have t1:=s1.same;have Yq:=hC.ph;have g6:=λp (u:p∈M5.rows (M6.zB n v) v)=>M6.CA u;have mB:=M5.bQ (M6.zB n v) v (M6.yO n v);have gB:v.length*v.length<=24*24:=mul_le_mul M M;unfold M6.yq at g0;generalize M5.rows (M6.zB n v) v=rs at r1 mB g6 g0;have du:=r1.length;refine Vc (xs:=ls.map V.ref) (λi ys z=>ae H1 z/\ys=((rs.take i).map λp=>p.2).map V.int) ⟨ae.refl _,rfl⟩ ?_ (by rw[q06];lia) ?_ ?_
 .rintro i ys z hi ⟨s2,rfl⟩;refine⟨s2.seq (ah.of e1),?_⟩;rw[q06,q06,q11]
  lia
 .rintro i x ys z l ⟨s2,rfl⟩;obtain⟨p,ep,rfl⟩:=wN l;obtain⟨m,em,rm⟩:=r1.getL ep;refine⟨p,_,_,rfl,s2.lI rm,_,rfl,s2,?_⟩;rw[take_succ,em,q07,q07];rfl
 .rintro ys z ⟨s2,rfl⟩ l2 di;rw[q06,du,q15];generalize jq:upd z l2 _=q;have IV:ae z q:=by rw[<-jq];exact ae.new di
  have Y:q l2=some (.lst ((rs.map λp=>p.2).map V.int)):=by rw[<-jq];exact zd
  have h:=s2.trans IV;refine⟨by decide,λs J=>?_⟩;have e4:(upd q s (.lst [])) l2=some (.lst ((rs.map λp=>p.2).map V.int)):=(ae.new J) _ _ Y;refine⟨_,rfl,_,rfl,_,rfl,l2,_,rfl,ah.of e4,λg gy=>?_⟩;rw[wY (by decide)];have s4:=ae.new (o:=.lst []) J;have s5:=ae.new (o:=.lst (((rs.map λp=>p.2).drop (1:Int).toNat).map V.int)) gy;have xM:s≠g:=zk zd gy;have e6:upd (upd q s (.lst [])) g (.lst (((rs.map λp=>p.2).drop (1:Int).toNat).map V.int)) s=some (.lst (([]:List Addr).map V.ref)):=by rw[zi xM];exact zd
  have Z:upd (upd q s (.lst [])) g (.lst (((rs.map λp=>p.2).drop (1:Int).toNat).map V.int)) g=some (.lst (((rs.map λp=>p.2).drop 1).map V.int)):=zd;have W:=s4.trans s5;generalize FK:upd (upd q s (.lst [])) g _=H6 at e6 Z W ⊢;have g9:q g=none:=s4.free gy;refine⟨l2,g,_,_,rfl,ah.of (W _ _ Y),ah.of Z,?_⟩;refine AU (xs:=(rs.map λp=>p.2).map V.int) (ys:=((rs.map λp=>p.2).drop 1).map V.int) (λi R k=>∃(N O Q:Option V)(ms:List Addr),R=[some (.ref a),some (.ref b),some (.ref l2),some (.ref s),N,O,Q]/\ae q k/\k g=some (.lst (((rs.map λp=>p.2).drop 1).map V.int))/\k s=some (.lst (ms.map V.ref))/\All2 (F4 K k) ms (((rs.zip rs.tail).take i).filterMap λe=>M6.nb n v e.1 e.2)) ⟨_,_,_,[],rfl,W,Z,e6,.nil⟩ ?_ ?_ ?_
  .rintro i R k hi ⟨N,O,Q,ms,rfl,s7,f5,f4,r7⟩;exact⟨ah.of (s7 _ _ Y),ah.of f5⟩
  .rintro i x y t R k l hy hn ⟨N,O,Q,ms,rfl,s7,f5,f4,r7⟩;rw[q26,q26]at l;rw[q26,List.getElem?_drop,q26,Nat.add_comm]at hy;cases H:rs[i]? with
   | none=>rw[H]at l;cases l
   | some c =>
     cases I:rs[i+1]? with
     | none=>rw[I]at hy;cases hy
     | some j =>
       rw[H]at l;rw[I]at hy;cases l;cases hy;have ez:(rs.zip rs.tail)[i]? = some (c,j):=by rw[List.getElem?_zip_eq_some];exact⟨H,by rw[List.getElem?_tail];exact I⟩
       obtain⟨S,L0⟩:=g6 _ (mem_of_getElem? H);obtain⟨U,L1⟩:=g6 _ (mem_of_getElem? I);have B:=ae.new (o:=.tup [.int c.2,.int j.2]) hn;refine⟨t,_,rfl,cE.new,rfl,_,_,rfl,_,_,rfl,rfl,?_⟩;have t8:=((t1.trans (s2.trans IV)).trans s7).trans B;have Yr:=B _ _ f4;have Ys:=B _ _ f5;have r8:=r7.imp λ_ _=>F4.stays K _ _ _ _ B;have Yt:=s7.trans B;generalize QR:upd k t _=H8 at B t8 Yr Ys r8 Yt ⊢;refine⟨_,rfl,_,rfl,a,n,_,rfl,Yq.same (IL.stays K) t8,by lia,λd D=>(u d D).mem_iff.mpr S,λl9 H9 s9 f9 e9=>?_⟩;refine⟨_,rfl,_,rfl,a,n,_,rfl,Yq.same (IL.stays K) (t8.trans s9),by lia,λd D=>(u d D).mem_iff.mpr U,λiQ vI gq g8 kL=>?_⟩;have cY:∀d∈v,∀x∈M5.zp n d,1<=x/\x<=24:=λd D x l=>by have:=M6.yE u D x l;lia
       refine⟨l9,iQ,_,_,rfl,ah.of (gq _ _ e9),ah.of kL,by rw[M5.zU,M5.zU],by rw[M5.zU];lia,by rw[M5.zU];lia,cY _ S,cY _ U,λr A g1 CT iZ L=>?_⟩;have X:=M6.Bn u u1 M S U A;rw[<-L0,<-L1]at X;have G:=s9.trans (gq.trans iZ);have C:=G _ _ Yr;have Yu:=G _ _ Ys;have EW:=r8.imp λ_ _=>F4.stays K _ _ _ _ G;have Ja:=Yt.trans G;cases r with
       | none =>
         have L:g1=.bR:=L;subst L;have ef:filterMap (λe:(Int×Int)×(Int×Int)=>M6.nb n v e.1 e.2) (some (c,j)).toList=[]:=by
          show filterMap _ [(c,j)]=_;rw[List.filterMap_cons_none (f:=λe:(Int×Int)×(Int×Int)=>M6.nb n v e.1 e.2) (a:=(c,j)) X,filterMap_nil]
         refine⟨_,rfl,rfl,_,rfl,GS rfl ?_⟩;refine⟨_,_,_,ms,rfl,Ja,Yu,C,?_⟩;rw[take_succ,ez,filterMap_append,ef,append_nil];exact EW
       | some r =>
         obtain⟨kN,rfl,Jb⟩:=L;have ef:filterMap (λe:(Int×Int)×(Int×Int)=>M6.nb n v e.1 e.2) (some (c,j)).toList=[(c.2,j.2,(r.1:Int),r.2)]:=by
          show filterMap _ [(c,j)]=_;rw[List.filterMap_cons_some (f:=λe:(Int×Int)×(Int×Int)=>M6.nb n v e.1 e.2) (a:=(c,j)) X,filterMap_nil]
         refine⟨_,rfl,rfl,_,rfl,yl (λ_=>?_) (λg2=>by cases g2)⟩;refine⟨_,rfl,.inl ⟨rfl,_,ah.of C⟩,_,rfl,_,rfl,_,rfl,kN,_,_,_,rfl,rfl,Jb,rfl,_,rfl,kN,_,_,_,rfl,rfl,Jb,rfl,(by show 4<=sizeLine;decide),λYv S3=>?_⟩;have h:=ae.new (o:=.tup [.int c.2,.int j.2,.int (r.1:Nat),.str r.2]) S3;have di:=r7.length;have iC:=List.length_filterMap_le (λe:(Int×Int)×(Int×Int)=>M6.nb n v e.1 e.2) ((rs.zip rs.tail).take i);rw[q11,length_zip]at iC;refine⟨s,_,_,rfl,rfl,h _ _ C,by rw[q06];lia,?_⟩;refine⟨_,_,_,ms++[Yv],rfl,(Ja.trans h).put J,by rw[zi (Ne.symm xM)];exact h _ _ Yu,ON ms Yv,?_⟩;rw[take_succ,ez,filterMap_append,ef];refine All2.snoc (F4.put (EW.imp λ_ _=>F4.stays K _ _ _ _ h) (h _ _ C)) ?_;exact cE.put (ys:=ms.map V.ref) cE.new (h _ _ C)
  .rintro R k ⟨N,O,Q,ms,rfl,s7,f5,f4,r7⟩;rw[q06,q06,q06,length_drop,q06,take_of_length_le (by rw[length_zip,length_tail];lia)]at r7;refine⟨_,rfl,g0 s k ms ?_ (z1.same (h.trans s7)) ?_ f4 r7⟩
   .exact s1.trans (ae.toN (h.trans s7))
   .exact s1.free (h.free J)
variable (Yw:bJ P w K m b 13 "partings_of" LJ (S0 K))
inductive S4 (K:Frag)(vs:List V)(H:Hp)(Q:VK)(E:XK):Prop|mk(p:Addr)(F:Addr->Prop)(S:Sh):vs=[.ref p]->aq K H p F S->bM (wl K "by_place") iG H->((S.handed.length=0->∀C e,aX K "TooFewCards" C->ae H e->E (.ref C) none e))->((1<=S.handed.length->∀(l:Addr)(e:Hp)(t:List Addr),bS H e->bM (wl K "by_place") iG e->H l=none->e l=some (.lst (t.map V.ref))->All2 (iI K e) t (M5.rows (M6.zB S.ao S.aa) S.aa)->Q (.ref l) e))->S4 K vs H Q E
include T il rL xQ Mv in
theorem mF(F:aS K "ranking" "ranking" Qw f fd):ar P w K m b (dM P w) 13 f fd ["sheet"] (S4 K):=by
 refine F.ic mw ?_;rintro g0 W aN A outer g3 H vs Q E G D u md v⟨p,F,S,rfl,e,B,N,q⟩;subst G;refine⟨_,(zc (zI (yc rL u (hM v) rfl (za ak (za zg zb))))
  (ze (zh (aI Mv v (za (zL xQ T.ai (hM v) ak) (za (zL il T.ai (hM v) ak) zb)))))),?_⟩
 have ok:=e.ok;have x:S.handed.length<=15:=q38 (q09 _ _) ok.fD;have dO:=ok.dO;obtain⟨c,b1,b2,b3,g1,s⟩:=e.ins;refine⟨_,rfl,p,F,S,1,rfl,e,(λg2 C h y t=>by rw[D];exact N (by lia) C h y t),λh0 h t=>?_⟩;have d:1<=S.handed.length:=by lia
 refine⟨_,rfl,p,c,_,rfl,t _ _ s,rfl,p,F,S,rfl,e.same t,λI Y M U f2 k O=>?_⟩;have a:=t.trans U;refine⟨_,rfl,p,c,_,rfl,a _ _ s,rfl,p,F,S,rfl,e.same a,λJ Z n f3 l=>?_⟩;have r:=a.trans n;refine⟨I,J,S.ao,S.aa,rfl,⟨M,ah.of (n _ _ k),O.imp λ_ _ z=>ah.of (n _ _ z.2)⟩,ah.of l,ok.nd,Sh.aQ ok,by rw[Sh.aT];exact d,by rw[Sh.aT];exact x,ok.c1,by lia,B.same r,λL i j V X g o R=>?_⟩;exact q d L i j (r.toN.trans V) X (r.free g) o R
variable (Yx:dq P w K m b 13 "ranking" ["sheet"] (S4 K))
inductive S6 (K:Frag)(vs:List V)(H:Hp)(Q:VK)(E:XK):Prop|mk(p:Addr)(F:Addr->Prop)(S:Sh)(j:Str)(c:Int):vs=[.ref p,.str j,.int c]->aq K H p F S->bM (wl K "by_place") iG H->((∀z,S.cz (.ik j c)=some z->∀C e,aX K z C->ae H e->E (.ref C) none e))->((S.cz (.ik j c)=none->∀e,bS H e->bM (wl K "by_place") iG e->Q (.str (S.kG (.ik j c))) e))->S6 K vs H Q E
include T Ym Mw in
theorem zlv(F:aS K "step_text" "step_text" Qx f fd):ar P w K m b (dM P w) 13 f fd LL (S6 K):=by
 refine F.ic WQ ?_;rintro g4 g3 aN g1 outer g5 H vs g2 E hX hW B md I⟨p,F,S,j,c,rfl,o,Z,s,g0⟩;subst hX;refine⟨_,(zc (br 3 WQ.nd (yc Ym B (hM I) rfl (za ak (za aA (za aL zb)))))
  (ze (zh (zo zC (zo zC (zy wW (by rfl) T.cb boot_str (za (zx qW bB zg bF) zb)) zm) (aI Mw I (za ak (za (zx qW bB zg bF) zb))))))),?_⟩
 subst hW;have cF:=zq;have ok:=o.ok;have dO:=ok.dO;refine⟨_,rfl,_,rfl,_,rfl,p,F,S,j,c,rfl,o,(λa C n=>s _ (by show(if j∈S.ag then _ else _)=_;rw[q00 a]) C H n (ae.refl _)),(λhp a C n=>s _ (by show(if j∈S.ag then _ else _)=_;rw[q01 hp,q01 a]) C H n (ae.refl _)),(λhs a C k n g=>s _ ?_ C k n g),(λd v r G C k n g=>s _ ?_ C k n g),λd i v G q r t l R u ft B Y X=>?_⟩
 .obtain⟨d,v⟩:=Option.isSome_iff_exists.mp hs;show(if j∈S.ag then _ else _)=_;rw[q01 (ok.cd j d v).1,q00 (by rw[v];exact λz=>by cases z),q00 a]
 .show(if j∈S.ag then _ else _)=_;rw[q01 (ok.cd j d v).1,q00 (by rw[v];exact λz=>by cases z),q01 r,q01 (by rw[v];exact G)]
 obtain⟨M,h⟩:=ok.cd j d v;have Ci:=h.length_eq;have x:d.Nodup:=h.nodup_iff.mpr ok.nd;have A:d.getD i 0=d[i]:=by rw[q18,q31 q];rfl
 have D:d.idxOf c=i:=by
  rw[<-r,A];exact x.idxOf_getElem i q
 have Q:c∈S.aa:=by
  rw[<-r,A];exact h.mem_iff.mp (q44 q)
 have O:S.cz (.ik j c)=none:=by
  show(if j∈S.ag then _ else _)=_;rw[q01 M,q00 (by rw[v];exact λz=>by cases z),q01 Q,q00];rw[v];intro z;have y:0<d.length:=by lia
  have z:d.getD 0 0=c:=z;have:d.idxOf c=0:=by
   rw[<-z,show d.getD 0 0=d[0] by rw[q18,q31 y];rfl];exact x.idxOf_getElem 0 y
  lia
 have N:1<=d.getD (i-1) 0/\d.getD (i-1) 0<=999:=by
  have J:i-1<d.length:=by lia
  rw[show d.getD (i-1) 0=d[i-1] by rw[q18,q31 J];rfl];exact ok.cY _ (h.mem_iff.mp (q44 J))
 have L:cE K R t [.int (d.getD (i-1) 0),.ref l]:=.inl (.inl Y);have rG:=M6.Wa (cs:=S.bC j (g7 d i)) ok.cY (by lia);have W:=M6.yt N;have V:(" | ":Str).length=3:=by decide +kernel
 unfold tN at W;refine⟨_,rfl,t,_,_,.int (d.getD (i-1) 0),rfl,rfl,L,zO (j:=0) rfl,_,rfl,yI (by lia),_,_,rfl,rfl,?_,_,rfl,_,rfl,t,_,_,.ref l,rfl,rfl,L,zO (j:=1) rfl,p,F,S,l,S.bC j (g7 d i),rfl,o.same u,ah.of X,Z.same u,λU s2 z2=>?_⟩
 .show(Str.ofString (toString (d.getD (i-1) 0))).length+(" | ":Str).length<=sizeLine
  lia
 .refine⟨_,_,rfl,rfl,?_,?_⟩
  .rw[zw,V];show(Str.ofString (toString (d.getD (i-1) 0))).length+3+_<=sizeLine
   lia
  .have:=g0 O U (u.toN.trans s2) z2;have e:S.kG (.ik j c)=tN (d.getD (i-1) 0)++(" | ":Str) ++ M6.vt (S.bC j (g7 d i)) S.aa:=by
    show HX ((S.card j).getD []) c _=_;rw[v];show HX d c (M6.vt (S.bC j (g7 d (d.idxOf c))) S.aa)=_;rw[D];unfold HX;rw[D]
   rw[e]at this;exact this
variable (Yz:dq P w K m b 13 "step_text" LL (S6 K))
inductive S7 (K:Frag)(vs:List V)(H:Hp)(Q:VK)(E:XK):Prop|mk(p:Addr)(F:Addr->Prop)(S:Sh):vs=[.ref p]->aq K H p F S->bM (wl K "by_place") iG H->((S.handed.length=0->∀C e,aX K "TooFewCards" C->ae H e->E (.ref C) none e))->((1<=S.handed.length->∀(l:Addr)(e:Hp)(t:List Addr),bS H e->bM (wl K "by_place") iG e->H l=none->e l=some (.lst (t.map V.ref))->All2 (F4 K e) t (M6.yq S.ao S.aa)->Q (.ref l) e))->S7 K vs H Q E
include T il rL xQ Yw in
theorem zmi(F:aS K "partings" "partings" Qy f fd):ar P w K m b (dM P w) 14 f fd ["sheet"] (S7 K):=by
 refine F.ic zlY ?_;rintro g0 W aN A outer g3 H vs Q E G D u md v⟨p,F,S,rfl,e,B,N,q⟩;subst G;refine⟨_,(zc (zI (yc rL u (hM v) rfl (za ak (za zg zb))))
  (ze (zh (aI Yw v (za (zL xQ T.ai (hM v) ak) (za (zL il T.ai (hM v) ak) zb)))))),?_⟩
 have ok:=e.ok;have x:S.handed.length<=15:=q38 (q09 _ _) ok.fD;have dO:=ok.dO;obtain⟨c,b1,b2,b3,g1,s⟩:=e.ins;refine⟨_,rfl,p,F,S,1,rfl,e,(λg2 C h y t=>by rw[D];exact N (by lia) C h y t),λh0 h t=>?_⟩;have d:1<=S.handed.length:=by lia
 refine⟨_,rfl,p,c,_,rfl,t _ _ s,rfl,p,F,S,rfl,e.same t,λI Y M U f2 k O=>?_⟩;have a:=t.trans U;refine⟨_,rfl,p,c,_,rfl,a _ _ s,rfl,p,F,S,rfl,e.same a,λJ Z n f3 l=>?_⟩;have r:=a.trans n;refine⟨I,J,S.ao,S.aa,rfl,⟨M,ah.of (n _ _ k),O.imp λ_ _ z=>ah.of (n _ _ z.2)⟩,ah.of l,ok.nd,Sh.aQ ok,by rw[Sh.aT];exact d,by rw[Sh.aT];exact x,ok.c1,by lia,B.same r,λL i j V X g o R=>?_⟩;exact q d L i j (r.toN.trans V) X (r.free g) o R
variable (YA:dq P w K m b 14 "partings" ["sheet"] (S7 K))
inductive S8 (K:Frag)(vs:List V)(H:Hp)(Q:VK)(E:XK):Prop|mk(p:Addr)(F:Addr->Prop)(S:Sh)(q:Qn)(a:Addr):vs=[.ref p,.str q.f,.str q.j,.ref a]->aq K H p F S->ah K H a (q.ns.map V.int)->bM (wl K "by_place") iG H->((∀z∈S.ag,z.length<=8))->((∀z,S.cz q=some z->∀C e,aX K z C->ae H e->E (.ref C) none e))->((S.cz q=none->∀e,bS H e->bM (wl K "by_place") iG e->Q (.str (S.kG q)) e))->S8 K vs H Q E
include T il Q7 LY Rb vO Yl Yo Yp Mw Yx Yz YA in
theorem zkX(F:aS K "only_told" "only_told" LM f fd):ar P w K m b (dM P w) 15 f fd LN (S8 K):=by
 refine F.ic zls ?_;rintro gC gB aN g8 outer gJ H vs g9 E hX hW A md t⟨p,F,S,qn,g3,rfl,i,hA,x,h8,l,q⟩;subst hX;refine⟨_,(zc (zu (zj zG aA zm (zl _)) (ze (zh (aI Q7 t (za (zL il T.ai (hM t) ak) zb)))) zn)
  (zc (zu (zj zG aA zm (zl _)) (ze (zh (aI Q7 t (za (xo vO T.ai A (hM t) ak (za aL zb)) zb)))) zn)
  (zc (zu (zj zG aA zm (zl _)) (ze (zh (aI LY t (za (yc Yx A (hM t) rfl (za ak zb)) zb)))) zn)
  (zc (zu (zj zG aA zm (zl _)) (ze (zh (aI Mw t (za ak (za (yc Yl A (hM t) rfl (za ak (za aL zb))) zb))))) zn)
  (zc (zu (zj zG aA zm (zl _)) (ze (zh (yc Yz A (hM t) rfl (za ak (za aL (za (zx zr bB zg bF) zb)))))) zn)
  (zc (zu (zj zG aA zm (zl _)) (ze (zh (aI Rb t (za (uL (show cy (zf LM) zev "one" "other" "number" "by" [] [] _ from⟨rfl,by decide +kernel,by decide +kernel,rfl,rfl,rfl,rfl,by decide +kernel,rfl,by decide +kernel,by decide +kernel⟩) rfl (zz (yc YA A (hM t) rfl (za ak zb))) (λ_ _ _ _ _=>yA) (λ_ _ _ _ _=>(JO (yS (AE ak) (yS zm (yS (AE aA) (yS zm (yS (AE aL) (yS zm (yS (AE bB) JN)))))))))) zb)))) zn)
  (zc (zu (zj zG aA zm (zl _)) (ze (zh (aI Rb t (za (yc Yp A (hM t) rfl (za ak zb)) zb)))) zn)
  (ze (zh (yc Yo A (hM t) rfl (za ak (za (zx zr bB zg bF) zb)))))))))))),?_⟩
 subst hW;have cF:=zq;have ok:=i.ok;have dO:=ok.dO;have gR:=ok.fD;obtain⟨dx,b1,b2,b3,gH,dC⟩:=i.ins;cases qn with
 | xI =>
   refine⟨_,rfl,rfl,_,rfl,wn (by decide) ?_⟩;refine⟨_,rfl,p,dx,_,rfl,dC,rfl,p,F,S,rfl,i,λk B n I d=>?_⟩;exact⟨k,S.aa,rfl,ah.of d,by lia,ok.cY,λy g=>q rfl y (n.trans g).toN (x.same (n.trans g))⟩
 | ml j =>
   rw[show(Qn.ml j).f=("show":Str) from rfl];refine⟨_,rfl,rfl,_,rfl,zt (by decide) ?_⟩;refine⟨_,rfl,rfl,_,rfl,wn (by decide) ?_⟩;refine⟨_,rfl,p,dx,_,rfl,dC,rfl,_,rfl,p,F,S,j,rfl,i,(λu C v=>l _ (by show(if j∈S.ag then _ else _)=_;rw[q00 u]) C H v (ae.refl _)),(λY u C v=>l _ (by show(if j∈S.ag then _ else _)=_;rw[q01 Y,q01 u]) C H v (ae.refl _)),λc e k B n I d=>?_⟩;obtain⟨BA,FW⟩:=ok.cd j c e;have iD:=FW.length_eq;refine⟨k,c,rfl,ah.of d,by lia,λg5 u=>ok.cY g5 (FW.mem_iff.mp u),λy g=>?_⟩;have:=q (by show(if j∈S.ag then _ else _)=_;rw[q01 BA,q00 (by rw[e];exact λz=>by cases z)]) y (n.trans g).toN (x.same (n.trans g));rw[show S.kG (.ml j)=Txt.join M6.zE (c.map tN)by show Txt.join M6.zE (((S.card j).getD []).map tN)=_;rw[e];rfl]at this;exact this
 | gk =>
   refine⟨_,rfl,rfl,_,rfl,zt (by decide) ?_⟩;refine⟨_,rfl,rfl,_,rfl,zt (by decide) ?_⟩;refine⟨_,rfl,rfl,_,rfl,wn (by decide) ?_⟩;refine⟨_,rfl,p,F,S,rfl,i,x,λJ C a v s=>l _ (q01 J) C a v s,λW k B ls n z1 I d Z=>?_⟩;refine⟨k,ls,_,rfl,ah.of d,Z,by rw[M6.HV];lia,λpr vK=>?_,λy g=>q (q00 (by lia)) y (n.trans g.toN) (z1.same g)⟩;obtain⟨m1,m2⟩:=M6.CA vK;have IG:=M6.FE (cs:=S.ao) m1;have Xs:=ok.cY _ m1;have m2:pr.1=M6.gk S.ao S.aa pr.2:=m2
   lia
 | nT j =>
   rw[show(Qn.nT j).f=("leave":Str) from rfl];refine⟨_,rfl,rfl,_,rfl,zt (by decide) ?_⟩;refine⟨_,rfl,rfl,_,rfl,zt (by decide) ?_⟩;refine⟨_,rfl,rfl,_,rfl,zt (by decide) ?_⟩;refine⟨_,rfl,rfl,_,rfl,wn (by decide) ?_⟩;have U:∀{j},j∈S.handed->j∈S.ag/\S.card j≠none:=λ{j} h=>by
    obtain⟨g6,g4⟩:=q24.mp h;exact⟨g6,λz=>by rw[z]at g4;cases g4⟩
   refine⟨_,rfl,_,rfl,_,rfl,p,F,S,j,rfl,i,(λu C v=>l _ (by show(if j∈S.ag then _ else _)=_;rw[q00 u]) C H v (ae.refl _)),(λY u C v=>l _ (by show(if j∈S.ag then _ else _)=_;rw[q01 Y,q01 u]) C H v (ae.refl _)),(λM L C a v s=>l _ (by show(if j∈S.ag then _ else _)=_;rw[q01 (U M).1,q00 (U M).2,q01 L]) C a v s),λM L k B n I d=>?_⟩;exact⟨p,F,S,k,S.bg j,rfl,i.same n,ah.of d,x.same n,λy g z2=>q (by show(if j∈S.ag then _ else _)=_;rw[q01 (U M).1,q00 (U M).2,q00 (by lia)]) y (n.toN.trans g) z2⟩
 | ik j c =>
   rw[show(Qn.ik j c).f=("step":Str) from rfl];refine⟨_,rfl,rfl,_,rfl,zt (by decide) ?_⟩;refine⟨_,rfl,rfl,_,rfl,zt (by decide) ?_⟩;refine⟨_,rfl,rfl,_,rfl,zt (by decide) ?_⟩;refine⟨_,rfl,rfl,_,rfl,zt (by decide) ?_⟩;refine⟨_,rfl,rfl,_,rfl,wn (by decide) ?_⟩;exact⟨_,rfl,_,rfl,_,rfl,g3,_,_,_,rfl,rfl,hA,rfl,p,F,S,j,c,rfl,i,x,l,q⟩
 | rC =>
   refine⟨_,rfl,rfl,_,rfl,zt (by decide) ?_⟩;refine⟨_,rfl,rfl,_,rfl,zt (by decide) ?_⟩;refine⟨_,rfl,rfl,_,rfl,zt (by decide) ?_⟩;refine⟨_,rfl,rfl,_,rfl,zt (by decide) ?_⟩;refine⟨_,rfl,rfl,_,rfl,zt (by decide) ?_⟩;refine⟨_,rfl,rfl,_,rfl,wn (by decide) ?_⟩;refine⟨_,rfl,p,F,S,rfl,i,x,λJ C a v s=>l _ (q01 J) C a v s,λW k B ls n z1 I d Z=>?_⟩;have gI:=M6.Wc S.ao S.aa;have vL:∀r∈M6.yq S.ao S.aa,(1<=r.1/\r.1<=999)/\(1<=r.2.1/\r.2.1<=999)/\(1<=r.2.2.1/\r.2.2.1<=999)/\r.2.2.2.length<=5:=λr t=>by
    obtain⟨D,G,O,Q⟩:=M6.Wb t;exact⟨ok.cY _ D,ok.cY _ G,by lia,Q⟩
   refine⟨k,rfl,⟨_,ah.of d⟩,?_⟩;refine mv (f:=M6.CF) (ah.of d) Z (by lia) (λr a R t s h=>?_) λH6 s6=>?_
   .obtain⟨D,G,O,Q⟩:=vL r t;have w1:=M6.yt D;have w2:=M6.yt G;have w3:=M6.yt O;have g1:(">":Str).length=1:=by decide +kernel
    have g2:(":":Str).length=1:=by decide +kernel
    have g0:Str.empty.length=0:=rfl;unfold tN at w1 w2 w3;refine⟨_,rfl,.inl ⟨_,rfl,yI (by lia),_,rfl,?_,_,rfl,?_,_,rfl,.inl ⟨_,rfl,yI (by lia),_,rfl,?_,_,rfl,?_,_,rfl,.inl ⟨_,rfl,yI (by lia),_,rfl,?_,_,rfl,?_,_,rfl,.inr ⟨_,rfl,by lia,_,rfl,?_,?_,?_⟩⟩⟩⟩⟩
    .simp only[zw];lia
    .simp only[zw];lia
    .simp only[zw];lia
    .simp only[zw];lia
    .simp only[zw];lia
    .simp only[zw];lia
    .simp only[zw];lia
    .simp only[zw];lia
    .rw[M6.O3];exact h a (ae.refl _)
   intro l6 oh;have s7:=s6.aw (o:=.lst (((M6.yq S.ao S.aa).map M6.CF).map V.str)) oh;refine⟨l6,_,rfl,ah.new,by rw[q06];lia,λw N=>?_,q (q00 (by lia)) _ (n.trans s7.toN) (z1.same s7)⟩;obtain⟨r,t,rfl⟩:=q25.mp N;obtain⟨D,G,O,Q⟩:=vL r t;have:=M6.We D G O Q
   lia
 | rD =>
   refine⟨_,rfl,rfl,_,rfl,zt (by decide) ?_⟩;refine⟨_,rfl,rfl,_,rfl,zt (by decide) ?_⟩;refine⟨_,rfl,rfl,_,rfl,zt (by decide) ?_⟩;refine⟨_,rfl,rfl,_,rfl,zt (by decide) ?_⟩;refine⟨_,rfl,rfl,_,rfl,zt (by decide) ?_⟩;refine⟨_,rfl,rfl,_,rfl,zt (by decide) ?_⟩;refine⟨_,rfl,rfl,_,rfl,wn (by decide) ?_⟩;refine⟨_,rfl,p,F,S,rfl,i,(λL C a v s=>l _ (q01 L) C a v s),λL k B n I d=>?_⟩;have o7:∀w∈S.decide,w∈S.ag:=λw N=>(q24.mp (q24.mp N).1).1;have Ci:S.decide.length<=S.ag.length:=q38 (q09 _ _) (q09 _ _);exact⟨k,S.decide,rfl,ah.of d,by lia,λw N=>by have:=h8 w (o7 w N);lia,q (q00 (by lia)) _ n.toN (x.same n)⟩
 | row c =>
   rw[show(Qn.row c).f=("row":Str) from rfl];refine⟨_,rfl,rfl,_,rfl,zt (by decide) ?_⟩;refine⟨_,rfl,rfl,_,rfl,zt (by decide) ?_⟩;refine⟨_,rfl,rfl,_,rfl,zt (by decide) ?_⟩;refine⟨_,rfl,rfl,_,rfl,zt (by decide) ?_⟩;refine⟨_,rfl,rfl,_,rfl,zt (by decide) ?_⟩;refine⟨_,rfl,rfl,_,rfl,zt (by decide) ?_⟩;refine⟨_,rfl,rfl,_,rfl,zt (by decide) ?_⟩;exact⟨_,rfl,_,rfl,g3,_,_,_,rfl,rfl,hA,rfl,p,F,S,c,rfl,i,(λJ C a v s=>l _ (q01 J) C a v s),(λW X C a v s=>l _ (by show(if S.handed.length=0 then _ else _)=_;rw[q00 (by lia),q00 X]) C a v s),λW X a s=>q (by show(if S.handed.length=0 then _ else _)=_;rw[q00 (by lia),q01 X]) a s.toN (x.same s)⟩
variable (YB:dq P w K m b 15 "only_told" LN (S8 K))
inductive S9 (K:Frag)(vs:List V)(H:Hp)(Q:VK)(E:XK):Prop|mk(p:Addr)(F:Addr->Prop)(S:Sh)(r:Rw)(a:Addr):vs=[.ref p,.str r.f,.str r.j,.ref a]->aq K H p F S->ah K H a (r.ns.map V.int)->r.ns.length<64->r.bad=false->bM (wl K "by_place") iG H->((∀z∈S.ag,z.length<=8))->((∀b,F b->∃o,H b=some o/\KB o))->((∀z,S.jj r=some z->∀C e,aX K z C->ae H e->E (.ref C) none e))->((S.jj r=none->∀e t,aq K e p t (S.Wf r)->iK F H t e->bM (wl K "by_place") iG e->Q (.str (S.HY r)) e))->S9 K vs H Q E
include T Xi Xl Xm YB in
theorem zhw(F:aS K "done_and_told" "done_and_told" Qz f fd):ar P w K m b (dM P w) 16 f fd wb (S9 K):=by
 refine F.ic zg7 ?_;rintro g5 g4 aN g2 outer g6 H vs g3 E U R k md l⟨p,F,S,g0,a,rfl,s,D,hz,W,L,O,Z,g,q⟩;subst U;refine⟨_,(zc (zu (zj zG aA zm (zl _)) (zc (zI (xo Xi T.ai k (hM l) ak (za aL (za bB zb))))
  (ze (zh zm))) zn)
  (zc (zu (zj zG aA zm (zl _)) (zc (zI (xo Xl T.ai k (hM l) ak (za (zx zr bB zg bF) zb)))
  (ze (zh zm))) zn)
  (zc (zu (zj zG aA zm (zl _)) (zc (zI (JT Xm T.ai k (hM l) ak))
  (ze (zh zm))) zn)
  (ze (zh (yc YB k (hM l) rfl (za ak (za aA (za aL (za bB zb)))))))))),?_⟩
 obtain⟨A,b1,b2,b3,d,y⟩:=s.ins;subst R;have dn:∀{t:Hp}{v:Addr->Prop},fX F H v t->iK F H v t:=λd b o e _ n=>d b o e n;have J:∀{t:Hp}{v:Addr->Prop},fX F H v t->bM (wl K "by_place") iG t:=λd=>L.Ep Z λb o e n=>(d b o e n).1;cases g0 with
 | card j ns =>
   refine⟨_,rfl,rfl,_,rfl,wn (show decide (V.str "card"=V.str "card")=true by decide) ?_⟩;exact⟨_,rfl,p,A,_,rfl,y,rfl,_,rfl,_,rfl,p,F,S,j,a,ns,rfl,s,D,hz,g,λi t v h r=>q i t v h (dn r) (J r)⟩
 | bW n =>
   refine⟨_,rfl,rfl,_,rfl,zt (show decide (V.str "strike"=V.str "card")=false by decide) ?_⟩;refine⟨_,rfl,rfl,_,rfl,wn (show decide (V.str "strike"=V.str "strike")=true by decide) ?_⟩;exact⟨_,rfl,p,A,_,rfl,y,rfl,_,rfl,a,_,_,_,rfl,rfl,D,rfl,p,F,S,n,rfl,s,λc X C G=>g c X C H G (ae.refl _),λi t v h r=>q i t v h (dn r) (J r)⟩
 | iY =>
   refine⟨_,rfl,rfl,_,rfl,zt (by decide) ?_⟩;refine⟨_,rfl,rfl,_,rfl,zt (by decide) ?_⟩;refine⟨_,rfl,rfl,_,rfl,wn (by decide) ?_⟩;exact⟨_,rfl,p,A,_,rfl,y,rfl,p,F,S,rfl,s,λI C G=>g _ (q01 I) C H G (ae.refl _),λI t h r=>q (q00 (by rw[I];exact q23)) t F h (dn r) (J r)⟩
 | two c=>cases W
 | ask x =>
   have B:∀u∈([("card":Str),("strike":Str),("seal":Str)]:List Str),decide (V.str (Rw.ask x).f=V.str u)=false:=λu hu=>by
    have N:∀f∈M57.xG,∀u∈([("card":Str),("strike":Str),("seal":Str)]:List Str),f≠u:=by decide +kernel
    have Y:x.f∈M57.xG:=by
     cases x with
     | xI=>exact(show ("couples":Str) ∈ M57.xG by decide +kernel)
     | gk=>exact(show ("places":Str) ∈ M57.xG by decide +kernel)
     | rC=>exact(show ("parts":Str) ∈ M57.xG by decide +kernel)
     | rD=>exact(show ("deciders":Str) ∈ M57.xG by decide +kernel)
     | ml j=>exact(show ("show":Str) ∈ M57.xG by decide +kernel)
     | nT j=>exact(show ("leave":Str) ∈ M57.xG by decide +kernel)
     | ik j c=>exact(show ("step":Str) ∈ M57.xG by decide +kernel)
     | row c=>exact(show ("row":Str) ∈ M57.xG by decide +kernel)
    exact q20 λz=>N _ Y u hu (by injection z)
   refine⟨_,rfl,rfl,_,rfl,zt (B _ (by simp)) ?_⟩;refine⟨_,rfl,rfl,_,rfl,zt (B _ (by simp)) ?_⟩;refine⟨_,rfl,rfl,_,rfl,zt (B _ (by simp)) ?_⟩;refine⟨_,rfl,_,rfl,_,rfl,_,rfl,p,F,S,x,a,rfl,s,D,L,O,g,λi t M z'=>?_⟩;obtain⟨v,Q,h⟩:=s.HL M;exact q i t v h (λb o e g1 n=>⟨M.1 b o e g1,λz=>n (Q b z)⟩) z'
variable (YC:dq P w K m b 16 "done_and_told" wb (S9 K))
inductive Ta (K:Frag)(vs:List V)(H:Hp)(Q:VK)(E:XK):Prop|mk(p:Addr)(F:Addr->Prop)(S:Sh)(r:Rw):vs=[.ref p,.str r.text]->aq K H p F S->r.Ok->bM (wl K "by_place") iG H->((∀z∈S.ag,z.length<=8))->(∀e t,aq K e p t (S.cH r)->iK F H t e->bM (wl K "by_place") iG e->Q (.str (S.cJ r)) e)->Ta K vs H Q E
include T Yc YC in
theorem qM(F:aS K "answer" "answer" QA f fd):ar P w K m b bp 17 f fd LO (Ta K):=by
 obtain⟨jo,d,dH,Z⟩:=T.bh;obtain⟨iP,h,de,V⟩:=T.aR;obtain⟨qA,q,gK,O⟩:=T.bL;obtain⟨iS,s,dg,M⟩:=T.aJ;obtain⟨cS,g,bc,J⟩:=T.au;obtain⟨jW,l,d9,I⟩:=T.aM;obtain⟨vN,x,iT,D⟩:=T.bu;obtain⟨jt,i,dI,B⟩:=T.aD;obtain⟨BD,u,jV,y⟩:=T.bD;obtain⟨iU,p,cc,bj⟩:=T.bj;refine F.ok WR ?_;rintro aN g6 outer g9 H vs Q E hr⟨g2,F0,S,r,rfl,g4,Y,hL,h8,g3⟩;refine⟨_,(ze (DX rfl rfl (λ_ _ _ fl=>(zc (br 2 WR.nd (yc Yc fl (hM hr) rfl (za aA zb)))
  (ze (zh (yc YC fl (hM hr) rfl (za ak (za (zx (NW (K:=K) rfl) aL zg bF) (za (zx (NW (K:=K) rfl) aL zg bF) (za (zx (NW (K:=K) rfl) aL zg bF) zb))))))))) (xm rfl cc bj (λ_=>(ze (zh zm))) (xm rfl dH Z (λ_=>(ze (zh zm))) (xm rfl de V (λ_=>(ze (zh zm))) (xm rfl gK O (λ_=>(ze (zh zm))) (xm rfl dg M (λ_=>(ze (zh zm))) (xm rfl bc J (λ_=>(ze (zh zm))) (xm rfl d9 I (λ_=>(ze (zh zm))) (xm rfl iT D (λ_=>(ze (zh zm))) (xm rfl dI B (λ_=>(ze (zh zm))) (xm rfl jV y (λ_=>(ze (zh zm))) tM)))))))))))),?_⟩
 obtain⟨F,hk,hF,hS⟩:∃F:Addr->Prop,(∀b,F b->∃o,H b=some o/\KB o)/\(∀b,F b->F0 b)/\aq K H g2 F S:=⟨_,λb z=>z.2,λb z=>z.1,g4.kinds⟩;have cF:=Rw.len Y;have X:=Bq Y;have hz:r.bad=false->r.ns.length<64:=λv=>by
  rw[v,q00 q23]at X;cases r with
  | card j ns=>exact Nat.lt_of_le_of_lt Y.2.2 (by decide)
  | bW n=>exact(show(1:Nat)<64 by decide)
  | iY=>exact(show(0:Nat)<64 by decide)
  | two c=>exact(show(2:Nat)<64 by decide)
  | ask qn=>cases qn <;> first | exact(show(0:Nat)<64 by decide) | exact(show(1:Nat)<64 by decide)
 refine⟨λg5 g0 L=>∃c C,aX K c C/\g0=.ref C/\ae H L/\((c=("BadRow":Str)/\r.bad=true)\/(r.bad=false/\S.jj r=some c)),?_,?_⟩
 .refine⟨_,rfl,_,rfl,by lia,λN C W a s'=>⟨_,C,a,rfl,s',.inl ⟨rfl,?_⟩⟩,λf j ns G t g1 H1 U f1 f2 e1 e2=>?_⟩
  .rw[X]at N;split at N
   .assumption
   .cases N
  .rw[X]at G;split at G
   .cases G
   rename_i v;have v:r.bad=false:=by cases w:r.bad with
    | true=>exact q02 w v
    | false=>rfl
   injection G with G
   injection G with hf G
   injection G with hj Cq
   subst hf hj Cq;have q1:cE K H1 t [.str r.f,.str r.j,.ref g1]:=.inl (.inl e1);refine⟨_,rfl,_,rfl,t,_,_,_,rfl,rfl,q1,rfl,_,rfl,t,_,_,_,rfl,rfl,q1,rfl,_,rfl,t,_,_,_,rfl,rfl,q1,rfl,g2,F,S,r,g1,rfl,hS.same U,ah.of e2,hz v,v,hL.same U,h8,λb z=>?_,λz hz C W a s'=>⟨z,C,a,rfl,U.trans s',.inr ⟨v,hz⟩⟩,λN W F' h' d' z'=>?_⟩
   .obtain⟨o,e,k⟩:=hk b z;exact⟨o,U b o e,k⟩
   have:=g3 W F' (by unfold Sh.cH;rw[v,q00 q23,N];exact h') (λb o e t n=>d' b o (U b o e) t λz=>n (hF b z)) z';unfold Sh.cJ at this;rw[v,q00 q23,N]at this;exact this
 .rintro g5 g0 L ⟨c,C,a,rfl,s2,R⟩;have dJ:S.cH r=S->Q (.str (S.cJ r)) L:=λe=>g3 L F (by rw[e];exact hS.same s2) (λb o e t n=>⟨s2 b o e,λz=>n (hF b z)⟩) (hL.same s2);rcases R with⟨rfl,v⟩|⟨v,R⟩
  .have A:Q (.str M57.RW) L:=by
    have:=dJ (by unfold Sh.cH;rw[q01 v]);unfold Sh.cJ at this;rw[q01 v]at this;exact this
   cases aX.inj a p;refine⟨_,rfl,bj,wn (T.ia _ _ p p) ?_⟩;exact A
  have A:Q (.str (M6.mi c)) L:=by
   have:=dJ (by unfold Sh.cH;rw[v,q00 q23,R]);unfold Sh.cJ at this;rw[v,q00 q23,R]at this;exact this
  have hm:=Sh.mn R;unfold Pe at hm;simp only[q27,not_mem_nil,or_false]at hm;rcases hm with rfl | rfl | rfl | rfl | rfl | rfl | rfl | rfl | rfl
  .cases aX.inj a d;refine⟨_,rfl,Z,zt (T.fc _ _ d p) ?_⟩;refine⟨_,rfl,Z,wn (T.dw _ _ d d) ?_⟩;exact A
  .cases aX.inj a h;refine⟨_,rfl,V,zt (T.eB _ _ h p) ?_⟩;refine⟨_,rfl,V,zt (T.cZ _ _ h d) ?_⟩;refine⟨_,rfl,V,wn (T.cT _ _ h h) ?_⟩;exact A
  .cases aX.inj a q;refine⟨_,rfl,O,zt (T.gH _ _ q p) ?_⟩;refine⟨_,rfl,O,zt (T.eD _ _ q d) ?_⟩;refine⟨_,rfl,O,zt (T.dZ _ _ q h) ?_⟩;refine⟨_,rfl,O,wn (T.gp _ _ q q) ?_⟩;exact A
  .cases aX.inj a s;refine⟨_,rfl,M,zt (T.eE _ _ s p) ?_⟩;refine⟨_,rfl,M,zt (T.c6 _ _ s d) ?_⟩;refine⟨_,rfl,M,zt (T.cU _ _ s h) ?_⟩;refine⟨_,rfl,M,zt (T.d0 _ _ s q) ?_⟩;refine⟨_,rfl,M,wn (T.cV _ _ s s) ?_⟩;exact A
  .cases aX.inj a g;refine⟨_,rfl,J,zt (T.d6 _ _ g p) ?_⟩;refine⟨_,rfl,J,zt (T.cW _ _ g d) ?_⟩;refine⟨_,rfl,J,zt (T.cQ _ _ g h) ?_⟩;refine⟨_,rfl,J,zt (T.dP _ _ g q) ?_⟩;refine⟨_,rfl,J,zt (T.cR _ _ g s) ?_⟩;refine⟨_,rfl,J,wn (T.cK _ _ g g) ?_⟩;exact A
  .cases aX.inj a l;refine⟨_,rfl,I,zt (T.fE _ _ l p) ?_⟩;refine⟨_,rfl,I,zt (T.dE _ _ l d) ?_⟩;refine⟨_,rfl,I,zt (T.dy _ _ l h) ?_⟩;refine⟨_,rfl,I,zt (T.fe _ _ l q) ?_⟩;refine⟨_,rfl,I,zt (T.dz _ _ l s) ?_⟩;refine⟨_,rfl,I,zt (T.c8 _ _ l g) ?_⟩;refine⟨_,rfl,I,wn (T.dQ _ _ l l) ?_⟩;exact A
  .cases aX.inj a x;refine⟨_,rfl,D,zt (T.hV _ _ x p) ?_⟩;refine⟨_,rfl,D,zt (T.fg _ _ x d) ?_⟩;refine⟨_,rfl,D,zt (T.eF _ _ x h) ?_⟩;refine⟨_,rfl,D,zt (T.gI _ _ x q) ?_⟩;refine⟨_,rfl,D,zt (T.eG _ _ x s) ?_⟩;refine⟨_,rfl,D,zt (T.d8 _ _ x g) ?_⟩;refine⟨_,rfl,D,zt (T.fH _ _ x l) ?_⟩;refine⟨_,rfl,D,wn (T.g8 _ _ x x) ?_⟩;exact A
  .cases aX.inj a i;refine⟨_,rfl,B,zt (T.fj _ _ i p) ?_⟩;refine⟨_,rfl,B,zt (T.dA _ _ i d) ?_⟩;refine⟨_,rfl,B,zt (T.c9 _ _ i h) ?_⟩;refine⟨_,rfl,B,zt (T.eI _ _ i q) ?_⟩;refine⟨_,rfl,B,zt (T.da _ _ i s) ?_⟩;refine⟨_,rfl,B,zt (T.cX _ _ i g) ?_⟩;refine⟨_,rfl,B,zt (T.dF _ _ i l) ?_⟩;refine⟨_,rfl,B,zt (T.fi _ _ i x) ?_⟩;refine⟨_,rfl,B,wn (T.dB _ _ i i) ?_⟩;exact A
  .cases aX.inj a u;refine⟨_,rfl,y,zt (T.iO _ _ u p) ?_⟩;refine⟨_,rfl,y,zt (T.fI _ _ u d) ?_⟩;refine⟨_,rfl,y,zt (T.fk _ _ u h) ?_⟩;refine⟨_,rfl,y,zt (T.hZ _ _ u q) ?_⟩;refine⟨_,rfl,y,zt (T.fq _ _ u s) ?_⟩;refine⟨_,rfl,y,zt (T.eJ _ _ u g) ?_⟩;refine⟨_,rfl,y,zt (T.fY _ _ u l) ?_⟩;refine⟨_,rfl,y,zt (T.iN _ _ u x) ?_⟩;refine⟨_,rfl,y,zt (T.fJ _ _ u i) ?_⟩;refine⟨_,rfl,y,wn (T.jn _ _ u u) ?_⟩;exact A
variable (YD:bJ P w K m b 17 "answer" LO (Ta K))
inductive Tb (K:Frag)(vs:List V)(H:Hp)(Q:VK)(E:XK):Prop|mk(a b r:Addr)(t:List Int)(e:List Str)(rs:List Rw):vs=[.ref a,.ref b,.ref r]->ah K H a (t.map V.int)->t.length<4000->ah K H b (e.map V.str)->e.length<4000->((∀z∈e,z.length<=8))->M1.rn t=true->M2.xw e=true->H r=some (.lst ((rs.map Rw.text).map V.str))->rs.length<=100->((∀x∈rs,x.Ok))->bM (wl K "by_place") iG H->((∀l v,(∀b o,H b=some o->(∀n,o ≠ .dj n)->v b=some o)->v l=some (.lst (((Sh.new t e).cA rs).map V.str))->Q (.ref l) v))->Tb K vs H Q E
include T XY YD in
theorem mG(F:aS K "answers" "answers" LP f fd):ar P w K m b (dM P w) 18 f fd LR (Tb K):=by
 refine F.ic WT ?_;rintro gB g9 aN g6 outer gC H vs g8 E hX hW U md u⟨a,b,g5,j,d,rs,rfl,Z,N,T,O,p,W,X,B,hn,Q,hL,g4⟩;subst hX;refine⟨_,(zc (br 3 WT.nd (ub XY U (hM u) rfl (za ak (za aA zb))))
  (ze (zh (zN (show aj (zf LP) WS "row" ["sheet"] [3] _ from dU) rfl (zz aL) (λ_ _ _ _ _=>yA) (λ_ _ _ _ _=>(aI YD u (za aA (za ak zb)))))))),?_⟩
 have cF:=zq;refine⟨_,rfl,_,rfl,?_⟩;intro x q A g0 g3;have c:=(ae.new (o:=.own x) g0).aw (o:=.ins (yu K "Sheet") q []) (l:=x) (by rw[zi (Ne.symm g3)];exact A);refine⟨x,q,a,b,j,d,rfl,zd,c.seq Z,N,c.seq T,O,λz m=>q38 (p z m) (by decide),λz C G hC s'=>?_,λz1 k C G hC s'=>?_,λz1 k I F R J=>⟨rfl,?_⟩⟩
 .rw[W]at z;cases z
 .rw[X]at k;cases k
 have s:∀b o,H b=some o->I b=some o/\¬F b:=λb o e=>J b o (c _ _ e) (zk e A);have r5:=s _ _ B;refine⟨_,rfl,g5,rfl,⟨_,ah.of r5.1⟩,?_⟩;have kt:∀r,(HO.lst ((rs.map Rw.text).map V.str)) ≠ .dj r:=λr z=>by cases z
 refine zY (xs:=(rs.map Rw.text).map V.str) (λi h v=>h=((Sh.new j d).cA (rs.take i)).map V.str/\∃t,(∀b o,H b=some o->(∀r,o ≠ .dj r)->v b=some o/\¬t b)/\aq K v x t ((Sh.new j d).cC (rs.take i))/\bM (wl K "by_place") iG v) ⟨rfl,F,λb o e _=>s b o e,R,hL.same λb o e=>(s b o e).1⟩ ?_ (by rw[q06,q06];lia) ?_ ?_
 .rintro i h v hi ⟨rfl,t,k6,h6,L6⟩;refine⟨ah.of (k6 _ _ B kt).1,?_⟩;rw[q06,Sh.dX,q11]
  lia
 .rintro i y h v hy ⟨rfl,t,k6,h6,L6⟩;rw[q26,q26]at hy;cases e:rs[i]? with
  | none=>rw[e]at hy;cases hy
  | some w =>
    rw[e]at hy;cases hy;have hi:=(q45.mp e).1;have g:rs.take (i+1)=rs.take i++[w]:=by rw[take_add_one,e];rfl
    refine⟨_,rfl,_,rfl,x,t,_,w,rfl,h6,Q w (mem_of_getElem? e),L6,λz m=>p z (by rw[Sh.b8]at m;exact m),λH7 D Y S M=>?_⟩;refine⟨by rw[g,Sh.eX,q07];rfl,D,λb o e n=>S b o (k6 b o e n).1 n (k6 b o e n).2,by rw[g,Sh.gP];exact Y,M⟩
 .rintro h v ⟨rfl,t,k6,h6,L6⟩ l hl;have L:rs.take ((rs.map Rw.text).map V.str).length=rs:=by rw[q06,q06];exact q15
  rw[L];exact g4 l _ (λb o e n=>by rw[zi (zk (k6 b o e n).1 hl)];exact(k6 b o e n).1) zd
variable (YE:dq P w K m b 18 "answers" LR (Tb K))
def BL(ns:List Int)(v t:Option Int):∃e:List Int,kT (ns.map V.int) v t=e.map V.int/\e.length<=ns.length:=by
 unfold kT;rw[<-map_drop,<-map_take];exact⟨_,rfl,by rw[q11,length_drop];lia⟩
inductive Je (K:Frag)(vs:List V)(H:Hp)(Q:VK)(E:XK):Prop|mk(a:Addr)(ns:List Int):vs=[.ref a]->ah K H a (ns.map V.int)->ns.length<=63->H (wl K "by_place")=some (.dj #[])->(∀e,Q (.bl true) e)->Je K vs H Q E
include T W6 CK LZ Rl Xg XA XC Yk YE in
theorem EX(F:aS K "law" "law" xJ f fd):ar P w K m b bp 19 f fd ["_law_script"] (Je K):=by
 refine F.ok n8 ?_;rintro aN gU outer gg gV vs gW E h⟨a,ns,rfl,O,hz,hT,gS⟩;refine⟨_,(zc (br 1 n8.nd (zo zW (aI CK h (za ak (za zg zb))) zg))
  (zc (br 2 n8.nd (aI Xg h (za (aI CK h (za ak (za zg zb))) (za (aI Rl h (za aA (za (aI CK h (za ak (za zg zb))) (za zg (za zg (za zg zb)))))) zb))))
  (zc (br 3 n8.nd (aI XC h (za (aI CK h (za ak (za zg zb))) (za (aI Rl h (za aA (za (aI CK h (za ak (za zg zb))) (za zg (za zg (za zg zb)))))) zb))))
  (zc (br 4 n8.nd (zv (za oB (za (zo zW (aI CK h (za ak (za zg zb))) zg) (za (aI W6 h (za bB (za (aI CK h (za ak (za zg zb))) zb))) zb)))))
  (zc (yN (i:=5) (show aj (zf xJ) vE "_law_name" [] [] _ from dU) rfl n8.nd rfl (Or.inl rfl) (zz bB) (λ_ _ _ _ _=>yA) (λ_ _ _ _ _=>(zv zb)))
  (zc (br 6 n8.nd (zy yn (by rfl) T.cP boot_list (za aL zb)))
  (zc (br 7 n8.nd (zv zb))
  (zc (br 8 n8.nd (zv zb))
  (zc (br 9 n8.nd (zv zb))
  (zc (wf PassesOwn.never rfl (zz (zF zV ak (zK zg) (zK (zx zr (zv (za zg (za zg zb))) (zy T7 (by rfl) T.n6 boot_int (za (sD BZ (yf T.az aL) zg (zl _)) zb)) bF)))) (iH 10 n8.nd)
    (zc (br 11 n8.nd (aI Yk h (za A0 (za cO (za bB (za fC (za xx (za fS zb))))))))
  (zc (zI (yD PySem.F.plainAttrs_list PySem.F.slot_list_append PySem.F.type_list_append yj AY (za (zx zr Eg zg bF) zb)))
  (ze (zI (yD PySem.F.plainAttrs_list PySem.F.slot_list_append PySem.F.type_list_append yj AZ (za (zx zr Eg zg bF) zb)))))))
  (zc (br 12 n8.nd (zv (za (zy yn (by rfl) T.cP boot_list (za aL zb)) (za (zy yn (by rfl) T.cP boot_list (za bB zb)) (za (zy yn (by rfl) T.cP boot_list (za AY zb)) zb)))))
  (zc (br 13 n8.nd (yc YE mZ (hM h) rfl (za (zx zr Cu zg bF) (za (zx zr Cu zg bF) (za (zx zr Cu zg bF) zb)))))
  (zc (zu (PW.pt (Ac (qR (mI (aI XA h (za (zx zr Cu zg bF) (za aL zb))))) (Ac (qR (mI (aI LZ h (za (zx zr Cu zg bF) (za bB zb))))) (BS (qR (mI (aI LZ h (za (zx zr Cu zg bF) (za AY zb))))))))) (ze (zh oB)) zn)
  (ze (zh (aI LZ h (za OG (za AZ zb)))))))))))))))))),?_⟩
 have cF:=zq;refine⟨_,rfl,a,ns,2,rfl,O,by decide,_,_,rfl,rfl,(by show(0:Int)<16;decide),?_⟩;dsimp only;generalize ns.getD (2:Int).toNat 0%16=md;refine⟨_,rfl,a,ns,4,rfl,O,by decide,_,rfl,_,rfl,a,ns,0,rfl,O,by decide,_,_,_,_,_,rfl,by decide,by decide,λgR m1 m2=>?_⟩;refine⟨_,_,rfl,by lia,by lia,λp H1 s1 f1 s=>?_⟩;generalize Tc:M1.aa _ _=v at s;have ge:v.length=gR.toNat:=by rw[<-Tc,M1.Vf]
 have gL:v.Nodup:=by rw[<-Tc];exact M1.zjX (by lia)
 have Mf:M1.rn v=true:=(M1.pH v).mpr ⟨by lia,gL,λg6 hx=>by rw[<-Tc]at hx;exact M1.zj6 hx⟩;refine⟨_,rfl,a,ns,5,rfl,s1.seq O,by decide,_,rfl,_,rfl,a,ns,1,rfl,s1.seq O,by decide,_,_,_,_,_,rfl,by decide,by decide,λag p1 p2=>?_⟩;refine⟨_,_,rfl,by lia,by lia,λC A t s2 f2 d Mh gK Mx=>?_⟩;have YF:M2.xw t=true:=(M2.Ve t).mpr ⟨by lia,gK,λz hz=>(M2.wx z).mp (Mx z hz)⟩;have t2:=s1.trans s2;have c2:=s2 _ _ s;have h8:∀z∈t,z.length<=8:=λz hz=>((M2.wx z).mp (Mx z hz)).1.2;have My:=Sh.Ok.new Mf YF;refine⟨_,rfl,a,ns,3,rfl,t2.seq O,by decide,_,_,rfl,rfl,(by show(0:Int)<4;decide),_,rfl,_,rfl,a,ns,4,rfl,t2.seq O,by decide,C,t,_,rfl,ah.of d,by lia,by lia,Mx,λg5 H3 R FU SJ=>⟨(by show 3<=sizeLine;decide),λy fK=>?_⟩⟩;dsimp only;generalize ns.getD (3:Int).toNat 0%4=g8;generalize vG:upd H3 y _=H4;have j:=ae.gen fK vG;have H:=rq vG;have t4:=R.trans j;have u4:=t2.trans t4;have j4:=t4 _ _ d;refine⟨_,rfl,C,rfl,⟨_,ah.of j4⟩,?_⟩;refine zY (xs:=t.map V.str) (λi ys M=>∃r:List Addr,ys=r.map V.ref/\ae H4 M/\All2 (λl g9=>M l=some (.lst (g9.map V.int))/\¬False) r ((List.range i).map λ_=>([]:List Int))) ⟨[],rfl,ae.refl _,.nil⟩ ?_ (by rw[q06];lia) ?_ ?_
 .rintro i ys M hi ⟨r,rfl,s6,r6⟩;refine⟨ah.of (s6 _ _ j4),?_⟩;have:=r6.length;rw[q06,length_range]at this;rw[q06]
  lia
 .rintro i g6 ys M hy ⟨r,rfl,s6,r6⟩;refine⟨(by show 0<=sizeLine;decide),λl hl=>⟨r++[l],by rw[q07];rfl,s6.aw hl,?_⟩⟩;rw[range_succ,q07];exact(r6.imp λ_ _ z=>⟨ae.new hl _ _ z.1,z.2⟩).snoc ⟨zd,λz=>z⟩
 rintro ys M ⟨r,rfl,s6,r6⟩ k hk;rw[q06]at r6;have s7:=ae.new (o:=.lst (r.map V.ref)) hk;have r7:Rows (λ_=>False) (upd M k (.lst (r.map V.ref))) k r (Sh.new v t).rows:=by
  refine⟨zd,λz=>z,?_⟩;have g4:(Sh.new v t).rows=(List.range t.length).map λ_=>([]:List Int):=by
   show t.map (λ_=>([]:List Int))=_;refine ext_getElem (by simp) λi h1 N=>?_;simp
  rw[g4];exact r6.imp λ_ _ z=>⟨s7 _ _ z.1,z.2⟩
 generalize IU:upd M k _=H7 at s7 r7;have t7:=t4.trans (s6.trans s7);have u7:=(s6.trans s7);have c7:=t7 _ _ c2;have j7:=t7 _ _ d;have e7:=u7 _ _ H;have b7:=(t2.trans t7) _ _ hT;refine⟨_,rfl,p,_,rfl,.inl (ah.of c7),λu hu=>?_⟩;have s8:=ae.new (o:=.lst (v.map V.int)) hu;have e8:upd H7 u (.lst (v.map V.int)) u=some (.lst (v.map V.int)):=zd;have nu:k≠u/\∀l∈r,l≠u:=r7.ne hu;have xu:p≠u/\y≠u/\wl K "by_place"≠u:=⟨zk c7 hu,zk e7 hu,zk b7 hu⟩;have r8:=r7.same s8;generalize QR:upd H7 u _=H8 at s8 e8 r8 ⊢;refine⟨(by show 0<=sizeLine;decide),λg hg=>?_⟩;have c:=ae.new (o:=.lst (([]:List Int).map V.int)) hg;have B:upd H8 g (.lst (([]:List Int).map V.int)) g=some (.lst (([]:List Int).map V.int)):=zd;have ng:k≠g/\∀l∈r,l≠g:=r8.ne hg;have xg:p≠g/\y≠g/\wl K "by_place"≠g:=⟨zk (s8 _ _ c7) hg,zk (s8 _ _ e7) hg,zk (s8 _ _ b7) hg⟩;have ug:u≠g:=zk e8 hg;have r9:=r8.same c;change ae H8 (upd H8 g (.lst []))at c;change upd H8 g (.lst []) g=_ at B;change Rows _ (upd H8 g (.lst [])) _ _ _ at r9;have t9:=s8.trans c;generalize xS:upd H8 g _=H9 at c B r9 t9 ⊢;refine⟨(by show 0<=sizeLine;decide),λe L=>?_⟩;have U:=ae.new (o:=.lst []) L;have kL:upd H9 e (.lst []) e=some (.lst []):=zd;have nr:k≠e/\∀l∈r,l≠e:=r9.ne L;have Y:p≠e/\y≠e/\wl K "by_place"≠e/\C≠e/\u≠e/\g≠e:=⟨zk (t9 _ _ c7) L,zk (t9 _ _ e7) L,zk (t9 _ _ b7) L,zk (t9 _ _ j7) L,zk (c _ _ e8) L,zk B L⟩;have FL:=r9.same U;have xO:=t9.trans U;generalize vH:upd H9 e _=vI at U kL FL xO ⊢;refine⟨(by show 0<=sizeLine;decide),λn J=>?_⟩;have X:=ae.new (o:=.lst []) J;have Jf:upd vI n (.lst []) n=some (.lst []):=zd;have nd:k≠n/\∀l∈r,l≠n:=FL.ne J;have xd:p≠n/\y≠n/\wl K "by_place"≠n/\C≠n/\u≠n/\g≠n/\e≠n:=⟨zk (xO _ _ c7) J,zk (xO _ _ e7) J,zk (xO _ _ b7) J,zk (xO _ _ j7) J,zk ((c.trans U) _ _ e8) J,zk (U _ _ B) J,zk kL J⟩;have EW:=FL.same X;have xU:=xO.trans X;have CM:=(c.trans U).trans X;have S:=U.trans X;generalize Td:upd vI n _=CT at X Jf EW xU CM S ⊢;obtain⟨G,hG⟩:∃G:Addr->Prop,G=λb=>b=u\/b=g\/b=e\/b=n:=⟨_,rfl⟩;have xV:jk CT (Sh.new v t) G y C u g k g8 g5 r:=by
  subst hG;refine⟨xU _ _ e7,xU _ _ j7,CM _ _ e8,S _ _ B,ug,⟨EW.1,λz=>?_,EW.2.2.HI λl hl gY z=>⟨z.1,λw=>?_⟩⟩,.inl rfl,.inr (.inl rfl),λb z=>?_⟩
  .rcases z with z | z | z | z
   .exact nu.1 z
   .exact ng.1 z
   .exact nr.1 z
   .exact nd.1 z
  .rcases w with z | z | z | z
   .exact nu.2 l hl z
   .exact ng.2 l hl z
   .exact nr.2 l hl z
   .exact nd.2 l hl z
  .rcases z with rfl | rfl | rfl | rfl
   .rw[CM _ _ e8];exact Option.some_ne_none _
   .rw[S _ _ B];exact Option.some_ne_none _
   .rw[X _ _ kL];exact Option.some_ne_none _
   .rw[Jf];exact Option.some_ne_none _
 have gr:G e:=by rw[hG];exact .inr (.inr (.inl rfl))
 have gd:G n:=by rw[hG];exact .inr (.inr (.inr rfl))
 have z1:=xU _ _ c7;have z2:=X _ _ kL;have z3:=xU _ _ b7;have z4:=(u4.trans (u7.trans xU)).seq O;clear hG vG IU QR xS vH Td r6 r7 r8 r9 FL EW s1 s2 R j s6 s7 s8 c U X t2 t4 t7 t9 xO xU u4 u7 S CM c7 j7 e7 b7 e8 B kL nu ng nr nd hu hg L J fK hk j4 H s d c2;refine⟨_,rfl,_,rfl,(by show 2<=sizeLine;decide),λlb gJ=>?_⟩;have x:=ae.new (o:=.lst (([56,26]:List Int).map V.int)) gJ;have eb:upd CT lb (.lst (([56,26]:List Int).map V.int)) lb=some (.lst (([56,26]:List Int).map V.int)):=zd;change ae CT (upd CT lb (.lst [.int 56,.int 26]))at x;change upd CT lb (.lst [.int 56,.int 26]) lb=_ at eb;generalize gC:upd CT lb _=Hb at x eb ⊢;have gT:∀(b:Bool),∃z:Int,fN (([56,26]:List Int).map V.int) (if b=true then 1 else 0)=some (.int z):=λb=>by
  cases b
  .exact⟨56,rfl⟩
  .exact⟨26,rfl⟩
 obtain⟨Te,Mg⟩:=gT (decide ((6:Int)<((v.map V.int).length:Int)));refine⟨_,rfl,p,_,rfl,.inl (ah.of (x _ _ z1)),_,_,rfl,rfl,.inr ⟨_,rfl,lb,_,_,_,rfl,rfl,ah.of eb,Mg,?_⟩⟩;refine⟨_,rfl,a,_,rfl,x.seq z4,λq jr=>?_⟩;obtain⟨zs,ez,L4⟩:=BL ns (some 6) (some Te);rw[ez];have c:=x.aw (o:=.lst (zs.map V.int)) jr;have B:upd Hb q (.lst (zs.map V.int)) q=some (.lst (zs.map V.int)):=zd;have D:=xV.same c;have x9:q≠y/\q≠k/\q≠u/\q≠g/\q≠e/\q≠n:=⟨(zk (x _ _ xV.hs) jr).symm,(zk (x _ _ xV.hr.1) jr).symm,(zk (x _ _ xV.hu) jr).symm,(zk (x _ _ xV.hg) jr).symm,(zk (x _ _ z2) jr).symm,(zk (x _ _ Jf) jr).symm⟩;have z1:=c _ _ z1;have z2:=c _ _ z2;have z3:=c _ _ z3;have z5:=c _ _ Jf;generalize IX:upd Hb q _=H0 at B D z1 z2 z3 z5 ⊢;obtain⟨⟨su,sg,sk⟩,⟨nu,ng,nk⟩,ku,kg,AA,_⟩:=D.apart My;have xk:p≠k/\wl K "by_place"≠k:=⟨yb z1 D.hr.1 (OP λz=>by have:=D.hr.len;rw[z,Sh.bQ]at this;have:=My.p1;simp at *;lia),yb z3 D.hr.1 (λz=>by cases z)⟩;have xs:p≠y/\wl K "by_place"≠y:=⟨yb z1 D.hs (λz=>by injection z with z;cases v <;> simp at z),yb z3 D.hs (λz=>by cases z)⟩;have rk:e≠k/\n≠k:=⟨λz=>D.hr.2.1 (by rw[<-z];exact gr),λz=>D.hr.2.1 (by rw[<-z];exact gd)⟩;clear x eb gC c IX xV ez Mg gT Jf z4 O hT;refine⟨q,rfl,⟨_,ah.of B⟩,?_⟩;refine Jy (xs:=zs.map V.int) (λi g3 Z=>∃(rs:List Rw)(r:List Addr)(g2 S:Option V),g3=[some (.ref a),some (.int md),some (.ref p),some (.ref C),some (.ref y),some (.ref k),some (.ref u),some (.ref g),some (.ref e),some (.ref n),g2,S,none,none]/\rs.length<=i/\(∀g1∈rs,g1.Ok)/\jk Z ((Sh.new v t).cC rs) G y C u g k g8 g5 r/\Z e=some (.lst ((rs.map Rw.text).map V.str))/\Z n=some (.lst (((Sh.new v t).cA rs).map V.str))/\Z p=some (.lst (v.map V.int))/\Z q=some (.lst (zs.map V.int))/\Z (wl K "by_place")=some (.dj #[]))
  ⟨[],r,_,_,rfl,le_refl _,(λg1 g0=>nomatch g0),D,z2,z5,z1,B,z3⟩ ?_ ?_ ?_
 .rintro i g3 Z hi ⟨rs,r,g2,S,rfl,mB,Mz,D,i1,i2,i3,i4,i5⟩;exact ah.of i4
 .rintro i yv g3 H1 hy ⟨rs,r,g2,S,rfl,mB,Mz,D,i1,i2,i3,i4,i5⟩;obtain⟨hi,rfl⟩:=yU hy;generalize zs.getD i 0=gB;have gc:=Sh.gm rs (Sh.new v t);have ga:(Sh.new v t).taken=0:=rfl;refine⟨_,rfl,_,rfl,_,rfl,_,rfl,_,rfl,_,rfl,gB,G,y,C,u,g,k,g8,g5,(Sh.new v t).cC rs,r,rfl,D,Sh.jx rs My,by lia,by rw[Sh.b8];exact Mx,Sh.fU rs My (λg9 g0=>nomatch g0),FU,by rw[Sh.b8];exact SJ,λg1 A gQ lp h kp D2 fp ep=>?_⟩;rw[<-Sh.gP]at D2;have m1:=kp _ _ i1 (yb D.hs i1 (λz=>by injection z with z;cases rs <;> simp at z)).symm rk.1 Y.2.2.2.2.1.symm Y.2.2.2.2.2.symm;have m2:=kp _ _ i2 (yb D.hs i2 (λz=>by injection z with z;cases rs <;> simp[Sh.cA]at z)).symm rk.2 xd.2.2.2.2.1.symm xd.2.2.2.2.2.1.symm;have m3:=kp _ _ i3 xs.1 xk.1 xu.1 xg.1;have m4:=kp _ _ i4 x9.1 x9.2.1 x9.2.2.1 x9.2.2.2.1;have m5:=kp _ _ i5 xs.2 xk.2 xu.2.2 xg.2.2;refine⟨_,rfl,.inl ⟨rfl,_,ah.of m1⟩,_,rfl,lp,_,_,_,rfl,rfl,ah.of ep,rfl,e,_,_,rfl,rfl,m1,by rw[q06,q06];lia,?_⟩;generalize ho:HO.lst ((rs.map Rw.text).map V.str++[V.str g1.text])=o1;have D3:=D2.put (o:=o1) ⟨Y.2.1,Y.2.2.2.1,Y.2.2.2.2.1,Y.2.2.2.2.2⟩ gr;have k1:upd A e o1 e=some (.lst (((rs++[g1]).map Rw.text).map V.str)):=by rw[zd,<-ho,q07,q07];rfl
  have k2:upd A e o1 n=_:=(zi xd.2.2.2.2.2.2.symm).trans m2;have k3:upd A e o1 p=_:=(zi Y.1).trans m3;have k4:upd A e o1 q=_:=(zi x9.2.2.2.2.1).trans m4;have k5:upd A e o1 (wl K "by_place")=_:=(zi Y.2.2.1).trans m5;have k6:upd A e o1 lp=_:=(zi (zk i1 fp).symm).trans ep;generalize jq:upd A e _=H3 at D3 k1 k2 k3 k4 k5 k6 ⊢;refine⟨_,rfl,.inl ⟨rfl,_,ah.of k2⟩,_,rfl,lp,_,_,_,rfl,rfl,ah.of k6,rfl,n,_,_,rfl,rfl,k2,by rw[q06,Sh.dX];lia,?_⟩;have D4:=D3.put (o:=.lst (((Sh.new v t).cA rs).map V.str++[V.str (((Sh.new v t).cC rs).cJ g1)])) ⟨xd.2.1,xd.2.2.2.1,xd.2.2.2.2.1,xd.2.2.2.2.2.1⟩ gd;refine⟨rs++[g1],gQ,_,_,rfl,by rw[q08];show rs.length+1<=i+1;lia,λg6 hx=>?_,D4,by rw[zi xd.2.2.2.2.2.2];exact k1,by rw[zd,Sh.eX,q07];rfl,by rw[zi xd.1];exact k3,by rw[zi x9.2.2.2.2.2];exact k4,by rw[zi xd.2.2.1];exact k5⟩;rcases List.mem_append.mp hx with g0 | g0
  .exact Mz g6 g0
  .rw[List.mem_singleton.mp g0];exact h
 .rintro g3 H1 ⟨rs,r,g2,S,rfl,mB,Mz,D,i1,i2,i3,i4,i5⟩;rw[q06]at mB;refine⟨_,rfl,p,_,rfl,.inl (ah.of i3),λh1 US=>?_⟩;generalize mD:upd H1 h1 _=A;have s1:=ae.gen US mD;have s:=rq mD;have hn:H1 C=some (.lst (t.map V.str)):=by
   have:=D.hn;rw[Sh.b8]at this;exact this
  refine⟨_,rfl,C,_,rfl,.inl (ah.of (s1 _ _ hn)),λN YG=>?_⟩;have s2:=s1.aw (o:=.lst (t.map V.str)) YG;have d:upd A N (.lst (t.map V.str)) N=some (.lst (t.map V.str)):=zd;have s:=(ae.new (o:=.lst (t.map V.str)) YG) _ _ s;generalize jq:upd A N _=H3 at s2 s d ⊢;refine⟨_,rfl,e,_,rfl,.inl (ah.of (s2 _ _ i1)),λW gH=>?_⟩;have R:=ae.new (o:=.lst ((rs.map Rw.text).map V.str)) gH;have e3:upd H3 W (.lst ((rs.map Rw.text).map V.str)) W=some (.lst ((rs.map Rw.text).map V.str)):=zd;have s:=R _ _ s;have d:=R _ _ d;have R:=s2.trans R;generalize vG:upd H3 W _=H4 at R s d e3 ⊢;refine⟨(by show 3<=sizeLine;decide),λQ gI=>?_⟩;have j:=ae.new (o:=.lst [.ref h1,.ref N,.ref W]) gI;have H:upd H4 Q (.lst [.ref h1,.ref N,.ref W]) Q=some (.lst [.ref h1,.ref N,.ref W]):=zd;have s:=j _ _ s;have d:=j _ _ d;have e3:=j _ _ e3;have j:=R.trans j;generalize BC:upd H4 Q _=H5 at j s d e3 H ⊢;refine⟨_,rfl,Q,_,_,_,rfl,rfl,ah.of H,rfl,_,rfl,Q,_,_,_,rfl,rfl,ah.of H,rfl,_,rfl,Q,_,_,_,rfl,rfl,ah.of H,rfl,h1,N,W,v,t,rs,rfl,ah.of s,by lia,ah.of d,by lia,h8,Mf,YF,e3,by lia,Mz,bM.new (j _ _ i5),λlf M kp ef=>?_⟩;have I:∀{b:Addr}{xs:List V},H5 b=some (.lst xs)->M b=some (.lst xs):=λg4=>kp _ _ g4 (λ_ z=>by cases z);refine⟨_,rfl,Q,_,_,_,rfl,rfl,ah.of (I H),rfl,_,rfl,h1,p,v,v,rfl,ah.of (I s),ah.of (I (j _ _ i3)),by lia,?_⟩;rw[q19 rfl];refine⟨_,rfl,j6 ?_⟩;refine⟨_,rfl,Q,_,_,_,rfl,rfl,ah.of (I H),rfl,_,rfl,N,C,t,t,rfl,ah.of (I d),ah.of (I (j _ _ hn)),by lia,?_⟩;rw[q19 rfl];refine⟨_,rfl,j6 ?_⟩;refine⟨_,rfl,Q,_,_,_,rfl,rfl,ah.of (I H),rfl,_,rfl,W,e,rs.map Rw.text,rs.map Rw.text,rfl,ah.of (I e3),ah.of (I (j _ _ i1)),by rw[q06];lia,?_⟩;rw[q19 rfl];refine⟨_,rfl,j6 ?_⟩;refine⟨_,rfl,_,rfl,lf,n,(Sh.new v t).cA rs,(Sh.new v t).cA rs,rfl,ah.of ef,ah.of (I (j _ _ i2)),by rw[Sh.dX];lia,?_⟩;rw[q19 rfl];exact gS _
variable {l:PySem.W.OpenLaw}
def all_mk{w:World}{K:Frag}{h:Heap}{mg:Str->Option Value}{fa U Y t:Addr}(X:K.In h)(G:h.Ns mainGlobals mg)(hY:mg "law"=some (.ref fa))
 {Th Ti Tj Tn E To Tp Jg Jh Ji H Jj:Value} {Tq Tr Ts Jk:Option Addr} {Tt Tu:Array (Option Value)}
 (oa_Sheet:nsIn K mainGlobals "Sheet"=some (some (.ref t)))
 (a0:DM K t "refuse_if_sealed" "Sheet.refuse_if_sealed" yQ ["self"])
 (a1:DM K t "refuse_unknown_judge" "Sheet.refuse_unknown_judge" yy zH)
 (a2:DM K t "couples" "Sheet.couples" Pf y9)
 (a3:DM K t "handed" "Sheet.handed" Kr yJ)
 (a4:DF K "_law_key" Ks Kt)
 (a5:DF K "_law_rows" Pg Kv)
 (a6:DF K "_law_part" Ie Kx)
 (a7:DF K "_law_good" Pj Kz)
 (a8:DF K "_law_spoiled" Pk KA)
 (a9:DF K "_law_without" KD KG)
 (a10:DF K "_law_words" KH wP)
 (a11:DF K "_law_ladder" KI KJ)
 (a12:DF K "_law_moved" KN KO)
 (a13:DF K "_law_outsider" Pn KP)
 (a14:DF K "whole_card" Po Ig)
 (a15:DF K "mark_on" Pq Ih)
 (a16:DF K "without_couple" wR yw)
 (a17:DF K "one_up" Pr KQ)
 (a18:DF K "majority_of" Pu ["many"])
 (a19:DF K "granting" KR FG)
 (a20:DF K "due_couples" Pw ["first"])
 (a21:DF K "figure" Px ["sign"])
 (a22:DF K "good_number" Py ["couple"])
 (a23:DF K "small_letter" Pz ["sign"])
 (a24:DF K "good_length" PB wG)
 (a25:DF K "all_unlike" PD ["things"])
 (a26:DF K "numbers_text" KS ["couples"])
 (a27:DF K "ranking_text" KU ["rows"])
 (a28:DF K "text_or_none" PF ["words"])
 (a29:DF K "_law_whole" PK Ii)
 (a30:DF K "_law_at" PL Ij)
 (a31:DF K "_law_texts" PM KW)
 (a32:DF K "_law_mix" PN KY)
 (a33:DF K "_law_many" PQ Ik)
 (a34:DF K "_law_couples" KZ K0)
 (a35:DF K "_law_marks" K1 wQ)
 (a36:DM K t "hand_in" "Sheet.hand_in" PR yY)
 (a37:DM K t "strike" "Sheet.strike" PU K2)
 (a38:DM K t "seal" "Sheet.seal" PV ["self"])
 (a39:DM K t "card_of" "Sheet.card_of" PX yW)
 (a40:DF K "_law_spots" Il K3)
 (a41:DF K "_law_parts" PZ K4)
 (a42:DF K "_law_line" P0 K5)
 (a43:DF K "_law_spot_text" K6 wX)
 (a44:DF K "_law_card_due" K7 K8)
 (a45:DF K "_law_strike_due" P4 wB)
 (a46:DF K "marks_of" K9 FH)
 (a47:DF K "granted" P5 Im)
 (a48:DF K "granted_sum" P6 wJ)
 (a49:DF K "first_number" P7 ["marks"])
 (a50:DF K "refuse_fewer_cards" wL yi)
 (a51:DF K "couple_word" La ["word"])
 (a52:DF K "good_couples" Lb ["couples"])
 (a53:DF K "good_name" Lc ["judge"])
 (a54:DF K "_law_same" P8 Ld)
 (a55:DF K "_law_names" P9 Le)
 (a56:DF K "_law_card" Qa Lf)
 (a57:DM K t "cards" "Sheet.cards" Lg ["self"])
 (a58:DF K "_law_part_text" Qb wS)
 (a59:DF K "_law_firsts" Lh Li)
 (a60:DF K "_law_of_judge" Lj Lk)
 (a61:DF K "_law_of_row" Lm Ln)
 (a62:DF K "ladder_of" Lo wU)
 (a63:DF K "unlike_at" Qc Lp)
 (a64:DF K "cards_without" Lq yG)
 (a65:DF K "read_couple" Qd ["word"])
 (a66:DF K "good_judges" Lr ["judges"])
 (a67:DF K "_law_dealt" Qe Io)
 (a68:DM K t "__init__" "Sheet.__init__" Qf Ip)
 (a69:DF K "_law_deciding" wE Ls)
 (a70:DF K "is_ahead" Qh Lu)
 (a71:DF K "parting_of" Qi Lv)
 (a72:DF K "read_couples" wO yK)
 (a73:DF K "row_text" Iq Lw)
 (a74:DF K "_law_decide_text" Qk we)
 (a75:DF K "place_among" Lx yV)
 (a76:DF K "read_row" Ql ["row"])
 (a77:DF K "_law_plain" Ly Lz)
 (a78:DF K "places_of" Iu LA)
 (a79:DF K "_law_next" Iv LB)
 (a80:DF K "places" Qq ["sheet"])
 (a81:DF K "left_out" Qr Iw)
 (a82:DF K "step_up" LC LD)
 (a83:DF K "firsts_of" LF wV)
 (a84:DF K "firsts" Qs ["sheet"])
 (a85:DF K "table_row" Qt LG)
 (a86:DF K "deciders" LH ["sheet"])
 (a87:nsIn K mainGlobals "by_place"=some (some (.ref Y))) (l87:K.lookup Y=some ⟨Th,Tq,.func (fnOf "by_place" "by_place" (sY FI) (yR FI) (zf FI) .none Ti Tj Tn Tr E To),Tt⟩) (c87:codeIn K E "by_place"=true) (k87:keepIn K (.ref Y)=true)
 {lc P:Addr} {lo:Value} {ld:Option Addr} {ls:Array (Option Value)} {YH:Array Value} (qe:E=.ref lc) (qk:K.lookup lc=some ⟨lo,ld,.fields YH,ls⟩) (qv:YH[11]? = some (.ref P)) (qh:PySem.W.codeHdIn K lc P=true) (qn:K.lookup P=none)
 (a88:DF K "ranking_of" Qu Iz)
 (a89:DF K "places_text" Qv wH)
 (a90:DF K "partings_of" LI LJ)
 (a91:DF K "ranking" Qw ["sheet"])
 (a92:DF K "step_text" Qx LL)
 (a93:DF K "partings" Qy ["sheet"])
 (a94:DF K "only_told" LM LN)
 (a95:DF K "done_and_told" Qz wb)
 (a96:DF K "answer" QA LO)
 (a97:DF K "answers" LP LR)
 (a98:nsIn K mainGlobals "law"=some (some (.ref U))) (l98:K.lookup U=some ⟨Tp,Ts,.func (fnOf "law" "law" (sY xJ) (yR xJ) (zf xJ) .none Jg Jh Ji Jk H Jj),Tu⟩) (c98:codeIn K H "law"=true) (k98:keepIn K (.ref U)=true)
 (z0:nsIn K mainGlobals "all"=some none)
 (z1:nsIn K mainGlobals "bool"=some none)
 (z2:nsIn K mainGlobals "int"=some none)
 (z3:nsIn K mainGlobals "isinstance"=some none)
 (z4:nsIn K mainGlobals "len"=some none)
 (z5:nsIn K mainGlobals "list"=some none)
 (z6:nsIn K mainGlobals "max"=some none)
 (z7:nsIn K mainGlobals "min"=some none)
 (z8:nsIn K mainGlobals "range"=some none)
 (z9:nsIn K mainGlobals "set"=some none)
 (z10:nsIn K mainGlobals "sorted"=some none)
 (z11:nsIn K mainGlobals "str"=some none)
 (z12:nsIn K mainGlobals "sum"=some none)
 (z13:nsIn K mainGlobals "zip"=some none)
 {YI:Addr} {YJ:Value} {hZ:Option Addr} {Z:Array Value} {hc:Nat} {hf:Array (Option Value)}
 (y0:nsIn K mainGlobals "BARE_WORDS"=some (some (.ref YI))) (yl0:K.lookup YI=some ⟨YJ,hZ,.seq Z hc,hf⟩) (yt0:YJ=.type "tuple") (yz0:Z.size<=sizeLine) (yv0:Vals ((["seal","couples","places","parts","deciders"]:List Str).map V.str) Z.toList)
 {YK:Addr} {YL:Value} {ha:Option Addr} {b:Array Value} {hd:Nat} {hg:Array (Option Value)}
 (y1:nsIn K mainGlobals "JUDGE_WORDS"=some (some (.ref YK))) (yl1:K.lookup YK=some ⟨YL,ha,.seq b hd,hg⟩) (yt1:YL=.type "tuple") (yz1:b.size<=sizeLine) (yv1:Vals ((["card","show","leave","step"]:List Str).map V.str) b.toList)
 {YM:Addr} {YN:Value} {hb:Option Addr} {m:Array Value} {he:Nat} {hj:Array (Option Value)}
 (y2:nsIn K mainGlobals "COUPLE_WORDS"=some (some (.ref YM))) (yl2:K.lookup YM=some ⟨YN,hb,.seq m he,hj⟩) (yt2:YN=.type "tuple") (yz2:m.size<=sizeLine) (yv2:Vals ((["strike","step","row"]:List Str).map V.str) m.toList)
 {t3:Tok} (y3:nsIn K mainGlobals "MOST_FIGURES"=some (some (.int 3 t3)))
 {t4:Tok} (y4:nsIn K mainGlobals "MOST_COUPLES"=some (some (.int 24 t4)))
 {t5:Tok} (y5:nsIn K mainGlobals "MOST_JUDGES"=some (some (.int 15 t5)))
 {t6:Tok} (y6:nsIn K mainGlobals "MOST_NUMBER"=some (some (.int 999 t6)))
 {t7:Tok} (y7:nsIn K mainGlobals "MOST_SIGNS"=some (some (.int 8 t7)))
 {t8:Tok} (y8:nsIn K mainGlobals "MOST_CARDS"=some (some (.int 200 t8)))
 {f:Addr} (xa1:nsIn K mainGlobals "BadCouples"=some (some (.ref f)))
 {I:Addr} (xa2:nsIn K mainGlobals "BadJudges"=some (some (.ref I)))
 {s:Addr} (xa3:nsIn K mainGlobals "SheetSealed"=some (some (.ref s)))
 {c:Addr} (xa4:nsIn K mainGlobals "UnknownJudge"=some (some (.ref c)))
 {d:Addr} (xa5:nsIn K mainGlobals "BadCard"=some (some (.ref d)))
 {i:Addr} (xa6:nsIn K mainGlobals "TooManyCards"=some (some (.ref i)))
 {j:Addr} (xa7:nsIn K mainGlobals "UnknownCouple"=some (some (.ref j)))
 {k:Addr} (xa8:nsIn K mainGlobals "LastCouple"=some (some (.ref k)))
 {o:Addr} (xa9:nsIn K mainGlobals "NoCard"=some (some (.ref o)))
 {n:Addr} (xa10:nsIn K mainGlobals "TooFewCards"=some (some (.ref n)))
 {a:Addr} (xa11:nsIn K mainGlobals "AtTop"=some (some (.ref a)))
 {r:Addr} (xa12:nsIn K mainGlobals "BadRow"=some (some (.ref r)))
 (xe1:excIn K f mW "ValueError.__new__"=true)
 (xe2:excIn K I mW "ValueError.__new__"=true)
 (xe3:excIn K s mW "ValueError.__new__"=true)
 (xs3_3:L2.zD K s s=true)
 (xs3_12:L2.zD K s r=false)
 (xe4:excIn K c mW "ValueError.__new__"=true)
 (xs4_3:L2.zD K c s=false)
 (xs4_4:L2.zD K c c=true)
 (xs4_12:L2.zD K c r=false)
 (xe5:excIn K d mW "ValueError.__new__"=true)
 (xs5_3:L2.zD K d s=false)
 (xs5_4:L2.zD K d c=false)
 (xs5_5:L2.zD K d d=true)
 (xs5_12:L2.zD K d r=false)
 (xe6:excIn K i mW "ValueError.__new__"=true)
 (xs6_3:L2.zD K i s=false)
 (xs6_4:L2.zD K i c=false)
 (xs6_5:L2.zD K i d=false)
 (xs6_6:L2.zD K i i=true)
 (xs6_12:L2.zD K i r=false)
 (xe7:excIn K j mW "ValueError.__new__"=true)
 (xs7_3:L2.zD K j s=false)
 (xs7_4:L2.zD K j c=false)
 (xs7_5:L2.zD K j d=false)
 (xs7_6:L2.zD K j i=false)
 (xs7_7:L2.zD K j j=true)
 (xs7_12:L2.zD K j r=false)
 (xe8:excIn K k mW "ValueError.__new__"=true)
 (xs8_3:L2.zD K k s=false)
 (xs8_4:L2.zD K k c=false)
 (xs8_5:L2.zD K k d=false)
 (xs8_6:L2.zD K k i=false)
 (xs8_7:L2.zD K k j=false)
 (xs8_8:L2.zD K k k=true)
 (xs8_12:L2.zD K k r=false)
 (xe9:excIn K o mW "ValueError.__new__"=true)
 (xs9_3:L2.zD K o s=false)
 (xs9_4:L2.zD K o c=false)
 (xs9_5:L2.zD K o d=false)
 (xs9_6:L2.zD K o i=false)
 (xs9_7:L2.zD K o j=false)
 (xs9_8:L2.zD K o k=false)
 (xs9_9:L2.zD K o o=true)
 (xs9_12:L2.zD K o r=false)
 (xe10:excIn K n mW "ValueError.__new__"=true)
 (xs10_3:L2.zD K n s=false)
 (xs10_4:L2.zD K n c=false)
 (xs10_5:L2.zD K n d=false)
 (xs10_6:L2.zD K n i=false)
 (xs10_7:L2.zD K n j=false)
 (xs10_8:L2.zD K n k=false)
 (xs10_9:L2.zD K n o=false)
 (xs10_10:L2.zD K n n=true)
 (xs10_12:L2.zD K n r=false)
 (xe11:excIn K a mW "ValueError.__new__"=true)
 (xs11_3:L2.zD K a s=false)
 (xs11_4:L2.zD K a c=false)
 (xs11_5:L2.zD K a d=false)
 (xs11_6:L2.zD K a i=false)
 (xs11_7:L2.zD K a j=false)
 (xs11_8:L2.zD K a k=false)
 (xs11_9:L2.zD K a o=false)
 (xs11_10:L2.zD K a n=false)
 (xs11_11:L2.zD K a a=true)
 (xs11_12:L2.zD K a r=false)
 (xe12:excIn K r mW "ValueError.__new__"=true)
 (xs12_12:L2.zD K r r=true)
 (opg_Sheet:plainGet K t Str.empty=true)
 (ohd_Sheet:hasDictIn K t=true)
 (opo_Sheet:plainOver K t=true)
 (osa_Sheet:findIn K (.ref t) "__setattr__"=some (some (.builtin "object.__setattr__")))
 (omk_Sheet:makesIn K t=true)
 (okc_Sheet:keepIn K (.ref t)=true)
 (on_Sheet_standing:findIn K (.ref t) "standing"=some none)
 (on_Sheet_struck_so_far:findIn K (.ref t) "struck_so_far"=some none)
 (on_Sheet_panel:findIn K (.ref t) "panel"=some none)
 (on_Sheet_card_by_judge:findIn K (.ref t) "card_by_judge"=some none)
 (on_Sheet_taken_so_far:findIn K (.ref t) "taken_so_far"=some none)
 (on_Sheet_sealed:findIn K (.ref t) "sealed"=some none)
 : AR K "by_place"/\∃fd:FuncData,(∀(g1:Shared)(g0:Value),BindsTo g1 fd ⟨[g0],[]⟩ [("_law_script",g0)])/\∀e:Heap,K.In e->e.Ns mainGlobals mg->AQ mg e->ar l.prog w K mg e bp 19 fa fd ["_law_script"] (Je K):=by
 obtain⟨hV,LK⟩:=Ed a87 l87 qe qk qv qh qn;have hX:=hY.symm.trans (mg_of X G a98);cases hX;have v:=AL oa_Sheet;have T:Txt K mg:=⟨mg_none_of X G z0,mg_none_of X G z1,mg_none_of X G z2,mg_none_of X G z3,mg_none_of X G z4,mg_none_of X G z5,mg_none_of X G z6,mg_none_of X G z7,mg_none_of X G z8,mg_none_of X G z9,mg_none_of X G z10,mg_none_of X G z11,mg_none_of X G z12,mg_none_of X G z13,Oc X G y0 yl0 yt0 yz0 yv0,Oc X G y1 yl1 yt1 yz1 yv1,Oc X G y2 yl2 yt2 yz2 yv2,⟨_,mg_of X G y3⟩,⟨_,mg_of X G y4⟩,⟨_,mg_of X G y5⟩,⟨_,mg_of X G y6⟩,⟨_,mg_of X G y7⟩,⟨_,mg_of X G y8⟩,⟨f,xa1,mg_of X G xa1,xe1⟩,⟨I,xa2,mg_of X G xa2,xe2⟩,⟨s,xa3,mg_of X G xa3,xe3⟩,yk xa3 xa3 xs3_3,yk xa3 xa12 xs3_12,⟨c,xa4,mg_of X G xa4,xe4⟩,yk xa4 xa3 xs4_3,yk xa4 xa4 xs4_4,yk xa4 xa12 xs4_12,⟨d,xa5,mg_of X G xa5,xe5⟩,yk xa5 xa3 xs5_3,yk xa5 xa4 xs5_4,yk xa5 xa5 xs5_5,yk xa5 xa12 xs5_12,⟨i,xa6,mg_of X G xa6,xe6⟩,yk xa6 xa3 xs6_3,yk xa6 xa4 xs6_4,yk xa6 xa5 xs6_5,yk xa6 xa6 xs6_6,yk xa6 xa12 xs6_12,⟨j,xa7,mg_of X G xa7,xe7⟩,yk xa7 xa3 xs7_3,yk xa7 xa4 xs7_4,yk xa7 xa5 xs7_5,yk xa7 xa6 xs7_6,yk xa7 xa7 xs7_7,yk xa7 xa12 xs7_12,⟨k,xa8,mg_of X G xa8,xe8⟩,yk xa8 xa3 xs8_3,yk xa8 xa4 xs8_4,yk xa8 xa5 xs8_5,yk xa8 xa6 xs8_6,yk xa8 xa7 xs8_7,yk xa8 xa8 xs8_8,yk xa8 xa12 xs8_12,⟨o,xa9,mg_of X G xa9,xe9⟩,yk xa9 xa3 xs9_3,yk xa9 xa4 xs9_4,yk xa9 xa5 xs9_5,yk xa9 xa6 xs9_6,yk xa9 xa7 xs9_7,yk xa9 xa8 xs9_8,yk xa9 xa9 xs9_9,yk xa9 xa12 xs9_12,⟨n,xa10,mg_of X G xa10,xe10⟩,yk xa10 xa3 xs10_3,yk xa10 xa4 xs10_4,yk xa10 xa5 xs10_5,yk xa10 xa6 xs10_6,yk xa10 xa7 xs10_7,yk xa10 xa8 xs10_8,yk xa10 xa9 xs10_9,yk xa10 xa10 xs10_10,yk xa10 xa12 xs10_12,⟨a,xa11,mg_of X G xa11,xe11⟩,yk xa11 xa3 xs11_3,yk xa11 xa4 xs11_4,yk xa11 xa5 xs11_5,yk xa11 xa6 xs11_6,yk xa11 xa7 xs11_7,yk xa11 xa8 xs11_8,yk xa11 xa9 xs11_9,yk xa11 xa10 xs11_10,yk xa11 xa11 xs11_11,yk xa11 xa12 xs11_12,⟨r,xa12,mg_of X G xa12,xe12⟩,yk xa12 xa12 xs12_12,v ▸ ⟨opg_Sheet,ohd_Sheet,opo_Sheet,osa_Sheet⟩,v ▸ on_Sheet_standing,v ▸ on_Sheet_struck_so_far,v ▸ on_Sheet_panel,v ▸ on_Sheet_card_by_judge,v ▸ on_Sheet_taken_so_far,v ▸ on_Sheet_sealed⟩;have J:=Fb (st:=FI) l87 c87 k87;have hW:=J.binds (ps:=["places","couples"]) λ_ _ _ _ _ _=>onS λ_=>onS λ_=>on0 rfl;have YO:=Fb (st:=xJ) l98 c98 k98;have hk:=YO.binds (ps:=["_law_script"]) λ_ _ _ _ _ _=>onS λ_=>on0 rfl;refine⟨LK,fnOf "law" "law" (sY xJ) (yR xJ) (zf xJ) .none Jg Jh Ji Jk H Jj,λg1 g0=>.of_eq rfl,λe _ _ B=>?_⟩;have D:=Fu l.prog w e v a0 λF=>zc4 T F;have C1:=Fu l.prog w e v a1 λF=>zbA T F;have p:=Ef l.prog w e v a2 λF=>zhe T F;have g:=Ef l.prog w e v a3 λF=>zh5 T F;have C4:=zP l.prog w e X G a4 λF=>zni T F;have C5:=zP l.prog w e X G a5 λF=>znc T F;have C6:=zP l.prog w e X G a6 λF=>zmj T F;have C7:=zP l.prog w e X G a7 λF=>zmm T F;have C8:=zP l.prog w e X G a8 λF=>zjl T F;have C9:=zP l.prog w e X G a9 λF=>zjv T F;have q:=zP l.prog w e X G a10 λF=>zlz T F;have g2:=zP l.prog w e X G a11 λF=>zkd T F;have g3:=zP l.prog w e X G a12 λF=>zli T F;have g4:=zP l.prog w e X G a13 λF=>zik T F;have g5:=zP l.prog w e X G a14 λF=>zjU T F;have g6:=zP l.prog w e X G a15 λF=>znn T F;have g8:=zP l.prog w e X G a16 λF=>zgQ T F;have g9:=kC l.prog w e X G a17 λF=>qw T F;have gB:=zP l.prog w e X G a18 λF=>zjc T F;have YQ:=zP l.prog w e X G a19 λF=>zmG T F;have gC:=zP l.prog w e X G a20 λF=>zjL T F;have gH:=zP l.prog w e X G a21 λF=>qx T F;have gI:=zP l.prog w e X G a22 λF=>zi4 T F;have gJ:=zP l.prog w e X G a23 λF=>zil T F;have L:=zP l.prog w e X G a24 λF=>zjw T F;have YR:=zP l.prog w e X G a25 λF=>zjV T F;have gK:=zP l.prog w e X G a26 λF=>zio T F;have YS:=zP l.prog w e X G a27 λF=>zh8 T F;have gL:=zP l.prog w e X G a28 λF=>zh3 T F;have gQ:=zP l.prog w e X G a29 λF=>zlR T F;have gR:=zP l.prog w e X G a30 λF=>qy T F;have gS:=zP l.prog w e X G a31 λF=>zkY T F;have M:=zP l.prog w e X G a32 λF=>mz T F;have gT:=zP l.prog w e X G a33 λF=>zmQ T F;have gU:=zP l.prog w e X G a34 λF=>zjM T F;have N:=zP l.prog w e X G a35 λF=>zlJ T F;have gV:=Fu l.prog w e v a36 λF=>zhv T D C1 g5 F;have gW:=Fu l.prog w e v a37 λF=>zig T D g g8 F;have gY:=Fu l.prog w e v a38 λF=>zj2 T D F;have x:=Fu l.prog w e v a39 λF=>zha T C1 F;have A:=zP l.prog w e X G a40 λF=>zla T C4 N F;have ga:=zP l.prog w e X G a41 λF=>zlK T C5 C6 N F;have gc:=zP l.prog w e X G a42 λF=>zmF T q g2 N F;have YT:=zP l.prog w e X G a43 λF=>zhD T C5 q F;have gd:=zP l.prog w e X G a44 λF=>zib T C7 F;have ge:=zP l.prog w e X G a45 λF=>zgS T C9 F;have O:=zP l.prog w e X G a46 λF=>zmB T g6 F;have C:=zP l.prog w e X G a47 λF=>znt T YQ F;have Q:=zP l.prog w e X G a48 λF=>ziH T YQ F;have R:=zP l.prog w e X G a49 λF=>zia T gB F;have u:=kC l.prog w e X G a50 λF=>zeV T g F;have gg:=zP l.prog w e X G a51 λF=>ziQ T gH F;have gl:=zP l.prog w e X G a52 λF=>ziq T gI L YR F;have gp:=zP l.prog w e X G a53 λF=>zlO T gJ L F;have gq:=zP l.prog w e X G a54 λF=>zmt T gQ F;have gu:=zP l.prog w e X G a55 λF=>zkW T M F;have gx:=zP l.prog w e X G a56 λF=>zlX T M F;have y:=Ef l.prog w e v a57 λF=>zi5 T g x F;have gy:=zP l.prog w e X G a58 λF=>zhl T q ga F;have gz:=zP l.prog w e X G a59 λF=>zke T A F;have h0:=zP l.prog w e X G a60 λF=>zij T q g3 A YT F;have h1:=zP l.prog w e X G a61 λF=>zj9 T A gc F;have h2:=zP l.prog w e X G a62 λF=>zln T C Q F;have YU:=zP l.prog w e X G a63 λF=>zlB T C Q R F;have YV:=zP l.prog w e X G a64 λF=>zho T g x F;have h3:=kC l.prog w e X G a65 λF=>zjH T gg F;have h4:=zP l.prog w e X G a66 λF=>ziP T L YR gp F;have h5:=zP l.prog w e X G a67 λF=>zly T M gx F;have h6:=OE l.prog w e v X G oa_Sheet omk_Sheet okc_Sheet a68 λF=>zkb T gl h4 F;have h7:=zP l.prog w e X G a69 λF=>zir T gz F;have h8:=zP l.prog w e X G a70 λF=>zl5 T C Q R YU F;have h9:=zP l.prog w e X G a71 λF=>zj7 T C R YU F;have hA:=kC l.prog w e X G a72 λF=>zh4 T gC h3 F;have hB:=zP l.prog w e X G a73 λF=>znd T p O y h2 F;have hC:=zP l.prog w e X G a74 λF=>zgl T q h7 F;have hD:=zP l.prog w e X G a75 λF=>ziS T h8 F;have hE:=kC l.prog w e X G a76 λF=>zmI T hA F;have hF:=zP l.prog w e X G a77 λF=>zlr T q A YT gy hC F;have z:=zP l.prog w e X G a78 λF=>zlG T O hD F;have hG:=zP l.prog w e X G a79 λF=>zl8 T C8 q gd ge h0 h1 h5 hF F;have S:=kC l.prog w e X G a80 λF=>qK T p u y z F;have hH:=kC l.prog w e X G a81 λF=>zl0 T p x u YV z F;have hI:=kC l.prog w e X G a82 λF=>mE T p g g9 x z F;have YW:=zP l.prog w e X G a83 λF=>zlt T z F;have hJ:=kC l.prog w e X G a84 λF=>qL T p u y YW F;have hK:=kC l.prog w e X G a85 λF=>zlg T p hB S F;have hL:=kC l.prog w e X G a86 λF=>zmJ T p g u YV YW hJ F;have YX:bJ l.prog w K mg e 11 "by_place" ["places","couples"] (Mt K):=bJ.of J (zme T S J hV B) (mg_of X G a87) hW;have YY:=zP l.prog w e X G a88 λF=>zj3 T z YX F;have YZ:=zP l.prog w e X G a89 λF=>ziD T p YS S YX F;have hN:=zP l.prog w e X G a90 λF=>zjm T O h9 YY F;have hO:=kC l.prog w e X G a91 λF=>mF T p u y YY F;have hP:=kC l.prog w e X G a92 λF=>zlv T hI YZ F;have hQ:=kC l.prog w e X G a93 λF=>zmi T p u y hN F;have hR:=kC l.prog w e X G a94 λF=>zkX T p gK YS gL x hH hK hL YZ hO hP hQ F;have hS:=kC l.prog w e X G a95 λF=>zhw T gV gW gY hR F;have hT:=zP l.prog w e X G a96 λF=>qM T hE hS F;have hU:=kC l.prog w e X G a97 λF=>mG T h6 hT F;exact EX T g4 gR gS gT gU gq gu hG hU YO
def walk{q:Program}{E:List Str}{j:(Str->Option Value)->Heap->Prop}{r:World->Heap->Prop}{d:DefRec}{K:Params->Frag}(C:l.most=some 63)(i:d.params.defaults=[])
 (A:∀(w:World)(h:Heap),r w h->(K w.params).In h)
 (D:∃o,(PyProof.Rows.recsOf q).find? (λe=>e.name==("by_place":Str))=some o)
 (F:∀(w:World)(t:Str->Option Value)(c:Addr)(h:Heap),(K w.params).In h->h.Ns mainGlobals t->t d.name=some (.ref c) ->
   AR (K w.params) "by_place"/\∃fd:FuncData,(∀(s:Shared)(u:Value),BindsTo s fd ⟨[u],[]⟩ [("_law_script",u)])/\∀v:Heap,(K w.params).In v->v.Ns mainGlobals t->AQ t v->ar l.prog w (K w.params) t v bp 19 c fd ["_law_script"] (Je (K w.params))) :
 PySem.W.WalkO q E j r l.row.toRowW d [] (λf G=>PySem.call f G) :=
 L2.uA (n:=63) (k:=19) (x:= "_law_script") (y:= "by_place") (CX:=λ_=>bp) (sp:=λw=>Je (K w.params)) C (by decide) i ⟨rfl,by decide,by decide⟩ D A F (λ_ _ a ns B g p=>⟨a,ns,rfl,p,B,g,λ_=>rfl⟩) λ_ _ _ _ _ z=>z
end
end Pp
structure PySem.W.Fast:Prop where(tw16750321228661832843 tw12691157879156670835 tw15409821348739448835 tw4766864686899578320 tw15880745467492509928 tw1351485594572098145 tw5180322614745532814 tw11306173022089683185 tw1509432372067574902 tw4755634864557534806 tw17517050900149779274 tw15922669732145148566 tw17704114123531171223 tw6233391869754674731 tw14831299477793138569 tw3292705015066961938 tw376006734608427668 tw12364604268316854173 tw7310056126171046808 tw5394300550755367985 tw14799706754977407354 tw7519997485145879645 tw7367457378600876417 tw14320513514455217075 tw14317095687305710432 tw7289708865860327727 tw12578640401636505777 tw17909476230662279160 tw12834770767310884808 tw8009317603045788695 tw3203486173770372446 tw6942123410407275299 tw11464404925287337150 tw5688475996124758985 tw4780814502692233277 tw5295218451243772683 tw1404619248082578634 tw14736891969988723418 tw4697019538519325550 tw14468050985420342438 tw4754998944387032222 tw10870575764689528625 tw13148844138298315907 tw6727634481760811055 tw5676301565482898309 tw6053522710647970244 tw67721806596849985 tw844455293188989354 tw2282606406168961474 tw11402640991040359646 tw11441313038251814292 tw15517466883111128746 tw11517126998396728713 tw18045490368934059960 tw1930289341715010131 tw3590353809315593822 tw13514953165285279211 tw5556378405983786901 tw5212777161911045715 tw1323983418791477651 tw5140917095502146037 tw12178736887465065663 tw12435064335060143848 tw2811237954890256121 tw14207075258285935902 tw4397400742142345094 tw3691223610049098090 tw12021254525115134019 tw7378191984362317222 tw15494174353333679727 tw6120717043070310489 tw3856595578710559400 tw10676055580078450103 tw10789734145978767853 tw465403571864278193 tw9184785825323774799 tw13741139937611883521 tw4808338536408058775 tw7239911211939658533 tw17681628584010350243 tw143154954562362508 tw9884351617061185801 tw14060032310262851227 tw703066847780120064 tw5246297789882244307 tw4381522299627433625 tw6712011620993933823 tw15859836438309046721 tw7660310053343000809 tw5205740750036300615 tw10626906244081789357 tw3385832044892975008 tw5265755008268981582 tw7654877154062349689 tw3417700486305091902 tw11645022665237366144 tw9693598602617293036 tw6585241597971047040 tw11951681860762822897 tw16918804655033395055 tw481558501270040541 tw6143292757781521119 tw8363708845992864693 tw10413579229523311213 tw13416662726609247028 tw16070916547900873882 tw16484885003644770912 tw1692991799429978114 tw13288879599550990315 tw14879971458617758978 tw6828691406792405302 tw6866878672520442119 tw13349859581848512785 tw4192018809021765715 tw6375542475948071099 tw9916812699501041229 tw1460517935993544522 tw15580002002024460424 tw8168591555962487532 tw5537114970447822715 tw9936294476829000165 tw1142941954074368126 tw13228864542164517866 tw13751090395809861962 tw7411516629478891893 tw3861358324554215311 tw3103398455953421772 tw6684326607519799303 tw5659871314602022425 tw5826570099795001468 tw11297260387496112547 tw7125768337532287612 tw15726546537682033189 tw15788002915882524782 tw4832545042418486963 tw8419858148521740143 tw2912355365528471823 tw12797740457269348304 tw14757314489684208460 tw9536427509358126015 tw3254334995105655806 tw11290093569400646702 tw10208216868848974371 tw13588719731569381758 tw6232770473061112552 tw1943182202073016151 tw3202152329438359978 tw14205692016729303715 tw431848691999512008 tw17067778435718510939 tw12722070027053755884 tw17886626559151876445 tw11545472159092048820 tw17087238575612426399 tw18085872112656573939 tw11899457977157116254 tw5451684656608801512 tw11023822671540843315 tw3893824808134373961 tw9810745562523461959 tw1712465309644992168 tw13682109333237871939 tw161722731060006438 tw5991219224467833056 tw18073119310601656671 tw12520871085119508417 tw10893156711939688698 tw13657837430741651680 tw9291964330405514219 tw9726106100436674412 tw5634917385019281312 tw18203015697370691447 tw3548800037070555798 tw4084248481513653959 tw7213166070656955387 tw5057228674063898846 tw6539775892780778416 tw4525768495374944072 tw10278709827037443263 tw16233183473381187489 tw14531646273617123800 tw4547797157970161157 tw5134721687700238525 tw3733673792270622451 tw3022984848704491590 tw2603793642574150383 tw1901475252475974405 tw1481933238329536545 tw13521570877590794675 tw3396296797995169194 tw17110732422606811792 tw139115772378934612 tw9108841472970647217 tw5676205616055113645 tw1011961526411712508 tw16487162969536279832 tw3443038746256714835 tw18050645850678437678 tw10025048112174010751 tw1521218956544427813 tw9379239238400360828 tw1124990144325974553 tw17745619971638595786 tw10226920758220705263 tw3032394089067854156 tw6741971921019525461 tw10483732788631635430 tw5428505692003582686 tw13365613948232115799 tw7637130704059725053 tw1723966030425413256 tw11551133051790743937 tw7838890938900321915 tw2280045983138908514 tw17054921437151221958 tw2583819753549342103 tw3689370964912060607 tw15898201857626550114 tw3232226723985500418 tw4611972794743217637 tw8678803679835297567 tw11661081545701961672 tw3443834237554576263 tw7181484303297233082 tw11685521227751715700 tw12796094193398647848 tw11704441701699629891 tw9290621776939493245 tw3003076395359464793 tw3918480365638152908 tw3455978102875884794 tw10102685279993411063 tw17994432542459565025 tw1770577323017104013 tw13560320744757836669 tw14247319901822033038 tw11602183606923610517 tw5146546838463452175 tw5179819047514694588 tw16110734200125558546 tw960657200352126329 tw16609748799485947617 tw6553918835644352567 tw1031771816076570090 tw16714239610714317503 tw16095585235979764222 tw6569101330252682734 tw14167169216703748185 tw12642648248565935391 tw7011626562493378159 tw4110429363208364810 tw12537452442492821802 tw9515048096399754516 tw11678129029069349015 tw8504631494506012285 tw11017470503471247343 tw8975011518097641093 tw1025799259051993774 tw15017653770338852939 tw6989431802659879069 tw6391725131424868885 tw11435010718219114292 tw13752894960743335105 tw9575632499849431395 tw3084382021340731431 tw4589994301130288473 tw3639123904530270608 tw6754633813204624214 tw5636063855462822502 tw18054551584906778401 tw10739592182665357536 tw12490972712278645599 tw6001128550258893573 tw1535229074052106890 tw7736541204328851397 tw315495952990505645 tw5150962694206181182 tw5607377823632201422 tw2399206049530523454 tw15898055742361315597 tw7216586027160900333 tw11638101792580066199 tw10410486004441689486 tw14273372333841844947 tw17570446932228505902 tw9892772753696960770 tw6622768117224412151 tw10465119883952754381 tw7826283128881334500 tw6084862596369131877 tw11202545734409826627 tw17864199224103578717 tw13216005721103661575 tw14489637297022149664 tw17430717109417698778:True)
open PySem PySem.W PyProof.Rows
set_option maxRecDepth 100000 in
set_option maxHeartbeats 0 in
theorem PySem.Challenge.cw_panelplace_k47_whole_day_at_the_desk_holds : PySem.Challenge.rw_panelplace_k47_whole_day_at_the_desk.Holds := by
 w_on;o_law;k_head;(case hw=>w_witness2)
 k_fill
 refine Pp.walk (l:=PySem.Challenge.rw_panelplace_k47_whole_day_at_the_desk) rfl rfl (λw h Y=>PySem.W.km_in_of Y) ⟨_,rfl⟩ ?F
 case F =>
  intro w mg fa h KX G hmg
  refine' Pp.all_mk KX G hmg ?oa_Sheet ?a0 ?a1 ?a2 ?a3 ?a4 ?a5 ?a6 ?a7 ?a8 ?a9 ?a10 ?a11 ?a12 ?a13 ?a14 ?a15 ?a16 ?a17 ?a18 ?a19 ?a20 ?a21 ?a22 ?a23 ?a24 ?a25 ?a26 ?a27 ?a28 ?a29 ?a30 ?a31 ?a32 ?a33 ?a34 ?a35 ?a36 ?a37 ?a38 ?a39 ?a40 ?a41 ?a42 ?a43 ?a44 ?a45 ?a46 ?a47 ?a48 ?a49 ?a50 ?a51 ?a52 ?a53 ?a54 ?a55 ?a56 ?a57 ?a58 ?a59 ?a60 ?a61 ?a62 ?a63 ?a64 ?a65 ?a66 ?a67 ?a68 ?a69 ?a70 ?a71 ?a72 ?a73 ?a74 ?a75 ?a76 ?a77 ?a78 ?a79 ?a80 ?a81 ?a82 ?a83 ?a84 ?a85 ?a86 ?a87 ?l87 ?c87 ?k87 ?qe ?qk ?qv ?qh ?qn ?a88 ?a89 ?a90 ?a91 ?a92 ?a93 ?a94 ?a95 ?a96 ?a97 ?a98 ?l98 ?c98 ?k98 ?z0 ?z1 ?z2 ?z3 ?z4 ?z5 ?z6 ?z7 ?z8 ?z9 ?z10 ?z11 ?z12 ?z13 ?y0 ?yl0 ?yt0 ?yz0 ?yv0 ?y1 ?yl1 ?yt1 ?yz1 ?yv1 ?y2 ?yl2 ?yt2 ?yz2 ?yv2 ?y3 ?y4 ?y5 ?y6 ?y7 ?y8 ?xa1 ?xa2 ?xa3 ?xa4 ?xa5 ?xa6 ?xa7 ?xa8 ?xa9 ?xa10 ?xa11 ?xa12 ?xe1 ?xe2 ?xe3 ?xs3_3 ?xs3_12 ?xe4 ?xs4_3 ?xs4_4 ?xs4_12 ?xe5 ?xs5_3 ?xs5_4 ?xs5_5 ?xs5_12 ?xe6 ?xs6_3 ?xs6_4 ?xs6_5 ?xs6_6 ?xs6_12 ?xe7 ?xs7_3 ?xs7_4 ?xs7_5 ?xs7_6 ?xs7_7 ?xs7_12 ?xe8 ?xs8_3 ?xs8_4 ?xs8_5 ?xs8_6 ?xs8_7 ?xs8_8 ?xs8_12 ?xe9 ?xs9_3 ?xs9_4 ?xs9_5 ?xs9_6 ?xs9_7 ?xs9_8 ?xs9_9 ?xs9_12 ?xe10 ?xs10_3 ?xs10_4 ?xs10_5 ?xs10_6 ?xs10_7 ?xs10_8 ?xs10_9 ?xs10_10 ?xs10_12 ?xe11 ?xs11_3 ?xs11_4 ?xs11_5 ?xs11_6 ?xs11_7 ?xs11_8 ?xs11_9 ?xs11_10 ?xs11_11 ?xs11_12 ?xe12 ?xs12_12 ?opg_Sheet ?ohd_Sheet ?opo_Sheet ?osa_Sheet ?omk_Sheet ?okc_Sheet ?on_Sheet_standing ?on_Sheet_struck_so_far ?on_Sheet_panel ?on_Sheet_card_by_judge ?on_Sheet_taken_so_far ?on_Sheet_sealed
  case oa_Sheet=>k_is
  (case a0|a2|a3|a38|a57=>exact L2.dm (by k_is) (by k_is) (by k_is) (by k_is) (by k_is) (λ_ _ _ _ _ _=>L2.onS λ_=>L2.on0 rfl))
  (case a1|a37|a39=>exact L2.dm (by k_is) (by k_is) (by k_is) (by k_is) (by k_is) (λ_ _ _ _ _ _=>L2.onS λ_=>L2.onS λ_=>L2.on0 rfl))
  (case a4|a5|a7|a8|a9|a11|a13|a14|a15|a16|a17|a19|a24|a30|a31|a32|a34|a35|a40|a43|a46|a47|a48|a50|a54|a55|a59|a62|a63|a64|a70|a71|a72|a75|a78|a81|a83|a85|a88|a89|a90|a96=>exact L2.df (by k_is) (by k_is) (by k_is) (by k_is) (λ_ _ _ _ _ _=>L2.onS λ_=>L2.onS λ_=>L2.on0 rfl))
  (case a6|a12|a41|a56|a58|a61|a69|a73|a74|a82|a92|a97=>exact L2.df (by k_is) (by k_is) (by k_is) (by k_is) (λ_ _ _ _ _ _=>L2.onS λ_=>L2.onS λ_=>L2.onS λ_=>L2.on0 rfl))
  (case a10|a18|a20|a21|a22|a23|a25|a26|a27|a28|a29|a49|a51|a52|a53|a65|a66|a76|a80|a84|a86|a91|a93=>exact L2.df (by k_is) (by k_is) (by k_is) (by k_is) (λ_ _ _ _ _ _=>L2.onS λ_=>L2.on0 rfl))
  (case a33|a44|a45|a60=>exact L2.df (by k_is) (by k_is) (by k_is) (by k_is) (λ_ _ _ _ _ _=>L2.onS λ_=>L2.onS λ_=>L2.onS λ_=>L2.onS λ_=>L2.onS λ_=>L2.on0 rfl))
  (case a36|a68=>exact L2.dm (by k_is) (by k_is) (by k_is) (by k_is) (by k_is) (λ_ _ _ _ _ _=>L2.onS λ_=>L2.onS λ_=>L2.onS λ_=>L2.on0 rfl))
  (case a42|a67|a77|a94|a95=>exact L2.df (by k_is) (by k_is) (by k_is) (by k_is) (λ_ _ _ _ _ _=>L2.onS λ_=>L2.onS λ_=>L2.onS λ_=>L2.onS λ_=>L2.on0 rfl))
  (case a79=>exact L2.df (by k_is) (by k_is) (by k_is) (by k_is) (λ_ _ _ _ _ _=>L2.onS λ_=>L2.onS λ_=>L2.onS λ_=>L2.onS λ_=>L2.onS λ_=>L2.onS λ_=>L2.on0 rfl))
  (case a87|l87|c87|k87=>k_is)
  (case qe=>exact rfl)
  case qk=>k_is
  (case qv=>exact rfl)
  (case qh|qn=>kernel_rfl)
  (case a98|l98|c98|k98|z0|z1|z2|z3|z4|z5|z6|z7|z8|z9|z10|z11|z12|z13|y0|yl0=>k_is)
  (case yt0=>exact rfl)
  (case yz0=>decide)
  (case yv0=>exact .cons ⟨_,rfl⟩ (.cons ⟨_,rfl⟩ (.cons ⟨_,rfl⟩ (.cons ⟨_,rfl⟩ (.cons ⟨_,rfl⟩ (.nil))))))
  (case y1|yl1=>k_is)
  (case yt1=>exact rfl)
  (case yz1=>decide)
  (case yv1=>exact .cons ⟨_,rfl⟩ (.cons ⟨_,rfl⟩ (.cons ⟨_,rfl⟩ (.cons ⟨_,rfl⟩ (.nil)))))
  (case y2|yl2=>k_is)
  (case yt2=>exact rfl)
  (case yz2=>decide)
  (case yv2=>exact .cons ⟨_,rfl⟩ (.cons ⟨_,rfl⟩ (.cons ⟨_,rfl⟩ (.nil))))
  (case y3|y4|y5|y6|y7|y8|xa1|xa2|xa3|xa4|xa5|xa6|xa7|xa8|xa9|xa10|xa11|xa12=>k_is)
  (case xe1|xe2|xe3|xs3_3|xs3_12|xe4|xs4_3|xs4_4|xs4_12|xe5|xs5_3|xs5_4|xs5_5|xs5_12|xe6|xs6_3|xs6_4|xs6_5|xs6_6|xs6_12|xe7|xs7_3|xs7_4|xs7_5|xs7_6|xs7_7|xs7_12|xe8|xs8_3|xs8_4|xs8_5|xs8_6|xs8_7|xs8_8|xs8_12|xe9|xs9_3|xs9_4|xs9_5|xs9_6|xs9_7|xs9_8|xs9_9|xs9_12|xe10|xs10_3|xs10_4|xs10_5|xs10_6|xs10_7|xs10_8|xs10_9|xs10_10|xs10_12|xe11|xs11_3|xs11_4|xs11_5|xs11_6|xs11_7|xs11_8|xs11_9|xs11_10|xs11_11|xs11_12|xe12|xs12_12=>kernel_rfl)
  (case opg_Sheet|ohd_Sheet|opo_Sheet|osa_Sheet|omk_Sheet|okc_Sheet|on_Sheet_standing|on_Sheet_struck_so_far|on_Sheet_panel|on_Sheet_card_by_judge|on_Sheet_taken_so_far|on_Sheet_sealed=>k_is)
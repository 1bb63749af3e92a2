import PyProof.Rows.All
import Wide.All
import OpenK.AllK
import Wide.FinOn
import Lean
import PyProof.EqAt
import PyProof.EqKinds
import PyProof.TupleCall
import KE.KIntText
import PyProof.ListRange
import KE.KSortAsk
import KE.KSortKey
import KE.KSortTup
import KE.KItemsList
import KE.KLam
import KE.KNestM
import PyProof.Rows.StrLen
import PyProof.Rows.Range3
import PyProof.CallStr
import PyProof.StrBlockL
import PyProof.MeetsStr
import PyProof.Rows.StrDigits
import PySem.Challenge.RW_panelplace_k34_desk_questions
open PySem.W (Frag InstAt callWith_K callWith_K0 cellsFrom_some codeIn emptyDict excIn findIn fnOf handedIn hasDictIn hideAll hideAll_get instObj isFn keepIn lookIn makesIn methodCall_KW methodObj mg_none_of mg_of nsIn of_hideAll plainGet plainGet_of plainOver takerIn typeIn)
open List (all_cons all_eq_true all_map any_cons append_assoc append_nil cons_append cons_lt_cons_iff drop_eq_getElem_cons drop_nil drop_of_length_le ext_getElem filter filterMap filterMap_nil filter_append filter_congr filter_cons filter_cons_of_neg filter_cons_of_pos filter_filter filter_map filter_nil find?_cons findIdx_cons flatMap flatMap_append flatMap_cons flatten_cons foldl foldl_cons forIn_cons forIn_nil forIn_toArray getD_eq_getElem?_getD getElem?_eq_getElem getElem?_map getElem?_range getElem_map getElem_mem getElem_range idxOf_lt_length_of_mem length_append length_cons length_drop length_filter_le length_map length_nil length_pos_of_mem length_range length_replicate length_singleton length_tail length_take length_zip lookup_cons map map_append map_congr_left map_cons map_drop map_map map_nil map_take mem_append mem_append_left mem_append_right mem_cons mem_cons_of_mem mem_cons_self mem_of_getElem? nil_append nodup_append not_mem_nil of_mem_zip pairwise_lt_range range' range_succ range_succ_eq_map replicate replicate_succ size_toArray sum_cons take_append_drop take_length take_nil take_of_length_le take_succ take_zero)
open PyProof.Rows (boot_all boot_bool boot_int boot_isinstance boot_list boot_max boot_min boot_set boot_str boot_sum callWith_builtin1 callWith_type1 len_str_of_int)
open Nat (le_add_right le_of_eq le_of_lt le_refl le_succ le_trans lt_irrefl lt_of_lt_of_le lt_succ_of_lt lt_succ_self lt_trans mul_le_mul ne_of_gt ne_of_lt succ_mul toDigits zero_le)
open PySem.Heap (FlyingW SameBut get?_push_of_some get?_push_size get?_update_other lt_size size_push size_update)
noncomputable section
set_option Elab.async false
set_option linter.all false
def q00:=@if_neg
def q01:=@if_pos
def q02:=@absurd
def q03:=@PySem.wpAny_bind
def q04:=@PySem.wpAny_pure
def q05:=@get?_push_of_some
def q06:=@List.length_map
def q07:=@List.map_append
def q08:=@List.length_append
def q09:=@List.length_filter_le
def q10:=@List.size_toArray
def q11:=@List.length_take
def q12:=@List.length_cons
def q13:=@List.mem_cons_of_mem
def q14:=@List.mem_cons_self
def q15:=@List.take_length
def q16:=@List.filter_append
def q17:=@List.filter_cons
def q18:=@List.getD_eq_getElem?_getD
def q19:=@decide_eq_true
def q20:=@decide_eq_false
def q21:=@Nat.lt_of_lt_of_le
def q22:=@Option.some.inj
def q23:=@Bool.false_ne_true
def q24:=@List.mem_filter
def q25:=@List.mem_map
def q26:=@List.getElem?_map
def q27:=@List.mem_cons
def q29:=@List.getElem?_append_right
def q30:=@List.length_pos_of_mem
def q31:=@List.getElem?_eq_getElem
def q32:=@List.map_map
def q33:=@List.length_range
def q34:=@List.length_replicate
def q35:=@List.take_append_drop
def q36:=@List.getElem?_range
def q37:=@Nat.lt_irrefl
def q38:=@Nat.le_trans
def q39:=@List.all_eq_true
def q41:=@Option.map_some
def q42:=@Bool.and_eq_true
def q43:=@List.map_congr_left
def q44:=@List.getElem_mem
def q45:=@List.getElem?_eq_some_iff
set_option maxRecDepth 100000
namespace L2
open PySem PySem.Spec PyProof.Rows
abbrev Key:=Sum Int Str
def Ce:Key->Value->Bool
 | .inl k,v=>Value.isInt k v
 | .inr x,v=>Value.isStrOf x v
def Kd(w:World):Key->Int
 | .inl k=>hashInt k
 | .inr x=>hashStr w x
theorem yR:∀{k:Key}{v:Value},Ce k v=true->(∃i t,k=Sum.inl i/\v=Value.int i t)\/(∃x t,k=Sum.inr x/\v=Value.str x t)
 | .inl i,v,h=>by
   obtain⟨t,e⟩:=Value.isInt_shape (k:=i) (v:=v) h;exact .inl ⟨i,t,rfl,e⟩
 | .inr x,v,h=>by
   obtain⟨t,e⟩:=Value.isStrOf_shape (x:=x) (v:=v) h;exact .inr ⟨x,t,rfl,e⟩
theorem mx(i:Int)(t:Tok):Ce (.inl i) (.int i t)=true:=by simp[Ce,Value.isInt]
theorem my(x:Str)(t:Tok):Ce (.inr x) (.str x t)=true:=by simp[Ce,Value.isStrOf]
theorem AG(a b:Int):decide ((Sum.inl a:Key)=Sum.inl b)=(a==b):=by
 by_cases e:a=b
 .subst e;simp
 .have h:¬(Sum.inl a:Key)=Sum.inl b:=λq=>e (Sum.inl.inj q);rw[q20 h];exact(beq_eq_false_iff_ne.mpr e).symm
theorem AH(a b:Str):decide ((Sum.inr a:Key)=Sum.inr b)=decide (a=b):=by
 by_cases e:a=b
 .subst e;simp
 .have h:¬(Sum.inr a:Key)=Sum.inr b:=λq=>e (Sum.inr.inj q);rw[q20 h,q20 e]
theorem AI(a:Int)(b:Str):decide ((Sum.inl a:Key)=Sum.inr b)=false:=q20 (λq=>nomatch q)
theorem AJ(a:Str)(b:Int):decide ((Sum.inr a:Key)=Sum.inl b)=false:=q20 (λq=>nomatch q)
def wN(prog:Program)(w:World):PySem.KeyKind prog w Key where
 is:=Ce
 hash:=Kd w
 inj:=λv a b ha hb=>by
  rcases yR ha with⟨i,t,rfl,rfl⟩|⟨x,t,rfl,rfl⟩
  .rcases yR hb with⟨j,u,rfl,e⟩|⟨y,u,rfl,e⟩
   .injection e with e1 _;rw[e1]
   .exact nomatch e
  .rcases yR hb with⟨j,u,rfl,e⟩|⟨y,u,rfl,e⟩
   .exact nomatch e
   .injection e with e1 _;rw[e1]
 byValue:=λk v h=>by
  rcases yR h with⟨i,t,rfl,rfl⟩|⟨x,t,rfl,rfl⟩ <;> rfl
 pyHash:=λhv h=>by
  rcases yR hv with⟨i,t,rfl,rfl⟩|⟨x,t,rfl,rfl⟩
  .exact wpAny_pyHash_int h
  .exact wpAny_pyHash_str h
 eqBool:=λhu hv h=>by
  rcases yR hu with⟨i,t,rfl,rfl⟩|⟨x,t,rfl,rfl⟩
  .rcases yR hv with⟨j,u,rfl,rfl⟩|⟨y,u,rfl,rfl⟩
   .rw[AG]at h;exact wpAny_eqBool_int h
   .rw[AI]at h;exact SeqAt.EqAt.int_str i t y u _ _ _ _ h
  .rcases yR hv with⟨j,u,rfl,rfl⟩|⟨y,u,rfl,rfl⟩
   .rw[AJ]at h;exact SeqAt.EqAt.str_int x t j u _ _ _ _ h
   .rw[AH]at h;exact wpAny_eqBool_str h
 «strs» := λk x t v h=>by
  rcases yR h with⟨i,u,rfl,e⟩|⟨y,u,rfl,e⟩
  .exact nomatch e
  .injection e with e1 _
   subst e1;cases v <;> rfl
theorem VB(prog:Program)(w:World)(i:Int)(t:Tok):(wN prog w).is (.inl i) (.int i t)=true:=mx i t
theorem VC(prog:Program)(w:World)(x:Str)(t:Tok):(wN prog w).is (.inr x) (.str x t)=true:=my x t
inductive V where
 | bH | bl (b:Bool) | int (i:Int) | str (x:Str) | jG (b:Array UInt8) | jH (b:UInt64) | ref (a:Addr) | ty (n:String)
 deriving DecidableEq
def RelV:V->Value->Prop
 | .bH,u=>u=Value.none
 | .bl b,u=>u=Value.bool b
 | .int i,u=>∃t,u=Value.int i t
 | .str x,u=>∃t,u=Value.str x t
 | .jG b,u=>∃t,u=Value.bytes b t
 | .jH b,u=>∃t,u=Value.float b t
 | .ref a,u=>u=Value.ref a
 | .ty n,u=>u=Value.type n
abbrev Vals:List V->List Value->Prop:=Paired RelV
variable {us:List Value}
theorem Vals.length{xs:List V}(r:Vals xs us):xs.length=us.length:=Paired.length r
theorem Vals.get:∀{xs:List V}{us:List Value}{i:Nat}{x:V},Vals xs us->xs[i]? = some x->∃u,us[i]? = some u/\RelV x u
 | _,_,_,_,.nil,e=>by simp at e
 | _,_,0,_,.cons r _,e=>by simp at e;subst e;exact⟨_,rfl,r⟩
 | _,_,i+1,x,.cons _ t,e=>by
   obtain⟨u,h1,h2⟩:=Vals.get (i:=i) (x:=x) t (by simpa using e);exact⟨u,by simpa using h1,h2⟩
variable {u:Value}
theorem Vals.set{x:V}(r:RelV x u):∀{xs:List V}{us:List Value}(i:Nat),Vals xs us->Vals (xs.set i x) (us.set i u)
 | _,_,_,.nil=>.nil
 | _,_,0,.cons _ t=>.cons r t
 | _,_,i+1,.cons q t=>.cons q (Vals.set r i t)
theorem Vals.append:∀{xs ys:List V}{us ws:List Value},Vals xs us->Vals ys ws->Vals (xs++ys) (us++ws)
 | _,_,_,_,.nil,s=>s
 | _,_,_,_,.cons r t,s=>.cons r (Vals.append t s)
theorem Vals.take:∀{xs:List V}{us:List Value}(n:Nat),Vals xs us->Vals (xs.take n) (us.take n)
 | _,_,0,_=>.nil
 | _,_,_+1,.nil=>.nil
 | _,_,n+1,.cons r t=>.cons r (Vals.take n t)
theorem Vals.drop:∀{xs:List V}{us:List Value}(n:Nat),Vals xs us->Vals (xs.drop n) (us.drop n)
 | _,_,0,r=>r
 | _,_,_+1,.nil=>.nil
 | _,_,n+1,.cons _ t=>Vals.drop n t
def eB:Option V->Option Value->Prop
 | some v,some u=>RelV v u
 | none,none=>True
 | _,_=>False
def KV{κ:Type}:List (κ×V)->List (κ×Value)->Prop:=Paired fun(p:κ×V) (q:κ×Value)=>p.1=q.1/\RelV p.2 q.2
def kV:Key->V
 | .inl i=>.int i
 | .inr x=>.str x
inductive HO where
  | lst (xs:List V)
  | tup (xs:List V)
  | dK (ax:List (Key×V)) | dT (ax:List (List Key×V))
  | set (S:Int->Bool) (n:Nat)
  | ins (C dx:Addr) (fs:List (Str×V))
  | own (x:Addr)
  | xd (fs:List (Str×V))
  | met (f x:Addr)
  | cO (lo hi:Int)
  | mz (o:Obj) (u:HO)
  | dh (ps:Array Value)
  | ext (φ:Heap->Prop)
abbrev Hp:=Addr->Option HO
def upd(H:Hp)(a:Addr)(o:HO):Hp:=λb=>if b=a then some o else H b
variable {H:Hp}{a:Addr}{o:HO}
theorem ze:upd H a o a=some o:=by unfold upd;rw[q01 rfl]
variable {b:Addr}
theorem zj(h:b≠a):upd H a o b=H b:=by unfold upd;rw[q00 h]
theorem uH{u:HO}:upd (upd H a o) a u=upd H a u:=by
 funext b;unfold upd;split <;> rfl
theorem wn{u:HO}(h:H a=some o)(h':H b=some u)(d:o≠u):a≠b:=by
 intro e;subst e;rw[h]at h';exact d (q22 h')
theorem zr(h:H a=some o)(h':H b=none):a≠b:=by
 intro e;subst e;rw[h]at h';cases h'
section
variable (P:Program)(w:World)
def bu(H:Hp)(h:Heap)(a:Addr):HO->Prop
 | .lst xs=>xs.length<=sizeLine/\∃(aw:List Value)(n:Nat),Vals xs aw/\h.get? a=some { cls:=.type "list",data:=.seq aw.toArray n }
 | .tup xs=>xs.length<=sizeLine/\∃aw:List Value,Vals xs aw/\IsTup h a aw.toArray
 | .dK ax=>ax.length<=sizeLine/\(a==sysModules)=false/\∃vs,KV ax vs/\h.DictOf (wN P w) a vs
 | .dT ax=>ax.length<=sizeLine/\(a==sysModules)=false/\∃xs:List (List Key×Addr×Value),
    Paired (fun(p:List Key×V) (q:List Key×Addr×Value)=>p.1=q.1/\H q.2.1=some (.tup (p.1.map kV))/\RelV p.2 q.2.2) ax xs /\
    ∃o es ep,h.get? a=some o/\o.ExactDict/\o.data=.dict es ep/\es.toList=xs.map (entryOfKey (tupleKind (wN P w)))/\(xs.map (·.1)).Nodup
 | .set S n=>h.SetOf (intKind P w) a S n
 | .ins C dx fs=>H dx=some (.own a)/\fs.length<=1000/\dx≠a/\h.get? a=some (instObj C dx) /\
    ∃mA,h.Ns1 dx mA/\(∀f,eB (fs.lookup f) (mA f))/\PySem.Within mA (fs.map (·.1))
 | .own _=>∃o,h.get? a=some o
 | .xd fs=>∃mA,h.Ns1 a mA/\∀f,eB (fs.lookup f) (mA f)
 | .cO lo hi=>∃t u v,h.get? a=some { cls:=.type "range",data:=.fields #[.int lo t,.int hi u,.int 1 v] }
 | .mz o u=>h.get? a=some o/\bu H h a u
 | .dh ps=>h.get? a=some { cls:=.none,data:=.fields ps }
 | .met f x=>h.get? a=some (methodObj (.ref f) (.ref x))
 | .ext φ=>φ h/\(∃o,h.get? a=some o)/\∀h1 h2:Heap,φ h1->(∀o,h1.get? a=some o->h2.get? a=some o)->φ h2
def dz(H:Hp)(h:Heap):Prop:=∀a o,H a=some o->bu P w H h a o
end
section
variable {P:Program}{w:World}{H H':Hp}{h h':Heap}{a:Addr}{o:HO}
theorem bu.lt(x:bu P w H h a o):a<h.objs.size:=by
 cases o with
 | lst xs=>obtain⟨_,_,_,_,e⟩:=x;exact lt_size e
 | tup xs=>obtain⟨_,_,_,p⟩:=x;exact p.lt
 | dK ax=>obtain⟨_,_,_,_,o,_,_,e,_⟩:=x;exact lt_size e
 | dT ax=>obtain⟨_,_,_,_,o,_,_,e,_⟩:=x;exact lt_size e
 | set S n=>obtain⟨o,_,_,_,e,_⟩:=x;exact lt_size e
 | ins C dx fs=>obtain⟨_,_,_,e,_⟩:=x;exact lt_size e
 | own y=>obtain⟨_,e⟩:=x;exact lt_size e
 | xd fs=>obtain⟨_,⟨_,_,_,e,_⟩,_⟩:=x;exact lt_size e
 | cO lo hi=>obtain⟨_,_,_,e⟩:=x;exact lt_size e
 | mz ob u=>obtain⟨e,_⟩:=x;exact lt_size e
 | dh ps=>exact lt_size (show h.get? a=some _ from x)
 | met f y=>exact lt_size (show h.get? a=some _ from x)
 | ext φ=>obtain⟨_,⟨_,e⟩,_⟩:=x;exact lt_size e
theorem Paired.AK{α β:Type}{F G:α->β->Prop}:∀{l₁:List α}{l₂:List β},Paired F l₁ l₂->(∀a b,F a b->G a b)->Paired G l₁ l₂
 | _,_,.nil,_=>.nil
 | _,_,.cons r t,f=>.cons (f _ _ r) (Paired.AK t f)
theorem bu.eW(x:bu P w H h a o)(k:∀b u,(b=a\/H b=some (.own a))->h.get? b=some u->h'.get? b=some u)
 (ho:∀b,H b=some (.own a)->H' b=some (.own a)) (ht:∀b xs,H b=some (.tup xs)->H' b=some (.tup xs)):bu P w H' h' a o:=by
 induction o with
 | lst xs=>obtain⟨z,aw,n,r,e⟩:=x;exact⟨z,aw,n,r,k _ _ (.inl rfl) e⟩
 | tup xs=>obtain⟨z,aw,r,ob,e,c⟩:=x;exact⟨z,aw,r,ob,k _ _ (.inl rfl) e,c⟩
 | dK ax=>obtain⟨z,y,vs,r,ob,es,ep,e,c⟩:=x;exact⟨z,y,vs,r,ob,es,ep,k _ _ (.inl rfl) e,c⟩
 | dT ax =>
   obtain⟨z,y,xs,r,ob,es,ep,e,c⟩:=x;exact⟨z,y,xs,Paired.AK r λp q z=>⟨z.1,ht _ _ z.2.1,z.2.2⟩,ob,es,ep,k _ _ (.inl rfl) e,c⟩
 | set S n=>obtain⟨ob,es,ep,t,e,c⟩:=x;exact⟨ob,es,ep,t,k _ _ (.inl rfl) e,c⟩
 | ins C dx fs =>
   obtain⟨d,z,ne,e,mA,⟨od,es,ep,e2,c⟩,r⟩:=x;exact⟨ho _ d,z,ne,k _ _ (.inl rfl) e,mA,⟨od,es,ep,k _ _ (.inr d) e2,c⟩,r⟩
 | own y=>obtain⟨ob,e⟩:=x;exact⟨ob,k _ _ (.inl rfl) e⟩
 | xd fs=>obtain⟨mA,⟨od,es,ep,e,c⟩,r⟩:=x;exact⟨mA,⟨od,es,ep,k _ _ (.inl rfl) e,c⟩,r⟩
 | cO lo hi=>obtain⟨t,u,v,e⟩:=x;exact⟨t,u,v,k _ _ (.inl rfl) e⟩
 | mz ob u ih=>obtain⟨e,q⟩:=x;exact⟨k _ _ (.inl rfl) e,ih q⟩
 | dh ps =>
   have e:h.get? a=some { cls:=.none,data:=.fields ps }:=x;show h'.get? a=some { cls:=.none,data:=.fields ps };exact k a _ (.inl rfl) e
 | met f y =>
   have e:h.get? a=some (methodObj (.ref f) (.ref y)):=x;show h'.get? a=some (methodObj (.ref f) (.ref y));exact k a _ (.inl rfl) e
 | ext φ=>obtain⟨p,⟨o,e⟩,st⟩:=x;exact⟨st _ _ p λo q=>k _ _ (.inl rfl) q,⟨o,k _ _ (.inl rfl) e⟩,st⟩
theorem dz.lt(x:dz P w H h)(e:H a=some o):a<h.objs.size:=(x a o e).lt
theorem dz.fresh(x:dz P w H h)(e:h.objs.size<=a):H a=none:=by
 cases q:H a with
 | none=>rfl
 | some u=>exact q02 (q21 (x.lt q) e) (q37 _)
theorem dz.kept(x:dz P w H h)(k:∀b u,h.get? b=some u->h'.get? b=some u):dz P w H h':=λa o e =>
 (x a o e).eW (λb u _ q=>k b u q) (λ_ q=>q) λ_ _ q=>q
theorem dz.laid(x:dz P w H h)(k:∀b u,h.get? b=some u->h'.get? b=some u)(hp:h.objs.size<=a)(new:bu P w (upd H a o) h' a o):dz P w (upd H a o) h':=λb u e=>by
 have hn:=x.fresh hp;by_cases hb:b=a
 .subst hb;rw[ze]at e;cases e;exact new
 .rw[zj hb]at e;exact(x b u e).eW (λc v _ q=>k c v q) (λc q=>by rw[zj (zr q hn)];exact q) λc xs q=>by rw[zj (zr q hn)];exact q
end
def Rd(H:Hp)(a:Addr)(u:HO):Prop:=H a=some u\/∃o,H a=some (.mz o u)
theorem Rd.of{u:HO}(h:H a=some u):Rd H a u:=.inl h
variable {P:Program}{w:World}{h:Heap}
theorem Rd.ok{u:HO}(r:Rd H a u)(x:dz P w H h):bu P w H h a u:=by
 rcases r with r | ⟨o,r⟩
 .exact x a u r
 .obtain⟨_,q⟩:=x a _ r;exact q
def Dz:Option HO->Prop
 | some (.lst _)=>True
 | some (.dK _)=>True
 | some (.dT _)=>True
 | some (.set _ _)=>True
 | some (.ins _ _ _)=>True
 | some (.ext _)=>True
 | _=>False
section
variable {P:Program}{w:World}{H:Hp}{h h':Heap}{x e:Addr}{o':HO}
theorem dz.write(ok:dz P w H h)(mu:Dz (H x))(he:e=x\/H e=some (.own x))(k:∀b u,b≠e->h.get? b=some u->h'.get? b=some u)(Cf:∃u,h'.get? e=some u)
 (new:bu P w (upd H x o') h' x o'):dz P w (upd H x o') h':=λb u q=>by
 have DA:∀c y,H c=some (.own y)->c≠x:=λc y r z=>by subst z;rw[r]at mu;exact mu
 have Ke:∀c xs,H c=some (.tup xs)->c≠x:=λc xs r z=>by subst z;rw[r]at mu;exact mu
 by_cases hb:b=x
 .subst hb;rw[ze]at q;cases q;exact new
 .rw[zj hb]at q;by_cases AL:b=e
  .have q':H b=some (.own x):=by
    rcases he with z | z
    .exact q02 (AL.trans z) hb
    .rw[AL];exact z
   rw[q]at q';cases q';obtain⟨v,hv⟩:=Cf;exact⟨v,by rw[AL];exact hv⟩
  .refine(ok b u q).eW (λc v hc r=>k c v ?_ r) (λc r=>by rw[zj (DA c b r)];exact r) λc xs r=>by rw[zj (Ke c xs r)];exact r
   rcases hc with rfl | hc
   .exact AL
   .rintro rfl;rcases he with z | z
    .exact DA c b hc z
    .rw[hc]at z;cases z;exact hb rfl
end
structure Un (fs ex:List Addr) (H H':Hp) (h h':Heap):Prop where
 keep:∀b o,h.get? b=some o->H b=none->b∉fs->b∉ex->h'.get? b=some o
 slot:∀b o,h.get? b=some o->H b=none->b∈fs->b∉ex->∃sl,h'.get? b=some { o with slots:=sl }
 free:∀b o,h.get? b=some o->H b=none->b∉ex->H' b=none
 there:∀b o,h.get? b=some o->b∉ex->∃o',h'.get? b=some o'
 cP:∀b xs,H b=some (.tup xs)->H' b=some (.tup xs)
 cF:∀b o u,H b=some (.mz o u)->H' b=some (.mz o u)
 cW:∀b ps,H b=some (.dh ps)->∃more,H' b=some (.dh (ps++more))
section
variable {fs VD ex ex':List Addr}{H H1 H2:Hp}{h h1 h2 h':Heap}{a x e:Addr}{o:HO}
theorem Un.any(u:Un fs ex H H1 h h1){b:Addr}{ob:Obj}(q:h.get? b=some ob)(n:H b=none)(hx:b∉ex):∃sl,h1.get? b=some { ob with slots:=sl }:=by
 by_cases hb:b∈fs
 .exact u.slot b ob q n hb hx
 .exact⟨ob.slots,u.keep b ob q n hb hx⟩
theorem Un.trans(a:Un fs ex H H1 h h1)(b:Un fs ex H1 H2 h1 h2):Un fs ex H H2 h h2 where
 keep:=λc ob q n hc hx=>b.keep c ob (a.keep c ob q n hc hx) (a.free c ob q n hx) hc hx
 slot:=λc ob q n hc hx=>by
  obtain⟨sl,e1⟩:=a.slot c ob q n hc hx;obtain⟨Kf,e2⟩:=b.slot c _ e1 (a.free c ob q n hx) hc hx;exact⟨Kf,e2⟩
 free:=λc ob q n hx=>by
  obtain⟨o',e1⟩:=a.there c ob q hx;exact b.free c o' e1 (a.free c ob q n hx) hx
 there:=λc ob q hx=>by
  obtain⟨o',e1⟩:=a.there c ob q hx;exact b.there c o' e1 hx
 cP:=λc xs q=>b.cP c xs (a.cP c xs q)
 cF:=λc ob xs q=>b.cF c ob xs (a.cF c ob xs q)
 cW:=λc ps q=>by
  obtain⟨m1,e1⟩:=a.cW c ps q;obtain⟨m2,e2⟩:=b.cW c _ e1;exact⟨m1++m2,by rw[e2,Array.append_assoc]⟩
theorem Un.kept(k:∀b u,h.get? b=some u->h'.get? b=some u):Un fs ex H H h h' :=
 ⟨λb ob q _ _ _=>k b ob q,λb ob q _ _ _=>⟨ob.slots,k b ob q⟩,λ_ _ _ n _=>n,λb ob q _=>⟨ob,k b ob q⟩,λ_ _ q=>q,λ_ _ _ q=>q,λ_ ps q=>⟨#[],by rw[q];simp⟩⟩
theorem Un.refl:Un fs ex H H h h:=Un.kept λ_ _ q=>q
theorem Un.laid(k:∀b u,h.get? b=some u->h'.get? b=some u)(hp:h.objs.size<=a)(hn:H a=none):Un fs ex H (upd H a o) h h' where
 keep:=λb u q _ _ _=>k b u q
 slot:=λb u q _ _ _=>⟨u.slots,k b u q⟩
 free:=λb u q n _=>by rw[zj (ne_of_lt (q21 (lt_size q) hp))];exact n
 there:=λb u q _=>⟨u,k b u q⟩
 cP:=λb xs q=>by rw[zj (zr q hn)];exact q
 cF:=λb u xs q=>by rw[zj (zr q hn)];exact q
 cW:=λb ps q=>⟨#[],by rw[zj (zr q hn),q];simp⟩
theorem Un.write(mu:Dz (H x))(he:e=x\/H e=some (.own x))(k:∀b u,b≠e->h.get? b=some u->h'.get? b=some u)(Cf:∃u,h'.get? e=some u):Un fs ex H (upd H x o) h h':=by
 have hx:∀b,H b=none->b≠x:=λb n z=>by subst z;rw[n]at mu;exact mu
 have hb:∀b,H b=none->b≠e:=λb n z=>by
  subst z;rcases he with r | r
  .exact hx b n r
  .rw[n]at r;cases r
 have hm:∀b u,H b=some u->¬Dz (some u)->b≠x:=λb u q nm z=>by subst z;rw[q]at mu;exact nm mu
 refine⟨λb u q n _ _=>k b u (hb b n) q,λb u q n _ _=>⟨u.slots,k b u (hb b n) q⟩,λb u q n _=>by rw[zj (hx b n)];exact n,λb u q _=>?_,
  λb xs q=>by rw[zj (hm b _ q λz=>z)];exact q,λb u xs q=>by rw[zj (hm b _ q λz=>z)];exact q,λb ps q=>⟨#[],by rw[zj (hm b _ q λz=>z),q];simp⟩⟩
 by_cases AL:b=e
 .subst AL;exact Cf
 .exact⟨u,k b u AL q⟩
end
def GF(h:Heap)(H:Hp):List Addr:=(List.range h.objs.size).filter λa=>(H a).isSome
def tU(h:Heap)(H:Hp):Heap:=hideAll h (GF h H)
theorem mB(h:Heap)(H:Hp):(tU h H).objs.size=h.objs.size:=PySem.W.hideAll_size _ _
theorem o9{o:Obj}(e:h.get? b=some o)(n:H b=none):(tU h H).get? b=some o :=
 hideAll_get _ e λhm=>by
  have q:(H b).isSome=true:=(q24.mp hm).2;rw[n]at q;simp at q
theorem uI{o:Obj}(e:(tU h H).get? b=some o):h.get? b=some o/\H b=none:=by
 have e':h.get? b=some o:=of_hideAll (GF h H) e;refine⟨e',?_⟩;cases q:H b with
 | none=>rfl
 | some x =>
   have hm:b∈GF h H:=q24.mpr ⟨List.mem_range.mpr (lt_size e'),by simp[q]⟩;have z:(tU h H).get? b=none:=PySem.W.hideAll_none (GF h H) hm;rw[z]at e;cases e
def uJ(g h:Heap)(L:Addr):List (Addr×Obj):=(List.range h.objs.size).filterMap λa=>if a=L\/(g.get? a).isSome=true then none else(h.get? a).map λo=>(a,o)
def je(g h:Heap)(L d:Addr):List (Addr×Obj):=(uJ g h L).filter λp=>decide (p.1≠d)
structure Mod (K:Frag) (mg:Str->Option Value) (base:Heap):Prop where
 xj:K.In base
 glob:base.Ns mainGlobals mg
 blt:∃mb,base.Ns builtinsNs mb/\∀x:Str,x≠"__name__"->mb x=bootBuiltins x
 nolimit:base.NoLimit
structure Cx where
 prog:Program
 w:World
 K:Frag
 mg:Str->Option Value
 base:Heap
 A:Around
 N:List Str
 s₀:Shared
 H₀:Hp
 env:Env
 outer:List Env
 stack:List Env
 ex:List Addr
 fn:Str->Bool
 calm:Bool
 pn:List (Addr×Obj)
 xe:Value->Shared->Prop
def dA(l:List Env):List Addr:=l.filterMap (·.frame)
abbrev Cx.fs(X:Cx):List Addr:=dA X.outer
def DB(sc:Scope)(x:Str):Prop:=sc.names.lookup x=some .local\/sc.names.lookup x=some .cell\/sc.names.lookup x=some .free
def Loc(sc:Scope)(x:Str):Prop:=sc.names.lookup x=some .local\/sc.names.lookup x=some .cell
def Look(env:Env)(h:Heap)(m:Str->Option Value)(x:Str)(u:Value):Prop :=
 (env.kindOf x=some .local/\m x=some u)\/((env.kindOf x=some .cell\/env.kindOf x=some .free)/\∃c,env.cells.lookup x=some c/\h.IsCell c (some u))
structure Cx.Ok (X:Cx):Prop where
 mod:Mod X.K X.mg X.base
 kind:X.env.scope.kind=.function
 glob:X.env.globals=mainGlobals
 blt:X.env.builtins=builtinsNs
 above:X.s₀.heap.objs.size<=X.env.locals
 inj:∀x y c,X.env.cells.lookup x=some c->X.env.cells.lookup y=some c->x=y
 has:∀x,(X.env.kindOf x=some .cell\/X.env.kindOf x=some .free)->∃c,X.env.cells.lookup x=some c
 tV:∀x c,X.fn x=true->X.env.cells.lookup x=some c->X.s₀.heap.objs.size<=c
 hd:X.calm=true->X.A.handled=none
 frames:X.A.frames=some X.stack
 uK:X.stack=X.outer\/(X.stack=X.env::X.outer/\X.env.frame=some X.env.locals)
 pe:∀b∈X.ex,b≠X.env.locals/\∀x c,X.env.cells.lookup x=some c->c≠b
 bs:∀b o,X.base.get? b=some o->X.s₀.heap.get? b=some o/\X.H₀ b=none
 jf:X.base.objs.size<=X.s₀.heap.objs.size
 gp:∀b o,X.base.get? b=some o->b∉X.ex
 gq:∀b∈X.ex,b∉X.fs
 da:X.s₀.heap.FunFrames X.base X.outer
 mD:∀b∈X.fs,X.H₀ b=none
structure Inv (X:Cx) (pins:List (Addr×Obj)) (σ:List (Option V)) (H:Hp) (s:Shared):Prop where
 ok:X.Ok
 os:s.os=X.s₀.os
 bare:AllBare s.gens
 base:Un X.fs X.ex X.H₀ H X.s₀.heap s.heap
 loc:∃m,s.heap.Ns X.env.locals m/\∀(i:Nat)(x:Str)(v:V),X.N[i]? = some x->σ[i]? = some (some v)->DB X.env.scope x->∃u,RelV v u/\Look X.env s.heap m x u
 cell:∀x c,X.env.cells.lookup x=some c->∃v,s.heap.IsCell c v
 free:H X.env.locals=none
 cG:∀x c,X.env.cells.lookup x=some c->H c=none
 pin:∀p∈X.pn++pins,s.heap.get? p.1=some p.2/\H p.1=none/\p.1≠X.env.locals/\p.1∉X.fs/\∀v,p.2.data ≠ .cell v
 aJ:dz X.prog X.w H s.heap
 len:σ.length=X.N.length
section
variable {X:Cx}{pins:List (Addr×Obj)}{σ:List (Option V)}{H H':Hp}{s:Shared}{h':Heap}
theorem Cx.Ok.Kg(ok:X.Ok){b:Addr}{o:Obj}(e:X.base.get? b=some o):b∉X.fs:=λhb=>by
 have:=(ok.da.mem hb).1;rw[e]at this;cases this
theorem Inv.bs(I:Inv X pins σ H s):∀b o,X.base.get? b=some o->s.heap.get? b=some o/\H b=none:=λb o e =>
 ⟨I.base.keep b o (I.ok.bs b o e).1 (I.ok.bs b o e).2 (I.ok.Kg e) (I.ok.gp b o e),I.base.free b o (I.ok.bs b o e).1 (I.ok.bs b o e).2 (I.ok.gp b o e)⟩
theorem Inv.bk(I:Inv X pins σ H s):∀b o,X.base.get? b=some o->s.heap.get? b=some o:=λb o e=>(I.bs b o e).1
theorem Inv.mod(I:Inv X pins σ H s):Mod X.K X.mg X.base:=I.ok.mod
theorem Inv.iY(I:Inv X pins σ H s):X.K.In s.heap:=I.ok.mod.xj.keeps I.bk
theorem Inv.lt(I:Inv X pins σ H s):X.env.locals<s.heap.objs.size:=let ⟨_,hn,_⟩:=I.loc;hn.lt
theorem Inv.sz(I:Inv X pins σ H s):X.s₀.heap.objs.size<=s.heap.objs.size:=q38 I.ok.above (le_of_lt I.lt)
theorem Inv.DC(I:Inv X pins σ H s){a:Addr}(h:s.heap.objs.size<=a):a∉X.fs:=λhb=>by
 obtain⟨_,o,ho,_⟩:=I.ok.da.mem hb;exact q02 (q21 (lt_size ho) (q38 I.sz h)) (q37 _)
theorem Inv.AM(I:Inv X pins σ H s):∀x c,X.env.cells.lookup x=some c->c≠X.env.locals:=λx c e z=>by
 obtain⟨v,o,ho,hd⟩:=I.cell x c e;obtain⟨m,⟨o',es,ep,gW,Cg,_⟩,_⟩:=I.loc;rw[z,gW]at ho;cases ho;rw[Cg]at hd;cases hd
theorem Inv.da(I:Inv X pins σ H s):s.heap.FunFrames X.base X.outer:=by
 have all:∀(l:List Env),(∀b∈dA l,b∈X.fs)->X.s₀.heap.FunFrames X.base l->s.heap.FunFrames X.base l:=by
  intro l
  induction l with
  | nil=>intro _ _;trivial
  | cons env r ih =>
    intro hs hl;obtain⟨hk,⟨L,o,hf,hn,ho,hd⟩,hr⟩:=hl;have hL:L∈X.fs:=hs L (by unfold dA;rw[List.filterMap_cons,hf];exact q14);obtain⟨sl,e⟩:=I.base.slot L o ho (I.ok.mD L hL) hL λz=>I.ok.gq L z hL;exact⟨hk,⟨L,_,hf,hn,e,hd⟩,ih (λb hb=>hs b (by unfold dA;rw[List.filterMap_cons,hf];exact q13 _ hb)) hr⟩
 exact all X.outer (λ_ hb=>hb) I.ok.da
theorem Inv.stack(I:Inv X pins σ H s):s.heap.FunFrames X.base X.stack:=by
 rcases I.ok.uK with e | ⟨e,hf⟩
 .rw[e];exact I.da
 .rw[e];obtain⟨m,hn,_⟩:=I.loc;refine .cons (by rw[I.ok.kind];decide) hf hn ?_ I.da;exact Heap.get?_none_of_le (q38 I.ok.jf I.ok.above)
theorem Inv.iH(I:Inv X pins σ H s):∀b∈dA X.stack,b∈X.env.locals::X.fs:=λb hb=>by
 rcases I.ok.uK with e | ⟨e,hf⟩
 .rw[e]at hb;exact q13 _ hb
 .rw[e]at hb;unfold dA at hb;rw[List.filterMap_cons,hf]at hb;exact hb
theorem Inv.eX(I:Inv X pins σ H s):∀b∈dA X.stack,H b=none:=λb hb=>by
 rcases q27.mp (I.iH b hb)with e | hb
 .rw[e];exact I.free
 .obtain⟨_,o,ho,_⟩:=I.ok.da.mem hb;exact I.base.free b o ho (I.ok.mD b hb) λz=>I.ok.gq b z hb
variable {g':Array GenState}{t':Nat}{ch:List Addr}
theorem Inv.step{d':Drawn}(I:Inv X pins σ H s)
 (tW:∀b∈ch,(b∈X.ex\/X.s₀.heap.objs.size<=b)/\b≠X.env.locals/\(∀x c,X.env.cells.lookup x=some c->c≠b)/\∀p∈X.pn++pins,p.1≠b)
 (keep:∀b o,b≠X.env.locals->b∉X.fs->b∉ch->s.heap.get? b=some o->H b=none->h'.get? b=some o)
 (slot:∀b o,b≠X.env.locals->b∈X.fs->b∉ch->s.heap.get? b=some o->H b=none->∃sl,h'.get? b=some { o with slots:=sl }) (free:∀b o,b∉ch->s.heap.get? b=some o->H b=none->H' b=none)
 (there:∀b o,b∉ch->s.heap.get? b=some o->∃o',h'.get? b=some o')
 (cP:∀b xs,H b=some (.tup xs)->H' b=some (.tup xs)) (cF:∀b o u,H b=some (.mz o u)->H' b=some (.mz o u)) (cW:∀b ps,H b=some (.dh ps)->∃more,H' b=some (.dh (ps++more)))
 (ns:∀m,s.heap.Ns X.env.locals m->h'.Ns X.env.locals m) (aJ:dz X.prog X.w H' h') (hg:AllBare g') :
 Inv X pins σ H' { s with heap:=h',gens:=g',drawn:=d',toks:=t' }:=by
 have Ra:∀b o,X.s₀.heap.get? b=some o->b≠X.env.locals:=λb o e=>ne_of_lt (q21 (lt_size e) I.ok.above);have GG:∀b o,X.s₀.heap.get? b=some o->b∉X.ex->b∉ch:=λb o e hx hb=>by
  rcases (tW b hb).1 with z | z
  .exact hx z
  .exact q02 (q21 (lt_size e) z) (q37 _)
 have cellK:∀x c,X.env.cells.lookup x=some c->∀v,s.heap.IsCell c v->h'.IsCell c v:=λx c e v ⟨o,ho,hd⟩=>by
  have DD:c∉ch:=λz=>(tW c z).2.2.1 x c e rfl;by_cases hc:c∈X.fs
  .obtain⟨sl,q⟩:=slot c o (I.AM x c e) hc DD ho (I.cG x c e);exact⟨_,q,hd⟩
  .exact⟨o,keep c o (I.AM x c e) hc DD ho (I.cG x c e),hd⟩
 refine⟨I.ok,I.os,hg,⟨λb o e n hb hx=>?_,λb o e n hb hx=>?_,λb o e n hx=>?_,λb o e hx=>?_,λb xs e=>cP b xs (I.base.cP b xs e),λb o xs e=>cF b o xs (I.base.cF b o xs e),λb ps e=>?_⟩,?_,λx c e=>?_,?_,λx c e=>?_,λp hp=>?_,aJ,I.len⟩
 .exact keep b o (Ra b o e) hb (GG b o e hx) (I.base.keep b o e n hb hx) (I.base.free b o e n hx)
 .obtain⟨sl,e1⟩:=I.base.slot b o e n hb hx;obtain⟨Kf,e2⟩:=slot b _ (Ra b o e) hb (GG b o e hx) e1 (I.base.free b o e n hx);exact⟨Kf,e2⟩
 .obtain⟨o',e1⟩:=I.base.there b o e hx;exact free b o' (GG b o e hx) e1 (I.base.free b o e n hx)
 .obtain⟨o',e1⟩:=I.base.there b o e hx;exact there b o' (GG b o e hx) e1
 .obtain⟨m1,e1⟩:=I.base.cW b ps e;obtain⟨m2,e2⟩:=cW b _ e1;exact⟨m1++m2,by rw[e2,Array.append_assoc]⟩
 .obtain⟨m,hn,hl⟩:=I.loc;refine⟨m,ns m hn,λi x v e1 e2 e3=>?_⟩;obtain⟨u,r,l⟩:=hl i x v e1 e2 e3;refine⟨u,r,?_⟩;rcases l with l | ⟨k,c,e,z⟩
  .exact .inl l
  .exact .inr ⟨k,c,e,cellK x c e _ z⟩
 .obtain⟨v,z⟩:=I.cell x c e;exact⟨v,cellK x c e v z⟩
 .obtain⟨m,⟨o,_,_,ho,_⟩,_⟩:=I.loc;exact free _ o (λz=>(tW _ z).2.1 rfl) ho I.free
 .obtain⟨v,o,ho,hd⟩:=I.cell x c e;exact free c o (λz=>(tW c z).2.2.1 x c e rfl) ho (I.cG x c e)
 .obtain⟨e,n,ne,nf,d⟩:=I.pin p hp;have DD:p.1∉ch:=λz=>(tW p.1 z).2.2.2 p hp rfl;exact⟨keep p.1 p.2 ne nf DD e n,free p.1 p.2 DD e n,ne,nf,d⟩
theorem Inv.un(I:Inv X pins σ H s)(u:Un X.fs [] H H' s.heap h')(aJ:dz X.prog X.w H' h'):Inv X pins σ H' { s with heap:=h',toks:=t' }:=by
 obtain⟨m,⟨o,es,ep,ho,r⟩,_⟩:=id I.loc;obtain⟨sl,hL⟩:=u.any ho I.free (by simp);exact I.step (g':=s.gens) (d':=s.drawn) (ch:=[]) (λ_ z=>nomatch z) (λb o _ hb _ e n=>u.keep b o e n hb (by simp)) (λb o _ hb _ e n=>u.slot b o e n hb (by simp)) (λb o _ e n=>u.free b o e n (by simp)) (λb o _ e=>u.there b o e (by simp)) u.cP u.cF u.cW (λm' hm=>by
  obtain⟨o',DE,Kh,gW,r'⟩:=hm;rw[ho]at gW;cases gW;exact⟨_,DE,Kh,hL,r'⟩) aJ I.bare
theorem Inv.call{d':Drawn}(I:Inv X pins σ H s)(u:Un (dA X.stack) ch H H' s.heap h')(aJ:dz X.prog X.w H' h')(hg:AllBare g')
 (tW:∀b∈ch,(b∈X.ex\/X.s₀.heap.objs.size<=b)/\b≠X.env.locals/\(∀x c,X.env.cells.lookup x=some c->c≠b)/\∀p∈X.pn++pins,p.1≠b) :
 Inv X pins σ H' { s with heap:=h',gens:=g',drawn:=d',toks:=t' }:=by
 obtain⟨m,⟨o,es,ep,ho,r⟩,_⟩:=id I.loc;obtain⟨sl,hL⟩:=u.any ho I.free λz=>(tW _ z).2.1 rfl;exact I.step (ch:=ch) tW (λb o hL hb hc e n=>u.keep b o e n (λz=>(q27.mp (I.iH b z)).elim hL hb) hc) (λb o _ _ hc e n=>u.any e n hc) (λb o hc e n=>u.free b o e n hc) (λb o hc e=>u.there b o e hc) u.cP u.cF u.cW (λm' hm=>by
  obtain⟨o',DE,Kh,gW,r'⟩:=hm;rw[ho]at gW;cases gW;exact⟨_,DE,Kh,hL,r'⟩) aJ hg
theorem Inv.turned{it:Addr}(I:Inv X pins σ H s)(k:∀b o,b≠it->s.heap.get? b=some o->h'.get? b=some o)(hn:H it=none)(hL:it≠X.env.locals)
 (h1:it∈X.ex\/X.s₀.heap.objs.size<=it) (h2:∀x c,X.env.cells.lookup x=some c->c≠it) (h3:∀p∈X.pn++pins,p.1≠it):Inv X pins σ H { s with heap:=h',toks:=t' }:=by
 have kU:∀b u,H b=some u->b≠it:=λb u e z=>by rw[z,hn]at e;cases e
 refine I.step (g':=s.gens) (d':=s.drawn) (ch:=[it]) (λb hb=>?_) (λb o _ _ hc e _=>k b o (λz=>hc (by simp[z])) e) (λb o _ _ hc e _=>⟨o.slots,k b o (λz=>hc (by simp[z])) e⟩) (λ_ _ _ _ n=>n)
  (λb o hc e=>⟨o,k b o (λz=>hc (by simp[z])) e⟩) (λ_ _ e=>e) (λ_ _ _ e=>e) (λb ps e=>⟨#[],by rw[e];simp⟩) (λm hm=>?_) (λb u e=>?_) I.bare
 .have e:b=it:=by simpa using hb
  subst e;exact⟨h1,hL,h2,h3⟩
 .obtain⟨o,es,ep,ho,r⟩:=hm;exact⟨o,es,ep,k _ o (Ne.symm hL) ho,r⟩
 .refine(I.aJ b u e).eW (λc v hc q=>k c v ?_ q) (λ_ q=>q) λ_ _ q=>q;rcases hc with z | z
  .rw[z];exact kU b u e
  .exact kU c _ z
theorem Inv.tok(I:Inv X pins σ H s)(t:Nat):Inv X pins σ H { s with toks:=t }:=I.un (h':=s.heap) (t':=t) Un.refl I.aJ
theorem Inv.kept(I:Inv X pins σ H s)(k:∀b u,s.heap.get? b=some u->h'.get? b=some u):Inv X pins σ H { s with heap:=h',toks:=t' }:=I.un (Un.kept k) (I.aJ.kept k)
theorem Inv.laid{a:Addr}{o:HO}(I:Inv X pins σ H s)(k:∀b u,s.heap.get? b=some u->h'.get? b=some u)(hp:s.heap.objs.size<=a)(new:bu X.prog X.w (upd H a o) h' a o):
 Inv X pins σ (upd H a o) { s with heap:=h',toks:=t' }:=I.un (Un.laid k hp (I.aJ.fresh hp)) (I.aJ.laid k hp new)
theorem Inv.write{x e:Addr}{o:HO}(I:Inv X pins σ H s)(mu:Dz (H x))(he:e=x\/H e=some (.own x))(k:∀b u,b≠e->s.heap.get? b=some u->h'.get? b=some u)(Cf:∃u,h'.get? e=some u)
 (new:bu X.prog X.w (upd H x o) h' x o):Inv X pins σ (upd H x o) { s with heap:=h',toks:=t' }:=I.un (Un.write mu he k Cf) (I.aJ.write mu he k Cf new)
theorem Inv.cT{pins':List (Addr×Obj)}(I:Inv X pins σ H s)(h:∀p∈pins',s.heap.get? p.1=some p.2/\H p.1=none/\p.1≠X.env.locals/\p.1∉X.fs/\∀v,p.2.data ≠ .cell v):Inv X pins' σ H s :=
 ⟨I.ok,I.os,I.bare,I.base,I.loc,I.cell,I.free,I.cG,λp hp=>(List.mem_append.mp hp).elim (λz=>I.pin p (mem_append_left _ z)) (h p),I.aJ,I.len⟩
variable {i:Nat}{x:Str}
theorem Rb{N:List Str}(hN:N.Nodup){j:Nat}(a:N[i]? = some x)(b:N[j]? = some x):i=j:=by
 obtain⟨h1,e1⟩:=q45.mp a;obtain⟨h2,e2⟩:=q45.mp b;exact(List.getElem_inj hN).mp (e1.trans e2.symm)
variable {E:Value->Shared->Prop}{Q:Unit->Shared->Prop}
theorem Ki{M:Model}{A:Around}{v:V}{u:Value}(I:Inv X pins σ H s)(hN:X.N.Nodup)(hi:X.N[i]? = some x)(hx:Loc X.env.scope x)(r:RelV v u)
 (h:∀s',Inv X pins (σ.set i (some v)) H s'->(∃a,SameBut a s.heap s'.heap/\(a=X.env.locals\/X.env.cells.lookup x=some a))->Q () s') (hf:X.fn x=true\/X.env.scope.names.lookup x=some .local:=by first | exact .inl rfl | exact .inr rfl | assumption):wpAny M A (storeName X.env x u) Q E s:=by
 obtain⟨m,hn,hl⟩:=id I.loc;have pf:(X.env.scope.kind == .class || (X.env.scope.kind == .module && X.env.locals != X.env.globals))=false:=by rw[I.ok.kind];rfl
 have Rc:i<σ.length:=by rw[I.len];exact(q45.mp hi).1
 have AM:=I.AM;have tracked:∀{a:Addr}{h':Heap},(∃o,s.heap.get? a=some o/\H a=none)->SameBut a s.heap h'->dz X.prog X.w H h':=λ{a h'} ha hs b ob e=>by
  obtain⟨_,_,xk⟩:=ha;refine(I.aJ b ob e).eW (λc w' hc q=>(hs.2 c ?_).trans q) (λ_ q=>q) λ_ _ q=>q;rintro rfl;rcases hc with rfl | hc
  .rw[xk]at e;cases e
  .rw[xk]at hc;cases hc
 rcases hx with hk | hk
 .refine wpAny_storeName_local hk hn (λh' GH hs=>?_) pf;obtain⟨oL,_,_,VE,_⟩:=id hn;refine h _ ⟨I.ok,I.os,I.bare,⟨λb o e n hb hx=>?_,λb o e n hb hx=>?_,I.base.free,λb o e hx=>?_,I.base.cP,I.base.cF,I.base.cW⟩,⟨_,GH,λj y v' e1 e2 e3=>?_⟩,λy c e=>?_,I.free,I.cG,λp hp=>?_,tracked ⟨oL,VE,I.free⟩ hs,by simpa using I.len⟩ ⟨_,hs,.inl rfl⟩
  .exact(hs.2 b (ne_of_lt (q21 (lt_size e) I.ok.above))).trans (I.base.keep b o e n hb hx)
  .obtain⟨sl,e1⟩:=I.base.slot b o e n hb hx;exact⟨sl,(hs.2 b (ne_of_lt (q21 (lt_size e) I.ok.above))).trans e1⟩
  .obtain⟨o',e1⟩:=I.base.there b o e hx;exact⟨o',(hs.2 b (ne_of_lt (q21 (lt_size e) I.ok.above))).trans e1⟩
  .by_cases hj:j=i
   .subst hj;rw[hi]at e1;cases e1;rw[List.getElem?_set_self Rc]at e2;cases e2;exact⟨u,r,.inl ⟨hk,by simp⟩⟩
   .rw[List.getElem?_set_ne (Ne.symm hj)]at e2;obtain⟨u',r',q⟩:=hl j y v' e1 e2 e3;refine⟨u',r',?_⟩;rcases q with⟨k,e⟩|⟨k,c,e,z⟩
    .refine .inl ⟨k,?_⟩;have:y≠x:=λe=>hj (Rb hN e1 (e ▸ hi));simp[this,e]
    .exact .inr ⟨k,c,e,z.sameBut hs (AM y c e)⟩
  .obtain⟨w',z⟩:=I.cell y c e;exact⟨w',z.sameBut hs (AM y c e)⟩
  .obtain⟨e,n,ne,nf,d⟩:=I.pin p hp;exact⟨(hs.2 p.1 ne).trans e,n,ne,nf,d⟩
 .have GI:X.fn x=true:=by
   rcases hf with z | z
   .exact z
   .rw[z]at hk;cases hk
  obtain⟨c,hc⟩:=I.ok.has x (.inl hk);obtain⟨w',z⟩:=I.cell x c hc;refine wpAny_storeName_cell I.ok.kind hk hc z (λh' jI hs=>?_);obtain⟨oc,Rf,Kj⟩:=id z;refine h { s with heap:=h' } ⟨I.ok,I.os,I.bare,⟨λb o e n hb hx=>?_,λb o e n hb hx=>?_,I.base.free,λb o e hx=>?_,I.base.cP,I.base.cF,I.base.cW⟩,⟨m,hn.sameBut hs (Ne.symm (AM x c hc)),λj y v' e1 e2 e3=>?_⟩,λy c' e=>?_,I.free,I.cG,λp hp=>?_,tracked ⟨oc,Rf,I.cG x c hc⟩ hs,by simpa using I.len⟩ ⟨c,hs,.inr hc⟩
  .exact(hs.2 b (ne_of_lt (q21 (lt_size e) (I.ok.tV x c GI hc)))).trans (I.base.keep b o e n hb hx)
  .obtain⟨sl,e1⟩:=I.base.slot b o e n hb hx;exact⟨sl,(hs.2 b (ne_of_lt (q21 (lt_size e) (I.ok.tV x c GI hc)))).trans e1⟩
  .obtain⟨o',e1⟩:=I.base.there b o e hx;exact⟨o',(hs.2 b (ne_of_lt (q21 (lt_size e) (I.ok.tV x c GI hc)))).trans e1⟩
  .by_cases hj:j=i
   .subst hj;rw[hi]at e1;cases e1;rw[List.getElem?_set_self Rc]at e2;cases e2;exact⟨u,r,.inr ⟨.inl hk,c,hc,jI⟩⟩
   .rw[List.getElem?_set_ne (Ne.symm hj)]at e2;obtain⟨u',r',q⟩:=hl j y v' e1 e2 e3;refine⟨u',r',?_⟩;rcases q with q | ⟨k,c',e,z'⟩
    .exact .inl q
    .refine .inr ⟨k,c',e,z'.sameBut hs ?_⟩;rintro rfl;exact hj (Rb hN e1 (I.ok.inj _ _ _ e hc ▸ hi))
  .by_cases ph:c'=c
   .subst ph;exact⟨_,jI⟩
   .obtain⟨w2,z2⟩:=I.cell y c' e;exact⟨w2,z2.sameBut hs ph⟩
  .obtain⟨e,n,ne,nf,d⟩:=I.pin p hp;refine⟨(hs.2 p.1 ?_).trans e,n,ne,nf,d⟩;intro q;rw[q,Rf]at e;have q':oc=p.2:=q22 e;exact d w' (by rw[<-q'];exact Kj)
theorem Rg{M:Model}{A:Around}{v:V}{u:Value}(I:Inv X pins σ H s)(hN:X.N.Nodup)(hi:X.N[i]? = some x)(hx:Loc X.env.scope x)(r:RelV v u)
 (h:∀s',Inv X pins (σ.set i (some v)) H s'->Q () s') (hf:X.fn x=true\/X.env.scope.names.lookup x=some .local:=by first | exact .inl rfl | exact .inr rfl | assumption):wpAny M A (storeName X.env x u) Q E s :=
 Ki I hN hi hx r (λs' I' _=>h s' I') hf
theorem Inv.pj{s':Shared}(I:Inv X pins σ H s)(ho:s'.os=s.os)(u:Un (dA X.stack) ch H H' s.heap s'.heap)(aJ:dz X.prog X.w H' s'.heap)(hg:AllBare s'.gens)
 (tW:∀b∈ch,(b∈X.ex\/X.s₀.heap.objs.size<=b)/\b≠X.env.locals/\(∀x c,X.env.cells.lookup x=some c->c≠b)/\∀p∈X.pn++pins,p.1≠b):Inv X pins σ H' s':=by
 obtain⟨h',g',d',t',o'⟩:=s';have e:o'=s.os:=ho;subst e;exact I.call (g':=g') (t':=t') (d':=d') u aJ hg tW
end
abbrev XK:=Value->Option Addr->Hp->Prop
abbrev St:=List (Option V)
abbrev VK:=V->Hp->Prop
abbrev TE:=St->Hp->VK->Prop
abbrev TT:=St->Hp->(Bool->Hp->Prop)->Prop
abbrev TA:=St->Hp->(List V->Hp->Prop)->Prop
structure Ends where
 nx:St->Hp->Prop
 rt:VK
 bk:St->Hp->Prop:=λ_ _=>False
 ct:St->Hp->Prop:=λ_ _=>False
abbrev TS:=Ends->St->Hp->Prop
def EP(X:Cx)(pins:List (Addr×Obj))(σ:St)(Q:VK)(u:Value)(s':Shared):Prop:=∃v H',Inv X pins σ H' s'/\RelV v u/\Q v H'
def TP(X:Cx)(pins:List (Addr×Obj))(σ:St)(Q:Bool->Hp->Prop)(b:Bool)(s':Shared):Prop:=∃H',Inv X pins σ H' s'/\Q b H'
def AP(X:Cx)(pins:List (Addr×Obj))(σ:St)(Q:List V->Hp->Prop)(us:List Value)(s':Shared):Prop:=∃vs H',Inv X pins σ H' s'/\Vals vs us/\Q vs H'
def SP(X:Cx)(pins:List (Addr×Obj))(D:Ends)(f:Flow)(s':Shared):Prop :=
 match f with
 | .next=>∃σ' H',Inv X pins σ' H' s'/\D.nx σ' H'
 | .brk=>∃σ' H',Inv X pins σ' H' s'/\D.bk σ' H'
 | .cont=>∃σ' H',Inv X pins σ' H' s'/\D.ct σ' H'
 | .ret u=>∃v σ' H',Inv X pins σ' H' s'/\RelV v u/\D.rt v H'
def PE(X:Cx)(e:Expr)(t:TE):Prop :=
 ∀(pins:List (Addr×Obj)) (s:Shared) (σ:St) (H:Hp) (Q:VK),Inv X pins σ H s->t σ H Q->wpAny (model X.prog X.w) X.A (eval e X.env) (EP X pins σ Q) X.xe s
def PT(X:Cx)(e:Expr)(t:TT):Prop :=
 ∀(pins:List (Addr×Obj)) (s:Shared) (σ:St) (H:Hp) (Q:Bool->Hp->Prop),Inv X pins σ H s->t σ H Q->wpAny (model X.prog X.w) X.A (isTrue e X.env (eval e X.env)) (TP X pins σ Q) X.xe s
def PW(X:Cx)(e:Expr)(t:TT):Prop :=
 ∀(whole:Sem Value)(pins:List (Addr×Obj)) (s:Shared) (σ:St) (H:Hp) (Q:Bool->Hp->Prop),Inv X pins σ H s->t σ H Q->wpAny (model X.prog X.w) X.A (isTrue e X.env whole) (TP X pins σ Q) X.xe s
variable {X:Cx}
theorem PW.pt{e:Expr}{t:TT}(h:PW X e t):PT X e t:=h _
def PA(X:Cx)(es:List Expr)(t:TA):Prop :=
 ∀(pos:Pos)(pins:List (Addr×Obj)) (s:Shared) (σ:St) (H:Hp) (Q:List V->Hp->Prop),Inv X pins σ H s->t σ H Q->wpAny (model X.prog X.w) X.A (spliced (backTo pos (starEach es X.env))) (AP X pins σ Q) X.xe s
def PS(X:Cx)(st:Stmt)(t:TS):Prop :=
 ∀(pins:List (Addr×Obj)) (s:Shared) (σ:St) (H:Hp) (D:Ends),Inv X pins σ H s->t D σ H->wpAny (model X.prog X.w) X.A (exec st X.env) (SP X pins D) X.xe s
def jJ(X:Cx)(st:List Stmt)(t:TS):Prop :=
 ∀(pins:List (Addr×Obj)) (s:Shared) (σ:St) (H:Hp) (D:Ends),Inv X pins σ H s->t D σ H->wpAny (model X.prog X.w) X.A (execs st X.env) (SP X pins D) X.xe s
variable {A:Around}{E:Value->Shared->Prop}{s:Shared}
theorem aO{α:Type}{t:Sem α}{Q Q':α->Shared->Prop}{M:Model}(h:wpAny M A t Q E s)(hQ:∀a s,Q a s->Q' a s):wpAny M A t Q' E s:=wpAny_mono h hQ λ_ _ x=>x
section
variable {X:Cx}
variable {pins:List (Addr×Obj)}{s:Shared}
theorem bin{a b:Expr}{ta tb:TE}(ha:PE X a ta)(hb:PE X b tb){σ:St}{H:Hp}{R:V->V->Hp->Prop}(I:Inv X pins σ H s)(h:ta σ H λx H1=>tb σ H1 λy H2=>R x y H2)
 {α:Type} {Q:α->Shared->Prop} {f:Value->Value->Sem α}
 (hf:∀v u s2 x y H2,Inv X pins σ H2 s2->RelV x v->RelV y u->R x y H2->wpAny (model X.prog X.w) X.A (f v u) Q X.xe s2) :
 wpAny (model X.prog X.w) X.A (eval a X.env) (λv s₁=>wpAny (model X.prog X.w) X.A (eval b X.env) (λu s₂=>wpAny (model X.prog X.w) X.A (f v u) Q X.xe s₂) X.xe s₁) X.xe s:=by
 refine aO (ha pins s σ H _ I h) λv s1 ⟨x,H1,I1,r1,q1⟩=>?_;refine aO (hb pins s1 σ H1 _ I1 q1) λu s2 ⟨y,H2,I2,r2,q2⟩=>?_;exact hf v u s2 x y H2 I2 r1 r2 q2
inductive xl (i:Nat)(σ:St)(H:Hp)(Q:VK):Prop|mk(v:_):σ[i]? = some (some v)->Q v H->xl i σ H Q
def DG(i:Nat):TE:=λσ H Q=>xl i σ H Q
def tC(v:V):TE:=λ_ H Q=>Q v H
variable {x:Str}
theorem pk{i:Nat}{pos:Pos}(hN:X.N[i]? = some x)(hv:DB X.env.scope x)(hd:(x==("__debug__":Str))=false:=by decide)(fB:(x==("__classdict__":Str))=false:=by decide):PE X (.Name x pos) (DG i):=by
 intro pins s σ H Q I h;obtain⟨v,e,h⟩:=h;obtain⟨m,hn,hl⟩:=I.loc;obtain⟨u,r,l⟩:=hl i x v hN e hv;have fin:EP X pins σ Q u s:=⟨v,H,I,r,h⟩;rcases l with⟨hk,hm⟩|⟨hk,c,hc,fN⟩
 .exact wpAny_Name (wpAny_loadName_local I.ok.kind hk hn hm fin) hd
 .rcases hk with hk | hk
  .exact wpAny_Name (wpAny_loadName_cell I.ok.kind hk hc fN fin) hd
  .exact wpAny_Name (wpAny_loadName_free I.ok.kind hk hc fN fin fB) hd
theorem zg{i j pos}:PE X (.Constant (.int i) j pos) (tC (.int i)):=λ_ _ _ H _ I h=>wpAny_Constant_int ⟨.int i,H,I.tok _,⟨_,rfl⟩,h⟩
theorem gX{b j pos}:PE X (.Constant (.bool b) j pos) (tC (.bl b)):=λ_ _ _ H _ I h=>Constant_bool ⟨.bl b,H,I,rfl,h⟩
theorem Ci{j pos}:PE X (.Constant .none j pos) (tC .bH):=λ_ _ _ H _ I h=>Constant_none ⟨.bH,H,I,rfl,h⟩
theorem zp{x j pos}:PE X (.Constant (.str x) j pos) (tC (.str x)):=λ_ _ _ H _ I h=>Calls.Constant_str ⟨.str x,H,I.tok _,⟨_,rfl⟩,h⟩
def Gl(X:Cx)(x:Str):Prop:=X.env.kindOf x=some .globalImplicit
variable {E Q:Value->Shared->Prop}{u:Value}
theorem AN{σ:St}{H:Hp}{pos:Pos}(I:Inv X pins σ H s)(hg:Gl X x)(hm:X.mg x=some u)(h:Q u s)
 (hd:(x==("__debug__":Str))=false:=by decide):wpAny (model X.prog X.w) X.A (eval (.Name x pos) X.env) Q E s :=
 Calls.Name_function_global I.ok.kind hg (Calls.loadGlobal_global (by rw[I.ok.glob];exact I.mod.glob.keeps I.bk) hm h) hd
theorem tX{σ:St}{H:Hp}{pos:Pos}(I:Inv X pins σ H s)(hg:Gl X x)(hm:X.mg x=none)(hv:bootBuiltins x=some u)(h:Q u s)
 (hn:x≠"__name__":=by decide) (hd:(x==("__debug__":Str))=false:=by decide):wpAny (model X.prog X.w) X.A (eval (.Name x pos) X.env) Q E s:=by
 obtain⟨mb,h1,h2⟩:=I.mod.blt;exact Calls.Name_function_global I.ok.kind hg (Calls.loadGlobal_builtin (by rw[I.ok.glob];exact I.mod.glob.keeps I.bk) hm (by rw[I.ok.blt];exact h1.keeps I.bk) ((h2 x hn).trans hv) h) hd
theorem uL{v:V}{pos:Pos}(hg:Gl X x)(hm:X.mg x=some u)(r:RelV v u)(hd:(x==("__debug__":Str))=false:=by decide):PE X (.Name x pos) (tC v) :=
 λ_ _ _ H _ I h=>AN I hg hm ⟨v,H,I,r,h⟩ hd
theorem xm{v:V}{pos:Pos}(hg:Gl X x)(hm:X.mg x=none)(hv:bootBuiltins x=some u)(r:RelV v u)(hn:x≠"__name__":=by decide)(hd:(x==("__debug__":Str))=false:=by decide):PE X (.Name x pos) (tC v) :=
 λ_ _ _ H _ I h=>tX I hg hm hv ⟨v,H,I,r,h⟩ hn hd
variable {a b:Expr}{ta tb:TE}{pos:Pos}
def PC(X:Cx)(op:CmpOp)(a b:Expr)(t:TE):Prop :=
 ∀(pins:List (Addr×Obj)) (s:Shared) (σ:St) (H:Hp) (Q:VK),Inv X pins σ H s->t σ H Q ->
  wpAny (model X.prog X.w) X.A (eval a X.env) (λv s₁=>wpAny (model X.prog X.w) X.A (eval b X.env) (λu s₂=>wpAny (model X.prog X.w) X.A (compareOp op v u) (EP X pins σ Q) X.xe s₂) X.xe s₁) X.xe s
inductive Rh (x:V)(H1:Hp)(Q:Bool->Hp->Prop):Prop|mk(c:_):x=.bl c->Q c H1->Rh x H1 Q
def tB(t:TE):TT:=λσ H Q=>t σ H λx H1=>Rh x H1 Q
theorem pw{op:CmpOp}{t:TE}(h:PC X op a b t)(h1:behindInMarks op b=false:=by first | exact DH _ (by decide) (by decide) | rfl):PT X (.Compare a [op] [b] pos) (tB t):=by
 intro pins s σ H Q I hw;refine wpAny_isTrue_Compare1 (aO (h pins s σ H _ I hw) λv s1 h1=>aO h1 λu s2 h2=>aO h2 λc s3 ⟨x,H1,I1,r1,q1⟩=>?_) h1;obtain⟨d,rfl,q⟩:=q1;cases r1;exact wpAny_truthy_bool ⟨H1,I1,q⟩
theorem yL{e:Expr}{t:TE}(h:PE X e t)(he:∀whole,isTrue e X.env whole=(do let v <-whole;standAt e.pos;holding [v] (truthy v)):=by intro _;rfl):PT X e (tB t):=by
 intro pins s σ H Q I hw;refine isTrue_plain (aO (h pins s σ H _ I hw) λv s1 ⟨x,H1,I1,r1,q1⟩=>?_) (he _);obtain⟨d,rfl,q⟩:=q1;cases r1;exact wpAny_truthy_bool ⟨H1,I1,q⟩
variable {tA GJ:TT}{je:List Expr}
def Kk(t u:TT):TT:=λσ H Q=>t σ H λc H1=>if c=true then u σ H1 Q else Q false H1
def VF(t u:TT):TT:=λσ H Q=>t σ H λc H1=>if c=true then Q true H1 else u σ H1 Q
def Kl(t:TT):TT:=λσ H Q=>t σ H λc H1=>Q (!c) H1
theorem AO(ha:PT X a tA):PW X (.BoolOp .And [a] pos) tA:=by
 intro wh pins s σ H Q I h;refine isTrue_and (aO (ha pins s σ H Q I h) λc s1 e=>?_);cases c with
 | true=>exact isTrue_and_nil e
 | false=>exact e
theorem xn(ha:PT X a tA):PW X (.BoolOp .Or [a] pos) tA:=by
 intro wh pins s σ H Q I h;refine isTrue_or (aO (ha pins s σ H Q I h) λc s1 e=>?_);cases c with
 | false=>exact isTrue_or_nil e
 | true=>exact e
theorem AQ(ha:PT X a tA)(hb:PW X (.BoolOp .And (b::je) pos) GJ):PW X (.BoolOp .And (a::b::je) pos) (Kk tA GJ):=by
 intro wh pins s σ H Q I h;refine isTrue_and (aO (ha pins s σ H _ I h) λc s1 ⟨H1,I1,q1⟩=>?_);cases c with
 | true=>exact hb wh pins s1 σ H1 Q I1 q1
 | false=>exact⟨H1,I1,q1⟩
theorem xo(ha:PT X a tA)(hb:PW X (.BoolOp .Or (b::je) pos) GJ):PW X (.BoolOp .Or (a::b::je) pos) (VF tA GJ):=by
 intro wh pins s σ H Q I h;refine isTrue_or (aO (ha pins s σ H _ I h) λc s1 ⟨H1,I1,q1⟩=>?_);cases c with
 | true=>exact⟨H1,I1,q1⟩
 | false=>exact hb wh pins s1 σ H1 Q I1 q1
theorem wv(ha:PT X a tA):PT X (.UnaryOp .Not a pos) (Kl tA):=by
 intro pins s σ H Q I h;exact isTrue_not (ha pins s σ H (λc H1=>Q (!c) H1) I h)
inductive pz (tb:TE)(σ:St)(x:V)(H1:Hp)(Q:VK):Prop|mk(c:_):x=.bl c->(if c=true then tb σ H1 Q else Q (.bl false) H1)->pz tb σ x H1 Q
def DI(ta tb:TE):TE:=λσ H Q=>ta σ H λx H1=>pz tb σ x H1 Q
inductive pA (x:V)(H1:Hp)(Q:VK):Prop|mk(c:_):x=.bl c->Q (.bl (!c)) H1->pA x H1 Q
def DJ(ta:TE):TE:=λσ H Q=>ta σ H λx H1=>pA x H1 Q
theorem Cj{op}{t:TE}(h:PE X a t):PE X (.BoolOp op [a] pos) t:=λpins s σ H Q I hw=>BoolOp_one (h pins s σ H Q I hw)
theorem pB(ha:PE X a ta)(hb:PE X (.BoolOp .And (b::je) pos) tb):PE X (.BoolOp .And (a::b::je) pos) (DI ta tb):=by
 intro pins s σ H Q I h;refine BoolOp_and (aO (ha pins s σ H _ I h) λv s1 ⟨x,H1,I1,r1,q1⟩=>?_);obtain⟨c,rfl,q1⟩:=q1;cases r1;refine wpAny_truthy_bool ?_;cases c with
 | true=>exact hb pins s1 σ H1 Q I1 q1
 | false=>exact⟨.bl false,H1,I1,rfl,q1⟩
theorem AR(ha:PE X a ta):PE X (.UnaryOp .Not a pos) (DJ ta):=by
 intro pins s σ H Q I h;refine UnaryOp_ (aO (ha pins s σ H _ I h) λv s1 ⟨x,H1,I1,r1,q1⟩=>?_);obtain⟨c,rfl,q1⟩:=q1;cases r1;exact not_of (wpAny_truthy_bool ⟨.bl (!c),H1,I1,rfl,q1⟩)
def VG(t:TT)(ta tb:TE):TE:=λσ H Q=>t σ H λc H1=>if c=true then ta σ H1 Q else tb σ H1 Q
theorem Km{c:Expr}(hc:PT X c tA)(ha:PE X a ta)(hb:PE X b tb):PE X (.IfExp c a b pos) (VG tA ta tb):=by
 intro pins s σ H Q I h;refine wpAny_IfExp (aO (hc pins s σ H _ I h) λd s1 ⟨H1,I1,q1⟩=>?_);cases d with
 | true=>exact ha pins s1 σ H1 Q I1 q1
 | false=>exact hb pins s1 σ H1 Q I1 q1
end
def ai(K:Frag)(H:Hp)(a:Addr)(xs:List V):Prop :=
 Rd H a (.lst xs) \/
  ∃(o:Obj)(aw:Array Value)(n:Nat),K.lookup a=some o/\o.cls=.type "list"/\o.dict=none/\o.data=.seq aw n/\aw.size<=sizeLine/\Vals xs aw.toList
def bX(K:Frag)(H:Hp)(a:Addr)(xs:List V):Prop :=
 Rd H a (.tup xs) \/
  ∃(o:Obj)(aw:Array Value)(n:Nat),K.lookup a=some o/\o.cls=.type "tuple"/\o.data=.seq aw n/\aw.size<=sizeLine/\Vals xs aw.toList
def Kn:Value->Option V
 | .none=>some .bH
 | .bool b=>some (.bl b)
 | .int i _=>some (.int i)
 | .str x _=>some (.str x)
 | .bytes b _=>some (.jG b)
 | .float b _=>some (.jH b)
 | .ref a=>some (.ref a)
 | .type n=>some (.ty n)
 | _=>none
theorem RelV.abs{x:V}(r:RelV x u):Kn u=some x:=by
 cases x with
 | bH=>cases r;rfl
 | bl _=>cases r;rfl
 | int _=>obtain⟨t,rfl⟩:=r;rfl
 | str _=>obtain⟨t,rfl⟩:=r;rfl
 | jG _=>obtain⟨t,rfl⟩:=r;rfl
 | jH _=>obtain⟨t,rfl⟩:=r;rfl
 | ref _=>cases r;rfl
 | ty _=>cases r;rfl
theorem RelV.inj{x y:V}(r:RelV x u)(q:RelV y u):x=y:=q22 (r.abs.symm.trans q.abs)
theorem Vals.inj:∀{xs ys:List V}{us:List Value},Vals xs us->Vals ys us->xs=ys
 | _,_,_,.nil,.nil=>rfl
 | _,_,_,.cons r t,.cons r' t'=>by rw[r.inj r',Vals.inj t t']
section
variable {X:Cx}{pins:List (Addr×Obj)}{σ:St}{H:Hp}{s:Shared}{a:Addr}{xs ys:List V}
theorem ai.of{K:Frag}(h:H a=some (.lst xs)):ai K H a xs:=.inl (.inl h)
theorem bX.of{K:Frag}(h:H a=some (.tup xs)):bX K H a xs:=.inl (.inl h)
theorem Inv.list(I:Inv X pins σ H s)(h:ai X.K H a xs):∃aw:List Value,Vals xs aw/\PlainL s.heap a aw.toArray/\xs.length<=sizeLine:=by
 rcases h with h | ⟨o,aw,n,hk,hc,hd,hs,hz,r⟩
 .obtain⟨z,aw,n,r,e⟩:=h.ok I.aJ;exact⟨aw,r,⟨_,n,e,rfl,rfl,rfl⟩,z⟩
 .refine⟨aw.toList,r,⟨o,n,I.iY a o hk,hc,hd,by simpa using hs⟩,?_⟩;have e:=r.length;simp only[Array.length_toList]at e;omega
theorem Inv.tuple(I:Inv X pins σ H s)(h:bX X.K H a xs):∃aw:List Value,Vals xs aw/\IsTup s.heap a aw.toArray/\xs.length<=sizeLine:=by
 rcases h with h | ⟨o,aw,n,hk,hc,hs,hz,r⟩
 .obtain⟨z,aw,r,p⟩:=h.ok I.aJ;exact⟨aw,r,p,z⟩
 .refine⟨aw.toList,r,⟨o,I.iY a o hk,hc,n,by simpa using hs⟩,?_⟩;have e:=r.length;simp only[Array.length_toList]at e;omega
theorem Inv.gs(I:Inv X pins σ H s)(h:ai X.K H a xs)(h':ai X.K H a ys):xs=ys:=by
 obtain⟨aw,r,⟨o,n,e,_,_,d⟩,_⟩:=I.list h;obtain⟨its',r',⟨o',n',e',_,_,d'⟩,_⟩:=I.list h';rw[e]at e';cases e';rw[d]at d';injection d' with d1 _
 have:aw=its':=by simpa using congrArg Array.toList d1
 subst this;exact r.inj r'
end
abbrev Cx.gY(X:Cx)(E:Value->Shared->Prop):Cx:={ X with xe:=E }
abbrev Cx.Ck(X:Cx):Cx:=X.gY λ_ _=>False
theorem Cx.Ok.gY(ok:X.Ok)(E:Value->Shared->Prop):(X.gY E).Ok :=
 ⟨ok.mod,ok.kind,ok.glob,ok.blt,ok.above,ok.inj,ok.has,ok.tV,ok.hd,ok.frames,ok.uK,ok.pe,ok.bs,ok.jf,ok.gp,ok.gq,ok.da,ok.mD⟩
theorem Cx.Ok.dJ(ok:(X.gY E).Ok):X.Ok :=
 ⟨ok.mod,ok.kind,ok.glob,ok.blt,ok.above,ok.inj,ok.has,ok.tV,ok.hd,ok.frames,ok.uK,ok.pe,ok.bs,ok.jf,ok.gp,ok.gq,ok.da,ok.mD⟩
section
variable {X:Cx}{pins:List (Addr×Obj)}{σ:St}{H:Hp}{s:Shared}{E:Value->Shared->Prop}
theorem Inv.gY(I:Inv X pins σ H s)(E:Value->Shared->Prop):Inv (X.gY E) pins σ H s:=⟨I.ok.gY E,I.os,I.bare,I.base,I.loc,I.cell,I.free,I.cG,I.pin,I.aJ,I.len⟩
theorem Inv.dJ(I:Inv (X.gY E) pins σ H s):Inv X pins σ H s:=⟨I.ok.dJ,I.os,I.bare,I.base,I.loc,I.cell,I.free,I.cG,I.pin,I.aJ,I.len⟩
theorem SP.dJ{D:Ends}{f:Flow}{s':Shared}(h:SP (X.gY E) pins D f s'):SP X pins D f s':=by
 cases f with
 | next=>obtain⟨σ',H',I,q⟩:=h;exact⟨σ',H',I.dJ,q⟩
 | brk=>obtain⟨σ',H',I,q⟩:=h;exact⟨σ',H',I.dJ,q⟩
 | cont=>obtain⟨σ',H',I,q⟩:=h;exact⟨σ',H',I.dJ,q⟩
 | ret u=>obtain⟨v,σ',H',I,r,q⟩:=h;exact⟨v,σ',H',I.dJ,r,q⟩
theorem jJ.Ck{st:List Stmt}{t:TS}(h:jJ X.Ck st t):jJ X st t:=λpins s σ H D I hw =>
 wpAny_mono (h pins s σ H D (I.gY _) hw) (λ_ _ q=>q.dJ) λ_ _ z=>False.elim z
end
section
variable {X:Cx}{st:Stmt}{je:List Stmt}{t u:TS}{e:Expr}{te:TE}{pos:Pos}
def DK:TS:=λD σ H=>D.nx σ H
def Ko(t u:TS):TS:=λD σ H=>t { D with nx:=u D } σ H
theorem zm:jJ X [] DK:=λ_ _ σ H _ I h=>wpAny_execs_nil ⟨σ,H,I,h⟩
theorem zc(h1:PS X st t)(h2:jJ X je u):jJ X (st::je) (Ko t u):=by
 intro pins s σ H D I h;refine wpAny_execs_cons (aO (h1 pins s σ H { D with nx:=u D } I h) λf s1 q=>?_);cases f with
 | next =>
   obtain⟨σ',H',I',q⟩:=q;exact h2 pins s1 σ' H' D I' q
 | ret v=>exact q
 | brk=>exact q
 | cont=>exact q
theorem zd(h1:PS X st t):jJ X [st] t:=by
 intro pins s σ H D I h;refine wpAny_execs_cons (aO (h1 pins s σ H D I h) λf s1 q=>?_);cases f with
 | next=>exact wpAny_execs_nil q
 | ret v=>exact q
 | brk=>exact q
 | cont=>exact q
theorem Inv.quiet{pins:List (Addr×Obj)}{σ:St}{H:Hp}{s:Shared}(I:Inv X pins σ H s):interactive X.env=false:=by simp[interactive,I.ok.kind]
def DL(te:TE):TS:=λD σ H=>te σ H λ_ H1=>D.nx σ H1
theorem zT(he:PE X e te)(hs:swapsWith e none pos.line X.env=pure false:=by rfl):PS X (.Expr e pos) (DL te):=by
 intro pins s σ H D I h;exact wpAny_Expr_any (aO (he pins s σ H _ I h) λv s1 ⟨x,H1,I1,r1,q1⟩=>⟨σ,H1,I1,q1⟩) I.quiet hs
def Kp(te:TE):TS:=λD σ H=>te σ H D.rt
theorem zi(he:PE X e te):PS X (.Return (some e) pos) (Kp te):=by
 intro pins s σ H D I h;exact wpAny_Return_some (aO (he pins s σ H _ I h) λv s1 ⟨x,H1,I1,r1,q1⟩=>⟨x,σ,H1,I1,r1,q1⟩)
def Kq(c:TT)(t u:TS):TS:=λD σ H=>c σ H λb H1=>if b=true then t D σ H1 else u D σ H1
theorem zw{c:Expr}{a b:List Stmt}{tc:TT}(hc:PT X c tc)(ha:jJ X a t)(hb:jJ X b u):PS X (.If c a b pos) (Kq tc t u):=by
 intro pins s σ H D I h;refine wpAny_If (aO (hc pins s σ H _ I h) λd s1 ⟨H1,I1,q1⟩=>?_);cases d with
 | true=>exact ha pins s1 σ H1 D I1 q1
 | false=>exact hb pins s1 σ H1 D I1 q1
def AS:TS:=λ_ _ _=>False
theorem yx:PS X st AS:=λ_ _ _ _ _ _ h=>h.elim
end
abbrev TG:=V->St->Hp->(St->Hp->Prop)->Prop
abbrev AU:=List V->St->Hp->(St->Hp->Prop)->Prop
def PG(X:Cx)(target:Expr)(t:TG):Prop :=
 ∀(pins:List (Addr×Obj)) (s:Shared) (σ:St) (H:Hp) (v:V) (u:Value) (Q:St->Hp->Prop),Inv X pins σ H s->RelV v u->t v σ H Q ->
  wpAny (model X.prog X.w) X.A (assign target X.env u) (λ_ s'=>∃σ' H',Inv X pins σ' H' s'/\Q σ' H') X.xe s
def GK(X:Cx)(ts:List Expr)(t:AU):Prop :=
 ∀(pins:List (Addr×Obj)) (s:Shared) (σ:St) (H:Hp) (vs:List V) (us:List Value) (Q:St->Hp->Prop),Inv X pins σ H s->Vals vs us->t vs σ H Q ->
  wpAny (model X.prog X.w) X.A (assignInOrder ((assignEach ts X.env).map (·.2)) us) (λ_ s'=>∃σ' H',Inv X pins σ' H' s'/\Q σ' H') X.xe s
abbrev AV:=V->V->V->Hp->(Hp->Prop)->Prop
def DN(X:Cx)(t:AV):Prop :=
 ∀(pins:List (Addr×Obj)) (s:Shared) (σ:St) (H:Hp) (o i v:V) (ov iv u:Value) (Q:Hp->Prop),Inv X pins σ H s->RelV o ov->RelV i iv->RelV v u->t o i v H Q ->
  wpAny (model X.prog X.w) X.A (setItem ov iv u) (λ_ s'=>∃H',Inv X pins σ H' s'/\Q H') X.xe s
section
variable {X:Cx}{pos:Pos}
def iZ(i:Nat):TG:=λv σ H Q=>Q (σ.set i (some v)) H
theorem zM{i:Nat}{x:Str}(hN:X.N.Nodup)(hi:X.N[i]? = some x)(hx:Loc X.env.scope x)(hf:X.fn x=true\/X.env.scope.names.lookup x=some .local:=by first | exact .inl rfl | exact .inr rfl | assumption):PG X (.Name x pos) (iZ i):=by
 intro pins s σ H v u Q I r h;exact wpAny_assign_Name (Rg I hN hi hx r (λs' I'=>⟨_,H,I',h⟩) hf)
def pC:AU:=λvs σ H Q=>vs=[]/\Q σ H
def mE(t:TG)(u:AU):AU:=λvs σ H Q=>∃v r,vs=v::r/\t v σ H λσ' H'=>u r σ' H' Q
theorem GL:GK X [] pC:=by
 intro pins s σ H vs us Q I r h;obtain⟨e,h⟩:=h;subst e;cases r;exact assignInOrder_nil ⟨σ,H,I,h⟩
variable {e:Expr}{es:List Expr}
theorem wI{t:TG}{u:AU}(h1:PG X e t)(h2:GK X es u)
 (hs:(assignEach (e::es) X.env).map (·.2)=assign e X.env::(assignEach es X.env).map (·.2):=by rfl):GK X (e::es) (mE t u):=by
 intro pins s σ H vs us Q I r h;obtain⟨v,vr,e1,h⟩:=h;subst e1;cases r with
 | cons r rr =>
   rw[hs];refine assignInOrder_cons (aO (h1 pins s σ H _ _ _ I r h) λ_ s1 ⟨σ1,H1,I1,q1⟩=>?_);exact h2 pins s1 σ1 H1 _ _ Q I1 rr q1
def pE(K:Frag)(n:Nat)(t:AU):TG:=λv σ H Q=>∃a xs,v=.ref a/\bX K H a xs/\xs.length=n/\t xs σ H Q
theorem GN{k:Nat}{t:AU}{n:Nat}(hc:X.calm=true)(h:GK X es t)
 (hn:(assignEach es X.env).length=n:=by rfl) (jg:(assignEach es X.env).findIdx? (·.1)=none:=by rfl):PG X (.Tuple es k pos) (pE X.K n t):=by
 intro pins s σ H v u Q I r hw;obtain⟨a,xs,e1,hq,hl,hw⟩:=hw;subst e1;cases r;obtain⟨aw,rv,ht,hz⟩:=I.tuple hq;refine assign_Tuple_tuple (I.ok.hd hc) ht (by simp[hn,<-hl,rv.length]) jg λh' hx=>?_;have I1:Inv X pins σ H { s with heap:=h' }:=I.kept (t':=s.toks) λb o e=>hx b o (ne_of_lt (lt_size e)) e;exact h pins _ σ H xs _ Q I1 (by simpa using rv) hw
def Kr(to ti:TE)(t:AV):TG:=λv σ H Q=>to σ H λo H1=>ti σ H1 λi H2=>t o i v H2 λH3=>Q σ H3
theorem GO{o i:Expr}{to ti:TE}{t:AV}(ho:PE X o to)(hi:PE X i ti)(hs:DN X t)
 (ha:∀v,assign (.Subscript o i pos) X.env v=(do
   let ov <-holding [v] (eval o X.env);let iv <-holding [v,ov] (eval i X.env)
   standAt pos
   holding [v,ov,iv] (setItem ov iv v)
   release [v,ov,iv] []):=by intro _;rfl):PG X (.Subscript o i pos) (Kr to ti t):=by
 intro pins s σ H v u Q I r h;rw[ha];refine q03 (wpAny_holding (aO (ho pins s σ H _ I h) λov s1 ⟨x,H1,I1,r1,q1⟩=>?_));refine q03 (wpAny_holding (aO (hi pins s1 σ H1 _ I1 q1) λiv s2 ⟨y,H2,I2,r2,q2⟩=>?_));refine q03 (wpAny_standAt (q03 (wpAny_holding (aO (hs pins s2 σ H2 x y v ov iv u _ I2 r1 r2 r q2) λ_ s3 ⟨H3,I3,q3⟩=>?_))));exact wpAny_release ⟨σ,H3,I3,q3⟩
def uM(te:TE)(g:TG):TS:=λD σ H=>te σ H λx H1=>g x σ H1 D.nx
theorem GP{tg:Expr}{te:TE}{g:TG}(he:PE X e te)(hg:PG X tg g)(hs:swapsWithSole [tg] e pos.line X.env=pure false:=by rfl)(hw:swappedStores [tg] e X.env=pure none:=by rfl)
 (h1:(assignEach [tg] X.env).map (·.2)=[assign tg X.env]:=by rfl):PS X (.Assign [tg] e pos) (uM te g):=by
 intro pins s σ H D I h;refine wpAny_Assign_stores (aO (he pins s σ H _ I h) λv s1 ⟨x,H1,I1,r1,q1⟩=>?_) hs hw;rw[h1];exact aO (hg pins s1 σ H1 x v _ I1 r1 q1) λ_ s2 q=>q
theorem zt{i:Nat}{x:Str}{te:TE}{pos':Pos}(hN:X.N.Nodup)(hi:X.N[i]? = some x)(hx:Loc X.env.scope x)(he:PE X e te)(hs:swapsWith e (some (.Name x pos')) pos.line X.env=pure false:=by rfl)(hf:X.fn x=true\/X.env.scope.names.lookup x=some .local:=by first | exact .inl rfl | exact .inr rfl | assumption):
 PS X (.Assign [.Name x pos'] e pos) (uM te (iZ i)):=by
 intro pins s σ H D I h;refine wpAny_Assign_Name (aO (he pins s σ H _ I h) λv s1 ⟨y,H1,I1,r1,q1⟩=>?_) hs;exact Rg I1 hN hi hx r1 (λs2 I2=>⟨_,H1,I2,q1⟩) hf
end
structure It where
 go:Nat->Hp->Prop
 uN:Nat->Hp->V->Hp->Prop
 stop:Nat->Hp->Prop
def fq(X:Cx)(pins:List (Addr×Obj))(H:Hp)(b:Addr):Prop :=
 H b=none/\b≠X.env.locals/\b∉X.fs/\(b∈X.ex\/X.s₀.heap.objs.size<=b)/\(∀x c,X.env.cells.lookup x=some c->c≠b)/\∀p∈X.pn++pins,p.1≠b
theorem Inv.fV{pins:List (Addr×Obj)}{σ:St}{H':Hp}(I:Inv X pins σ H s)(hb:s.heap.objs.size<=b)(hn:H' b=none):fq X pins H' b:=by
 refine⟨hn,ne_of_gt (q21 I.lt hb),I.DC hb,.inr (q38 I.sz hb),λx c e z=>?_,λp hp z=>?_⟩
 .obtain⟨v,q⟩:=I.cell x c e;exact q02 (q21 q.lt (by rw[z];exact hb)) (q37 _)
 .exact q02 (q21 (lt_size (I.pin p hp).1) (by rw[z];exact hb)) (q37 _)
structure Turn (P:Program) (w:World) (K:Frag) (tg:Expr) (J:It) (fp:List Addr) (it:Addr) (tn:Nat->Heap->Prop):Prop where
 mem:it∈fp
 obj:∀i h,tn i h->∀b∈fp,∃o,h.get? b=some o/\∀v,o.data ≠ .cell v
 keep:∀i h h',tn i h->(∀b∈fp,∀o,h.get? b=some o->h'.get? b=some o)->tn i h'
 item:∀(X:Cx),X.prog=P->X.w=w->X.K=K->X.calm=true->∀(i:Nat)(pins:List (Addr×Obj)) (s:Shared) (σ:St) (H:Hp) (E:Value->Shared->Prop),Inv X pins σ H s->(∀b∈fp,fq X pins H b)->tn i s.heap->J.go i H ->
  wpAny (model P w) X.A (pyNext (.ref it)) (λr s1=>∃u,r=some u /\
   wpAny (model P w) X.A (letOwnedTupleGo tg (.ref it) u) (λ_ s2=>∃x H',Inv X pins σ H' s2/\RelV x u/\J.uN i H x H'/\tn (i+1) s2.heap/\∀b∈fp,H' b=none) E s1) E s
 done:∀(X:Cx),X.prog=P->X.w=w->X.K=K->X.calm=true->∀(i:Nat)(pins:List (Addr×Obj)) (s:Shared) (σ:St) (H:Hp) (E:Value->Shared->Prop),Inv X pins σ H s->(∀b∈fp,fq X pins H b)->tn i s.heap->J.stop i H ->
  wpAny (model P w) X.A (pyNext (.ref it)) (λr s1=>r=none/\Inv X pins σ H s1) E s
 self:∀(A:Around)(i:Nat)(s:Shared)(Q:Value->Shared->Prop)(E:Value->Shared->Prop),tn i s.heap->Q (.ref it) s->wpAny (model P w) A (pyIter (.ref it)) Q E s
abbrev TI:=St->Hp->(It->Hp->Prop)->Prop
def Ri(X:Cx)(pins:List (Addr×Obj))(σ:St)(tg:Expr)(R:It->Hp->Prop)(xp:Value)(s2:Shared):Prop :=
 ∃(it:Addr)(fp:List Addr)(tn:Nat->Heap->Prop)(J:It)(H':Hp),xp=.ref it/\Inv X pins σ H' s2/\Turn X.prog X.w X.K tg J fp it tn/\tn 0 s2.heap/\(∀b∈fp,fq X pins H' b)/\R J H'
def PI(X:Cx)(tg iter:Expr)(wi:TI):Prop :=
 ∀(pins:List (Addr×Obj)) (s:Shared) (σ:St) (H:Hp) (R:It->Hp->Prop),Inv X pins σ H s->wi σ H R ->
  wpAny (model X.prog X.w) X.A (eval iter X.env) (λv s1=>wpAny (model X.prog X.w) X.A (pyIter v) (Ri X pins σ tg R) X.xe s1) X.xe s
variable {tg:Expr}
theorem pF{M:Model}{it:Addr}{o:Obj}{n:String}{vs:Array Value}{Q:Unit->Shared->Prop}(ho:s.heap.get? it=some o)(hc:o.cls=.type n)(hd:o.data=.fields vs)
 (hn : ["enumerate","zip","dict_itemiterator","dict_reverseitemiterator","odict_iterator","itertools.zip_longest","itertools.pairwise"].contains n=false) (hQ:Q () s):wpAny M A (letOwnedTupleGo tg (.ref it) u) Q E s:=by
 unfold letOwnedTupleGo;cases tg <;> first
  | exact q04 hQ
  | (cases u <;> first
      | exact q04 hQ
      | (refine q03 (wpAny_load ho ?_)
         rw[hc,hd];show wpAny M A (if(["enumerate","zip","dict_itemiterator","dict_reverseitemiterator","odict_iterator","itertools.zip_longest","itertools.pairwise"].contains n && vs[0]? == some (rawInt _))=true then _ else _) Q E s;rw[q00 (by intro h;rw[hn,Bool.false_and]at h;cases h)];exact q04 hQ))
def i5(K:Frag)(a:Addr):It :=
 ⟨λi H=>∃xs x,ai K H a xs/\xs[i]? = some x,λi H x H'=>H'=H/\∀xs,ai K H a xs->xs[i]? = some x,λi H=>∃xs,ai K H a xs/\xs.length<=i⟩
def uO(lo:Int)(n:Nat):It:=⟨λi _=>i<n,λi H x H'=>H'=H/\x=.int (lo+i),λi _=>n<=i⟩
variable {K:Frag}
theorem mF(a it:Addr):Turn P w K tg (i5 K a) [it] it (λi h=>h.IsListIter it a i) where
 mem:=by simp
 obj:=λi h st b hb=>by
  have e:b=it:=by simpa using hb
  subst e;obtain⟨o,e,c,d⟩:=st;exact⟨o,e,λv z=>by rw[d]at z;cases z⟩
 keep:=λi h h' st k=>st.at λo e=>k it (by simp) o e
 item:=by
  intro X hP hw hK hc i pins s σ H E I hf st hg;subst hP hw hK;obtain⟨xs,x,hq,hx⟩:=hg;obtain⟨aw,rv,p,hz⟩:=I.list hq;obtain⟨u,hu,ru⟩:=rv.get hx;obtain⟨f0,f1,f2,f3,f4,f5⟩:=hf it (by simp);refine wpAny_pyNext_list_item st p.isList (x:=u) (by simpa using hu) λh' jh sb=>?_;have I1:Inv X pins σ H { s with heap:=h' }:=I.turned (t':=s.toks) (λb o hb e=>(sb.2 b hb).trans e) f0 f1 f3 f4 f5;obtain⟨o,e,c,d⟩:=id jh;exact⟨u,rfl,pF (s:={ s with heap:=h' }) e c d (by decide) ⟨x,H,I1,ru,⟨rfl,λys hy=>by rw[I.gs hy hq];exact hx⟩,jh,λb hb=>(hf b hb).1⟩⟩
 done:=by
  intro X hP hw hK hc i pins s σ H E I hf st hg;subst hP hw hK;obtain⟨xs,hq,hx⟩:=hg;obtain⟨aw,rv,p,hz⟩:=I.list hq;obtain⟨f0,f1,f2,f3,f4,f5⟩:=hf it (by simp);have hl:=rv.length;exact wpAny_pyNext_list_end (I.ok.hd hc) st p.isList (by simp;omega) λh' eb=>⟨rfl,I.turned (t':=s.toks) (λb o hb e=>eb b o hb e) f0 f1 f3 f4 f5⟩
 self:=λ_ _ _ _ _ st h=>wpAny_pyIter_listiter st h
theorem jR(it:Addr)(lo:Int)(n:Nat):Turn P w K tg (uO lo n) [it] it (λi h=>IsRangeIter h it (lo+(i:Nat)*1) ((n:Int)-(i:Nat)) 1) where
 mem:=by simp
 obj:=λi h st b hb=>by
  have e:b=it:=by simpa using hb
  subst e;exact⟨_,st,λv z=>by
   have z':Data.fields _=Data.cell v:=z;cases z'⟩
 keep:=λi h h' st k=>k it (by simp) _ st
 item:=by
  intro X hP hw hK hc i pins s σ H E I hf st hg;subst hP hw hK;obtain⟨f0,f1,f2,f3,f4,f5⟩:=hf it (by simp);have W:=Walks.range (prog:=X.prog) (w:=X.w) (I.ok.hd hc) it lo 1 n;refine W.item i s _ _ hg st λv h' tk hv jh kk=>?_;obtain⟨t,rfl⟩:=hv;have I1:Inv X pins σ H { s with heap:=h',toks:=tk }:=I.turned (λb o hb e=>kk b o (by simpa using hb) e) f0 f1 f3 f4 f5;refine⟨_,rfl,pF (s:={ s with heap:=h',toks:=tk }) (n:= "range_iterator") jh rfl rfl (by decide) ⟨.int (lo+i),H,I1,⟨t,?_⟩,⟨rfl,rfl⟩,jh,λb hb=>(hf b hb).1⟩⟩;rw[Int.mul_one]
 done:=by
  intro X hP hw hK hc i pins s σ H E I hf st hg;subst hP hw hK;obtain⟨f0,f1,f2,f3,f4,f5⟩:=hf it (by simp);exact wpAny_pyNext_range_end (I.ok.hd hc) st (by have:n<=i:=hg;omega) λh' eb=>⟨rfl,I.turned (t':=s.toks) (λb o hb e=>eb b o hb e) f0 f1 f3 f4 f5⟩
 self:=λ_ _ _ _ _ st h=>wpAny_pyIter_rangeiter st h
section
variable {X:Cx}{tg:Expr}
inductive pG (K:Frag)(x:V)(H1:Hp)(R:It->Hp->Prop):Prop|mk(a:_):x=.ref a->((∃xs,ai K H1 a xs))->R (i5 K a) H1->pG K x H1 R
def xq(K:Frag)(tl:TE):TI:=λσ H R=>tl σ H λx H1=>pG K x H1 R
theorem zz{l:Expr}{tl:TE}(hl:PE X l tl):PI X tg l (xq X.K tl):=by
 intro pins s σ H R I h;refine aO (hl pins s σ H _ I h) λv s1 ⟨x,H1,I1,r1,q1⟩=>?_;obtain⟨a,e,⟨xs,hq⟩,q⟩:=q1;subst e;cases r1;obtain⟨aw,rv,p,hz⟩:=I1.list hq;refine wpAny_pyIter_list p.isList ?_;refine⟨s1.heap.objs.size,[s1.heap.objs.size],_,_,H1,rfl,I1.kept (t':=s1.toks) λb o e=>q05 _ e,mF a _,⟨_,get?_push_size _ rfl,rfl,rfl⟩,λb hb=>?_,q⟩;have e:b=s1.heap.objs.size:=by simpa using hb
 subst e;exact I1.fV (le_refl _) (I1.aJ.fresh (le_refl _))
variable {pins:List (Addr×Obj)}{s:Shared}
theorem Rj{σ:St}{H:Hp}{R:It->Hp->Prop}{E:Value->Shared->Prop}{lo hi:Int}{t u v:Tok}{tk:Nat}(I:Inv X pins σ H s)(h1 : -(2 ^ 62)<=lo)(h2:lo<2 ^ 62)(h3 : -(2 ^ 62)<=hi)(h4:hi<2 ^ 62)
 (q:R (uO lo (hi-lo).toNat) H):wpAny (model X.prog X.w) X.A (pyIter (.ref s.heap.objs.size)) (Ri X pins σ tg R) E { s with heap:=s.heap.push { cls:=.type "range",data:=.fields #[.int lo t,.int hi u,.int 1 v] },toks:=tk }:=by
 refine wpAny_pyIter_range (IsRange.new ..) (small_one h1 h2 h3 h4) ?_;have I1:Inv X pins σ H { s with heap:=s.heap.push { cls:=.type "range",data:=.fields #[.int lo t,.int hi u,.int 1 v] },toks:=tk }:=I.kept λb o e=>q05 _ e;refine⟨(s.heap.push { cls:=.type "range",data:=.fields #[.int lo t,.int hi u,.int 1 v] }).objs.size,[(s.heap.push { cls:=.type "range",data:=.fields #[.int lo t,.int hi u,.int 1 v] }).objs.size],_,_,H,rfl,
  I1.kept (t':=tk) λb o e=>q05 _ e,jR _ lo (hi-lo).toNat,?_,λb hb=>?_,q⟩
 .have e1:lo+((0:Nat):Int)*1=lo:=by simp
  have e2:(((hi-lo).toNat:Nat):Int)-((0:Nat):Int)=Builtin.Range.rangeSize lo hi 1:=by rw[rangeSize_one];split <;> omega
  show IsRangeIter _ _ (lo+((0:Nat):Int)*1) ((((hi-lo).toNat:Nat):Int)-((0:Nat):Int)) 1;rw[e1,e2];exact get?_push_size _ rfl
 .have e:b=(s.heap.push { cls:=.type "range",data:=.fields #[.int lo t,.int hi u,.int 1 v] }).objs.size:=by simpa using hb
  subst e;exact I1.fV (le_refl _) (I1.aJ.fresh (le_refl _))
inductive pH (vs:List V)(H1:Hp)(R:It->Hp->Prop):Prop|mk(j:Int):vs=[.int j] -> -(2 ^ 62)<=j->j<2 ^ 62->R (uO 0 j.toNat) H1->pH vs H1 R
def DO(ta:TA):TI:=λσ H R=>ta σ H λvs H1=>pH vs H1 R
inductive pI (vs:List V)(H1:Hp)(R:It->Hp->Prop):Prop|mk(i j:Int):vs=[.int i,.int j]->(-(2 ^ 62)<=i/\i<2 ^ 62 /\ -(2 ^ 62)<=j/\j<2 ^ 62)->R (uO i (j-i).toNat) H1->pI vs H1 R
def DP(ta:TA):TI:=λσ H R=>ta σ H λvs H1=>pI vs H1 R
variable {pos:Pos}
theorem yD{a:Expr}{ta:TA}{p:Pos}(hg:Gl X "range")(hm:X.mg "range"=none)(ha:PA X [a] ta)(hs:starEach [a] X.env=[(false,eval a X.env)]:=by rfl):PI X tg (.Call (.Name "range" p) [a] [] pos) (DO ta):=by
 intro pins s σ H R I h;refine Call_ (tX I hg hm boot_range (callWith_type1 (aO (ha pos pins s σ H _ I h) λus s1 ⟨vs,H1,I1,r1,q1⟩=>?_) hs rfl));obtain⟨j,e,q1,q2,q⟩:=q1;subst e;cases r1 with
 | cons r rr =>
   cases rr;obtain⟨t,rfl⟩:=r;exact call_range_1 (Rj I1 (by omega) (by omega) q1 q2 (by simpa using q))
theorem AW{a b:Expr}{ta:TA}{p:Pos}(hg:Gl X "range")(hm:X.mg "range"=none)(ha:PA X [a,b] ta)(hs:starEach [a,b] X.env=[(false,eval a X.env),(false,eval b X.env)]:=by rfl)(mG:starEach [b] X.env=[(false,eval b X.env)]:=by rfl):
 PI X tg (.Call (.Name "range" p) [a,b] [] pos) (DP ta):=by
 intro pins s σ H R I h;refine Call_ (tX I hg hm boot_range (callWith_type1 (aO (ha pos pins s σ H _ I h) λus s1 ⟨vs,H1,I1,r1,q1⟩=>?_) (by rw[hs,mG]) (by rw[mG];rfl)));obtain⟨i,j,e,⟨q1,q2,q3,q4⟩,q⟩:=q1;subst e;cases r1 with
 | cons r rr =>
   cases rr with
   | cons r' rr =>
     cases rr;obtain⟨t,rfl⟩:=r;obtain⟨t',rfl⟩:=r';exact call_range_2 (Rj I1 q1 q2 q3 q4 q)
def Ks(wi:TI)(g:TG)(tb:TS):TS:=λD σ H=>wi σ H λJ H1=>∃W:Nat->Nat->St->Hp->Prop,(∃m,W 0 m σ H1)/\∀i m σ H,W i m σ H ->
 (J.stop i H/\D.nx σ H)\/(J.go i H/\∃N:St->Hp->Prop,(∀σ' H',N σ' H'->∃m',m'<m/\W (i+1) m' σ' H')/\∀x H',J.uN i H x H'->g x σ H' λσ2 H2=>tb { D with nx:=N,ct:=N,bk:=D.nx } σ2 H2)
def GQ(fp:List Addr)(h:Heap):List (Addr×Obj):=fp.filterMap λb=>(h.get? b).map λo=>(b,o)
variable {fp:List Addr}
theorem wX{h:Heap}{b:Addr}{o:Obj}(hb:b∈fp)(e:h.get? b=some o):(b,o)∈GQ fp h:=List.mem_filterMap.mpr ⟨b,hb,by rw[e];rfl⟩
theorem mH{h:Heap}{p:Addr×Obj}(hp:p∈GQ fp h):p.1∈fp/\h.get? p.1=some p.2:=by
 obtain⟨b,hb,e⟩:=List.mem_filterMap.mp hp;cases q:h.get? b with
 | none=>rw[q]at e;cases e
 | some o =>
   rw[q]at e;have e':(b,o)=p:=q22 e;subst e';exact⟨hb,q⟩
theorem Inv.pinned{σ:St}{H:Hp}(I:Inv X pins σ H s)(hf:∀b∈fp,fq X pins H b)(ho:∀b∈fp,∃o,s.heap.get? b=some o/\∀v,o.data ≠ .cell v):Inv X (pins++GQ fp s.heap) σ H s :=
 I.cT λp hp=>(List.mem_append.mp hp).elim (λz=>I.pin p (mem_append_right _ z)) λz=>by
  obtain⟨hb,e⟩:=mH z;obtain⟨f0,f1,f2,_⟩:=hf p.1 hb;obtain⟨o,e',d⟩:=ho p.1 hb;rw[e]at e';cases e';exact⟨e,f0,f1,f2,d⟩
theorem Inv.cH{pl:List (Addr×Obj)}{σ:St}{H:Hp}(I:Inv X (pins++pl) σ H s):Inv X pins σ H s:=I.cT λp hp=>I.pin p (mem_append_right _ (mem_append_left _ hp))
theorem wd{iter:Expr}{body:List Stmt}{wi:TI}{g:TG}{tb:TS}(hp:PassesOwn (model X.prog X.w) X.A X.env X.xe)(hc:X.calm=true)(hi:PI X tg iter wi)(hg:PG X tg g)(hb:jJ X body tb)
 (hs:∀x,foldedSetIterable iter X.env x=pure x:=by intro _;rfl):PS X (.For tg iter body [] pos) (Ks wi g tb):=by
 intro pins s σ H D I h;refine wpAny_For (aO (hi pins s σ H _ I h) λv s1 h1=>aO h1 λxp s2 h2=>?_) hs;obtain⟨it,fp,tn,J,H2,e,I2,T,iI,f2,W,⟨m0,w0⟩,turn⟩:=h2;subst e;have gu:∀{H':Hp},(∀b∈fp,H' b=none)->∀b∈fp,fq X pins H' b:=λhn b hb=>⟨hn b hb,(f2 b hb).2⟩;refine codeAny_forLoop_any (λn s'=>∃i σ' H',Inv X pins σ' H' s'/\tn i s'.heap/\(∀b∈fp,H' b=none)/\W i n σ' H') ?_ m0 ⟨0,σ,H2,I2,iI,λb hb=>(f2 b hb).1,w0⟩;rintro n s3 ⟨i,σ3,H3,I3,tY,xr,w3⟩;rcases turn i n σ3 H3 w3 with⟨stop,qn⟩|⟨go,N,hN,step⟩
 .refine wpAny_passesOwn hp (aO (T.done X rfl rfl rfl hc i pins s3 σ3 H3 X.xe I3 (gu xr) tY stop) λr s4 ⟨hr,I4⟩=>?_);subst hr;exact wpAny_execs_nil ⟨σ3,H3,I4,qn⟩
 .refine wpAny_passesOwn hp (aO (T.item X rfl rfl rfl hc i pins s3 σ3 H3 X.xe I3 (gu xr) tY go) λr s4 ⟨u,hr,h4⟩=>?_);subst hr;refine wpAny_passesOwn hp (aO h4 λ_ s5 ⟨x,H5,I5,r5,y5,mI,DQ⟩=>?_);have DR:=I5.pinned (gu DQ) (T.obj _ _ mI);refine wpAny_passesOwn hp (aO (hg _ s5 σ3 H5 x u _ DR r5 (step x H5 y5)) λ_ s6 ⟨σ6,H6,I6,q6⟩=>?_);refine wpAny_passesOwn hp (aO (hb _ s6 σ6 H6 _ I6 q6) λf s7 q7=>?_);have again:∀{σ7:St}{H7:Hp},Inv X (pins++GQ fp s5.heap) σ7 H7 s7->N σ7 H7->∃m,m<n/\∃i σ' H',Inv X pins σ' H' s7/\tn i s7.heap/\(∀b∈fp,H' b=none)/\W i m σ' H':=λ{σ7 H7} I7 n7=>by
   obtain⟨m',hm,w7⟩:=hN σ7 H7 n7;refine⟨m',hm,i+1,σ7,H7,I7.cH,T.keep _ _ _ mI λb hb o e=>(I7.pin (b,o) (mem_append_right _ (mem_append_right _ (wX hb e)))).1,λb hb=>?_,w7⟩;obtain⟨o,e,d⟩:=T.obj _ _ mI b hb;exact(I7.pin (b,o) (mem_append_right _ (mem_append_right _ (wX hb e)))).2.1
  cases f with
  | next=>obtain⟨σ7,H7,I7,n7⟩:=q7;exact again I7 n7
  | cont=>obtain⟨σ7,H7,I7,n7⟩:=q7;exact again I7 n7
  | brk=>obtain⟨σ7,H7,I7,q7⟩:=q7;exact⟨σ7,H7,I7.cH,q7⟩
  | ret v=>obtain⟨x7,σ7,H7,I7,r7,q7⟩:=q7;exact⟨x7,σ7,H7,I7.cH,r7,q7⟩
end
theorem GR{xs:List V}{g:TG}{tb:TS}{D:Ends}{σ:St}(Pv:Nat->St->Hp->Prop)(h0:Pv 0 σ H)(hl:∀i σ H,i<=xs.length->Pv i σ H->ai K H a xs)
 (hs:∀i x σ H,xs[i]? = some x->Pv i σ H->g x σ H λσ2 H2=>tb { D with nx:=Pv (i+1),ct:=Pv (i+1),bk:=D.nx } σ2 H2) (hd:∀σ H,Pv xs.length σ H->D.nx σ H) :
 ∃W:Nat->Nat->St->Hp->Prop,(∃m,W 0 m σ H)/\∀i m σ H,W i m σ H ->
  ((i5 K a).stop i H/\D.nx σ H)\/((i5 K a).go i H/\∃N:St->Hp->Prop,(∀σ' H',N σ' H'->∃m',m'<m/\W (i+1) m' σ' H')/\∀x H',(i5 K a).uN i H x H'->g x σ H' λσ2 H2=>tb { D with nx:=N,ct:=N,bk:=D.nx } σ2 H2):=by
 refine⟨λi m σ H=>m=xs.length-i/\i<=xs.length/\Pv i σ H,⟨xs.length,by simp,zero_le _,h0⟩,?_⟩;rintro i m σ H ⟨rfl,hi,p⟩;have q:=hl i σ H hi p;by_cases bU:i<xs.length
 .refine .inr ⟨⟨xs,xs[i],q,by simp[bU]⟩,Pv (i+1),λσ' H' p'=>⟨xs.length-(i+1),by omega,rfl,bU,p'⟩,λx H' y=>?_⟩;obtain⟨e,y⟩:=y;subst e;exact hs i x σ _ (y xs q) p
 .have e:i=xs.length:=by omega
  subst e;exact .inl ⟨⟨xs,q,le_refl _⟩,hd σ H p⟩
theorem ym{lo:Int}{n:Nat}{g:TG}{tb:TS}{D:Ends}{σ:St}(Pv:Nat->St->Hp->Prop)(h0:Pv 0 σ H)
 (hs:∀i σ H,i<n->Pv i σ H->g (.int (lo+i)) σ H λσ2 H2=>tb { D with nx:=Pv (i+1),ct:=Pv (i+1),bk:=D.nx } σ2 H2) (hd:∀σ H,Pv n σ H->D.nx σ H) :
 ∃W:Nat->Nat->St->Hp->Prop,(∃m,W 0 m σ H)/\∀i m σ H,W i m σ H ->
  ((uO lo n).stop i H/\D.nx σ H)\/((uO lo n).go i H/\∃N:St->Hp->Prop,(∀σ' H',N σ' H'->∃m',m'<m/\W (i+1) m' σ' H')/\∀x H',(uO lo n).uN i H x H'->g x σ H' λσ2 H2=>tb { D with nx:=N,ct:=N,bk:=D.nx } σ2 H2):=by
 refine⟨λi m σ H=>m=n-i/\i<=n/\Pv i σ H,⟨n,by simp,zero_le _,h0⟩,?_⟩;rintro i m σ H ⟨rfl,hi,p⟩;by_cases bU:i<n
 .refine .inr ⟨bU,Pv (i+1),λσ' H' p'=>⟨n-(i+1),by omega,rfl,bU,p'⟩,λx H' y=>?_⟩;obtain⟨e,y⟩:=y;subst e y;exact hs i σ _ bU p
 .have e:i=n:=by omega
  subst e;exact .inl ⟨le_refl _,hd σ H p⟩
abbrev R2:=V->V->Hp->VK->Prop
def dB(X:Cx)(f:Value->Value->Sem Value)(r:R2):Prop :=
 ∀(pins:List (Addr×Obj)) (s:Shared) (σ:St) (H:Hp) (x y:V) (v u:Value) (Q:VK),Inv X pins σ H s->RelV x v->RelV y u->r x y H Q ->
  wpAny (model X.prog X.w) X.A (f v u) (EP X pins σ Q) X.xe s
def Kt(X:Cx)(f:Value->Sem Value)(r:V->Hp->VK->Prop):Prop :=
 ∀(pins:List (Addr×Obj)) (s:Shared) (σ:St) (H:Hp) (x:V) (v:Value) (Q:VK),Inv X pins σ H s->RelV x v->r x H Q ->
  wpAny (model X.prog X.w) X.A (f v) (EP X pins σ Q) X.xe s
def gZ(X:Cx)(f:Value)(r:List V->Hp->VK->Prop):Prop :=
 ∀(pins:List (Addr×Obj)) (s:Shared) (σ:St) (H:Hp) (xs:List V) (us:List Value) (Q:VK),Inv X pins σ H s->Vals xs us->r xs H Q ->
  wpAny (model X.prog X.w) X.A (call f us) (EP X pins σ Q) X.xe s
def Ku(X:Cx)(r:V->Hp->(Bool->Hp->Prop)->Prop):Prop :=
 ∀(pins:List (Addr×Obj)) (s:Shared) (σ:St) (H:Hp) (x:V) (v:Value) (Q:Bool->Hp->Prop),Inv X pins σ H s->RelV x v->r x H Q ->
  wpAny (model X.prog X.w) X.A (truthy v) (TP X pins σ Q) X.xe s
def GS(r:R2)(ta tb:TE):TE:=λσ H Q=>ta σ H λx H1=>tb σ H1 λy H2=>r x y H2 Q
def VH(r:V->Hp->VK->Prop)(ta:TE):TE:=λσ H Q=>ta σ H λx H1=>r x H1 Q
inductive Rk (C:Int->Int->Prop)(g:Int->Int->V)(x y:V)(H:Hp)(Q:VK):Prop|mk(i:_)(j:_):x=.int i->y=.int j->C i j->Q (g i j) H->Rk C g x y H Q
def rI(C:Int->Int->Prop)(g:Int->Int->V):R2:=λx y H Q=>Rk C g x y H Q
inductive DS (g:Int->Int->V)(x y:V)(H:Hp)(Q:VK):Prop|mk(i:_)(j:_):x=.int i->y=.int j->Q (g i j) H->DS g x y H Q
def xt(g:Int->Int->V):R2:=λx y H Q=>DS g x y H Q
inductive Rl (g:Int->V)(x:V)(H:Hp)(Q:VK):Prop|mk(i:_):x=.int i->Q (g i) H->Rl g x H Q
def rU(g:Int->V):V->Hp->VK->Prop:=λx H Q=>Rl g x H Q
section
variable {X:Cx}{a b c:Expr}{ta tb tc:TE}{pos:Pos}
variable {f:Value->Value->Sem Value}
theorem AX(ha:PE X a ta)(hb:PE X b tb){pins:List (Addr×Obj)}{s:Shared}{σ:St}{H:Hp}{R:V->V->Hp->Prop}(I:Inv X pins σ H s)
 (h:ta σ H λx H1=>tb σ H1 λy H2=>R x y H2) {Q:Value->Shared->Prop} 
 (hf:∀v u s2 x y H2,Inv X pins σ H2 s2->RelV x v->RelV y u->R x y H2->wpAny (model X.prog X.w) X.A (f v u) Q X.xe s2) :
 wpAny (model X.prog X.w) X.A (eval a X.env) (λv s₁=>wpAny (model X.prog X.w) X.A (eval b X.env) (λu s₂=>wpAny (model X.prog X.w) X.A (f v u) Q X.xe s₂) X.xe s₁) X.xe s:=by
 refine aO (ha pins s σ H _ I h) λv s1 ⟨x,H1,I1,r1,q1⟩=>?_;refine aO (hb pins s1 σ H1 _ I1 q1) λu s2 ⟨y,H2,I2,r2,q2⟩=>?_;exact hf v u s2 x y H2 I2 r1 r2 q2
theorem zo{op:Operator}{r:R2}(ho:dB X (binaryOp op) r)(ha:PE X a ta)(hb:PE X b tb):PE X (.BinOp a op b pos) (GS r ta tb):=by
 intro pins s σ H Q I h;exact wpAny_BinOp (AX ha hb I h λv u s2 x y H2 I2 rx ry q=>ho pins s2 σ H2 x y v u Q I2 rx ry q)
theorem xu{op:UnaryOp}{r:V->Hp->VK->Prop}(ho:Kt X (unaryOp op) r)(ha:PE X a ta):PE X (.UnaryOp op a pos) (VH r ta):=by
 intro pins s σ H Q I h;exact UnaryOp_ (aO (ha pins s σ H _ I h) λv s1 ⟨x,H1,I1,r1,q1⟩=>ho pins s1 σ H1 x v Q I1 r1 q1)
variable {g:Int->Int->Int}
theorem Kv{C:Int->Int->Prop}
 (rule:∀(i j:Int)(t u:Tok)(s:Shared)(Q:Value->Shared->Prop)(E:Value->Shared->Prop),C i j->Q (.int (g i j) s.toks) { s with toks:=s.toks+1 }->wpAny (model X.prog X.w) X.A (f (.int i t) (.int j u)) Q E s) :
 dB X f (rI C λi j=>.int (g i j)):=by
 intro pins s σ H x y v u Q I rx ry h;obtain⟨i,j,rfl,rfl,hc,q⟩:=h;obtain⟨t,rfl⟩:=rx;obtain⟨t',rfl⟩:=ry;exact rule i j t t' s _ _ hc ⟨.int (g i j),H,I.tok _,⟨_,rfl⟩,q⟩
theorem DT
 (rule:∀(i j:Int)(t u:Tok)(s:Shared)(Q:Value->Shared->Prop)(E:Value->Shared->Prop),Q (.int (g i j) s.toks) { s with toks:=s.toks+1 }->wpAny (model X.prog X.w) X.A (f (.int i t) (.int j u)) Q E s) :
 dB X f (xt λi j=>.int (g i j)):=by
 intro pins s σ H x y v u Q I rx ry h;obtain⟨i,j,rfl,rfl,q⟩:=h;obtain⟨t,rfl⟩:=rx;obtain⟨t',rfl⟩:=ry;exact rule i j t t' s _ _ ⟨.int (g i j),H,I.tok _,⟨_,rfl⟩,q⟩
theorem uP{g:Int->Int->Bool}
 (rule:∀(i j:Int)(t u:Tok)(s:Shared)(Q:Value->Shared->Prop)(E:Value->Shared->Prop),Q (.bool (g i j)) s->wpAny (model X.prog X.w) X.A (f (.int i t) (.int j u)) Q E s) :
 dB X f (xt λi j=>.bl (g i j)):=by
 intro pins s σ H x y v u Q I rx ry h;obtain⟨i,j,rfl,rfl,q⟩:=h;obtain⟨t,rfl⟩:=rx;obtain⟨t',rfl⟩:=ry;exact rule i j t t' s _ _ ⟨.bl (g i j),H,I,rfl,q⟩
def Kw(i j:Int):Prop:=0<j/\j<1073741824
def AY(i j:Int):Prop:=(-(2 ^ 64)<i/\i<2 ^ 64)\/(-(2 ^ 64)<j/\j<2 ^ 64)
theorem AY.ok{i j:Int}(h:AY i j):IntMulOk i j:=by
 rcases h with⟨h1,h2⟩|⟨h1,h2⟩
 .exact .of_left (intBits_le_64 h1 h2)
 .exact .of_right (intBits_le_64 h1 h2)
theorem yg:dB X (binaryOp .Add) (xt λi j=>.int (i+j)):=DT λ_ _ _ _ _ _ _ q=>add_int q
theorem tZ:dB X (binaryOp .Sub) (xt λi j=>.int (i-j)):=DT λ_ _ _ _ _ _ _ q=>sub_int q
theorem uQ:dB X (binaryOp .Mult) (rI AY λi j=>.int (i*j)):=Kv λ_ _ _ _ _ _ _ hc q=>mul_int q hc.ok
theorem AZ:dB X (binaryOp .FloorDiv) (rI Kw λi j=>.int (i/j)):=Kv λi j _ _ _ _ _ hc q=>by
 have h1:(0:Int)<j:=hc.1;have h2:j<1073741824:=hc.2;exact floordiv_int (by omega) (by rw[Int.fdiv_eq_ediv_of_nonneg i (by omega)];exact q) (.inl (PyProof.noPylong_small (by omega)))
theorem yK:dB X (binaryOp .Mod) (rI (λ_ j=>0<j) λi j=>.int (i%j)):=Kv λi j _ _ _ _ _ hc q=>by
 have h1:(0:Int)<j:=hc;exact mod_int' (by omega) (by rw[Int.fmod_eq_emod_of_nonneg i (by omega)];exact q)
theorem VI{f:Value->Sem Value}{g:Int->Int}
 (rule:∀(i:Int)(t:Tok)(s:Shared)(Q:Value->Shared->Prop)(E:Value->Shared->Prop),Q (.int (g i) s.toks) { s with toks:=s.toks+1 }->wpAny (model X.prog X.w) X.A (f (.int i t)) Q E s) :
 Kt X f (rU λi=>.int (g i)):=by
 intro pins s σ H x v Q I rx h;obtain⟨i,rfl,q⟩:=h;obtain⟨t,rfl⟩:=rx;exact rule i t s _ _ ⟨.int (g i),H,I.tok _,⟨_,rfl⟩,q⟩
theorem pJ:Kt X (unaryOp .USub) (rU λi=>.int (-i)):=VI λ_ _ _ _ _ q=>neg_int q
end
def DU:V->V->Bool
 | .bH,.bH=>true | .bH,.int _=>true | .int _,.bH=>true | .bH,.bl _=>true | .bl _,.bH=>true | .bH,.str _=>true | .str _,.bH=>true
 | .int _,.int _=>true | .bl _,.bl _=>true | .str _,.str _=>true | .jG _,.jG _=>true
 | .int _,.str _=>true | .str _,.int _=>true | .bl _,.str _=>true | .str _,.bl _=>true
 | _,_=>false
def VJ:R2:=λx y H Q=>DU x y=true/\Q (.bl (decide (x=y))) H
def VL:R2:=λx y H Q=>DU x y=true/\Q (.bl (!decide (x=y))) H
theorem kW{i j:Int}:decide (V.int i=V.int j)=(i==j):=by
 rw[Bool.eq_iff_iff];simp
theorem pK{i j:Bool}:decide (V.bl i=V.bl j)=(i==j):=by
 rw[Bool.eq_iff_iff];simp
theorem kX{i j:Str}:decide (V.str i=V.str j)=(i==j):=by
 rw[Bool.eq_iff_iff];simp
theorem kY{i j:Array UInt8}:decide (V.jG i=V.jG j)=(i.toList==j.toList):=by
 rw[Bool.eq_iff_iff];cases i;cases j;simp
section
variable {X:Cx}{a b c:Expr}{ta tb tc:TE}{pos:Pos}
theorem zZ{pins:List (Addr×Obj)}{σ:St}{H:Hp}{s:Shared}{Q:VK}{k k':Bool}(I:Inv X pins σ H s)(q:Q (.bl k) H)(e:k=k'):EP X pins σ Q (.bool k') s:=by
 subst e;exact⟨.bl k,H,I,rfl,q⟩
theorem yB:dB X (compareOp .Eq) VJ:=by
 intro pins s σ H x y v u Q I rx ry h;obtain⟨hs,q⟩:=h;cases x with
 | bH =>
   cases rx;cases y with
   | bH=>cases ry;exact PySem.EqNone.eq_none_none (zZ I q (by simp))
   | bl j=>cases ry;exact PySem.EqNone.eq_none_bool (zZ I q (by simp))
   | int j=>obtain⟨t',rfl⟩:=ry;exact PySem.EqNone.eq_none_int (zZ I q (by simp))
   | str j=>obtain⟨t',rfl⟩:=ry;exact PySem.EqNone.eq_none_str (zZ I q (by simp))
   | _=>exact q02 (show false=true from hs) q23
 | bl i =>
   cases rx;cases y with
   | bH=>cases ry;exact PySem.EqNone.eq_bool_none (zZ I q (by simp))
   | bl j=>cases ry;exact eq_bool (zZ I q pK)
   | str j=>obtain⟨t',rfl⟩:=ry;exact PySem.EqMixed.eq_bool_str (zZ I q (by simp))
   | _=>exact q02 (show false=true from hs) q23
 | int i =>
   obtain⟨t,rfl⟩:=rx;cases y with
   | bH=>cases ry;exact PySem.EqNone.eq_int_none (zZ I q (by simp))
   | int j=>obtain⟨t',rfl⟩:=ry;exact eq_int (zZ I q kW)
   | str j=>obtain⟨t',rfl⟩:=ry;exact PySem.EqMixed.eq_int_str (zZ I q (by simp))
   | _=>exact q02 (show false=true from hs) q23
 | str i =>
   obtain⟨t,rfl⟩:=rx;cases y with
   | bH=>cases ry;exact PySem.EqNone.eq_str_none (zZ I q (by simp))
   | bl j=>cases ry;exact PySem.EqMixed.eq_str_bool (zZ I q (by simp))
   | int j=>obtain⟨t',rfl⟩:=ry;exact PySem.EqMixed.eq_str_int (zZ I q (by simp))
   | str j=>obtain⟨t',rfl⟩:=ry;exact eq_str (zZ I q kX)
   | _=>exact q02 (show false=true from hs) q23
 | jG i =>
   obtain⟨t,rfl⟩:=rx;cases y with
   | jG j=>obtain⟨t',rfl⟩:=ry;exact PySem.W.eq_bytes (zZ I q kY)
   | _=>exact q02 (show false=true from hs) q23
 | _=>cases y <;> exact q02 (show false=true from hs) q23
theorem gv:dB X (compareOp .NotEq) VL:=by
 intro pins s σ H x y v u Q I rx ry h;obtain⟨hs,q⟩:=h;cases x with
 | bH =>
   cases rx;cases y with
   | bH=>cases ry;exact PySem.EqNone.ne_none_none (zZ I q (by simp))
   | bl j=>cases ry;exact PySem.EqNone.ne_none_bool (zZ I q (by simp))
   | int j=>obtain⟨t',rfl⟩:=ry;exact PySem.EqNone.ne_none_int (zZ I q (by simp))
   | str j=>obtain⟨t',rfl⟩:=ry;exact PySem.EqNone.ne_none_str (zZ I q (by simp))
   | _=>exact q02 (show false=true from hs) q23
 | bl i =>
   cases rx;cases y with
   | bH=>cases ry;exact PySem.EqNone.ne_bool_none (zZ I q (by simp))
   | bl j=>cases ry;exact ne_bool (zZ I q (congrArg not pK))
   | str j=>obtain⟨t',rfl⟩:=ry;exact PySem.EqMixed.ne_bool_str (zZ I q (by simp))
   | _=>exact q02 (show false=true from hs) q23
 | int i =>
   obtain⟨t,rfl⟩:=rx;cases y with
   | bH=>cases ry;exact PySem.EqNone.ne_int_none (zZ I q (by simp))
   | int j=>obtain⟨t',rfl⟩:=ry;exact ne_int (zZ I q (congrArg not kW))
   | str j=>obtain⟨t',rfl⟩:=ry;exact PySem.EqMixed.ne_int_str (zZ I q (by simp))
   | _=>exact q02 (show false=true from hs) q23
 | str i =>
   obtain⟨t,rfl⟩:=rx;cases y with
   | bH=>cases ry;exact PySem.EqNone.ne_str_none (zZ I q (by simp))
   | bl j=>cases ry;exact PySem.EqMixed.ne_str_bool (zZ I q (by simp))
   | int j=>obtain⟨t',rfl⟩:=ry;exact PySem.EqMixed.ne_str_int (zZ I q (by simp))
   | str j=>obtain⟨t',rfl⟩:=ry;exact ne_str (zZ I q (congrArg not kX))
   | _=>exact q02 (show false=true from hs) q23
 | jG i =>
   obtain⟨t,rfl⟩:=rx;cases y with
   | jG j=>obtain⟨t',rfl⟩:=ry;exact PySem.W.ne_bytes (zZ I q (congrArg not kY))
   | _=>exact q02 (show false=true from hs) q23
 | _=>cases y <;> exact q02 (show false=true from hs) q23
theorem kZ:dB X (compareOp .Lt) (xt λi j=>.bl (decide (i<j))):=uP λ_ _ _ _ _ _ _ q=>lt_int q
theorem ua:dB X (compareOp .LtE) (xt λi j=>.bl (decide (i<=j))):=uP λ_ _ _ _ _ _ _ q=>le_int q
theorem uR:dB X (compareOp .Gt) (xt λi j=>.bl (decide (j<i))):=uP λ_ _ _ _ _ _ _ q=>gt_int q
theorem DV:dB X (compareOp .GtE) (xt λi j=>.bl (decide (j<=i))):=uP λ_ _ _ _ _ _ _ q=>ge_int q
theorem pL:dB X (compareOp .Is) (λx y H Q=>y=.bH/\Q (.bl (decide (x=.bH))) H):=by
 intro pins s σ H x y v u Q I rx ry h;obtain⟨rfl,q⟩:=h;cases ry;refine is_none_gen (zZ I q ?_);cases x <;> first
  | (cases rx;rfl)
  | (obtain⟨t,rfl⟩:=rx;rfl)
theorem uS:dB X (compareOp .IsNot) (λx y H Q=>y=.bH/\Q (.bl (!decide (x=.bH))) H):=by
 intro pins s σ H x y v u Q I rx ry h;obtain⟨rfl,q⟩:=h;cases ry;refine isnot_none_gen (zZ I q ?_);cases x <;> first
  | (cases rx;rfl)
  | (obtain⟨t,rfl⟩:=rx;rfl)
variable {op:CmpOp}
theorem zl(b:Expr)(h:op ≠ .In:=by decide)(h2:op ≠ .NotIn:=by decide):behindInMarks op b=false:=by
 have e1:(op==CmpOp.In)=false:=by cases op <;> first | rfl | exact q02 rfl h
 have e2:(op==CmpOp.NotIn)=false:=by cases op <;> first | rfl | exact q02 rfl h2
 cases b <;> simp[behindInMarks,e1,e2]
theorem oK{r:R2}(ho:dB X (compareOp op) r)(ha:PE X a ta)(hb:PE X b tb)(hm:behindInMarks op b=false):PE X (.Compare a [op] [b] pos) (GS r ta tb):=by
 intro pins s σ H Q I h;exact wpAny_Compare1 (AX ha hb I h λv u s2 x y H2 I2 rx ry q=>ho pins s2 σ H2 x y v u Q I2 rx ry q) hm
inductive pM (x:V)(H':Hp)(Q:Bool->Hp->Prop):Prop|mk(k:_):x=.bl k->Q k H'->pM x H' Q
def DW(t:TE):TT:=λσ H Q=>t σ H λx H'=>pM x H' Q
theorem zk{r:R2}(ho:dB X (compareOp op) r)(ha:PE X a ta)(hb:PE X b tb)(hm:behindInMarks op b=false):PT X (.Compare a [op] [b] pos) (DW (GS r ta tb)):=by
 intro pins s σ H Q I h;refine wpAny_isTrue_Compare1 (aO (ha pins s σ H _ I h) λv s1 ⟨x,H1,I1,r1,q1⟩=>aO (hb pins s1 σ H1 _ I1 q1) λu s2 ⟨y,H2,I2,r2,q2⟩ =>
  aO (ho pins s2 σ H2 x y v u _ I2 r1 r2 q2) λc s3 ⟨z,H3,I3,r3,k,e,q3⟩=>?_) hm
 subst e;cases r3;exact wpAny_truthy_bool ⟨H3,I3,q3⟩
def A0(r r':R2)(ta tb tc:TE):TE:=λσ H Q=>ta σ H λx H1=>tb σ H1 λy H2=>r x y H2 λz H3=>∃k,z=.bl k /\
 (if k=true then tc σ H3 λw' H4=>r' y w' H4 Q else Q (.bl false) H3)
theorem GU{Kx:CmpOp}{r r':R2}(ho:dB X (compareOp op) r)(gW:dB X (compareOp Kx) r')(ha:PE X a ta)(hb:PE X b tb)(hc:PE X c tc)
 (hm:lastMarks [op,Kx] [b,c]=false:=by with_unfolding_all rfl):PE X (.Compare a [op,Kx] [b,c] pos) (A0 r r' ta tb tc):=by
 intro pins s σ H Q I h;refine Compare_chain (aO (ha pins s σ H _ I h) λv s1 ⟨x,H1,I1,r1,q1⟩=>chain_link (aO (hb pins s1 σ H1 _ I1 q1) λu s2 ⟨y,H2,I2,r2,q2⟩ =>
  aO (ho pins s2 σ H2 x y v u _ I2 r1 r2 q2) λd s3 ⟨z,H3,I3,r3,k,e,q3⟩=>?_)) hm
 subst e;cases r3;refine wpAny_truthy_bool ?_;cases k with
 | false=>exact ite_ff ⟨.bl false,H3,I3,rfl,q3⟩
 | true=>exact ite_tt (chain_last (aO (hc pins s3 σ H3 _ I3 q3) λw' s4 ⟨z',H4,I4,r4,q4⟩=>gW pins s4 σ H4 y z' u w' Q I4 r2 r4 q4))
def DX(K:Frag)(x:V)(H:Hp)(k:Bool):Prop :=
 match x with
 | .bH=>k=false
 | .bl b=>k=b
 | .int i=>k=(i != 0)
 | .str y=>y.length<=sizeLine/\k=((y.length:Int) != 0)
 | .jG y=>y.size<=sizeLine/\k=((y.size:Int) != 0)
 | .ref p=>(∃xs,ai K H p xs/\k = !xs.isEmpty)\/(∃xs,bX K H p xs/\k = !xs.isEmpty)\/∃ax,H p=some (.dK ax)/\k = !ax.isEmpty
 | _=>False
theorem jS{κ:Type}{ax:List (κ×V)}{vs:List (κ×Value)}(r:KV ax vs):(!vs.isEmpty) = !ax.isEmpty:=by
 cases r <;> rfl
theorem Rm{xs:List V}{aw:List Value}(r:Vals xs aw):(!aw.toArray.isEmpty) = !xs.isEmpty:=by
 cases r <;> simp
theorem xw:(sizeLine:Nat)<2 ^ 63:=by rw[sizeLine_eq];decide
theorem A1:Ku X (λx H Q=>∃k,DX X.K x H k/\Q k H):=by
 intro pins s σ H x v Q I rx h;obtain⟨k,e,q⟩:=h;have hl:=xw;have hs:sizeLine=16777216:=sizeLine_eq;cases x with
 | bH =>
   cases rx;have e':k=false:=e;subst e';exact truthy_none ⟨H,I,q⟩
 | bl b =>
   cases rx;have e':k=b:=e;subst e';exact wpAny_truthy_bool ⟨H,I,q⟩
 | int i =>
   obtain⟨t,rfl⟩:=rx;have e':k=(i != 0):=e;subst e';exact PySem.P.truthy_int ⟨H,I,q⟩
 | str y =>
   obtain⟨t,rfl⟩:=rx;obtain⟨hy,e'⟩:y.length<=sizeLine/\k=((y.length:Int) != 0):=e;subst e';exact PySem.P.truthy_str (by omega) ⟨H,I.tok _,q⟩
 | jG y =>
   obtain⟨t,rfl⟩:=rx;obtain⟨hy,e'⟩:y.size<=sizeLine/\k=((y.size:Int) != 0):=e;subst e';exact PySem.W.truthy_bytes (by omega) ⟨H,I.tok _,q⟩
 | ref p =>
   cases rx;have e':(∃xs,ai X.K H p xs/\k = !xs.isEmpty)\/(∃xs,bX X.K H p xs/\k = !xs.isEmpty)\/∃ax,H p=some (.dK ax)/\k = !ax.isEmpty:=e;rcases e' with⟨xs,hx,e'⟩|⟨xs,hx,e'⟩|⟨ax,hx,e'⟩
   .subst e';obtain⟨aw,r,pl,hz⟩:=I.list hx;have hlen:=r.length;exact wpAny_truthy_list pl.isList (by simp only[q10];omega) ⟨H,I.tok _,by rw[Rm r];exact q⟩
   .subst e';obtain⟨aw,r,pl,hz⟩:=I.tuple hx;have hlen:=r.length;exact truthy_tuple pl (by simp only[q10];omega) ⟨H,I.tok _,by rw[Rm r];exact q⟩
   .subst e';obtain⟨hz,hS,vs,r,m⟩:ax.length<=sizeLine/\(p==sysModules)=false/\∃vs,KV ax vs/\s.heap.DictOf (wN X.prog X.w) p vs:=I.aJ p _ hx;have hlen:ax.length=vs.length:=Paired.length r;exact wpAny_truthy_dict hS m (by omega) ⟨H,I.tok _,by rw[jS r];exact q⟩
 | _=>exact(show False from e).elim
theorem pN(ha:PE X a ta)(he:∀whole,isTrue a X.env whole=(do let v <-whole;standAt a.pos;holding [v] (truthy v))):
 PT X a (λσ H Q=>ta σ H λx H'=>∃k,DX X.K x H' k/\Q k H'):=by
 intro pins s σ H Q I h;exact isTrue_plain (aO (ha pins s σ H _ I h) λv s1 ⟨x,H1,I1,r1,q1⟩=>A1 pins s1 σ H1 x v Q I1 r1 q1) (he _)
inductive fO (x y:V)(H:Hp)(Q:VK):Prop|mk(i:_)(j:_):x=.str i->y=.str j->i.length+j.length<=sizeLine->Q (.str (i++j)) H->fO x y H Q
theorem zx:dB X (binaryOp .Add) fO:=by
 intro pins s σ H x y v u Q I rx ry h;obtain⟨i,j,rfl,rfl,hz,q⟩:=h;obtain⟨t,rfl⟩:=rx;obtain⟨t',rfl⟩:=ry;exact add_str (λt' tk=>⟨.str (i++j),H,I.tok _,⟨_,rfl⟩,q⟩) hz
variable {us:List Value}
theorem DY{x:V}(r:Vals [x] us):∃u,us=[u]/\RelV x u:=by
 cases r with
 | cons r1 r2=>cases r2;exact⟨_,rfl,r1⟩
theorem vals2{x y:V}(r:Vals [x,y] us):∃u w',us=[u,w']/\RelV x u/\RelV y w':=by
 cases r with
 | cons r1 r2 =>
   cases r2 with
   | cons r3 r4=>cases r4;exact⟨_,_,rfl,r1,r3⟩
inductive gw (xs:List V)(H:Hp)(Q:VK):Prop|mk(i:_)(j:_):xs=[.int i,.int j]->(Q (.int (if j<i then j else i)) H)->gw xs H Q
theorem mJ(hc:X.calm=true):gZ X (.builtin "min") gw:=by
 intro pins s σ H xs us Q I r h;obtain⟨i,j,rfl,q⟩:=h;obtain⟨u,w',rfl,⟨t,rfl⟩,⟨t',rfl⟩⟩:=vals2 r;refine min_two_ints (I.ok.hd hc) λh' tk k=>⟨_,H,I.kept k,?_,q⟩;by_cases hj:j<i
 .rw[q01 hj,q01 hj];exact⟨_,rfl⟩
 .rw[q00 hj,q00 hj];exact⟨_,rfl⟩
inductive eI (xs:List V)(H:Hp)(Q:VK):Prop|mk(i:_):xs=[.int i]->i.natAbs.log2<1920->Q (.str (toString i)) H->eI xs H Q
theorem Ky:gZ X (.type "str") eI:=by
 intro pins s σ H xs us Q I r h;obtain⟨i,rfl,hz,q⟩:=h;obtain⟨u,rfl,t,rfl⟩:=DY r;exact PySem.P.str_of_int hz ⟨.str _,H,I.tok _,⟨_,rfl⟩,q⟩
def DZ(K:Frag)(x:V)(H:Hp)(n:Nat):Prop :=
 match x with
 | .str y=>y.length<=sizeLine/\n=y.length
 | .jG y=>y.size<=sizeLine/\n=y.size
 | .ref p=>(∃xs,ai K H p xs/\n=xs.length)\/∃xs,bX K H p xs/\n=xs.length
 | _=>False
theorem pO:gZ X (.builtin "len") (λxs H Q=>∃x n,xs=[x]/\DZ X.K x H n/\Q (.int n) H):=by
 intro pins s σ H xs us Q I r h;obtain⟨x,n,rfl,e,q⟩:=h;obtain⟨u,rfl,rx⟩:=DY r;have hl:=xw;have hs:sizeLine=16777216:=sizeLine_eq;cases x with
 | str y =>
   obtain⟨t,rfl⟩:=rx;obtain⟨hy,e'⟩:y.length<=sizeLine/\n=y.length:=e;subst e';exact len_str (by omega) ⟨.int _,H,I.tok _,⟨_,rfl⟩,q⟩
 | jG y =>
   obtain⟨t,rfl⟩:=rx;obtain⟨hy,e'⟩:y.size<=sizeLine/\n=y.size:=e;subst e';exact PySem.W.len_bytes (by omega) ⟨.int _,H,I.tok _,⟨_,rfl⟩,q⟩
 | ref p =>
   cases rx;have e':(∃xs,ai X.K H p xs/\n=xs.length)\/∃xs,bX X.K H p xs/\n=xs.length:=e;rcases e' with⟨xs,hx,e'⟩|⟨xs,hx,e'⟩
   .subst e';obtain⟨aw,r',pl,hz⟩:=I.list hx;have hlen:=r'.length;exact Calls.call_len_list pl.isList (by simp only[q10];omega) ⟨.int xs.length,H,I.tok _,⟨_,by simp only[q10];rw[hlen]⟩,q⟩
   .subst e';obtain⟨aw,r',pl,hz⟩:=I.tuple hx;have hlen:=r'.length;exact len_tuple pl (by simp only[q10];omega) ⟨.int xs.length,H,I.tok _,⟨_,by simp only[q10];rw[hlen]⟩,q⟩
 | _=>exact(show False from e).elim
end
structure jT (h:Heap) (x dx C:Addr) (mA:Str->Option Value):Prop where
 obj:h.get? x=some (instObj C dx)
 ns:h.Ns1 dx mA
 ne:dx≠x
variable {mA:Str->Option Value}
theorem mK{dx:Addr}(n:h.Ns1 dx mA):∃od,h.get? dx=some od/\∀name,lookIn name od=some (mA name):=by
 obtain⟨o,es,ep,ho,hd,hk,_,hm⟩:=n;refine⟨o,ho,λname=>?_⟩;have e:=hm name;unfold nsFind findBy at e;rw[<-Array.find?_toList]at e;unfold lookIn;rw[hd];dsimp only;split
 .rename_i y q;rw[q]at e;exact congrArg some e
 .rename_i q;rw[q]at e;have a:es.toList.any (·.refKey)=false:=by
   rw[List.any_eq_false];intro y hy;obtain⟨z,t,mL⟩:=hk y (Array.mem_toList_iff.mp hy);simp[DictEntry.refKey,mL]
  have a':¬es.toList.any (·.refKey)=true:=by rw[a];exact q23
  rw[q00 a'];exact congrArg some e
variable {C:Addr}
theorem jT.look{x dx:Addr}(I:jT h x dx C mA):∃od,InstAt h x (instObj C dx) C (some od)/\∀name,lookIn name od=some (mA name) :=
 let ⟨od,ho,hl⟩:=mK I.ns
 ⟨od,⟨I.obj,rfl,rfl,ho⟩,hl⟩
section
variable {prog:Program}{w:World}{A:Around}{E:Value->Shared->Prop}{s:Shared}{K:Frag}{x dx C f:Addr}{mA:Str->Option Value}{name:Str}{v:Value}
theorem get_map{expr:Bool}{Q:Value->Shared->Prop}(X:K.In s.heap)(I:jT s.heap x dx C mA)(hg:plainGet K C name=true)(hh:hasDictIn K C=true)
 (ha:findIn K (.ref C) name=some none) (hv:mA name=some v) (VM:handedIn v=true) (h:Q v { s with toks:=s.toks+1 }) :
 wpAny (model prog w) A (getAttr (.ref x) name expr) Q E s:=by
 obtain⟨od,J,hl⟩:=I.look;exact PySem.W.get_value X J (plainGet_of hg).1 (PySem.W.findObj_own hh ha rfl (by rw[hl,hv])) VM h
theorem pP{pl:Sem Bool}{Q:Value×List Value->Shared->Prop}(X:K.In s.heap)(I:jT s.heap x dx C mA)(hg:plainGet K C name=true)
 (hf:findIn K (.ref C) name=some (some (.ref f))) (ht:isFn K (.ref f)=true) (hv:mA name=none) (h:Q (.ref f,[.ref x]) s) :
 wpAny (model prog w) A (getMethod (.ref x) name pl) Q E s:=by
 obtain⟨od,J,hl⟩:=I.look;exact PySem.W.method_fn X J (plainGet_of hg).1 (plainGet_of hg).2 hf (beq_iff_eq.mp ht) (by show(lookIn name od).map (·.isSome)=some false;rw[hl,hv];rfl) h
theorem uT{ns:List Str}{Q:Unit->Shared->Prop}(X:K.In s.heap)(I:jT s.heap x dx C mA)
 (hs:findIn K (.ref C) "__setattr__"=some (some (.builtin "object.__setattr__"))) (hp:plainOver K C=true) (ht:takerIn K C name=some none) (hh:hasDictIn K C=true)
 (hw:PySem.Within mA ns) (hsz:ns.length<=sizeLine)
 (h:∀h',jT h' x dx C (λy=>if y=name then some v else mA y)->SameBut dx s.heap h'->Q () { s with heap:=h',toks:=s.toks+2 }) :
 wpAny (model prog w) A (setAttr (.ref x) name v) Q E s:=by
 obtain⟨od,J,hl⟩:=I.look;refine PySem.W.set_plain X J hs (PySem.W.osa_open (s:={ s with toks:=s.toks+1 }) (r:=none) X J hp ht λb=>?_);obtain⟨cd,hc,Cg⟩:=PySem.W.any_some hh;have hx:s.heap.get? x=some ⟨.ref C,some dx,.plain,#[]⟩:=I.obj;refine q03 (q04 (q03 (q03 (wpAny_loadPart hx (q03 (PySem.W.Looks.here (s:={ s with toks:=s.toks+1 }) (PySem.W.looks_clsIn X hc) ?_))))));rw[Cg];refine q04 (a:=some dx) (q03 (q04 (q03 ?_)));refine wpAny_nsSet1 (s:={ s with toks:=s.toks+1 }) I.ns λh' GV mG=>?_;obtain⟨oD,esD,epD,VN,VO,VP⟩:=GV.count (PySem.Within.cons name v hw);refine q03 (wpAny_lookBehind VN (by rw[VO];exact pastItsLine_dict (q38 VP (by rw[q12];omega))) ?_);exact q04 (h _ ⟨(mG.2 _ (Ne.symm I.ne)).trans I.obj,GV,I.ne⟩ mG)
theorem pQ{R:Result->Shared->Prop}{vs:List Value}{kw:List (Str×Value)}(X:K.In s.heap)(hm:makesIn K C=true)
 (hi:findIn K (.ref C) "__init__"=some (some (.ref f))) (hf:typeIn K (.ref f)=some (.type "function"))
 (h:codeAny (model prog w) (A.under (.builtin "type.__call__" ⟨.ref C::vs,kw⟩)) (.call (.ref f) ⟨.ref (s.heap.objs.size+1)::vs,kw⟩) (PySem.W.InitBack (s.heap.objs.size+1) R)
   { s with heap:=(s.heap.push emptyDict).push (instObj C s.heap.objs.size) }) :
 codeAny (model prog w) A (.call (.ref C) ⟨vs,kw⟩) R s:=by
 obtain⟨hh,g,d,t,os⟩:=s;exact PySem.W.make_core (PySem.W.makes_of X hm) (PySem.W.looks_findIn X hi) (λself=>PySem.W.bind_fn X self hf) (.inl rfl) h
end
def eV(f:Str)(v:V):List (Str×V)->List (Str×V)
 | []=>[(f,v)]
 | (g,x)::r=>if g=f then(g,v)::r else(g,x)::eV f v r
theorem Rn(f g:Str)(v:V):∀fs:List (Str×V),(eV f v fs).lookup g=if g=f then some v else fs.lookup g
 | []=>by
   show List.lookup g [(f,v)]=_;by_cases h:g=f
   .have hb:(g==f)=true:=beq_iff_eq.mpr h;simp only[List.lookup,hb,q01 h]
   .have hb:(g==f)=false:=beq_eq_false_iff_ne.mpr h;simp only[List.lookup,hb,q00 h]
 | (k,x)::r=>by
   have ih:=Rn f g v r;rw[show eV f v ((k,x)::r)=(if k=f then(k,v)::r else(k,x)::eV f v r)from rfl];by_cases hk:k=f
   .rw[q01 hk];by_cases h:g=k
    .have hb:(g==k)=true:=beq_iff_eq.mpr h;simp only[List.lookup,hb,q01 (h.trans hk)]
    .have hb:(g==k)=false:=beq_eq_false_iff_ne.mpr h;simp only[List.lookup,hb,q00 (λe:g=f=>h (e.trans hk.symm))]
   .rw[q00 hk];by_cases h:g=k
    .have hb:(g==k)=true:=beq_iff_eq.mpr h;simp only[List.lookup,hb,q00 (λe:g=f=>hk (h.symm.trans e))]
    .have hb:(g==k)=false:=beq_eq_false_iff_ne.mpr h;simp only[List.lookup,hb];exact ih
theorem Kz(f:Str)(v:V):∀fs:List (Str×V),f∈(eV f v fs).map (·.1)/\∀g,g∈fs.map (·.1)->g∈(eV f v fs).map (·.1)
 | []=>⟨by simp[eV],λg h=>by simp at h⟩
 | (k,x)::r=>by
   obtain⟨i1,i2⟩:=Kz f v r;rw[show eV f v ((k,x)::r)=(if k=f then(k,v)::r else(k,x)::eV f v r)from rfl];by_cases hk:k=f
   .rw[q01 hk];subst hk;exact⟨by simp,λg h=>by simpa using h⟩
   .rw[q00 hk];refine⟨?_,λg h=>?_⟩
    .rw[map_cons];exact q13 _ i1
    .rw[map_cons]at h ⊢;rcases q27.mp h with e | e
     .exact q27.mpr (.inl e)
     .exact q13 _ (i2 g e)
theorem Ro(f:Str)(v:V):∀fs:List (Str×V),(eV f v fs).length<=fs.length+1
 | []=>by simp[eV]
 | (k,x)::r=>by
   have ih:=Ro f v r;rw[show eV f v ((k,x)::r)=(if k=f then(k,v)::r else(k,x)::eV f v r)from rfl];by_cases hk:k=f
   .rw[q01 hk,q12,q12];omega
   .rw[q00 hk,q12,q12];omega
theorem eB.some_of{v:V}{o:Option Value}(r:eB (some v) o):∃u,o=some u/\RelV v u:=by
 cases o with
 | none=>exact(show False from r).elim
 | some u=>exact⟨u,rfl,r⟩
theorem eB.none_of{o:Option Value}(r:eB none o):o=none:=by
 cases o with
 | none=>rfl
 | some u=>exact(show False from r).elim
theorem mM{v:V}(r:RelV v u):handedIn u=true:=by
 cases v with
 | bH=>cases (show u=Value.none from r);rfl
 | bl b=>cases (show u=Value.bool b from r);rfl
 | int i=>obtain⟨t,e⟩:=(show ∃t,u=Value.int i t from r);cases e;rfl
 | str x=>obtain⟨t,e⟩:=(show ∃t,u=Value.str x t from r);cases e;rfl
 | jG b=>obtain⟨t,e⟩:=(show ∃t,u=Value.bytes b t from r);cases e;rfl
 | jH b=>obtain⟨t,e⟩:=(show ∃t,u=Value.float b t from r);cases e;rfl
 | ref a=>cases (show u=Value.ref a from r);rfl
 | ty n=>cases (show u=Value.type n from r);rfl
section
variable {P:Program}{w:World}{H H':Hp}{h h':Heap}{a C dx:Addr}{fs VD:List (Str×V)}
theorem KA(aJ:dz P w H h)(e:H a=some (.ins C dx fs)):∃mA,jT h a dx C mA/\(∀f,eB (fs.lookup f) (mA f))/\PySem.Within mA (fs.map (·.1))/\fs.length<=1000/\H dx=some (.own a):=by
 obtain⟨d,z,ne,ob,mA,n,r,q⟩:=(show bu P w H h a (.ins C dx fs)from aJ a _ e);exact⟨mA,⟨ob,n,ne⟩,r,q,z,d⟩
end
structure oM (K:Frag) (C:Addr):Prop where
 pg:plainGet K C Str.empty=true
 hd:hasDictIn K C=true
 po:plainOver K C=true
 sa:findIn K (.ref C) "__setattr__"=some (some (.builtin "object.__setattr__"))
theorem oM.get(c:oM K C)(f:Str):plainGet K C f=true:=c.pg
def cb(K:Frag)(C:Addr)(f:Str):Prop:=findIn K (.ref C) f=some none
theorem cb.D0{f:Str}(n:cb K C f):takerIn K C f=some none:=by
 unfold takerIn;rw[show findIn K (.ref C) f=some none from n];rfl
structure Meth (K:Frag) (C:Addr) (m:Str) (f:Addr):Prop where
 at_:findIn K (.ref C) m=some (some (.ref f))
 fn:isFn K (.ref f)=true
 kp:keepIn K (.ref f)=true
section
variable {X:Cx}{pins:List (Addr×Obj)}{σ:St}{H:Hp}{s:Shared}{a C dx:Addr}{fs:List (Str×V)}{f:Str}{v:V}{A:Around}{E:Value->Shared->Prop}
variable {Q:Value->Shared->Prop}
theorem jU{b:Bool}(I:Inv X pins σ H s)(e:H a=some (.ins C dx fs))(c:oM X.K C)(n:cb X.K C f)(l:fs.lookup f=some v)
 (h:∀u s',Inv X pins σ H s'->RelV v u->Q u s'):wpAny (model X.prog X.w) A (getAttr (.ref a) f b) Q E s:=by
 obtain⟨mA,O,r,_,_,_⟩:=KA I.aJ e;obtain⟨u,hu,ru⟩:=eB.some_of (v:=v) (o:=mA f) (by rw[<-l];exact r f);exact get_map I.iY O (c.get f) c.hd n hu (mM ru) (h u _ (I.tok _) ru)
theorem KC{m:Str}{g:Addr}{pl:Sem Bool}{Q:Value×List Value->Shared->Prop}(I:Inv X pins σ H s)(e:H a=some (.ins C dx fs))(c:oM X.K C)(k:Meth X.K C m g)(l:fs.lookup m=none)
 (h:Q (.ref g,[.ref a]) s):wpAny (model X.prog X.w) A (getMethod (.ref a) m pl) Q E s:=by
 obtain⟨mA,O,r,_,_,_⟩:=KA I.aJ e;have hn:mA m=none:=eB.none_of (by rw[<-l];exact r m);exact pP I.iY O (c.get m) k.at_ k.fn hn h
theorem jV{y:V}{u:Value}{Q:Unit->Shared->Prop}(I:Inv X pins σ H s)(e:H a=some (.ins C dx fs))(c:oM X.K C)(n:cb X.K C f)(hl:fs.length<1000)(ry:RelV y u)
 (h:∀s',Inv X pins σ (upd H a (.ins C dx (eV f y fs))) s'->Q () s'):wpAny (model X.prog X.w) A (setAttr (.ref a) f u) Q E s:=by
 obtain⟨mA,O,r,wi,_,ho⟩:=KA I.aJ e;have hz:(fs.map (·.1)).length<=sizeLine:=by rw[q06,sizeLine_eq];omega
 refine uT I.iY O c.sa c.po n.D0 c.hd wi hz λh' O' sb=>h _ ?_;have hd:∃o,h'.get? dx=some o:=let ⟨o,_,_,e',_⟩:=O'.ns;⟨o,e'⟩;refine I.write (x:=a) (e:=dx) (by rw[e];exact True.intro) (.inr ho) (λb q hb z=>(sb.2 b hb).trans z) hd ?_;refine⟨by rw[zj O.ne];exact ho,?_,O.ne,O'.obj,_,O'.ns,λg=>?_,λg hg=>?_⟩
 .have:=Ro f y fs;omega
 .show eB ((eV f y fs).lookup g) (if g=f then some u else mA g);rw[Rn];by_cases q:g=f
  .rw[q01 q,q01 q];exact ry
  .rw[q00 q,q00 q];exact r g
 .by_cases q:g=f
  .rw[q];exact(Kz f y fs).1
  .refine(Kz f y fs).2 g (wi g λz=>hg ?_);show(if g=f then some u else mA g)=none;rw[q00 q];exact z
theorem Inv.made(I:Inv X pins σ H s):Inv X pins σ (upd (upd H s.heap.objs.size (.own (s.heap.objs.size+1))) (s.heap.objs.size+1) (.ins C s.heap.objs.size []))
 { s with heap:=(s.heap.push emptyDict).push (instObj C s.heap.objs.size) }:=by
 have e1:(s.heap.push emptyDict).get? s.heap.objs.size=some emptyDict:=get?_push_size s.heap rfl;have e2:((s.heap.push emptyDict).push (instObj C s.heap.objs.size)).get? (s.heap.objs.size+1)=some (instObj C s.heap.objs.size):=by
  have:=get?_push_size (s.heap.push emptyDict) (o:=instObj C s.heap.objs.size) rfl
  rwa [size_push]at this
 have e3:(s.heap.push emptyDict).Ns s.heap.objs.size (λ_=>none):=⟨emptyDict,#[],_,e1,rfl,(λe he=>q02 he (by simp)),λ_=>rfl⟩;have I1:=I.laid (a:=s.heap.objs.size) (o:=.own (s.heap.objs.size+1)) (h':=s.heap.push emptyDict) (t':=s.toks) (λb u q=>q05 _ q) (le_refl _) ⟨_,e1⟩;refine I1.laid (a:=s.heap.objs.size+1) (o:=.ins C s.heap.objs.size []) (t':=s.toks) (λb u q=>q05 _ q) (le_of_eq (size_push _ _)) ?_;have ne:s.heap.objs.size≠s.heap.objs.size+1:=ne_of_lt (lt_succ_self _);refine⟨by rw[zj ne,ze],zero_le _,ne,e2,λ_=>none,(Heap.Ns1.of_empty e3).at λo q=>q05 _ q,λ_=>True.intro,λy hy=>q02 rfl hy⟩
theorem uU{prog:Program}{w:World}{env:Env}{e:Expr}{f:Str}{pos:Pos}{s:Shared}(hb:attributeBase e f env (eval e env)=eval e env)
 (h:wpAny (model prog w) A (eval e env) (λo s₁=>wpAny (model prog w) A (getAttr o f true) Q E s₁) E s):wpAny (model prog w) A (eval (.Attribute e f pos) env) Q E s :=
 Attribute_any_ h (by rw[arm_eval_Attribute,hb])
end
inductive xx (K:Frag)(f:Str)(x:V)(H1:Hp)(Q:VK):Prop|mk(a:_)(C:_)(dx:_)(fs:_)(v:_):x=.ref a->H1 a=some (.ins C dx fs)->oM K C->cb K C f->fs.lookup f=some v->Q v H1->xx K f x H1 Q
def D1(K:Frag)(ta:TE)(f:Str):TE:=λσ H Q=>ta σ H λx H1=>xx K f x H1 Q
def KD(K:Frag)(ta tv:TE)(f:Str):TS:=λD σ H=>tv σ H λy H1=>ta σ H1 λx H2=>∃a C dx fs,x=.ref a/\H2 a=some (.ins C dx fs)/\oM K C/\cb K C f/\fs.length<1000 /\
 D.nx σ (upd H2 a (.ins C dx (eV f y fs)))
section
variable {X:Cx}{o e value:Expr}{f:Str}{pos pos' KG:Pos}{ta tv:TE}
theorem yX(he:PE X e ta)(hb:attributeBase e f X.env (eval e X.env)=eval e X.env):PE X (.Attribute e f pos) (D1 X.K ta f):=by
 intro pins s σ H Q I h;refine uU hb (aO (he pins s σ H _ I h) λu s1 ⟨x,H1,I1,rx,a,C,dx,fs,v,ex,ea,c,n,l,q⟩=>?_);subst ex;obtain rfl:u=Value.ref a:=rx;exact jU I1 ea c n l λu' s2 I2 ru=>⟨v,H1,I2,ru,q⟩
theorem uV(ha:PE X o ta)(hv:PE X value tv)(hs:swapsWith value (some (.Attribute o f pos')) pos.line X.env=pure false):PS X (.Assign [.Attribute o f pos'] value pos) (KD X.K ta tv f):=by
 intro pins s σ H D I h;refine plainObj_wpAny_Assign_Attribute (aO (hv pins s σ H _ I h) λu s1 ⟨y,H1,I1,ry,q⟩=>aO (ha pins s1 σ H1 _ I1 q) λov s2 ⟨x,H2,I2,rx,a,C,dx,fs,ex,ea,c,n,l,q2⟩=>?_) hs;subst ex;obtain rfl:ov=Value.ref a:=rx;exact jV I2 ea c n l ry λs3 I3=>⟨σ,_,I3,q2⟩
end
section
variable {X:Cx}{pins:List (Addr×Obj)}{σ:St}{H:Hp}{s:Shared}{A:Around}{E:Value->Shared->Prop}{Q:Value->Shared->Prop}{c:Value}{b:Bool}
end
structure bo (k:Nat) (A:Around):Prop where
 hd:A.handled=none
 dp:A.depth+3*k+5<recursionLimit
 un:A.units+16*k+200<cLine
variable {k:Nat}
theorem bo.mono{j:Nat}(r:bo k A)(h:j<=k):bo j A:=⟨r.hd,by have:=r.dp;omega,by have:=r.un;omega⟩
theorem hM{j:Nat}(r:bo k A)(h:j<=k:=by decide):bo j A:=r.mono h
theorem bo.deeper(r:bo (k+1) A)(env:Env):bo k (A.deeper env) :=
 ⟨r.hd,by have:=r.dp;show A.depth+1+3*k+5<_;omega,by have:=r.un;show A.units+3+16*k+200<_;omega⟩
theorem bo.in1(r:bo (k+1) A):bo k A.in1 :=
 ⟨r.hd,by have:=r.dp;show A.depth+3*k+5<_;omega,by have:=r.un;show A.units+1+16*k+200<_;omega⟩
variable {kw:List (Str×Value)}
theorem jW:(A.under (.builtin "type.__call__" ⟨.ref C::us,kw⟩)).depth=A.depth+1:=by
 first | rfl | simp[Around.under,Code.weight,Code.isCreation,Code.isGuard,Code.isCaller,Code.frames,Code.isFrame,guardIds]
theorem VQ:(A.under (.builtin "type.__call__" ⟨.ref C::us,kw⟩)).units=A.units+1:=by
 first | rfl | simp[Around.under,Code.cUnits,Code.frames,Code.isFrame]
theorem bo.make(r:bo (k+1) A)(C:Addr)(us:List Value)(kw:List (Str×Value)):bo k (A.under (.builtin "type.__call__" ⟨.ref C::us,kw⟩)) :=
 ⟨r.hd,by have:=r.dp;rw[jW];omega,by have:=r.un;rw[VQ];omega⟩
theorem bo.depth(r:bo k A):A.depth<recursionLimit:=by have:=r.dp;omega
theorem bo.units(r:bo k A):A.units+64<cLine:=by have:=r.un;omega
theorem bo.bp(r:bo k A):A.units<cLine:=by have:=r.un;omega
def mO:TA:=λ_ H Q=>Q [] H
def k7(ta:TE)(tr:TA):TA:=λσ H Q=>ta σ H λx H1=>tr σ H1 λxs H2=>Q (x::xs) H2
section
variable {X:Cx}{e:Expr}{es:List Expr}{te:TE}{t:TA}{pos:Pos}
theorem zb:PA X [] mO:=λ_ _ _ _ H Q I h=>Calls.spliced_nil ⟨[],H,I,.nil,h⟩
theorem za(ha:PE X e te)(hr:PA X es t)(hs:starEach (e::es) X.env=(false,eval e X.env)::starEach es X.env:=by rfl):PA X (e::es) (k7 te t):=by
 intro pos pins s σ H Q I h;rw[hs];show wpAny _ _ (spliced ((false,eval e X.env)::backTo pos (starEach es X.env))) _ _ s;refine Calls.spliced_cons (aO (ha pins s σ H _ I h) λu s1 ⟨x,H1,I1,r1,q1⟩=>?_);exact aO (hr pos pins s1 σ H1 _ I1 q1) λus s2 ⟨xs,H2,I2,r2,q2⟩=>⟨x::xs,H2,I2,.cons r1 r2,q2⟩
def KH(t:TA):TE:=λσ H Q=>t σ H λxs H1=>xs.length<=sizeLine/\∀p,H1 p=none->Q (.ref p) (upd H1 p (.tup xs))
def KI(t:TA):TE:=λσ H Q=>t σ H λxs H1=>xs.length<=sizeLine/\∀p,H1 p=none->Q (.ref p) (upd H1 p (.lst xs))
theorem mP{x1}(h:PA X es t):PE X (.Tuple es x1 pos) (KH t):=by
 intro pins s σ H Q I hq;refine wpAny_Tuple_spliced (aO (h pos pins s σ H _ I hq) λus s1 ⟨xs,H1,I1,r,z,q⟩=>⟨by rw[<-r.length];exact z,?_⟩);have hf:H1 s1.heap.objs.size=none:=I1.aJ.fresh (le_refl _);refine⟨.ref s1.heap.objs.size,upd H1 s1.heap.objs.size (.tup xs),I1.laid (t':=s1.toks) (λb u e=>q05 _ e) (le_refl _) ?_,rfl,q _ hf⟩;exact⟨z,us,r,⟨_,get?_push_size _ rfl,rfl,_,rfl⟩⟩
theorem zF(h:PA X es t):PE X (.List es pos) (KI t):=by
 intro pins s σ H Q I hq;refine wpAny_List_spliced (aO (h pos pins s σ H _ I hq) λus s1 ⟨xs,H1,I1,r,z,q⟩=>⟨by rw[<-r.length];exact z,?_⟩);have hf:H1 s1.heap.objs.size=none:=I1.aJ.fresh (le_refl _);refine⟨.ref s1.heap.objs.size,upd H1 s1.heap.objs.size (.lst xs),I1.laid (t':=s1.toks) (λb u e=>q05 _ e) (le_refl _) ?_,rfl,q _ hf⟩;exact⟨z,us,0,r,get?_push_size _ rfl⟩
end
abbrev Sp:=List V->Hp->VK->XK->Prop
abbrev oN:=List Env->Hp->Shared->XK->Value->Shared->Prop
structure g9 (P:Program) (w:World) (K:Frag) (mg:Str->Option Value) (base:Heap) (A:Around) (outer:List Env) (s:Shared) (H:Hp):Prop where
 frames:A.frames=some outer
 mod:Mod K mg base
 bs:∀b o,base.get? b=some o->s.heap.get? b=some o/\H b=none
 jf:base.objs.size<=s.heap.objs.size
 da:s.heap.FunFrames base outer
 mD:∀b∈dA outer,H b=none
 aJ:dz P w H s.heap
 bare:AllBare s.gens
def CE(outer:List Env)(P:Program)(w:World)(H:Hp)(s:Shared)(Q:VK)(u:Value)(s':Shared):Prop :=
 ∃v H',s'.os=s.os/\AllBare s'.gens/\Un (dA outer) [] H H' s.heap s'.heap/\dz P w H' s'.heap/\RelV v u/\Q v H'
def CR(CX:oN)(outer:List Env)(P:Program)(w:World)(H:Hp)(s:Shared)(Q:VK)(E:XK)(r:Result)(s':Shared):Prop :=
 match r with
 | .ok (.ret u)=>CE outer P w H s Q u s'
 | .ok _=>False
 | .error e=>CX outer H s E e s'
structure ar (P:Program) (w:World) (K:Frag) (mg:Str->Option Value) (base:Heap) (CX:oN) (k:Nat) (f:Addr) (fd:FuncData) (ps:List Str) (sp:Sp):Prop where
 len:∀vs H Q E,sp vs H Q E->vs.length=ps.length
 run:∀(A:Around)(outer:List Env)(s:Shared)(H:Hp)(args:Args)(us:List Value)(vs:List V)(Q:VK)(E:XK),bo k A->g9 P w K mg base A outer s H->BindsTo s fd args (ps.zip us)->Vals vs us->sp vs H Q E ->
  codeAny (model P w) A (.call (.ref f) args) (CR CX outer P w H s Q E) s
variable {mg:Str->Option Value}{base:Heap}{outer:List Env}
theorem g9.make(e:g9 P w K mg base A outer s H)(C:Addr)(us:List Value)(kw:List (Str×Value)):
 g9 P w K mg base (A.under (.builtin "type.__call__" ⟨.ref C::us,kw⟩)) outer s H:=⟨by first | exact e.frames | (simpa [Around.under,Code.envs,Code.isFrame,pushEnvs] using e.frames),e.mod,e.bs,e.jf,e.da,e.mD,e.aJ,e.bare⟩
theorem g9.in1(e:g9 P w K mg base A outer s H):
 g9 P w K mg base A.in1 outer s H:=⟨e.frames,e.mod,e.bs,e.jf,e.da,e.mD,e.aJ,e.bare⟩
section
variable {X:Cx}{pins:List (Addr×Obj)}{σ:St}{H:Hp}{s s':Shared}
theorem Inv.uW(I:Inv X pins σ H s):g9 X.prog X.w X.K X.mg X.base X.A X.stack s H :=
 ⟨I.ok.frames,I.ok.mod,I.bs,q38 I.ok.jf I.sz,I.stack,I.eX,I.aJ,I.bare⟩
theorem Inv.after{Q:VK}{u:Value}(I:Inv X pins σ H s)(h:CE X.stack X.prog X.w H s Q u s'):EP X pins σ Q u s':=by
 obtain⟨v,H',os,bare,un,aJ,r,q⟩:=h;obtain⟨hh,g,d,t,D2⟩:=s';obtain rfl:D2=s.os:=os;exact⟨v,H',I.call (h':=hh) (g':=g) (d':=d) (t':=t) (ch:=[]) un aJ bare (λb z=>q02 z (by simp)),r,q⟩
end
def xy(sp:Sp)(jX:List V)(E:XK)(t:TA):TE:=λσ H Q=>t σ H λvs H1=>sp (vs++jX) H1 Q E
inductive pR (C:Addr)(m:Str)(sp:Sp)(jX:List V)(E:XK)(t:TA)(σ:St)(x:V)(H1:Hp)(Q:VK):Prop|mk(a:_)(dx:_)(fs:_):x=.ref a->H1 a=some (.ins C dx fs)->fs.lookup m=none->(t σ H1 λvs H2=>sp (x::(vs++jX)) H2 Q E)->pR C m sp jX E t σ x H1 Q
def xA(C:Addr)(m:Str)(sp:Sp)(jX:List V)(E:XK)(ta:TE)(t:TA):TE:=λσ H Q=>ta σ H λx H1=>pR C m sp jX E t σ x H1 Q
def Binds(K:Frag)(fd:FuncData)(ps:List Str)(ds:List Value):Prop :=
 ∀(s:Shared)(us:List Value),K.In s.heap->(us++ds).length=ps.length->BindsTo s fd ⟨us,[]⟩ (ps.zip (us++ds))
variable {ps:List Str}
theorem Binds.all{fd:FuncData}(h:∀us:List Value,us.length=ps.length->bindArgs fd ⟨us,[]⟩=pure (ps.zip us)):Binds K fd ps []:=λs us _ hl=>by
 rw[append_nil]at hl ⊢;exact .of_eq (h us hl)
def GW(CX:oN)(X:Cx)(E:XK):Prop:=∀(pins:List (Addr×Obj)) (σ:St) (H:Hp) (s:Shared) (e:Value) (s':Shared),Inv X pins σ H s->CX X.stack H s E e s'->X.xe e s'
section
variable {X:Cx}{CX:oN}{k:Nat}{f C:Addr}{fd:FuncData}{ps:List Str}{sp:Sp}{jX:List V}{ds:List Value}{E:XK}{x m:Str}{p pos apos:Pos}{e o:Expr}{es:List Expr}{ta:TE}{t:TA}
theorem pS{pins:List (Addr×Obj)}{σ:St}{H:Hp}{s:Shared}{Q:VK}{us:List Value}{vs:List V}(F:ar X.prog X.w X.K X.mg X.base CX k f fd ps sp)(hr:bo k X.A)(hb:Binds X.K fd ps ds)(hd:Vals jX ds)(hx:GW CX X E)
 (I:Inv X pins σ H s) (r:Vals vs us) (h:sp (vs++jX) H Q E):wpAny (model X.prog X.w) X.A (call (.ref f) us) (EP X pins σ Q) X.xe s:=by
 have r2:Vals (vs++jX) (us++ds):=r.append hd;have hl:(us++ds).length=ps.length:=by rw[<-r2.length];exact F.len _ _ _ _ h
 refine wpAny_call (codeAny_mono (F.run X.A X.stack s H ⟨us,[]⟩ (us++ds) (vs++jX) Q E hr I.uW (hb s us I.iY hl) r2 h) λr s' hq=>?_);cases r with
 | error e=>exact hx pins σ H s e s' I hq
 | ok fl =>
   cases fl with
   | ret u=>exact I.after hq
   | next=>exact False.elim hq
   | brk=>exact False.elim hq
   | cont=>exact False.elim hq
theorem uX(F:ar X.prog X.w X.K X.mg X.base CX k f fd ps sp)(hr:bo k X.A)(hg:Gl X x)(hm:X.mg x=some (.ref f))(hk:keepIn X.K (.ref f)=true)(hb:Binds X.K fd ps ds)(hd:Vals jX ds)(hx:GW CX X E)
 (ha:PA X (e::es) t) (ji:(x==("__debug__":Str))=false:=by decide) (he:starEach (e::es) X.env=(false,eval e X.env)::starEach es X.env:=by rfl) (hpl:(backTo pos (starEach es X.env)).any (·.1)=false:=by rfl) :
 PE X (.Call (.Name x p) (e::es) [] pos) (xy sp jX E t):=by
 intro pins s σ H Q I h;refine wpAny_Call_Name_kw (AN I hg hm ?_ ji);refine callWith_K (h₀:=X.base) I.ok.mod.xj hk (aO (ha pos pins s σ H _ I h) λus s1 ⟨vs,H1,I1,r,q⟩=>⟨I1.iY,?_⟩) he hpl;exact pS F hr hb hd hx I1 r q
theorem pT{pl:Sem Bool}(he:PE X o ta)(c:oM X.K C)(hm:Meth X.K C m f)(F:ar X.prog X.w X.K X.mg X.base CX k f fd ps sp)(hr:bo k X.A)(hb:Binds X.K fd ps ds)(hd:Vals jX ds)(hx:GW CX X E)
 (ht:eval (.Call (.Attribute o m apos) [] [] pos) X.env=(do
   let ov <-eval o X.env
   standAt apos.atName
   let (f,first) <-holding [ov] (getMethod ov m pl)
   callWith pos f first (backTo pos (starEach [] X.env)) (backToKw pos (keywordEach [] X.env))):=by rfl) :
 PE X (.Call (.Attribute o m apos) [] [] pos) (xA C m sp jX E ta mO):=by
 intro pins s σ H Q I h;refine methodCall_KW (pl:=pl) (aO (he pins s σ H _ I h) λu s1 ⟨x,H1,I1,rx,a,dx,fs,ex,ea,l,q⟩=>?_) ht;subst ex;obtain rfl:u=Value.ref a:=rx;refine KC I1 ea c hm l ?_;exact callWith_K0 (first:=[.ref a]) I1.iY hm.kp (pS (us:=[.ref a]) (vs:=[.ref a]) F hr hb hd hx I1 (.cons rfl .nil) q)
structure Mk (K:Frag) (C f:Addr):Prop where
 makes:makesIn K C=true
 init:findIn K (.ref C) "__init__"=some (some (.ref f))
 fn:isFn K (.ref f)=true
 kp:keepIn K (.ref C)=true
end
section
variable {X:Cx}{CX:oN}{k:Nat}{f C:Addr}{fd:FuncData}{ps ks:List Str}{sp:Sp}{E:XK}{x m:Str}{p pos apos VR:Pos}{e o:Expr}{es:List Expr}{kws:List Keyword}{te ta:TE}{t tk:TA}{nm:Option Str}
variable {g:List Value->List Value->List Value}{gV:List V->List V->List V}
end
structure ag (N P:List Str) (sc:Scope):Prop where
 kind:sc.kind=.function
 co:sc.isCoroutine=false
 gen:sc.isGenerator=false
 nd:N.Nodup
 pre:N.take P.length=P
 par:∀x∈P,sc.names.lookup x=some .local\/sc.names.lookup x=some .cell
 A2:∀y∈sc.names,y.2 ≠ .free
variable {kindOf:Str->Option NameKind}{x:Str}
theorem Rp:∀{binds:List (Str×Value)} {m:Str->Option Value},(∀v,(x,v)∉binds)->bindL kindOf binds m x=m x
 | [],_,_=>rfl
 | (n,v)::r,m,h=>by
   unfold bindL;rw[Rp λw hw=>h w (q13 _ hw)];split
   .have:x≠n:=by rintro rfl;exact h v q14
    simp[this]
   .rfl
theorem Rq:∀{binds:List (Str×Value)} {m:Str->Option Value},(∀v,(x,v)∉binds)->bindC kindOf binds m x=m x
 | [],_,_=>rfl
 | (n,v)::r,m,h=>by
   unfold bindC;rw[Rq λw hw=>h w (q13 _ hw)];split
   .rfl
   .have:x≠n:=by rintro rfl;exact h v q14
    simp[this]
theorem Rr{v:Value}:∀{P:List Str}{vs:List Value}{i:Nat}{m:Str->Option Value},P.Nodup->P[i]? = some x->vs[i]? = some v->kindOf x=some .local ->
 bindL kindOf (P.zip vs) m x=some v
 | [],_,_,_,_,h,_,_=>by simp at h
 | _::_,[],_,_,_,_,h,_=>by simp at h
 | p::P,w::vs,0,m,nd,h1,h2,hk=>by
   simp at h1 h2;subst h1;subst h2;show bindL kindOf ((p,w)::P.zip vs) m p=_;unfold bindL;rw[Rp λv hv=>(List.nodup_cons.mp nd).1 (of_mem_zip hv).1,q01 hk];simp
 | p::P,w::vs,i+1,m,nd,h1,h2,hk=>by
   show bindL kindOf ((p,w)::P.zip vs) m x=_;unfold bindL;exact Rr (i:=i) (List.nodup_cons.mp nd).2 (by simpa using h1) (by simpa using h2) hk
theorem Rt{v:Value}:∀{P:List Str}{vs:List Value}{i:Nat}{m:Str->Option Value},P.Nodup->P[i]? = some x->vs[i]? = some v->kindOf x≠some .local ->
 bindC kindOf (P.zip vs) m x=some v
 | [],_,_,_,_,h,_,_=>by simp at h
 | _::_,[],_,_,_,_,h,_=>by simp at h
 | p::P,w::vs,0,m,nd,h1,h2,hk=>by
   simp at h1 h2;subst h1;subst h2;show bindC kindOf ((p,w)::P.zip vs) m p=_;unfold bindC;rw[Rq λv hv=>(List.nodup_cons.mp nd).1 (of_mem_zip hv).1,q00 hk];simp
 | p::P,w::vs,i+1,m,nd,h1,h2,hk=>by
   show bindC kindOf ((p,w)::P.zip vs) m x=_;unfold bindC;exact Rt (i:=i) (List.nodup_cons.mp nd).2 (by simpa using h1) (by simpa using h2) hk
def jK(N:List Str)(vs:List V):St:=vs.map some++replicate (N.length-vs.length) none
def gx(CX:oN)(P:Program)(w:World)(K:Frag)(mg:Str->Option Value)(base:Heap)(N:List Str)(qual:Str)(scope:Scope)(f:Addr)(cd:Value)(A:Around)(outer:List Env)(s:Shared)(H:Hp)(E:XK):Cx where
 prog:=P
 w:=w
 K:=K
 mg:=mg
 base:=base
 A:=A.deeper (envOfC qual scope s.heap.objs.size f cd)
 N:=N
 s₀:=s
 H₀:=H
 env:=envOfC qual scope s.heap.objs.size f cd
 outer:=outer
 stack:=envOfC qual scope s.heap.objs.size f cd::outer
 ex:=[]
 calm:=true
 fn:=λ_=>true
 pn:=[]
 xe:=λe s'=>wpAny (model P w) (A.deeper (envOfC qual scope s.heap.objs.size f cd)) (leaving (envOfC qual scope s.heap.objs.size f cd) e) (λ_ hV=>CX outer H s E e hV) (λe' hV=>CX outer H s E e' hV) s'
theorem Ru{sc:Scope}{n:Nat}(h:sc.names.lookup x=some .cell):∃c,(cellsFrom n sc.names []).lookup x=some c:=by
 have q:=cellsFrom_some sc.names n [] (.inl h);exact Option.isSome_iff_exists.mp q
variable {scope:Scope}
theorem Rv{CX:oN}{N:List Str}{qual:Str}{f:Addr}{cd:Value}{s1:Shared}{E:XK}{vs:List V}
 (S:ag N ps scope) (hd:A.handled=none) (e0:g9 P w K mg base A outer s H) (hl:vs.length=ps.length) (r:Vals vs us)
 (x:InCallC s s.heap.objs.size (bindL (envOfC qual scope s.heap.objs.size f cd).kindOf (ps.zip us) λ_=>none) (cellsFrom (s.heap.objs.size+1) scope.names []) (bindC (envOfC qual scope s.heap.objs.size f cd).kindOf (ps.zip us) λ_=>none) s1) :
 Inv (gx CX P w K mg base N qual scope f cd A outer s H E) [] (jK N vs) H s1:=by
 have hpl:ps.length<=N.length:=by have:=congrArg List.length S.pre;rw[q11]at this;omega
 obtain⟨h1,tk,rfl,hk⟩:=x.done;have D4:∀b:Addr,b∉(gx CX P w K mg base N qual scope f cd A outer s H E).ex:=λb z=>q02 (show b∈([]:List Addr)from z) (by simp);refine⟨⟨e0.mod,S.kind,rfl,rfl,le_refl _,λy z c h1 h2=>?_,λy hy=>?_,λy c _ h=>?_,λ_=>hd,Around.frames_deeper e0.frames,.inr ⟨rfl,rfl⟩,λb z=>q02 z (D4 b),e0.bs,e0.jf,λb _ _=>D4 b,λb z=>q02 z (D4 b),e0.da,e0.mD⟩,
  rfl,e0.bare,Un.kept hk,⟨_,x.toInCall.ns,λi y v h1 h2 h3=>?_⟩,λy c h=>⟨_,x.cell y c h⟩,e0.aJ.fresh (le_refl _),λy c h=>?_,λp hp=>q02 (show p∈([]:List (Addr×Obj))from hp) (by simp),e0.aJ.kept hk,?_⟩
 .exact name_of_addr x.apart (PySem.mem_of_lookup h1) (PySem.mem_of_lookup h2)
 .have hy:scope.names.lookup y=some .cell\/scope.names.lookup y=some .free:=hy;rcases hy with hy | hy
  .exact Ru hy
  .exact q02 rfl (S.A2 _ (PySem.mem_of_lookup hy))
 .exact le_of_lt (x.above y c (PySem.mem_of_lookup h))
 .have hi:i<vs.length:=by
   unfold jK at h2;by_cases hi:i<vs.length
   .exact hi
   .rw[q29 (by simpa using hi)]at h2;rw[List.getElem?_replicate]at h2;split at h2 <;> cases h2
  have ha:vs[i]? = some v:=by
   unfold jK at h2;rw[List.getElem?_append_left (by simpa using hi),q26]at h2;cases e:vs[i]? with
   | none=>rw[e]at h2;cases h2
   | some a=>rw[e]at h2;cases h2;rfl
  obtain⟨u,hu,rv⟩:=r.get ha;have hp:ps[i]? = some y:=by
   rw[<-S.pre,List.getElem?_take_of_lt (by omega)];exact h1
  have Rw:ps.Nodup:=by rw[<-S.pre];exact S.nd.sublist (List.take_sublist _ _)
  refine⟨u,rv,?_⟩;rcases S.par y (mem_of_getElem? hp)with k | k
  .exact .inl ⟨k,Rr Rw hp hu k⟩
  .obtain⟨c,e⟩:=Ru (n:=s.heap.objs.size+1) k;refine .inr ⟨.inl k,c,e,?_⟩;have q:=x.cell y c e;rw[Rt Rw hp hu (by show scope.names.lookup y≠_;rw[k];decide)]at q;exact q
 .exact e0.aJ.fresh (le_of_lt (x.above y c (PySem.mem_of_lookup h)))
 .unfold jK;show _=N.length;rw[q08,q06,q34];omega
theorem pU{CX:oN}{f:Addr}{name qual:Str}{params:Arguments}{body:List Stmt}{dV kV doc pm aG ct oc:Value}{an od:Option Addr}
 {i7:Array (Option Value)} {N:List Str} {sp:Sp} (lk:K.lookup f=some ⟨oc,od,.func (fnOf name qual params body scope dV kV doc pm an aG ct),i7⟩) (fB:codeIn K aG qual=true) (S:ag N ps scope)
 (len:∀vs H Q E,sp vs H Q E->vs.length=ps.length)
 (eY:∀(A:Around)(outer:List Env)(s:Shared)(H:Hp)(vs:List V)(Q:VK)(E:XK),bo k (A.deeper (envOfC qual scope s.heap.objs.size f aG))->sp vs H Q E ->
   ∃t,jJ (gx CX P w K mg base N qual scope f aG A outer s H E) body t/\t { nx:=λ_ H'=>Q .bH H',rt:=Q } (jK N vs) H) :
 ar P w K mg base CX (k+1) f (fnOf name qual params body scope dV kV doc pm an aG ct) ps sp:=by
 refine⟨len,λA outer s H args us vs Q E hr e0 hb r hZ=>?_⟩;have hl:=len _ _ _ _ hZ;have KX:K.In s.heap:=e0.mod.xj.keeps λb o e=>(e0.bs b o e).1;have lim:s.heap.NoLimit:=e0.mod.nolimit.keeps λb o e=>(e0.bs b o e).1;have pV:∀y∈ps.zip us,scope.names.lookup y.1=some .local\/(scope.names.lookup y.1=some .cell/\((cellsFrom (s.heap.objs.size+1) scope.names []).lookup y.1).isSome=true):=λ⟨n,v⟩ hy=>by
  rcases S.par n (of_mem_zip hy).1 with q | q
  .exact .inl q
  .exact .inr ⟨q,cellsFrom_some _ _ _ (.inl q)⟩
 refine codeAny_call_function hr.depth (KX _ _ lk) rfl S.co S.gen rfl (PySem.W.codeRec_of KX fB) (hb _ _ _ _ ?_);refine wpAny_newFunctionEnv_cells S.kind pV λenv he s1 x=>?_;subst he;refine⟨lim.keeps x.toInCall.keep,codeAny_func ?_⟩;obtain⟨t,ht,hq⟩:=eY A outer s H vs Q E (hr.deeper _) hZ;have I:Inv (gx CX P w K mg base N qual scope f aG A outer s H E) [] (jK N vs) H s1:=Rv S hr.hd e0 hl r x;refine wpAny_mono (ht [] s1 (jK N vs) H _ I hq) (λfl s' hs=>?_) λe s' hs=>hs;have fin:∀{σ':St}{H':Hp}{v:V}{u:Value},Inv (gx CX P w K mg base N qual scope f aG A outer s H E) [] σ' H' s'->RelV v u->Q v H'->CE outer P w H s Q u s' :=
  λ{σ' H' v u} J rv q=>⟨v,H',J.os,J.bare,J.base,J.aJ,rv,q⟩
 cases fl with
 | ret u =>
   obtain⟨v,σ',H',J,rv,q⟩:=hs;exact fin J rv q
 | next =>
   obtain⟨σ',H',J,q⟩:=hs;exact fin (v:=V.bH) (u:=Value.none) J rfl q
 | brk =>
   obtain⟨_,_,_,q⟩:=hs;exact False.elim q
 | cont =>
   obtain⟨_,_,_,q⟩:=hs;exact False.elim q
section
variable {X:Cx}{x:Str}{p pos:Pos}{e:Expr}{es:List Expr}{t:TA}{id T:String}{r:List V->Hp->VK->Prop}
def GX(r:List V->Hp->VK->Prop)(t:TA):TE:=λσ H Q=>t σ H λvs H1=>r vs H1 Q
theorem zN(hc:gZ X (.builtin id) r)(hg:Gl X x)(hm:X.mg x=none)(hv:bootBuiltins x=some (.builtin id))(ha:PA X (e::es) t)(hn:x≠"__name__":=by decide)(ji:(x==("__debug__":Str))=false:=by decide)
 (he:starEach (e::es) X.env=(false,eval e X.env)::starEach es X.env:=by rfl) (hpl:(backTo pos (starEach es X.env)).any (·.1)=false:=by rfl):PE X (.Call (.Name x p) (e::es) [] pos) (GX r t):=by
 intro pins s σ H Q I h;refine wpAny_Call_Name_kw (tX I hg hm hv ?_ hn ji);exact callWith_builtin1 (aO (ha pos pins s σ H _ I h) λus s1 ⟨vs,H1,I1,r1,q1⟩=>hc pins s1 σ H1 vs us Q I1 r1 q1) he hpl
theorem zG(hc:gZ X (.type T) r)(hg:Gl X x)(hm:X.mg x=none)(hv:bootBuiltins x=some (.type T))(ha:PA X (e::es) t)(hn:x≠"__name__":=by decide)(ji:(x==("__debug__":Str))=false:=by decide)
 (he:starEach (e::es) X.env=(false,eval e X.env)::starEach es X.env:=by rfl) (hpl:(backTo pos (starEach es X.env)).any (·.1)=false:=by rfl):PE X (.Call (.Name x p) (e::es) [] pos) (GX r t):=by
 intro pins s σ H Q I h;refine wpAny_Call_Name_kw (tX I hg hm hv ?_ hn ji);exact callWith_type1 (aO (ha pos pins s σ H _ I h) λus s1 ⟨vs,H1,I1,r1,q1⟩=>hc pins s1 σ H1 vs us Q I1 r1 q1) he hpl
end
end L2
namespace HT
open PySem PyProof.Rows
def lexLt:List Int->List Int->Bool
 | [],[]=>false
 | [],_::_=>true
 | _::_,[]=>false
 | x::xs,y::ys=>if x=y then lexLt xs ys else decide (x<y)
theorem di(x y:Int)(xs ys:List Int):lexLt (x::xs) (y::ys)=if x=y then lexLt xs ys else decide (x<y):=rfl
theorem ia:lexLt [] []=false:=rfl
theorem gy(y:Int)(ys:List Int):lexLt [] (y::ys)=true:=rfl
theorem gz(x:Int)(xs:List Int):lexLt (x::xs) []=false:=rfl
theorem pW(A:Around)(s:Shared)(a:Int)(t:Tok)(c:Int)(u:Tok)(prog:Program)(w:World)(E:Value->Shared->Prop)(Q:Value->Shared->Prop)(h:Q (.bool (decide (a<c))) s):
 wpAny (model prog w) A (richCompare .Lt (.int a t) (.int c u)) Q E s :=
 (PyProof.Rows.lt_int h:wpAny (model prog w) A (compareOp .Lt (.int a t) (.int c u)) Q E s)
section
open PySem.SeqAt
open PySem.AutoSeq1 (wpAny_loadPart')
open PySem.MeetsSeq PySem.MeetsSeq2 PySem.MeetsSeq3
end
section
variable {prog:Program}{w:World}{A:Around}{E:Value->Shared->Prop}{s:Shared}
theorem uY{t b:Addr}{vs ws:List Value}{Q:Value->Shared->Prop}(ht:IsTup s.heap t vs.toArray)(hb:IsTup s.heap b ws.toArray)(hv:vs≠[])
 (h1:ws=[]->Q (.ref t) s) (h2:ws≠[]->Q (.ref s.heap.objs.size) { s with heap:=s.heap.push { cls:=.type "tuple",data:=.seq (vs++ws).toArray } })
 (hsz:vs.length+ws.length<=sizeLine):wpAny (model prog w) A (binaryOp .Add (.ref t) (.ref b)) Q E s:=by
 obtain⟨⟨cls,dd,data,sl⟩,ho,hc,n,hd⟩:=id ht;obtain⟨⟨D5,ub,data2,mQ⟩,A3,jL,n2,hd2⟩:=id hb;simp only at hc hd jL hd2;subst hc hd jL hd2;have e:vs.toArray++ws.toArray=(vs++ws).toArray:=by simp
 by_cases hw:ws=[]
 .exact concat_meets ⟨_,ho,rfl⟩ ⟨_,A3,rfl⟩ noFill_tuple_add seq_tuple_add PySem.F.slot_tuple_add PySem.F.entry_tuple_add (PySem.F.args_tuple_add_2 _ _)
   (tuple_addW1 t b vs.toArray ws.toArray n n2 dd ub sl mQ (by simpa using hv) (by simp[hw])) ⟨ho,A3,h1 hw⟩
 .refine concat_meets ⟨_,ho,rfl⟩ ⟨_,A3,rfl⟩ noFill_tuple_add seq_tuple_add PySem.F.slot_tuple_add PySem.F.entry_tuple_add (PySem.F.args_tuple_add_2 _ _)
   (tuple_addW2 t b vs.toArray ws.toArray n n2 dd ub sl mQ (by simpa using hv) (by simpa using hw) (by rw[q10,q10];exact hsz)) ⟨ho,A3,?_⟩
  rw[e];exact h2 hw
def iJ(n d:Nat):Option Int->Nat
 | none=>d
 | some v=>if v<0 then(v+(n:Int)).toNat else min v.toNat n
theorem jj(n d:Nat):iJ n d none=d:=rfl
theorem k8(n d k:Nat):iJ n d (some (k:Int))=min k n:=by
 show(if(k:Int)<0 then((k:Int)+(n:Int)).toNat else min (k:Int).toNat n)=min k n;rw[q00 (by omega),Int.toNat_natCast]
end
end HT
namespace L2
open PySem PySem.Spec PyProof.Rows
abbrev TO:=St->Hp->(Option Int->Hp->Prop)->Prop
def PO(X:Cx)(e:Option Expr)(t:TO):Prop :=
 ∀(pins:List (Addr×Obj)) (s:Shared) (σ:St) (H:Hp) (Q:Option Int->Hp->Prop),Inv X pins σ H s->t σ H Q ->
  wpAny (model X.prog X.w) X.A (evalPart e X.env) (λu s'=>∃o H',Inv X pins σ H' s'/\IsPart u o/\Q o H') X.xe s
def uZ:TO:=λ_ H Q=>Q none H
inductive pX (x:V)(H1:Hp)(Q:Option Int->Hp->Prop):Prop|mk(i:_):x=.int i->Q (some i) H1->pX x H1 Q
def D6(t:TE):TO:=λσ H Q=>t σ H λx H1=>pX x H1 Q
theorem Cm{ns:List Int}:∀{us:List Value},Vals (ns.map V.int) us->IntsAre us ns:=by
 induction ns with
 | nil=>intro us r;rw[map_nil]at r;cases r;exact .nil
 | cons n ns ih =>
   intro us r;rw[map_cons]at r;cases r with
   | cons r1 r2 =>
     obtain⟨t,e⟩:=r1;subst e;exact .cons n t (ih r2)
section
variable {X:Cx}{e:Expr}{te:TE}{lo hi:Option Expr}{tl th:TO}{pos p2:Pos}
theorem y9:PO X none uZ:=by
 intro pins s σ H Q I h;rw[evalPart_none];exact q04 ⟨none,H,I,.none,h⟩
theorem yH(h:PE X e te):PO X (some e) (D6 te):=by
 intro pins s σ H Q I hw;rw[evalPart_some];refine aO (h pins s σ H _ I hw) λu s1 ⟨x,H1,I1,r1,q1⟩=>?_;obtain⟨i,rfl,q⟩:=q1;obtain⟨t,rfl⟩:=r1;exact⟨some i,H1,I1,.int i t,q⟩
def KJ(X:Cx)(r:V->Option Int->Option Int->Hp->VK->Prop):Prop :=
 ∀(pins:List (Addr×Obj)) (s:Shared) (σ:St) (H:Hp) (x:V) (v vl vu:Value) (lo hi:Option Int) (sl:Addr) (Q:VK),Inv X pins σ H s->RelV x v->s.heap.IsSliceOf sl vl vu .none->IsPart vl lo->IsPart vu hi->r x lo hi H Q ->
  ∃T id,typeLookup (.type T) "__getitem__"=pure (some (.builtin id))/\s.TypeIs v T/\wpAny (model X.prog X.w) X.A (getItem v (.ref sl)) (EP X pins σ Q) X.xe s
def VS(r:V->Option Int->Option Int->Hp->VK->Prop)(te:TE)(tl th:TO):TE:=λσ H Q=>te σ H λx H1=>tl σ H1 λl H2=>th σ H2 λu H3=>r x l u H3 Q
theorem yo{r:V->Option Int->Option Int->Hp->VK->Prop}(hr:KJ X r)(he:PE X e te)(hl:PO X lo tl)(hu:PO X hi th):PE X (.Subscript e (.Slice lo hi none p2) pos) (VS r te tl th):=by
 intro pins s σ H Q I h;refine Subscript_ (aO (he pins s σ H _ I h) λv s1 ⟨x,H1,I1,r1,q1⟩=>?_);refine wpAny_Slice (aO (hl pins s1 σ H1 _ I1 q1) λvl s2 ⟨l,H2,I2,pl,q2⟩=>aO (hu pins s2 σ H2 _ I2 q2) λvu s3 ⟨u,H3,I3,pu,q3⟩=>?_);rw[evalPart_none];refine q04 ?_;have I4:Inv X pins σ H3 { s3 with heap:=s3.heap.push { cls:=.type "slice",data:=.fields #[vl,vu,.none] } }:=I3.kept (t':=s3.toks) λb ob q=>q05 _ q;obtain⟨T,id,hT,ht,hg⟩:=hr pins { s3 with heap:=s3.heap.push { cls:=.type "slice",data:=.fields #[vl,vu,.none] } } σ H3 x v vl vu l u s3.heap.objs.size Q I4 r1 (Heap.IsSliceOf.new ..) pl pu q3;show wpAny (model X.prog X.w) X.A (subscriptTail e (.Slice lo hi none p2) v (.ref s3.heap.objs.size)) (EP X pins σ Q) X.xe { s3 with heap:=s3.heap.push { cls:=.type "slice",data:=.fields #[vl,vu,.none] } };exact tail_any (ops:=[.ref s3.heap.objs.size,v]) ht hT hg (by with_unfolding_all rfl)
def k9(xs:List V)(lo hi:Option Int):List V:=(xs.drop (HT.iJ xs.length 0 lo)).take (HT.iJ xs.length xs.length hi-HT.iJ xs.length 0 lo)
theorem VT(xs:List V)(lo hi:Option Int):(k9 xs lo hi).length<=xs.length:=by
 unfold k9;rw[q11,length_drop];omega
def D7(K:Frag):R2:=λx y H Q=>∃a b xs ys,x=.ref a/\y=.ref b/\bX K H a xs/\bX K H b ys/\xs≠[]/\xs.length+ys.length<=sizeLine /\
 (ys=[]->Q (.ref a) H)/\(ys≠[]->∀p,H p=none->Q (.ref p) (upd H p (.tup (xs++ys))))
theorem Vals.iK{xs:List V}{us:List Value}(r:Vals xs us):us=[]↔xs=[]:=by
 cases r with
 | nil=>simp
 | cons _ _=>simp
theorem lj:dB X (binaryOp .Add) (D7 X.K):=by
 intro pins s σ H x y v u Q I rx ry h;obtain⟨a,b,xs,ys,rfl,rfl,ha,hb,hx,hz,q1,q2⟩:=h;cases rx;cases ry;obtain⟨aw,r1,p1,_⟩:=I.tuple ha;obtain⟨eZ,r2,p2,_⟩:=I.tuple hb;refine HT.uY p1 p2 (λz=>hx (r1.iK.mp z)) (λz=>⟨.ref a,H,I,rfl,q1 (r2.iK.mp z)⟩) (λz=>?_) (by rw[<-r1.length,<-r2.length];exact hz);refine⟨.ref s.heap.objs.size,_,I.laid (t':=s.toks) (o:=.tup (xs++ys)) (λb ob q=>q05 _ q) (le_refl _) ?_,rfl,q2 (λw=>z (r2.iK.mpr w)) _ (I.aJ.fresh (le_refl _))⟩;exact⟨by rw[q08];exact hz,_,r1.append r2,IsTup.new _ _⟩
end
def A4(n:Nat)(i:Int):Option Nat:=if 0<=i then(if i<n then some i.toNat else none)else if -(n:Int)<=i then some (i+n).toNat else none
def fC{α:Type}(xs:List α)(i:Int):Option α:=(A4 xs.length i).bind λj=>xs[j]?
theorem lq{n:Nat}{i:Int}{j:Nat}(h:A4 n i=some j):seqIndex? i n=some j/\j<n /\ -(n:Int)<=i/\i<n:=by
 unfold A4 at h;by_cases h0:0<=i
 .rw[q01 h0]at h;by_cases h1:i<n
  .rw[q01 h1]at h;have e:i.toNat=j:=q22 h;exact⟨by rw[seqIndex_of h0 h1,e],by omega,by omega,h1⟩
  .rw[q00 h1]at h;cases h
 .rw[q00 h0]at h;by_cases h1 : -(n:Int)<=i
  .rw[q01 h1]at h;have e:(i+n).toNat=j:=q22 h;exact⟨by rw[seqIndex_neg (by omega) h1,e],by omega,h1,by omega⟩
  .rw[q00 h1]at h;cases h
variable {α:Type}
theorem KL{xs:List α}{i:Int}{v:α}(h:fC xs i=some v):∃j,seqIndex? i xs.length=some j/\xs[j]? = some v/\j<xs.length /\ -(xs.length:Int)<=i/\i<xs.length:=by
 unfold fC at h;cases e:A4 xs.length i with
 | none=>rw[e]at h;cases h
 | some j =>
   rw[e]at h;obtain⟨h1,h2,h3,h4⟩:=lq e;exact⟨j,h1,h,h2,h3,h4⟩
theorem zP{xs:List α}{j:Nat}{v:α}(h:xs[j]? = some v):fC xs (j:Int)=some v:=by
 have hj:j<xs.length:=(q45.mp h).1;have e:A4 xs.length (j:Int)=some j:=by
  unfold A4;rw[q01 (by omega),q01 (by omega)];simp
 unfold fC;rw[e];exact h
def u4(b:Expr):Prop:=∀o i,subscripted b false o i=operate [o,i] (getItem o i)
def Cn(X:Cx)(r:R2):Prop :=
 ∀(value slice:Expr)(pins:List (Addr×Obj)) (s:Shared) (σ:St) (H:Hp) (x y:V) (v u:Value) (Q:VK),Inv X pins σ H s->RelV x v->RelV y u->r x y H Q ->
  subscripted slice false v u=operate [v,u] (getItem v u)->wpAny (model X.prog X.w) X.A (subscriptTail value slice v u) (EP X pins σ Q) X.xe s
def GY(X:Cx)(id:String)(r:V->List V->Hp->VK->Prop):Prop :=
 ∀(pins:List (Addr×Obj)) (s:Shared) (σ:St) (H:Hp) (x:V) (xs:List V) (v:Value) (us:List Value) (Q:VK),Inv X pins σ H s->RelV x v->Vals xs us->r x xs H Q ->
  wpAny (model X.prog X.w) X.A (call (.builtin id) (v::us)) (EP X pins σ Q) X.xe s
section
variable {X:Cx}{a b:Expr}{ta tb:TE}{pos:Pos}
theorem zB{r:R2}(hr:Cn X r)(ha:PE X a ta)(hb:PE X b tb)(hs:u4 b):PE X (.Subscript a b pos) (GS r ta tb):=by
 intro pins s σ H Q I h;exact Subscript_ (AX ha hb I h λv u s2 x y H2 I2 rx ry q=>hr a b pins s2 σ H2 x y v u Q I2 rx ry q (hs _ _))
inductive xB (K:Frag)(x y:V)(H:Hp)(Q:VK):Prop|mk(p:_)(xs:_)(i:_)(v:_):x=.ref p->y=.int i->ai K H p xs->fC xs i=some v->Q v H->xB K x y H Q
def D8(K:Frag):R2:=λx y H Q=>xB K x y H Q
inductive xE (K:Frag)(x y:V)(H:Hp)(Q:VK):Prop|mk(p:_)(xs:_)(i:_)(v:_):x=.ref p->y=.int i->bX K H p xs->fC xs i=some v->Q v H->xE K x y H Q
def D9(K:Frag):R2:=λx y H Q=>xE K x y H Q
def KN:R2:=λx y H Q=>∃z i c,x=.str z/\y=.int i/\z.length<=sizeLine/\fC z.cps.toList i=some c/\Q (.str ⟨#[c]⟩) H
theorem zv:Cn X (D8 X.K):=by
 intro value slice pins s σ H x y v u Q I rx ry h hs;obtain⟨p,xs,i,z,rfl,rfl,hq,he,q⟩:=h;cases rx;obtain⟨t,rfl⟩:=ry;obtain⟨aw,r,pl,hz⟩:=I.list hq;obtain⟨j,h1,h2,h3,h4,h5⟩:=KL he;obtain⟨w,ew,mR⟩:=r.get h2;have hl:=r.length;have hn:=xw;have fin:EP X pins σ Q w s:=⟨z,H,I,mR,q⟩;by_cases h0:0<=i
 .have hj:i.toNat=j:=by
   rw[seqIndex_of h0 h5]at h1;exact q22 h1
  exact item_listR pl.isList h0 (by omega) (by rw[hj];simpa using ew) fin hs
 .have hj:(i+(aw.toArray.size:Int)).toNat=j:=by
   rw[seqIndex_neg (by omega) h4]at h1;rw[q10,<-hl];exact q22 h1
  exact subscriptTail_builtinR (x:=w) pl.isList.typeIs slot_list_getitem.lookup
   (wpAny_getItem_list_neg (Q:=λr s'=>r=w/\EP X pins σ Q r s') pl.isList (by omega) (by rw[q10] <;> omega) (by omega) (by rw[hj];simpa using ew) ⟨rfl,fin⟩) hs
theorem oO:Cn X (D9 X.K):=by
 intro value slice pins s σ H x y v u Q I rx ry h hs;obtain⟨p,xs,i,z,rfl,rfl,hq,he,q⟩:=h;cases rx;obtain⟨t,rfl⟩:=ry;obtain⟨aw,r,pl,hz⟩:=I.tuple hq;obtain⟨j,h1,h2,h3,h4,h5⟩:=KL he;obtain⟨w,ew,mR⟩:=r.get h2;have hl:=r.length;have hn:=xw;have fin:EP X pins σ Q w s:=⟨z,H,I,mR,q⟩;exact subscriptTail_builtinR (x:=w) pl.typeIs slot_tuple_getitem.lookup
  (getItem_tuple (j:=j) (Q:=λr s'=>r=w/\EP X pins σ Q r s') pl (by omega) (by omega) (by rw[q10,<-hl];exact h1) (by simpa using ew) ⟨rfl,fin⟩) hs
theorem pY:Cn X KN:=by
 intro value slice pins s σ H x y v u Q I rx ry h hs;obtain⟨z,i,c,rfl,rfl,hz,he,q⟩:=h;obtain⟨t,rfl⟩:=rx;obtain⟨t',rfl⟩:=ry;obtain⟨j,h1,h2,h3,h4,h5⟩:=KL he;have hl:z.cps.toList.length=z.length:=by simp[Str.length]
 rw[hl]at h1 h4 h5;have hn:=xw;exact tail_any (typeIs_str s z t) slot_str_getitem.lookup (getItem_str (c:=c) (by
  have e1:decide (i < -(2 ^ 63:Int))=false:=q20 (by omega);have e2:decide (i >= 2 ^ 63)=false:=q20 (by omega);rw[e1,e2,Bool.or_false]) (by rw[h1];simpa using h2) ⟨.str ⟨#[c]⟩,H,I.tok _,⟨_,rfl⟩,q⟩) hs
theorem jY(aw:List Value)(n j:Nat)(u:Value):Obj.mapSeq (·.setIfInBounds j u) { cls:=.type "list",data:=.seq aw.toArray n }={ cls:=.type "list",data:=.seq (aw.set j u).toArray n }:=by
 simp[Obj.mapSeq]
variable {pins:List (Addr×Obj)}{s:Shared}
theorem Inv.lst{σ:St}{H:Hp}{p:Addr}{xs:List V}(I:Inv X pins σ H s)(h:H p=some (.lst xs)):
 ∃(aw:List Value)(n:Nat),Vals xs aw/\s.heap.get? p=some { cls:=.type "list",data:=.seq aw.toArray n }/\xs.length<=sizeLine:=by
 obtain⟨z,aw,n,r,e⟩:=I.aJ p _ h;exact⟨aw,n,r,e,z⟩
theorem Inv.A5{σ:St}{H:Hp}{p:Addr}{xs ys:List V}{aw its':List Value}{n n':Nat}{f:Obj->Obj}(I:Inv X pins σ H s)(h:H p=some (.lst xs))
 (ho:s.heap.get? p=some { cls:=.type "list",data:=.seq aw.toArray n }) (hf:f { cls:=.type "list",data:=.seq aw.toArray n }={ cls:=.type "list",data:=.seq its'.toArray n' }) (r:Vals ys its') (hz:ys.length<=sizeLine) (t:Nat) :
 Inv X pins σ (upd H p (.lst ys)) { s with heap:=s.heap.update p f,toks:=t }:=by
 have e:(s.heap.update p f).get? p=some { cls:=.type "list",data:=.seq its'.toArray n' }:=by
  rw[Heap.get?_update_self f ho (by rw[hf] <;> rfl),hf]
 refine I.write (x:=p) (e:=p) (by rw[h];trivial) (.inl rfl) (λb u hb q=>(get?_update_other _ _ (Ne.symm hb)).trans q) ⟨_,e⟩ ?_;exact⟨hz,its',n',r,e⟩
inductive pZ (o i v:V)(H:Hp)(Q:Hp->Prop):Prop|mk(p:_)(xs:_)(k:_)(j:_):o=.ref p->i=.int k->H p=some (.lst xs)->A4 xs.length k=some j->Q (upd H p (.lst (xs.set j v)))->pZ o i v H Q
def Ea:V->V->V->Hp->(Hp->Prop)->Prop:=λo i v H Q=>pZ o i v H Q
theorem GZ:DN X Ea:=by
 intro pins s σ H o i v ov iv u Q I ro ri rv h;obtain⟨p,xs,k,j,rfl,rfl,hp,hj,q⟩:=h;cases ro;obtain⟨t,rfl⟩:=ri;obtain⟨aw,n,r,ho,hz⟩:=I.lst hp;obtain⟨h1,h2,h3,h4⟩:=lq hj;have hl:=r.length;have hn:=xw;have I':Inv X pins σ (upd H p (.lst (xs.set j v))) { s with heap:=s.heap.update p (Obj.mapSeq (·.setIfInBounds j u)) } :=
  I.A5 hp ho (jY aw n j u) (r.set rv j) (by rw[List.length_set];exact hz) s.toks
 by_cases h0:0<=k
 .have hk:k.toNat=j:=by
   rw[seqIndex_of h0 h4]at h1;exact q22 h1
  exact PySem.W.ki_setAt ho h0 (by omega) (by rw[q10,<-hl];exact h4) (by rw[hk];exact⟨_,I',q⟩)
 .have hk:(k+(aw.toArray.size:Int)).toNat=j:=by
   rw[seqIndex_neg (by omega) h3]at h1;rw[q10,<-hl];exact q22 h1
  exact PySem.W.ki_setBack ho (by omega) (by rw[q10,<-hl];exact h3) (by omega) (by rw[hk];exact⟨_,I',q⟩)
theorem VU(lo hi:Option Int)(n:Nat):(sliceBounds lo hi none n).1=((HT.iJ n 0 lo:Nat):Int)/\(sliceBounds lo hi none n).2.1=((HT.iJ n n hi:Nat):Int)/\(sliceBounds lo hi none n).2.2=1:=by
 refine⟨?_,?_,rfl⟩
 .cases lo with
  | none=>simp[sliceBounds,HT.iJ]
  | some i =>
    simp only[sliceBounds,HT.iJ,Option.getD_none,show(1:Int) > 0 by decide,if_true];by_cases h:i<0
    .simp only[h,if_true] <;> omega
    .simp only[h,if_false] <;> omega
 .cases hi with
  | none=>simp[sliceBounds,HT.iJ]
  | some i =>
    simp only[sliceBounds,HT.iJ,Option.getD_none,show(1:Int) > 0 by decide,if_true];by_cases h:i<0
    .simp only[h,if_true] <;> omega
    .simp only[h,if_false] <;> omega
theorem VV(aw:List Value)(lo hi:Option Int):slicePick aw.toArray lo hi none=((aw.drop (HT.iJ aw.length 0 lo)).take (HT.iJ aw.length aw.length hi-HT.iJ aw.length 0 lo)).toArray:=by
 obtain⟨h1,h2,h3⟩:=VU lo hi aw.toArray.size;unfold slicePick;rw[h1,h2,h3];simp only[sliceRange_one,pick_run,q10] <;> rfl
inductive xF (K:Frag)(x:V)(lo hi:Option Int)(H:Hp)(Q:VK):Prop|mk(a:_)(xs:_):x=.ref a->ai K H a xs->(∀p,H p=none->Q (.ref p) (upd H p (.lst (k9 xs lo hi))))->xF K x lo hi H Q
def KO(K:Frag):V->Option Int->Option Int->Hp->VK->Prop:=λx lo hi H Q=>xF K x lo hi H Q
theorem wC:KJ X (KO X.K):=by
 intro pins s σ H x v vl vu lo hi sl Q I rx hs pl pu h;obtain⟨a,xs,rfl,hx,q⟩:=h;cases rx;obtain⟨aw,r,ht,hz⟩:=I.list hx;have hlen:=r.length;refine⟨"list",_,slot_list_getitem.lookup,ht.isList.typeIs,?_⟩;refine wpAny_getItem_list_slice ht.isList hs pl pu .none (by simp) ?_ (by rw[q10] <;> omega);rw[VV,<-hlen];refine⟨.ref s.heap.objs.size,_,I.laid (t':=s.toks) (o:=.lst (k9 xs lo hi)) (λb ob q=>q05 _ q) (le_refl _) ?_,rfl,q _ (I.aJ.fresh (le_refl _))⟩;exact⟨q38 (VT xs lo hi) hz,_,0,(r.drop (HT.iJ xs.length 0 lo)).take (HT.iJ xs.length xs.length hi-HT.iJ xs.length 0 lo),get?_push_size _ rfl⟩
def iA:V->Bool
 | .bH=>true
 | .bl _=>true
 | .int _=>true
 | .str _=>true
 | _=>false
def jZ:V->V->Bool
 | .bH,.bH=>true
 | .bl a,.bl b=>a==b
 | .bl a,.int b=>(if a then 1 else 0)==b
 | .int a,.bl b=>a==(if b then 1 else 0)
 | .int a,.int b=>a==b
 | .str a,.str b=>a==b
 | _,_=>false
variable {x:V}{v:Value}
theorem p7{A:Around}{y:V}{u:Value}(ry:RelV y u)(rx:RelV x v)(fy:iA y=true)(fx:iA x=true):SeqAt.EqAt A s u v (jZ y x):=by
 cases y with
 | bH =>
   cases ry;cases x with
   | bH=>cases rx;exact SeqAt.EqAt.same _
   | bl b=>cases rx;exact SeqAt.EqAt.none_bool b
   | int b=>obtain⟨t,rfl⟩:=rx;exact SeqAt.EqAt.none_int b t
   | str b=>obtain⟨t,rfl⟩:=rx;exact SeqAt.EqAt.none_str b t
   | _=>exact q02 (show false=true from fx) q23
 | bl a =>
   cases ry;cases x with
   | bH=>cases rx;exact SeqAt.EqAt.bool_none a
   | bl b=>cases rx;exact SeqAt.EqAt.bool_bool a b
   | int b=>obtain⟨t,rfl⟩:=rx;exact SeqAt.EqAt.bool_int a b t
   | str b=>obtain⟨t,rfl⟩:=rx;exact SeqAt.EqAt.bool_str a b t
   | _=>exact q02 (show false=true from fx) q23
 | int a =>
   obtain⟨t',rfl⟩:=ry;cases x with
   | bH=>cases rx;exact SeqAt.EqAt.int_none a t'
   | bl b=>cases rx;exact SeqAt.EqAt.int_bool a t' b
   | int b=>obtain⟨t,rfl⟩:=rx;exact SeqAt.EqAt.int_int a t' b t
   | str b=>obtain⟨t,rfl⟩:=rx;exact SeqAt.EqAt.int_str a t' b t
   | _=>exact q02 (show false=true from fx) q23
 | str a =>
   obtain⟨t',rfl⟩:=ry;cases x with
   | bH=>cases rx;exact SeqAt.EqAt.str_none a t'
   | bl b=>cases rx;exact SeqAt.EqAt.str_bool a t' b
   | int b=>obtain⟨t,rfl⟩:=rx;exact SeqAt.EqAt.str_int a t' b t
   | str b=>obtain⟨t,rfl⟩:=rx;exact SeqAt.EqAt.str_str a t' b t
   | _=>exact q02 (show false=true from fx) q23
 | _=>exact q02 (show false=true from fy) q23
def iL(x:V)(u:Value):Bool:=match u with
 | .none=>jZ .bH x
 | .bool b=>jZ (.bl b) x
 | .int i _=>jZ (.int i) x
 | .str z _=>jZ (.str z) x
 | _=>false
theorem KP{y:V}{u:Value}(r:RelV y u)(f:iA y=true):iL x u=jZ y x:=by
 cases y with
 | bH=>cases r;rfl
 | bl b=>cases r;rfl
 | int i=>obtain⟨t,rfl⟩:=r;rfl
 | str z=>obtain⟨t,rfl⟩:=r;rfl
 | _=>exact q02 (show false=true from f) q23
theorem Eb:∀{xs:List V}{us:List Value},Vals xs us->xs.all iA=true->us.any (iL x)=xs.any λy=>jZ y x
 | _,_,.nil,_=>rfl
 | y::xs,u::us,.cons r t,f=>by
   rw[all_cons,q42]at f;rw[any_cons,any_cons,KP r f.1,Eb t f.2]
theorem Co{A:Around}(rx:RelV x v)(fx:iA x=true):∀{xs:List V}{us:List Value},Vals xs us->xs.all iA=true->∀u∈us,SeqAt.EqAt A s u v (iL x u)
 | _,_,.nil,_=>λu hu=>by cases hu
 | y::xs,u::us,.cons r t,f=>λu' hu=>by
   rw[all_cons,q42]at f;rcases q27.mp hu with rfl | hu
   .rw[KP r f.1];exact p7 r rx f.1 fx
   .exact Co rx fx t f.2 u' hu
def u9(x:V)(xs:List V):Bool:=xs.any λy=>jZ y x
inductive Ec (K:Frag)(neg:Bool)(x y:V)(H:Hp)(Q:VK):Prop|mk(p:_)(xs:_):y=.ref p->((ai K H p xs\/bX K H p xs))->iA x=true->xs.all iA=true->(Q (.bl (if neg then !u9 x xs else u9 x xs)) H)->Ec K neg x y H Q
def KQ(K:Frag)(neg:Bool):R2:=λx y H Q=>Ec K neg x y H Q
theorem Rx:dB X (compareOp .In) (KQ X.K false):=by
 intro pins s σ H x y v u Q I rx ry h;obtain⟨p,xs,rfl,hq,fx,fs,q⟩:=h;cases ry;rcases hq with hq | hq
 .obtain⟨aw,r,pl,hz⟩:=I.list hq;refine SeqAt.in_listAt (iL x) pl.isList (λw hw=>Co rx fx r fs w (by simpa using hw)) ⟨.bl _,H,I,rfl,?_⟩;rw[show aw.toArray.any (iL x)=aw.any (iL x)by simp,Eb r fs];exact q
 .obtain⟨aw,r,pl,hz⟩:=I.tuple hq;refine SeqAt.in_tupleAt (iL x) pl (λw hw=>Co rx fx r fs w (by simpa using hw)) ⟨.bl _,H,I,rfl,?_⟩;rw[show aw.toArray.any (iL x)=aw.any (iL x)by simp,Eb r fs];exact q
theorem yz:dB X (compareOp .NotIn) (KQ X.K true):=by
 intro pins s σ H x y v u Q I rx ry h;obtain⟨p,xs,rfl,hq,fx,fs,q⟩:=h;cases ry;rcases hq with hq | hq
 .obtain⟨aw,r,pl,hz⟩:=I.list hq;refine SeqAt.notIn_listAt (iL x) pl.isList (λw hw=>Co rx fx r fs w (by simpa using hw)) ⟨.bl _,H,I,rfl,?_⟩;rw[show aw.toArray.any (iL x)=aw.any (iL x)by simp,Eb r fs];exact q
 .obtain⟨aw,r,pl,hz⟩:=I.tuple hq;refine SeqAt.notIn_tupleAt (iL x) pl (λw hw=>Co rx fx r fs w (by simpa using hw)) ⟨.bl _,H,I,rfl,?_⟩;rw[show aw.toArray.any (iL x)=aw.any (iL x)by simp,Eb r fs];exact q
inductive bI (K:Frag)(xs:List V)(H:Hp)(Q:VK):Prop|mk(p:_)(ys:_):xs=[.ref p]->((ai K H p ys\/bX K H p ys))->Q (.int ys.length) H->bI K xs H Q
theorem Ry:gZ X (.builtin "len") (bI X.K):=by
 intro pins s σ H xs us Q I r h;obtain⟨p,ys,rfl,hq,q⟩:=h;obtain⟨u,rfl,rx⟩:=DY r;cases rx;have hn:=xw;rcases hq with hq | hq
 .obtain⟨aw,r',pl,hz⟩:=I.list hq;have hlen:=r'.length;exact Calls.call_len_list pl.isList (by simp only[q10] <;> omega) ⟨.int ys.length,H,I.tok _,⟨s.toks+1,by rw[q10,hlen]⟩,q⟩
 .obtain⟨aw,r',pl,hz⟩:=I.tuple hq;have hlen:=r'.length;exact len_tuple pl (by simp only[q10] <;> omega) ⟨.int ys.length,H,I.tok _,⟨s.toks+1,by rw[q10,hlen]⟩,q⟩
inductive eJ (xs:List V)(H:Hp)(Q:VK):Prop|mk(z:_):xs=[.str z]->z.length<=sizeLine->Q (.int z.length) H->eJ xs H Q
theorem VW:gZ X (.builtin "len") eJ:=by
 intro pins s σ H xs us Q I r h;obtain⟨z,rfl,hz,q⟩:=h;obtain⟨u,rfl,t,rfl⟩:=DY r;have hn:=xw;exact len_str (by omega) ⟨.int z.length,H,I.tok _,⟨_,rfl⟩,q⟩
inductive eK (K:Frag)(xs:List V)(H:Hp)(Q:VK):Prop|mk(p:_)(ys:_):xs=[.ref p]->((ai K H p ys\/bX K H p ys))->(∀l,H l=none->Q (.ref l) (upd H l (.lst ys)))->eK K xs H Q
theorem yf:gZ X (.type "list") (eK X.K):=by
 intro pins s σ H xs us Q I r h;obtain⟨p,ys,rfl,hq,q⟩:=h;obtain⟨u,rfl,rx⟩:=DY r;cases rx;have fin:∀(aw:List Value),Vals ys aw->ys.length<=sizeLine->∀(h':Heap)(c':Nat),(∀b o',s.heap.get? b=some o'->h'.get? b=some o') ->
  h'.get? s.heap.objs.size=some { cls:=.type "list",dict:=none,data:=.seq aw.toArray c',slots := #[] }->EP X pins σ Q (.ref s.heap.objs.size) { s with heap:=h' }:=λaw r' hz h' c' kp e =>
  ⟨.ref s.heap.objs.size,_,I.laid (t':=s.toks) kp (le_refl _) (show bu X.prog X.w _ h' _ (.lst ys)from⟨hz,aw,c',r',e⟩),rfl,q _ (I.aJ.fresh (le_refl _))⟩
 rcases hq with hq | hq
 .obtain⟨aw,r',pl,hz⟩:=I.list hq;have hlen:=r'.length;obtain⟨o,ho,hc,n,hd⟩:=pl.isList;exact call_list_seq p (.inl rfl) ho hc hd (λh' c' kp e=>fin aw r' hz h' c' kp e) (by simp only[q10] <;> omega)
 .obtain⟨aw,r',pl,hz⟩:=I.tuple hq;have hlen:=r'.length;obtain⟨o,ho,hc,n,hd⟩:=pl;exact call_list_seq p (.inr rfl) ho hc hd (λh' c' kp e=>fin aw r' hz h' c' kp e) (by simp only[q10] <;> omega)
def Rz(K:Frag)(T:String)(x:V)(H:Hp):Prop:=match x with
 | .str _=>T= "str"
 | .int _=>T= "int"
 | .ref p=>(T= "list"/\∃xs,ai K H p xs)\/(T= "tuple"/\∃o,K.lookup p=some o/\o.cls=.type "tuple"/\o.dict=none) \/
    (T= "dict"/\((∃ax,H p=some (.dK ax))\/∃ax,H p=some (.dT ax)))\/(T= "set"/\∃S n,H p=some (.set S n))
 | _=>False
theorem A6{σ:St}{H:Hp}{T:String}(I:Inv X pins σ H s)(r:RelV x v)(ty:Rz X.K T x H):
 s.TypeIs v T/\∀a,v=.ref a->∃ob,s.heap.get? a=some ob/\ob.dict=none:=by
 cases x with
 | str z =>
   obtain⟨t,rfl⟩:=r;cases (show T= "str" from ty);exact⟨typeIs_str s z t,λ_ e=>nomatch e⟩
 | int i =>
   obtain⟨t,rfl⟩:=r;cases (show T= "int" from ty);exact⟨typeIs_int s i t,λ_ e=>nomatch e⟩
 | ref p =>
   cases r;rcases ty with⟨rfl,xs,hq⟩|⟨rfl,o,hk,hc,hd⟩|⟨rfl,hk⟩|⟨rfl,S,n,hk⟩
   .obtain⟨aw,_,pl,_⟩:=I.list hq;refine⟨pl.isList.typeIs,λa e=>?_⟩;cases e;obtain⟨o,n,e,c,hd,_⟩:=pl;exact⟨o,e,hd⟩
   .refine⟨⟨o,I.iY p o hk,hc⟩,λa e=>?_⟩;cases e;exact⟨o,I.iY _ o hk,hd⟩
   .have z:∃o,s.heap.get? p=some o/\o.ExactDict:=by
     rcases hk with⟨ax,hk⟩|⟨ax,hk⟩
     .obtain⟨_,_,_,_,o,_,_,e,ex,_⟩:=I.aJ p _ hk;exact⟨o,e,ex⟩
     .obtain⟨_,_,_,_,o,_,_,e,ex,_⟩:=I.aJ p _ hk;exact⟨o,e,ex⟩
    obtain⟨o,e,ex⟩:=z;refine⟨⟨o,e,ex.1⟩,λa e2=>?_⟩;cases e2;exact⟨o,e,ex.2.1⟩
   .obtain⟨o,_,_,_,e,ex,_⟩:=I.aJ p _ hk;refine⟨⟨o,e,ex.1⟩,λa e2=>?_⟩;cases e2;exact⟨o,e,ex.2.1⟩
 | _=>exact False.elim ty
def RA(K:Frag)(T:String)(r:V->List V->Hp->VK->Prop)(to:TE)(t:TA):TE:=λσ H Q=>to σ H λx H1=>Rz K T x H1/\t σ H1 λxs H2=>r x xs H2 Q
variable {o e:Expr}{es:List Expr}{to:TE}{t:TA}{name:Str}{apos bM:Pos}{T id:String}{r:V->List V->Hp->VK->Prop}
theorem wb(pa:PlainAttrs T)(slot:Slot T name id)(KR:typeOf (.builtin id)=pure (.type "method_descriptor"))(hm:GY X id r)(ho:PE X o to)(ha:PA X (e::es) t)
 (p8:attributeBase o name X.env (eval o X.env)=eval o X.env:=by rfl)
 (j0:((backTo bM (starEach (e::es) X.env)).all (λx => !x.1) && (backToKw bM (keywordEach [] X.env)).all (λx=>x.1.isSome)
   && decide ((e::es).length+([]:List Keyword).length+(if([]:List Keyword).isEmpty then 0 else 1)<30))=true:=by rfl)
 (p9:(apos.endLine==bM.line)=true:=by rfl) (hs:starEach (e::es) X.env=(false,eval e X.env)::starEach es X.env:=by rfl) (j3:(backTo bM (starEach es X.env)).any (·.1)=false:=by rfl) :
 PE X (.Call (.Attribute o name apos) (e::es) [] bM) (RA X.K T r to t):=by
 intro pins s σ H Q I h;refine wpAny_Call_method_late p8 j0 p9 rfl (aO (ho pins s σ H _ I h) λv s1 ⟨x,H1,I1,r1,ty,q1⟩=>?_);obtain⟨h1,h2⟩:=A6 I1 r1 ty;refine⟨T,id,pa,slot,KR,h1,h2,?_⟩;have hA:=ha bM pins s1 σ H1 _ I1 q1;rw[hs]at hA ⊢;refine Calls.callWith_builtin (by show(false || (backTo bM (starEach es X.env)).any (·.1))=false;rw[j3] <;> rfl) (Calls.evalArgs_plain ?_);exact aO hA λus s2 ⟨vs,H2,I2,r2,q2⟩=>hm pins s2 σ H2 x vs v us Q I2 r1 r2 q2
end
def G0(X:Cx)(id:String)(r:V->List V->Hp->VK->Prop):Prop :=
 ∀(pins:List (Addr×Obj)) (s:Shared) (σ:St) (H:Hp) (x:V) (xs:List V) (v:Value) (us:List Value) (Q:VK),Inv X pins σ H s->RelV x v->Vals xs us->r x xs H Q ->
  wpAny (model X.prog X.w) X.A (call (.builtin id) (v::us)) (EP X pins σ Q) X.xe s
theorem Vals.one:∀{x:V}{us:List Value},Vals [x] us->∃u,us=[u]/\RelV x u
 := by
 intro x us h;cases h with
 | cons r q=>cases q;exact⟨_,rfl,r⟩
theorem Vals.two:∀{x y:V}{us:List Value},Vals [x,y] us->∃u v,us=[u,v]/\RelV x u/\RelV y v
 := by
 intro x y us h;cases h with
 | cons r z=>cases z with
   | cons q z=>cases z;exact⟨_,_,rfl,r,q⟩
theorem Vals.eraseIdx:∀{xs:List V}{us:List Value}(i:Nat),Vals xs us->Vals (xs.eraseIdx i) (us.eraseIdx i)
 | _,_,_,.nil=>.nil
 | _,_,0,.cons _ t=>t
 | _,_,i+1,.cons r t=>.cons r (Vals.eraseIdx i t)
variable {us:List Value}
theorem Vals.reverse{xs:List V}(h:Vals xs us):Vals xs.reverse us.reverse:=by
 induction h with
 | nil=>exact .nil
 | cons r t ih=>rw[List.reverse_cons,List.reverse_cons];exact Vals.append ih (.cons r .nil)
theorem Vals.rep{xs:List V}(h:Vals xs us):∀k:Nat,Vals (replicate k xs).flatten (replicate k us).flatten
 | 0=>.nil
 | k+1=>by
   rw[replicate_succ,replicate_succ,flatten_cons,flatten_cons];exact Vals.append h (Vals.rep h k)
theorem RB:∀(l:List α)(i:Nat),(l.eraseIdx i).length<=l.length
 | [],_=>le_refl _
 | _::_,0=>le_succ _
 | _::r,i+1=>Nat.succ_le_succ (RB r i)
theorem RC(aw:List Value):∀(k:Nat)(acc:List Value),
 foldl (λx1 x2=>x1++x2) acc.toArray (replicate k aw.toArray)=(acc++(replicate k aw).flatten).toArray
 | 0,acc=>by simp
 | k+1,acc=>by
   have e:acc.toArray++aw.toArray=(acc++aw).toArray:=by simp
   have e2:(acc++aw)++(replicate k aw).flatten=acc++(replicate (k+1) aw).flatten:=by
    rw[replicate_succ,flatten_cons,append_assoc]
   rw[<-e2,<-RC aw k (acc++aw),<-e,replicate_succ,foldl_cons]
section
variable {X:Cx}{pins:List (Addr×Obj)}{σ:St}{H:Hp}{s:Shared}{l b:Addr}{xs ys zs:List V}
variable {aw:List Value}
theorem Inv.Ed{its':List Value}{n:Nat}{f:Array Value->Array Value}{t':Nat}(I:Inv X pins σ H s)(hH:H l=some (.lst xs))
 (e:s.heap.get? l=some { cls:=.type "list",data:=.seq aw.toArray n }) (hf:f aw.toArray=its'.toArray) (hv:Vals ys its') (hz:ys.length<=sizeLine) :
 Inv X pins σ (upd H l (.lst ys)) { s with heap:=s.heap.update l (Obj.mapSeq f),toks:=t' }:=by
 have q:=PySem.IsL.update e f;rw[hf]at q;refine I.write (x:=l) (e:=l) (by rw[hH];exact trivial) (.inl rfl) (λb' u hb hu=>(get?_update_other s.heap (Obj.mapSeq f) (Ne.symm hb)).trans hu) ⟨_,q⟩ ?_;exact⟨hz,its',_,hv,q⟩
theorem Inv.A7{t':Nat}(I:Inv X pins σ H s)(hv:Vals ys aw)(hz:ys.length<=sizeLine):
 Inv X pins σ (upd H s.heap.objs.size (.lst ys)) { s with heap:=s.heap.push { cls:=.type "list",data:=.seq aw.toArray },toks:=t' } :=
 I.laid (λ_ _ q=>q05 _ q) (le_refl _) ⟨hz,aw,0,hv,get?_push_size _ rfl⟩
theorem Inv.fresh(I:Inv X pins σ H s):H s.heap.objs.size=none:=I.aJ.fresh (le_refl _)
theorem Inv.qa(I:Inv X pins σ H s)(hH:H l=some (.lst xs)):xs.length<=sizeLine/\∃(aw:List Value)(n:Nat),Vals xs aw/\xs.length=aw.length/\s.heap.get? l=some { cls:=.type "list",data:=.seq aw.toArray n }:=by
 obtain⟨z,aw,n,r,e⟩:=I.aJ l _ hH;exact⟨z,aw,n,r,r.length,e⟩
theorem qb{n:Nat}(h:n<=sizeLine):Builtin.List.listTooLong n=false:=by
 unfold Builtin.List.listTooLong;exact q20 (by omega)
end
section
variable {X:Cx}
inductive jk (x:V)(vs:List V)(H:Hp)(Q:VK):Prop|mk(l:_)(xs:_)(y:_):x=.ref l->vs=[y]->H l=some (.lst xs)->xs.length<sizeLine->Q .bH (upd H l (.lst (xs++[y])))->jk x vs H Q
def va:V->List V->Hp->VK->Prop:=λx vs H Q=>jk x vs H Q
theorem yC:G0 X "list.append" va:=by
 intro pins s σ H x vs v us Q I rx rv h;obtain⟨l,xs,y,rfl,rfl,hH,hz,q⟩:=h;cases rx;obtain⟨u,rfl,ru⟩:=rv.one;obtain⟨z,aw,n,r,hl,e⟩:=I.qa hH;refine call_meets F.slot_list_append ⟨_,e,rfl⟩ F.entry_list_append (F.args_list_append_2 _ _) (PySem.list_append l aw.toArray n u (by rw[q10];omega)) ⟨e,?_⟩;refine⟨.bH,_,I.Ed (its':=aw++[u]) hH e (by simp) (r.append (.cons ru .nil)) ?_,rfl,q⟩;rw[q08,length_singleton];omega
def A8:V->List V->Hp->VK->Prop:=λx vs H Q=>∃l xs i k y,x=.ref l/\vs=[.int i]/\H l=some (.lst xs) /\ -(2 ^ 63)<=i/\i<2 ^ 63/\seqIndex? i xs.length=some k/\xs[k]? = some y/\Q y (upd H l (.lst (xs.eraseIdx k)))
theorem qd:G0 X "list.pop" A8:=by
 intro pins s σ H x vs v us Q I rx rv h;obtain⟨l,xs,i,k,y,rfl,rfl,hH,h1,h2,hk,hy,q⟩:=h;cases rx;obtain⟨u,rfl,ru⟩:=rv.one;obtain⟨t,rfl⟩:=ru;obtain⟨z,aw,n,r,hl,e⟩:=I.qa hH;obtain⟨w,hw,mR⟩:=r.get hy;refine call_meets F.slot_list_pop ⟨_,e,rfl⟩ F.entry_list_pop (F.args_list_pop_2 _ _)
  (MeetsSeq.list_pop_at l aw.toArray n i t k w (fitsIndex_both h1 h2) (by rw[q10,<-hl];exact hk) (by rw[<-Array.getElem?_toList];exact hw) (by rw[q10];omega)) ⟨e,?_⟩
 refine⟨y,_,I.Ed (its':=aw.eraseIdx k) hH e ?_ (r.eraseIdx k) ?_,mR,q⟩
 .show aw.toArray.eraseIdxIfInBounds k=(aw.eraseIdx k).toArray;rw[List.eraseIdxIfInBounds_toArray]
 .have:=RB xs k;omega
inductive xG (x y:V)(H:Hp)(Q:VK):Prop|mk(l:_)(b:_)(xs:_)(zs:_):x=.ref l->y=.ref b->H l=some (.lst xs)->H b=some (.lst zs)->xs.length+zs.length<=sizeLine->(∀p,H p=none->Q (.ref p) (upd H p (.lst (xs++zs))))->xG x y H Q
def KS:R2:=λx y H Q=>xG x y H Q
theorem wy:dB X (binaryOp .Add) KS:=by
 intro pins s σ H x y v u Q I rx ry h;obtain⟨l,b,xs,zs,rfl,rfl,hH,hB,hz,q⟩:=h;cases rx;cases ry;obtain⟨z,aw,n,r,hl,e⟩:=I.qa hH;obtain⟨z2,eZ,n2,r2,cX,e2⟩:=I.qa hB;refine PySem.P.add_list e e2 ?_ (by rw[q10,q10];omega);have ea:aw.toArray++eZ.toArray=(aw++eZ).toArray:=by simp
 rw[ea];exact⟨.ref _,_,I.A7 (t':=s.toks) (r.append r2) (by rw[q08];omega),rfl,q _ I.fresh⟩
def KU:R2:=λx y H Q=>∃l k xs,x=.ref l/\y=.int k/\H l=some (.lst xs) /\ -(2 ^ 63)<=k/\k<2 ^ 63/\xs.length*k.toNat<=sizeLine /\
 ∀p,H p=none->Q (.ref p) (upd H p (.lst (replicate k.toNat xs).flatten))
theorem len_rep{α:Type}(xs:List α)(k:Nat):(replicate k xs).flatten.length=k*xs.length:=by
 induction k with
 | zero=>simp
 | succ k ih=>rw[replicate_succ,flatten_cons,q08,ih,succ_mul,Nat.add_comm]
theorem A9:dB X (binaryOp .Mult) KU:=by
 intro pins s σ H x y v u Q I rx ry h;obtain⟨l,k,xs,rfl,rfl,hH,h1,h2,hz,q⟩:=h;cases rx;obtain⟨t,rfl⟩:=ry;obtain⟨z,aw,n,r,hl,e⟩:=I.qa hH;have hlen:aw.toArray.size*k.toNat<=sizeLine:=by rw[q10,<-hl];exact hz
 have KW:¬aw.toArray.size*k.toNat > (2 ^ 63-1)/8:=by
  have:(sizeLine:Nat)<=(2 ^ 63-1)/8:=by decide
  omega
 have KY:¬(!Builtin.List.listFitsIndex k)=true:=by
  rw[fitsIndex_both h1 h2];exact q23
 have Ee:¬Builtin.List.listTooLong (aw.toArray.size*k.toNat)=true:=by
  rw[qb hlen];exact q23
 have KZ:foldl (λx1 x2=>x1++x2) #[] (replicate (if aw.toArray.isEmpty=true then 0 else k.toNat) aw.toArray)=(replicate k.toNat aw).flatten.toArray:=by
  have f0:∀m:Nat,foldl (λx1 x2=>x1++x2) #[] (replicate m aw.toArray)=(replicate m aw).flatten.toArray:=λm=>by
   have:=RC aw m [];rw[nil_append]at this;exact this
  rw[f0];cases aw with
  | nil=>simp
  | cons a r'=>rw[q00 (by simp)]
 refine wpAny_binaryOp_repeat_ref (T:= "list") (U:= "int") (by decide) ⟨_,e,rfl⟩ (λs'=>typeIs_int s' k t) noFill_list_mul F.fills_int_mul F.slot_int_rmul repeat_list F.slot_int_index.lookup
  (call_meets F.slot_int_rmul (typeIs_int s k t) F.entry_int_rmul (F.args_int_rmul_2 _ _) (int___rmul___int_list k t l aw.toArray n)
    ⟨e,rfl,⟨_,e,rfl⟩,call_meets F.slot_list_mul ⟨_,e,rfl⟩ F.entry_list_mul (F.args_list_mul_2 _ _) (AutoListH.list___mul___list_int_3 l aw.toArray n k t KY KW Ee) ⟨e,?_⟩⟩)
 rw[KZ];exact⟨.ref _,_,I.A7 (t':=s.toks) (r.rep k.toNat) (by rw[len_rep,Nat.mul_comm];exact hz),rfl,q _ I.fresh⟩
end
section
variable {prog:Program}{w:World}{A:Around}{E:Value->Shared->Prop}{s:Shared}
end
section
variable {X:Cx}
end
end L2
namespace Att
open PySem PySem.W PySem.Calls PyProof.Rows
theorem VX{P:Params}{h:Heap}:∀(ns:List Int)(vs:List Value),WellAll P h vs (ns.map WData.int)->IntsAre vs ns:=by
 intro ns
 induction ns with
 | nil =>
   intro vs w;rw[map_nil]at w;cases w;exact .nil
 | cons n ns ih =>
   intro vs w;rw[map_cons]at w;cases w with
   | cons a b =>
     cases a;exact .cons _ _ (ih _ b)
theorem mS{l:OpenLaw}{n:Nat}(hn:l.most=some n){P:Params}{h:Heap}{args:List WData}{vals:List Value}
 (vb:l.row.toRowW.claim.pre args=true) (Ef:WellAll P h vals args) :
 ∃a vs ns,vals=[Value.ref a]/\args=[WData.list (ns.map WData.int)]/\h.get? a=some { cls:=.type "list",data:=.seq vs.toArray }/\IntsAre vs ns/\ns.length<=n:=by
 have Ba:WShape.hasAll [] args [.list .int]=true:=(pre_splitW vb).1;have hc:l.pre.holds [] { args:=args }=true:=(pre_splitW vb).2;obtain⟨d,r,rfl,h1,h2⟩:=hasAllW_cons Ba;obtain rfl:=hasAllW_nil h2;obtain⟨xs,rfl,h3⟩:=hasW_list h1;obtain⟨ns,rfl⟩:=items_int h3;have hlen:ns.length<=n:=by
  unfold OpenLaw.pre at hc;have h4:(WTm.not (.lt (.lit (.int (n:Int))) (.len (.arg 0)))).holds [] { args:=[.list (ns.map .int)] }=true:=by
   have h4:=(holds_andW hc).1;rw[hn]at h4;exact h4
  have h5:=condW_of h4 (w_not (w_lt w_lit (w_len_list (w_arg rfl))));rw[q06]at h5;refine Nat.le_of_not_lt λq=>?_;have q':(n:Int)<((ns.length:Nat):Int):=by omega
  first
   | (rw[q19 q']at h5;exact q02 h5 (by decide))
   | (simp at h5;omega)
 cases Ef with
 | cons w1 w2 =>
   cases w2;cases w1 with
   | list ho K0=>exact⟨_,_,ns,rfl,rfl,ho,VX ns _ K0,hlen⟩
theorem mT(l:OpenLaw)(args:List WData):l.row.toRowW.claim.post args (.bool true) args=true :=
 postW_of (r:=l.row.toRowW) (X:=(true==true))
  (show WShape.has [] (.bool true) .bool=true by first | rfl | decide | simp[WShape.has,WShape.arms,WShape.armsAll])
  (show(WTm.eq .res (.lit (.bool true))).value [] { args:=args,res:=some (.bool true),after:=args }=some (.bool (true==true))from w_eq_bool (w_res rfl) w_lit) rfl
theorem jl{l:OpenLaw}{n:Nat}{q:Program}{loose:List Str}{XP:(Str->Option Value)->Heap->Prop}{YP:World->Heap->Prop}{d:DefRec}
 (hn:l.most=some n) (Eg:d.params.defaults=[])
 (call:∀(w:World)(s₀ s₁:Shared)(mg mb:Str->Option Value)(fa:Addr)(o:Obj)(pm cd doc:Value)(a:Addr)(vs:List Value)(ns:List Int),
   Ground q loose [] XP w s₀ mg mb s₁.heap->YP w s₁.heap ->
   s₁.heap.get? fa=some o->o.data=.func (docDef d.name d.params d.body d.scope pm cd doc)->s₁.heap.CodeRec cd d.name->mg d.name=some (.ref fa) ->
   s₁.heap.get? a=some { cls:=.type "list",data:=.seq vs.toArray }->IntsAre vs ns->ns.length<=n->s₁.gens = #[] ->
   codeAny (model l.prog w) callerA (.call (.ref fa) ⟨[.ref a],[]⟩) (λr s'=>r=.ok (.ret (.bool true))/\OldK s₁.heap s'.heap/\s'.os=s₁.os/\AllBare s'.gens) s₁) :
 WalkO q loose XP YP l.row.toRowW d [] (λf vs=>PySem.call f vs):=by
 intro w s₀ s₁ mg mb G Y fa o pm cd doc dV kV ho hd fB hD hmg hg args vals as vb VY Bb Ef K1;obtain rfl:dV=.none:=Dflts.none hD Eg;obtain rfl:kV=.none:=Dflts.noKw hD;obtain⟨a,vs,ns,rfl,rfl,Bc,hints,hlen⟩:=mS hn vb Ef;refine enter_call (codeAny_mono (call w s₀ s₁ mg mb fa o pm cd doc a vs ns G Y ho (fd_plain hd) fB hmg Bc hints hlen hg) λr s' hq=>?_);obtain⟨rfl,h2,h3,h4⟩:=hq;exact⟨.inl ⟨.bool true,.bool true,[],rfl,λ_=>rfl,.bool true,mT l _,λ_=>⟨List.Pairwise.nil,λ_ hm=>(nomatch hm)⟩⟩,h2,h3,h4⟩
section
variable {prog:Program}{w:World}{A:Around}{E:Value->Shared->Prop}{s:Shared}{K:Frag}
def ledger(h:Heap)(L d:Addr):List (Addr×Obj):=(List.range h.objs.size).filterMap λa=>if a=L\/a=d then none else(h.get? a).map λo=>(a,o)
end
end Att
namespace L2
open PySem PySem.Spec PyProof.Rows
theorem RD:∀{vs:List Value}{ns:List Int},IntsAre vs ns->Vals (ns.map V.int) vs
 | _,_,.nil=>.nil
 | _,_,.cons n t h=>.cons ⟨t,rfl⟩ (RD h)
end L2
namespace L2
open PySem PySem.Spec PyProof.Rows
def wO(s:Stmt)(j:Nat):Stmt:=match s with
 | .ClassDef _ _ _ body _ _ _ _ _ _ _=>body.getD j (.Pass ⟨0,0,0,0⟩)
 | _ => .Pass ⟨0,0,0,0⟩
def qf(s:Stmt):Arguments:=match s with
 | .FunctionDef _ a _ _ _ _ _ _ _ _=>a
 | _=>{ posonlyargs:=[],args:=[],vararg:=none,kwonlyargs:=[],kw_defaults:=[],kwarg:=none,defaults:=[] }
def wP(s:Stmt):List Stmt:=match s with
 | .FunctionDef _ _ b _ _ _ _ _ _ _=>b
 | _=>[]
def zf(s:Stmt):Scope:=match s with
 | .FunctionDef _ _ _ _ _ _ sc _ _ _=>sc
 | _=>{ kind:=.function,names:=[],isGenerator:=false,isCoroutine:=false }
abbrev aX:oN:=λ_ _ _ _ _ _=>False
abbrev E0:XK:=λ_ _ _=>False
variable {X:Cx}
theorem xH:GW aX X E0:=λ_ _ _ _ _ _ _ h=>h.elim
structure aL (K:Frag) (x qual:Str) (st:Stmt) (f:Addr) (fd:FuncData):Prop where
 ex:∃(oc:Value)(od:Option Addr)(kV doc pm:Value)(an:Option Addr)(aG ct:Value)(i7:Array (Option Value)),
  fd=fnOf x qual (qf st) (wP st) (zf st) .none kV doc pm an aG ct/\K.lookup f=some ⟨oc,od,.func fd,i7⟩/\codeIn K aG qual=true
 kp:keepIn K (.ref f)=true
section
variable {P:Program}{w:World}{K:Frag}{mg:Str->Option Value}{base:Heap}
variable {x qual:Str}{st:Stmt}{f:Addr}{fd:FuncData}{ps:List Str}
theorem aL.ok{N:List Str}{k:Nat}{sp:Sp}(F:aL K x qual st f fd)(S:ag N ps (zf st))(len:∀vs H Q E,sp vs H Q E->vs.length=ps.length)
 (eY:∀(aG:Value)(A:Around)(outer:List Env)(s:Shared)(H:Hp)(vs:List V)(Q:VK)(E:XK),bo k (A.deeper (envOfC qual (zf st) s.heap.objs.size f aG))->sp vs H Q E ->
   ∃t,jJ (gx aX P w K mg base N qual (zf st) f aG A outer s H E).Ck (wP st) t/\t { nx:=λ_ H'=>Q .bH H',rt:=Q } (jK N vs) H):ar P w K mg base aX (k+1) f fd ps sp:=by
 obtain⟨oc,od,kV,doc,pm,an,aG,ct,i7,rfl,lk,fB⟩:=F.ex;refine pU lk fB S len λA outer s H vs Q E hr hZ=>?_;obtain⟨t,h,q⟩:=eY aG A outer s H vs Q E hr hZ;exact⟨t,h.Ck,q⟩
theorem aL.binds(F:aL K x qual st f fd)
 (h:∀(kV doc pm:Value)(an:Option Addr)(aG ct:Value)(us:List Value),us.length=ps.length->bindArgs (fnOf x qual (qf st) (wP st) (zf st) .none kV doc pm an aG ct) ⟨us,[]⟩=pure (ps.zip us)):Binds K fd ps []:=by
 obtain⟨oc,od,kV,doc,pm,an,aG,ct,i7,rfl,lk,fB⟩:=F.ex;exact .all (h kV doc pm an aG ct)
theorem Cp{oc:Value}{od an:Option Addr}{i7:Array (Option Value)}{kV doc pm aG ct:Value}(l:K.lookup f=some ⟨oc,od,.func (fnOf x qual (qf st) (wP st) (zf st) .none kV doc pm an aG ct),i7⟩)
 (c:codeIn K aG qual=true) (k:keepIn K (.ref f)=true):aL K x qual st f (fnOf x qual (qf st) (wP st) (zf st) .none kV doc pm an aG ct):=⟨⟨oc,od,kV,doc,pm,an,aG,ct,i7,rfl,l,c⟩,k⟩
end
variable {k:Nat}
theorem Cq{A:Around}(hr:bo k A):A.units+1<cLine:=Nat.lt_of_le_of_lt (Nat.add_le_add_left (by decide:1<=64) _) hr.units
section
variable {X:Cx}
theorem pv(i:Nat){x:Str}{pos:Pos}(hN:X.N[i]? = some x:=by rfl)(hv:DB X.env.scope x:=by first | exact Or.inl rfl | exact Or.inr (Or.inl rfl) | exact Or.inr (Or.inr rfl))(hd:(x==("__debug__":Str))=false:=by decide)
 (fB:(x==("__classdict__":Str))=false:=by decide):PE X (.Name x pos) (DG i):=pk hN hv hd fB
end
variable {A B:Prop}
theorem fP(h:B):if false=true then A else B:=by
 rw[q00 q23];exact h
theorem oP(h:A):if true=true then A else B:=by
 rw[q01 rfl];exact h
theorem qg{c:Prop} [Decidable c](hc:c)(h:B):if(!decide c)=true then A else B:=by
 rw[q19 hc];exact fP h
def ae(H H':Hp):Prop:=∀b o,H b=some o->H' b=some o
theorem ae.refl(H:Hp):ae H H:=λ_ _ h=>h
variable {H:Hp}
theorem ae.trans{H1 H2:Hp}(a:ae H H1)(b:ae H1 H2):ae H H2:=λc o h=>b c o (a c o h)
variable {H':Hp}{l:Addr}
theorem ae.free(e:ae H H')(h:H' l=Option.none):H l=Option.none:=by
 cases q:H l with
 | none=>rfl
 | some o =>
   rw[e l o q]at h;cases h
variable {K:Frag}{a:Addr}{xs:List V}
theorem ae.seq(e:ae H H')(h:ai K H a xs):ai K H' a xs:=by
 rcases h with(h | ⟨o,h⟩) | h
 .exact .inl (.inl (e _ _ h))
 .exact .inl (.inr ⟨o,e _ _ h⟩)
 .exact .inr h
theorem K2{env:Env}:∀(l:List (Str×NameKind)) (acc:List (Str×Addr)),(∀y∈l,y.2=.free->∃c,env.cells.lookup y.1=some c)->(∀y c,acc.lookup y=some c->env.cells.lookup y=some c) ->
 ∃cl,(forIn l acc fun(x:Str×NameKind) (r:List (Str×Addr))=>if(x.2==NameKind.free)=true then(do let a <-cellOf env x.1;pure (ForInStep.yield ((x.1,a)::r)))else(pure (ForInStep.yield r):Sem (ForInStep (List (Str×Addr)))))=(pure cl:Sem (List (Str×Addr))) /\
  (∀y c,cl.lookup y=some c->env.cells.lookup y=some c)/\(∀y,((y,NameKind.free)∈l\/(acc.lookup y).isSome=true)->∃c,cl.lookup y=some c)
 | [],acc,_,ha=>⟨acc,rfl,ha,λy h=>by
    rcases h with h | h
    .cases h
    .exact Option.isSome_iff_exists.mp h⟩
 | (n,k)::r,acc,h,ha=>by
   by_cases hk:k=.free
   .subst hk;obtain⟨c,hc⟩:=h (n,.free) q14 rfl;obtain⟨cl,e,h1,h2⟩:=K2 r ((n,c)::acc) (λy hy=>h y (q13 _ hy)) (λy d hd=>by
     rw[lookup_cons]at hd;by_cases hy:y=n
     .subst hy;simp at hd;subst hd;exact hc
     .rw[beq_eq_false_iff_ne.mpr hy]at hd;exact ha y d hd)
    refine⟨cl,?_,h1,λy hy=>h2 y ?_⟩
    .rw[forIn_cons];have:cellOf env n=pure c:=by unfold cellOf;rw[hc]
     simp only[this];exact e
    .rcases hy with hy | hy
     .rcases q27.mp hy with z | z
      .have:y=n:=by injection z
       right;simp[lookup_cons,this]
      .exact .inl z
     .right;rw[lookup_cons];split
      .rfl
      .exact hy
   .obtain⟨cl,e,h1,h2⟩:=K2 r acc (λy hy=>h y (q13 _ hy)) ha;refine⟨cl,?_,h1,λy hy=>h2 y ?_⟩
    .rw[forIn_cons];have hb:(k==NameKind.free)=false:=by simpa using hk
     simp only[hb];exact e
    .rcases hy with hy | hy
     .rcases q27.mp hy with z | z
      .injection z with _ z2;exact q02 z2.symm hk
      .exact .inl z
     .exact .inr hy
variable {env:Env}{scope:Scope}
theorem Cr(h:∀y∈scope.names,y.2=.free->∃c,env.cells.lookup y.1=some c):
 ∃cl,closureFor scope env=pure cl/\(∀y c,cl.lookup y=some c->env.cells.lookup y=some c)/\∀y,(y,NameKind.free)∈scope.names->∃c,cl.lookup y=some c:=by
 obtain⟨cl,e,h1,h2⟩:=K2 scope.names [] h (λy c z=>by cases z);refine⟨cl,?_,h1,λy hy=>h2 y (.inl hy)⟩;unfold closureFor;exact(congrArg (fun(m:Sem (List (Str×Addr)))=>m >>= λr=>pure r) e).trans rfl
theorem K3{f:Str×NameKind->Str×NameKind}(h1:∀p,(f p).1=p.1):∀{names:List (Str×NameKind)} {y:Str} {k:NameKind},(names.map f).lookup y=some k->∃k0,(y,k0)∈names/\(f (y,k0)).2=k
 | [],_,_,h=>by cases h
 | p::r,y,k,h=>by
   rw[map_cons]at h;generalize hq:f p=q at h;obtain⟨q1,q2⟩:=q;rw[lookup_cons]at h;have e1:q1=p.1:=by have:=h1 p;rw[hq]at this;exact this
   by_cases hy:y=q1
   .have hb:(y==q1)=true:=by simp[hy]
    rw[hb]at h;have h':q2=k:=q22 h;refine⟨p.2,?_,?_⟩
    .rw[hy,e1];exact q14
    .rw[hy,e1];have:f (p.1,p.2)=(q1,q2):=hq;rw[this];exact h'
   .rw[beq_eq_false_iff_ne.mpr hy]at h;obtain⟨k0,m,e⟩:=K3 h1 (names:=r) h;exact⟨k0,q13 _ m,e⟩
theorem G1{f:Str×NameKind->Str×NameKind}(h1:∀p,(f p).1=p.1):∀{names:List (Str×NameKind)} {y:Str} {k:NameKind},names.lookup y=some k->(names.map f).lookup y=some (f (y,k)).2
 | [],_,_,h=>by cases h
 | p::r,y,k,h=>by
   rw[map_cons];obtain⟨p1,p2⟩:=p;have e1:=h1 (p1,p2);generalize hq:f (p1,p2)=q at e1 ⊢;obtain⟨q1,q2⟩:=q;have e1:q1=p1:=e1;subst e1;rw[lookup_cons]at h ⊢;by_cases hy:y=q1
   .have hb:(y==q1)=true:=by simp[hy]
    rw[hb]at h ⊢;have h':p2=k:=q22 h;subst h';subst hy;show some q2=_;rw[hq]
   .rw[beq_eq_false_iff_ne.mpr hy]at h ⊢;exact G1 h1 h
def rl(env:Env)(p:Str×NameKind):Str×NameKind:=if(p.2==NameKind.free && env.scope.kind == .function && env.kindOf p.1==some .cell)then(p.1,NameKind.cell)else(p.1,p.2)
theorem Eh(env:Env)(p:Str×NameKind):(rl env p).1=p.1:=by unfold rl;split <;> rfl
theorem vc(env:Env)(y:Str):(rl env (y,.free)).2=.cell\/(rl env (y,.free)).2=.free:=by
 unfold rl;split
 .exact .inl rfl
 .exact .inr rfl
theorem G2(env:Env)(y:Str)(k:NameKind)(h:k ≠ .free):(rl env (y,k)).2=k:=by
 unfold rl;have hb:(k==NameKind.free)=false:=by simpa using h
 simp[hb]
theorem Ei(scope:Scope)(env:Env):(relabel scope env).names=scope.names.map (rl env):=rfl
variable {y:Str}
theorem VZ(hc:∀z∈scope.names,z.2 ≠ .cell)(h:(relabel scope env).names.lookup y=some .cell\/(relabel scope env).names.lookup y=some .free):(y,NameKind.free)∈scope.names:=by
 rw[Ei]at h;have go:∀k,(k=.cell\/k=.free)->(scope.names.map (rl env)).lookup y=some k->(y,NameKind.free)∈scope.names:=λk hk q=>by
  obtain⟨k0,m,e⟩:=K3 (Eh env) q;by_cases hf:k0=.free
  .rw[hf]at m;exact m
  .rw[G2 env y k0 hf]at e;rcases hk with z | z
   .exact q02 (e.trans z) (hc _ m)
   .exact q02 (e.trans z) hf
 rcases h with h | h
 .exact go _ (.inl rfl) h
 .exact go _ (.inr rfl) h
theorem K4(h:scope.names.lookup y=some .free):(relabel scope env).names.lookup y=some .cell\/(relabel scope env).names.lookup y=some .free:=by
 rw[Ei,G1 (Eh env) h];rcases vc env y with z | z
 .exact .inl (congrArg some z)
 .exact .inr (congrArg some z)
def cY(X:Cx)(N:List Str)(scope:Scope)(cl:List (Str×Addr))(C:Addr)(s2:Shared)(H2:Hp)(fp:List Addr):Cx where
 prog:=X.prog
 w:=X.w
 K:=X.K
 mg:=X.mg
 base:=X.base
 A:=X.A
 N:=N
 s₀:=s2
 H₀:=H2
 env:=compEnvC scope cl C X.env
 outer:=X.stack
 stack:=X.stack
 ex:=fp
 fn:=λ_=>false
 calm:=X.calm
 pn:=[]
 xe:=λ_ _=>False
structure ak (sc:Scope) (N:List Str) (x:Str) (fr:List Str) (ix:List Nat) (scope:Scope):Prop where
 kind:scope.kind=.function
 bV:∀y∈scope.names,y.2 ≠ .cell
 lA:∀y∈scope.names,y.2=.local->scope.names.lookup y.1=some .local
 lx:scope.names.lookup x=some .local
 free:∀y∈scope.names,y.2=.free->sc.names.lookup y.1=some .cell\/sc.names.lookup y.1=some .free
 at':fr.map some=ix.map λi=>N[i]?
 qi:∀y∈fr,scope.names.lookup y=some .free/\(sc.names.lookup y=some .cell\/sc.names.lookup y=some .free)
 nd:(x::fr).Nodup
def fQ(ix:List Nat)(σ:St):St:=ix.map λi=>(σ[i]?).join
variable {ix:List Nat}
theorem lB{σ:St}:(fQ ix σ).length=ix.length:=by unfold fQ;rw[q06]
def ud(X:Cx)(ifs:List Expr)(t:TT):Prop :=
 ∀(pins:List (Addr×Obj)) (s:Shared) (σ:St) (H:Hp) (Q:Bool->Hp->Prop),Inv X pins σ H s->t σ H Q ->
  wpAny (model X.prog X.w) X.A (forIn ifs true λc r=>if r=true then do let ok <-isTrue c X.env (eval c X.env);pure (ForInStep.yield ok)else pure (ForInStep.yield r)) (TP X pins σ Q) X.xe s
def ue:TT:=λ_ H Q=>Q true H
theorem yk:ud X [] ue:=λ_ _ _ H _ I h=>wpAny_tests_nil ⟨H,I,h⟩
theorem yI{c:Expr}{t:TT}(h:PT X c t):ud X [c] t:=λpins s σ H Q I q=>wpAny_tests_one (h pins s σ H Q I q)
def cU(J:It)(c:St)(tc:TT)(te:TE)(H1:Hp)(fin:List V->Hp->Prop):Prop :=
 ∃W:Nat->Nat->List V->Hp->Prop,(∃m,W 0 m [] H1)/\∀i m ys H,W i m ys H ->
  (J.stop i H/\ys.length<=sizeLine/\fin ys H) \/
  (J.go i H/\ys.length<sizeLine/\∃N:List V->Hp->Prop,(∀ys' H',N ys' H'->∃m',m'<m/\W (i+1) m' ys' H')/\∀x H',J.uN i H x H'->tc (some x::c) H' λb H2=>if b=true then te (some x::c) H2 λy H3=>N (ys++[y]) H3 else N ys H2)
def qj(ix:List Nat)(wi:TI)(tc:TT)(te:TE):TE:=λσ H Q=>wi σ H λJ H1=>cU J (fQ ix σ) tc te H1 λys H2=>∀l,H2 l=none->Q (.ref l) (upd H2 l (.lst ys))
variable {w:World}{s:Shared}
theorem RE{prog:Program}{A:Around}{R:Result->Shared->Prop}{elt tg RF:Expr}{tests:List Expr}{pos:Pos}{it acc:Value}(J:Nat->Shared->Prop)
 (turn:∀n s,J n s->wpAny (model prog w) A (pyNext it) (λr s1=>match r with
   | none=>R (.ok .next) s1
   | some v=>wpAny (model prog w) A (letOwnedTupleGo tg it v) (λ_ s2=>wpAny (model prog w) A (assign tg env v) (λ_ s3 =>
      wpAny (model prog w) A (forIn tests true λc r=>if r=true then do let ok <-isTrue c env (eval c env);pure (ForInStep.yield ok)else pure (ForInStep.yield r)) (λok s4 =>
       if ok=true then wpAny (model prog w) A (eval elt env) (λx s5 =>
        wpAny (model prog w) A (call (.builtin "list.append") [acc,x]) (λ_ s6=>∃m,m<n/\J m s6) (λ_ _=>False) s5) (λ_ _=>False) s4
       else ∃m,m<n/\J m s4) (λ_ _=>False) s3) (λ_ _=>False) s2) (λ_ _=>False) s1) (λ_ _=>False) s)
 (n:Nat) (h:J n s):codeAny (model prog w) A (.compLoop (.ListComp elt [⟨tg,RF,tests,0⟩] scope pos) 0 it acc env) R s:=by
 have up:∀{α:Type}{t:Sem α}{q q':α->Shared->Prop}{E':Value->Shared->Prop}{s:Shared},wpAny (model prog w) A t q (λ_ _=>False) s->(∀a s,q a s->q' a s)->wpAny (model prog w) A t q' E' s:=λh k=>wpAny_mono h k λ_ _ z=>False.elim z;refine codeAny_loop rfl J (λn s hJ=>?_) n h;show wpAny _ A ((compTurn (.ListComp elt [⟨tg,RF,tests,0⟩] scope pos) 0 it acc env).onRaise (λx=>do noteFrame x env;theTreesLotGoes x)) _ _ s;refine wpAny_noted ?_;rw[compTurn_list];refine q03 (wpAny_standAt (q03 (up (turn n s hJ) λr s1 h1=>?_)));cases r with
 | none=>exact q04 h1
 | some v =>
   refine q03 (up h1 λ_ s2 h2=>q03 (up h2 λ_ s3 h3=>q03 (up h3 λok s4 h4=>?_)));cases ok with
   | false=>exact q04 ⟨rfl,h4⟩
   | true =>
     exact q03 (q03 (up h4 λx s5 h5=>q03 (up h5 λ_ s6 h6=>q04 (q04 ⟨rfl,h6⟩))))
structure bD (sc:Scope) (N:List Str) (P:List Str) (fr:List Str) (ix:List Nat) (scope:Scope):Prop where
 kind:scope.kind=.function
 bV:∀y∈scope.names,y.2 ≠ .cell
 lA:∀y∈scope.names,y.2=.local->scope.names.lookup y.1=some .local
 free:∀y∈scope.names,y.2=.free->sc.names.lookup y.1=some .cell\/sc.names.lookup y.1=some .free
 at':fr.map some=ix.map λi=>N[i]?
 qi:∀y∈fr,scope.names.lookup y=some .free/\(sc.names.lookup y=some .cell\/sc.names.lookup y=some .free)
 nd:(P++fr).Nodup
section
variable {X:Cx}{pins:List (Addr×Obj)}{σ:St}{H:Hp}{s:Shared}{P:List Str}{fr:List Str}{ix:List Nat}{scope:Scope}{cl:List (Str×Addr)}{fp:List Addr}{C D:Addr}
theorem vd(S:bD X.env.scope X.N P fr ix scope)(I:Inv X pins σ H s)(hf:∀b∈fp,fq X pins H b)(jm:∀b∈fp,b<s.heap.objs.size)(hC:s.heap.objs.size<=C)
 (h1:∀y c,cl.lookup y=some c->X.env.cells.lookup y=some c) (h2:∀y,(y,NameKind.free)∈scope.names->∃c,cl.lookup y=some c):(cY X (P++fr) scope cl C s H fp).Ok where
 mod:=I.ok.mod
 kind:=S.kind
 glob:=I.ok.glob
 blt:=I.ok.blt
 above:=hC
 inj:=λy z c a b=>I.ok.inj y z c (h1 y c a) (h1 z c b)
 has:=λy hy=>h2 y (VZ (env:=X.env) (scope:=scope) S.bV hy)
 tV:=λy c h _=>Bool.noConfusion (show false=true from h)
 hd:=I.ok.hd
 frames:=I.ok.frames
 uK:=.inl rfl
 pe:=λb hb=>⟨λz=>q02 (jm b hb) (by rw[z];exact Nat.not_lt.mpr hC),λy c e=>(hf b hb).2.2.2.2.1 y c (h1 y c e)⟩
 bs:=I.bs
 jf:=q38 I.ok.jf I.sz
 gp:=λb o e hb=>by
  rcases (hf b hb).2.2.2.1 with z | z
  .exact I.ok.gp b o e z
  .exact q02 (q21 (lt_size e) (q38 I.ok.jf z)) (q37 _)
 gq:=λb hb z=>by
  rcases q27.mp (I.iH b z)with e | e
  .exact(hf b hb).2.1 e
  .exact(hf b hb).2.2.1 e
 da:=I.stack
 mD:=I.eX
theorem bD.len(S:bD X.env.scope X.N P fr ix scope):fr.length=ix.length:=by have:=congrArg List.length S.at';simpa using this
theorem ql{s':Shared}{pn:List (Addr×Obj)}{m:Str->Option Value}(S:bD X.env.scope X.N P fr ix scope)(I:Inv X pins σ H s)(hf:∀b∈fp,fq X pins H b)(jm:∀b∈fp,b<s.heap.objs.size)(hC:s.heap.objs.size<=C)
 (h1:∀y c,cl.lookup y=some c->X.env.cells.lookup y=some c) (h2:∀y,(y,NameKind.free)∈scope.names->∃c,cl.lookup y=some c)
 (ho:s'.os=s.os) (hg:s'.gens=s.gens) (k:∀b o,s.heap.get? b=some o->s'.heap.get? b=some o) (hn:s'.heap.Ns C m)
 (hp:∀p∈pn,s'.heap.get? p.1=some p.2/\s.heap.objs.size<=p.1/\p.1≠C/\∀v,p.2.data ≠ .cell v) :
 Inv (cY X (P++fr) scope cl C s H fp) pn (P.map (λ_=>none)++fQ ix σ) H s':=by
 obtain⟨mX,V0,K5⟩:=I.loc;refine⟨vd S I hf jm hC h1 h2,ho,by rw[hg];exact I.bare,Un.kept k,⟨m,hn,λi y v e1 e2 e3=>?_⟩,λy c e=>?_,I.aJ.fresh hC,λy c e=>I.cG y c (h1 y c e),λp xI=>?_,I.aJ.kept k,by
  show(P.map (λ_=>none)++fQ ix σ).length=(P++fr).length;rw[q08,q08,q06,lB,S.len]⟩
 .by_cases hi:i<P.length
  .rw[List.getElem?_append_left (by rw[q06];exact hi),q26]at e2;cases hP:P[i]? with
   | none=>rw[hP]at e2;cases e2
   | some p=>rw[hP]at e2;cases e2
  .obtain⟨j,rfl⟩:=Nat.exists_eq_add_of_le (Nat.le_of_not_lt hi);have qm:fr[j]? = some y:=by
    have e1:(P++fr)[P.length+j]? = some y:=e1;rw[q29 (le_add_right _ _),Nat.add_sub_cancel_left]at e1;exact e1
   have jn:(fQ ix σ)[j]? = some (some v):=by
    rw[q29 (by rw[q06];exact le_add_right _ _),q06,Nat.add_sub_cancel_left]at e2;exact e2
   obtain⟨f1,f2⟩:=S.qi y (mem_of_getElem? qm);unfold fQ at jn;rw[q26]at jn;cases ei:ix[j]? with
   | none=>rw[ei]at jn;cases jn
   | some i =>
     rw[ei]at jn;have j4:(σ[i]?).join=some v:=q22 jn;have e4:σ[i]? = some (some v):=by
      cases q:σ[i]? with
      | none=>rw[q]at j4;cases j4
      | some w=>rw[q]at j4;have:w=some v:=j4;rw[this]
     have e5:X.N[i]? = some y:=by
      have:=congrArg (λl=>l[j]?) S.at';simp only[q26,qm,ei]at this
      simpa using this.symm
     have K6:DB X.env.scope y:=by
      rcases f2 with z | z
      .exact .inr (.inl z)
      .exact .inr (.inr z)
     obtain⟨u,r,l⟩:=K5 i y v e5 e4 K6;refine⟨u,r,.inr ⟨K4 f1,?_⟩⟩;rcases l with⟨z,_⟩|⟨_,c,ec,hc⟩
     .rcases f2 with q | q
      .have q':=(show X.env.scope.names.lookup y=some .local from z).symm.trans q;cases q'
      .have q':=(show X.env.scope.names.lookup y=some .local from z).symm.trans q;cases q'
     .obtain⟨c',jI⟩:=h2 y (PySem.mem_of_lookup f1);have:c'=c:=by have:=h1 y c' jI;rw[ec]at this;exact(q22 this).symm
      subst this;refine⟨c',jI,?_⟩;obtain⟨o,gW,hd⟩:=hc;exact⟨o,k _ _ gW,hd⟩
 .obtain⟨v,o,gW,hd⟩:=I.cell y c (h1 y c e);exact⟨v,o,k _ _ gW,hd⟩
 .have Bd:p∈pn:=by simpa [cY] using xI
  obtain⟨q1,q2,q3,q4⟩:=hp p Bd;refine⟨q1,I.aJ.fresh q2,q3,λz=>?_,q4⟩;obtain⟨_,o,gW,_⟩:=I.stack.mem z;exact q02 (q21 (lt_size gW) q2) (q37 _)
end
def G3(n:Nat)(tg:TG)(J:It)(c:St)(tc:TT)(te:TE)(H1:Hp)(fin:List V->Hp->Prop):Prop :=
 ∃W:Nat->Nat->List V->Hp->Prop,(∃m,W 0 m [] H1)/\∀i m ys H,W i m ys H ->
  (J.stop i H/\ys.length<=sizeLine/\fin ys H) \/
  (J.go i H/\ys.length<sizeLine/\∃N:List V->Hp->Prop,(∀ys' H',N ys' H'->∃m',m'<m/\W (i+1) m' ys' H')/\∀x H',J.uN i H x H'->∀v:St,v.length=n->tg x (v++c) H' λσ6 H6=>∃w,σ6=w++c/\H6=H'/\w.length=n/\tc (w++c) H' λd H2=>if d=true then te (w++c) H2 λy H3=>N (ys++[y]) H3 else N ys H2)
section
variable {X:Cx}{P:List Str}{fr:List Str}{ix:List Nat}{scope:Scope}{elt iter:Expr}{ifs:List Expr}{G4:Expr}{pos:Pos}{wi:TI}{tc:TT}{te:TE}{tg:TG}
theorem Ej{use:Option (Value->Sem Unit)}{Q:Value->Shared->Prop}{pins:List (Addr×Obj)}{s2:Shared}{σ:St}{H2:Hp}{it:Addr}{fp:List Addr}{tn:Nat->Heap->Prop}{J:It}{cl:List (Str×Addr)}(S:bD X.env.scope X.N P fr ix scope)(pg:∀cl C s2 H2 fp,PG (cY X (P++fr) scope cl C s2 H2 fp) G4 tg)(hc:X.calm=true)
 (j6:∀cl C s2 H2 fp,ud (cY X (P++fr) scope cl C s2 H2 fp) ifs tc) (he:∀cl C s2 H2 fp,PE (cY X (P++fr) scope cl C s2 H2 fp) elt te)
 (h1:∀y c,cl.lookup y=some c->X.env.cells.lookup y=some c) (h2:∀y,(y,NameKind.free)∈scope.names->∃c,cl.lookup y=some c)
 (I2:Inv X pins σ H2 s2) (T:Turn X.prog X.w X.K G4 J fp it tn) (iI:tn 0 s2.heap) (f2:∀b∈fp,fq X pins H2 b) {fin:List V->Hp->Prop} (wc:G3 P.length tg J (fQ ix σ) tc te H2 fin)
 (hQ:∀(D C:Addr)(ys:List V)(H':Hp)(s':Shared)(m:Str->Option Value),Inv X pins σ (upd H' D (.lst ys)) s'->H' D=none->s'.heap.Ns C m->D≠C->s2.heap.objs.size<=C->H' C=none->fin ys H' ->
   compPost (model X.prog X.w) X.A X.xe use Q (.ref D) C (.ok .next) s') :
 wpAny (model X.prog X.w) X.A (newList []) (λacc s₃=>wpAny (model X.prog X.w) X.A (newFunctionEnv scope X.env.globals cl [] X.env.qual none .none (some X.env)) (λqo s₄ =>
  codeAny (model X.prog X.w) X.A (.compStart (.ListComp elt [⟨G4,iter,ifs,0⟩] scope pos) 0 (.ref it) acc { qo with scope:=relabel scope X.env }) (compPost (model X.prog X.w) X.A X.xe use Q acc qo.locals) s₄) X.xe s₃) X.xe s2:=by
 have jm:∀b∈fp,b<s2.heap.objs.size:=λb hb=>by
  obtain⟨o,e,_⟩:=T.obj 0 _ iI b hb;exact lt_size e
 refine wpAny_newObj_type (wpAny_newFunctionEnv S.bV (by intro y hy;simp at hy) (λh₁ jo qp=>?_) S.kind);dsimp only at jo qp ⊢;generalize Be:s2.heap.push { cls:=.type "list",dict:=none,data:=.seq ([]:List Value).toArray }=gA at jo qp ⊢;have Bf:gA.objs.size=s2.heap.objs.size+1:=by rw[<-Be,size_push]
 have gR:s2.heap.objs.size≠gA.objs.size:=by rw[Bf];exact ne_of_lt (lt_succ_self _)
 have jq:s2.heap.objs.size<=gA.objs.size:=by rw[Bf];exact le_succ _
 have Bg:∀b,b<s2.heap.objs.size->b≠gA.objs.size:=λb hb=>by rw[Bf];exact ne_of_lt (lt_succ_of_lt hb)
 have old:∀b o,s2.heap.get? b=some o->h₁.get? b=some o:=λb o e=>qp.extBut b o (Bg b (lt_size e)) (q05 _ (Be ▸ q05 _ e));have fW:h₁.get? s2.heap.objs.size=some { cls:=.type "list",data:=.seq ([]:List Value).toArray 0 }:=qp.extBut _ _ gR (q05 _ (Be ▸ get?_push_size _ rfl));have Ek:tn 0 h₁:=T.keep 0 _ _ iI λb _ o e=>old b o e;have Bh:∀b∈fp,b≠s2.heap.objs.size:=λb hb=>ne_of_lt (jm b hb);generalize hD:s2.heap.objs.size=D at fW gR Bh ⊢;have qr:s2.heap.objs.size<=D:=le_of_eq hD;generalize hC:gA.objs.size=C at jo qp gR jq ⊢;have qu:∀b o,s2.heap.get? b=some o->b≠D:=λb o e z=>q02 (lt_size e) (by rw[z,<-hD];exact q37 _);obtain⟨W,⟨m0,w0⟩,turn⟩:=wc;have loop:∀s₃:Shared,s₃={ s2 with heap:=h₁,toks:=s2.toks+([]:List (Str×Value)).length } ->
  codeAny (model X.prog X.w) X.A (.compLoop (.ListComp elt [⟨G4,iter,ifs,0⟩] scope pos) 0 (.ref it) (.ref D) (compEnvC scope cl C X.env))
   (compPost (model X.prog X.w) X.A X.xe use Q (.ref D) C) s₃:=by
  rintro s₃ rfl;have I0:Inv (cY X (P++fr) scope cl C s2 H2 fp) [(D,{ cls:=.type "list",data:=.seq ([]:List Value).toArray 0 })] (P.map (λ_=>none)++fQ ix σ) H2 { s2 with heap:=h₁,toks:=s2.toks+([]:List (Str×Value)).length } :=
   ql S I2 f2 jm jq h1 h2 rfl rfl old jo (λp hp=>by
    have e:p=(D,{ cls:=.type "list",data:=.seq ([]:List Value).toArray 0 }):=by simpa using hp
    subst e;exact⟨fW,qr,gR,λv z=>by cases z⟩)
  have gu:∀{aw:Obj}{H':Hp},(∀b∈fp,H' b=none)->∀b∈fp,fq (cY X (P++fr) scope cl C s2 H2 fp) [(D,aw)] H' b:=λ{aw H'} hn b hb=>by
   refine⟨hn b hb,λz=>?_,λz=>(I0.ok.gq b hb z),.inl hb,λy c e=>(I0.ok.pe b hb).2 y c e,λp hp z=>?_⟩
   .exact(I0.ok.pe b hb).1 z
   .have e:p=(D,aw):=by simpa [cY] using hp
    subst e;exact Bh b hb (Eq.symm z)
  refine RE (env:=compEnvC scope cl C X.env)
   (λn s'=>∃i ys aw k v0 H',Vals ys aw/\Inv (cY X (P++fr) scope cl C s2 H2 fp) [(D,{ cls:=.type "list",data:=.seq aw.toArray k })] (v0++fQ ix σ) H' s'/\v0.length=P.length/\tn i s'.heap/\(∀b∈fp,H' b=none)/\W i n ys H') ?_ m0
   ⟨0,[],[],0,P.map (λ_=>none),H2,.nil,I0,q06 _,Ek,λb hb=>(f2 b hb).1,w0⟩
  rintro n s3 ⟨i,ys,aw,k,v0,H3,rv,I3,V1,tY,xr,w3⟩;rcases turn i n ys H3 w3 with⟨stop,hz,Bi⟩|⟨go,hz,N,hN,step⟩
  .refine aO (T.done (cY X (P++fr) scope cl C s2 H2 fp) rfl rfl rfl hc i _ s3 _ H3 _ I3 (gu xr) tY stop) λr s4 ⟨hr,I4⟩=>?_;subst hr;have pD:=I4.pin (D,{ cls:=.type "list",data:=.seq aw.toArray k }) (by simp[cY]);obtain⟨mC,K7,_⟩:=I4.loc;have fD:H3 D=none:=pD.2.1;have mU:dz X.prog X.w (upd H3 D (.lst ys)) s4.heap:=λb u e=>by
    by_cases hb:b=D
    .subst hb;rw[ze]at e;cases e;exact⟨hz,aw,k,rv,pD.1⟩
    .rw[zj hb]at e;exact(I4.aJ b u e).eW (λc v _ q=>q) (λc q=>by rw[zj (zr q fD)];exact q) λc xs q=>by rw[zj (zr q fD)];exact q
   have b4:Un (dA X.stack) fp H2 H3 s2.heap s4.heap:=I4.base;have un:Un (dA X.stack) fp H2 (upd H3 D (.lst ys)) s2.heap s4.heap :=
    ⟨b4.keep,b4.slot,λb o q n hx=>by
     rw[zj (qu b o q)];exact b4.free b o q n hx,b4.there,λb xs q=>by rw[zj (zr (b4.cP b xs q) fD)];exact b4.cP b xs q,
     λb o u q=>by rw[zj (zr (b4.cF b o u q) fD)];exact b4.cF b o u q,λb ps q=>by
      obtain⟨more,e⟩:=b4.cW b ps q;exact⟨more,by rw[zj (zr e fD)];exact e⟩⟩
   have I5:Inv X pins σ (upd H3 D (.lst ys)) s4:=I2.pj (ch:=fp) I4.os un mU I4.bare λb hb=>by
    obtain⟨g0,g1,g2,g3,g4,g5⟩:=f2 b hb;exact⟨g3,g1,g4,g5⟩
   exact hQ D C ys H3 s4 mC I5 fD K7 gR jq I4.free Bi
  .refine aO (T.item (cY X (P++fr) scope cl C s2 H2 fp) rfl rfl rfl hc i _ s3 _ H3 _ I3 (gu xr) tY go) λr s4 ⟨u,hr,h4⟩=>?_;subst hr;refine aO h4 λ_ s5 ⟨y,H5,I5,r5,y5,mI,DQ⟩=>?_;have DR:=I5.pinned (gu DQ) (T.obj _ _ mI);refine aO (pg cl C s2 H2 fp _ s5 _ H5 y u _ DR r5 (step y _ y5 v0 V1)) λ_ s6 ⟨σ6,H6,I6,w6,e6,K8,V2,q5⟩=>?_;subst e6 K8;refine aO (j6 cl C s2 H2 fp _ s6 _ _ _ I6 q5) λb s7 ⟨H7,I7,q7⟩=>?_;have again:∀{s8:Shared}{H8:Hp}{its':List Value}{k':Nat}{ys':List V},Vals ys' its'->Inv (cY X (P++fr) scope cl C s2 H2 fp) [(D,{ cls:=.type "list",data:=.seq its'.toArray k' })] (w6++fQ ix σ) H8 s8->(∀b∈fp,∀o,s5.heap.get? b=some o->s8.heap.get? b=some o)->(∀b∈fp,H8 b=none)->N ys' H8 ->
    ∃m,m<n/\∃i ys aw k v0 H',Vals ys aw/\Inv (cY X (P++fr) scope cl C s2 H2 fp) [(D,{ cls:=.type "list",data:=.seq aw.toArray k })] (v0++fQ ix σ) H' s8/\v0.length=P.length/\tn i s8.heap/\(∀b∈fp,H' b=none)/\W i m ys H' :=
    λ{s8 H8 its' k' ys'} K9 I8 kp La nn=>let ⟨m',hm,w8⟩:=hN ys' H8 nn;⟨m',hm,i+1,ys',its',k',w6,H8,K9,I8,V2,T.keep _ _ _ mI kp,La,w8⟩
   cases b with
   | false =>
     rw[q00 q23]at q7 ⊢;refine again rv I7.cH (λb hb o e=>(I7.pin (b,o) (by simp[cY];exact .inr (wX hb e))).1) (λb hb=>?_) q7;obtain⟨o,e,d⟩:=T.obj _ _ mI b hb;exact(I7.pin (b,o) (by simp[cY];exact .inr (wX hb e))).2.1
   | true =>
     rw[q01 rfl]at q7 ⊢;refine aO (he cl C s2 H2 fp _ s7 _ _ _ I7 q7) λv s8 ⟨z,H8,I8,r8,q8⟩=>?_;have pD:=I8.pin (D,{ cls:=.type "list",data:=.seq aw.toArray k }) (by simp[cY]);have V3:ys.length=aw.length:=rv.length;refine append_at (hsz:=by show aw.toArray.size<=sizeLine;rw[q10];lia) pD.1 λh₉ El Em=>?_;have eo:({ cls:=.type "list",data:=.seq (aw.toArray.push v) (k+1) }:Obj)={ cls:=.type "list",data:=.seq (aw++[v]).toArray (k+1) }:=by rw[List.push_toArray]
     rw[eo]at Em;have En:∀b∈fp,∀o,s5.heap.get? b=some o->s8.heap.get? b=some o/\H8 b=none:=λb hb o e=>by
      have q:=I8.pin (b,o) (by simp[cY];exact .inr (wX hb e));exact⟨q.1,q.2.1⟩
     have J8:=I8.cH.cT (pins':=[]) (λp hp=>by cases hp);have jr:fq (cY X (P++fr) scope cl C s2 H2 fp) [] H8 D:=⟨pD.2.1,pD.2.2.1,pD.2.2.2.1,.inr qr,λy c e z=>by
      obtain⟨v,o,ho,_⟩:=I2.cell y c (h1 y c e);exact qu c o ho z,λp hp=>by cases hp⟩
     have I9:Inv (cY X (P++fr) scope cl C s2 H2 fp) [] (w6++fQ ix σ) H8 { s8 with heap:=h₉ }:=J8.turned (t':=s8.toks) (it:=D) (λb o hb e=>(El.2 b hb).trans e) jr.1 jr.2.1 jr.2.2.2.1 jr.2.2.2.2.1 jr.2.2.2.2.2;refine again (its':=aw++[v]) (k':=k+1) (ys':=ys++[z]) (rv.append (.cons r8 .nil)) (I9.cT λp hp=>?_) (λb hb o e=>(El.2 b (Bh b hb)).trans (En b hb o e).1) (λb hb=>?_) q8
     .have e:p=(D,{ cls:=.type "list",data:=.seq (aw++[v]).toArray (k+1) }):=by simpa using hp
      subst e;exact⟨Em,jr.1,jr.2.1,jr.2.2.1,λv z=>by cases z⟩
     .obtain⟨o,e,d⟩:=T.obj _ _ mI b hb;exact(En b hb o e).2
 exact codeAny_compStart_list (loop _ rfl) (T.self X.A 0 _ _ _ Ek (loop _ rfl))
end
section
variable {X:Cx}{pins:List (Addr×Obj)}{σ:St}{H:Hp}{s:Shared}{x:Str}{fr:List Str}{ix:List Nat}{scope:Scope}{cl:List (Str×Addr)}{fp:List Addr}{C D:Addr}
theorem ak.g(S:ak X.env.scope X.N x fr ix scope):bD X.env.scope X.N [x] fr ix scope:=⟨S.kind,S.bV,S.lA,S.free,S.at',S.qi,S.nd⟩
theorem ak.len(S:ak X.env.scope X.N x fr ix scope):fr.length=ix.length:=S.g.len
theorem cU.g{J:It}{c:St}{tc:TT}{te:TE}{fin:List V->Hp->Prop}(h:cU J c tc te H fin):G3 1 (iZ 0) J c tc te H fin:=by
 obtain⟨W,w,t⟩:=h;refine⟨W,w,λi m ys H hw=>(t i m ys H hw).imp id λ⟨go,l,N,n,st⟩=>⟨go,l,N,n,λx H' y v hv=>?_⟩⟩;obtain⟨a,rfl⟩:=List.length_eq_one_iff.mp hv;exact⟨[some x],rfl,rfl,rfl,st x H' y⟩
end
section
variable {X:Cx}{x:Str}{fr:List Str}{ix:List Nat}{scope:Scope}{elt iter:Expr}{ifs:List Expr}{px pos:Pos}{wi:TI}{tc:TT}{te:TE}
theorem zQ(S:ak X.env.scope X.N x fr ix scope)(hc:X.calm=true)(hi:PI X (.Name x px) iter wi)(j6:∀cl C s2 H2 fp,ud (cY X (x::fr) scope cl C s2 H2 fp) ifs tc)(he:∀cl C s2 H2 fp,PE (cY X (x::fr) scope cl C s2 H2 fp) elt te)
 (hs:∀x,foldedSetIterable iter X.env x=pure x:=by intro _;rfl):PE X (.ListComp elt [⟨.Name x px,iter,ifs,0⟩] scope pos) (qj ix wi tc te):=by
 intro pins s σ H Q I h;obtain⟨cl,qw,h1,h2⟩:=Cr (env:=X.env) (scope:=scope) λy hy hf=>I.ok.has y.1 (S.free y hy hf);rw[eval_ListComp];refine wpAny_comprehension_free (use:=none) rfl hs qw S.kind S.lA (aO (hi pins s σ H _ I h) λxv s1 q1=>aO q1 λxp s2 q2=>?_);obtain⟨it,fp,tn,J,H2,rfl,I2,T,iI,f2,wc⟩:=q2;refine Ej S.g (λ_ _ _ _ _=>zM S.nd rfl (.inl (lookup_relabel_local S.lx)) (.inr (lookup_relabel_local S.lx))) hc j6 he h1 h2 I2 T iI f2 wc.g λD C ys H' s' m I' hD hn gR hC qx fin=>?_;refine⟨m,hn,λh' sb=>⟨.ref D,upd H' D (.lst ys),?_,rfl,fin D hD⟩⟩;have dj:fq X pins (upd H' D (.lst ys)) C:=by
  have z:=I2.fV (H':=upd H' D (.lst ys)) hC (by rw[zj (Ne.symm gR)];exact qx);exact z
 exact I'.turned (t':=s'.toks) (it:=C) (λb o hb e=>(sb.2 b hb).trans e) dj.1 dj.2.1 dj.2.2.2.1 dj.2.2.2.2.1 dj.2.2.2.2.2
theorem yu{i:Nat}{y:Str}{py qy:Pos}(S:ak X.env.scope X.N x fr ix scope)(hc:X.calm=true)(hN:X.N.Nodup)(Lb:X.N[i]? = some y)(hy:Loc X.env.scope y)(hi:PI X (.Name x px) iter wi)(j6:∀cl C s2 H2 fp,ud (cY X (x::fr) scope cl C s2 H2 fp) ifs tc)(he:∀cl C s2 H2 fp,PE (cY X (x::fr) scope cl C s2 H2 fp) elt te)
 (Lc:swapsWith (.ListComp elt [⟨.Name x px,iter,ifs,0⟩] scope pos) (some (.Name y py)) qy.line X.env=pure true:=by rfl)
 (hf:X.fn y=true\/X.env.scope.names.lookup y=some .local:=by first | exact .inl rfl | exact .inr rfl | assumption)
 (hs:∀x,foldedSetIterable iter X.env x=pure x:=by intro _;rfl) :
 PS X (.Assign [.Name y py] (.ListComp elt [⟨.Name x px,iter,ifs,0⟩] scope pos) qy) (uM (qj ix wi tc te) (iZ i)):=by
 intro pins s σ H Dn I h;obtain⟨cl,qw,h1,h2⟩:=Cr (env:=X.env) (scope:=scope) λy hy hf=>I.ok.has y.1 (S.free y hy hf);rw[exec_Assign_Name_used _ _ _ _ Lc];refine q03 (wpAny_standAt (q03 ?_));show wpAny _ X.A (do let _ <-comprehension (.ListComp elt [⟨.Name x px,iter,ifs,0⟩] scope pos) scope X.env _ (newList []) false (eval iter X.env) (some (assign (.Name y py) X.env))) _ _ s;refine q03 (aO (Q:=λ_ s'=>SP X pins Dn .next s') ?_ λ_ s' q=>q04 (q04 q));refine wpAny_comprehension_free (use:=some (assign (.Name y py) X.env)) rfl hs qw S.kind S.lA (aO (hi pins s σ H _ I h) λxv s1 q1=>aO q1 λxp s2 q2=>?_);obtain⟨it,fp,tn,J,H2,rfl,I2,T,iI,f2,wc⟩:=q2;refine Ej S.g (λ_ _ _ _ _=>zM S.nd rfl (.inl (lookup_relabel_local S.lx)) (.inr (lookup_relabel_local S.lx))) hc j6 he h1 h2 I2 T iI f2 wc.g λD C ys H' s' m I' hD hn gR hC qx fin=>?_;have dj:fq X pins (upd H' D (.lst ys)) C:=I2.fV (H':=upd H' D (.lst ys)) hC (by rw[zj (Ne.symm gR)];exact qx);show wpAny _ X.A (assign (.Name y py) X.env (.ref D)) _ _ s';refine wpAny_assign_Name (Ki (v:=V.ref D) I' hN Lb hy rfl (λhV Ld ve=>?_) hf);obtain⟨a,sb,ha⟩:=ve;have Le:C≠a:=λz=>by
  rcases ha with q | q
  .exact dj.2.1 (z.trans q)
  .exact dj.2.2.2.2.1 y a q z.symm
 refine⟨m,hn.sameBut sb Le,λh' G5=>⟨_,_,Ld.turned (t':=hV.toks) (it:=C) (λb o hb e=>(G5.2 b hb).trans e) dj.1 dj.2.1 dj.2.2.2.1 dj.2.2.2.2.1 dj.2.2.2.2.2,fin D hD⟩⟩
end
section
variable {X:Cx}
def Eo(xs:List V)(y:V):Nat:=xs.findIdx λz=>jZ z y
theorem RG{x:V}:∀{xs:List V}{us:List Value},Vals xs us->xs.all iA=true->us.findIdx (iL x)=xs.findIdx λy=>jZ y x
 | _,_,.nil,_=>rfl
 | y::xs,u::us,.cons r t,f=>by
   rw[all_cons,q42]at f;rw[findIdx_cons,findIdx_cons,KP r f.1,RG t f.2]
def qz(K:Frag):V->List V->Hp->VK->Prop:=λx vs H Q=>∃l xs y,x=.ref l/\vs=[y]/\ai K H l xs/\iA y=true/\xs.all iA=true/\Eo xs y<xs.length/\Q (.int (Eo xs y:Nat)) H
theorem j7:(sizeLine:Int)<2 ^ 63-1:=by decide
theorem Bj:G0 X "list.index" (qz X.K):=by
 intro pins s σ H x vs v us Q I rx rv h;obtain⟨l,xs,y,rfl,rfl,hH,fy,fs,hj,q⟩:=h;cases rx;obtain⟨u,rfl,ru⟩:=rv.one;obtain⟨aw,r,⟨⟨oc,od,dt,sl⟩,n,e,c1,c2,c3⟩,z⟩:=I.list hH;simp only at c1 c2 c3;subst c1 c2 c3;have hl:=r.length;have ef:=RG (x:=y) r fs;have G6:aw.findIdx (iL y)<aw.length:=by rw[ef,<-hl];exact hj
 refine call_meets F.slot_list_index ⟨_,e,rfl⟩ F.entry_list_index (F.args_list_index_2 _ _)
  (SeqAt.list_indexAt l aw.toArray n none sl u (iL y) (aw.findIdx (iL y)) (by simpa using G6) (by have:=j7;lia) (by simpa using List.findIdx_getElem (w:=G6)) (λm hm bU=>by simpa using List.not_of_lt_findIdx bU)) ⟨e,λw hw=>Co ru fy r fs w (by simpa using hw),?_⟩
 refine⟨.int (Eo xs y:Nat),H,I.tok _,⟨s.toks,?_⟩,q⟩;rw[ef];rfl
def isInt:V->Option Bool
 | .int _=>some true
 | .bl _=>some true
 | .str _=>some false
 | .bH=>some false
 | _=>none
def isBool:V->Option Bool
 | .int _=>some false
 | .bl _=>some true
 | .str _=>some false
 | .bH=>some false
 | _=>none
def isStr:V->Option Bool
 | .int _=>some false
 | .bl _=>some false
 | .str _=>some true
 | .bH=>some false
 | _=>none
inductive qA (K:Frag) (H:Hp):V->Bool->Prop
 | yes {a:Addr} {xs:List V}:ai K H a xs->qA K H (.ref a) true
 | no {a:Addr} {xs:List V}:bX K H a xs->qA K H (.ref a) false
inductive eL (xs:List V)(H:Hp)(Q:VK):Prop|mk(x:_)(b:_):xs=[x,.ty "int"]->isInt x=some b->Q (.bl b) H->eL xs H Q
theorem V4:gZ X (.builtin "isinstance") eL:=by
 intro pins s σ H xs us Q I r h;obtain⟨x,b,rfl,e,q⟩:=h;obtain⟨u,t,rfl,ru,rt⟩:=r.two;cases rt;cases x with
 | int i=>obtain⟨t',rfl⟩:=ru;cases e;exact IsiPair.int_int ⟨.bl true,H,I,rfl,q⟩
 | bl i=>cases ru;cases e;exact IsiPair.bool_int ⟨.bl true,H,I,rfl,q⟩
 | str i=>obtain⟨t',rfl⟩:=ru;cases e;exact IsiPair.str_int ⟨.bl false,H,I.tok _,rfl,q⟩
 | bH=>cases ru;cases e;exact IsiPair.NoneType_int ⟨.bl false,H,I.tok _,rfl,q⟩
 | _=>cases e
inductive dM (xs:List V)(H:Hp)(Q:VK):Prop|mk(x:_)(b:_):xs=[x,.ty "bool"]->isBool x=some b->Q (.bl b) H->dM xs H Q
theorem RH:gZ X (.builtin "isinstance") dM:=by
 intro pins s σ H xs us Q I r h;obtain⟨x,b,rfl,e,q⟩:=h;obtain⟨u,t,rfl,ru,rt⟩:=r.two;cases rt;cases x with
 | int i=>obtain⟨t',rfl⟩:=ru;cases e;exact IsiPair.int_bool ⟨.bl false,H,I.tok _,rfl,q⟩
 | bl i=>cases ru;cases e;exact IsiPair.bool_bool ⟨.bl true,H,I,rfl,q⟩
 | str i=>obtain⟨t',rfl⟩:=ru;cases e;exact IsiPair.str_bool ⟨.bl false,H,I.tok _,rfl,q⟩
 | bH=>cases ru;cases e;exact IsiPair.NoneType_bool ⟨.bl false,H,I.tok _,rfl,q⟩
 | _=>cases e
inductive eM (xs:List V)(H:Hp)(Q:VK):Prop|mk(x:_)(b:_):xs=[x,.ty "str"]->isStr x=some b->Q (.bl b) H->eM xs H Q
theorem RI:gZ X (.builtin "isinstance") eM:=by
 intro pins s σ H xs us Q I r h;obtain⟨x,b,rfl,e,q⟩:=h;obtain⟨u,t,rfl,ru,rt⟩:=r.two;cases rt;cases x with
 | int i=>obtain⟨t',rfl⟩:=ru;cases e;exact IsiPair.int_str ⟨.bl false,H,I.tok _,rfl,q⟩
 | bl i=>cases ru;cases e;exact IsiPair.bool_str ⟨.bl false,H,I.tok _,rfl,q⟩
 | str i=>obtain⟨t',rfl⟩:=ru;cases e;exact IsiPair.str_str ⟨.bl true,H,I,rfl,q⟩
 | bH=>cases ru;cases e;exact IsiPair.NoneType_str ⟨.bl false,H,I.tok _,rfl,q⟩
 | _=>cases e
inductive dN (K:Frag)(xs:List V)(H:Hp)(Q:VK):Prop|mk(x:_)(b:_):xs=[x,.ty "list"]->qA K H x b->Q (.bl b) H->dN K xs H Q
theorem Lf:gZ X (.builtin "isinstance") (dN X.K):=by
 intro pins s σ H xs us Q I r h;obtain⟨x,b,rfl,e,q⟩:=h;obtain⟨u,t,rfl,ru,rt⟩:=r.two;cases rt;cases e with
 | yes hq =>
   cases ru;obtain⟨aw,r,⟨o,n,e,c1,c2,c3⟩,z⟩:=I.list hq;exact IsiPair.list_list e c1 ⟨.bl true,H,I,rfl,q⟩
 | no hq =>
   cases ru;obtain⟨aw,r,⟨o,e,c1,n,c3⟩,z⟩:=I.tuple hq;exact IsiPair.tuple_list e c1 ⟨.bl false,H,I.tok _,rfl,q⟩
def Lg(K:Frag)(te ts:TE):TE:=λσ H Q=>te σ H λx H1=>ts σ H1 λy H2=>y=.int (-1)/\∃a xs,x=.ref a/\ai K H2 a xs/\∀p,H2 p=none->Q (.ref p) (upd H2 p (.lst xs.reverse))
theorem Bk{e st:Expr}{te ts:TE}{p2 pos:Pos}(he:PE X e te)(jg:PE X st ts):PE X (.Subscript e (.Slice none none (some st) p2) pos) (Lg X.K te ts):=by
 intro pins s σ H Q I h;refine Subscript_ (aO (he pins s σ H _ I h) λv s1 ⟨x,H1,I1,r1,q1⟩=>?_);refine wpAny_Slice ?_;rw[evalPart_none];refine q04 (q04 ?_);rw[evalPart_some];refine aO (jg pins s1 σ H1 _ I1 q1) λu s3 ⟨y,H3,I3,r3,q3⟩=>?_;obtain⟨rfl,a,xs,rfl,hx,q⟩:=q3;obtain⟨t,rfl⟩:=r3;cases r1;have I4:Inv X pins σ H3 { s3 with heap:=s3.heap.push { cls:=.type "slice",data:=.fields #[.none,.none,.int (-1) t] } }:=I3.kept (t':=s3.toks) λb ob q=>q05 _ q;obtain⟨aw,r,ht,hz⟩:=I4.list hx;have hlen:=r.length;show wpAny (model X.prog X.w) X.A (subscriptTail e (.Slice none none (some st) p2) (.ref a) (.ref s3.heap.objs.size)) (EP X pins σ Q) X.xe { s3 with heap:=s3.heap.push { cls:=.type "slice",data:=.fields #[.none,.none,.int (-1) t] } };refine tail_any (ops:=[.ref a,.ref s3.heap.objs.size]) ht.isList.typeIs slot_list_getitem.lookup ?_ (by with_unfolding_all rfl);refine wpAny_getItem_list_slice ht.isList (Heap.IsSliceOf.new ..) .none .none (.int (-1) t) (by decide) ?_ (by rw[q10] <;> lia);rw[PySem.W.krv_pick];refine⟨.ref _,_,I4.laid (t':=s3.toks) (o:=.lst xs.reverse) (λb ob q=>q05 _ q) (le_refl _) ?_,rfl,q _ (I4.aJ.fresh (le_refl _))⟩;exact⟨by rw[List.length_reverse];exact hz,_,0,r.reverse,get?_push_size _ rfl⟩
end
structure aK (P:Program) (w:World) (K:Frag) (mg:Str->Option Value) (base:Heap) (k:Nat) (x:Str) (ps:List Str) (sp:Sp):Prop where
 ex:∃f fd,ar P w K mg base aX k f fd ps sp/\mg x=some (.ref f)/\keepIn K (.ref f)=true/\Binds K fd ps []
variable {P:Program}{mg:Str->Option Value}{base:Heap}{x qual:Str}{ps:List Str}{sp:Sp}{f:Addr}{fd:FuncData}{st:Stmt}
theorem aK.of
 (F:aL K x qual st f fd) (G:ar P w K mg base aX k f fd ps sp) (hm:mg x=some (.ref f)) (b:Binds K fd ps []):aK P w K mg base k x ps sp:=⟨f,fd,G,hm,F.kp,b⟩
section
variable {X:Cx}{k:Nat}{x:Str}{ps:List Str}{sp:Sp}{p pos:Pos}{e:Expr}{es:List Expr}{t:TA}
theorem zh(C:aK X.prog X.w X.K X.mg X.base k x ps sp)(hr:bo k X.A)(hg:Gl X x)(ha:PA X (e::es) t)(ji:(x==("__debug__":Str))=false:=by decide)(he:starEach (e::es) X.env=(false,eval e X.env)::starEach es X.env:=by rfl)
 (hpl:(backTo pos (starEach es X.env)).any (·.1)=false:=by rfl):PE X (.Call (.Name x p) (e::es) [] pos) (xy sp [] E0 t):=by
 obtain⟨f,fd,F,hm,hk,hb⟩:=C.ex;exact uX F hr hg hm hk hb .nil xH ha ji he hpl
end
variable {c:St}{te:TE}{fin:List V->Hp->Prop}
theorem yN{tc:TT}(Pv:Nat->List V->Hp->Prop)(h0:Pv 0 [] H)(hl:∀i ys H,i<=xs.length->Pv i ys H->ai K H a xs/\ys.length<=i)(hz:xs.length<=sizeLine)
 (hs:∀i x ys H,xs[i]? = some x->Pv i ys H->tc (some x::c) H λb H2=>if b=true then te (some x::c) H2 λy H3=>Pv (i+1) (ys++[y]) H3 else Pv (i+1) ys H2)
 (hd:∀ys H,Pv xs.length ys H->fin ys H):cU (i5 K a) c tc te H fin:=by
 refine⟨λi m ys H=>m=xs.length-i/\i<=xs.length/\Pv i ys H,⟨xs.length,by simp,zero_le _,h0⟩,?_⟩;rintro i m ys H ⟨rfl,hi,p⟩;obtain⟨q,hy⟩:=hl i ys H hi p;by_cases bU:i<xs.length
 .refine .inr ⟨⟨xs,xs[i],q,by simp[bU]⟩,by lia,Pv (i+1),λys' H' p'=>⟨_,by lia,rfl,bU,p'⟩,λx H' y=>?_⟩;obtain⟨e,y⟩:=y;subst e;exact hs i x ys _ (y xs q) p
 .have e:i=xs.length:=by lia
  subst e;exact .inl ⟨⟨xs,q,le_refl _⟩,by lia,hd ys H p⟩
variable {n:Nat}
theorem Lh{lo:Int}{tc:TT}(Pv:Nat->List V->Hp->Prop)(h0:Pv 0 [] H)(hl:∀i ys H,i<=n->Pv i ys H->ys.length<=i)(hz:n<=sizeLine)
 (hs:∀i ys H,i<n->Pv i ys H->tc (some (.int (lo+i))::c) H λb H2=>if b=true then te (some (.int (lo+i))::c) H2 λy H3=>Pv (i+1) (ys++[y]) H3 else Pv (i+1) ys H2)
 (hd:∀ys H,Pv n ys H->fin ys H):cU (uO lo n) c tc te H fin:=by
 refine⟨λi m ys H=>m=n-i/\i<=n/\Pv i ys H,⟨n,by simp,zero_le _,h0⟩,?_⟩;rintro i m ys H ⟨rfl,hi,p⟩;have hy:=hl i ys H hi p;by_cases bU:i<n
 .refine .inr ⟨bU,by lia,Pv (i+1),λys' H' p'=>⟨_,by lia,rfl,bU,p'⟩,λx H' y=>?_⟩;obtain⟨e,y⟩:=y;subst e y;exact hs i ys _ bU p
 .have e:i=n:=by lia
  subst e;exact .inl ⟨le_refl _,by lia,hd ys H p⟩
theorem zU(Pv:Nat->List V->Hp->Prop)(h0:Pv 0 [] H)(hl:∀i ys H,i<=xs.length->Pv i ys H->ai K H a xs/\ys.length<=i)(hz:xs.length<=sizeLine)
 (hs:∀i x ys H,xs[i]? = some x->Pv i ys H->te (some x::c) H λy H3=>Pv (i+1) (ys++[y]) H3) (hd:∀ys H,Pv xs.length ys H->fin ys H):cU (i5 K a) c ue te H fin :=
 yN Pv h0 hl hz (λi x ys H e p=>oP (B:=Pv (i+1) ys H) (hs i x ys H e p)) hd
theorem Li{lo:Int}(Pv:Nat->List V->Hp->Prop)(h0:Pv 0 [] H)(hl:∀i ys H,i<=n->Pv i ys H->ys.length<=i)(hz:n<=sizeLine)
 (hs:∀i ys H,i<n->Pv i ys H->te (some (.int (lo+i))::c) H λy H3=>Pv (i+1) (ys++[y]) H3) (hd:∀ys H,Pv n ys H->fin ys H):cU (uO lo n) c ue te H fin :=
 Lh Pv h0 hl hz (λi ys H e p=>oP (B:=Pv (i+1) ys H) (hs i ys H e p)) hd
theorem Cs{i:Int}{pos:Pos}(h:∃t,X.mg x=some (.int i t))(hg:Gl X x)(hd:(x==("__debug__":Str))=false:=by decide):PE X (.Name x pos) (tC (.int i)):=by
 obtain⟨t,h⟩:=h;exact uL hg h ⟨t,rfl⟩ hd
theorem yO{c:Prop} [Decidable c](h1:c->A)(h2:¬c->B):if decide c=true then A else B:=by
 by_cases h:c
 .rw[q01 (q19 h)];exact h1 h
 .rw[q00 (by rw[q20 h];exact q23)];exact h2 h
theorem yn{c:Prop} [Decidable c](h1:¬c->A)(h2:c->B):if(!decide c)=true then A else B:=by
 by_cases h:c
 .rw[q19 h];exact fP (h2 h)
 .rw[q20 h];exact oP (h1 h)
variable {b:Bool}
theorem vf(h1:b=true->A)(h2:b=false->B):if b=true then A else B:=by
 cases b with
 | true=>exact oP (h1 rfl)
 | false=>exact fP (h2 rfl)
theorem ae.new{o:HO}(h:H l=Option.none):ae H (upd H l o):=λb u e=>by rw[zj (zr e h)];exact e
theorem ae.aB{o:HO}(s:ae H H')(h:H' l=Option.none):ae H (upd H' l o):=s.trans (ae.new h)
theorem ae.put{o:HO}(s:ae H H')(h:H l=Option.none):ae H (upd H' l o):=λb u e=>by rw[zj (zr e h)];exact s b u e
theorem ae.j8(e:ae H H')(h:bX K H a xs):bX K H' a xs:=by
 rcases h with(h | ⟨o,h⟩) | h
 .exact .inl (.inl (e _ _ h))
 .exact .inl (.inr ⟨o,e _ _ h⟩)
 .exact .inr h
theorem ai.new:ai K (upd H l (.lst xs)) l xs:=ai.of ze
theorem bX.new:bX K (upd H l (.tup xs)) l xs:=bX.of ze
theorem Bl{i:Int}{v:V}(h0:0<=i)(h:xs[i.toNat]? = some v):fC xs i=some v:=by
 have:=zP h
 rwa [Int.toNat_of_nonneg h0]at this
variable {ns:List Int}{i:Nat}
theorem oQ(h:i<ns.length):(ns.map V.int)[i]? = some (.int (ns.getD i 0)):=by
 rw[q26,q31 h,q18,q31 h];rfl
theorem Bm{i:Int}(h0:0<=i)(h:i<ns.length):fC (ns.map V.int) i=some (.int (ns.getD i.toNat 0)):=Bl h0 (oQ (by lia))
theorem zC(ns:List Int):(ns.map V.int).all iA=true:=by
 rw[all_map];exact q39.mpr λ_ _=>rfl
theorem wm(ns:List Int)(c:Int):Eo (ns.map V.int) (.int c)=ns.idxOf c:=by
 unfold Eo
 induction ns with
 | nil=>rfl
 | cons a ns ih =>
   rw[map_cons,findIdx_cons,List.idxOf_cons,ih];rfl
theorem Ct(ns:List Int)(c:Int):u9 (.int c) (ns.map V.int)=decide (c∈ns):=by
 unfold u9
 induction ns with
 | nil=>rfl
 | cons a ns ih =>
   rw[map_cons,any_cons,ih];show((a==c) || _)=_;by_cases h:a=c
   .subst h;simp
   .have:¬c=a:=λe=>h e.symm;simp[h,this]
theorem Cu{k:Int}(h:0<=k):k9 xs (some k) none=xs.drop k.toNat:=by
 obtain⟨n,rfl⟩:=Int.eq_ofNat_of_zero_le h;unfold k9;rw[HT.jj];show(xs.drop (HT.iJ xs.length 0 (some ((n:Nat):Int)))).take _=_;rw[HT.k8,Int.toNat_natCast];by_cases h:n<=xs.length
 .rw[Nat.min_eq_left h,take_of_length_le (by rw[length_drop];exact le_refl _)]
 .rw[Nat.min_eq_right (by lia),drop_of_length_le (le_refl _),drop_of_length_le (by lia),take_nil]
theorem G7{k:Int}(h:0<=k):k9 xs none (some k)=xs.take k.toNat:=by
 obtain⟨n,rfl⟩:=Int.eq_ofNat_of_zero_le h;unfold k9;rw[HT.jj,List.drop_zero];show xs.take (HT.iJ xs.length xs.length (some ((n:Nat):Int))-0)=_;rw[HT.k8,Int.toNat_natCast,Nat.sub_zero];by_cases h:n<=xs.length
 .rw[Nat.min_eq_left h]
 .rw[Nat.min_eq_right (by lia),take_of_length_le (le_refl _),take_of_length_le (by lia)]
theorem G8{k:Int}(h:0<=k):k9 (ns.map V.int) (some k) none=(ns.drop k.toNat).map V.int:=by rw[Cu h,map_drop]
theorem Lj{k:Int}(h:0<=k):k9 (ns.map V.int) none (some k)=(ns.take k.toNat).map V.int:=by rw[G7 h,map_take]
theorem zq:1000000<=sizeLine:=by decide
theorem qB{i:Int}(h0:0<=i)(h1:i<n):seqIndex? i n=some i.toNat:=by
 have e:(if i<0 then i+(n:Int)else i)=i:=q00 (by lia);unfold seqIndex?;simp only[e];rw[q01 (by simp only[q42,decide_eq_true_eq];exact⟨h0,h1⟩)]
theorem RJ{α β:Type}(f:α->β):∀(l:List α)(i:Nat),(l.map f).eraseIdx i=(l.eraseIdx i).map f
 | [],_=>rfl
 | _::_,0=>rfl
 | a::l,i+1=>by
   show f a::(l.map f).eraseIdx i=f a::(l.eraseIdx i).map f;rw[RJ f l i]
theorem RK{α:Type}:∀(l:List α)(i:Nat)(h:i<l.length),(l[i]::l.eraseIdx i).Perm l
 | a::l,0,_=>List.Perm.refl _
 | a::l,i+1,h=>(List.Perm.swap a (l[i]'(by simpa using h)) (l.eraseIdx i)).trans ((RK l i (by simpa using h)).cons a)
theorem yM(hi:i<ns.length):ns.take (i+1)=ns.take i++[ns.getD i 0]:=by
 rw[take_succ,q31 hi,q18,q31 hi];rfl
theorem yQ{x:V}(hx:(ns.map V.int)[i]? = some x):i<ns.length/\x=.int (ns.getD i 0):=by
 have hi:i<ns.length:=by have:=(q45.mp hx).1;rwa [q06]at this
 refine⟨hi,?_⟩;rw[oQ hi]at hx;exact(q22 hx).symm
theorem Cv(hi:i<ns.length):ns.getD i 0=ns[i]:=by rw[q18,q31 hi];rfl
theorem mV(hi:i<ns.length):ns.getD i 0∈ns:=by rw[Cv hi];exact q44 hi
theorem qD(ns:List Int)(x:Int):ns.map V.int++[V.int x]=(ns++[x]).map V.int:=by rw[q07];rfl
theorem lC(ns:List Int)(x:Int):upd H l (.lst (ns.map V.int++[V.int x])) l=some (.lst ((ns++[x]).map V.int)):=ze.trans (congrArg (λl=>some (HO.lst l)) (qD ns x))
def fR:List V->List V->Bool
 | [],[]=>true
 | x::xs,y::ys=>jZ x y && fR xs ys
 | _,_=>false
def lD(xs ys:List V)(j:Nat):Bool:=match xs[j]?,ys[j]? with
 | some x,some y=>jZ x y
 | _,_=>false
theorem Lk:∀{xs ys:List V},xs.length=ys.length->(List.range xs.length).all (lD xs ys)=fR xs ys
 | [],[],_=>rfl
 | x::xs,y::ys,h=>by
   have h':xs.length=ys.length:=by simpa using h
   show(List.range (xs.length+1)).all _=(jZ x y && fR xs ys);rw[range_succ_eq_map,all_cons,all_map,<-Lk h'];rfl
theorem Ll:∀{xs ys:List V},xs.length≠ys.length->fR xs ys=false
 | [],[],h=>q02 rfl h
 | [],_::_,_=>rfl
 | _::_,[],_=>rfl
 | x::xs,y::ys,h=>by
   show(jZ x y && fR xs ys)=false;rw[Ll (λe=>h (by simp[e])),Bool.and_false]
theorem yU:∀(ns ms:List Int),fR (ns.map V.int) (ms.map V.int)=decide (ns=ms)
 | [],[]=>rfl
 | [],_::_=>rfl
 | _::_,[]=>rfl
 | a::ns,b::ms=>by
   show((a==b) && fR (ns.map V.int) (ms.map V.int))=_;rw[yU ns ms];by_cases h:a=b
   .subst h;simp
   .simp[h]
theorem qG{A:Around}{ys:List V}{us vs:List Value}(ru:Vals xs us)(rv:Vals ys vs)(fx:xs.all iA=true)(fy:ys.all iA=true):
 ∀j (h1:j<us.toArray.size) (h2:j<vs.toArray.size),SeqAt.EqAt A s us.toArray[j] vs.toArray[j] (lD xs ys j):=λj h1 h2=>by
 have l1:=ru.length;have l2:=rv.length;have V5:j<us.length:=by simpa using h1
 have Lm:j<vs.length:=by simpa using h2
 obtain⟨u,eu,r1⟩:=ru.get (i:=j) (x:=xs[j]) (q31 (by lia));obtain⟨v,ev,r2⟩:=rv.get (i:=j) (x:=ys[j]) (q31 (by lia));have e1:us.toArray[j]=u:=by rw[List.getElem_toArray];rw[q31 V5]at eu;exact q22 eu
 have e2:vs.toArray[j]=v:=by rw[List.getElem_toArray];rw[q31 Lm]at ev;exact q22 ev
 rw[e1,e2];have ej:lD xs ys j=jZ xs[j] ys[j]:=by unfold lD;rw[q31 (by lia),q31 (by lia)]
 rw[ej];exact p7 r1 r2 (q39.mp fx _ (q44 _)) (q39.mp fy _ (q44 _))
section
variable {X:Cx}
inductive xJ (K:Frag)(x y:V)(H:Hp)(Q:VK):Prop|mk(a:_)(b:_)(xs:_)(ys:_):x=.ref a->y=.ref b->ai K H a xs->ai K H b ys->xs.all iA=true->ys.all iA=true->Q (.bl (fR xs ys)) H->xJ K x y H Q
def Ln(K:Frag):R2:=λx y H Q=>xJ K x y H Q
theorem Cw(hu:X.A.units<cLine):dB X (compareOp .Eq) (Ln X.K):=by
 intro pins s σ H x y v u Q I rx ry h;obtain⟨a,b,xs,ys,rfl,rfl,ha,hb,fx,fy,q⟩:=h;cases rx;cases ry;obtain⟨aw,r1,p1,z1⟩:=I.list ha;obtain⟨eZ,r2,p2,z2⟩:=I.list hb;have l1:=r1.length;have l2:=r2.length;by_cases hl:xs.length=ys.length
 .refine SeqAt.eq_listAt p1.isList p2.isList (by simp;lia) hu (qG r1 r2 fx fy) ⟨.bl (fR xs ys),H,I,?_,q⟩;rw[q10,<-l1,Lk hl];rfl
 .refine SeqAt.eq_list_lengthsAt p1.isList p2.isList (by simp;lia) hu ⟨.bl (fR xs ys),H,I,?_,q⟩;rw[Ll hl];rfl
theorem V6{ns:List Int}:∀{us:List Value},IntsAre us ns->Vals (ns.map V.int) us:=by
 intro us h
 induction h with
 | nil=>exact .nil
 | cons n t _ ih=>exact .cons ⟨t,rfl⟩ ih
inductive fb (K:Frag)(xs:List V)(H:Hp)(Q:VK):Prop|mk(a:Addr)(ns:List Int):xs=[.ref a]->ai K H a (ns.map V.int)->ns.length<64->(∀(l:Addr)(ms:List Int),H l=none->ms.Perm ns->ms.Pairwise (·<= ·)->Q (.ref l) (upd H l (.lst (ms.map V.int))))->fb K xs H Q
theorem Lo:gZ X (.builtin "sorted") (fb X.K):=by
 intro pins s σ H xs us Q I r h;obtain⟨a,ns,rfl,hS,hz,q⟩:=h;obtain⟨u,rfl,ru⟩:=r.one;cases ru;obtain⟨aw,r1,p1,z1⟩:=I.list hS;have l1:=r1.length;rw[q06]at l1;refine sorted_ints p1.isList (Cm r1) (by lia) λout xK hI hp hw=>?_;obtain⟨e,he⟩:=sortedAll_at s.heap aw out;have hf:H (s.heap.objs.size+1)=none:=I.aJ.fresh (le_succ _);have hv:=V6 hI;have hlen:xK.length<64:=by rw[hp.length_eq];exact hz
 refine⟨.ref (s.heap.objs.size+1),upd H (s.heap.objs.size+1) (.lst (xK.map V.int)),I.laid (t':=s.toks) (λb o e=>sortedAll_old e) (le_succ _) ⟨?_,out.toList,e,hv,?_⟩,rfl,q _ xK hf hp hw⟩
 .rw[q06];have:=zq;lia
 .exact he
theorem qH{bs:List Bool}{us:List Value}(r:Vals (bs.map V.bl) us){i:Nat}{v:Value}(h:us[i]? = some v):v=.bool (bs.getD i false):=by
 have hl:=r.length;rw[q06]at hl;have hi:i<bs.length:=by rw[hl];exact(q45.mp h).1
 obtain⟨u,e,ru⟩:=r.get (i:=i) (x:=.bl bs[i]) (by rw[q26,q31 hi];rfl);rw[e]at h;cases h;rw[q18,q31 hi];exact ru
theorem range_all(bs:List Bool):(List.range bs.length).all (λi=>bs.getD i false)=bs.all id:=by
 induction bs with
 | nil=>rfl
 | cons b bs ih =>
   rw[q12,range_succ_eq_map,all_cons,all_map,all_cons,<-ih];rfl
inductive iB (K:Frag)(xs:List V)(H:Hp)(Q:VK):Prop|mk(a:Addr)(bs:List Bool):xs=[.ref a]->ai K H a (bs.map V.bl)->Q (.bl (bs.all id)) H->iB K xs H Q
theorem G9(hc:X.calm=true):gZ X (.builtin "all") (iB X.K):=by
 intro pins s σ H xs us Q I r h;obtain⟨a,bs,rfl,hS,q⟩:=h;obtain⟨u,rfl,ru⟩:=r.one;cases ru;obtain⟨aw,r1,p1,z1⟩:=I.list hS;have l1:=r1.length;rw[q06]at l1;have bU:a<s.heap.objs.size:=by obtain⟨o,n,e,_⟩:=p1;exact lt_size e
 refine call_all_walk (wpAny_pyIter_list p1.isList ?_);have I1:Inv X pins σ H { s with heap:=s.heap.push { cls:=.type "list_iterator",data:=.fields #[.ref a,.int 0 0] } }:=I.kept (t':=s.toks) λb o e=>q05 _ e;refine⟨s.heap.objs.size,_,_,aw.toArray.size,_,_,λi=>bs.getD i false,rfl,Walks.list (by simpa using I.ok.hd hc) s.heap.objs.size a (ne_of_lt bU) aw.toArray,⟨⟨_,get?_push_size _ rfl,rfl,rfl⟩,p1.isList.push _⟩,?_,λh' tk hk=>?_⟩
 .intro i v s' Q' E' hP hQ;have:=qH r1 (i:=i) (v:=v) (by simpa using hP);subst this;exact wpAny_truthy_bool hQ
 .have f:=I.fV (H':=H) (le_refl _) (I.aJ.fresh (le_refl _));refine⟨.bl (bs.all id),H,I1.turned (it:=s.heap.objs.size) (λb o hb e=>hk b o (by simpa using hb) e) f.1 f.2.1 f.2.2.2.1 f.2.2.2.2.1 f.2.2.2.2.2,?_,q⟩;rw[q10,<-l1,range_all];rfl
theorem V7(hc:X.calm=true):gZ X (.type "set") (λxs H Q=>∃(a:Addr)(ns:List Int),xs=[.ref a]/\ai X.K H a (ns.map V.int)/\ns.length<4000 /\
 ∀l,H l=none->Q (.ref l) (upd H l (.set (λk=>(firstMet (λi=>ns.getD i 0) ns.length).any (·== k)) (firstMet (λi=>ns.getD i 0) ns.length).length))):=by
 intro pins s σ H xs us Q I r h;obtain⟨a,ns,rfl,hS,hz,q⟩:=h;obtain⟨u,rfl,ru⟩:=r.one;cases ru;obtain⟨aw,r1,p1,z1⟩:=I.list hS;have l1:=r1.length;rw[q06]at l1;have ve:scanBound=4096:=rfl;refine call_set_list (ns:=ns) (I.ok.hd hc) p1.isList (by simpa using Cm r1) (by rw[q10];lia) λh' tk Ep hk=>?_;have Lp:aw.toArray.size=ns.length:=by rw[q10];lia
 rw[Lp]at Ep;refine⟨.ref s.heap.objs.size,_,I.laid (t':=tk) (o:=.set _ _) (λb o e=>hk b o (lt_size e) e) (le_refl _) Ep,rfl,q _ (I.aJ.fresh (le_refl _))⟩
theorem call_len_set:gZ X (.builtin "len") (λxs H Q=>∃a S n,xs=[.ref a]/\H a=some (.set S n)/\Q (.int n) H):=by
 intro pins s σ H xs us Q I r h;obtain⟨a,S,n,rfl,hS,q⟩:=h;obtain⟨u,rfl,ru⟩:=r.one;cases ru;obtain⟨o,es,ep,t,ho,hex,hd,_,_,hsz,hf,hn⟩:=I.aJ a _ hS;have ve:scanBound=4096:=rfl;refine PySem.call_len_set ho hex hd hf (by lia) ⟨.int n,H,I.tok _,⟨s.toks+1,?_⟩,q⟩;rw[hn]
end
theorem V8(ns:List Int):firstMet (λi=>ns.getD i 0) ns.length=ns.foldl step_dedup []:=by
 unfold firstMet;congr 1;refine ext_getElem (by simp) λi h1 h2=>?_;rw[getElem_map,getElem_range,q18,q31 h2];rfl
theorem qI(acc ns:List Int):(ns.foldl step_dedup acc).length<=acc.length+ns.length:=by
 induction ns generalizing acc with
 | nil=>exact le_refl _
 | cons a ns ih =>
   rw[foldl_cons];refine q38 (ih _) ?_;rw[step_length,q12];split <;> lia
theorem j9(acc ns:List Int)(fW:acc.Nodup):(ns.foldl step_dedup acc).length=acc.length+ns.length↔(acc++ns).Nodup:=by
 induction ns generalizing acc with
 | nil=>simpa using fW
 | cons a ns ih =>
   rw[foldl_cons];by_cases h:acc.any (·== a)=true
   .have e:step_dedup acc a=acc:=by unfold step_dedup;rw[q01 h]
    rw[e];have hm:a∈acc:=by
     obtain⟨x,hx,hb⟩:=List.any_eq_true.mp h;have:x=a:=by simpa using hb
     rw[<-this];exact hx
    constructor
    .intro q;have:=qI acc ns;rw[q12]at q
     lia
    .intro q;rw[nodup_append]at q;exact q02 rfl (q.2.2 a hm a q14)
   .have e:step_dedup acc a=acc++[a]:=by unfold step_dedup;rw[q00 h]
    have hm:a∉acc:=λhm=>h (List.any_eq_true.mpr ⟨a,hm,by simp⟩);have hn:(acc++[a]).Nodup:=by
     rw[nodup_append];exact⟨fW,by simp,λx hx y hy z=>hm (by rw[List.mem_singleton.mp hy]at z;rw[<-z];exact hx)⟩
    rw[e];have:=ih (acc++[a]) hn;rw[append_assoc,List.singleton_append]at this;rw[<-this,q08,length_singleton,q12]
    lia
theorem RL(ns:List Int):(firstMet (λi=>ns.getD i 0) ns.length).length=ns.length↔ns.Nodup:=by
 rw[V8];have:=j9 [] ns List.nodup_nil
 simpa using this
inductive xM (t:TS)(D:Ends)(σ:St)(H:Hp):Prop|mk(P:St->Hp->Prop):t { D with nx:=P } σ H->(∀σ' H',P σ' H'->D.nx σ' H')->xM t D σ H
def Lq(t:TS):TS:=λD σ H=>xM t D σ H
theorem qK{t:TS}(h:PS X st t):PS X st (Lq t):=by
 intro pins s σ H D I hw;obtain⟨P,h1,h2⟩:=hw;refine aO (h pins s σ H _ I h1) λf s' q=>?_;cases f with
 | next=>obtain⟨σ',H',I',q⟩:=q;exact⟨σ',H',I',h2 _ _ q⟩
 | brk=>exact q
 | cont=>exact q
 | ret u=>exact q
structure jM (P:Program) (w:World) (outer:List Env) (H:Hp) (s:Shared) (x:Addr) (cls:Value) (H':Hp) (s':Shared):Prop where
 os:s'.os=s.os
 bare:AllBare s'.gens
 ex:∃B a0,FlyingW B outer x cls a0 s'.heap/\dz P w H' B/\(∀b o,s.heap.get? b=some o->H b=none->b∉dA outer->B.get? b=some o)/\∀b o,s.heap.get? b=some o->b∉dA outer->∃o',B.get? b=some o'
 slot:∀b o,s.heap.get? b=some o->H b=none->b∈dA outer->∃sl,s'.heap.get? b=some { o with slots:=sl }
 free:∀b o,s.heap.get? b=some o->H b=none->H' b=none
 cP:∀b xs,H b=some (.tup xs)->H' b=some (.tup xs)
 cF:∀b o u,H b=some (.mz o u)->H' b=some (.mz o u)
 cW:∀b ps,H b=some (.dh ps)->∃more,H' b=some (.dh (ps++more))
 new:H' x=none
def dO(P:Program)(w:World):oN:=λouter H s E e s'=>∃x cls H',e=.ref x/\jM P w outer H s x cls H' s'/\E cls none H'
section
variable {P:Program}{w:World}{outer:List Env}{H H':Hp}{s s':Shared}{x:Addr}{cls:Value}
theorem bu.obj{H:Hp}{h:Heap}{a:Addr}{o:HO}(x:bu P w H h a o):∃ob,h.get? a=some ob:=by
 cases o with
 | lst xs=>obtain⟨_,_,_,_,e⟩:=x;exact⟨_,e⟩
 | tup xs=>obtain⟨_,_,_,ob,e,_⟩:=x;exact⟨ob,e⟩
 | dK ax=>obtain⟨_,_,_,_,o,_,_,e,_⟩:=x;exact⟨o,e⟩
 | dT ax=>obtain⟨_,_,_,_,o,_,_,e,_⟩:=x;exact⟨o,e⟩
 | set S n=>obtain⟨o,_,_,_,e,_⟩:=x;exact⟨o,e⟩
 | ins C dx fs=>obtain⟨_,_,_,e,_⟩:=x;exact⟨_,e⟩
 | own y=>obtain⟨o,e⟩:=x;exact⟨o,e⟩
 | xd fs=>obtain⟨_,⟨o,_,_,e,_⟩,_⟩:=x;exact⟨o,e⟩
 | cO lo hi=>obtain⟨_,_,_,e⟩:=x;exact⟨_,e⟩
 | mz ob u=>obtain⟨e,_⟩:=x;exact⟨_,e⟩
 | dh ps=>exact⟨_,(show h.get? a=some _ from x)⟩
 | met f y=>exact⟨_,(show h.get? a=some _ from x)⟩
 | ext φ=>obtain⟨_,⟨o,e⟩,_⟩:=x;exact⟨o,e⟩
theorem jM.un(f:jM P w outer H s x cls H' s'){B h:Heap}{a0:Value}{l:List Env}(hB:dz P w H' B)(k1:∀b o,s.heap.get? b=some o->H b=none->b∉dA outer->B.get? b=some o)(k2:∀b o,s.heap.get? b=some o->b∉dA outer->∃o',B.get? b=some o')
 (st:B.StaysIn h) (sl:∀b o,s.heap.get? b=some o->H b=none->b∈dA outer->∃q,h.get? b=some { o with slots:=q }) (nf:∀b∈dA outer,H b=none):Un (dA outer) [] H H' s.heap h where
 keep:=λb o q n hb _=>st b o (k1 b o q n hb)
 slot:=λb o q n hb _=>sl b o q n hb
 free:=λb o q n _=>f.free b o q n
 there:=λb o q _=>by
  by_cases hb:b∈dA outer
  .obtain⟨z,e⟩:=sl b o q (nf b hb) hb;exact⟨_,e⟩
  .obtain⟨o',e⟩:=k2 b o q hb;exact⟨o',st b o' e⟩
 cP:=f.cP
 cF:=f.cF
 cW:=f.cW
end
section
variable {X:Cx}{pins:List (Addr×Obj)}{σ:St}{H H':Hp}{s s':Shared}{x:Addr}{cls:Value}
variable {b:Addr}{o:Obj}
theorem Inv.Bn(I:Inv X pins σ H s)(hb:b∈dA X.stack)(e:s.heap.get? b=some o):∀vs,o.data ≠ .fields vs:=by
 obtain⟨_,o',e',d⟩:=I.stack.mem hb;rw[e]at e';cases e';exact d
def Cy(h:Heap)(l:List Env):Heap:=hideAll h (dA l)
theorem Lr{h:Heap}{l:List Env}(e:h.get? b=some o)(n:b∉dA l):(Cy h l).get? b=some o:=hideAll_get _ e n
theorem V9{h:Heap}{l:List Env}(e:(Cy h l).get? b=some o):h.get? b=some o:=of_hideAll _ e
theorem Inv.vg(I:Inv X pins σ H s):dz X.prog X.w H (Cy s.heap X.stack):=λa o e =>
 (I.aJ a o e).eW (λb u hb q=>Lr q λz=>by
   have n:=I.eX b z;rcases hb with hb | hb
   .rw[hb,e]at n;cases n
   .rw[n]at hb;cases hb) (λ_ q=>q) λ_ _ q=>q
end
abbrev XW:=St->Value->Hp->Prop
def Fl(X:Cx)(W:XW):Prop:=∀(pins:List (Addr×Obj)) (σ:St) (H:Hp) (s:Shared) (x:Addr) (cls:Value) (H':Hp) (s':Shared),Inv X pins σ H s->jM X.prog X.w X.stack H s x cls H' s'->W σ cls H'->X.xe (.ref x) s'
def Md(X:Cx)(W:XW):Prop:=∀(pins:List (Addr×Obj)) (σ:St) (H:Hp) (s:Shared) (x:Addr) (cls:Value) (args:List Value) (h':Heap),Inv X pins σ H s->Heap.MadeExcOf s.heap h' x cls args->W σ cls H->X.xe (.ref x) { s with heap:=h' }
section
variable {P:Program}{w:World}{K:Frag}{mg:Str->Option Value}{base:Heap}{N:List Str}{qual:Str}{scope:Scope}{f:Addr}{cd:Value}{A:Around}{outer:List Env}{s0:Shared}{H0:Hp}{E:XK}
theorem vh:Fl (gx (dO P w) P w K mg base N qual scope f cd A outer s0 H0 E) λ_ cls H'=>E cls none H':=by
 intro pins σ H s x cls H' s' I fl hE;obtain⟨B,a0,ib,hB,k1,k2⟩:=fl.ex;have jg:dA (envOfC qual scope s0.heap.objs.size f cd::outer)=s0.heap.objs.size::dA outer:=rfl;have old:∀b o,s0.heap.get? b=some o->b∉dA outer->b∉dA (envOfC qual scope s0.heap.objs.size f cd::outer):=λb o e hb=>by
  rw[jg];exact λz=>(q27.mp z).elim (λq=>q02 (lt_size e) (by rw[q];exact q37 _)) hb
 refine wpAny_leaves_onW (base:=B) (L:=s0.heap.objs.size) I.ok.frames rfl ib λh2 js up=>?_;refine⟨x,cls,H',rfl,⟨fl.os.trans I.os,fl.bare,⟨B,a0,js,hB,λb o e n hb=>?_,λb o e hb=>?_⟩,λb o e n hb=>?_,λb o e n=>?_,λb xs e=>fl.cP b xs (I.base.cP b xs e),λb o u e=>fl.cF b o u (I.base.cF b o u e),λb ps e=>?_,fl.new⟩,hE⟩
 .exact k1 b o (I.base.keep b o e n hb (by simp[gx])) (I.base.free b o e n (by simp[gx])) (old b o e hb)
 .obtain⟨o1,e1⟩:=I.base.there b o e (by simp[gx]);exact k2 b o1 e1 (old b o e hb)
 .obtain⟨sl,e1⟩:=I.base.slot b o e n hb (by simp[gx]);obtain⟨mQ,e2⟩:=fl.slot b _ e1 (I.base.free b o e n (by simp[gx])) (q13 _ hb);obtain⟨_,o',e',d⟩:=I.ok.da.mem hb;have eo:o'=o:=by
   have Er:s0.heap.get? b=some o':=e';rw[e]at Er;exact(q22 Er).symm
  subst eo;obtain⟨Ls,e3⟩:=up b _ e2 d;exact⟨Ls,e3⟩
 .obtain⟨o1,e1⟩:=I.base.there b o e (by simp[gx]);exact fl.free b o1 e1 (I.base.free b o e n (by simp[gx]))
 .obtain⟨m1,e1⟩:=I.base.cW b ps e;obtain⟨m2,e2⟩:=fl.cW b _ e1;exact⟨m1++m2,by rw[e2,Array.append_assoc]⟩
theorem Bo:Md (gx (dO P w) P w K mg base N qual scope f cd A outer s0 H0 E) λ_ cls H'=>E cls none H':=by
 intro pins σ H s x cls args h' I mk hE;have jg:dA (envOfC qual scope s0.heap.objs.size f cd::outer)=s0.heap.objs.size::dA outer:=rfl;have old:∀b o,s0.heap.get? b=some o->b∉dA outer->b∉dA (envOfC qual scope s0.heap.objs.size f cd::outer):=λb o e hb=>by
  rw[jg];exact λz=>(q27.mp z).elim (λq=>q02 (lt_size e) (by rw[q];exact q37 _)) hb
 have hl:s.heap.FunFrames (Cy s.heap (envOfC qual scope s0.heap.objs.size f cd::outer)) (envOfC qual scope s0.heap.objs.size f cd::outer) :=
  PySem.W.funFrames_hide I.stack λenv he b hb=>List.mem_filterMap.mpr ⟨env,he,hb⟩
 have hB:dz P w H (Cy s.heap (envOfC qual scope s0.heap.objs.size f cd::outer)):=I.vg;have hx:H x=none:=by
  cases q:H x with
  | none=>rfl
  | some o =>
    obtain⟨o',e⟩:=(I.aJ x o q).obj;rw[mk.new]at e;cases e
 refine wpAny_leaves_madeW (L:=s0.heap.objs.size) (h:=s.heap) (base:=Cy s.heap (envOfC qual scope s0.heap.objs.size f cd::outer)) I.ok.frames rfl (λb o e=>V9 e) hl mk λh2 t js _ _ up=>?_;refine⟨x,cls,H,rfl,⟨I.os,I.bare,⟨_,_,js,hB,λb o e n hb=>?_,λb o e hb=>?_⟩,λb o e n hb=>?_,λb o e n=>I.base.free b o e n (by simp[gx]),I.base.cP,I.base.cF,I.base.cW,hx⟩,hE⟩
 .exact Lr (I.base.keep b o e n hb (by simp[gx])) (old b o e hb)
 .obtain⟨o1,e1⟩:=I.base.there b o e (by simp[gx]);exact⟨o1,Lr e1 (old b o e hb)⟩
 .obtain⟨sl,e1⟩:=I.base.slot b o e n hb (by simp[gx]);obtain⟨_,o',e',d⟩:=I.ok.da.mem hb;have eo:o'=o:=by
   have Er:s0.heap.get? b=some o':=e';rw[e]at Er;exact(q22 Er).symm
  subst eo;obtain⟨Ls,e3⟩:=up b _ (mk.keeps _ _ e1) d;exact⟨Ls,e3⟩
end
abbrev TJ:=St->Hp->Str->(Str->Hp->Prop)->Prop
def PJ(X:Cx)(es:List Expr)(t:TJ):Prop :=
 ∀(pins:List (Addr×Obj)) (s:Shared) (σ:St) (H:Hp) (acc:Str) (Q:Str->Hp->Prop),Inv X pins σ H s->t σ H acc Q ->
  wpAny (model X.prog X.w) X.A (joinParts acc (evalEach es X.env)) (EP X pins σ λv H'=>∃y,v=.str y/\Q y H') X.xe s
def Lu:TJ:=λ_ H acc Q=>acc.length<=sizeLine/\Q acc H
def Es(te:TE)(t:TJ):TJ:=λσ H acc Q=>te σ H λx H1=>∃y,x=.str y/\(acc++y).length<=sizeLine/\t σ H1 (acc++y) Q
def Lv(te:TE):TE:=λσ H Q=>te σ H λx H1=>(∃i,x=.int i/\i.natAbs.log2<1920/\Q (.str (toString i)) H1)\/(∃y,x=.str y/\y.length<=sizeLine/\Q (.str y) H1)
def Et(t:TJ):TE:=λσ H Q=>t σ H Str.empty λy H1=>Q (.str y) H1
section
variable {X:Cx}{e v1 v2:Expr}{es:List Expr}{te:TE}{t:TJ}{pos:Pos}
theorem Ha:PJ X [] Lu:=λpins s σ H acc Q I h=>joinParts_nil ⟨.str acc,H,I.tok _,⟨_,rfl⟩,acc,rfl,h.2⟩ h.1
theorem yZ(he:PE X e te)(hr:PJ X es t):PJ X (e::es) (Es te t):=by
 intro pins s σ H acc Q I h;show wpAny _ _ (joinParts acc (eval e X.env::evalEach es X.env)) _ _ s;refine joinParts_cons (aO (he pins s σ H _ I h) λu s1 ⟨x,H1,I1,r1,y,ey,hz,q⟩=>?_);subst ey;obtain⟨t',rfl⟩:=r1;exact⟨hz,hr pins s1 σ H1 _ Q I1 q⟩
theorem vi(he:PE X e te):PE X (.FormattedValue e (-1) none pos) (Lv te):=by
 intro pins s σ H Q I h;refine FormattedValue_plain (aO (he pins s σ H _ I h) λu s1 ⟨x,H1,I1,r1,q⟩=>?_);rcases q with⟨i,ex,hd,q⟩|⟨y,ex,hz,q⟩
 .subst ex;obtain⟨t',rfl⟩:=r1;exact formatField_int_small hd ⟨.str (toString i),H1,I1.tok _,⟨_,rfl⟩,q⟩
 .subst ex;obtain⟨t',rfl⟩:=r1;exact formatField_str (λt2 tk=>⟨.str y,H1,I1.tok _,⟨_,rfl⟩,q⟩) hz
theorem Hb{je:List Expr}(h:PJ X (v1::v2::je) t):PE X (.JoinedStr (v1::v2::je) pos) (Et t):=by
 intro pins s σ H Q I q;exact JoinedStr_many (aO (h pins s σ H Str.empty _ I q) λu s1 ⟨x,H1,I1,r1,y,ey,q1⟩=>⟨x,H1,I1,r1,by subst ey;exact q1⟩)
end
theorem Lw{a b:Nat}(hx:x.length<=a)(hy:y.length<=b):(x++y).length<=a+b:=by rw[strLen_append];lia
def lE:List Value:=[.type "ValueError",.type "Exception",.type "BaseException",.type "object"]
abbrev iM(K:Frag)(C:Addr):Prop:=excIn K C lE "ValueError.__new__"=true
def zy(K:Frag)(C D:Addr):Bool:=match K.lookup C with
 | some ⟨_,_,.cls cd,_⟩=>cd.mro.contains (.ref D)
 | _=>false
variable {C:Addr}
theorem Lx{h:Heap}(hk:K.In h)(q:iM K C):∃tl N nm qn bs hd sn sb ab cl dd a0 a1 a2 a3 a5 mN,
 h.get? C=some (excClassObj nm qn C N bs tl hd sn sb ab cl dd a0 a1 a2 a3 a5 "ValueError.__new__")/\h.Ns N mN/\mN "__init__"=none/\OwnTail h lE tl/\∀D,(Value.ref C::tl).contains (.ref D)=zy K C D:=by
 unfold iM excIn at q;split at q
 next dd cd sl ho =>
  split at q
  next C' tl a0 a1 a2 a3 n a5 em es =>
   simp only[q42,beq_iff_eq,Bool.not_eq_true']at q;obtain⟨⟨⟨⟨⟨z1,z2⟩,z3⟩,z4⟩,z5⟩,z6⟩:=q;subst z1 z2;have sb:∀D,(Value.ref C'::tl).contains (.ref D)=zy K C' D:=λD=>by unfold zy;rw[ho];show _=cd.mro.contains _;rw[em]
   obtain⟨nm,bs,mro,ns,qn,hd,sn,sub,ab,cl,del⟩:=cd;dsimp only at em z3 z5 z6;subst em z3;obtain⟨l⟩:=sl;have DE:l=[a0,a1,a2,a3,some (.builtin "ValueError.__new__"),a5]:=es;subst DE;exact⟨tl,ns,nm,qn,bs,hd,sn,sub,ab,cl,dd,a0,a1,a2,a3,a5,_,hk _ _ ho,.of_isNs (PySem.W.isNs_of_in hk z5),PySem.W.nsMap_none_of_in hk z5 z6,PySem.W.tail_of_in hk z4,sb⟩
  next=>cases q
 next=>cases q
section
variable {X:Cx}
def Bp(C:Addr)(W:XW)(ta:TA):TS:=λ_ σ H=>ta σ H λvs H1=>vs.length<=sizeLine/\W σ (.ref C) H1
theorem wt{x:Str}{C:Addr}{W:XW}{np bM pos:Pos}{e:Expr}{es:List Expr}{ta:TA}(hc:X.calm=true)(md:Md X W)(hg:Gl X x)(hm:X.mg x=some (.ref C))(hx:iM X.K C)(ha:PA X (e::es) ta)
 (ji:(x==("__debug__":Str))=false:=by decide) (he:starEach (e::es) X.env=(false,eval e X.env)::starEach es X.env:=by rfl) (hpl:(backTo bM (starEach es X.env)).any (·.1)=false:=by rfl) :
 PS X (.Raise (some (.Call (.Name x np) (e::es) [] bM)) none pos) (Bp C W ta):=by
 intro pins s σ H D I h;obtain⟨tl,N,nm,qn,bs,hd,sn,sb,ab,cl,dd,a0,a1,a2,a3,a5,mN,hC,hN,RM,T,_⟩:=Lx I.mod.xj hx;refine wpAny_Raise_call_subT (C:=C) (bm:=tl) (nm:=nm) (q:=qn) (N:=N) (bs:=bs) (hdct:=hd) (sn:=sn) (sub:=sb) (ab:=ab) (col:=cl) (dd:=dd) (k0:=a0) (k1:=a1) (k2:=a2) (k3:=a3) (k5:=a5) PySem.F.excBase_ValueError (mN:=mN) (T.hasType (by decide)) (I.ok.hd hc) (by rw[he];show(false || (backTo bM (starEach es X.env)).any (·.1))=false;rw[hpl];rfl) RM (AN I hg hm ⟨rfl,?_⟩ ji);have hA:=ha bM pins s σ H _ I h;rw[he]at hA ⊢;refine Calls.evalArgs_plain (aO hA λus s1 ⟨vs,H1,I1,r1,hz,q⟩=>⟨rfl,by show us.length<=sizeLine;rw[<-r1.length];exact hz,I1.bk _ _ hC,hN.keeps I1.bk,T.keeps I1.bk,λh' x mk=>?_⟩);exact md pins σ H1 s1 x (.ref C) us h' I1 mk q
end
structure cc (P:Program) (w:World) (K:Frag) (mg:Str->Option Value) (base:Heap) (k:Nat) (x:Str) (ps:List Str) (sp:Sp):Prop where
 ex:∃f fd,ar P w K mg base (dO P w) k f fd ps sp/\mg x=some (.ref f)/\keepIn K (.ref f)=true/\Binds K fd ps []
theorem cc.of
 (F:aL K x qual st f fd) (G:ar P w K mg base (dO P w) k f fd ps sp) (hm:mg x=some (.ref f)) (b:Binds K fd ps []):cc P w K mg base k x ps sp:=⟨f,fd,G,hm,F.kp,b⟩
variable {N:List Str}
theorem aL.iC(F:aL K x qual st f fd)(S:ag N ps (zf st))(len:∀vs H Q E,sp vs H Q E->vs.length=ps.length)
 (eY:∀(X:Cx)(W:XW)(aG:Value)(A:Around)(outer:List Env)(s:Shared)(H:Hp)(vs:List V)(Q:VK)(E:XK),X=gx (dO P w) P w K mg base N qual (zf st) f aG A outer s H E->W=(λ_ cls H'=>E cls none H')->Fl X W->Md X W->bo k X.A->sp vs H Q E ->
   ∃t,jJ X (wP st) t/\t { nx:=λ_ H'=>Q .bH H',rt:=Q } (jK N vs) H):ar P w K mg base (dO P w) (k+1) f fd ps sp:=by
 obtain⟨oc,od,kV,doc,pm,an,aG,ct,i7,rfl,lk,fB⟩:=F.ex;refine pU lk fB S len λA outer s H vs Q E hr hZ=>?_;exact eY _ _ aG A outer s H vs Q E rfl rfl vh Bo hr hZ
def Bq(W:XW)(sp:Sp)(t:TA):TE:=λσ H Q=>t σ H λvs H1=>sp vs H1 Q λcls _ H'=>W σ cls H'
section
variable {X:Cx}{k:Nat}{x:Str}{ps:List Str}{sp:Sp}{p pos:Pos}{e:Expr}{es:List Expr}{t:TA}{W:XW}
theorem Ly{pins:List (Addr×Obj)}{σ:St}{H:Hp}{s:Shared}{Q:VK}{us:List Value}{vs:List V}{f:Addr}{fd:FuncData}(F:ar X.prog X.w X.K X.mg X.base (dO X.prog X.w) k f fd ps sp)(hr:bo k X.A)(hb:Binds X.K fd ps [])(fl:Fl X W)
 (I:Inv X pins σ H s) (r:Vals vs us) (h:sp vs H Q λcls _ H'=>W σ cls H'):wpAny (model X.prog X.w) X.A (call (.ref f) us) (EP X pins σ Q) X.xe s:=by
 have hl:us.length=ps.length:=by rw[<-r.length];exact F.len _ _ _ _ h
 have uf:=hb s us I.iY (by rw[append_nil];exact hl);rw[append_nil]at uf;refine wpAny_call (codeAny_mono (F.run X.A X.stack s H ⟨us,[]⟩ us vs Q _ hr I.uW uf r h) λr s' hq=>?_);cases r with
 | error e =>
   obtain⟨y,cls,H',rfl,Eu,w⟩:=hq;exact fl pins σ H s y cls H' s' I Eu w
 | ok Wa =>
   cases Wa with
   | ret u=>exact I.after hq
   | next=>exact False.elim hq
   | brk=>exact False.elim hq
   | cont=>exact False.elim hq
theorem yG(C:cc X.prog X.w X.K X.mg X.base k x ps sp)(fl:Fl X W)(hr:bo k X.A)(hg:Gl X x)(ha:PA X (e::es) t)(ji:(x==("__debug__":Str))=false:=by decide)(he:starEach (e::es) X.env=(false,eval e X.env)::starEach es X.env:=by rfl)
 (hpl:(backTo pos (starEach es X.env)).any (·.1)=false:=by rfl):PE X (.Call (.Name x p) (e::es) [] pos) (Bq W sp t):=by
 obtain⟨f,fd,F,hm,hk,hb⟩:=C.ex;intro pins s σ H Q I h;refine wpAny_Call_Name_kw (AN I hg hm ?_ ji);refine callWith_K (h₀:=X.base) I.ok.mod.xj hk (aO (ha pos pins s σ H _ I h) λus s1 ⟨vs,H1,I1,r,q⟩=>⟨I1.iY,?_⟩) he hpl;exact Ly F hr hb fl I1 r q
end
def Cz(X:Cx)(x:Addr):Cx:={ X with A:=X.A.mark (some (.ref x)),calm:=false,xe:=λ_ _=>False }
section
variable {X:Cx}{pins:List (Addr×Obj)}{σ:St}{H H':Hp}{s s':Shared}{x:Addr}{cls:Value}
theorem Cx.Ok.fS(ok:X.Ok):(Cz X x).Ok :=
 ⟨ok.mod,ok.kind,ok.glob,ok.blt,ok.above,ok.inj,ok.has,ok.tV,λz=>Bool.noConfusion (show false=true from z),ok.frames,ok.uK,ok.pe,ok.bs,ok.jf,ok.gp,ok.gq,ok.da,ok.mD⟩
theorem Inv.fS(I:Inv X pins σ H s):Inv (Cz X x) pins σ H s:=⟨I.ok.fS,I.os,I.bare,I.base,I.loc,I.cell,I.free,I.cG,I.pin,I.aJ,I.len⟩
theorem Inv.gi(ok:X.Ok)(I:Inv (Cz X x) pins σ H s):Inv X pins σ H s:=⟨ok,I.os,I.bare,I.base,I.loc,I.cell,I.free,I.cG,I.pin,I.aJ,I.len⟩
theorem jM.inv(I:Inv X pins σ H s)(f:jM X.prog X.w X.stack H s x cls H' s'):Inv X pins σ H' s':=by
 obtain⟨B,a0,ib,hB,k1,k2⟩:=f.ex;refine I.pj (ch:=[]) f.os (f.un (a0:=a0) (l:=X.stack) hB k1 k2 ib.1 f.slot I.eX) (hB.kept ib.1) f.bare λb z=>nomatch z
theorem jM.to(I:Inv X pins σ H s)(f:jM X.prog X.w X.stack H s x cls H' s'){B h:Heap}{a0:Value}(hB:dz X.prog X.w H' B)(k1:∀b o,s.heap.get? b=some o->H b=none->b∉dA X.stack->B.get? b=some o)
 (k2:∀b o,s.heap.get? b=some o->b∉dA X.stack->∃o',B.get? b=some o') (ib:FlyingW B X.stack x cls a0 h) (up:s'.heap.UpToSlots h):jM X.prog X.w X.stack H s x cls H' { s' with heap:=h } :=
 ⟨f.os,f.bare,⟨B,a0,ib,hB,k1,k2⟩,λb o e n hb=>by
  obtain⟨sl,e1⟩:=f.slot b o e n hb;obtain⟨mQ,e2⟩:=up b _ e1 (show ∀vs,o.data ≠ .fields vs from I.Bn hb e);exact⟨mQ,e2⟩,f.free,f.cP,f.cF,f.cW,f.new⟩
variable {E:Value->Shared->Prop}{Q:Unit->Shared->Prop}
theorem qL{M:Model}(I:Inv X pins σ H s)(f:jM X.prog X.w X.stack H s x cls H' s')(jg:X.stack=X.env::X.outer)(hf:X.env.frame=some X.env.locals)
 (k:∀hV,jM X.prog X.w X.stack H s x cls H' hV->Q () hV):wpAny M X.A (noteFrame (.ref x) X.env) (λ_ s2=>wpAny M X.A (setFlight (.ref x) none) Q E s2) E s':=by
 obtain⟨B,a0,ib,hB,k1,k2⟩:=f.ex;have Ew:=ib;rw[jg]at Ew;refine wpAny_looks_onW (base:=B) (by rw[<-jg];exact I.ok.frames) hf Ew λh1 hh up1=>?_;refine wpAny_landsW hh λh2 js xN=>?_;rw[<-jg]at js;exact k _ (f.to I hB k1 k2 js (up1.trans xN))
theorem mW{M:Model}{A:Around}(I:Inv X pins σ H s)(f:jM X.prog X.w X.stack H s x cls H' s')
 (k:∀hV,jM X.prog X.w X.stack H s x cls H' hV->Q () hV):wpAny M A (setFlight (.ref x) none) Q E s':=by
 obtain⟨B,a0,ib,hB,k1,k2⟩:=f.ex;exact lands_againW ib λh2 js xN=>k _ (f.to I hB k1 k2 js xN)
theorem jM.there(f:jM X.prog X.w X.stack H s x cls H' s'):∃o,s'.heap.get? x=some o/\o.cls=cls:=by
 obtain⟨B,a0,ib,_⟩:=f.ex;exact ib.there
end
variable {E:Value->Shared->Prop}
theorem mY{M:Model}{A:Around}{h:Heap}{g:Array GenState}{d:Drawn}{t:Nat}{os:OsState}{e D:Addr}{oe:Obj}{Q:Bool->Shared->Prop}(hk:K.In h)(xC:iM K C)(xD:iM K D)
 (he:h.get? e=some oe) (pf:oe.cls=.ref C) (hq:Q (zy K C D) ⟨h,g,d,t,os⟩):wpAny M A (excMatches (.ref e) (.ref D)) Q E ⟨h,g,d,t,os⟩:=by
 obtain⟨tl,N,nm,qn,bs,hd,sn,sb,ab,cl,dd,a0,a1,a2,a3,a5,mN,hC,hN,RM,T,sub⟩:=Lx hk xC;obtain⟨Wb,N',nm',qn',CA,Cg,sn',G5,ab',cl',Ex,b0,b1,b2,b3,b5,mN',hD,hN',Wc,T',We⟩:=Lx hk xD;have cB:(Value.ref D::Wb).contains (.type "BaseException")=true:=by rw[List.contains_cons,T'.hasType (X:= "BaseException") (b:=true) (by decide),Bool.or_true]
 have cD:=sub D;have f:=tc_notTuple;unfold excMatches
 repeat (first | (with_reducible refine wpAny_loadPart_at he ?_;rw[pf]) | with_reducible refine wpAny_loadPart_at hD ?_ | (with_reducible refine wpAny_isSubtype_exc hD ?_;rw[cB]) | (with_reducible refine wpAny_isSubtype_exc hC ?_;rw[cD]) | wp_step)
 all_goals (cases hb:zy K C D <;> (rw[hb]at hq;first | exact hq | (wp_walk;exact hq)))
def PH(X:Cx)(hs:List ExceptHandler)(th:Value->TS):Prop :=
 ∀(pins:List (Addr×Obj)) (s0 s:Shared) (σ:St) (H H':Hp) (x:Addr) (cls:Value) (D:Ends),Inv X pins σ H s0->jM X.prog X.w X.stack H s0 x cls H' s->th cls D σ H'->wpAny (model X.prog X.w) X.A (handleBy (.ref x) X.env hs) (SP X pins D) X.xe s
def vj:Value->TS:=λ_ _ _ _=>False
theorem qM{hs:List ExceptHandler}:PH X hs vj:=λ_ _ _ _ _ _ _ _ _ _ _ h=>h.elim
def Lz(K:Frag)(Dx:Addr)(ts:TS)(tr:Value->TS):Value->TS:=λcls D σ H=>∃C,cls=.ref C/\iM K C/\if zy K C Dx=true then ts D σ H else tr cls D σ H
section
variable {X:Cx}{x n:Str}{Dx:Addr}{np Br:Pos}{b0:Stmt}{fS:List Stmt}{je:List ExceptHandler}{ts:TS}{tr:Value->TS}{i:Nat}
variable {pins:List (Addr×Obj)}{s:Shared}
theorem SP.back{D:Ends}{y:Addr}(ok:X.Ok){f:Flow}(h:SP (Cz X y) pins D f s):SP X pins D f s:=by
 cases f with
 | next=>obtain⟨σ',H',I,q⟩:=h;exact⟨σ',H',I.gi ok,q⟩
 | brk=>obtain⟨σ',H',I,q⟩:=h;exact⟨σ',H',I.gi ok,q⟩
 | cont=>obtain⟨σ',H',I,q⟩:=h;exact⟨σ',H',I.gi ok,q⟩
 | ret u=>obtain⟨v,σ',H',I,r,q⟩:=h;exact⟨v,σ',H',I.gi ok,r,q⟩
theorem ug(hg:Gl X x)(hm:X.mg x=some (.ref Dx))(hx:iM X.K Dx)(hs:∀y,jJ (Cz X y) (b0::fS) ts)(hr:PH X je tr)(ji:(x==("__debug__":Str))=false:=by decide):
 PH X (.ExceptHandler (some (.Name x np)) none (b0::fS) Br::je) (Lz X.K Dx ts tr):=by
 intro pins s0 s σ H H' y cls D I fl h;obtain⟨C,rfl,hC,h⟩:=h;have I1:Inv X pins σ H' s:=fl.inv I;obtain⟨oe,he,pf⟩:=fl.there;refine wpAny_handleBy_cons (codeAny_handlers_test ?_) (by intro q;cases q);refine AN (X:=Cz X y) I1.fS hg hm ?_ ji;refine mY (K:=X.K) (g:=s.gens) (d:=s.drawn) (t:=s.toks) (os:=s.os) I1.iY hC hx he pf ?_;cases hb:zy X.K C Dx with
 | false =>
   rw[hb,q00 q23]at h;exact hr pins s0 s σ H H' y (.ref C) D I fl h
 | true =>
   rw[hb,q01 rfl]at h;show codeAny _ _ (.handlers (.ref y) [.ExceptHandler none none (b0::fS) Br] X.env) _ s;refine codeAny_handlers_suite ?_;refine mW I fl λs2 Wf=>?_;have I2:Inv X pins σ H' s2:=Wf.inv I;exact wpAny_mono (hs y pins s2 _ _ D I2.fS h) (λf s4 q4=>SP.back I.ok q4) λ_ _ z=>False.elim z
abbrev _root_.L2.Cx.lF(X:Cx)(E:Value->Shared->Prop)(pn:List (Addr×Obj)):Cx:={ X with xe:=E,pn:=pn }
def LA(tb:XW->TS)(th:Value->TS):TS:=λD σ H=>∃W:XW,tb W D σ H/\∀σ1 cls H1,W σ1 cls H1->th cls D σ1 H1
variable {E:Value->Shared->Prop}
theorem Inv.Ey{σ:St}{H:Hp}(I:Inv X pins σ H s):Inv (X.lF E (X.pn++pins)) [] σ H s :=
 ⟨⟨I.ok.mod,I.ok.kind,I.ok.glob,I.ok.blt,I.ok.above,I.ok.inj,I.ok.has,I.ok.tV,I.ok.hd,I.ok.frames,I.ok.uK,I.ok.pe,I.ok.bs,I.ok.jf,I.ok.gp,I.ok.gq,I.ok.da,I.ok.mD⟩,I.os,I.bare,I.base,I.loc,I.cell,I.free,I.cG,λp hp=>I.pin p (by simpa using hp),I.aJ,I.len⟩
theorem Inv.ee{xO:List (Addr×Obj)}{σ:St}{H:Hp}(I:Inv (X.lF E (X.pn++pins)) xO σ H s):Inv X pins σ H s :=
 ⟨⟨I.ok.mod,I.ok.kind,I.ok.glob,I.ok.blt,I.ok.above,I.ok.inj,I.ok.has,I.ok.tV,I.ok.hd,I.ok.frames,I.ok.uK,I.ok.pe,I.ok.bs,I.ok.jf,I.ok.gp,I.ok.gq,I.ok.da,I.ok.mD⟩,I.os,I.bare,I.base,I.loc,I.cell,I.free,I.cG,λp hp=>I.pin p (mem_append_left _ hp),I.aJ,I.len⟩
theorem Bs{body:List Stmt}{h0:ExceptHandler}{hs:List ExceptHandler}{pos:Pos}{tb:XW->TS}{th:Value->TS}(jg:X.stack=X.env::X.outer)(hf:X.env.frame=some X.env.locals)
 (hb:∀(E:Value->Shared->Prop)(pn:List (Addr×Obj)) (W:XW),Fl (X.lF E pn) W->jJ (X.lF E pn) body (tb W)) (hh:PH X (h0::hs) th):PS X (.Try body (h0::hs) [] [] pos) (LA tb th):=by
 intro pins s σ H D I h;obtain⟨W,h1,h2⟩:=h;refine wpAny_Try_except ?_;refine wpAny_mono (hb (λe s₁=>wpAny (model X.prog X.w) X.A (noteFrame e X.env) (λ_ s₂=>wpAny (model X.prog X.w) X.A (setFlight e none) (λ_ s₃=>wpAny (model X.prog X.w) X.A (handleBy e X.env (h0::hs)) (SP X pins D) X.xe s₃) X.xe s₂) X.xe s₁) (X.pn++pins) W ?_ [] s σ H D I.Ey h1) (λf s1 q=>?_) λe s1 q=>q
 .intro xO σ1 H1 s1 x cls H' s' I1 Eu w1;exact qL (X:=X) (pins:=pins) I1.ee Eu jg hf λs2 LB=>hh pins s1 s2 σ1 H1 H' x cls D I1.ee LB (h2 σ1 cls H' w1)
 .cases f with
  | next=>obtain⟨σ',H',I',q⟩:=q;exact wpAny_execs_nil ⟨σ',H',I'.ee,q⟩
  | brk=>obtain⟨σ',H',I',q⟩:=q;exact⟨σ',H',I'.ee,q⟩
  | cont=>obtain⟨σ',H',I',q⟩:=q;exact⟨σ',H',I'.ee,q⟩
  | ret u=>obtain⟨v,σ',H',I',r,q⟩:=q;exact⟨v,σ',H',I'.ee,r,q⟩
end
section
variable {X:Cx}
end
theorem xP:Fl X λ_ _ _=>False:=λ_ _ _ _ _ _ _ _ _ _ h=>h.elim
abbrev aj(K:Frag)(x:Str)(C:Addr):Prop:=nsIn K mainGlobals x=some (some (.ref C))
theorem aj.inj{D:Addr}(a:aj K x C)(b:aj K x D):C=D:=by
 have:=a.symm.trans b;cases this;rfl
section
variable {X:Cx}{K:Frag}
theorem xQ(h:X.K=K):Cn X (D8 K):=by subst h;exact zv
theorem LC(h:X.K=K):Cn X (D9 K):=by subst h;exact oO
theorem Wg(h:X.K=K):dB X (compareOp .NotIn) (KQ K true):=by subst h;exact yz
theorem mZ(h:X.K=K):G0 X "list.index" (qz K):=by subst h;exact Bj
theorem Wh(h:X.K=K):gZ X (.builtin "len") (bI K):=by subst h;exact Ry
theorem qO{tg l:Expr}{tl:TE}(h:X.K=K)(hl:PE X l tl):PI X tg l (xq K tl):=by subst h;exact zz hl
theorem Bt{o e:Expr}{es:List Expr}{to:TE}{t:TA}{name:Str}{apos bM:Pos}{T id:String}{r:V->List V->Hp->VK->Prop}(h:X.K=K)(pa:PlainAttrs T)(slot:Slot T name id)(KR:typeOf (.builtin id)=pure (.type "method_descriptor"))(hm:GY X id r)(ho:PE X o to)(ha:PA X (e::es) t)
 (p8:attributeBase o name X.env (eval o X.env)=eval o X.env:=by rfl)
 (j0:((backTo bM (starEach (e::es) X.env)).all (λx => !x.1) && (backToKw bM (keywordEach [] X.env)).all (λx=>x.1.isSome)
   && decide ((e::es).length+([]:List Keyword).length+(if([]:List Keyword).isEmpty then 0 else 1)<30))=true:=by rfl)
 (p9:(apos.endLine==bM.line)=true:=by rfl) (hs:starEach (e::es) X.env=(false,eval e X.env)::starEach es X.env:=by rfl) (j3:(backTo bM (starEach es X.env)).any (·.1)=false:=by rfl) :
 PE X (.Call (.Attribute o name apos) (e::es) [] bM) (RA K T r to t):=by subst h;exact wb pa slot KR hm ho ha p8 j0 p9 hs j3
end
theorem oR(h:b=true)(k:A):if b=true then A else B:=by rw[q01 h];exact k
theorem zH(h:b=false)(k:B):if b=true then A else B:=by rw[h,q00 q23];exact k
section
variable {α:Type} [DecidableEq α]
def m5(acc:List α)(v:α):List α:=if v∈acc then acc else acc++[v]
def met(val:Nat->α)(i:Nat):List α:=((List.range i).map val).foldl m5 []
theorem LD(val:Nat->α)(i:Nat):met val (i+1)=m5 (met val i) (val i):=by
 unfold met;rw[range_succ,q07,List.foldl_append];rfl
theorem LF{acc:List α}{v k:α}:k∈m5 acc v↔k∈acc\/k=v:=by
 unfold m5;split
 .rename_i h;exact⟨.inl,λz=>z.elim id λe=>by rw[e];exact h⟩
 .rw[mem_append,List.mem_singleton]
theorem LG(acc:List α)(v:α):(m5 acc v).length=if decide (v∈acc)=true then acc.length else acc.length+1:=by
 unfold m5;by_cases h:v∈acc
 .rw[q01 h,q19 h,q01 rfl]
 .rw[q00 h,q20 h,q00 (by decide),q08];rfl
theorem lG(val:Nat->α):∀i,(met val i).length<=i
 | 0=>le_refl _
 | i+1=>by
   rw[LD,LG];have:=lG val i;split <;> lia
theorem qP(ts:List α)(d:α):met (λi=>ts.getD i d) ts.length=ts.foldl m5 []:=by
 unfold met;congr 1;refine ext_getElem (by simp) λi h1 h2=>?_;rw[getElem_map,getElem_range,q18,q31 h2];rfl
theorem Wi(acc ts:List α):(ts.foldl m5 acc).length<=acc.length+ts.length:=by
 induction ts generalizing acc with
 | nil=>exact le_refl _
 | cons a ts ih =>
   rw[foldl_cons];refine q38 (ih _) ?_;rw[LG,q12];split <;> lia
theorem Wj(acc ts:List α)(fW:acc.Nodup):(ts.foldl m5 acc).length=acc.length+ts.length↔(acc++ts).Nodup:=by
 induction ts generalizing acc with
 | nil=>simpa using fW
 | cons a ts ih =>
   rw[foldl_cons];by_cases h:a∈acc
   .have e:m5 acc a=acc:=by unfold m5;rw[q01 h]
    rw[e];constructor
    .intro q;have:=Wi acc ts;rw[q12]at q
     lia
    .intro q;rw[nodup_append]at q;exact q02 rfl (q.2.2 a h a q14)
   .have e:m5 acc a=acc++[a]:=by unfold m5;rw[q00 h]
    have hn:(acc++[a]).Nodup:=by
     rw[nodup_append];exact⟨fW,by simp,λx hx y hy z=>h (by rw[List.mem_singleton.mp hy]at z;rw[<-z];exact hx)⟩
    rw[e];have:=ih (acc++[a]) hn;rw[append_assoc,List.singleton_append]at this;rw[<-this,q08,length_singleton,q12]
    lia
theorem RN(ts:List α)(d:α):(met (λi=>ts.getD i d) ts.length).length=ts.length↔ts.Nodup:=by
 rw[qP];have:=Wj [] ts List.nodup_nil
 simpa using this
end
section
variable {prog:Program}{w:World}{A:Around}{R:Result->Shared->Prop}{it:Addr}{fp wr:List Addr}{G:Array GenState->Array GenState->Prop}{n:Nat}{P:Nat->Value->Prop}{St:Nat->Shared->Prop}
variable {α:Type} [DecidableEq α] {knd:KeyKind prog w α}
theorem RO{h h':Heap}{a:Addr}{S:α->Bool}{m:Nat}(x:h.SetOf knd a S m)(k:∀o,h.get? a=some o->h'.get? a=some o):h'.SetOf knd a S m:=by
 obtain⟨o,es,ep,t,ho,r⟩:=x;exact⟨o,es,ep,t,k _ ho,r⟩
theorem RP{h:Heap}{a:Addr}{S S':α->Bool}{m m':Nat}(x:h.SetOf knd a S m)(e:S=S')(e':m=m'):h.SetOf knd a S' m':=by subst e;subst e';exact x
theorem qR(W:WalksS prog w A.in1 it fp wr G n P St)(S:Addr)(hS:S∉fp)(val:Nat->α)(hv:∀i v,P i v->knd.is (val i) v=true/\v.scannable=true)(hb:n+1<scanBound):
 ∀(k i:Nat)(s:Shared),k+i=n->St i s->s.heap.SetOf knd S (λx=>decide (x∈met val i)) (met val i).length ->
  (∀s',Moved (S::wr) G s s'->s'.heap.SetOf knd S (λx=>decide (x∈met val n)) (met val n).length->R (.ok (.ret .none)) s') ->
  codeAny (model prog w) A (.builtin "set.update.loop" ⟨[.ref S,.ref it],[]⟩) R s:=by
 have hw:S∉wr:=λz=>hS (W.sub _ z);intro k
 induction k with
 | zero =>
   intro i s hk st hs hR;rw[Nat.zero_add]at hk;subst hk;refine codeAny_builtin F.entry_set_update_loop ?_;rw[Around.under_plainId F.plain_set_update_loop _];refine q03 (W.done s _ _ st λs' hm=>?_);exact q04 (hR s' (hm.mono λb z=>q13 _ z) (RO hs λo e=>hm.heap S o hw e))
 | succ k ih =>
   intro i s hk st hs hR;refine codeAny_builtin F.entry_set_update_loop ?_;rw[Around.under_plainId F.plain_set_update_loop _];refine q03 (W.item i s _ _ (by lia) st λv s' hP jh hm=>?_);obtain⟨kv,sv⟩:=hv i v hP;have qS:=RO hs λo e=>hm.heap S o hw e;refine q03 (m:=holding [v] (setAdd S v)) (wpAny_holding ?_);unfold setAdd;refine wpAny_holding (q03 (knd.pyHash kv ?_));refine wpAny_setAddHashed_of (knd:=knd) (s:={ s' with toks:=s'.toks+1 }) kv sv qS (by have:=lG val i;lia) λh' ve mG=>?_;have Wk:h'.SetOf knd S (λx=>decide (x∈met val (i+1))) (met val (i+1)).length:=by
    refine RP mG (funext λx=>?_) ?_
    .rw[LD];by_cases h1:x∈met val i
     .rw[q19 h1,q19 (LF.mpr (.inl h1)),Bool.true_or]
     .by_cases h2:x=val i
      .rw[q19 h2,q19 (LF.mpr (.inr h2)),Bool.or_true]
      .rw[q20 h1,q20 h2,q20 λz=>(LF.mp z).elim h1 h2];rfl
    .rw[LD,LG]
   refine q04 ⟨plainId_quiet F.plain_set_update_loop _,ih (i+1) _ (by lia) (W.frame _ s' _ _ jh (le_succ _) λb hb o e=>?_) Wk λhV LH=>hR hV ?_⟩
   .rw[ve.2 b λz=>hS (by rw[<-z];exact hb)];exact e
   .refine Moved.trans W.gtrans ((hm.mono λb z=>q13 _ z).then_heap (le_succ _) λb o hb e=>?_) LH;rw[ve.2 b λz=>hb (by rw[z];exact q14)];exact e
end
section
variable {prog:Program}{w:World}{A:Around}{E:Value->Shared->Prop}{s:Shared}{α:Type} [DecidableEq α] {knd:KeyKind prog w α}
def Filled(knd:KeyKind prog w α)(s:Shared)(ks:List α)(s2:Shared):Prop :=
 ∃(h':Heap)(tk:Nat),s2={ s with heap:=h',toks:=tk }/\h'.SetOf knd s.heap.objs.size (λk=>decide (k∈ks)) ks.length/\∀b o,b<s.heap.objs.size->s.heap.get? b=some o->h'.get? b=some o
set_option maxHeartbeats 3200000 in
theorem Wl{l:Addr}{items:Array Value}{val:Nat->α}{Q:Value->Shared->Prop}(hh:A.handled=none)(hl:s.heap.IsList l items)(hv:∀i v,items[i]? = some v->knd.is (val i) v=true/\v.scannable=true)(hb:items.size+1<scanBound)
 (h:∀s2,Filled knd s (met val items.size) s2->Q (.ref s.heap.objs.size) s2):wpAny (model prog w) A (call (.type "set") [.ref l]) Q E s:=by
 have bU:l<s.heap.objs.size:=by obtain⟨o,e,_⟩:=hl;exact lt_size e
 obtain⟨c,tl,Wm⟩:=F.called_set.mro;have RQ:=F.called_set.made;have m8:=F.called_set.sub;refine wpAny_call (codeAny_of_tree ?_);show wpAny _ _ (callAny (.type "set") _) _ _ _;refine q04 ⟨Code.quiet_builtin _ (by decide +kernel),codeAny_builtin F.entry_type_call ?_⟩;rw[Around.under_plain (weight_type_call_type "set" [.ref l] []) rfl];have h1:=F.called_set.notType;have h2:=F.called_set.canCreate;have h3:=F.typeCall_set_1 (.ref l)
 repeat (any_goals (first | assumption | wp_step))
 refine codeAny_mono (code_set_new_1 (.ref l) (E:=E) (Q₁:=λv s₁=>∃led:Bool,v=.ref s.heap.objs.size/\s₁={ s with heap:=s.heap.push { cls:=.type "set",dict:=none,data:=.set #[] 0 (.fresh 0 0 led) } }) λled=>⟨led,rfl,rfl⟩) λr s₁ hr=>?_;rcases r with e | fl
 .exact hr
 cases fl with
 | ret v =>
   obtain⟨led,rfl,rfl⟩:=hr;generalize LI:({ cls:=.type "set",dict:=none,data:=.set #[] 0 (.fresh 0 0 led) }:Obj)=ob;have hS:(s.heap.push ob).get? s.heap.objs.size=some ob:=get?_push_size _ (by rw[<-LI];rfl);have hT:Shared.TypeIs { s with heap:=s.heap.push ob } (.ref s.heap.objs.size) "set":=⟨_,hS,by rw[<-LI]⟩;have h4:=F.called_set.init.lookup;have h5:=F.called_set.init.bind (.ref s.heap.objs.size)
   repeat (any_goals (first | assumption | wp_step))
   refine codeAny_mono (codeAny_call_builtin (R:=wants (λr s₂=>r=.none/\Filled knd s (met val items.size) s₂) E) F.called_set.init.plain F.entry_set_init (check_set_init_1 hT ?_)) λr₂ s₂ LJ=>?_
   .have c9:(s.heap.push ob).IsList l items:=hl.push _;obtain⟨⟨Wn,RR,RS,LL⟩,hol,fT,nl,xR⟩:=id c9;simp only at fT xR;subst fT xR;have h6:=F.sub_list_set;have h7:=F.sub_list_frozenset;have h8:(Value.type "list" == Value.type "dict")=false:=by decide
    subst LI;unfold Builtin.«set.__init__» noKeywords Builtin.Frozenset.updateFrom;generalize Wo:pyIter=PI
    wp_walk
    subst Wo;refine wpAny_pyIter_list c9 (q03 (wpAny_runValue ?_));have hsz:(s.heap.push { cls:=.type "set",dict:=none,data:=.set #[] 0 (.fresh 0 0 led) }).objs.size=s.heap.objs.size+1:=size_push ..;refine qR (knd:=knd) ((Walks.list (by simp[hh]) _ l (by rw[hsz];exact ne_of_lt (lt_succ_of_lt bU)) items).toS) s.heap.objs.size ?_ val hv hb items.size 0 _ rfl ⟨⟨_,get?_push_size _ rfl,rfl,rfl⟩,c9.push _⟩ ?_ λs' hm Wq=>?_
    .rw[hsz];simp only[q27,not_mem_nil,or_false,not_or];exact⟨ne_of_lt (lt_succ_self _),ne_of_gt bU⟩
    .exact RP ((setObjOf_fresh (knd:=knd) led).setOf (q05 _ hS) (by unfold scanBound;lia)) rfl rfl
    .obtain⟨h',g',d',LM,D2⟩:=s';have eg:g'=s.gens:=hm.gens;have ed:d'=s.drawn:=hm.drawn;have eo:D2=s.os:=hm.os;subst eg ed eo;refine q04 (show wpAny _ _ (ret Value.none) _ _ _ from q04 ⟨rfl,h',LM,rfl,Wq,λb o hb e=>?_⟩);refine hm.heap b o ?_ (q05 _ (q05 _ e));rw[hsz];simp only[q27,not_mem_nil,or_false,not_or];exact⟨ne_of_lt hb,ne_of_lt (lt_succ_of_lt hb)⟩
   .rcases r₂ with e | Wr
    .exact LJ
    cases Wr with
    | ret r =>
      obtain⟨rfl,hf⟩:=LJ
      repeat (any_goals (first | assumption | wp_step))
      exact h _ hf
    | _=>exact LJ.elim
 | _=>exact hr.elim
end
section
variable {X:Cx}
inductive gB (x y:V)(H:Hp)(Q:VK):Prop|mk(i:_)(j:_):x=.str i->y=.str j->Q (.bl (!decide (j.cps.toList<i.cps.toList))) H->gB x y H Q
theorem Hd:dB X (compareOp .LtE) gB:=by
 intro pins s σ H x y v u Q I rx ry h;obtain⟨i,j,rfl,rfl,q⟩:=h;obtain⟨t,rfl⟩:=rx;obtain⟨t',rfl⟩:=ry;exact PySem.P.le_str (zZ I q rfl)
inductive xS (x:V)(lo hi:Option Int)(H:Hp)(Q:VK):Prop|mk(z:_):x=.str z->z.length<=sizeLine->Q (.str (PySem.Txt.slice z lo hi)) H->xS x lo hi H Q
def LN:V->Option Int->Option Int->Hp->VK->Prop:=λx lo hi H Q=>xS x lo hi H Q
theorem lH{v:Value}{o:Option Int}(h:IsPart v o):∃p:Option (Int×Tok),v=partValue p/\p.map (·.1)=o:=by
 cases h with
 | none=>exact⟨none,rfl,rfl⟩
 | int i t=>exact⟨some (i,t),rfl,rfl⟩
theorem qV:KJ X LN:=by
 intro pins s σ H x v vl vu lo hi sl Q I rx hs pl pu h;obtain⟨z,rfl,hz,q⟩:=h;obtain⟨t,rfl⟩:=rx;obtain⟨l,rfl,rfl⟩:=lH pl;obtain⟨u,rfl,rfl⟩:=lH pu;refine⟨"str",_,PySem.F.slot_str_getitem.lookup,typeIs_str _ _ _,wpAny_getItem_str_slice (l:=l) (u:=u) (st:=none) hs rfl (post_val_or_str ⟨q38 (PySem.Txt.slice_le z _ _) hz,λt' k=>?_⟩)⟩;exact⟨.str (PySem.Txt.slice z _ _),H,I.tok _,⟨t',rfl⟩,q⟩
def LO(z:Str):It:=⟨λi _=>i<z.length,λi H x H'=>H'=H/\∃c,z.cps[i]? = some c/\x=.str ⟨#[c]⟩,λi _=>i=z.length⟩
theorem RT{P:Program}{w:World}{K:Frag}{tg:Expr}(it:Addr)(T:String)(z:Str)(t:Tok)
 (hT : ["enumerate","zip","dict_itemiterator","dict_reverseitemiterator","odict_iterator","itertools.zip_longest","itertools.pairwise"].contains T=false)
 (W:∀A:Around,A.handled=none->Walks P w A it [it] [it] z.cps.size (SignAt z) (λi h=>h.IsStrIter it T z t i))
 (Ws:∀(A:Around)(i:Nat)(s:Shared)(Q:Value->Shared->Prop)(E:Value->Shared->Prop),s.heap.IsStrIter it T z t i->Q (.ref it) s->wpAny (model P w) A (pyIter (.ref it)) Q E s) :
 Turn P w K tg (LO z) [it] it (λi h=>h.IsStrIter it T z t i) where
 mem:=by simp
 obj:=λi h st b hb=>by
  have e:b=it:=by simpa using hb
  subst e;obtain⟨o,e,c,d⟩:=st;exact⟨o,e,λv z=>by rw[d]at z;cases z⟩
 keep:=λi h h' st k=>by obtain⟨o,e,r⟩:=st;exact⟨o,k it (by simp) o e,r⟩
 item:=by
  intro X hP hw hK hc i pins s σ H E I hf st hg;subst hP hw hK;obtain⟨f0,f1,f2,f3,f4,f5⟩:=hf it (by simp);refine(W X.A (I.ok.hd hc)).item i s _ _ hg st λv h' tk hv jh kk=>?_;obtain⟨c,u,ec,rfl⟩:=hv;have I1:Inv X pins σ H { s with heap:=h',toks:=tk }:=I.turned (λb o hb e=>kk b o (by simpa using hb) e) f0 f1 f3 f4 f5;obtain⟨o,e,c1,d⟩:=id jh;exact⟨_,rfl,pF (s:={ s with heap:=h',toks:=tk }) (n:=T) e c1 d hT ⟨.str ⟨#[c]⟩,H,I1,⟨u,rfl⟩,⟨rfl,c,ec,rfl⟩,jh,λb hb=>(hf b hb).1⟩⟩
 done:=by
  intro X hP hw hK hc i pins s σ H E I hf st hg;subst hP hw hK;obtain⟨f0,f1,f2,f3,f4,f5⟩:=hf it (by simp);have hg:i=z.cps.size:=hg;subst hg;exact(W X.A (I.ok.hd hc)).done s _ _ st λh' tk kk=>⟨rfl,I.turned (λb o hb e=>kk b o (by simpa using hb) e) f0 f1 f3 f4 f5⟩
 self:=λA i s Q E st h=>Ws A i s Q E st h
inductive xT (x:V)(H1:Hp)(R:It->Hp->Prop):Prop|mk(z:_):x=.str z->R (LO z) H1->xT x H1 R
def LP(tl:TE):TI:=λσ H R=>tl σ H λx H1=>xT x H1 R
theorem qW{tg l:Expr}{tl:TE}(hl:PE X l tl):PI X tg l (LP tl):=by
 intro pins s σ H R I h;refine aO (hl pins s σ H _ I h) λv s1 ⟨x,H1,I1,r1,q1⟩=>?_;obtain⟨z,e,q⟩:=q1;subst e;obtain⟨t,rfl⟩:=r1;have hf:∀b ∈ [s1.heap.objs.size],fq X pins H1 b:=λb hb=>by
  have e:b=s1.heap.objs.size:=by simpa using hb
  subst e;exact I1.fV (le_refl _) (I1.aJ.fresh (le_refl _))
 have hk:∀o:Obj,Inv X pins σ H1 { s1 with heap:=s1.heap.push o }:=λo=>I1.kept (t':=s1.toks) λb u e=>q05 _ e;cases ha:z.cps.all (·< 128)
 .refine wpAny_pyIter_wide ha ⟨s1.heap.objs.size,[s1.heap.objs.size],_,_,H1,rfl,hk _,RT _ "str_iterator" z t (by decide) (λA hA=>Walks.strWide hA _ z t) (λA i s Q E st h=>wpAny_pyIter_striter_wide st h),⟨_,get?_push_size _ rfl,rfl,rfl⟩,hf,q⟩
 .refine wpAny_pyIter_ascii ha ⟨s1.heap.objs.size,[s1.heap.objs.size],_,_,H1,rfl,hk _,RT _ "str_ascii_iterator" z t (by decide) (λA hA=>Walks.strAscii hA _ z t) (λA i s Q E st h=>wpAny_pyIter_striter_ascii st h),⟨_,get?_push_size _ rfl,rfl,rfl⟩,hf,q⟩
theorem RU{z:Str}{c:St}{te:TE}{H:Hp}{fin:List V->Hp->Prop}(Pv:Nat->List V->Hp->Prop)(h0:Pv 0 [] H)(hl:∀i ys H,i<=z.length->Pv i ys H->ys.length<=i)(hz:z.length<=sizeLine)
 (hs:∀i d ys H,z.cps.toList[i]? = some d->Pv i ys H->te (some (.str ⟨#[d]⟩)::c) H λy H3=>Pv (i+1) (ys++[y]) H3) (hd:∀ys H,Pv z.length ys H->fin ys H):cU (LO z) c ue te H fin:=by
 refine⟨λi m ys H=>m=z.length-i/\i<=z.length/\Pv i ys H,⟨z.length,by simp,zero_le _,h0⟩,?_⟩;rintro i m ys H ⟨rfl,hi,p⟩;have hy:=hl i ys H hi p;by_cases bU:i<z.length
 .refine .inr ⟨bU,by lia,Pv (i+1),λys' H' p'=>⟨_,by lia,rfl,bU,p'⟩,λx H' y=>?_⟩;obtain⟨e,d,ed,ex⟩:=y;subst e ex;exact oP (B:=Pv (i+1) ys H') (hs i d ys _ (by rw[Array.getElem?_toList];exact ed) p)
 .have e:i=z.length:=by lia
  subst e;exact .inl ⟨rfl,by lia,hd ys H p⟩
variable {ts:List Str}{i:Nat}
theorem qX{us:List Value}(r:Vals (ts.map V.str) us){v:Value}(h:us[i]? = some v)(d:Str):∃t,v=.str (ts.getD i d) t:=by
 have hl:=r.length;rw[q06]at hl;have hi:i<ts.length:=by rw[hl];exact(q45.mp h).1
 obtain⟨u,e,ru⟩:=r.get (i:=i) (x:=.str ts[i]) (by rw[q26,q31 hi];rfl);rw[e]at h;cases h;obtain⟨t,rfl⟩:=ru;exact⟨t,by rw[q18,q31 hi];rfl⟩
def qY(K:Frag)(te:TE):TE:=λσ H Q=>te σ H λx H1=>∃(a:Addr)(ts:List Str),x=.ref a/\ai K H1 a (ts.map V.str)/\ts.length<4000/\Q (.int (met (λi=>ts.getD i "") ts.length).length) H1
theorem Wt{e:Expr}{te:TE}{p p2 pos ic:Pos}(hc:X.calm=true)(hg:Gl X "len")(hm:X.mg "len"=none)(LR:Gl X "set")(LS:X.mg "set"=none)(he:PE X e te)
 (h1:starEach [.Call (.Name "set" p2) [e] [] ic] X.env=[(false,eval (.Call (.Name "set" p2) [e] [] ic) X.env)]:=by rfl) (h2:starEach [e] X.env=[(false,eval e X.env)]:=by rfl) :
 PE X (.Call (.Name "len" p) [.Call (.Name "set" p2) [e] [] ic] [] pos) (qY X.K te):=by
 intro pins s σ H Q I h;refine wpAny_Call_Name_kw (tX I hg hm PySem.boot_len ?_);refine callWith_builtin1 ?_ h1 rfl;rw[h1];show wpAny _ _ (spliced ((false,eval (.Call (.Name "set" p2) [e] [] ic) X.env)::backTo pos [])) _ _ s;refine Calls.spliced_cons ?_;refine wpAny_Call_Name_kw (tX I LR LS boot_set ?_);refine callWith_type1 ?_ h2 rfl;rw[h2];show wpAny _ _ (spliced ((false,eval e X.env)::backTo ic [])) _ _ s;refine Calls.spliced_cons (aO (he pins s σ H _ I h) λv s1 ⟨x,H1,I1,r1,q1⟩=>?_);obtain⟨a,ts,rfl,hS,hz,q⟩:=q1;cases r1;obtain⟨aw,rv,pl,He⟩:=I1.list hS;have hl:=rv.length;rw[q06]at hl;have ve:scanBound=4096:=rfl;refine Calls.spliced_nil ?_;refine Wl (knd:=strKind X.prog X.w) (val:=λi=>ts.getD i "") (I1.ok.hd hc) pl.isList (λi v hv=>?_) (by rw[q10];lia) λs2 ⟨h',tk,e2,hs,hk⟩=>?_
 .obtain⟨t,rfl⟩:=qX rv (i:=i) (v:=v) (by simpa using hv) "";exact⟨beq_self_eq_true _,rfl⟩
 subst e2;have I2:Inv X pins σ H1 { s1 with heap:=h',toks:=tk }:=I1.kept (t':=tk) λb o e=>hk b o (lt_size e) e;refine Calls.spliced_nil ?_;have Lp:aw.toArray.size=ts.length:=by rw[q10];lia
 rw[Lp]at hs;obtain⟨o,es,ep,t,ho,hex,hd,_,_,hsz,hf,hn⟩:=hs;refine PySem.call_len_set ho hex hd hf (by lia) ⟨.int (met (λi=>ts.getD i "") ts.length).length,H1,I2.tok _,⟨tk+1,?_⟩,q⟩;rw[hn]
theorem Hf(h:i<ts.length):(ts.map V.str)[i]? = some (.str (ts.getD i "")):=by
 rw[q26,q31 h,q18,q31 h];rfl
theorem Ez{i:Int}(h0:0<=i)(h:i<ts.length):fC (ts.map V.str) i=some (.str (ts.getD i.toNat "")):=Bl h0 (Hf (by lia))
theorem nc(ts:List Str):(ts.map V.str).all iA=true:=by
 rw[all_map];exact q39.mpr λ_ _=>rfl
theorem qZ(ts:List Str)(c:Str):u9 (.str c) (ts.map V.str)=decide (c∈ts):=by
 unfold u9
 induction ts with
 | nil=>rfl
 | cons a ts ih =>
   rw[map_cons,any_cons,ih];show((a==c) || _)=_;by_cases h:a=c
   .subst h;simp
   .have:¬c=a:=λe=>h e.symm;simp[h,this]
theorem Bu{x:V}(hx:(ts.map V.str)[i]? = some x):i<ts.length/\x=.str (ts.getD i ""):=by
 have hi:i<ts.length:=by have:=(q45.mp hx).1;rwa [q06]at this
 refine⟨hi,?_⟩;rw[Hf hi]at hx;exact(q22 hx).symm
theorem yw(hi:i<ts.length):ts.take (i+1)=ts.take i++[ts.getD i ""]:=by
 rw[take_succ,q31 hi,q18,q31 hi];rfl
theorem vk(hi:i<ts.length):ts.getD i "" ∈ ts:=by
 rw[q18,q31 hi];exact q44 hi
theorem zu(x y:Str):(x++y).length=x.length+y.length:=by
 show(x.cps++y.cps).size=x.cps.size+y.cps.size;exact Array.size_append
abbrev LU:Str:= "abcdefghijklmnopqrstuvwxyz"
def q9(c:Nat):Bool:=decide (97<=c) && decide (c<=122)
theorem RV(ns:List Int):∀i,i<=ns.length->preSum (λi=>ns.getD i 0) i=(ns.take i).sum
 | 0,_=>by simp[preSum]
 | i+1,h=>by
   rw[yM (by lia),List.sum_append,<-RV ns i (by lia)];simp[preSum]
inductive iD (K:Frag)(xs:List V)(H:Hp)(Q:VK):Prop|mk(a:Addr)(ns:List Int):xs=[.ref a]->ai K H a (ns.map V.int)->Q (.int ns.sum) H->iD K xs H Q
theorem EA(hc:X.calm=true):gZ X (.builtin "sum") (iD X.K):=by
 intro pins s σ H xs us Q I r h;obtain⟨a,ns,rfl,hS,q⟩:=h;obtain⟨u,rfl,ru⟩:=r.one;cases ru;obtain⟨aw,r1,p1,z1⟩:=I.list hS;have l1:=r1.length;rw[q06]at l1;have bU:a<s.heap.objs.size:=by obtain⟨o,n,e,_⟩:=p1;exact lt_size e
 refine call_sum_walkAnyS (wpAny_pyIter_list p1.isList ?_);have I1:Inv X pins σ H { s with heap:=s.heap.push { cls:=.type "list_iterator",data:=.fields #[.ref a,.int 0 0] } }:=I.kept (t':=s.toks) λb o e=>q05 _ e;refine⟨s.heap.objs.size,_,_,_,aw.toArray.size,_,_,λi=>ns.getD i 0,rfl,(Walks.list (by simpa using I.ok.hd hc) s.heap.objs.size a (ne_of_lt bU) aw.toArray).toS,⟨⟨_,get?_push_size _ rfl,rfl,rfl⟩,p1.isList.push _⟩,?_,?_,λs' t' hm=>?_⟩
 .intro b hb;rw[size_push];simp only[q27,not_mem_nil,or_false]at hb;rcases hb with rfl | rfl
  .exact lt_succ_self _
  .exact lt_succ_of_lt bU
 .intro i v hP;exact IntsAre.int_at (Cm r1) i v (by simpa using hP)
 .obtain⟨h',g',d',LM,D2⟩:=s';have eg:g'=s.gens:=hm.gens;have ed:d'=s.drawn:=hm.drawn;have eo:D2=s.os:=hm.os;subst eg ed eo;have f:=I.fV (H':=H) (le_refl _) (I.aJ.fresh (le_refl _));have I2:=I1.turned (t':=LM) (h':=h') (it:=s.heap.objs.size) (λb o hb e=>hm.heap b o (by simpa using hb) e) f.1 f.2.1 f.2.2.2.1 f.2.2.2.2.1 f.2.2.2.2.2;refine⟨.int ns.sum,H,I2,⟨t',?_⟩,q⟩;rw[q10,<-l1,RV ns _ (le_refl _),q15]
end
def fX(X:Cx)(x:Str)(N:List Str)(scope:Scope)(cl:List (Str×Addr))(cx:Addr)(C:Addr)(s2:Shared)(H2:Hp)(fp:List Addr):Cx where
 prog:=X.prog
 w:=X.w
 K:=X.K
 mg:=X.mg
 base:=X.base
 A:=X.A
 N:=N
 s₀:=s2
 H₀:=H2
 env:=compEnvC scope ((x,cx)::cl) C X.env
 outer:=X.stack
 stack:=X.stack
 ex:=fp
 fn:=λy=>y==x
 calm:=X.calm
 pn:=[]
 xe:=λ_ _=>False
structure bw (sc:Scope) (N:List Str) (x:Str) (fr:List Str) (ix:List Nat) (scope:Scope):Prop where
 kind:scope.kind=.function
 one:∀a acc,cellsFrom a scope.names acc=(x,a)::acc
 push:∀h:Heap,pushCells h scope.names=h.push { cls:=.type "cell",data:=.cell none }
 cells:∀y∈scope.names,y.2=.cell->y.1=x
 lA:∀y∈scope.names,y.2=.local->scope.names.lookup y.1=some .local
 lx:scope.names.lookup x=some .cell
 free:∀y∈scope.names,y.2=.free->sc.names.lookup y.1=some .cell\/sc.names.lookup y.1=some .free
 at':fr.map some=ix.map λi=>N[i]?
 qi:∀y∈fr,scope.names.lookup y=some .free/\(sc.names.lookup y=some .cell\/sc.names.lookup y=some .free)
 nd:(x::fr).Nodup
theorem RW(h:scope.names.lookup y=some .cell\/scope.names.lookup y=some .free):(relabel scope env).names.lookup y=some .cell\/(relabel scope env).names.lookup y=some .free:=by
 rcases h with h | h
 .left;rw[Ei,G1 (Eh env) h,G2 env y .cell (by decide)]
 .exact K4 h
variable {fr:List Str}
theorem ak.under{sc:Scope}(S:ak sc N x fr ix scope):ak (relabel sc env) N x fr ix scope :=
 ⟨S.kind,S.bV,S.lA,S.lx,λy hy hf=>RW (S.free y hy hf),S.at',λy hy=>⟨(S.qi y hy).1,RW (S.qi y hy).2⟩,S.nd⟩
theorem Wu(hc:∀z∈scope.names,z.2=.cell->z.1=x)(h:(relabel scope env).names.lookup y=some .cell\/(relabel scope env).names.lookup y=some .free):(y,NameKind.free)∈scope.names\/y=x:=by
 rw[Ei]at h;have go:∀k,(k=.cell\/k=.free)->(scope.names.map (rl env)).lookup y=some k->(y,NameKind.free)∈scope.names\/y=x:=λk hk q=>by
  obtain⟨k0,m,e⟩:=K3 (Eh env) q;by_cases hf:k0=.free
  .rw[hf]at m;exact .inl m
  .rw[G2 env y k0 hf]at e;rcases hk with z | z
   .exact .inr (hc _ m (e.trans z))
   .exact q02 (e.trans z) hf
 rcases h with h | h
 .exact go _ (.inl rfl) h
 .exact go _ (.inr rfl) h
variable {cx:Addr}{cl:List (Str×Addr)}
theorem xU{c:Addr}(h:((x,cx)::cl).lookup y=some c):(y=x/\c=cx)\/(y≠x/\cl.lookup y=some c):=by
 rw[lookup_cons]at h;by_cases hy:y=x
 .have hb:(y==x)=true:=by simp[hy]
  rw[hb]at h;exact .inl ⟨hy,(q22 h).symm⟩
 .rw[beq_eq_false_iff_ne.mpr hy]at h;exact .inr ⟨hy,h⟩
theorem lI(hy:y≠x):((x,cx)::cl).lookup y=cl.lookup y:=by
 rw[lookup_cons,beq_eq_false_iff_ne.mpr hy]
theorem vm:((x,cx)::cl).lookup x=some cx:=by
 rw[lookup_cons,beq_self_eq_true]
section
variable {X:Cx}{pins:List (Addr×Obj)}{σ:St}{H:Hp}{s:Shared}{x:Str}{fr:List Str}{ix:List Nat}{scope:Scope}{cl:List (Str×Addr)}{fp:List Addr}{C D cx:Addr}
theorem RX(I:Inv X pins σ H s)(h1:∀y c,cl.lookup y=some c->X.env.cells.lookup y=some c){y:Str}{c:Addr}(e:cl.lookup y=some c):c<s.heap.objs.size:=by
 obtain⟨v,o,ho,_⟩:=I.cell y c (h1 y c e);exact lt_size ho
theorem vn(S:bw X.env.scope X.N x fr ix scope)(I:Inv X pins σ H s)(hf:∀b∈fp,fq X pins H b)(jm:∀b∈fp,b<s.heap.objs.size)(hC:s.heap.objs.size<=C)(uh:s.heap.objs.size<=cx)
 (h1:∀y c,cl.lookup y=some c->X.env.cells.lookup y=some c) (h2:∀y,(y,NameKind.free)∈scope.names->∃c,cl.lookup y=some c):(fX X x (x::fr) scope cl cx C s H fp).Ok where
 mod:=I.ok.mod
 kind:=S.kind
 glob:=I.ok.glob
 blt:=I.ok.blt
 above:=hC
 inj:=λy z c a b=>by
  rcases xU a with⟨a1,a2⟩|⟨a1,a2⟩
  .rcases xU b with⟨b1,b2⟩|⟨b1,b2⟩
   .exact a1.trans b1.symm
   .exact q02 (RX I h1 b2) (by rw[a2];exact Nat.not_lt.mpr uh)
  .rcases xU b with⟨b1,b2⟩|⟨b1,b2⟩
   .exact q02 (RX I h1 a2) (by rw[b2];exact Nat.not_lt.mpr uh)
   .exact I.ok.inj y z c (h1 y c a2) (h1 z c b2)
 has:=λy hy=>by
  by_cases e:y=x
  .subst e;exact⟨cx,vm⟩
  .rcases Wu (env:=X.env) (scope:=scope) S.cells hy with z | z
   .obtain⟨c,hc⟩:=h2 y z;exact⟨c,(lI e).trans hc⟩
   .exact q02 z e
 tV:=λy c h e=>by
  have hy:y=x:=by simpa [fX] using h
  rcases xU e with⟨_,z⟩|⟨z,_⟩
  .rw[z];exact uh
  .exact q02 hy z
 hd:=I.ok.hd
 frames:=I.ok.frames
 uK:=.inl rfl
 pe:=λb hb=>⟨λz=>q02 (jm b hb) (by rw[z];exact Nat.not_lt.mpr hC),λy c e=>by
  rcases xU e with⟨_,z⟩|⟨_,z⟩
  .exact λq=>q02 (jm b hb) (by rw[<-q,z];exact Nat.not_lt.mpr uh)
  .exact(hf b hb).2.2.2.2.1 y c (h1 y c z)⟩
 bs:=I.bs
 jf:=q38 I.ok.jf I.sz
 gp:=λb o e hb=>by
  rcases (hf b hb).2.2.2.1 with z | z
  .exact I.ok.gp b o e z
  .exact q02 (q21 (lt_size e) (q38 I.ok.jf z)) (q37 _)
 gq:=λb hb z=>by
  rcases q27.mp (I.iH b z)with e | e
  .exact(hf b hb).2.1 e
  .exact(hf b hb).2.2.1 e
 da:=I.stack
 mD:=I.eX
theorem bw.len(S:bw X.env.scope X.N x fr ix scope):fr.length=ix.length:=by have:=congrArg List.length S.at';simpa using this
theorem rf{s':Shared}{pn:List (Addr×Obj)}{m:Str->Option Value}(S:bw X.env.scope X.N x fr ix scope)(I:Inv X pins σ H s)(hf:∀b∈fp,fq X pins H b)(jm:∀b∈fp,b<s.heap.objs.size)(hC:s.heap.objs.size<=C)(uh:s.heap.objs.size<=cx)
 (h1:∀y c,cl.lookup y=some c->X.env.cells.lookup y=some c) (h2:∀y,(y,NameKind.free)∈scope.names->∃c,cl.lookup y=some c)
 (ho:s'.os=s.os) (hg:s'.gens=s.gens) (k:∀b o,s.heap.get? b=some o->s'.heap.get? b=some o) (hn:s'.heap.Ns C m) (fN:s'.heap.IsCell cx none)
 (hp:∀p∈pn,s'.heap.get? p.1=some p.2/\s.heap.objs.size<=p.1/\p.1≠C/\∀v,p.2.data ≠ .cell v) :
 Inv (fX X x (x::fr) scope cl cx C s H fp) pn (none::fQ ix σ) H s':=by
 obtain⟨mX,V0,K5⟩:=I.loc;refine⟨vn S I hf jm hC uh h1 h2,ho,by rw[hg];exact I.bare,Un.kept k,⟨m,hn,λi y v e1 e2 e3=>?_⟩,λy c e=>?_,I.aJ.fresh hC,λy c e=>?_,λp xI=>?_,I.aJ.kept k,by
  show(none::fQ ix σ).length=(x::fr).length;simp[lB,S.len]⟩
 .cases i with
  | zero=>cases e2
  | succ j =>
    have qm:fr[j]? = some y:=e1;have jn:(fQ ix σ)[j]? = some (some v):=e2;have fY:=mem_of_getElem? qm;have Wv:y≠x:=λz=>(List.nodup_cons.mp S.nd).1 (by rw[<-z];exact fY);obtain⟨f1,f2⟩:=S.qi y fY;unfold fQ at jn;rw[q26]at jn;cases ei:ix[j]? with
    | none=>rw[ei]at jn;cases jn
    | some i =>
      rw[ei]at jn;have j4:(σ[i]?).join=some v:=q22 jn;have e4:σ[i]? = some (some v):=by
       cases q:σ[i]? with
       | none=>rw[q]at j4;cases j4
       | some w=>rw[q]at j4;have:w=some v:=j4;rw[this]
      have e5:X.N[i]? = some y:=by
       have:=congrArg (λl=>l[j]?) S.at';simp only[q26,qm,ei]at this
       simpa using this.symm
      have K6:DB X.env.scope y:=by
       rcases f2 with z | z
       .exact .inr (.inl z)
       .exact .inr (.inr z)
      obtain⟨u,r,l⟩:=K5 i y v e5 e4 K6;refine⟨u,r,.inr ⟨K4 f1,?_⟩⟩;rcases l with⟨z,_⟩|⟨_,c,ec,hc⟩
      .rcases f2 with q | q
       .have q':=(show X.env.scope.names.lookup y=some .local from z).symm.trans q;cases q'
       .have q':=(show X.env.scope.names.lookup y=some .local from z).symm.trans q;cases q'
      .obtain⟨c',jI⟩:=h2 y (PySem.mem_of_lookup f1);have:c'=c:=by have:=h1 y c' jI;rw[ec]at this;exact(q22 this).symm
       subst this;refine⟨c',(lI Wv).trans jI,?_⟩;obtain⟨o,gW,hd⟩:=hc;exact⟨o,k _ _ gW,hd⟩
 .rcases xU e with⟨_,z⟩|⟨_,z⟩
  .subst z;exact⟨none,fN⟩
  .obtain⟨v,o,gW,hd⟩:=I.cell y c (h1 y c z);exact⟨v,o,k _ _ gW,hd⟩
 .rcases xU e with⟨_,z⟩|⟨_,z⟩
  .subst z;exact I.aJ.fresh uh
  .exact I.cG y c (h1 y c z)
 .have Bd:p∈pn:=by simpa [fX] using xI
  obtain⟨q1,q2,q3,q4⟩:=hp p Bd;refine⟨q1,I.aJ.fresh q2,q3,λz=>?_,q4⟩;obtain⟨_,o,gW,_⟩:=I.stack.mem z;exact q02 (q21 (lt_size gW) q2) (q37 _)
end
theorem ka{M:Model}{A:Around}{sc:Scope}{globals:Addr}{outer:Env}{Q:Env->Shared->Prop}(S:bw sc N x fr ix scope)
 (h:Q (newEnv scope s.heap.objs.size globals ((x,s.heap.objs.size+1)::cl) qual none .none (some outer) builtinsNs) { s with heap:=(s.heap.push { cls:=.type "dict",data:=.dict #[] }).push { cls:=.type "cell",data:=.cell none } }) :
 wpAny M A (newFunctionEnv scope globals cl [] qual none .none (some outer)) Q E s:=by
 simp only[newFunctionEnv,Option.isSome_some,if_true];refine q03 (wpAny_alloc ?_);refine q03 (wpAny_layCells _ (λname kind cells=>by cases Ww:kind==NameKind.cell <;> simp[Ww]) _ _ _ _ ?_);rw[S.one,S.push,show({ s with heap:=s.heap.push { cls:=.type "dict",data:=.dict #[] } }:Shared).heap.objs.size=s.heap.objs.size+1 from size_push ..];simp only[forIn_nil];exact q03 (q04 (q04 h))
section
variable {X:Cx}{x:Str}{fr:List Str}{ix:List Nat}{scope:Scope}{elt iter:Expr}{ifs:List Expr}{px pos:Pos}{wi:TI}{tc:TT}{te:TE}
theorem ng{use:Option (Value->Sem Unit)}{Q:Value->Shared->Prop}{pins:List (Addr×Obj)}{s2:Shared}{σ:St}{H2:Hp}{it:Addr}{fp:List Addr}{tn:Nat->Heap->Prop}{J:It}{cl:List (Str×Addr)}(S:bw X.env.scope X.N x fr ix scope)(hc:X.calm=true)
 (j6:∀cl cx C s2 H2 fp,ud (fX X x (x::fr) scope cl cx C s2 H2 fp) ifs tc) (he:∀cl cx C s2 H2 fp,PE (fX X x (x::fr) scope cl cx C s2 H2 fp) elt te)
 (h1:∀y c,cl.lookup y=some c->X.env.cells.lookup y=some c) (h2:∀y,(y,NameKind.free)∈scope.names->∃c,cl.lookup y=some c)
 (I2:Inv X pins σ H2 s2) (T:Turn X.prog X.w X.K (.Name x px) J fp it tn) (iI:tn 0 s2.heap) (f2:∀b∈fp,fq X pins H2 b) {fin:List V->Hp->Prop} (wc:cU J (fQ ix σ) tc te H2 fin)
 (hQ:∀(D C:Addr)(ys:List V)(H':Hp)(s':Shared)(m:Str->Option Value),Inv X pins σ (upd H' D (.lst ys)) s'->H' D=none->s'.heap.Ns C m->D≠C->s2.heap.objs.size<=C->H' C=none->fin ys H' ->
   compPost (model X.prog X.w) X.A X.xe use Q (.ref D) C (.ok .next) s') :
 wpAny (model X.prog X.w) X.A (newList []) (λacc s₃=>wpAny (model X.prog X.w) X.A (newFunctionEnv scope X.env.globals cl [] X.env.qual none .none (some X.env)) (λqo s₄ =>
  codeAny (model X.prog X.w) X.A (.compStart (.ListComp elt [⟨.Name x px,iter,ifs,0⟩] scope pos) 0 (.ref it) acc { qo with scope:=relabel scope X.env }) (compPost (model X.prog X.w) X.A X.xe use Q acc qo.locals) s₄) X.xe s₃) X.xe s2:=by
 have jm:∀b∈fp,b<s2.heap.objs.size:=λb hb=>by
  obtain⟨o,e,_⟩:=T.obj 0 _ iI b hb;exact lt_size e
 refine wpAny_newObj_type (ka S ?_);generalize Be:s2.heap.push { cls:=.type "list",dict:=none,data:=.seq ([]:List Value).toArray }=gA;have Bf:gA.objs.size=s2.heap.objs.size+1:=by rw[<-Be,size_push]
 have gR:s2.heap.objs.size≠gA.objs.size:=by rw[Bf];exact ne_of_lt (lt_succ_self _)
 have jq:s2.heap.objs.size<=gA.objs.size:=by rw[Bf];exact le_succ _
 have uh:s2.heap.objs.size<=gA.objs.size+1:=q38 jq (le_succ _);have Bv:s2.heap.objs.size≠gA.objs.size+1:=by rw[Bf];exact ne_of_lt (lt_succ_of_lt (lt_succ_self _))
 have Hi:(gA.push { cls:=.type "dict",data:=.dict #[] }).objs.size=gA.objs.size+1:=size_push ..;have fN:((gA.push { cls:=.type "dict",data:=.dict #[] }).push { cls:=.type "cell",data:=.cell none }).IsCell (gA.objs.size+1) none:=⟨_,by rw[<-Hi];exact get?_push_size _ rfl,rfl⟩;have jo:((gA.push { cls:=.type "dict",data:=.dict #[] }).push { cls:=.type "cell",data:=.cell none }).Ns gA.objs.size λ_=>none:=(Heap.Ns.new gA (.type "dict")).push _;have old:∀b o,s2.heap.get? b=some o->((gA.push { cls:=.type "dict",data:=.dict #[] }).push { cls:=.type "cell",data:=.cell none }).get? b=some o:=λb o e=>q05 _ (q05 _ (Be ▸ q05 _ e));have fW:((gA.push { cls:=.type "dict",data:=.dict #[] }).push { cls:=.type "cell",data:=.cell none }).get? s2.heap.objs.size=some { cls:=.type "list",data:=.seq ([]:List Value).toArray 0 }:=q05 _ (q05 _ (Be ▸ get?_push_size _ rfl));generalize Wx:gA.objs.size+1=cx at fN uh Bv ⊢;generalize hh1:(gA.push { cls:=.type "dict",data:=.dict #[] }).push { cls:=.type "cell",data:=.cell none }=h₁ at fN jo old fW ⊢;have Ek:tn 0 h₁:=T.keep 0 _ _ iI λb _ o e=>old b o e;have Bh:∀b∈fp,b≠s2.heap.objs.size:=λb hb=>ne_of_lt (jm b hb);generalize hD:s2.heap.objs.size=D at fW gR Bv Bh ⊢;have qr:s2.heap.objs.size<=D:=le_of_eq hD;generalize hC:gA.objs.size=C at jo gR jq ⊢;have qu:∀b o,s2.heap.get? b=some o->b≠D:=λb o e z=>q02 (lt_size e) (by rw[z,<-hD];exact q37 _);obtain⟨W,⟨m0,w0⟩,turn⟩:=wc;have loop:∀s₃:Shared,s₃={ s2 with heap:=h₁ } ->
  codeAny (model X.prog X.w) X.A (.compLoop (.ListComp elt [⟨.Name x px,iter,ifs,0⟩] scope pos) 0 (.ref it) (.ref D) (compEnvC scope ((x,cx)::cl) C X.env))
   (compPost (model X.prog X.w) X.A X.xe use Q (.ref D) C) s₃:=by
  rintro s₃ rfl;have I0:Inv (fX X x (x::fr) scope cl cx C s2 H2 fp) [(D,{ cls:=.type "list",data:=.seq ([]:List Value).toArray 0 })] (none::fQ ix σ) H2 { s2 with heap:=h₁ } :=
   rf S I2 f2 jm jq uh h1 h2 rfl rfl old jo fN (λp hp=>by
    have e:p=(D,{ cls:=.type "list",data:=.seq ([]:List Value).toArray 0 }):=by simpa using hp
    subst e;exact⟨fW,qr,gR,λv z=>by cases z⟩)
  have gu:∀{aw:Obj}{H':Hp},(∀b∈fp,H' b=none)->∀b∈fp,fq (fX X x (x::fr) scope cl cx C s2 H2 fp) [(D,aw)] H' b:=λ{aw H'} hn b hb=>by
   refine⟨hn b hb,λz=>?_,λz=>(I0.ok.gq b hb z),.inl hb,λy c e=>(I0.ok.pe b hb).2 y c e,λp hp z=>?_⟩
   .exact(I0.ok.pe b hb).1 z
   .have e:p=(D,aw):=by simpa [fX] using hp
    subst e;exact Bh b hb (Eq.symm z)
  refine RE (env:=compEnvC scope ((x,cx)::cl) C X.env)
   (λn s'=>∃i ys aw k v0 H',Vals ys aw/\Inv (fX X x (x::fr) scope cl cx C s2 H2 fp) [(D,{ cls:=.type "list",data:=.seq aw.toArray k })] (v0::fQ ix σ) H' s'/\tn i s'.heap/\(∀b∈fp,H' b=none)/\W i n ys H') ?_ m0
   ⟨0,[],[],0,none,H2,.nil,I0,Ek,λb hb=>(f2 b hb).1,w0⟩
  rintro n s3 ⟨i,ys,aw,k,v0,H3,rv,I3,tY,xr,w3⟩;rcases turn i n ys H3 w3 with⟨stop,hz,Bi⟩|⟨go,hz,N,hN,step⟩
  .refine aO (T.done (fX X x (x::fr) scope cl cx C s2 H2 fp) rfl rfl rfl hc i _ s3 _ H3 _ I3 (gu xr) tY stop) λr s4 ⟨hr,I4⟩=>?_;subst hr;have pD:=I4.pin (D,{ cls:=.type "list",data:=.seq aw.toArray k }) (by simp[fX]);obtain⟨mC,K7,_⟩:=I4.loc;have fD:H3 D=none:=pD.2.1;have mU:dz X.prog X.w (upd H3 D (.lst ys)) s4.heap:=λb u e=>by
    by_cases hb:b=D
    .subst hb;rw[ze]at e;cases e;exact⟨hz,aw,k,rv,pD.1⟩
    .rw[zj hb]at e;exact(I4.aJ b u e).eW (λc v _ q=>q) (λc q=>by rw[zj (zr q fD)];exact q) λc xs q=>by rw[zj (zr q fD)];exact q
   have b4:Un (dA X.stack) fp H2 H3 s2.heap s4.heap:=I4.base;have un:Un (dA X.stack) fp H2 (upd H3 D (.lst ys)) s2.heap s4.heap :=
    ⟨b4.keep,b4.slot,λb o q n hx=>by
     rw[zj (qu b o q)];exact b4.free b o q n hx,b4.there,λb xs q=>by rw[zj (zr (b4.cP b xs q) fD)];exact b4.cP b xs q,
     λb o u q=>by rw[zj (zr (b4.cF b o u q) fD)];exact b4.cF b o u q,λb ps q=>by
      obtain⟨more,e⟩:=b4.cW b ps q;exact⟨more,by rw[zj (zr e fD)];exact e⟩⟩
   have I5:Inv X pins σ (upd H3 D (.lst ys)) s4:=I2.pj (ch:=fp) I4.os un mU I4.bare λb hb=>by
    obtain⟨g0,g1,g2,g3,g4,g5⟩:=f2 b hb;exact⟨g3,g1,g4,g5⟩
   exact hQ D C ys H3 s4 mC I5 fD K7 gR jq I4.free Bi
  .refine aO (T.item (fX X x (x::fr) scope cl cx C s2 H2 fp) rfl rfl rfl hc i _ s3 _ H3 _ I3 (gu xr) tY go) λr s4 ⟨u,hr,h4⟩=>?_;subst hr;refine aO h4 λ_ s5 ⟨y,H5,I5,r5,y5,mI,DQ⟩=>?_;have DR:=I5.pinned (gu DQ) (T.obj _ _ mI);have pg:PG (fX X x (x::fr) scope cl cx C s2 H2 fp) (.Name x px) (iZ 0):=zM S.nd rfl (.inr (by show(relabel scope X.env).names.lookup x=some .cell;rw[Ei,G1 (Eh X.env) S.lx,G2 X.env x .cell (by decide)])) (.inl (by simp[fX]));refine aO (pg _ s5 _ H5 y u (λσ6 H6=>σ6=some y::fQ ix σ/\H6=H5) DR r5 ⟨rfl,rfl⟩) λ_ s6 ⟨σ6,H6,I6,e6,K8⟩=>?_;subst e6 K8;refine aO (j6 cl cx C s2 H2 fp _ s6 _ _ _ I6 (step y _ y5)) λb s7 ⟨H7,I7,q7⟩=>?_;have again:∀{s8:Shared}{H8:Hp}{its':List Value}{k':Nat}{ys':List V},Vals ys' its'->Inv (fX X x (x::fr) scope cl cx C s2 H2 fp) [(D,{ cls:=.type "list",data:=.seq its'.toArray k' })] (some y::fQ ix σ) H8 s8->(∀b∈fp,∀o,s5.heap.get? b=some o->s8.heap.get? b=some o)->(∀b∈fp,H8 b=none)->N ys' H8 ->
    ∃m,m<n/\∃i ys aw k v0 H',Vals ys aw/\Inv (fX X x (x::fr) scope cl cx C s2 H2 fp) [(D,{ cls:=.type "list",data:=.seq aw.toArray k })] (v0::fQ ix σ) H' s8/\tn i s8.heap/\(∀b∈fp,H' b=none)/\W i m ys H' :=
    λ{s8 H8 its' k' ys'} K9 I8 kp La nn=>let ⟨m',hm,w8⟩:=hN ys' H8 nn;⟨m',hm,i+1,ys',its',k',some y,H8,K9,I8,T.keep _ _ _ mI kp,La,w8⟩
   cases b with
   | false =>
     rw[q00 q23]at q7 ⊢;refine again rv I7.cH (λb hb o e=>(I7.pin (b,o) (by simp[fX];exact .inr (wX hb e))).1) (λb hb=>?_) q7;obtain⟨o,e,d⟩:=T.obj _ _ mI b hb;exact(I7.pin (b,o) (by simp[fX];exact .inr (wX hb e))).2.1
   | true =>
     rw[q01 rfl]at q7 ⊢;refine aO (he cl cx C s2 H2 fp _ s7 _ _ _ I7 q7) λv s8 ⟨z,H8,I8,r8,q8⟩=>?_;have pD:=I8.pin (D,{ cls:=.type "list",data:=.seq aw.toArray k }) (by simp[fX]);have V3:ys.length=aw.length:=rv.length;refine append_at (hsz:=by show aw.toArray.size<=sizeLine;rw[q10];lia) pD.1 λh₉ El Em=>?_;have eo:({ cls:=.type "list",data:=.seq (aw.toArray.push v) (k+1) }:Obj)={ cls:=.type "list",data:=.seq (aw++[v]).toArray (k+1) }:=by rw[List.push_toArray]
     rw[eo]at Em;have En:∀b∈fp,∀o,s5.heap.get? b=some o->s8.heap.get? b=some o/\H8 b=none:=λb hb o e=>by
      have q:=I8.pin (b,o) (by simp[fX];exact .inr (wX hb e));exact⟨q.1,q.2.1⟩
     have J8:=I8.cH.cT (pins':=[]) (λp hp=>by cases hp);have jr:fq (fX X x (x::fr) scope cl cx C s2 H2 fp) [] H8 D:=⟨pD.2.1,pD.2.2.1,pD.2.2.2.1,.inr qr,λy c e z=>by
      rcases xU e with⟨_,q⟩|⟨_,q⟩
      .exact Bv (z.symm.trans q)
      .obtain⟨v,o,ho,_⟩:=I2.cell y c (h1 y c q);exact qu c o ho z,λp hp=>by cases hp⟩
     have I9:Inv (fX X x (x::fr) scope cl cx C s2 H2 fp) [] (some y::fQ ix σ) H8 { s8 with heap:=h₉ }:=J8.turned (t':=s8.toks) (it:=D) (λb o hb e=>(El.2 b hb).trans e) jr.1 jr.2.1 jr.2.2.2.1 jr.2.2.2.2.1 jr.2.2.2.2.2;refine again (its':=aw++[v]) (k':=k+1) (ys':=ys++[z]) (rv.append (.cons r8 .nil)) (I9.cT λp hp=>?_) (λb hb o e=>(El.2 b (Bh b hb)).trans (En b hb o e).1) (λb hb=>?_) q8
     .have e:p=(D,{ cls:=.type "list",data:=.seq (aw++[v]).toArray (k+1) }):=by simpa using hp
      subst e;exact⟨Em,jr.1,jr.2.1,jr.2.2.1,λv z=>by cases z⟩
     .obtain⟨o,e,d⟩:=T.obj _ _ mI b hb;exact(En b hb o e).2
 exact codeAny_compStart_list (loop _ rfl) (T.self X.A 0 _ _ _ Ek (loop _ rfl))
theorem rg(S:bw X.env.scope X.N x fr ix scope)(hc:X.calm=true)(hi:PI X (.Name x px) iter wi)(j6:∀cl cx C s2 H2 fp,ud (fX X x (x::fr) scope cl cx C s2 H2 fp) ifs tc)(he:∀cl cx C s2 H2 fp,PE (fX X x (x::fr) scope cl cx C s2 H2 fp) elt te)
 (hs:∀x,foldedSetIterable iter X.env x=pure x:=by intro _;rfl):PE X (.ListComp elt [⟨.Name x px,iter,ifs,0⟩] scope pos) (qj ix wi tc te):=by
 intro pins s σ H Q I h;obtain⟨cl,qw,h1,h2⟩:=Cr (env:=X.env) (scope:=scope) λy hy hf=>I.ok.has y.1 (S.free y hy hf);rw[eval_ListComp];refine wpAny_comprehension_free (use:=none) rfl hs qw S.kind S.lA (aO (hi pins s σ H _ I h) λxv s1 q1=>aO q1 λxp s2 q2=>?_);obtain⟨it,fp,tn,J,H2,rfl,I2,T,iI,f2,wc⟩:=q2;refine ng S hc j6 he h1 h2 I2 T iI f2 wc λD C ys H' s' m I' hD hn gR hC qx fin=>?_;refine⟨m,hn,λh' sb=>⟨.ref D,upd H' D (.lst ys),?_,rfl,fin D hD⟩⟩;have dj:fq X pins (upd H' D (.lst ys)) C:=by
  have z:=I2.fV (H':=upd H' D (.lst ys)) hC (by rw[zj (Ne.symm gR)];exact qx);exact z
 exact I'.turned (t':=s'.toks) (it:=C) (λb o hb e=>(sb.2 b hb).trans e) dj.1 dj.2.1 dj.2.2.2.1 dj.2.2.2.2.1 dj.2.2.2.2.2
end
section
open PySem.SeqAt
open PySem.AutoSeq1 (wpAny_loadPart')
open PySem.MeetsSeq PySem.MeetsSeq2 PySem.MeetsSeq3
theorem vo(l b:Addr)(items bN:Array Value)(n n2:Nat)(dd ub:Option Addr)(sl mQ:Array (Option Value))(ns ms:List Int)(hi:IntsAre items.toList ns)(hj:IntsAre bN.toList ms)(k:Nat):
 ∀i:Nat,ns.length-i=k->i<=ns.length->i<=ms.length->Meets (Builtin.«list.__eq__.loop» ⟨[.ref l,.ref b,rawInt i,rawInt 0],[]⟩)
  (λA R s=>s.heap.get? l=some { cls:=.type "list",dict:=dd,data:=.seq items n,slots:=sl }/\s.heap.get? b=some { cls:=.type "list",dict:=ub,data:=.seq bN n2,slots:=mQ } /\
    R (.ok (.ret (.bool (HT.lexLt (ns.drop i) (ms.drop i))))) s):=by
 have z1:items.size=ns.length:=by rw[<-hi.length];simp
 have z2:bN.size=ms.length:=by rw[<-hj.length];simp
 have stop:∀i,(i=ns.length\/i=ms.length)->i<=ns.length->i<=ms.length->HT.lexLt (ns.drop i) (ms.drop i)=decide (items.size<bN.size):=λi h h1 h2=>by
  rw[z1,z2];rcases Nat.lt_or_ge i ns.length with c1 | c1
  .have e:i=ms.length:=h.elim (λz=>by lia) id;rw[drop_of_length_le (le_of_eq e.symm),drop_eq_getElem_cons c1,HT.gz];exact(q20 (by lia)).symm
  .rw[drop_of_length_le c1];rcases Nat.lt_or_ge i ms.length with c2 | c2
   .rw[drop_eq_getElem_cons c2,HT.gy];exact(q19 (by lia)).symm
   .rw[drop_of_length_le c2,HT.ia];exact(q20 (by lia)).symm
 induction k with
 | zero =>
   intro i hk h1 h2 prog w A R s h;obtain⟨hp,g,d,tk,os⟩:=s;obtain⟨hl,hb,h⟩:=h;rw[stop i (.inl (by lia)) h1 h2]at h
   wp_walk using wpAny_loadPart' hl,wpAny_loadPart' hb
   have gS:items[((i:Nat):Int).toNat]? = none:=by simp;lia
   rw[gS]
   wp_walk using wpAny_loadPart' hl,wpAny_loadPart' hb
   exact h
 | succ k ih =>
   intro i hk h1 h2 prog w A R s h;obtain⟨hp,g,d,tk,os⟩:=s;obtain⟨hl,hb,h⟩:=h;have bU:i<items.size:=by lia
   have gS:items[((i:Nat):Int).toNat]? = some items[i]:=by simp[bU]
   wp_walk using wpAny_loadPart' hl,wpAny_loadPart' hb
   rw[gS];by_cases hm:i<ms.length
   .have EB:i<bN.size:=by lia
    have ui:bN[((i:Nat):Int).toNat]? = some bN[i]:=by simp[EB]
    have hc:((i:Int)+1)=((i+1:Nat):Int):=by push_cast;rfl
    rw[ui];obtain⟨t,et⟩:=IntsAre.int_at hi i items[i] (by simp[bU]);obtain⟨u,eu⟩:=IntsAre.int_at hj i bN[i] (by simp[EB]);have GH:i<ns.length:=by lia
    have en:ns.getD i 0=ns[i]:=by rw[q18,q31 GH];rfl
    have em:ms.getD i 0=ms[i]:=by rw[q18,q31 hm];rfl
    rw[en]at et;rw[em]at eu;rw[drop_eq_getElem_cons GH,drop_eq_getElem_cons hm,HT.di]at h;have heq:EqAt A.in1 ⟨hp,g,d,tk,os⟩ items[i] bN[i] (ns[i]==ms[i]):=by rw[et,eu];exact SeqAt.EqAt.int_int _ _ _ _
    refine q03 (heq prog w _ _ ?_);cases uf:(ns[i]==ms[i])with
    | true =>
      rw[q01 (by simpa using uf)]at h
      wp_walk
      rw[hc];exact⟨plainId_quiet plain_eq_loop _,codeAny_builtin entry_eq_loop (by
       rw[Around.under_plainId plain_eq_loop _];exact ih (i+1) (by lia) (by lia) (by lia) prog w A R _ ⟨hl,hb,h⟩)⟩
    | false =>
      rw[q00 (by simpa using uf)]at h
      wp_walk using wpAny_loadPart' hl,wpAny_loadPart' hb
      rw[gS,ui];have RY:=HT.pW A.in1 ⟨hp,g,d,tk,os⟩ ns[i] t ms[i] u prog w;rw[et,eu]
      wp_walk using RY
      exact h
   .have ui:bN[((i:Nat):Int).toNat]? = none:=by simp;lia
    rw[ui];rw[stop i (.inr (by lia)) h1 h2]at h
    wp_walk using wpAny_loadPart' hl,wpAny_loadPart' hb
    exact h
theorem Wy(l b:Addr)(items bN:Array Value)(n n2:Nat)(dd ub:Option Addr)(sl mQ:Array (Option Value))(ns ms:List Int)(hi:IntsAre items.toList ns)(hj:IntsAre bN.toList ms):
 Meets (Builtin.«list.__lt__» ⟨[.ref l,.ref b],[]⟩)
  (λ_ R s=>s.heap.get? l=some { cls:=.type "list",dict:=dd,data:=.seq items n,slots:=sl }/\s.heap.get? b=some { cls:=.type "list",dict:=ub,data:=.seq bN n2,slots:=mQ } /\
    R (.ok (.ret (.bool (HT.lexLt ns ms)))) s):=by
 intro prog w A R s h;obtain⟨hp,g,d,tk,os⟩:=s;obtain⟨hl,hb,h⟩:=h;have f2:=AutoSeq1.sub_list_list
 wp_walk using wpAny_loadPart' hl,wpAny_loadPart' hb
 exact⟨plainId_quiet plain_eq_loop _,codeAny_builtin entry_eq_loop (by
  rw[Around.under_plainId plain_eq_loop _];exact vo l b items bN n n2 dd ub sl mQ ns ms hi hj _ 0 rfl (zero_le _) (zero_le _) prog w A R _ ⟨hl,hb,h⟩)⟩
end
section
variable {X:Cx}
inductive xV (K:Frag)(x y:V)(H:Hp)(Q:VK):Prop|mk(a:_)(b:_)(ns:_)(ms:_):x=.ref a->y=.ref b->ai K H a (ns.map V.int)->ai K H b (ms.map V.int)->Q (.bl (HT.lexLt ns ms)) H->xV K x y H Q
def EC(K:Frag):R2:=λx y H Q=>xV K x y H Q
theorem Wz(hu:X.A.units<cLine):dB X (compareOp .Lt) (EC X.K):=by
 intro pins s σ H x y v u Q I rx ry h;obtain⟨a,b,ns,ms,rfl,rfl,ha,hb,q⟩:=h;cases rx;cases ry;obtain⟨aw,r1,p1,z1⟩:=I.list ha;obtain⟨eZ,r2,p2,z2⟩:=I.list hb;obtain⟨⟨cls,dd,data,sl⟩,n,e,c1,c2,c3⟩:=p1;obtain⟨⟨D5,ub,data2,mQ⟩,n2,e2,d1,d2,d3⟩:=p2;simp only at c1 c2 c3 d1 d2 d3;subst c1 c2 c3 d1 d2 d3;have i1:IntsAre aw.toArray.toList ns:=Cm r1;have i2:IntsAre eZ.toArray.toList ms:=Cm r2;exact richCompare_meets_room (op := .Lt) ⟨_,e,rfl⟩ ⟨_,e2,rfl⟩ PySem.F.slot_list_lt PySem.F.entry_list_lt (PySem.F.args_list_lt_2 _ _) (Wy a b aw.toArray eZ.toArray n n2 _ _ _ _ ns ms i1 i2)
  ⟨e,e2,show Value.bool (HT.lexLt ns ms)≠Value.notImplemented/\EP X pins σ Q (.bool (HT.lexLt ns ms)) s from⟨(λx=>nomatch x),⟨.bl (HT.lexLt ns ms),H,I,rfl,q⟩⟩⟩ hu
theorem WA{K:Frag}(h:X.K=K)(hu:X.A.units<cLine):dB X (compareOp .Lt) (EC K):=by subst h;exact Wz hu
inductive xW (K:Frag)(x y:V)(H:Hp)(Q:VK):Prop|mk(a:_)(b:_)(xs:_)(ys:_):x=.ref a->y=.ref b->ai K H a xs->ai K H b ys->xs.all iA=true->ys.all iA=true->Q (.bl (!fR xs ys)) H->xW K x y H Q
def ED(K:Frag):R2:=λx y H Q=>xW K x y H Q
theorem CB(hu:X.A.units<cLine):dB X (compareOp .NotEq) (ED X.K):=by
 intro pins s σ H x y v u Q I rx ry h;obtain⟨a,b,xs,ys,rfl,rfl,ha,hb,fx,fy,q⟩:=h;cases rx;cases ry;obtain⟨aw,r1,p1,z1⟩:=I.list ha;obtain⟨eZ,r2,p2,z2⟩:=I.list hb;have l1:=r1.length;have l2:=r2.length;by_cases hl:xs.length=ys.length
 .refine SeqAt.RcNeAt.lists p1.isList p2.isList (by simp;lia) hu (qG r1 r2 fx fy) _ _ _ _ ⟨.bl (!fR xs ys),H,I,?_,q⟩;rw[q10,<-l1,Lk hl];rfl
 .refine SeqAt.RcNeAt.lists_lengths p1.isList p2.isList (by simp;lia) hu _ _ _ _ ⟨.bl (!fR xs ys),H,I,?_,q⟩;rw[Ll hl];rfl
end
structure bE (P:Program) (w:World) (K:Frag) (mg:Str->Option Value) (base:Heap) (k:Nat) (C:Addr) (m:Str) (ps:List Str) (sp:Sp):Prop where
 ex:∃f fd,ar P w K mg base aX k f fd ps sp/\Meth K C m f/\Binds K fd ps []
structure bL (P:Program) (w:World) (K:Frag) (mg:Str->Option Value) (base:Heap) (k:Nat) (C:Addr) (m:Str) (ps:List Str) (sp:Sp):Prop where
 ex:∃f fd,ar P w K mg base (dO P w) k f fd ps sp/\Meth K C m f/\Binds K fd ps []
inductive lJ (C:Addr)(m:Str)(W:XW)(sp:Sp)(t:TA)(σ:St)(x:V)(H1:Hp)(Q:VK):Prop|mk(a:_)(dx:_)(fs:_):x=.ref a->H1 a=some (.ins C dx fs)->fs.lookup m=none->(t σ H1 λvs H2=>sp (.ref a::vs) H2 Q λcls _ H'=>W σ cls H')->lJ C m W sp t σ x H1 Q
def rh(C:Addr)(m:Str)(W:XW)(sp:Sp)(ta:TE)(t:TA):TE:=λσ H Q=>ta σ H λx H1=>lJ C m W sp t σ x H1 Q
section
variable {X:Cx}{k:Nat}{C:Addr}{m:Str}{ps:List Str}{sp:Sp}{apos pos:Pos}{o e:Expr}{es:List Expr}{ta:TE}{t:TA}{W:XW}{pl:Sem Bool}
theorem wS(M:bL X.prog X.w X.K X.mg X.base k C m ps sp)(c:oM X.K C)(fl:Fl X W)(hr:bo k X.A)(he:PE X o ta)(ha:PA X (e::es) t)
 (jg:starEach (e::es) X.env=(false,eval e X.env)::starEach es X.env:=by rfl) (hpl:(backTo pos (starEach es X.env)).any (·.1)=false:=by rfl)
 (ht:eval (.Call (.Attribute o m apos) (e::es) [] pos) X.env=(do
   let ov <-eval o X.env
   standAt apos.atName
   let (f,first) <-holding [ov] (getMethod ov m pl)
   callWith pos f first (backTo pos (starEach (e::es) X.env)) (backToKw pos (keywordEach [] X.env))):=by rfl) :
 PE X (.Call (.Attribute o m apos) (e::es) [] pos) (rh C m W sp ta t):=by
 obtain⟨f,fd,F,hm,hb⟩:=M.ex;intro pins s σ H Q I h;refine methodCall_KW (pl:=pl) (aO (he pins s σ H _ I h) λu s1 ⟨x,H1,I1,rx,a,dx,fs,ex,ea,l,q⟩=>?_) ht;subst ex;obtain rfl:u=Value.ref a:=rx;refine KC I1 ea c hm l ?_;refine callWith_K (first:=[.ref a]) (h₀:=X.base) I.ok.mod.xj hm.kp (aO (ha pos pins s1 σ H1 _ I1 q) λus s2 ⟨vs,H2,I2,r,q2⟩=>⟨I2.iY,?_⟩) jg hpl;exact Ly (us:=.ref a::us) (vs:=.ref a::vs) F hr hb fl I2 (.cons rfl r) q2
theorem Hj(M:bL X.prog X.w X.K X.mg X.base k C m ps sp)(c:oM X.K C)(fl:Fl X W)(hr:bo k X.A)(he:PE X o ta)
 (ht:eval (.Call (.Attribute o m apos) [] [] pos) X.env=(do
   let ov <-eval o X.env
   standAt apos.atName
   let (f,first) <-holding [ov] (getMethod ov m pl)
   callWith pos f first (backTo pos (starEach [] X.env)) (backToKw pos (keywordEach [] X.env))):=by rfl) :
 PE X (.Call (.Attribute o m apos) [] [] pos) (rh C m W sp ta mO):=by
 obtain⟨f,fd,F,hm,hb⟩:=M.ex;intro pins s σ H Q I h;refine methodCall_KW (pl:=pl) (aO (he pins s σ H _ I h) λu s1 ⟨x,H1,I1,rx,a,dx,fs,ex,ea,l,q⟩=>?_) ht;subst ex;obtain rfl:u=Value.ref a:=rx;refine KC I1 ea c hm l ?_;exact callWith_K0 (first:=[.ref a]) I1.iY hm.kp (Ly (us:=[.ref a]) (vs:=[.ref a]) F hr hb fl I1 (.cons rfl .nil) q)
theorem zI(M:bE X.prog X.w X.K X.mg X.base k C m ps sp)(c:oM X.K C)(hr:bo k X.A)(he:PE X o ta)
 (ht:eval (.Call (.Attribute o m apos) [] [] pos) X.env=(do
   let ov <-eval o X.env
   standAt apos.atName
   let (f,first) <-holding [ov] (getMethod ov m pl)
   callWith pos f first (backTo pos (starEach [] X.env)) (backToKw pos (keywordEach [] X.env))):=by rfl) :
 PE X (.Call (.Attribute o m apos) [] [] pos) (xA C m sp [] E0 ta mO):=by
 obtain⟨f,fd,F,hm,hb⟩:=M.ex;exact pT (pl:=pl) he c hm F hr hb .nil xH ht
structure ni (P:Program) (w:World) (K:Frag) (mg:Str->Option Value) (base:Heap) (k:Nat) (x:Str) (C:Addr) (ps:List Str) (sp:Sp):Prop where
 ex:∃f fd,ar P w K mg base (dO P w) k f fd ps sp/\mg x=some (.ref C)/\Mk K C f/\Binds K fd ps []
def Bw(C:Addr)(W:XW)(sp:Sp)(t:TA):TE:=λσ H Q=>t σ H λvs H1=>∀x dx,H1 x=none->H1 dx=none->dx≠x->sp (.ref x::vs) (upd (upd H1 dx (.own x)) x (.ins C dx [])) (λv H2=>v=.bH/\Q (.ref x) H2) λcls _ H'=>W σ cls H'
theorem nj{pins:List (Addr×Obj)}{σ:St}{H:Hp}{s:Shared}{Q:VK}{us:List Value}{vs:List V}{f:Addr}{fd:FuncData}(M:Mk X.K C f)(F:ar X.prog X.w X.K X.mg X.base (dO X.prog X.w) k f fd ps sp)(hr:bo (k+1) X.A)(hb:Binds X.K fd ps [])(fl:Fl X W)(I:Inv X pins σ H s)(r:Vals vs us)
 (h:∀x dx,H x=none->H dx=none->dx≠x->sp (.ref x::vs) (upd (upd H dx (.own x)) x (.ins C dx [])) (λv H2=>v=.bH/\Q (.ref x) H2) λcls _ H'=>W σ cls H') :
 wpAny (model X.prog X.w) X.A (call (.ref C) us) (EP X pins σ Q) X.xe s:=by
 have hq:=h (s.heap.objs.size+1) s.heap.objs.size (I.aJ.fresh (le_succ _)) (I.aJ.fresh (le_refl _)) (ne_of_lt (lt_succ_self _));have I2:=Inv.made (C:=C) I;have r2:Vals (V.ref (s.heap.objs.size+1)::vs) (Value.ref (s.heap.objs.size+1)::us):=.cons rfl r;have hl:(Value.ref (s.heap.objs.size+1)::us).length=ps.length:=by
  have e:=r2.length;rw[F.len _ _ _ _ hq]at e;exact e.symm
 have uf:=hb { s with heap:=(s.heap.push emptyDict).push (instObj C s.heap.objs.size) } (Value.ref (s.heap.objs.size+1)::us) I2.iY (by rw[append_nil];exact hl);rw[append_nil]at uf;refine wpAny_call (pQ (f:=f) I.iY M.makes M.init (beq_iff_eq.mp M.fn) (codeAny_mono (F.run _ X.stack _ _ ⟨Value.ref (s.heap.objs.size+1)::us,[]⟩ (Value.ref (s.heap.objs.size+1)::us) _ _ _ (hr.make C us [])
  (I2.uW.make C us []) uf r2 hq) λr s' CC=>?_))
 cases r with
 | error e =>
   obtain⟨y,cls,H',rfl,Eu,w⟩:=CC;exact fl pins σ _ _ y cls H' s' I2 Eu w
 | ok fl =>
   cases fl with
   | ret u =>
     obtain⟨v,H',I3,rv,ev,q3⟩:=I2.after CC;subst ev;exact⟨rv,⟨V.ref (s.heap.objs.size+1),H',I3,rfl,q3⟩⟩
   | next=>exact False.elim CC
   | brk=>exact False.elim CC
   | cont=>exact False.elim CC
theorem rj{x:Str}{p:Pos}(M:ni X.prog X.w X.K X.mg X.base k x C ps sp)(fl:Fl X W)(hr:bo (k+1) X.A)(hg:Gl X x)(ha:PA X (e::es) t)(ji:(x==("__debug__":Str))=false:=by decide)
 (he:starEach (e::es) X.env=(false,eval e X.env)::starEach es X.env:=by rfl) (hpl:(backTo pos (starEach es X.env)).any (·.1)=false:=by rfl):PE X (.Call (.Name x p) (e::es) [] pos) (Bw C W sp t):=by
 obtain⟨f,fd,F,hm,hk,hb⟩:=M.ex;intro pins s σ H Q I h;refine wpAny_Call_Name_kw (AN I hg hm ?_ ji);refine callWith_K (h₀:=X.base) I.ok.mod.xj hk.kp (aO (ha pos pins s σ H _ I h) λus s1 ⟨vs,H1,I1,r,q⟩=>⟨I1.iY,?_⟩) he hpl;exact nj hk F hr hb fl I1 r q
theorem vp{K:Frag}{f:Str}(h:X.K=K)(he:PE X e ta)(hb:attributeBase e f X.env (eval e X.env)=eval e X.env):PE X (.Attribute e f pos) (D1 K ta f):=by subst h;exact yX he hb
end
def zK(K:Frag)(x:Str):Addr:=match nsIn K mainGlobals x with
 | some (some (.ref C))=>C
 | _=>0
theorem vq(h:nsIn K mainGlobals x=some (some (.ref C))):zK K x=C:=by unfold zK;rw[h]
theorem bE.of{m:Str}(hC:zK K x=C)(G:ar P w K mg base aX k f fd ps sp)(hm:Meth K C m f)(b:Binds K fd ps []):bE P w K mg base k (zK K x) m ps sp:=by rw[hC];exact⟨f,fd,G,hm,b⟩
theorem bL.of{m:Str}(hC:zK K x=C)(G:ar P w K mg base (dO P w) k f fd ps sp)(hm:Meth K C m f)(b:Binds K fd ps []):bL P w K mg base k (zK K x) m ps sp:=by rw[hC];exact⟨f,fd,G,hm,b⟩
theorem ni.of(hC:zK K x=C)(G:ar P w K mg base (dO P w) k f fd ps sp)(hg:mg x=some (.ref C))(hm:Mk K C f)(b:Binds K fd ps []):ni P w K mg base k x (zK K x) ps sp:=by rw[hC];exact⟨f,fd,G,hg,hm,b⟩
section
variable {X:Cx}
inductive dP (K:Frag)(xs:List V)(H:Hp)(Q:VK):Prop|mk(a:Addr)(ns:List Int):xs=[.ref a]->ai K H a (ns.map V.int)->0<ns.length->(∀M:Int,M∈ns->(∀x∈ns,x<=M)->Q (.int M) H)->dP K xs H Q
theorem WB(hc:X.calm=true):gZ X (.builtin "max") (dP X.K):=by
 intro pins s σ H xs us Q I r h;obtain⟨a,ns,rfl,hS,bx,q⟩:=h;obtain⟨u,rfl,ru⟩:=r.one;cases ru;obtain⟨aw,r1,p1,z1⟩:=I.list hS;have hi:=Cm r1;obtain⟨xs,e⟩:=hi.allInts.items;have CD:ns=xs.toList.map (·.1):=by
  rw[<-hi.numsOf,<-nums_intItems,<-e]
 have hsz:0<xs.size:=by
  have h3:=bx;rw[CD,q06,Array.length_toList]at h3;exact h3
 have hl:=p1.isList;rw[e]at hl;refine max_intList (I.ok.hd hc) hl hsz λv h' tk hv hk=>?_;obtain⟨t,rfl⟩:=intItems_at hv;obtain⟨h1,h2⟩:=argBest_gt (numAt xs) (xs.size-1);refine⟨.int _,H,I.kept (t':=tk) hk,⟨t,rfl⟩,q _ ?_ λa ha=>?_⟩
 .rw[CD,numAt_eq];exact getD_mem (by rw[q06,Array.length_toList];lia)
 .rw[CD]at ha;obtain⟨j,hj,rfl⟩:=mem_getD ha;rw[q06,Array.length_toList]at hj;rw[<-numAt_eq];exact h2 j (by lia)
inductive rp (K:Frag)(x y:V)(H:Hp)(Q:VK):Prop|mk(l:_)(b:_)(xs:_)(zs:_):x=.ref l->y=.ref b->ai K H l xs->ai K H b zs->xs.length+zs.length<=sizeLine->(∀p,H p=none->Q (.ref p) (upd H p (.lst (xs++zs))))->rp K x y H Q
def EE(K:Frag):R2:=λx y H Q=>rp K x y H Q
theorem vt:dB X (binaryOp .Add) (EE X.K):=by
 intro pins s σ H x y v u Q I rx ry h;obtain⟨l,b,xs,zs,rfl,rfl,hH,hB,hz,q⟩:=h;cases rx;cases ry;obtain⟨aw,r,p1,z1⟩:=I.list hH;obtain⟨eZ,r2,p2,z2⟩:=I.list hB;have hl:=r.length;have cX:=r2.length;obtain⟨⟨cls,dd,data,sl⟩,ho,hc,n,hd⟩:=p1.isList;obtain⟨⟨D5,ub,data2,mQ⟩,A3,jL,n2,hd2⟩:=p2.isList;cases hc;cases hd;cases jL;cases hd2;refine concat_meets ⟨_,ho,rfl⟩ ⟨_,A3,rfl⟩ noFill_list_add seq_list_add F.slot_list_add F.entry_list_add (F.args_list_add_2 _ _) (list_addW l b aw.toArray eZ.toArray n n2 dd ub sl mQ (by rw[q10,q10];lia)) ⟨ho,A3,?_⟩;have ea:aw.toArray++eZ.toArray=(aw++eZ).toArray:=by simp
 rw[ea];exact⟨.ref _,_,I.A7 (t':=s.toks) (r.append r2) (by rw[q08];lia),rfl,q _ I.fresh⟩
theorem ww{K:Frag}(h:X.K=K)(hu:X.A.units<cLine):dB X (compareOp .NotEq) (ED K):=by subst h;exact CB hu
end
end L2
namespace L2
open PySem PySem.Spec PyProof.Rows PySem.W PySem.Calls Builtin Builtin.ObjectAttr Builtin.Getset_descriptor
section
variable {prog:Program}{w:World}{A:Around}{s:Shared}{K:Frag}{x C:Addr}{E:Value->Shared->Prop}
end
section
variable {X:Cx}
end
open PySem.Builtin PySem.Builtin.Str
theorem RZ:∀(l:List (PySem.Str×Tok)),Vals (l.map λp=>V.str p.1) (strValues l)
 | []=>.nil
 | (x,t)::l=>.cons ⟨t,rfl⟩ (RZ l)
section
variable {X:Cx}
theorem rq:GY X "str.split" (λx xs H Q=>∃z y,x=.str z/\xs=[.str y]/\(y.length==0)=false/\z.length+2<=sizeLine/\(Txt.split z y).length<=sizeLine/\∀l,H l=none->Q (.ref l) (upd H l (.lst ((Txt.split z y).map V.str)))):=by
 intro pins s σ H x xs v us Q I rx rv h;obtain⟨z,y,rfl,rfl,hy,hz,hn,q⟩:=h;obtain⟨t,rfl⟩:=rx;obtain⟨u,rfl,ru⟩:=rv.one;obtain⟨t2,rfl⟩:=ru;have hf:H s.heap.objs.size=none:=I.aJ.fresh (le_refl _);have fin:∀(l:List (PySem.Str×Tok)) (tk:Nat),l.map (·.1)=Txt.split z y->EP X pins σ Q (.ref s.heap.objs.size) { s with toks:=tk,heap:=s.heap.push { cls:=.type "list",data:=.seq (strValues l).toArray } }:=λl tk e=>by
  refine⟨.ref s.heap.objs.size,upd H s.heap.objs.size (.lst ((Txt.split z y).map V.str)),I.laid (t':=tk) (λb u e=>q05 _ e) (le_refl _) ⟨by rw[q06];exact hn,strValues l,0,?_,get?_push_size _ rfl⟩,rfl,q _ hf⟩;rw[<-e,q32];exact RZ l
 cases h1:(decide (z.length<y.length) || decide (strKind z<strKind y))with
 | true =>
   have e:Txt.split z y=[z]:=q01 h1;exact call_meets F.slot_str_split (typeIs_str _ _ _) F.entry_str_split (F.args_str_split_2 _ _) (meets_str_split_cannot_occur z y t t2 h1) (fin [(z,t)] s.toks e.symm)
 | false =>
   cases h2:(occurrences z y 0 z.length (z.length+1)).isEmpty with
   | true =>
     have e:Txt.split z y=[z]:=(q00 (ne_true_of_eq_false h1)).trans (q01 h2);exact call_meets F.slot_str_split (typeIs_str _ _ _) F.entry_str_split (F.args_str_split_2 _ _) (meets_str_split_not_found z y t t2 h1 hy h2) (fin [(z,t)] s.toks e.symm)
   | false =>
     have e:Txt.split z y=partsBetween z (occurrences z y 0 z.length (z.length+1)) y.length:=(q00 (ne_true_of_eq_false h1)).trans (q00 (ne_true_of_eq_false h2));refine call_meets F.slot_str_split (typeIs_str _ _ _) F.entry_str_split (F.args_str_split_2 _ _) (meets_str_split_sep z y t t2 h1 hy h2 (by lia) (by rw[<-e];exact hn)) ?_;show EP X pins σ Q (.ref s.heap.objs.size) { s with toks:=_,heap:=s.heap.push { cls:=.type "list",data:=.seq (strsFrom s.toks (partsBetween z (occurrences z y 0 z.length (z.length+1)) y.length)).toArray } };rw[strsFrom_eq];exact fin (numbered s.toks _) _ ((numbered_texts _ _).trans e.symm)
theorem WC:gZ X (.type "int") (λxs H Q=>∃x n,xs=[.str x]/\PySem.intText? x=some n/\x.length<=640/\Q (.int n) H):=by
 intro pins s σ H vs us Q I rv h;obtain⟨x,n,rfl,hn,hl,q⟩:=h;obtain⟨u,rfl,ru⟩:=rv.one;obtain⟨t,rfl⟩:=ru;exact PySem.W.KIN.call_text hn hl ⟨.int n,H,I.tok _,⟨_,rfl⟩,q⟩
end
structure rz (K:Frag) (mg:Str->Option Value) (x:Str) (xs:List Str):Prop where
 ex:∃a,mg x=some (.ref a)/\∀H,bX K H a (xs.map V.str)
def WD(K:Frag)(xs:List Str):TE:=λ_ H Q=>∀a,(∀H,bX K H a (xs.map V.str))->Q (.ref a) H
variable {xs:List Str}
theorem EF{X:Cx}{x:Str}{pos:Pos}(c:rz X.K X.mg x xs)(hg:Gl X x)(hd:(x==("__debug__":Str))=false:=by decide):PE X (.Name x pos) (WD X.K xs):=by
 intro pins s σ H Q I h;obtain⟨a,hm,ha⟩:=c.ex;exact AN I hg hm ⟨.ref a,H,I,rfl,h a ha⟩ hd
theorem LV{K:Frag}{h:Heap}{mg:Str->Option Value}{x:Str}{a:Addr}{oc:Value}{od:Option Addr}{aw:Array Value}{n:Nat}{sl:Array (Option Value)}(X:K.In h)(G:h.Ns mainGlobals mg)(e:nsIn K mainGlobals x=some (some (.ref a)))
 (l:K.lookup a=some ⟨oc,od,.seq aw n,sl⟩) (hc:oc=.type "tuple") (hz:aw.size<=sizeLine) (hv:Vals (xs.map V.str) aw.toList):rz K mg x xs :=
 ⟨a,mg_of X G e,λH=>.inr ⟨_,aw,n,l,hc,rfl,hz,hv⟩⟩
inductive cV:List Expr->List Str->Prop
 | nil:cV [] []
 | cons {x:Str} {k:Nat} {p:Pos} {es:List Expr} {xs:List Str} (h:cV es xs):cV (.Constant (.str x) k p::es) (x::xs)
def xX(xs:List Str):TA:=λ_ H Q=>Q (xs.map V.str) H
variable {es:List Expr}
theorem vv{X:Cx}(h:cV es xs):PA X es (xX xs):=by
 induction h with
 | nil=>exact zb
 | @cons x k p es xs h ih=>exact(za zp ih:PA X (.Constant (.str x) k p::es) (k7 (tC (.str x)) (xX xs)))
def EG(xs:List Str):TE:=λ_ H Q=>xs.length<=sizeLine/\∀p,H p=none->Q (.ref p) (upd H p (.lst (xs.map V.str)))
theorem lK{X:Cx}{pos:Pos}(h:cV es xs):PE X (.List es pos) (EG xs):=by
 intro pins s σ H Q I q;refine zF (vv h) pins s σ H Q I ?_;exact⟨by rw[q06];exact q.1,q.2⟩
section
variable {X:Cx}
inductive rC (K:Frag)(x y:V)(H:Hp)(Q:VK):Prop|mk(a:_)(b:_)(xs:_):x=.ref a->y=.ref b->ai K H a xs->ai K H b []->Q (.bl (decide (xs.length=0))) H->rC K x y H Q
def EH(K:Frag):R2:=λx y H Q=>rC K x y H Q
theorem WE(hu:X.A.units<cLine):dB X (compareOp .Eq) (EH X.K):=by
 intro pins s σ H x y v u Q I rx ry h;obtain⟨a,b,xs,rfl,rfl,ha,hb,q⟩:=h;cases xs with
 | nil=>exact Cw hu pins s σ H _ _ v u Q I rx ry ⟨a,b,[],[],rfl,rfl,ha,hb,rfl,rfl,q⟩
 | cons z xs =>
   cases rx;cases ry;obtain⟨aw,r1,p1,z1⟩:=I.list ha;obtain⟨eZ,r2,p2,z2⟩:=I.list hb;have l1:=r1.length;have l2:=r2.length;exact SeqAt.eq_list_lengthsAt p1.isList p2.isList (by simp at l1 l2;simp;lia) hu ⟨.bl false,H,I,rfl,q⟩
end
end L2
namespace M14
open PySem PySem.W PyProof.Rows
abbrev g(p:Array Nat)(i:Nat):Nat:=p.getD i 0
variable {p:Array Nat}
theorem rD{q:Array Nat}{i j:Nat}(h:p[i]? = q[j]?):g p i=g q j:=by
 show p.getD i 0=q.getD j 0;rw[Array.getD_eq_getD_getElem?,Array.getD_eq_getD_getElem?,h]
theorem oT{i j:Nat}(hj:j<=p.size)(k:Nat):g (kas_rev p i j) k=if i<=k/\k<j then g p (i+j-1-k)else g p k:=by
 have e:=getElem?_mirror_all (xs:=p) (i:=i) hj k;by_cases c:i<=k/\k<j
 .rw[q01 c]at e ⊢;exact rD e
 .rw[q00 c]at e ⊢;exact rD e
theorem EI{s d:Nat}(hs:s<p.size)(hd:d<=s)(k:Nat):g (bubble p s d) k=if k=s-d then g p s else if s-d<k/\k<=s then g p (k-1)else g p k:=by
 have e:=getElem?_bubble hs d hd k;by_cases c:k=s-d
 .rw[q01 c]at e ⊢;exact rD e
 .rw[q00 c]at e ⊢;by_cases c2:s-d<k/\k<=s
  .rw[q01 c2]at e ⊢;exact rD e
  .rw[q00 c2]at e ⊢;exact rD e
section
variable (key:Nat->Int)(N:Nat)
def R(a b:Nat):Prop:=key a<key b\/key a=key b/\a<b
structure B (p:Array Nat) (m:Nat):Prop where
 pm:p.Perm (List.range N).toArray
 tl:∀i,m<=i->i<N->g p i=i
 lo:∀i,i<m->g p i<m
 le:m<=N
def I(p:Array Nat)(m:Nat):Prop:=B N p m/\∀i j,i<j->j<m->R key (g p i) (g p j)
def E(p:Array Nat)(m:Nat):Prop:=B N p m/\∀i j,i<j->j<m->R key (g p j) (g p i)
structure D (p:Array Nat) (m b:Nat):Prop where
 bs:B N p m
 lt:b<m
 ds:∀i j,i<j->j<b->R key (g p j) (g p i)
 sp:∀i j,i<b->b<=j->j<m->key (g p j)<key (g p i)
 bk:∀i j,b<=i->i<j->j<m->key (g p i)=key (g p j)/\g p i<g p j
def ck(i j:Nat)(C:Bool->Shared->Prop)(s:Shared):Prop:=i<N/\j<N/\C (decide (key i<key j)) s
variable {key N}
variable {p:Array Nat}{m:Nat}
theorem B.size(b:B N p m):p.size=N:=by
 have:=b.pm.size_eq
 simpa using this
theorem B.lt(b:B N p m){i:Nat}(h:i<N):g p i<N:=by
 by_cases c:i<m
 .have:=b.lo i c;have:=b.le;lia
 .rw[b.tl i (by lia) h];exact h
theorem B.rev{i j:Nat}(b:B N p m)(hj:j<=m):B N (kas_rev p i j) m:=by
 have hs:j<=p.size:=by have:=b.size;have:=b.le;lia
 refine⟨(mirror_perm _ _ _ _).trans b.pm,λk h1 h2=>?_,λk h=>?_,b.le⟩
 .rw[oT hs,q00 (by lia)];exact b.tl k h1 h2
 .rw[oT hs];split
  .exact b.lo _ (by lia)
  .exact b.lo _ h
theorem B.up(b:B N p m)(h:m<N):B N p (m+1):=by
 refine⟨b.pm,λi h1 h2=>b.tl i (by lia) h2,λi hi=>?_,h⟩;by_cases c:i<m
 .have:=b.lo i c;lia
 .have e:i=m:=by lia
  rw[e,b.tl m (le_refl _) h]
  lia
variable {b:Nat}
theorem R.le{a:Nat}(h:R key a b):key a<=key b:=by
 rcases h with h | h
 .lia
 .lia
theorem R.of{a:Nat}(h:key a<=key b)(l:a<b):R key a b:=by
 by_cases c:key a<key b
 .exact .inl c
 .exact .inr ⟨by lia,l⟩
theorem I.turn(h:I key N p m):E key N (kas_rev p 0 m) m:=by
 have hs:m<=p.size:=by have:=h.1.size;have:=h.1.le;lia
 refine⟨h.1.rev (le_refl _),λi j rE hj=>?_⟩;rw[oT hs,oT hs,q01 ⟨zero_le _,hj⟩,q01 ⟨zero_le _,by lia⟩];exact h.2 _ _ (by lia) (by lia)
theorem E.turn(h:E key N p m):I key N (kas_rev p 0 m) m:=by
 have hs:m<=p.size:=by have:=h.1.size;have:=h.1.le;lia
 refine⟨h.1.rev (le_refl _),λi j rE hj=>?_⟩;rw[oT hs,oT hs,q01 ⟨zero_le _,by lia⟩,q01 ⟨zero_le _,hj⟩];exact h.2 _ _ (by lia) (by lia)
theorem D.one(h:D key N p (m+1) m):E key N p (m+1):=by
 refine⟨h.bs,λi j rE hj=>?_⟩;by_cases c:j<m
 .exact h.ds i j rE c
 .have e:j=m:=by lia
  subst e;exact .inl (h.sp i j rE (le_refl _) (by lia))
theorem D.turn(h:D key N p m b):E key N (kas_rev p b m) m:=by
 have hs:m<=p.size:=by have:=h.bs.size;have:=h.bs.le;lia
 have hl:=h.lt;refine⟨h.bs.rev (le_refl _),λi j rE hj=>?_⟩;rw[oT hs,oT hs];by_cases c:j<b
 .rw[q00 (by lia),q00 (by lia)];exact h.ds i j rE c
 .rw[q01 ⟨by lia,hj⟩];by_cases c2:i<b
  .rw[q00 (by lia)];exact .inl (h.sp i _ c2 (by lia) (by lia))
  .rw[q01 ⟨by lia,by lia⟩];have z:=h.bk (b+m-1-j) (b+m-1-i) (by lia) (by lia) (by lia);exact .inr z
theorem E.step(h:E key N p m)(h1:1<=m)(hm:m<N)(hk:key (g p m)<key (g p (m-1))):D key N p (m+1) m:=by
 refine⟨h.1.up hm,by lia,h.2,λi j hi h2 h3=>?_,λi j h2 h3 h4=>by lia⟩;have e:j=m:=by lia
 subst e;by_cases c:i=j-1
 .subst c;exact hk
 .have:=(h.2 i (j-1) (by lia) (by lia)).le
  lia
theorem D.same(h:D key N p m b)(hm:m<N)(hk:key (g p m)=key (g p (m-1))):D key N p (m+1) b:=by
 have hl:=h.lt;refine⟨h.bs.up hm,by lia,h.ds,λi j hi h2 h3=>?_,λi j h2 h3 h4=>?_⟩
 .by_cases c:j<m
  .exact h.sp i j hi h2 c
  .have e:j=m:=by lia
   subst e;rw[hk];exact h.sp i _ hi (by lia) (by lia)
 .by_cases c:j<m
  .exact h.bk i j h2 h3 c
  .have e:j=m:=by lia
   subst e;refine⟨?_,by rw[h.bs.tl j (le_refl _) hm];exact h.bs.lo i h3⟩;rw[hk];by_cases c2:i=j-1
   .rw[c2]
   .exact(h.bk i (j-1) h2 (by lia) (by lia)).1
theorem I.up(h:I key N p m)(h1:1<=m)(hm:m<N)(hk:¬key (g p m)<key (g p (m-1))):I key N p (m+1):=by
 refine⟨h.1.up hm,λi j rE hj=>?_⟩;by_cases c:j<m
 .exact h.2 i j rE c
 .have e:j=m:=by lia
  subst e;refine R.of ?_ (by rw[h.1.tl j (le_refl _) hm];exact h.1.lo i rE);by_cases c2:i=j-1
  .rw[c2];lia
  .have:=(h.2 i (j-1) (by lia) (by lia)).le
   lia
variable {s:Shared}
theorem asc{Q:Nat->Shared->Prop}:∀(f m:Nat),m+f=N->1<=m->I key N p m->(∀m',m<=m'->m'<=N->I key N p m'->(m'<N->key (g p m')<key (g p (m'-1)))->Q m' s)->(kas_asc p f m).kasWp (ck key N) Q s
 | 0,m,e,h1,h,q=>q m (le_refl _) (by lia) h (by lia)
 | f+1,m,e,h1,h,q=>by
   refine⟨h.1.lt (by lia),h.1.lt (by lia),?_⟩;by_cases c:key (g p m)<key (g p (m-1))
   .rw[q19 c];dsimp only;rw[q01 rfl];exact q m (le_refl _) (by lia) h λ_=>c
   .rw[q20 c];dsimp only;rw[q00 q23];exact asc f (m+1) (by lia) (by lia) (h.up h1 (by lia) c) λm' l1 l2=>q m' (by lia) l2
theorem desc{Q:Array Nat×Nat×Nat->Shared->Prop}{s:Shared}:∀(f:Nat)(p:Array Nat)(m q:Nat),m+f=N->q+1<=m->D key N p m (m-(q+1)) ->
 (∀p' m' q',m'<=N->q'+1<=m'->D key N p' m' (m'-(q'+1))->Q (p',m',q') s)->(kas_desc f p m q).kasWp (ck key N) Q s
 | 0,p,m,q,e,hq,h,k=>k p m q (by lia) hq h
 | f+1,p,m,q,e,hq,h,k=>by
   refine⟨h.bs.lt (by lia),h.bs.lt (by lia),?_⟩;by_cases c:key (g p m)<key (g p (m-1))
   .rw[q19 c];dsimp only;rw[q01 rfl];by_cases cq:q > 0
    .rw[q01 cq];refine desc f _ (m+1) 0 (by lia) (by lia) ?_ k;have hs:m<=p.size:=by have:=h.bs.size;lia
     refine h.turn.step (by lia) (by lia) ?_;rw[oT hs,oT hs,q00 (by lia),q01 ⟨by lia,by lia⟩];have z:=(h.bk (m-(q+1)) (m-1) (le_refl _) (by lia) (by lia)).1;rw[show m-(q+1)+m-1-(m-1)=m-(q+1)by lia,z];exact c
    .rw[q00 cq];have e0:q=0:=by lia
     subst e0;refine desc f _ (m+1) 0 (by lia) (by lia) ?_ k;obtain⟨r,rfl⟩:∃r,m=r+1:=⟨m-1,by lia⟩;exact E.step (D.one h) (by lia) (by lia) c
   .rw[q20 c];dsimp only;rw[q00 q23];refine⟨h.bs.lt (by lia),h.bs.lt (by lia),?_⟩;by_cases d:key (g p (m-1))<key (g p m)
    .rw[q19 d];dsimp only;rw[q01 rfl];exact k p m q (by lia) hq h
    .rw[q20 d];dsimp only;rw[q00 q23];refine desc f p (m+1) (q+1) (by lia) (by lia) ?_ k;rw[show m+1-(q+1+1)=m-(q+1)by lia];exact h.same (by lia) (by lia)
variable {Q:Nat×Array Nat->Shared->Prop}
theorem tail3(h1:1<=m)(h:E key N p m)(q:∀m' p',1<=m'->m'<=N->I key N p' m'->Q (m',p') s):(kas_tail3 m N p).kasWp (ck key N) Q s:=by
 unfold kas_tail3;rw[KasT.kasWp_bind];have:=h.1.le;exact asc (N-m) m (by lia) h1 h.turn λm' l1 l2 z _=>q m' _ (by lia) l2 z
theorem R0(h1:1<=m)(hm:m<N)(h:E key N p m)(hk:key (g p m)<key (g p (m-1)))(q:∀m' p',1<=m'->m'<=N->I key N p' m'->Q (m',p') s):(kas_descPart m N p).kasWp (ck key N) Q s:=by
 unfold kas_descPart;rw[KasT.kasWp_bind];refine desc (N-(m+1)) p (m+1) 0 (by lia) (by lia) (h.step h1 hm hk) λp' m' q' l1 l2 d=>?_;dsimp only;by_cases c:q' > 0
 .rw[q01 c];exact tail3 (by lia) d.turn q
 .rw[q00 c];have e0:q'=0:=by lia
  subst e0;obtain⟨r,rfl⟩:∃r,m'=r+1:=⟨m'-1,by lia⟩;exact tail3 (by lia) (D.one d) q
theorem count(h1:1<=N)(h:I key N p 1)(q:∀m' p',1<=m'->m'<=N->I key N p' m'->Q (m',p') s):(kas_count N p).kasWp (ck key N) Q s:=by
 unfold kas_count;rw[KasT.kasWp_bind];refine asc (N-1) 1 (by lia) (le_refl _) h λm l1 l2 z hk=>?_;by_cases c:m=N
 .rw[q01 (by rw[c];exact beq_self_eq_true N)];exact q m p l1 l2 z
 .rw[q00 (by intro b;exact c (eq_of_beq b))];have hm:m<N:=by lia
  have hk:=hk hm;by_cases c1:m > 1
  .rw[q01 c1];refine⟨z.1.lt (by lia),z.1.lt (by lia),?_⟩;by_cases d:key (g p 0)<key (g p (m-1))
   .rw[q19 d];dsimp only;rw[q01 rfl];exact q m p l1 l2 z
   .rw[q20 d];dsimp only;rw[q00 q23];have hs:m<=p.size:=by have:=z.1.size;lia
    refine R0 l1 hm z.turn ?_ q;rw[oT hs,oT hs,q00 (by lia),q01 ⟨by lia,by lia⟩,show 0+m-1-(m-1)=0 by lia]
    lia
  .rw[q00 c1];have e:m=1:=by lia
   subst e;exact R0 l1 hm ⟨z.1,λi j a b=>by lia⟩ hk q
theorem place{p:Array Nat}{k:Nat}{Q:Nat->Shared->Prop}{s:Shared}(hk:k<N)(h:I key N p k):∀(f l r:Nat),r<=l+f->l<=r->r<=k->(∀i,i<l->key (g p i)<=key (g p k))->(∀i,r<=i->i<k->key (g p k)<key (g p i)) ->
 (∀l',l'<=k->(∀i,i<l'->key (g p i)<=key (g p k))->(∀i,l'<=i->i<k->key (g p k)<key (g p i))->Q l' s)->(kas_place p k f l r).kasWp (ck key N) Q s
 | 0,l,r,e,h1,h2,a,b,q=>q l (by lia) a λi x y=>b i (by lia) y
 | f+1,l,r,e,h1,h2,a,b,q=>by
   unfold kas_place;by_cases c:l >= r
   .rw[q01 c];exact q l (by lia) a λi x y=>b i (by lia) y
   .rw[q00 c];have h3:(l+r)/2<r:=by lia
    have h4:l<=(l+r)/2:=by lia
    generalize (l+r)/2=m at h3 h4;refine⟨h.1.lt hk,h.1.lt (by lia),?_⟩;by_cases d:key (g p k)<key (g p m)
    .rw[q19 d];dsimp only;rw[q01 rfl];refine place hk h f l m (by lia) h4 (by lia) a (λi x y=>?_) q;by_cases c2:i=m
     .rw[c2];exact d
     .have:=(h.2 m i (by lia) y).le
      lia
    .rw[q20 d];dsimp only;rw[q00 q23];refine place hk h f (m+1) r (by lia) (by lia) h2 (λi x=>?_) b q;by_cases c2:i=m
     .rw[c2];lia
     .have:=(h.2 i m (by lia) (by lia)).le
      lia
theorem I.put{k l:Nat}(hk:k<N)(h:I key N p k)(hl:l<=k)(a:∀i,i<l->key (g p i)<=key (g p k))(b:∀i,l<=i->i<k->key (g p k)<key (g p i)):I key N (bubble p k (k-l)) (k+1):=by
 have hs:k<p.size:=by rw[h.1.size];exact hk
 have hg:=λi=>EI hs (Nat.sub_le k l) i;rw[show k-(k-l)=l by lia]at hg;refine⟨⟨(bubble_perm _ _ _).trans h.1.pm,λi h1 h2=>?_,λi hi=>?_,hk⟩,λi j rE hj=>?_⟩
 .rw[hg,q00 (by lia),q00 (by lia)];exact h.1.tl i (by lia) h2
 .rw[hg];by_cases c:i=l
  .rw[q01 c,h.1.tl k (le_refl _) hk];lia
  .rw[q00 c];by_cases c2:l<i/\i<=k
   .rw[q01 c2];have:=h.1.lo (i-1) (by lia);lia
   .rw[q00 c2];have:=h.1.lo i (by lia);lia
 .rw[hg i,hg j];by_cases c1:j<l
  .rw[q00 (by lia),q00 (by lia),q00 (by lia),q00 (by lia)];exact h.2 i j rE (by lia)
  .by_cases c2:j=l
   .rw[q01 c2,q00 (by lia),q00 (by lia)];exact R.of (a i (by lia)) (by rw[h.1.tl k (le_refl _) hk];exact h.1.lo i (by lia))
   .rw[q00 c2,q01 (show l<j/\j<=k by lia)];by_cases c3:i=l
    .rw[q01 c3];exact .inl (b (j-1) (by lia) (by lia))
    .rw[q00 c3];by_cases c4:i<l
     .rw[q00 (by lia)];exact h.2 i (j-1) (by lia) (by lia)
     .rw[q01 (by lia)];exact h.2 (i-1) (j-1) (by lia) (by lia)
theorem bin{Q:Array Nat->Shared->Prop}(q:∀p',I key N p' N->Q p' s):∀(f:Nat)(p:Array Nat)(k:Nat),k+f=N->I key N p k->(kas_bin f p k).kasWp (ck key N) Q s
 | 0,p,k,e,h=>q p (by rw[Nat.add_zero]at e;rw[<-e];rw[e]at h ⊢;exact h)
 | f+1,p,k,e,h=>by
   unfold kas_bin;rw[KasT.kasWp_bind];refine place (by lia) h k 0 k (by lia) (zero_le _) (le_refl _) (λi x=>by lia) (λi x y=>by lia) λl l1 a b=>?_;exact bin q f _ (k+1) (by lia) (h.put (by lia) l1 a b)
theorem jK(h1:1<=N):I key N (List.range N).toArray 1:=by
 have e:∀i,i<N->g (List.range N).toArray i=i:=λi h=>by
  show(List.range N).toArray.getD i 0=i;simp[Array.getD,h]
 exact⟨⟨Array.Perm.refl _,λi _ h=>e i h,λi h=>by rw[e i (by lia)];exact h,h1⟩,λi j a b=>by lia⟩
theorem sort{Q:Array Nat->Shared->Prop}(h1:1<=N)(q:∀p,I key N p N->Q p s):(kas_sort N).kasWp (ck key N) Q s:=by
 unfold kas_sort;rw[KasT.kasWp_bind];refine count h1 (jK h1) λm p l1 l2 h=>?_;dsimp only;by_cases c:m<N
 .rw[q01 c,show max m 1=m by lia];exact bin q (N-m) p m (by lia) h
 .rw[q00 c];have e:m=N:=by lia
  subst e;exact q p h
end
end M14
namespace L2
open PySem PySem.W PySem.Calls PyProof.Rows
theorem rF{α:Type}{c c':Nat->Nat->(Bool->Shared->Prop)->Shared->Prop}{Q:α->Shared->Prop}(m:∀i j C C' s,(∀b s',C b s'->C' b s')->c i j C s->c' i j C' s):
 ∀(t:KasT α)(s:Shared),t.kasWp c Q s->t.kasWp c' Q s
 | .ret _,_,h=>h
 | .ask i j k,s,h=>m i j _ _ s (λb s' z=>rF m (k b) s' z) h
section
variable {X:Cx}{pins:List (Addr×Obj)}{σ:St}{H:Hp}{s:Shared}{a kS:Addr}{A:Around}{E:Value->Shared->Prop}
structure Own (X:Cx) (pins:List (Addr×Obj)) (H:Hp) (a:Addr):Prop where
 free:H a=none
 loc:a≠X.env.locals
 new:X.s₀.heap.objs.size<=a
 cell:∀x c,X.env.cells.lookup x=some c->c≠a
 pin:∀p∈X.pn++pins,p.1≠a
 fs:a∉X.fs
theorem Inv.own(I:Inv X pins σ H s){b:Addr}(h:s.heap.objs.size<=b):Own X pins H b:=by
 refine⟨I.aJ.fresh h,λz=>?_,q38 I.sz h,λx c e z=>?_,λp hp z=>?_,I.DC h⟩
 .have:=I.lt;rw[<-z]at this;exact q02 this (Nat.not_lt.mpr h)
 .obtain⟨v,hv⟩:=I.cell x c e;obtain⟨o,ho,_⟩:=hv;have:=lt_size ho;rw[z]at this;exact q02 this (Nat.not_lt.mpr h)
 .have:=lt_size (I.pin p hp).1;rw[z]at this;exact q02 this (Nat.not_lt.mpr h)
theorem Inv.swap{f:Obj->Obj}(I:Inv X pins σ H s)(o:Own X pins H a):Inv X pins σ H { s with heap:=s.heap.update a f } :=
 I.turned (it:=a) (λb u hb hu=>(get?_update_other s.heap f (Ne.symm hb)).trans hu) o.free o.loc (.inr o.new) o.cell o.pin
variable {u:Obj}
theorem Inv.hold(I:Inv X pins σ H s)(o:Own X pins H a)(e:s.heap.get? a=some u)(hu:∀v,u.data ≠ .cell v):Inv X ((a,u)::pins) σ H s :=
 I.cT λp hp=>by
  rcases q27.mp hp with rfl | hp
  .exact⟨e,o.free,o.loc,o.fs,hu⟩
  .exact I.pin p (mem_append_right _ hp)
theorem Inv.drop{p:Addr×Obj}(I:Inv X (p::pins) σ H s):Inv X pins σ H s :=
 I.cT λq hq=>I.pin q (mem_append_right _ (q13 _ hq))
theorem Inv.held(I:Inv X ((a,u)::pins) σ H s):s.heap.get? a=some u:=(I.pin (a,u) (mem_append_right _ (q14 ..))).1
theorem Own.more(o:Own X pins H a)(h:kS≠a):Own X ((kS,u)::pins) H a :=
 ⟨o.free,o.loc,o.new,o.cell,λp hp=>by
  rcases List.mem_append.mp hp with z | z
  .exact o.pin p (mem_append_left _ z)
  .rcases q27.mp z with rfl | z
   .exact h
   .exact o.pin p (mem_append_right _ z),o.fs⟩
theorem bV{vs:Array Value}{n:Nat}:∀v,(seqObj "list" vs n).data ≠ .cell v:=λv z=>by cases z
theorem LW:∀{ks:List Value}{kz:List Int},IntsAre ks kz->∀i,i<kz.length->∃t,ks.getD i Value.none=Value.int (kz.getD i 0) t
 | _,_,.cons n t r,0,_=>⟨t,rfl⟩
 | _,_,.cons n t r,i+1,h=>LW r i (by simpa using h)
theorem R1{vs:List Value}{kz:List Int}{e1:Nat}{body:Value->PUnit->Sem (ForInStep PUnit)}(hl:kz.length=vs.length)
 (hb:∀(v:Value)(ks:List Value)(e:Nat)(s:Shared),vs[ks.length]? = some v->Inv X ((kS,seqObj "list" ks.toArray e)::(a,seqObj "list" #[] e1)::pins) σ H s->IntsAre ks (kz.take ks.length) ->
   wpAny (model X.prog X.w) A (body v ⟨⟩) (λr s'=>r=.yield ⟨⟩/\∃(k:Value)(e':Nat),Inv X ((kS,seqObj "list" (ks++[k]).toArray e')::(a,seqObj "list" #[] e1)::pins) σ H s'/\IntsAre (ks++[k]) (kz.take (ks++[k]).length)) E s) :
 ∀(r:List Value)(ks:List Value)(e:Nat)(s:Shared),vs.drop ks.length=r->ks.length<=vs.length->Inv X ((kS,seqObj "list" ks.toArray e)::(a,seqObj "list" #[] e1)::pins) σ H s->IntsAre ks (kz.take ks.length) ->
  wpAny (model X.prog X.w) A (forIn r PUnit.unit body) (λ_ s'=>∃(ks:List Value)(e:Nat),Inv X ((kS,seqObj "list" ks.toArray e)::(a,seqObj "list" #[] e1)::pins) σ H s'/\IntsAre ks kz) E s
 | [],ks,e,s,hd,hz,I,hi=>by
   rw[forIn_nil];have:vs.length<=ks.length:=by
    have:=congrArg List.length hd;rw[length_drop,length_nil]at this
    lia
   refine q04 ⟨ks,e,I,?_⟩;rw[take_of_length_le (by lia)]at hi;exact hi
 | v::r,ks,e,s,hd,hz,I,hi=>by
   rw[forIn_cons];have hv:vs[ks.length]? = some v:=by
    have:=congrArg List.head? hd;rw[List.head?_drop]at this;exact this
   have bU:ks.length<vs.length:=(q45.mp hv).1;refine q03 (wpAny_mono (hb v ks e s hv I hi) (λq s' hq=>?_) λ_ _ x=>x);obtain⟨rfl,k,e',I',uj⟩:=hq;show wpAny (model X.prog X.w) A (forIn r PUnit.unit body) _ E s';have hlen:(ks++[k]).length=ks.length+1:=by rw[q08,length_singleton]
   refine R1 hl hb r (ks++[k]) e' s' ?_ (by lia) I' uj;rw[hlen,<-List.drop_drop,hd];rfl
theorem rG{st:SortSt}{ks out:List Value}{e e1:Nat}(I:Inv X ((kS,seqObj "list" ks.toArray e)::(a,seqObj "list" #[] e1)::pins) σ H s)(o:Own X pins H a)(ok:Own X pins H kS)(EJ:kS≠a)(hz:ks.length<64)(He:out.length<64)
 (ho:(arrOf st).map (·.2)=List.toArray out) (hf:failedOf st=none) :
 wpAny (model X.prog X.w) A (ksk_tail a false e1 (.ref kS) st) (λr s'=>r=.done (.ret .none)/\Inv X pins σ H s'/\∃e,s'.heap.get? a=some (seqObj "list" out.toArray e)) E s:=by
 have bY:=zq;have hk:=I.held;have ha:=I.drop.held;have I1:=I.drop.drop.swap (f:=Obj.mapSeq λ_=>(#[]:Array Value)) ok;have LX:(s.heap.update kS (Obj.mapSeq λ_=>(#[]:Array Value))).get? a=some (seqObj "list" #[] e1):=(get?_update_other s.heap _ EJ).trans ha;have I2:=I1.swap (f:=Obj.mapSeq λ_=>out.toArray) o;obtain⟨c2,jL⟩:∃c2,((s.heap.update kS (Obj.mapSeq λ_=>(#[]:Array Value))).update a (Obj.mapSeq λ_=>out.toArray)).get? a=some (seqObj "list" out.toArray c2):=⟨_,get?_update_seq LX λ_=>out.toArray⟩;unfold ksk_tail
 try dsimp only
 rw[ho];refine q03 (listUpdate_at hk rfl ?_ (by rw[q10];lia) (zero_le _));refine q03 (wpAny_letGo ?_);refine q03 (seqEpoch_at LX rfl ?_);simp only[Bool.false_eq_true,if_false];refine q03 (listUpdate_at LX rfl ?_ (zero_le _) (by rw[q10];lia));rw[hf];simp only[bne_self_eq_false,Bool.false_eq_true,if_false];exact q04 ⟨rfl,I2,c2,jL⟩
theorem keyed{f:Value}{vs:List Value}{n:Nat}{kz:List Int}(I:Inv X pins σ H s)(o:Own X pins H a)(ho:s.heap.get? a=some (seqObj "list" vs.toArray n))(h1:1<=vs.length)(Hk:vs.length<64)(hl:kz.length=vs.length)
 (calls:∀(i:Nat)(v:Value)(pins':List (Addr×Obj)) (s':Shared),vs[i]? = some v->Inv X pins' σ H s'->wpAny (model X.prog X.w) A (call f [v]) (λk hV=>Inv X pins' σ H hV/\∃t,k=Value.int (kz.getD i 0) t) (λ_ _=>False) s') :
 wpAny (model X.prog X.w) A (ksk_tree a f false) (λr s'=>r=.done (.ret .none)/\∃(p:Array Nat)(e:Nat),M14.I (λk=>kz.getD k 0) vs.length p vs.length/\Inv X pins σ H s'/\s'.heap.get? a=some (seqObj "list" (p.toList.map λi=>vs.getD i Value.none).toArray e)) E s:=by
 have bY:=zq;have ha:a<s.heap.objs.size:=lt_size ho;have I1:=I.swap (f:=Obj.mapSeq λ_=>(#[]:Array Value)) o;obtain⟨e1,LY⟩:∃e1,(s.heap.update a (Obj.mapSeq λ_=>(#[]:Array Value))).get? a=some (seqObj "list" #[] e1):=⟨_,get?_update_seq ho λ_ => #[]⟩;unfold ksk_tree;refine q03 (listItems_at ho rfl ?_);refine q03 (listUpdate_at ho rfl ?_ (by rw[q10];lia) (zero_le _));refine q03 (seqEpoch_at LY rfl ?_);refine q03 (wpAny_newTuple ?_ (by show vs.length<=_;lia));refine q03 (wpAny_newList ?_ (zero_le _));refine wpAny_holding ?_;have I2:Inv X pins σ H { s with heap:=(s.heap.update a (Obj.mapSeq λ_=>(#[]:Array Value))).push (seqObj "tuple" vs.toArray 0) }:=I1.kept (t':=s.toks) λb u q=>q05 _ q;have I3:Inv X pins σ H { s with heap:=((s.heap.update a (Obj.mapSeq λ_=>(#[]:Array Value))).push (seqObj "tuple" vs.toArray 0)).push (seqObj "list" #[] 0) }:=I2.kept (t':=s.toks) λb u q=>q05 _ q;have ok:=I2.own (b:=((s.heap.update a (Obj.mapSeq λ_=>(#[]:Array Value))).push (seqObj "tuple" vs.toArray 0)).objs.size) (le_refl _);have EJ:((s.heap.update a (Obj.mapSeq λ_=>(#[]:Array Value))).push (seqObj "tuple" vs.toArray 0)).objs.size≠a:=by
  rw[size_push',size_update];exact ne_of_gt (lt_succ_of_lt ha)
 have LZ:(((s.heap.update a (Obj.mapSeq λ_=>(#[]:Array Value))).push (seqObj "tuple" vs.toArray 0)).push (seqObj "list" #[] 0)).get? ((s.heap.update a (Obj.mapSeq λ_=>(#[]:Array Value))).push (seqObj "tuple" vs.toArray 0)).objs.size=some (seqObj "list" #[] 0):=get?_push_size _ rfl;have R3:(((s.heap.update a (Obj.mapSeq λ_=>(#[]:Array Value))).push (seqObj "tuple" vs.toArray 0)).push (seqObj "list" #[] 0)).get? a=some (seqObj "list" #[] e1):=q05 _ (q05 _ LY);show wpAny _ _ (ksk_rest a f false vs.toArray e1 (.ref ((s.heap.update a (Obj.mapSeq λ_=>(#[]:Array Value))).push (seqObj "tuple" vs.toArray 0)).objs.size)) _ _ { s with heap:=((s.heap.update a (Obj.mapSeq λ_=>(#[]:Array Value))).push (seqObj "tuple" vs.toArray 0)).push (seqObj "list" #[] 0) };generalize ((s.heap.update a (Obj.mapSeq λ_=>(#[]:Array Value))).push (seqObj "tuple" vs.toArray 0)).objs.size=kS at ok EJ LZ;generalize ((s.heap.update a (Obj.mapSeq λ_=>(#[]:Array Value))).push (seqObj "tuple" vs.toArray 0)).push (seqObj "list" #[] 0)=h3 at I3 LZ R3;clear I1 I2 LY;have Bx:∀e,Own X ((a,seqObj "list" #[] e)::pins) H kS:=λe=>ok.more (Ne.symm EJ);have I4:=(I3.hold o R3 bV).hold (Bx e1) LZ bV;unfold ksk_rest;refine q03 (wpAny_rule ?_);rw[forIn_toArray];refine q03 (wpAny_mono (R1 (kz:=kz) (vs:=vs) hl (λv ks e s' hv I5 hi=>?_) vs [] 0 _ rfl (zero_le _) I4 .nil) (λ_ s' hd=>?_) λ_ _ x=>x)
 .refine q03 (wpAny_attempt (wpAny_mono (calls ks.length v _ s' hv I5) (λk hV hk=>?_) λ_ _ hF=>hF.elim));obtain⟨I6,t,rfl⟩:=hk;dsimp only;have bU:ks.length<vs.length:=(q45.mp hv).1;have R5:=I6.held;obtain⟨c2,jL⟩:∃c2,(hV.heap.update kS (Obj.mapSeq (·.push (Value.int (kz.getD ks.length 0) t)))).get? kS=some (seqObj "list" (ks++[Value.int (kz.getD ks.length 0) t]).toArray c2) :=
   ⟨_,by rw[show(ks++[Value.int (kz.getD ks.length 0) t]).toArray=ks.toArray.push (Value.int (kz.getD ks.length 0) t)by simp];exact get?_update_seq R5 (·.push _)⟩
  refine q03 (listUpdate_at R5 rfl ?_ (by rw[q10];lia) (by rw[Array.size_push,q10];lia));exact q04 ⟨rfl,_,c2,(I6.drop.swap (Bx e1)).hold (Bx e1) jL bV,by rw[q08,length_singleton,List.take_add_one];exact hi.append (by rw[q31 (by lia),q18,q31 (by lia)];exact .cons _ t .nil)⟩
 .obtain⟨ks,e,I7,hi⟩:=hd;have WG:=I7.held;have I8:=I7.drop;have ha8:=I8.held;have vw:ks.length=vs.length:=by rw[hi.length,hl]
  refine q03 (listItems_at WG rfl ?_);have fin:∀(st:SortSt)(p:Array Nat),M14.I (λk=>kz.getD k 0) vs.length p vs.length->arrOf st=p.map (kas_item (ks.toArray.zip vs.toArray))->failedOf st=none ->
   wpAny (model X.prog X.w) A (ksk_tail a false e1 (.ref kS) st) (λr s'=>r=.done (.ret .none)/\∃(p:Array Nat)(e:Nat),M14.I (λk=>kz.getD k 0) vs.length p vs.length/\Inv X pins σ H s'/\s'.heap.get? a=some (seqObj "list" (p.toList.map λi=>vs.getD i Value.none).toArray e)) E s':=λst p hp L0 hf =>
   wpAny_mono (rG (out:=p.toList.map λi=>vs.getD i Value.none) I7 o ok EJ (by lia) (by rw[q06,Array.length_toList,hp.1.size];exact Hk) (kat_snds vw L0) hf) (λr s2 z=>⟨z.1,p,_,hp,z.2.1,z.2.2.choose_spec⟩) λ_ _ x=>x
  unfold ksk_end;simp only[Bool.false_eq_true,if_false];by_cases h2:vs.length<2
  .have mG:vs.toArray.size<2:=by rw[q10];exact h2
   rw[q01 mG,q01 mG];refine q03 (q04 ?_);refine q03 (q04 ?_);have hN:vs.length=1:=by lia
   have z:∀m,m=1->M14.I (λk=>kz.getD k 0) vs.length (List.range vs.length).toArray m:=λm e=>by rw[e];exact M14.jK h1
   refine fin _ _ (z _ hN) ?_ rfl;have e:=kas_range (ks.toArray.zip vs.toArray);rw[show(ks.toArray.zip vs.toArray).size=vs.length by simp[vw]]at e;exact e.symm
  .have mG:¬vs.toArray.size<2:=by rw[q10];exact h2
   rw[q00 mG,q00 mG,ksk_kind (kz:=kz) (by simpa using hi) (by rw[q10];lia)];refine q03 (q04 ?_);have ask:(kas_sort vs.length).kasWp (kas_ask X.prog X.w A oneType' ks) (λp s2=>M14.I (λk=>kz.getD k 0) vs.length p vs.length/\s2=s') s':=by
    refine rF (c:=M14.ck (λk=>kz.getD k 0) vs.length) (λi j C C' s0 m h=>?_) _ _ (M14.sort h1 λp hp=>⟨hp,rfl⟩);obtain⟨gS,WH,hc⟩:=h;obtain⟨t,et⟩:=LW hi i (by lia);obtain⟨u,eu⟩:=LW hi j (by lia);unfold kas_ask;rw[et,eu];exact kat_lt_int (m _ _ hc)
   refine q03 (wpAny_mono (kat_run (Q:=λjh s2=>∃p:Array Nat,M14.I (λk=>kz.getD k 0) vs.length p vs.length/\arrOf jh=p.map (kas_item (ks.toArray.zip vs.toArray))/\failedOf jh=none/\s2=s') vw (by lia) Hk (λp' jh s2 a1 a2 a3 a4=>⟨p',a4.1,a2,a3,a4.2⟩) ask) ?_ λ_ _ x=>x);rintro ⟨⟨⟩,jh⟩ s2 ⟨p,hp,L0,hf,rfl⟩;exact fin _ _ hp L0 hf
end
end L2
namespace L2
open PySem PySem.W
abbrev uk(h:Heap)(z TI TO T:Addr)(b:Bool):Prop :=
 h.get? z=some { cls:=.type "zip",dict:=none,data:=.fields #[rawInt T,.bool b,.bool false,.ref TI,.ref TO],slots := #[] }
section
variable {P:Program}{w:World}{A:Around}{E:Value->Shared->Prop}{s:Shared}{z TI TO T i1 i2 l1 l2:Addr}{b:Bool}
theorem R6{Q:Bool->Shared->Prop}(hz:uk s.heap z TI TO T b)(hT:∃o,s.heap.get? T=some o)(q:∀h',uk h' z TI TO T true->SameBut z s.heap h'->Q false { s with heap:=h' }):
 wpAny (model P w) A (Builtin.SmallTypes.ownedTupleIsFree (.ref z)) Q E s:=by
 obtain⟨o,ho⟩:=hT;unfold Builtin.SmallTypes.ownedTupleIsFree;refine q03 (wpAny_field hz rfl (x:=rawInt T) rfl ?_);show wpAny _ _ (loadIfAlive ((T:Int).toNat) >>= _) _ _ _;rw[Int.toNat_natCast];refine q03 (kdx_alive ho ?_);simp only[Option.isNone_some,if_false,Bool.false_eq_true];refine q03 (wpAny_field hz rfl (x:=.bool b) rfl ?_);cases b with
 | true =>
   rw[q00 (show ¬((Value.bool true != Value.bool true)=true)by decide)];exact q04 (q _ hz (Heap.SameBut.refl _ _))
 | false =>
   rw[q01 (show(Value.bool false != Value.bool true)=true by decide)];exact q03 (wpAny_setField_rec hz (by simp) λh₃ e₃ s₃=>q04 (q h₃ e₃ s₃))
variable {k1:Nat}{xs ys:Array Value}
theorem rH{k2:Nat}{x y:Value}{Q:Value->Shared->Prop}(D:ZipApart z TI TO i1 i2 l1 l2)(hz:uk s.heap z TI TO T b)(hT:∃o,s.heap.get? T=some o)(gC:IsPair s.heap TI (.ref i1) (.ref i2))
 (h1:s.heap.IsListIter i1 l1 k1) (h2:s.heap.IsListIter i2 l2 k2) (c9:s.heap.IsList l1 xs) (cX:s.heap.IsList l2 ys) (hx:xs[k1]? = some x) (hy:ys[k2]? = some y)
 (q:∀h',uk h' z TI TO T true->h'.IsListIter i1 l1 (k1+1)->h'.IsListIter i2 l2 (k2+1)->IsPair h' s.heap.objs.size x y->h'.objs.size=s.heap.objs.size+1 ->
   (∀c o,c≠z->c≠i1->c≠i2->s.heap.get? c=some o->h'.get? c=some o)->Q (.ref s.heap.objs.size) { s with heap:=h' }) :
 wpAny (model P w) A (Builtin.«zip.__next__» ⟨[.ref z],[]⟩) (λr s'=>∃v,r=.done (.ret v)/\Q v s') E s:=by
 show wpAny (model P w) A (field (.ref z) 2 >>= _) _ _ _;refine q03 (wpAny_field hz (x:=.bool false) rfl rfl ?_);show wpAny (model P w) A (field (.ref z) 3 >>= _) _ _ _;refine q03 (wpAny_field hz (x:=.ref TI) rfl rfl ?_);refine q03 (wpAny_seqItems gC rfl ?_);show wpAny (model P w) A (Builtin.SmallTypes.ownedTupleIsFree (.ref z) >>= _) _ _ _;refine q03 (R6 hz hT λh₁ z₁ s₁=>?_);simp only[if_false,Bool.false_eq_true];rw[show(#[Value.ref i1,Value.ref i2]:Array Value)=[Value.ref i1,Value.ref i2].toArray from rfl,forIn_toArray];simp only[forIn_cons,forIn_nil];refine q03 (q03 (q03 (wpAny_holding ?_)));show wpAny (model P w) A (Builtin.SmallTypes.nextOf (.ref i1) >>= _) _ _ _;refine q03 (wpAny_nextOf_list_item (h1.extBut s₁.extBut D.i1z) (c9.extBut s₁.extBut D.l1z) hx λh₂ a₂ s₂=>q04 (q04 ?_));refine q03 (q03 (wpAny_holding ?_));show wpAny (model P w) A (Builtin.SmallTypes.nextOf (.ref i2) >>= _) _ _ _;refine q03 (wpAny_nextOf_list_item ((h2.extBut s₁.extBut D.i2z).extBut s₂.extBut D.i12.symm) ((cX.extBut s₁.extBut D.l2z).extBut s₂.extBut D.l2i1) hy λh₃ a₃ s₃=>q04 (q04 (q04 ?_)));refine q03 (wpAny_newTuple (q04 ⟨_,rfl,?_⟩) (by show 2<=sizeLine;decide));have hsz:h₃.objs.size=s.heap.objs.size:=by rw[s₃.1,s₂.1,s₁.1]
 show Q (.ref h₃.objs.size) _;rw[hsz];have up:∀c o,h₃.get? c=some o->(h₃.push { cls:=.type "tuple",data:=.seq #[x,y] }).get? c=some o:=λc o e=>q05 _ e;refine q _ (up _ _ (s₃.extBut _ _ D.i2z.symm (s₂.extBut _ _ D.i1z.symm z₁))) ?_ ?_ ?_ ?_ λc o c1 c2 c3 e=>up _ _ (s₃.extBut _ _ c3 (s₂.extBut _ _ c2 (s₁.extBut _ _ c1 e)))
 .exact(a₂.extBut s₃.extBut D.i12).at λo e=>up _ o e
 .exact a₃.at λo e=>up _ o e
 .rw[<-hsz];exact get?_push_size _ rfl
 .exact(size_push ..).trans (by rw[hsz])
theorem rJ{k2:Nat}{ys:Array Value}{Q:Fin->Shared->Prop}(hh:A.handled=none)(D:ZipApart z TI TO i1 i2 l1 l2)(hz:uk s.heap z TI TO T b)(hT:∃o,s.heap.get? T=some o)(gC:IsPair s.heap TI (.ref i1) (.ref i2))
 (h1:s.heap.IsListIter i1 l1 k1) (c9:s.heap.IsList l1 xs) (hx:xs[k1]? = none)
 (q:∀h' e,(∀c o,c≠z->c≠i1->c≠i2->s.heap.get? c=some o->h'.get? c=some o)->(∃o,h'.get? e=some o/\o.cls=.type "StopIteration")->E (.ref e) { s with heap:=h' }) :
 wpAny (model P w) A (Builtin.«zip.__next__» ⟨[.ref z],[]⟩) Q E s:=by
 show wpAny (model P w) A (field (.ref z) 2 >>= _) _ _ _;refine q03 (wpAny_field hz (x:=.bool false) rfl rfl ?_);show wpAny (model P w) A (field (.ref z) 3 >>= _) _ _ _;refine q03 (wpAny_field hz (x:=.ref TI) rfl rfl ?_);refine q03 (wpAny_seqItems gC rfl ?_);show wpAny (model P w) A (Builtin.SmallTypes.ownedTupleIsFree (.ref z) >>= _) _ _ _;refine q03 (R6 hz hT λh₁ z₁ s₁=>?_);simp only[if_false,Bool.false_eq_true];rw[show(#[Value.ref i1,Value.ref i2]:Array Value)=[Value.ref i1,Value.ref i2].toArray from rfl,forIn_toArray];simp only[forIn_cons,forIn_nil];refine q03 (q03 (q03 (wpAny_holding ?_)));show wpAny (model P w) A (Builtin.SmallTypes.nextOf (.ref i1) >>= _) _ _ _;refine q03 (wpAny_nextOf_list_end hh (h1.extBut s₁.extBut D.i1z) (c9.extBut s₁.extBut D.l1z) hx λh₂ e s₂ he=>?_);exact q h₂ e (λc o c1 c2 _ x=>s₂ _ _ c2 (s₁.extBut _ _ c1 x)) he
variable {Q:Option Value->Shared->Prop}
theorem nk{k2:Nat}{x y:Value}(D:ZipApart z TI TO i1 i2 l1 l2)(hz:uk s.heap z TI TO T b)(hT:∃o,s.heap.get? T=some o)(gC:IsPair s.heap TI (.ref i1) (.ref i2))
 (h1:s.heap.IsListIter i1 l1 k1) (h2:s.heap.IsListIter i2 l2 k2) (c9:s.heap.IsList l1 xs) (cX:s.heap.IsList l2 ys) (hx:xs[k1]? = some x) (hy:ys[k2]? = some y)
 (q:∀h',uk h' z TI TO T true->h'.IsListIter i1 l1 (k1+1)->h'.IsListIter i2 l2 (k2+1)->IsPair h' s.heap.objs.size x y->h'.objs.size=s.heap.objs.size+1 ->
   (∀c o,c≠z->c≠i1->c≠i2->s.heap.get? c=some o->h'.get? c=some o)->Q (some (.ref s.heap.objs.size)) { s with heap:=h' }) :
 wpAny (model P w) A (pyNext (.ref z)) Q E s:=by
 have t:s.TypeIs (.ref z) "zip":=⟨_,hz,rfl⟩;unfold pyNext;exact q03 (wpAny_attempt (wpAny_callSpecial?_slot (name:=Str.ofString "__next__") t F.slot_zip_next (wpAny_call_entry F.slot_zip_next t F.entry_zip_next
  (rH D hz hT gC h1 h2 c9 cX hx hy λh' a1 a2 a3 a4 a5 a6=>q04 (q h' a1 a2 a3 a4 a5 a6)) (F.args_zip_next_1 _))))
theorem nq(hh:A.handled=none)(D:ZipApart z TI TO i1 i2 l1 l2)(hz:uk s.heap z TI TO T b)(hT:∃o,s.heap.get? T=some o)(gC:IsPair s.heap TI (.ref i1) (.ref i2))
 (h1:s.heap.IsListIter i1 l1 k1) (c9:s.heap.IsList l1 xs) (hx:xs[k1]? = none)
 (q:∀h',(∀c o,c≠z->c≠i1->c≠i2->s.heap.get? c=some o->h'.get? c=some o)->Q none { s with heap:=h' }):wpAny (model P w) A (pyNext (.ref z)) Q E s:=by
 have t:s.TypeIs (.ref z) "zip":=⟨_,hz,rfl⟩;unfold pyNext;refine q03 (wpAny_attempt (wpAny_callSpecial?_slot (name:=Str.ofString "__next__") t F.slot_zip_next (wpAny_call_entry F.slot_zip_next t F.entry_zip_next
  (rJ (k2:=0) (ys := #[]) hh D hz hT gC h1 c9 hx λh' e k he=>?_) (F.args_zip_next_1 _))))
 obtain⟨o,ho,hc⟩:=he;exact q03 (wpAny_isInstance (T:= "StopIteration") (b:=true) ⟨o,ho,hc⟩ isSubtype_stop (q04 (q _ k)))
def um(z TI TO i1 i2 l1 l2:Addr)(xs ys:Array Value)(i:Nat)(s:Shared):Prop :=
 IsPair s.heap TI (.ref i1) (.ref i2)/\s.heap.IsListIter i1 l1 i/\s.heap.IsListIter i2 l2 i/\s.heap.IsList l1 xs/\s.heap.IsList l2 ys /\
  ((i=0/\IsZip s.heap z TI TO .none/\∃a b,IsPair s.heap TO a b)\/(0<i/\∃(T:Addr)(b:Bool),uk s.heap z TI TO T b/\∃o,s.heap.get? T=some o))
end
end L2
namespace L2
open PySem PySem.W PyProof.Rows
section
variable {X:Cx}{pins:List (Addr×Obj)}{σ:St}{H:Hp}{s:Shared}{h':Heap}{t':Nat}{ch:List Addr}
theorem Inv.moved(I:Inv X pins σ H s)(o:∀c∈ch,Own X pins H c)(k:∀b u,b∉ch->s.heap.get? b=some u->h'.get? b=some u):Inv X pins σ H { s with heap:=h',toks:=t' }:=by
 have kU:∀b u,H b=some u->b∉ch:=λb u e z=>by rw[(o b z).free]at e;cases e
 have nL:X.env.locals∉ch:=λz=>(o _ z).loc rfl;refine I.step (g':=s.gens) (d':=s.drawn) (ch:=ch) (λb hb=>⟨.inr (o b hb).new,(o b hb).loc,(o b hb).cell,(o b hb).pin⟩) (λb u _ _ hc e _=>k b u hc e) (λb u _ _ hc e _=>⟨u.slots,k b u hc e⟩)
  (λ_ _ _ _ n=>n) (λb u hc e=>⟨u,k b u hc e⟩) (λ_ _ e=>e) (λ_ _ _ e=>e) (λb ps e=>⟨#[],by rw[e];simp⟩) (λm hm=>?_) (λb u e=>?_) I.bare
 .obtain⟨ob,es,ep,ho,r⟩:=hm;exact⟨ob,es,ep,k _ ob nL ho,r⟩
 .refine(I.aJ b u e).eW (λc v hc q=>k c v ?_ q) (λ_ q=>q) λ_ _ q=>q;rcases hc with z | z
  .rw[z];exact kU b u e
  .exact kU c _ z
variable {T:Addr}
theorem Inv.By{v:HO}(I:Inv X pins σ H s)(o:∀c∈ch,Own X pins H c)(k:∀b u,b∉ch->s.heap.get? b=some u->h'.get? b=some u)(hT:s.heap.objs.size<=T)(new:bu X.prog X.w (upd H T v) h' T v):
 Inv X pins σ (upd H T v) { s with heap:=h',toks:=t' }:=by
 have hf:H T=none:=I.aJ.fresh hT;have kU:∀b u,H b=some u->b∉ch:=λb u e z=>by rw[(o b z).free]at e;cases e
 have nL:X.env.locals∉ch:=λz=>(o _ z).loc rfl;have up:∀b u,H b=some u->upd H T v b=some u:=λb u e=>by rw[zj (zr e hf)];exact e
 refine I.step (g':=s.gens) (d':=s.drawn) (ch:=ch) (λb hb=>⟨.inr (o b hb).new,(o b hb).loc,(o b hb).cell,(o b hb).pin⟩) (λb u _ _ hc e _=>k b u hc e) (λb u _ _ hc e _=>⟨u.slots,k b u hc e⟩)
  (λb u _ e n=>?_) (λb u hc e=>⟨u,k b u hc e⟩) (λb _ e=>up b _ e) (λb _ _ e=>up b _ e) (λb ps e=>⟨#[],by rw[up b _ e];simp⟩) (λm hm=>?_) (λb u e=>?_) I.bare
 .rw[zj (λz=>by rw[z]at e;exact q02 (lt_size e) (Nat.not_lt.mpr hT))];exact n
 .obtain⟨ob,es,ep,ho,r⟩:=hm;exact⟨ob,es,ep,k _ ob nL ho,r⟩
 .by_cases hb:b=T
  .subst hb;rw[ze]at e;cases e;exact new
  .rw[zj hb]at e;refine(I.aJ b u e).eW (λc w hc q=>k c w ?_ q) (λc q=>up c _ q) λc _ q=>up c _ q;rcases hc with z | z
   .rw[z];exact kU b u e
   .exact kU c _ z
theorem Own.upd{c:Addr}{v:HO}(o:Own X pins H c)(h:c≠T):Own X pins (upd H T v) c:=⟨by rw[zj h];exact o.free,o.loc,o.new,o.cell,o.pin,o.fs⟩
variable {A:Around}{E:Value->Shared->Prop}{z TI TO i1 i2 l1 l2 S:Addr}{xs ys:List Value}{xv yv:List V}
theorem rK{i:Nat}{x y:Value}{vx vy:V}{Q:Option Value->Shared->Prop}(I:Inv X pins σ H s)(o:∀c ∈ [z,TO,i1,i2],Own X pins H c)(D:ZipApart z TI TO i1 i2 l1 l2)(st:um z TI TO i1 i2 l1 l2 xs.toArray ys.toArray i s)
 (hx:xs[i]? = some x) (hy:ys[i]? = some y) (rx:RelV vx x) (ry:RelV vy y)
 (q:∀s',Inv X pins σ (L2.upd H s.heap.objs.size (.tup [vx,vy])) s'->um z TI TO i1 i2 l1 l2 xs.toArray ys.toArray (i+1) s'->(∀b u,b ∉ [z,TO,i1,i2]->s.heap.get? b=some u->s'.heap.get? b=some u)->s'.heap.objs.size=s.heap.objs.size+1->Q (some (.ref s.heap.objs.size)) s') :
 wpAny (model X.prog X.w) A (pyNext (.ref z)) Q E s:=by
 obtain⟨gC,h1,h2,c9,cX,hz⟩:=st;have R7:xs.toArray[i]? = some x:=by simpa using hx
 have R8:ys.toArray[i]? = some y:=by simpa using hy
 have L1:TI ∉ [z,TO,i1,i2]:=by simp[D.TIz,D.TITO,D.TIi1,D.TIi2]
 have n1:l1 ∉ [z,TO,i1,i2]:=by simp[D.l1z,D.l1TO,D.l1i1,D.l1i2]
 have n2:l2 ∉ [z,TO,i1,i2]:=by simp[D.l2z,D.l2TO,D.l2i1,D.l2i2]
 have fin:∀(h':Heap)(b:Bool)(T:Addr),uk h' z TI TO T b->(∃u,h'.get? T=some u)->h'.IsListIter i1 l1 (i+1)->h'.IsListIter i2 l2 (i+1)->IsPair h' s.heap.objs.size x y->h'.objs.size=s.heap.objs.size+1 ->
  (∀c u,c ∉ [z,TO,i1,i2]->s.heap.get? c=some u->h'.get? c=some u)->Q (some (.ref s.heap.objs.size)) { s with heap:=h' }:=λh' b T b1 b2 b3 b4 b5 b6 k=>by
  refine q _ (I.By (t':=s.toks) o k (le_refl _) ⟨by show 2<=sizeLine;decide,[x,y],.cons rx (.cons ry .nil),_,b5,rfl,_,rfl⟩) ⟨k _ _ L1 gC,b3,b4,c9.at λu e=>k _ u n1 e,cX.at λu e=>k _ u n2 e,.inr ⟨Nat.succ_pos _,T,b,b1,b2⟩⟩ k b6
 rcases hz with⟨rfl,hz,a,b,uo⟩|⟨hi,T,b,hz,hT⟩
 .refine wpAny_pyNext_zip_item D hz gC uo h1 h2 c9 cX R7 R8 λh' a1 a2 a3 a4 a5 a6 k=>?_;exact fin h' false _ a1 ⟨_,a5⟩ a3 a4 a5 a6 λc u hc e=>k c u (λw=>hc (by simp[w])) (λw=>hc (by simp[w])) (λw=>hc (by simp[w])) (λw=>hc (by simp[w])) e
 .refine nk D hz hT gC h1 h2 c9 cX R7 R8 λh' a1 a2 a3 a4 a5 k=>?_;have k':∀c u,c ∉ [z,TO,i1,i2]->s.heap.get? c=some u->h'.get? c=some u:=λc u hc e=>k c u (λw=>hc (by simp[w])) (λw=>hc (by simp[w])) (λw=>hc (by simp[w])) e;obtain⟨u,hu⟩:=hT;by_cases c1:T=z
  .exact fin h' true T a1 ⟨_,by rw[c1];exact a1⟩ a2 a3 a4 a5 k'
  .by_cases c2:T=i1
   .obtain⟨w,hw,_⟩:=id a2;exact fin h' true T a1 ⟨w,by rw[c2];exact hw⟩ a2 a3 a4 a5 k'
   .by_cases c3:T=i2
    .obtain⟨w,hw,_⟩:=id a3;exact fin h' true T a1 ⟨w,by rw[c3];exact hw⟩ a2 a3 a4 a5 k'
    .exact fin h' true T a1 ⟨u,k T u c1 c2 c3 hu⟩ a2 a3 a4 a5 k'
abbrev ja(H:Hp)(ts:List Addr)(ps:List (V×V)):Prop:=Paired (λt (p:V×V)=>H t=some (.tup [p.1,p.2])) ts ps
variable {ts:List Addr}{ps:List (V×V)}
theorem ja.upd{v:HO}(h:ja H ts ps)(hT:H T=none):ja (L2.upd H T v) ts ps:=by
 induction h with
 | nil=>exact .nil
 | cons e _ ih=>exact .cons (by rw[zj (zr e hT)];exact e) ih
theorem ja.snoc{t:Addr}{p:V×V}(h:ja H ts ps)(e:H t=some (.tup [p.1,p.2])):ja H (ts++[t]) (ps++[p]):=by
 induction h with
 | nil=>exact .cons e .nil
 | cons a _ ih=>exact .cons a ih
theorem lL:∀{xv:List V}{xs:List Value},Vals xv xs->∀(i:Nat)(h:i<xv.length),∃x,xs[i]? = some x/\RelV xv[i] x:=by
 intro xv xs r
 induction r with
 | nil=>intro i h;exact q02 h (Nat.not_lt_zero _)
 | cons e _ ih =>
   intro i h;cases i with
   | zero=>exact⟨_,rfl,e⟩
   | succ i=>exact ih i (by simpa using h)
theorem um.keep{i:Nat}{h':Heap}(st:um z TI TO i1 i2 l1 l2 xs.toArray ys.toArray i s)(h0:0<i)(k:∀b u,b≠S->s.heap.get? b=some u->h'.get? b=some u)(he:∃u,h'.get? S=some u)(hS:S ∉ [z,TO,i1,i2])(EK:S≠TI/\S≠l1/\S≠l2):
 um z TI TO i1 i2 l1 l2 xs.toArray ys.toArray i { s with heap:=h' }:=by
 obtain⟨a1,a2,a3,a4,a5,a6⟩:=st;have n:∀c ∈ [z,TO,i1,i2],c≠S:=λc hc e=>hS (e ▸ hc);refine⟨k _ _ (Ne.symm EK.1) a1,a2.at λu e=>k _ u (n _ (by simp)) e,a3.at λu e=>k _ u (n _ (by simp)) e,a4.at λu e=>k _ u (Ne.symm EK.2.1) e,a5.at λu e=>k _ u (Ne.symm EK.2.2) e,?_⟩;rcases a6 with⟨z0,_⟩|⟨_,T,b,hz,u,hu⟩
 .lia
 .refine .inr ⟨h0,T,b,k _ _ (n _ (by simp)) hz,?_⟩;by_cases c:T=S
  .rw[c];exact he
  .exact⟨u,k T u c hu⟩
theorem rL{res:Value}{R:Result->Shared->Prop}(hh:A.in1.handled=none)(D:ZipApart z TI TO i1 i2 l1 l2)(hS:S ∉ [z,TO,i1,i2])(EK:S≠TI/\S≠l1/\S≠l2)(rx:Vals xv xs)(ry:Vals yv ys)(hl:xv.length=yv.length)(hn:xv.length<64):
 ∀(k i:Nat)(s:Shared)(H:Hp)(ts:List Addr)(c:Nat),xv.length-i=k->i<=xv.length->0<xv.length->Inv X pins σ H s->(∀c ∈ [z,TO,i1,i2],Own X pins H c/\c<s.heap.objs.size)->Own X pins H S->S<s.heap.objs.size ->
  um z TI TO i1 i2 l1 l2 xs.toArray ys.toArray i s->s.heap.get? S=some { cls:=.type "list",dict:=none,data:=.seq (ts.map Value.ref).toArray c,slots := #[] }->ts.length=i->ja H ts ((xv.zip yv).take i) ->
  (∀s' H' ts,Inv X pins σ H' s'->ae H H'->ja H' ts (xv.zip yv)->Own X pins H' S->(∃c,s'.heap.get? S=some { cls:=.type "list",dict:=none,data:=.seq (ts.map Value.ref).toArray c,slots := #[] })->R (.ok (.ret res)) s') ->
  codeAny (model X.prog X.w) A (.builtin "list.extend.loop" ⟨[.ref S,.ref z,res],[]⟩) R s:=by
 have lx:=rx.length;have ly:=ry.length;intro k
 induction k with
 | zero =>
   intro i s H ts c hk hi h0 I o oS lS st eS et pr q;have e:i=xv.length:=by lia
   subst e;refine codeAny_builtin F.entry_extend_loop ?_;rw[Around.under_plainId F.plain_extend_loop _];show wpAny (model X.prog X.w) A.in1 (pyNext (.ref z) >>= _) _ _ s;obtain⟨gC,h1,h2,c9,cX,hz⟩:=st;rcases hz with⟨z0,_⟩|⟨_,T,b,hz,hT⟩
   .lia
   refine q03 (nq hh D hz hT gC h1 c9 (by simp;lia) λh' k'=>?_);have kk:∀b u,b ∉ [z,TO,i1,i2]->s.heap.get? b=some u->h'.get? b=some u:=λb u hb e=>k' b u (λw=>hb (by simp[w])) (λw=>hb (by simp[w])) (λw=>hb (by simp[w])) e;rw[take_of_length_le (by rw[length_zip];lia)]at pr;exact q04 (q _ H ts (I.moved (t':=s.toks) (λc hc=>(o c hc).1) kk) (ae.refl _) pr oS ⟨c,kk S _ hS eS⟩)
 | succ k ih =>
   intro i s H ts c hk hi h0 I o oS lS st eS et pr q;have bU:i<xv.length:=by lia
   refine codeAny_builtin F.entry_extend_loop ?_;rw[Around.under_plainId F.plain_extend_loop _];show wpAny (model X.prog X.w) A.in1 (pyNext (.ref z) >>= _) _ _ s;obtain⟨x,hx,vx⟩:=lL rx i bU;obtain⟨y,hy,vy⟩:=lL ry i (by lia);refine q03 (rK I (λc hc=>(o c hc).1) D st hx hy vx vy λs' I' jh k' z'=>?_);have R9:=k' S _ hS eS;have hf:H s.heap.objs.size=none:=I.aJ.fresh (le_refl _);have Sa:Own X pins (L2.upd H s.heap.objs.size (.tup [xv[i],yv[i]])) S:=oS.upd (ne_of_lt lS);obtain⟨c2,jL⟩:∃c2,(s'.heap.update S (Obj.mapSeq (·.push (Value.ref s.heap.objs.size)))).get? S=some { cls:=.type "list",dict:=none,data:=.seq ((ts++[s.heap.objs.size]).map Value.ref).toArray c2,slots := #[] } :=
    ⟨_,by rw[show((ts++[s.heap.objs.size]).map Value.ref).toArray=(ts.map Value.ref).toArray.push (Value.ref s.heap.objs.size)by simp];exact get?_update_seq R9 (·.push _)⟩
   have ko:∀b u,b≠S->s'.heap.get? b=some u->(s'.heap.update S (Obj.mapSeq (·.push (Value.ref s.heap.objs.size)))).get? b=some u:=λb u hb e=>(get?_update_other _ _ (Ne.symm hb)).trans e;have bY:=zq;show wpAny (model X.prog X.w) A.in1 (updateSeq S (·.push (Value.ref s.heap.objs.size)) >>= _) _ _ _;refine q03 ?_;refine wpAny_updateSeq R9 rfl (q04 ⟨plainId_quiet F.plain_extend_loop _,ih (i+1) _ _ (ts++[s.heap.objs.size]) c2 (by lia) (by lia) h0 (I'.swap Sa) (λc hc=>?_) Sa ?_ (jh.keep (Nat.succ_pos _) ko ⟨_,jL⟩ hS EK) jL (by rw[q08,et];rfl) ?_ ?_⟩) ?_ ?_
   .refine⟨((o c hc).1).upd (ne_of_lt (o c hc).2),?_⟩;show c<(s'.heap.update S _).objs.size;rw[size_update,z'];exact lt_succ_of_lt (o c hc).2
   .show S<(s'.heap.update S _).objs.size;rw[size_update,z'];exact lt_succ_of_lt lS
   .have e:(xv.zip yv).take (i+1)=(xv.zip yv).take i++[(xv[i],yv[i])]:=by
     rw[List.take_add_one,q31 (by rw[length_zip];lia)];simp
    rw[e];exact(pr.upd hf).snoc ze
   .intro s2 H2 WI J1 J2 J3 J4 J5;exact q s2 H2 WI J1 ((ae.new hf).trans J2) J3 J4 J5
   .rw[q10,q06,et];lia
   .rw[Array.size_push,q10,q06,et];lia
end
end L2
namespace L2
open PySem PySem.W PyProof.Rows PySem.Calls
theorem vz:typeLookup (.type "zip") "__len__"=pure none:=by rw[typeLookup_type,builtinLookup_eq_fast];kernel_rfl
theorem rM:typeLookup (.type "zip") "__length_hint__"=pure none:=by rw[typeLookup_type,builtinLookup_eq_fast];kernel_rfl
section
variable {X:Cx}{pins:List (Addr×Obj)}{σ:St}{H:Hp}{s:Shared}{A:Around}{E:Value->Shared->Prop}{z TI TO i1 i2 l1 l2:Addr}{xs ys:List Value}{xv yv:List V}
theorem WJ{Q:List Value->Shared->Prop}(hh:A.in1.handled=none)(D:ZipApart z TI TO i1 i2 l1 l2)(rx:Vals xv xs)(ry:Vals yv ys)(hl:xv.length=yv.length)(hn:xv.length<64)(h0:0<xv.length)
 (I:Inv X pins σ H s) (o:∀c ∈ [z,TO,i1,i2],Own X pins H c/\c<s.heap.objs.size) (st:um z TI TO i1 i2 l1 l2 xs.toArray ys.toArray 0 s)
 (q:∀s' H' ts,Inv X pins σ H' s'->ae H H'->ja H' ts (xv.zip yv)->Q (ts.map Value.ref) s'):wpAny (model X.prog X.w) A (collect (.ref z)) Q E s:=by
 have hz:IsZip s.heap z TI TO .none:=by
  rcases st.2.2.2.2.2 with⟨_,hz,_⟩|⟨w,_⟩
  .exact hz
  .lia
 have lt:∀{c u},s.heap.get? c=some u->c<s.heap.objs.size:=λe=>lt_size e;have lz:=(o z (by simp)).2;have WK:s.heap.objs.size≠z:=ne_of_gt lz;have oS:=I.own (b:=s.heap.objs.size) (le_refl _);unfold collect;refine q03 (wpAny_runValue (codeAny_builtin F.entry_proto_collect ?_));rw[Around.under_plainId F.plain_proto_collect _];show wpAny (model X.prog X.w) A.in1 (newList [] >>= λl=>again (.builtin "list.__iadd__" ⟨[l,.ref z],[]⟩)) _ _ s;refine q03 (wpAny_newList ?_ (zero_le _));have I1:Inv X pins σ H { s with heap:=s.heap.push { cls:=.type "list",data:=.seq ([]:List Value).toArray } }:=I.kept (t':=s.toks) λb u e=>q05 _ e;have CF:(s.heap.push { cls:=.type "list",data:=.seq ([]:List Value).toArray }).get? s.heap.objs.size=some { cls:=.type "list",data:=.seq ([]:List Value).toArray }:=get?_push_size _ rfl;have k1:∀b u,s.heap.get? b=some u->(s.heap.push { cls:=.type "list",data:=.seq ([]:List Value).toArray }).get? b=some u:=λb u e=>q05 _ e;have z1:(s.heap.push { cls:=.type "list",data:=.seq ([]:List Value).toArray }).objs.size=s.heap.objs.size+1:=size_push ..;show wpAny (model X.prog X.w) A.in1 (again (.builtin "list.__iadd__" ⟨[.ref s.heap.objs.size,.ref z],[]⟩)) _ _ { s with heap:=s.heap.push { cls:=.type "list",data:=.seq ([]:List Value).toArray } };generalize s.heap.push { cls:=.type "list",data:=.seq ([]:List Value).toArray }=h1 at I1 CF k1 z1;refine q04 ⟨plainId_quiet F.plain_list_iadd _,codeAny_builtin F.entry_list_iadd ?_⟩;rw[Around.under_plainId F.plain_list_iadd _];show wpAny (model X.prog X.w) A.in1 (Builtin.List.listExtendWith (.ref s.heap.objs.size) (.ref z) (.ref s.heap.objs.size)) _ _ _;unfold Builtin.List.listExtendWith;have tz:Shared.TypeIs { s with heap:=h1 } (.ref z) "zip":=⟨_,k1 _ _ hz,rfl⟩;refine q03 (wpAny_typeOf tz ?_);have e1:Builtin.List.listSameRef (.ref s.heap.objs.size) (.ref z)=false:=by simp[Builtin.List.listSameRef,WK]
 have e2:(Value.type "zip" == Value.type "list")=false:=by decide
 have e3:(Value.type "zip" == Value.type "tuple")=false:=by decide
 simp only[e1,e2,e3,Bool.or_false,if_false,Bool.false_eq_true];refine q03 (wpAny_pyIter_zip (k1 _ _ hz) ?_);refine q03 (wpAny_holding ?_);unfold Builtin.List.listLengthHint;refine q03 (wpAny_specialOf tz vz ?_);show wpAny (model X.prog X.w) A.in1 (specialOf (Value.ref z) (Str.ofString "__length_hint__") >>= _) _ _ _;refine q03 (wpAny_specialOf tz rM (q04 ?_));show wpAny (model X.prog X.w) A.in1 (rule "list.extend.makes-room" >>= λ_=>Builtin.List.listTouch (.ref s.heap.objs.size) >>= λ_=>again (.builtin "list.extend.loop" ⟨[.ref s.heap.objs.size,.ref z,.ref s.heap.objs.size],[]⟩)) _ _ _;refine q03 (wpAny_rule (q03 ?_));show wpAny (model X.prog X.w) A.in1 (updateSeq s.heap.objs.size (·.push .none) >>= λ_=>updateSeq s.heap.objs.size (·.pop)) _ _ _;refine q03 (wpAny_updateSeq CF rfl ?_);have Bz:=Heap.get?_update_self (Obj.mapSeq (·.push Value.none)) CF rfl;refine wpAny_updateSeq Bz rfl ?_;have WL:=Heap.get?_update_self (Obj.mapSeq (·.pop)) Bz rfl;have I3:=(I1.swap (f:=Obj.mapSeq (·.push Value.none)) oS).swap (f:=Obj.mapSeq (·.pop)) oS;have k3:∀b u,b≠s.heap.objs.size->s.heap.get? b=some u->((h1.update s.heap.objs.size (Obj.mapSeq (·.push Value.none))).update s.heap.objs.size (Obj.mapSeq (·.pop))).get? b=some u :=
  λb u hb e=>(get?_update_other _ _ (Ne.symm hb)).trans ((get?_update_other _ _ (Ne.symm hb)).trans (k1 b u e))
 have z3:((h1.update s.heap.objs.size (Obj.mapSeq (·.push Value.none))).update s.heap.objs.size (Obj.mapSeq (·.pop))).objs.size=s.heap.objs.size+1:=by rw[size_update,size_update,z1]
 have kk:∀b u,s.heap.get? b=some u->((h1.update s.heap.objs.size (Obj.mapSeq (·.push Value.none))).update s.heap.objs.size (Obj.mapSeq (·.pop))).get? b=some u:=λb u e=>k3 b u (ne_of_lt (lt e)) e;obtain⟨a1,a2,a3,a4,a5,a6⟩:=st;refine q04 ⟨plainId_quiet F.plain_extend_loop _,rL (S:=s.heap.objs.size) (xs:=xs) (ys:=ys) (xv:=xv) (yv:=yv) hh D (λm=>q37 _ (o _ m).2) ⟨ne_of_gt (lt a1),?_,?_⟩ rx ry hl hn _ 0 _ H [] _ rfl (zero_le _) h0 I3 (λc hc=>⟨(o c hc).1,?_⟩) oS ?_ ⟨kk _ _ a1,a2.at λu e=>kk _ u e,a3.at λu e=>kk _ u e,a4.at λu e=>kk _ u e,a5.at λu e=>kk _ u e,?_⟩ WL rfl .nil λs' H' ts J1 J2 J3 J4 J5=>?_⟩
 .obtain⟨u,hu,_⟩:=a4;exact ne_of_gt (lt hu)
 .obtain⟨u,hu,_⟩:=a5;exact ne_of_gt (lt hu)
 .show c<Array.size _;rw[z3];exact lt_succ_of_lt (o c hc).2
 .show s.heap.objs.size<Array.size _;rw[z3];exact lt_succ_self _
 .rcases a6 with⟨_,b1,a,b,b2⟩|⟨w,_⟩
  .exact .inl ⟨rfl,kk _ _ b1,a,b,kk _ _ b2⟩
  .lia
 .obtain⟨c,J5⟩:=J5;show wpAny (model X.prog X.w) A (load s.heap.objs.size >>= _) _ _ s';refine q03 (wpAny_load J5 (q04 ?_));exact q s' H' ts J1 J2 J3
end
section
variable {X:Cx}{pins:List (Addr×Obj)}{σ:St}{H:Hp}{s:Shared}{A:Around}{E:Value->Shared->Prop}{z TI TO i1 i2 l1 l2 q:Addr}{xs ys:List Value}{xv yv:List V}{kz:List Int}
theorem Inv.BA{T:Addr}{v:HO}(I:Inv X pins σ H s)(o:Own X pins H T)(new:bu X.prog X.w (upd H T v) s.heap T v):Inv X pins σ (upd H T v) s:=by
 have hf:=o.free;have up:∀b u,H b=some u->upd H T v b=some u:=λb u e=>by rw[zj (zr e hf)];exact e
 refine I.step (h':=s.heap) (g':=s.gens) (d':=s.drawn) (t':=s.toks) (ch:=[T]) (λb hb=>?_) (λb u _ _ hc e _=>e) (λb u _ _ hc e _=>⟨u.slots,e⟩)
  (λb u hc e n=>by rw[zj (λw=>hc (by simp[w]))];exact n) (λb u hc e=>⟨u,e⟩) (λb _ e=>up b _ e) (λb _ _ e=>up b _ e) (λb ps e=>⟨#[],by rw[up b _ e];simp⟩) (λm hm=>hm) (λb u e=>?_) I.bare
 .rw[List.mem_singleton.mp hb];exact⟨.inr o.new,o.loc,o.cell,o.pin⟩
 .by_cases hb:b=T
  .subst hb;rw[ze]at e;cases e;exact new
  .rw[zj hb]at e;exact(I.aJ b u e).eW (λc w hc k=>k) (λc k=>up c _ k) λc _ k=>up c _ k
theorem ja.length{ts:List Addr}{ps:List (V×V)}(h:ja H ts ps):ts.length=ps.length:=by
 induction h with
 | nil=>rfl
 | cons _ _ ih=>rw[q12,q12,ih]
theorem WM{Q:Value->Shared->Prop}(hh:A.in1.in1.handled=none)(D:ZipApart z TI TO i1 i2 l1 l2)(rx:Vals xv xs)(ry:Vals yv ys)(hl:xv.length=yv.length)(hn:xv.length<64)(h0:0<xv.length)(hk:kz.length=xv.length)
 (I:Inv X pins σ H s) (o:∀c ∈ [z,TO,i1,i2],Own X pins H c/\c<s.heap.objs.size) (st:um z TI TO i1 i2 l1 l2 xs.toArray ys.toArray 0 s)
 (calls:∀(H':Hp)(ts:List Addr),ae H H'->ja H' ts (xv.zip yv)->∀(i:Nat)(v:Value)(pins':List (Addr×Obj)) (s':Shared),(ts.map Value.ref)[i]? = some v->Inv X pins' σ H' s' ->
   wpAny (model X.prog X.w) A.in1.in1 (call (.ref q) [v]) (λk hV=>Inv X pins' σ H' hV/\∃t,k=Value.int (kz.getD i 0) t) (λ_ _=>False) s')
 (fin:∀(s':Shared)(H':Hp)(ts:List Addr)(l:Addr)(p:Array Nat),ae H H'->ja H' ts (xv.zip yv)->H' l=none->M14.I (λk=>kz.getD k 0) xv.length p xv.length->Inv X pins σ (upd H' l (.lst (p.toList.map λi=>V.ref (ts.getD i 0)))) s'->Q (.ref l) s') :
 wpAny (model X.prog X.w) A (call (.builtin "sorted") [.ref z] [(Str.ofString "key",.ref q)]) Q E s:=by
 have bY:=zq;refine call_function_entry_kw kind_sorted plain_sorted entry_sorted (ksk_s1 _ _) ?_;unfold Builtin.«sorted»;refine q03 (m:=checkCount "sorted" 1 1 _) (q04 ?_);refine q03 (WJ hh D rx ry hl hn h0 I o st λs1 H1 ts I1 sm pr=>?_);have lt:ts.length=xv.length:=by rw[pr.length,length_zip];lia
 refine q03 (wpAny_newList ?_ (by rw[q06];lia));have I2:Inv X pins σ H1 { s1 with heap:=s1.heap.push (seqObj "list" (ts.map Value.ref).toArray 0) }:=I1.kept (t':=s1.toks) λb u e=>q05 _ e;have hD:(s1.heap.push (seqObj "list" (ts.map Value.ref).toArray 0)).get? s1.heap.objs.size=some (seqObj "list" (ts.map Value.ref).toArray 0):=get?_push_size _ rfl;have oD:=I1.own (b:=s1.heap.objs.size) (le_refl _);refine q03 (wpAny_holding (wpAny_call_entry_kw slot_list_sort ⟨_,hD,rfl⟩ entry_list_sort ?body (ksk_l1 _ _)))
 case body =>
  show wpAny (model X.prog X.w) A.in1.in1 (Builtin.«list.sort» ⟨[.ref s1.heap.objs.size],[(Str.ofString "key",.ref q)]⟩) _ _ _;rw[ksk_t1];refine wpAny_mono (keyed (f:=.ref q) (kz:=kz) (vs:=ts.map Value.ref) I2 oD hD (by rw[q06];lia) (by rw[q06];lia) (by rw[q06];lia) (calls H1 ts sm pr)) (λr s2 w=>?_) λ_ _ w=>w;obtain⟨rfl,p,e,hp,I3,h3⟩:=w;rw[q06,lt]at hp;refine⟨_,rfl,q04 ⟨_,rfl,?_⟩⟩;refine fin s2 H1 ts _ p sm pr oD.free hp (I3.BA oD ⟨?_,p.toList.map λi=>(ts.map Value.ref).getD i Value.none,e,?_,h3⟩)
  .rw[q06,Array.length_toList,hp.1.size];lia
  .have hm:∀i∈p.toList,i<ts.length:=λi hi=>by
    have:=(hp.1.pm.toList.mem_iff (a:=i)).mp hi;rw[lt]
    simpa using this
   revert hm;generalize p.toList=l;intro hm
   induction l with
   | nil=>exact .nil
   | cons a l ih =>
     have ha:=hm a (q14 ..);refine .cons ?_ (ih λi hi=>hm i (q13 _ hi));have e:(ts.map Value.ref).getD a Value.none=Value.ref (ts.getD a 0):=by simp[ha]
     show RelV (V.ref (ts.getD a 0)) ((ts.map Value.ref).getD a Value.none);rw[e];rfl
end
section
variable {X:Cx}{pins:List (Addr×Obj)}{σ:St}{H:Hp}{s:Shared}{A:Around}{E:Value->Shared->Prop}{l1 l2:Addr}{xv yv:List V}
theorem rN{Q:Value->Shared->Prop}(I:Inv X pins σ H s)(h1:ai X.K H l1 xv)(h2:ai X.K H l2 yv)
 (q:∀(s':Shared)(z TI TO i1 i2:Addr)(xs ys:List Value),Vals xv xs->Vals yv ys->Inv X pins σ H s'->ZipApart z TI TO i1 i2 l1 l2->(∀c ∈ [z,TO,i1,i2],Own X pins H c/\c<s'.heap.objs.size)->um z TI TO i1 i2 l1 l2 xs.toArray ys.toArray 0 s'->Q (.ref z) s') :
 wpAny (model X.prog X.w) A (call (.type "zip") [.ref l1,.ref l2]) Q E s:=by
 obtain⟨xs,r1,p1,_⟩:=I.list h1;obtain⟨ys,r2,p2,_⟩:=I.list h2;have b1:=p1.isList;have b2:=p2.isList;have t1:l1<s.heap.objs.size:=by obtain⟨u,hu,_⟩:=b1;exact lt_size hu
 have t2:l2<s.heap.objs.size:=by obtain⟨u,hu,_⟩:=b2;exact lt_size hu
 refine call_zip_2 b1 b2 λh' hz gC uo gS ui hsz hk=>?_;have n:∀(l:Addr)(d:Nat),l<s.heap.objs.size->l≠s.heap.objs.size+d:=λl d h=>ne_of_lt (q21 h (le_add_right _ _));have m:∀d e:Nat,d≠e->s.heap.objs.size+d≠s.heap.objs.size+e:=λd e h w=>h (Nat.add_left_cancel w);refine q _ (s.heap.objs.size+4) (s.heap.objs.size+2) (s.heap.objs.size+3) (s.heap.objs.size+0) (s.heap.objs.size+1) xs ys r1 r2 (I.kept (t':=s.toks) hk)
  ⟨m 2 4 (by decide),m 3 4 (by decide),m 0 4 (by decide),m 1 4 (by decide),m 2 3 (by decide),m 2 0 (by decide),m 2 1 (by decide),m 3 0 (by decide),m 3 1 (by decide),m 0 1 (by decide),n _ 4 t1,n _ 3 t1,n _ 0 t1,n _ 1 t1,n _ 4 t2,n _ 3 t2,n _ 0 t2,n _ 1 t2⟩ (λc hc=>?_)
  ⟨gC,gS,ui,b1.at λu e=>hk _ u e,b2.at λu e=>hk _ u e,.inl ⟨rfl,hz,_,_,uo⟩⟩
 have hb:∃d,d<5/\c=s.heap.objs.size+d:=by
  simp only[q27,not_mem_nil,or_false]at hc;rcases hc with w | w | w | w
  .exact⟨4,by decide,w⟩
  .exact⟨3,by decide,w⟩
  .exact⟨0,by decide,w⟩
  .exact⟨1,by decide,w⟩
 obtain⟨d,hd,rfl⟩:=hb;refine⟨I.own (le_add_right _ _),?_⟩;show s.heap.objs.size+d<Array.size _;rw[hsz];exact Nat.add_lt_add_left hd _
end
end L2
namespace L2
open PySem PySem.W PySem.Spec PyProof.Rows PySem.Calls
def vA(mg:Str->Option Value)(h:Heap):Prop:=∃bm ob,mg "__builtins__"=some (.ref bm)/\bm≠builtinsNs/\h.get? bm=some ob/\ob.cls=.type "module"/\ob.dict=some builtinsNs/\ob.data=.plain
abbrev rO(f:Addr)(o:Obj):HO:=.ext λh=>h.get? f=some o
abbrev oU(c:Addr)(q:Str):HO:=.ext λh=>h.CodeRec (.ref c) q
def aY(H H':Hp):Prop:=(∀b u,H b=some u->(∀ps,u ≠ .dh ps)->H' b=some u)/\∀b ps,H b=some (.dh ps)->∃qs,H' b=some (.dh qs)
variable {H H':Hp}
theorem ae.toN(s:ae H H'):aY H H':=⟨λb u e _=>s b u e,λb ps e=>⟨ps,s b _ e⟩⟩
theorem aY.trans{H1 H2:Hp}(a:aY H H1)(b:aY H1 H2):aY H H2:=⟨λc u e n=>b.1 c u (a.1 c u e n) n,λc ps e=>let ⟨qs,e1⟩:=a.2 c ps e;b.2 c qs e1⟩
theorem aY.free{l:Addr}(s:aY H H')(h:H' l=none):H l=none:=by
 cases e:H l with
 | none=>rfl
 | some u =>
   by_cases hu:∃ps,u=.dh ps
   .obtain⟨ps,rfl⟩:=hu;obtain⟨qs,e1⟩:=s.2 l ps e;rw[h]at e1;cases e1
   .have e1:=s.1 l u e λps z=>hu ⟨ps,z⟩;rw[h]at e1;cases e1
def nr(H:Hp):Hp:=λb=>match H b with
 | some (.dh _)=>none
 | x=>x
theorem rP{b:Addr}{u:HO}(e:H b=some u)(n:∀ps,u ≠ .dh ps):nr H b=some u:=by
 unfold nr;rw[e];cases u <;> first | rfl | exact q02 rfl (n _)
theorem BB{b:Addr}{u:HO}(e:nr H b=some u):H b=some u/\∀ps,u ≠ .dh ps:=by
 unfold nr at e;split at e
 .cases e
 .rename_i z;refine⟨e,λps w=>?_⟩;subst w;exact z ps e
theorem aY.same(s:aY H H'):ae (nr H) H':=λb u e=>let ⟨h,n⟩:=BB e;s.1 b u h n
variable {K:Frag}
theorem ai.nr{a:Addr}{xs:List V}(h:ai K H a xs):ai K (L2.nr H) a xs:=by
 rcases h with(h | ⟨o,h⟩) | h
 .exact .inl (.inl (rP h λ_ z=>by cases z))
 .exact .inl (.inr ⟨o,rP h λ_ z=>by cases z⟩)
 .exact .inr h
section
variable {X:Cx}{pins:List (Addr×Obj)}{σ:St}{H:Hp}{s:Shared}{E:Value->Shared->Prop}
theorem Inv.lam{P c':Addr}{ps more:Array Value}{h':Heap}{fo:Obj}{q:Str}{tk:Nat}(I:Inv X pins σ H s)(jm:fo.isFreed=false)(hP:H P=some (.dh ps))(hx:Heap.ExtBut P s.heap h')(hc:s.heap.objs.size<=c')(bU:c'<h'.objs.size)
 (fB:h'.CodeRec (.ref c') q) (ht:h'.get? P=some (tabObj (ps++more))) :
 Inv X pins σ (upd (upd (upd H P (.dh (ps++more))) c' (oU c' q)) h'.objs.size (rO h'.objs.size fo)) { s with heap:=h'.push fo,toks:=tk }:=by
 have EL:P<s.heap.objs.size:=I.aJ.lt hP;have L3:P≠c':=ne_of_lt (q21 EL hc);have L4:c'≠h'.objs.size:=ne_of_lt bU;have L5:P≠h'.objs.size:=ne_of_lt (lt_trans (q21 EL hc) bU);have old:∀b,b<s.heap.objs.size->b≠P->upd (upd (upd H P (.dh (ps++more))) c' (oU c' q)) h'.objs.size (rO h'.objs.size fo) b=H b:=λb hb n=>by
  rw[zj (ne_of_lt (lt_trans (q21 hb hc) bU)),zj (ne_of_lt (q21 hb hc)),zj n]
 have EM:upd (upd (upd H P (.dh (ps++more))) c' (oU c' q)) h'.objs.size (rO h'.objs.size fo) P=some (.dh (ps++more)):=by rw[zj L5,zj L3,ze]
 have k:∀b u,b≠P->s.heap.get? b=some u->(h'.push fo).get? b=some u:=λb u n e=>q05 _ (hx b u n e);have nP:∀b u,H b=some u->(∀w,u ≠ .dh w)->b≠P:=λb u e n z=>by rw[z,hP]at e;cases e;exact n _ rfl
 have lM:∀b u,H b=some u->(∀w,u ≠ .dh w)->upd (upd (upd H P (.dh (ps++more))) c' (oU c' q)) h'.objs.size (rO h'.objs.size fo) b=some u:=λb u e n=>by
  rw[old b (I.aJ.lt e) (nP b u e n)];exact e
 refine I.step (g':=s.gens) (d':=s.drawn) (ch:=[]) (λ_ z=>nomatch z) (λb o _ _ _ e n=>k b o (λz=>by rw[z,hP]at n;cases n) e) (λb o _ _ _ e n=>⟨o.slots,k b o (λz=>by rw[z,hP]at n;cases n) e⟩)
  (λb o _ e n=>by rw[old b (lt_size e) (λz=>by rw[z,hP]at n;cases n)];exact n) (λb o _ e=>?_) (λb xs e=>lM b _ e λ_ z=>by cases z) (λb o u e=>lM b _ e λ_ z=>by cases z) (λb w e=>?_) (λm hm=>?_) (λb u e=>?_) I.bare
 .by_cases hb:b=P
  .subst hb;exact⟨_,q05 _ ht⟩
  .exact⟨o,k b o hb e⟩
 .by_cases hb:b=P
  .subst hb;rw[hP]at e;cases e;exact⟨more,EM⟩
  .exact⟨#[],by rw[old b (I.aJ.lt e) hb,e];simp⟩
 .have nL:X.env.locals≠P:=λz=>by have:=I.free;rw[z,hP]at this;cases this
  obtain⟨o,es,ep,ho,r⟩:=hm;exact⟨o,es,ep,k _ o nL ho,r⟩
 .by_cases hf:b=h'.objs.size
  .subst hf;rw[ze]at e;cases e;exact⟨get?_push_size _ jm,⟨fo,get?_push_size _ jm⟩,λh1 h2 a b=>b _ a⟩
  .by_cases jI:b=c'
   .subst jI;rw[zj L4,ze]at e;cases e;obtain⟨c,oc,vs,t,e1,e2,e3,e4⟩:=fB;cases e1;exact⟨⟨b,oc,vs,t,rfl,q05 _ e2,e3,e4⟩,⟨oc,q05 _ e2⟩,λh1 h2 ⟨c,oc,vs,t,e1,e2,e3⟩ q=>by cases e1;exact⟨b,oc,vs,t,rfl,q _ e2,e3⟩⟩
   .by_cases hb:b=P
    .subst hb;rw[EM]at e;cases e;exact q05 _ ht
    .rw[zj hf,zj jI,zj hb]at e;refine(I.aJ b u e).eW (λc v hc q=>k c v ?_ q) (λc w=>lM c _ w λ_ z=>by cases z) λc xs w=>lM c _ w λ_ z=>by cases z
     rcases hc with rfl | hc
     .exact hb
     .exact nP c _ hc λ_ z=>by cases z
end
variable {P:Program}{w:World}{mg:Str->Option Value}{k:Nat}
theorem BC{base:Heap}{f c':Addr}{name qual:Str}{params:Arguments}{body:Expr}{scope:Scope}{pm iN:Value}{N ps:List Str}{sp:Sp}(S:ag N ps scope)
 (len:∀vs H Q E,sp vs H Q E->vs.length=ps.length)
 (has:∀vs H Q E,sp vs H Q E->H f=some (rO f (kla_obj name qual params body scope [] pm c' iN))/\H c'=some (oU c' qual))
 (eY:∀(A:Around)(outer:List Env)(s:Shared)(H:Hp)(vs:List V)(Q:VK)(E:XK),bo k (A.deeper (envOfC qual scope s.heap.objs.size f (.ref c')))->sp vs H Q E ->
   ∃t,PE (gx aX P w K mg base N qual scope f (.ref c') A outer s H E) body t/\t (jK N vs) H Q) :
 ar P w K mg base aX (k+1) f (kla_fn name qual params body scope [] pm (.ref c') iN) ps sp:=by
 refine⟨len,λA outer s H args us vs Q E hr e0 hb r hZ=>?_⟩;have hl:=len _ _ _ _ hZ;obtain⟨a1,a2⟩:=has _ _ _ _ hZ;obtain⟨o1,_⟩:=e0.aJ f _ a1;obtain⟨o2,_⟩:=e0.aJ c' _ a2;have lim:s.heap.NoLimit:=e0.mod.nolimit.keeps λb o e=>(e0.bs b o e).1;have pV:∀y∈ps.zip us,scope.names.lookup y.1=some .local\/(scope.names.lookup y.1=some .cell/\((cellsFrom (s.heap.objs.size+1) scope.names []).lookup y.1).isSome=true):=λ⟨n,v⟩ hy=>by
  rcases S.par n (of_mem_zip hy).1 with q | q
  .exact .inl q
  .exact .inr ⟨q,cellsFrom_some _ _ _ (.inl q)⟩
 refine kla_callFunE hr.depth o1 rfl S.co S.gen rfl o2 (hb _ _ _ _ ?_);refine wpAny_newFunctionEnv_cells S.kind pV λenv he s1 x=>?_;subst he;refine⟨lim.keeps x.toInCall.keep,kla_codeExpr ?_⟩;obtain⟨t,ht,hq⟩:=eY A outer s H vs Q E (hr.deeper _) hZ;have I:Inv (gx aX P w K mg base N qual scope f (.ref c') A outer s H E) [] (jK N vs) H s1:=Rv S hr.hd e0 hl r x;refine wpAny_mono (ht [] s1 (jK N vs) H _ I hq) (λu s' hs=>?_) λe s' hs=>hs;obtain⟨v,H',J,rv,q⟩:=hs;exact⟨v,H',J.os,J.bare,J.base,J.aJ,rv,q⟩
def BD(f c':Addr)(o:Obj)(q:Str):Sp:=λvs H Q _=>H f=some (rO f o)/\H c'=some (oU c' q)/\∃(t:Addr)(x y:V),vs=[.ref t]/\H t=some (.tup [x,y])/\Q x H
theorem ja.get:∀{ts:List Addr}{ps:List (V×V)},ja H ts ps->∀(i:Nat)(t:Addr),ts[i]? = some t->∃p,ps[i]? = some p/\H t=some (.tup [p.1,p.2])
 | _,_,.nil,i,t,e=>by simp at e
 | _,_,.cons h r,0,t,e=>by
   simp at e;subst e;exact⟨_,rfl,h⟩
 | _,_,.cons h r,i+1,t,e=>by
   obtain⟨p,e1,e2⟩:=ja.get r i t (by simpa using e);exact⟨p,by simpa using e1,e2⟩
section
variable {X:Cx}{ex ey:Expr}{t:TA}{c P:Addr}{y:Str}{p1 p2 p3 p4 p5 pos ic EN kp:Pos}{j:Nat}{params:Arguments}{scope:Scope}
end
def wW(K:Frag)(x:Str):Addr:=match tabIn K x with
 | some (_,P)=>P
 | none=>0
structure L6 (K:Frag) (x:Str) (f:Addr):Prop where
 ex:∃c,codeHdIn K c (wW K x)=true/\∃(oc:Value)(od:Option Addr)(fd:FuncData)(i7:Array (Option Value)),K.lookup f=some ⟨oc,od,.func fd,i7⟩/\fd.code=.ref c
def vB(K:Frag)(x:Str):Prop:=(∃c,tabIn K x=some (c,wW K x))/\K.lookup (wW K x)=none
variable {x:Str}{fd:FuncData}
theorem BE{f c P:Addr}{oc o1:Value}{od d1:Option Addr}{i7 s1:Array (Option Value)}{vs:Array Value}(a:nsIn K mainGlobals x=some (some (.ref f)))(l:K.lookup f=some ⟨oc,od,.func fd,i7⟩)(e:fd.code=.ref c)
 (lk:K.lookup c=some ⟨o1,d1,.fields vs,s1⟩) (lv:vs[11]? = some (.ref P)) (lh:codeHdIn K c P=true) (ln:K.lookup P=none):L6 K x f/\vB K x:=by
 have ht:tabIn K x=some (c,P):=by
  unfold tabIn;rw[a];dsimp only;rw[l];dsimp only;rw[e];dsimp only;rw[lk];dsimp only;rw[lv]
 have hp:wW K x=P:=by unfold wW;rw[ht]
 exact⟨⟨c,by rw[hp];exact lh,oc,od,fd,i7,l,e⟩,⟨c,by rw[hp];exact ht⟩,by rw[hp];exact ln⟩
section
variable {P:Program}{w:World}{K:Frag}{mg:Str->Option Value}{base:Heap}
theorem aL.WN{x qual y:Str}{st:Stmt}{f:Addr}{fd:FuncData}{N ps:List Str}{k:Nat}{sp:Sp}(F:aL K x qual st f fd)(L:L6 K y f)(S:ag N ps (zf st))(len:∀vs H Q E,sp vs H Q E->vs.length=ps.length)
 (eY:∀(c:Addr)(A:Around)(outer:List Env)(s:Shared)(H:Hp)(vs:List V)(Q:VK)(E:XK),codeHdIn K c (wW K y)=true->bo k (A.deeper (envOfC qual (zf st) s.heap.objs.size f (.ref c)))->sp vs H Q E ->
   ∃t,jJ (gx aX P w K mg base N qual (zf st) f (.ref c) A outer s H E).Ck (wP st) t/\t { nx:=λ_ H'=>Q .bH H',rt:=Q } (jK N vs) H):ar P w K mg base aX (k+1) f fd ps sp:=by
 obtain⟨oc,od,kV,doc,pm,an,aG,ct,i7,rfl,lk,fB⟩:=F.ex;obtain⟨c,hc,oc',od',fd',WO,Sb,e⟩:=L.ex;rw[lk]at Sb;cases Sb;have e:aG=.ref c:=e;subst e;refine pU lk fB S len λA outer s H vs Q E hr hZ=>?_;obtain⟨t,h,q⟩:=eY c A outer s H vs Q E hc hr hZ;exact⟨t,h.Ck,q⟩
end
theorem nt{mb:Str->Option Value}{CX:oN}{fa a c T:Addr}{sp:Sp}{s₁:Shared}{vs:List Value}{ns:List Int}
 (KX:K.In s₁.heap) (CD:s₁.heap.Ns mainGlobals mg) (hb:s₁.heap.Ns builtinsNs mb) (WQ:∀x:Str,x≠"__name__"->mb x=bootBuiltins x) (L7:s₁.heap.NoLimit) (WR:vA mg s₁.heap) (hg:s₁.gens = #[])
 (hC:CodeHd s₁.heap c T) (hT:s₁.heap.get? T=some (tabObj #[])) (L8:K.lookup T=none)
 (ha:s₁.heap.get? a=some { cls:=.type "list",data:=.seq vs.toArray }) (hi:IntsAre vs ns) (hl:ns.length<=sizeLine) (hr:bo k callerA)
 (F:∀base:Heap,K.In base->base.Ns mainGlobals mg->vA mg base->ar P w K mg base CX k fa fd [x] sp) (rQ:∀(s:Shared)(u:Value),BindsTo s fd ⟨[u],[]⟩ [(x,u)])
 (hZ:∀H:Hp,H T=some (.dh #[])->ai K H a (ns.map V.int)->sp [.ref a] H (λv _=>v=.bl true) λ_ _ _=>False)
 (L9:∀H e s',CX [] H s₁ (λ_ _ _=>False) e s'->False) :
 codeAny (model P w) callerA (.call (.ref fa) ⟨[.ref a],[]⟩) (λr s'=>r=.ok (.ret (.bool true))/\OldK s₁.heap s'.heap/\s'.os=s₁.os/\AllBare s'.gens) s₁:=by
 have rv:=RD hi;have Ma:=hi.length;have Sd:a≠T:=λz=>by rw[z,hT]at ha;cases ha
 have core:∀H:Hp,(∀b,b≠T->H b=none\/∃o xs,H b=some (.mz o (.lst xs)))->H T=some (.dh #[])->ai K H a (ns.map V.int)->dz P w H s₁.heap->(∀b,H b≠none->b=a\/b=T)->(H a≠none->K.lookup a=none) ->
  codeAny (model P w) callerA (.call (.ref fa) ⟨[.ref a],[]⟩) (λr s'=>r=.ok (.ret (.bool true))/\OldK s₁.heap s'.heap/\s'.os=s₁.os/\AllBare s'.gens) s₁:=by
  intro H hO Se hS aJ hA hK;have iO:∀{b:Addr}{o:Obj},s₁.heap.get? b=some o->H b=none->(tU s₁.heap H).get? b=some o:=λe n=>o9 e n;have D4:∀{b:Addr}{o:Obj},s₁.heap.get? b=some o->o.cls ≠ .type "list"->o.cls ≠ .none->H b=none:=λ{b o} e d d2=>by
   cases q:H b with
   | none=>rfl
   | some u =>
     rcases hA b (by rw[q];simp)with e' | e'
     .subst e';rw[ha]at e;cases e;exact q02 rfl d
     .subst e';rw[hT]at e;cases e;exact q02 rfl d2
  have WS:∀{b:Addr}{o:Obj}{es:Array DictEntry}{ep:Nat},s₁.heap.get? b=some o->o.data=.dict es ep->H b=none:=λ{b o es ep} e d=>by
   cases q:H b with
   | none=>rfl
   | some u =>
     rcases hA b (by rw[q];simp)with e' | e'
     .subst e';rw[ha]at e;cases e;have d':Data.seq vs.toArray _=Data.dict es ep:=d;cases d'
     .subst e';rw[hT]at e;cases e;have d':Data.fields #[]=Data.dict es ep:=d;cases d'
  have Hl:∀{b:Addr}{m:Str->Option Value},s₁.heap.Ns b m->(tU s₁.heap H).Ns b m:=λ{b m} ⟨o,es,ep,e,d,r⟩=>⟨o,es,ep,iO e (WS e d),d,r⟩;have Sf:K.In (tU s₁.heap H):=λb o e=>iO (KX b o e) (by
   cases q:H b with
   | none=>rfl
   | some u =>
     rcases hA b (by rw[q];simp)with e' | e'
     .subst e';rw[hK (by rw[q];simp)]at e;cases e
     .subst e';rw[L8]at e;cases e)
  have hM:Mod K mg (tU s₁.heap H):=⟨Sf,Hl CD,⟨mb,Hl hb,WQ⟩,let ⟨mc,h1,h2⟩:=L7;⟨mc,Hl h1,h2⟩⟩;have WT:vA mg (tU s₁.heap H):=let ⟨bm,ob,b1,b2,b3,b4,r⟩:=WR;⟨bm,ob,b1,b2,iO b3 (D4 b3 (by rw[b4];decide) (by rw[b4];intro z;cases z)),b4,r⟩;have e0:g9 P w K mg (tU s₁.heap H) callerA [] s₁ H:=⟨rfl,hM,λb o e=>uI e,le_of_eq (mB _ _),trivial,λb hb=>q02 (show b∈([]:List Addr)from hb) (by simp),aJ,.of_eq hg⟩;refine codeAny_mono ((F _ Sf (Hl CD) WT).run callerA [] s₁ H ⟨[.ref a],[]⟩ [.ref a] [.ref a] _ _ hr e0 (rQ s₁ (.ref a)) (.cons rfl .nil) (hZ H Se hS)) λr s' h=>?_;cases r with
  | error e=>exact(L9 H e s' h).elim
  | ok fl =>
    cases fl with
    | next=>exact False.elim h
    | brk=>exact False.elim h
    | cont=>exact False.elim h
    | ret u =>
      obtain⟨v,H',os,bare,un,mU,r',q⟩:=h;have q':v=.bl true:=q;subst q';obtain rfl:u=Value.bool true:=r';obtain⟨more,eT⟩:=un.cW T #[] Se;have Si:s'.heap.get? T=some (tabObj (#[]++more)):=mU T _ eT;have kept:∀b o,b≠T->s₁.heap.get? b=some o->s'.heap.get? b=some o:=λb o n e=>by
       cases q:H b with
       | none=>exact un.keep b o e q (by intro z;exact q02 (show b∈([]:List Addr)from z) (by simp)) (by simp)
       | some u =>
         rcases hO b n with z | ⟨ob,xs,z⟩
         .rw[q]at z;cases z
         .have z2:=un.cF b ob _ z;obtain⟨e1,_⟩:=aJ b _ z;obtain⟨e2,_⟩:=mU b _ z2;rw[e]at e1;cases e1;exact e2
      refine⟨rfl,⟨λb o e=>?_,λb o e=>?_⟩,os,bare⟩
      .by_cases n:b=T
       .subst n;rw[hT]at e;cases e;exact .inr (.inl ⟨(hC.tab hT).isCodeTable,rfl,#[],more,rfl,Si⟩)
       .exact .inl (kept b o n e)
      .by_cases n:b=T
       .subst n;exact⟨_,Si⟩
       .exact⟨o,kept b o n e⟩
 cases hk:K.lookup a with
 | some o =>
   have e:=KX a o hk;rw[ha]at e;cases e;refine core (λb=>if b=T then some (.dh #[])else none) (λb n=>.inl (q00 n)) (q01 rfl) (.inr ⟨_,vs.toArray,_,hk,rfl,rfl,rfl,by rw[q10,Ma];exact hl,by simpa using rv⟩) (λb u z=>?_) (λb z=>?_) λz=>q02 (q00 Sd) z
   .by_cases hb:b=T
    .have z':=(q01 hb).symm.trans z;cases z';subst hb;exact hT
    .have z':=(q00 hb).symm.trans z;cases z'
   .by_cases hb:b=T
    .exact .inr hb
    .exact q02 (q00 hb) z
 | none =>
   refine core (λb=>if b=a then some (.mz { cls:=.type "list",data:=.seq vs.toArray } (.lst (ns.map V.int)))else if b=T then some (.dh #[])else none) (λb n=>?_) ?_ (.inl (.inr ⟨{ cls:=.type "list",data:=.seq vs.toArray },q01 rfl⟩)) (λb u z=>?_) (λb z=>?_) λ_=>hk
   .by_cases hb:b=a
    .exact .inr ⟨_,_,q01 hb⟩
    .exact .inl ((q00 hb).trans (q00 n))
   .exact(q00 (Ne.symm Sd)).trans (q01 rfl)
   .by_cases hb:b=a
    .have z':=(q01 hb).symm.trans z;cases z';subst hb;exact⟨ha,by rw[q06];exact hl,vs,_,rv,ha⟩
    .have z':=(q00 hb).symm.trans z;by_cases hc:b=T
     .have z2:=(q01 hc).symm.trans z';cases z2;subst hc;exact hT
     .have z2:=(q00 hc).symm.trans z';cases z2
   .by_cases hb:b=a
    .exact .inl hb
    .by_cases hc:b=T
     .exact .inr hc
     .exact q02 ((q00 hb).trans (q00 hc)) z
theorem rR{l:PySem.W.OpenLaw}{n:Nat}{q:Program}{loose:List Str}{XP:(Str->Option Value)->Heap->Prop}{YP:World->Heap->Prop}{d:DefRec}{K:Params->Frag}{CX:World->oN}{sp:World->Sp}{y:Str}
 (hn:l.most=some n) (GV:n<=sizeLine) (Eg:d.params.defaults=[]) (hr:bo k callerA) (kb:∃dd,(recsOf q).find? (λe=>e.name==y)=some dd)
 (hY:∀(w:World)(h:Heap),YP w h->(K w.params).In h)
 (F:∀(w:World)(mg:Str->Option Value)(fa:Addr)(h:Heap),(K w.params).In h->h.Ns mainGlobals mg->mg d.name=some (.ref fa) ->
   vB (K w.params) y/\∃fd:FuncData,(∀(s:Shared)(u:Value),BindsTo s fd ⟨[u],[]⟩ [(x,u)]) /\
    ∀base:Heap,(K w.params).In base->base.Ns mainGlobals mg->vA mg base->ar l.prog w (K w.params) mg base (CX w) k fa fd [x] (sp w))
 (hZ:∀(w:World)(H:Hp)(a:Addr)(ns:List Int),ns.length<=n->H (wW (K w.params) y)=some (.dh #[])->ai (K w.params) H a (ns.map V.int)->sp w [.ref a] H (λv _=>v=.bl true) λ_ _ _=>False)
 (L9:∀(w:World)(H:Hp)(s:Shared)(e:Value)(s':Shared),CX w [] H s (λ_ _ _=>False) e s'->False) :
 PySem.W.WalkO q loose XP YP l.row.toRowW d [] (λf vs=>PySem.call f vs):=by
 refine Att.jl hn Eg λw s₀ s₁ mg mb fa o pm cd doc a vs ns G Y ho hd fB hmg Bc hints hlen hg=>?_;have KX:=hY w _ Y;obtain⟨⟨⟨c,ht⟩,L8⟩,fd,hb,hF⟩:=F w mg fa _ KX G.T.g hmg;obtain⟨dd,kb⟩:=kb;obtain⟨hC,hT⟩:=tab_of G.T KX kb ht;exact nt KX G.T.g G.T.b G.T.builtins G.T.nolimit G.T.bmain hg hC hT L8 Bc hints (q38 hlen GV) hr hF hb (λH hO hS=>hZ w H a ns hlen hO hS) λH e s'=>L9 w H s₁ e s'
structure aU (sc:Scope) (N:List Str) (x x2:Str) (fr:List Str) (ix:List Nat) (scope:Scope):Prop where
 kind:scope.kind=.function
 bV:∀y∈scope.names,y.2 ≠ .cell
 lA:∀y∈scope.names,y.2=.local->scope.names.lookup y.1=some .local
 lx:scope.names.lookup x=some .local
 EO:scope.names.lookup x2=some .local
 free:∀y∈scope.names,y.2=.free->sc.names.lookup y.1=some .cell\/sc.names.lookup y.1=some .free
 at':fr.map some=ix.map λi=>N[i]?
 qi:∀y∈fr,scope.names.lookup y=some .free/\(sc.names.lookup y=some .cell\/sc.names.lookup y=some .free)
 nd:(x::x2::fr).Nodup
def eQ(K:Frag)(J:It)(c:St)(tc:TT)(te:TE)(H1:Hp)(fin:List V->Hp->Prop):Prop :=
 ∃W:Nat->Nat->List V->Hp->Prop,(∃m,W 0 m [] H1)/\∀i m ys H,W i m ys H ->
  (J.stop i H/\ys.length<=sizeLine/\fin ys H) \/
  (J.go i H/\ys.length<sizeLine/\∃N:List V->Hp->Prop,(∀ys' H',N ys' H'->∃m',m'<m/\W (i+1) m' ys' H')/\∀x H',J.uN i H x H'->∃t a b,x=.ref t/\bX K H' t [a,b]/\tc (some a::some b::c) H' λd H2=>if d=true then te (some a::some b::c) H2 λy H3=>N (ys++[y]) H3 else N ys H2)
def rS(K:Frag)(ix:List Nat)(wi:TI)(tc:TT)(te:TE):TE:=λσ H Q=>wi σ H λJ H1=>eQ K J (fQ ix σ) tc te H1 λys H2=>∀l,H2 l=none->Q (.ref l) (upd H2 l (.lst ys))
section
variable {X:Cx}{pins:List (Addr×Obj)}{σ:St}{H:Hp}{s:Shared}{x x2:Str}{fr:List Str}{ix:List Nat}{scope:Scope}{cl:List (Str×Addr)}{fp:List Addr}{C D:Addr}
theorem aU.g(S:aU X.env.scope X.N x x2 fr ix scope):bD X.env.scope X.N [x,x2] fr ix scope:=⟨S.kind,S.bV,S.lA,S.free,S.at',S.qi,S.nd⟩
theorem eQ.g{K:Frag}{J:It}{c:St}{tc:TT}{te:TE}{fin:List V->Hp->Prop}(h:eQ K J c tc te H fin):G3 2 (pE K 2 (mE (iZ 0) (mE (iZ 1) pC))) J c tc te H fin:=by
 obtain⟨W,w,t⟩:=h;refine⟨W,w,λi m ys H hw=>(t i m ys H hw).imp id λ⟨go,l,N,n,st⟩=>⟨go,l,N,n,λx H' y v hv=>?_⟩⟩;obtain⟨t,u0,u1,rfl,q,z⟩:=st x H' y;obtain _ | ⟨b0,v⟩:=v
 .cases hv
 obtain _ | ⟨b1,v⟩:=v
 .cases hv
 obtain _ | ⟨b,v⟩:=v
 .exact⟨t,_,rfl,q,rfl,_,_,rfl,_,_,rfl,rfl,[some u0,some u1],rfl,rfl,rfl,z⟩
 .simp at hv
theorem aU.pg{px nu tp:Pos}{tk:Nat}{s2:Shared}(S:aU X.env.scope X.N x x2 fr ix scope)(hc:X.calm=true):PG (cY X (x::x2::fr) scope cl C s2 H fp) (.Tuple [.Name x px,.Name x2 nu] tk tp) (pE X.K 2 (mE (iZ 0) (mE (iZ 1) pC))):=GN hc (wI (zM S.nd rfl (.inl (lookup_relabel_local S.lx)) (.inr (lookup_relabel_local S.lx))) (wI (zM S.nd rfl (.inl (lookup_relabel_local S.EO)) (.inr (lookup_relabel_local S.EO))) GL))
end
section
variable {X:Cx}{x x2:Str}{fr:List Str}{ix:List Nat}{scope:Scope}{elt iter:Expr}{ifs:List Expr}{px nu tp pos:Pos}{tk:Nat}{wi:TI}{tc:TT}{te:TE}
theorem Mb(S:aU X.env.scope X.N x x2 fr ix scope)(hc:X.calm=true)(hi:PI X (.Tuple [.Name x px,.Name x2 nu] tk tp) iter wi)(j6:∀cl C s2 H2 fp,ud (cY X (x::x2::fr) scope cl C s2 H2 fp) ifs tc)(he:∀cl C s2 H2 fp,PE (cY X (x::x2::fr) scope cl C s2 H2 fp) elt te)
 (hs:∀x,foldedSetIterable iter X.env x=pure x:=by intro _;rfl):PE X (.ListComp elt [⟨.Tuple [.Name x px,.Name x2 nu] tk tp,iter,ifs,0⟩] scope pos) (rS X.K ix wi tc te):=by
 intro pins s σ H Q I h;obtain⟨cl,qw,h1,h2⟩:=Cr (env:=X.env) (scope:=scope) λy hy hf=>I.ok.has y.1 (S.free y hy hf);rw[eval_ListComp];refine wpAny_comprehension_free (use:=none) rfl hs qw S.kind S.lA (aO (hi pins s σ H _ I h) λxv s1 q1=>aO q1 λxp s2 q2=>?_);obtain⟨it,fp,tn,J,H2,rfl,I2,T,iI,f2,wc⟩:=q2;refine Ej S.g (λ_ _ _ _ _=>S.pg hc) hc j6 he h1 h2 I2 T iI f2 wc.g λD C ys H' s' m I' hD hn gR hC qx fin=>?_;refine⟨m,hn,λh' sb=>⟨.ref D,upd H' D (.lst ys),?_,rfl,fin D hD⟩⟩;have dj:fq X pins (upd H' D (.lst ys)) C:=by
  have z:=I2.fV (H':=upd H' D (.lst ys)) hC (by rw[zj (Ne.symm gR)];exact qx);exact z
 exact I'.turned (t':=s'.toks) (it:=C) (λb o hb e=>(sb.2 b hb).trans e) dj.1 dj.2.1 dj.2.2.2.1 dj.2.2.2.2.1 dj.2.2.2.2.2
theorem Sj{i:Nat}{y:Str}{py qy:Pos}(S:aU X.env.scope X.N x x2 fr ix scope)(hc:X.calm=true)(hN:X.N.Nodup)(Lb:X.N[i]? = some y)(hy:Loc X.env.scope y)(hi:PI X (.Tuple [.Name x px,.Name x2 nu] tk tp) iter wi)(j6:∀cl C s2 H2 fp,ud (cY X (x::x2::fr) scope cl C s2 H2 fp) ifs tc)(he:∀cl C s2 H2 fp,PE (cY X (x::x2::fr) scope cl C s2 H2 fp) elt te)
 (Lc:swapsWith (.ListComp elt [⟨.Tuple [.Name x px,.Name x2 nu] tk tp,iter,ifs,0⟩] scope pos) (some (.Name y py)) qy.line X.env=pure true:=by rfl)
 (hf:X.fn y=true\/X.env.scope.names.lookup y=some .local:=by first | exact .inl rfl | exact .inr rfl | assumption)
 (hs:∀x,foldedSetIterable iter X.env x=pure x:=by intro _;rfl) :
 PS X (.Assign [.Name y py] (.ListComp elt [⟨.Tuple [.Name x px,.Name x2 nu] tk tp,iter,ifs,0⟩] scope pos) qy) (uM (rS X.K ix wi tc te) (iZ i)):=by
 intro pins s σ H Dn I h;obtain⟨cl,qw,h1,h2⟩:=Cr (env:=X.env) (scope:=scope) λy hy hf=>I.ok.has y.1 (S.free y hy hf);rw[exec_Assign_Name_used _ _ _ _ Lc];refine q03 (wpAny_standAt (q03 ?_));show wpAny _ X.A (do let _ <-comprehension (.ListComp elt [⟨.Tuple [.Name x px,.Name x2 nu] tk tp,iter,ifs,0⟩] scope pos) scope X.env _ (newList []) false (eval iter X.env) (some (assign (.Name y py) X.env))) _ _ s;refine q03 (aO (Q:=λ_ s'=>SP X pins Dn .next s') ?_ λ_ s' q=>q04 (q04 q));refine wpAny_comprehension_free (use:=some (assign (.Name y py) X.env)) rfl hs qw S.kind S.lA (aO (hi pins s σ H _ I h) λxv s1 q1=>aO q1 λxp s2 q2=>?_);obtain⟨it,fp,tn,J,H2,rfl,I2,T,iI,f2,wc⟩:=q2;refine Ej S.g (λ_ _ _ _ _=>S.pg hc) hc j6 he h1 h2 I2 T iI f2 wc.g λD C ys H' s' m I' hD hn gR hC qx fin=>?_;have dj:fq X pins (upd H' D (.lst ys)) C:=I2.fV (H':=upd H' D (.lst ys)) hC (by rw[zj (Ne.symm gR)];exact qx);show wpAny _ X.A (assign (.Name y py) X.env (.ref D)) _ _ s';refine wpAny_assign_Name (Ki (v:=V.ref D) I' hN Lb hy rfl (λhV Ld ve=>?_) hf);obtain⟨a,sb,ha⟩:=ve;have Le:C≠a:=λz=>by
  rcases ha with q | q
  .exact dj.2.1 (z.trans q)
  .exact dj.2.2.2.2.1 y a q z.symm
 refine⟨m,hn.sameBut sb Le,λh' G5=>⟨_,_,Ld.turned (t':=hV.toks) (it:=C) (λb o hb e=>(G5.2 b hb).trans e) dj.1 dj.2.1 dj.2.2.2.1 dj.2.2.2.2.1 dj.2.2.2.2.2,fin D hD⟩⟩
end
section
variable {X:Cx}{pins:List (Addr×Obj)}{σ:St}{H:Hp}{s:Shared}{h':Heap}{t':Nat}{ch:List Addr}
theorem Inv.rT(I:Inv X pins σ H s)(o:∀c∈ch,fq X pins H c)(k:∀b u,b∉ch->s.heap.get? b=some u->h'.get? b=some u):Inv X pins σ H { s with heap:=h',toks:=t' }:=by
 have kU:∀b u,H b=some u->b∉ch:=λb u e z=>by rw[(o b z).1]at e;cases e
 have nL:X.env.locals∉ch:=λz=>(o _ z).2.1 rfl;refine I.step (g':=s.gens) (d':=s.drawn) (ch:=ch) (λb hb=>⟨(o b hb).2.2.2.1,(o b hb).2.1,(o b hb).2.2.2.2.1,(o b hb).2.2.2.2.2⟩) (λb u _ _ hc e _=>k b u hc e) (λb u _ _ hc e _=>⟨u.slots,k b u hc e⟩)
  (λ_ _ _ _ n=>n) (λb u hc e=>⟨u,k b u hc e⟩) (λ_ _ e=>e) (λ_ _ _ e=>e) (λb ps e=>⟨#[],by rw[e];simp⟩) (λm hm=>?_) (λb u e=>?_) I.bare
 .obtain⟨ob,es,ep,ho,r⟩:=hm;exact⟨ob,es,ep,k _ ob nL ho,r⟩
 .refine(I.aJ b u e).eW (λc v hc q=>k c v ?_ q) (λ_ q=>q) λ_ _ q=>q;rcases hc with z | z
  .rw[z];exact kU b u e
  .exact kU c _ z
theorem Inv.vC{T:Addr}{v:HO}(I:Inv X pins σ H s)(o:∀c∈ch,fq X pins H c)(k:∀b u,b∉ch->s.heap.get? b=some u->h'.get? b=some u)(hT:s.heap.objs.size<=T)(new:bu X.prog X.w (upd H T v) h' T v):
 Inv X pins σ (upd H T v) { s with heap:=h',toks:=t' }:=by
 have hf:H T=none:=I.aJ.fresh hT;have kU:∀b u,H b=some u->b∉ch:=λb u e z=>by rw[(o b z).1]at e;cases e
 have nL:X.env.locals∉ch:=λz=>(o _ z).2.1 rfl;have up:∀b u,H b=some u->upd H T v b=some u:=λb u e=>by rw[zj (zr e hf)];exact e
 refine I.step (g':=s.gens) (d':=s.drawn) (ch:=ch) (λb hb=>⟨(o b hb).2.2.2.1,(o b hb).2.1,(o b hb).2.2.2.2.1,(o b hb).2.2.2.2.2⟩) (λb u _ _ hc e _=>k b u hc e) (λb u _ _ hc e _=>⟨u.slots,k b u hc e⟩)
  (λb u _ e n=>?_) (λb u hc e=>⟨u,k b u hc e⟩) (λb _ e=>up b _ e) (λb _ _ e=>up b _ e) (λb ps e=>⟨#[],by rw[up b _ e];simp⟩) (λm hm=>?_) (λb u e=>?_) I.bare
 .rw[zj (λz=>by rw[z]at e;exact q02 (lt_size e) (Nat.not_lt.mpr hT))];exact n
 .obtain⟨ob,es,ep,ho,r⟩:=hm;exact⟨ob,es,ep,k _ ob nL ho,r⟩
 .by_cases hb:b=T
  .subst hb;rw[ze]at e;cases e;exact new
  .rw[zj hb]at e;refine(I.aJ b u e).eW (λc w hc q=>k c w ?_ q) (λc q=>up c _ q) λc _ q=>up c _ q;rcases hc with z | z
   .rw[z];exact kU b u e
   .exact kU c _ z
end
def BF(K:Frag)(l1 l2:Addr):It :=
 ⟨λi H=>∃xs ys x y,ai K H l1 xs/\ai K H l2 ys/\xs[i]? = some x/\ys[i]? = some y,
  λi H v H'=>∃t x y,v=.ref t/\H t=none/\H'=upd H t (.tup [x,y])/\(∀xs,ai K H l1 xs->xs[i]? = some x)/\∀ys,ai K H l2 ys->ys[i]? = some y,
  λi H=>∃xs ys,ai K H l1 xs/\ai K H l2 ys/\(xs.length<=i\/ys.length<=i)⟩
theorem rV{elts:List Expr}{pos:Pos}{z TI TO i1 i2 l1 l2:Addr}(D:ZipApart z TI TO i1 i2 l1 l2):
 Turn P w K (.Tuple elts k pos) (BF K l1 l2) [z,TI,TO,i1,i2] z (λi h=>IsZip h z TI TO .none/\IsPair h TI (.ref i1) (.ref i2)/\(∃a b,IsPair h TO a b)/\h.IsListIter i1 l1 i/\h.IsListIter i2 l2 i) where
 mem:=by simp
 obj:=λi h st b hb=>by
  obtain⟨a1,a2,⟨_,_,a3⟩,⟨o4,e4,c4,d4⟩,⟨o5,e5,c5,d5⟩⟩:=st;simp only[q27,not_mem_nil,or_false]at hb;rcases hb with rfl | rfl | rfl | rfl | rfl
  .exact⟨_,a1,λv z=>by cases z⟩
  .exact⟨_,a2,λv z=>by cases z⟩
  .exact⟨_,a3,λv z=>by cases z⟩
  .exact⟨_,e4,λv z=>by rw[d4]at z;cases z⟩
  .exact⟨_,e5,λv z=>by rw[d5]at z;cases z⟩
 keep:=λi h h' st k=>by
  obtain⟨a1,a2,⟨a,b,a3⟩,a4,a5⟩:=st;exact⟨k _ (by simp) _ a1,k _ (by simp) _ a2,⟨a,b,k _ (by simp) _ a3⟩,a4.at λo e=>k _ (by simp) o e,a5.at λo e=>k _ (by simp) o e⟩
 item:=by
  intro X hP hw hK hc i pins s σ H E I hf st hg;subst hP hw hK;obtain⟨xs,ys,x,y,q1,q2,hx,hy⟩:=hg;obtain⟨hz,gC,⟨a,b,uo⟩,h1,h2⟩:=st;obtain⟨us,r1,p1,z1⟩:=I.list q1;obtain⟨vs,r2,p2,z2⟩:=I.list q2;obtain⟨u,hu,ru⟩:=r1.get hx;obtain⟨v,hv,rv⟩:=r2.get hy;have L1:TI ∉ [z,TO,i1,i2]:=by simp[D.TIz,D.TITO,D.TIi1,D.TIi2]
  have ff:∀c ∈ [z,TO,i1,i2],fq X pins H c:=λc hc=>hf c (by simp only[q27,not_mem_nil,or_false]at hc ⊢;rcases hc with e | e | e | e <;> simp[e]);refine wpAny_pyNext_zip_item D hz gC uo h1 h2 p1.isList p2.isList (by simpa using hu) (by simpa using hv) λh' a1 a2 a3 a4 a5 a6 hk=>?_;have kk:∀c o,c ∉ [z,TO,i1,i2]->s.heap.get? c=some o->h'.get? c=some o:=λc o hc e=>hk c o (λw=>hc (by simp[w])) (λw=>hc (by simp[w])) (λw=>hc (by simp[w])) (λw=>hc (by simp[w])) e;have I1:Inv X pins σ (upd H s.heap.objs.size (.tup [x,y])) { s with heap:=h' }:=I.vC (t':=s.toks) ff kk (le_refl _) ⟨by show 2<=sizeLine;decide,[u,v],.cons ru (.cons rv .nil),_,a5,rfl,_,rfl⟩;refine⟨_,rfl,wpAny_letOwnedTupleGo_zip a1 λLm WU qS=>?_⟩;have lt:∀c ∈ [z,TI,TO,i1,i2],c≠s.heap.objs.size:=λc hc=>by
   have:∃o,s.heap.get? c=some o:=by
    simp only[q27,not_mem_nil,or_false]at hc;rcases hc with rfl | rfl | rfl | rfl | rfl
    .exact⟨_,hz⟩
    .exact⟨_,gC⟩
    .exact⟨_,uo⟩
    .obtain⟨o,e,_⟩:=h1;exact⟨o,e⟩
    .obtain⟨o,e,_⟩:=h2;exact⟨o,e⟩
   obtain⟨o,e⟩:=this;exact ne_of_lt (lt_size e)
  have fz:fq X pins (upd H s.heap.objs.size (.tup [x,y])) z:=by
   obtain⟨f0,f1⟩:=hf z (by simp);exact⟨by rw[zj (lt z (by simp))];exact f0,f1⟩
  have I2:Inv X pins σ (upd H s.heap.objs.size (.tup [x,y])) { s with heap:=Lm }:=Inv.rT (s:={ s with heap:=h' }) (t':=s.toks) (ch:=[z]) I1 (λc hc=>by rw[List.mem_singleton.mp hc];exact fz) λc o hc e=>qS.extBut c o (λw=>hc (by simp[w])) e;refine⟨.ref s.heap.objs.size,_,I2,rfl,⟨_,x,y,rfl,I.aJ.fresh (le_refl _),rfl,λxs' q=>?_,λys' q=>?_⟩,⟨WU,qS.extBut _ _ D.TIz (kk _ _ L1 gC),⟨_,_,qS.extBut _ _ D.TOz a2⟩,a3.extBut qS.extBut D.i1z,a4.extBut qS.extBut D.i2z⟩,λc hc=>?_⟩
  .rw[I.gs q q1];exact hx
  .rw[I.gs q q2];exact hy
  .rw[zj (lt c hc)];exact(hf c hc).1
 done:=by
  intro X hP hw hK hc i pins s σ H E I hf st hg;subst hP hw hK;obtain⟨xs,ys,q1,q2,Mc⟩:=hg;obtain⟨hz,gC,⟨a,b,uo⟩,h1,h2⟩:=st;obtain⟨us,r1,p1,z1⟩:=I.list q1;obtain⟨vs,r2,p2,z2⟩:=I.list q2;have l1':=r1.length;have l2':=r2.length;have ff:∀c ∈ [z,TO,i1,i2],fq X pins H c:=λc hc=>hf c (by simp only[q27,not_mem_nil,or_false]at hc ⊢;rcases hc with e | e | e | e <;> simp[e]);refine wpAny_pyNext_zip_end (I.ok.hd hc) D hz gC uo h1 h2 p1.isList p2.isList ?_ λh' hk=>⟨rfl,I.rT (t':=s.toks) ff λc o hc e=>hk c o (λw=>hc (by simp[w])) (λw=>hc (by simp[w])) (λw=>hc (by simp[w])) (λw=>hc (by simp[w])) e⟩;rcases Mc with h | h
  .exact .inl (by simp;lia)
  .exact .inr (by simp;lia)
 self:=λ_ _ _ _ _ st h=>wpAny_pyIter_zip st.1 h
inductive xY (K:Frag)(vs:List V)(H1:Hp)(R:It->Hp->Prop):Prop|mk(l1:_)(l2:_)(xs:_)(ys:_):vs=[.ref l1,.ref l2]->ai K H1 l1 xs->ai K H1 l2 ys->R (BF K l1 l2) H1->xY K vs H1 R
def Me(K:Frag)(ta:TA):TI:=λσ H R=>ta σ H λvs H1=>xY K vs H1 R
section
variable {X:Cx}{ex ey:Expr}{t:TA}{p pos tp:Pos}{elts:List Expr}{tk:Nat}
theorem rW(hg:Gl X "zip")(hm:X.mg "zip"=none)(ha:PA X [ex,ey] t)(he:starEach [ex,ey] X.env=(false,eval ex X.env)::starEach [ey] X.env:=by rfl)(hpl:(backTo pos (starEach [ey] X.env)).any (·.1)=false:=by rfl):
 PI X (.Tuple elts tk tp) (.Call (.Name "zip" p) [ex,ey] [] pos) (Me X.K t):=by
 intro pins s σ H R I h;refine wpAny_Call_Name_kw (tX I hg hm boot_zip ?_ (by decide) (by decide));refine callWith_type1 (aO (ha pos pins s σ H _ I h) λus s1 hh=>?_) he hpl;obtain⟨vs,H1,I1,r1,l1,l2,xs,ys,rfl,q1,q2,q⟩:=hh;cases r1 with
 | cons e1 r=>cases r with
   | cons e2 r =>
     cases r;cases e1;cases e2;obtain⟨us,r1,p1,_⟩:=I1.list q1;obtain⟨ws,r2,p2,_⟩:=I1.list q2;have b1:=p1.isList;have b2:=p2.isList;have t1:l1<s1.heap.objs.size:=by obtain⟨u,hu,_⟩:=b1;exact lt_size hu
     have t2:l2<s1.heap.objs.size:=by obtain⟨u,hu,_⟩:=b2;exact lt_size hu
     refine call_zip_2 b1 b2 λh' hz gC uo gS ui hsz hk=>?_;have n:∀(l:Addr)(d:Nat),l<s1.heap.objs.size->l≠s1.heap.objs.size+d:=λl d h=>ne_of_lt (q21 h (le_add_right _ _));have m:∀d e:Nat,d≠e->s1.heap.objs.size+d≠s1.heap.objs.size+e:=λd e h w=>h (Nat.add_left_cancel w);refine wpAny_pyIter_zip hz ?_;refine⟨s1.heap.objs.size+4,[s1.heap.objs.size+4,s1.heap.objs.size+2,s1.heap.objs.size+3,s1.heap.objs.size+0,s1.heap.objs.size+1],_,BF X.K l1 l2,H1,rfl,I1.kept (t':=s1.toks) hk,
      rV (i1:=s1.heap.objs.size+0) (i2:=s1.heap.objs.size+1) (TI:=s1.heap.objs.size+2) (TO:=s1.heap.objs.size+3) (l1:=l1) (l2:=l2) ⟨m 2 4 (by decide),m 3 4 (by decide),m 0 4 (by decide),m 1 4 (by decide),m 2 3 (by decide),m 2 0 (by decide),m 2 1 (by decide),m 3 0 (by decide),m 3 1 (by decide),m 0 1 (by decide),n _ 4 t1,n _ 3 t1,n _ 0 t1,n _ 1 t1,n _ 4 t2,n _ 3 t2,n _ 0 t2,n _ 1 t2⟩,
      ⟨hz,gC,⟨_,_,uo⟩,gS,ui⟩,λb hb=>?_,q⟩
     have uf:∃d,b=s1.heap.objs.size+d:=by
      simp only[q27,not_mem_nil,or_false]at hb;rcases hb with w | w | w | w | w
      .exact⟨4,w⟩
      .exact⟨2,w⟩
      .exact⟨3,w⟩
      .exact⟨0,w⟩
      .exact⟨1,w⟩
     obtain⟨d,rfl⟩:=uf;exact I1.fV (le_add_right _ _) (I1.aJ.fresh (le_add_right _ _))
end
theorem vD{l1 l2:Addr}{xs ys:List V}{g:TG}{tb:TS}{D:Ends}{σ:St}(Pv:Nat->St->Hp->Prop)(h0:Pv 0 σ H)(hl:∀i σ H,i<=min xs.length ys.length->Pv i σ H->ai K H l1 xs/\ai K H l2 ys)
 (hs:∀i x y t σ H,xs[i]? = some x->ys[i]? = some y->H t=none->Pv i σ H->g (.ref t) σ (upd H t (.tup [x,y])) λσ2 H2=>tb { D with nx:=Pv (i+1),ct:=Pv (i+1),bk:=D.nx } σ2 H2) (hd:∀σ H,Pv (min xs.length ys.length) σ H->D.nx σ H) :
 ∃W:Nat->Nat->St->Hp->Prop,(∃m,W 0 m σ H)/\∀i m σ H,W i m σ H ->
  ((BF K l1 l2).stop i H/\D.nx σ H)\/((BF K l1 l2).go i H/\∃N:St->Hp->Prop,(∀σ' H',N σ' H'->∃m',m'<m/\W (i+1) m' σ' H')/\∀x H',(BF K l1 l2).uN i H x H'->g x σ H' λσ2 H2=>tb { D with nx:=N,ct:=N,bk:=D.nx } σ2 H2):=by
 refine⟨λi m σ H=>m=min xs.length ys.length-i/\i<=min xs.length ys.length/\Pv i σ H,⟨min xs.length ys.length,by simp,zero_le _,h0⟩,?_⟩;rintro i m σ H ⟨rfl,hi,p⟩;obtain⟨q1,q2⟩:=hl i σ H hi p;by_cases bU:i<min xs.length ys.length
 .have h1:i<xs.length:=by lia
  have h2:i<ys.length:=by lia
  refine .inr ⟨⟨xs,ys,xs[i],ys[i],q1,q2,by simp[h1],by simp[h2]⟩,Pv (i+1),λσ' H' p'=>⟨min xs.length ys.length-(i+1),by lia,rfl,bU,p'⟩,λv H' y=>?_⟩;obtain⟨t,x,y,rfl,hn,rfl,e1,e2⟩:=y;exact hs i x y t σ _ (e1 xs q1) (e2 ys q2) hn p
 .have e:i=min xs.length ys.length:=by lia
  subst e;exact .inl ⟨⟨xs,ys,q1,q2,by lia⟩,hd σ H p⟩
end L2
namespace L2
open PySem PySem.W PySem.Spec PyProof.Rows
variable {fin:List V->Hp->Prop}
theorem kd{K:Frag}{a:Addr}{xs:List V}{c:St}{tc:TT}{te:TE}{H:Hp}(Pv:Nat->List V->Hp->Prop)(h0:Pv 0 [] H)(hl:∀i ys H,i<=xs.length->Pv i ys H->ai K H a xs/\ys.length<=i)(hz:xs.length<=sizeLine)
 (hs:∀i x ys H,xs[i]? = some x->Pv i ys H->∃t u v,x=.ref t/\bX K H t [u,v]/\tc (some u::some v::c) H λb H2=>if b=true then te (some u::some v::c) H2 λy H3=>Pv (i+1) (ys++[y]) H3 else Pv (i+1) ys H2) (hd:∀ys H,Pv xs.length ys H->fin ys H):eQ K (i5 K a) c tc te H fin:=by
 refine⟨λi m ys H=>m=xs.length-i/\i<=xs.length/\Pv i ys H,⟨xs.length,by simp,zero_le _,h0⟩,?_⟩;rintro i m ys H ⟨rfl,hi,p⟩;obtain⟨q,hy⟩:=hl i ys H hi p;by_cases bU:i<xs.length
 .refine .inr ⟨⟨xs,xs[i],q,by simp[bU]⟩,by lia,λys' H'=>Pv (i+1) ys' H',λys' H' p'=>⟨xs.length-(i+1),by lia,rfl,bU,p'⟩,λx H' y=>?_⟩;obtain⟨e,y⟩:=y;subst e;exact hs i x ys _ (y xs q) p
 .have e:i=xs.length:=by lia
  subst e;exact .inl ⟨⟨xs,q,le_refl _⟩,by lia,hd ys H p⟩
theorem Sk{K:Frag}{a:Addr}{xs:List V}{c:St}{te:TE}{H:Hp}(Pv:Nat->List V->Hp->Prop)(h0:Pv 0 [] H)(hl:∀i ys H,i<=xs.length->Pv i ys H->ai K H a xs/\ys.length<=i)(hz:xs.length<=sizeLine)
 (hs:∀i x ys H,xs[i]? = some x->Pv i ys H->∃t u v,x=.ref t/\bX K H t [u,v]/\te (some u::some v::c) H λy H3=>Pv (i+1) (ys++[y]) H3) (hd:∀ys H,Pv xs.length ys H->fin ys H):eQ K (i5 K a) c ue te H fin :=
 kd Pv h0 hl hz (λi x ys H e p=>let ⟨t,u,v,e1,e2,h⟩:=hs i x ys H e p;⟨t,u,v,e1,e2,oP (B:=Pv (i+1) ys H) h⟩) hd
end L2
namespace L2
open PySem PySem.W PySem.Spec PyProof.Rows PySem.Calls
def bC(P:Addr)(q:Str)(H:Hp):Prop:=∃ps,H P=some (.dh ps)/\TriplesOk ps.toList/\∀pos cv,codeAmong pos ps.toList=some cv->∃c',cv=.ref c'/\H c'=some (oU c' q)
theorem bC.new{P:Addr}{q:Str}{H:Hp}(h:H P=some (.dh #[])):bC P q H:=⟨#[],h,trivial,λpos cv e=>by simp[codeAmong]at e⟩
theorem bC.same{P:Addr}{q:Str}{H H':Hp}(h:bC P q H)(s:ae H H'):bC P q H':=by
 obtain⟨ps,h1,h2,h3⟩:=h;exact⟨ps,s _ _ h1,h2,λpos cv e=>let ⟨c',e1,e2⟩:=h3 pos cv e;⟨c',e1,s _ _ e2⟩⟩
def fU:Str:=Str.ofString "by_place" ++ ".<locals>." ++ "<lambda>"
theorem WV{pos:Pos}{a b:Int}{c x:Value}:∀(l:List Value),TriplesOk l->codeAmong pos (l++[rawInt a,rawInt b,c])=some x->codeAmong pos l=some x\/x=c:=by
 intro l h e
 fun_induction TriplesOk l with
 | case1 =>
   simp only[nil_append,codeAmong,rawInt]at e;split at e
   .cases e;exact .inr rfl
   .cases e
 | case2 a' t b' u y je ih =>
   simp only[cons_append,codeAmong]at e ⊢;split at e
   .rename_i hc;rw[q01 hc];exact .inl e
   .rename_i hc;rw[q00 hc];exact ih h e
 | case3=>exact h.elim
section
variable {X:Cx}{pins:List (Addr×Obj)}{σ:St}{H:Hp}{s:Shared}{E:Value->Shared->Prop}
theorem ny{params:Arguments}{body:Expr}{scope:Scope}{pos:Pos}{c P:Addr}{Q:Value->Shared->Prop}(I:Inv X pins σ H s)(hL:bC P (X.env.qual ++ "<lambda>") H)(lN:X.env.code=.ref c)(C:CodeHd X.base c P)(B:vA X.mg X.base)
 (vE:defaultsOf params X.env=([],[])) (fT:closureFor scope X.env=pure [])
 (q:∀(f c':Addr)(pm iN:Value)(H3:Hp)(s':Shared),(∀b u,b≠P->s.heap.get? b=some u->s'.heap.get? b=some u)->s.heap.objs.size<=s'.heap.objs.size ->
   (∀a,a<s.heap.objs.size->a≠P->H3 a=H a)->H3 f=some (rO f (kla_obj "<lambda>" (X.env.qual ++ "<lambda>") params body scope [] pm c' iN))->H3 c'=some (oU c' (X.env.qual ++ "<lambda>"))->aY H H3->bC P (X.env.qual ++ "<lambda>") H3->Inv X pins σ H3 s'->Q (.ref f) s') :
 wpAny (model X.prog X.w) X.A (eval (.Lambda params body scope pos) X.env) Q E s:=by
 obtain⟨ps,hP,ht,hh⟩:=hL;have hb:∀b o,X.base.get? b=some o->b≠P:=λb o e z=>by have:=(I.bs b o e).2;rw[z,hP]at this;cases this
 have Hm:s.heap.get? P=some (tabObj ps):=I.aJ P _ hP;have EL:P<s.heap.objs.size:=I.aJ.lt hP;obtain⟨bm,ob,b1,b2,b3,b4,b5,b6⟩:=B;have hG:mainGlobals≠P:=by obtain⟨o,_,_,e,_⟩:=I.mod.glob;exact hb _ o e
 have Sl:bm≠mainGlobals:=λz=>by
  obtain⟨o,es,ep,e,hd,_⟩:=I.mod.glob;rw[z,e]at b3;cases b3;rw[hd]at b6;cases b6
 cases hA:codeAmong pos ps.toList with
 | none =>
   refine kla_eval vE (kla_makeFunction (ps:=ps) (mg:=X.mg) fT I.ok.glob (I.mod.glob.keeps I.bk) lN (C.keeps I.bk) Hm ht hA hG ⟨bm,ob,b1,b2,Sl,hb _ _ b3,I.bk _ _ b3,b4,b5,b6⟩ λc' iN h' tk hx CG bU kb WW=>?_);have J:=I.lam (tk:=tk) (fo:=kla_obj "<lambda>" (X.env.qual ++ "<lambda>") params body scope [] ((X.mg "__name__").getD .none) c' iN) rfl hP hx CG bU kb WW;have L3:P≠c':=ne_of_lt (q21 EL CG);have L4:c'≠h'.objs.size:=ne_of_lt bU;have L5:P≠h'.objs.size:=ne_of_lt (lt_trans (q21 EL CG) bU);have old:∀a,a<s.heap.objs.size->a≠P->(upd (upd (upd H P (.dh (ps ++ #[rawInt ↑pos.line,rawInt ↑pos.col,Value.ref c']))) c' (oU c' (X.env.qual ++ "<lambda>"))) h'.objs.size (rO h'.objs.size (kla_obj "<lambda>" (X.env.qual ++ "<lambda>") params body scope [] ((X.mg "__name__").getD .none) c' iN))) a=H a:=λa h1 h2=>by
    rw[zj (ne_of_lt (lt_trans (q21 h1 CG) bU)),zj (ne_of_lt (q21 h1 CG)),zj h2]
   have EM:(upd (upd (upd H P (.dh (ps ++ #[rawInt ↑pos.line,rawInt ↑pos.col,Value.ref c']))) c' (oU c' (X.env.qual ++ "<lambda>"))) h'.objs.size (rO h'.objs.size (kla_obj "<lambda>" (X.env.qual ++ "<lambda>") params body scope [] ((X.mg "__name__").getD .none) c' iN))) P=some (.dh (ps ++ #[rawInt ↑pos.line,rawInt ↑pos.col,Value.ref c'])):=by rw[zj L5,zj L3,ze]
   have ph:(upd (upd (upd H P (.dh (ps ++ #[rawInt ↑pos.line,rawInt ↑pos.col,Value.ref c']))) c' (oU c' (X.env.qual ++ "<lambda>"))) h'.objs.size (rO h'.objs.size (kla_obj "<lambda>" (X.env.qual ++ "<lambda>") params body scope [] ((X.mg "__name__").getD .none) c' iN))) c'=some (oU c' (X.env.qual ++ "<lambda>")):=by rw[zj L4,ze]
   refine q h'.objs.size c' ((X.mg "__name__").getD .none) iN _ _ (λb u n e=>q05 _ (hx b u n e)) ?_ old ze ph ⟨λb u e n=>?_,λb qs e=>?_⟩ ⟨_,EM,?_,λpos' cv e=>?_⟩ J
   .show s.heap.objs.size<=(h'.push _).objs.size;rw[size_push];exact le_of_lt (Nat.lt_of_le_of_lt CG (lt_succ_of_lt bU))
   .rw[old b (I.aJ.lt e) (λw=>by rw[w,hP]at e;cases e;exact n _ rfl)];exact e
   .by_cases hb:b=P
    .subst hb;exact⟨_,EM⟩
    .exact⟨qs,by rw[old b (I.aJ.lt e) hb];exact e⟩
   .rw[Array.toList_append];exact TriplesOk_snoc _ _ _ _ ht
   .rw[Array.toList_append]at e;rcases WV _ ht e with e | rfl
    .obtain⟨c2,e1,e2⟩:=hh pos' cv e;exact⟨c2,e1,by rw[old c2 (I.aJ.lt e2) (λw=>by rw[w,hP]at e2;cases e2)];exact e2⟩
    .exact⟨c',rfl,ph⟩
 | some cv =>
   obtain⟨c',rfl,ph⟩:=hh pos cv hA;refine kla_eval vE (kla_makeFunctionHit (ps:=ps) (mg:=X.mg) fT I.ok.glob (I.mod.glob.keeps I.bk) lN (C.keeps I.bk) Hm ht hA ⟨bm,ob,b1,b2,Sl,hb _ _ b3,I.bk _ _ b3,b4,b5,b6⟩ λiN h' tk hk hsz=>?_);have hn:H h'.objs.size=none:=I.aJ.fresh hsz;have J:Inv X pins σ (upd H h'.objs.size (rO h'.objs.size (kla_obj "<lambda>" (X.env.qual ++ "<lambda>") params body scope [] ((X.mg "__name__").getD .none) c' iN))) { s with heap:=h'.push (kla_obj "<lambda>" (X.env.qual ++ "<lambda>") params body scope [] ((X.mg "__name__").getD .none) c' iN),toks:=tk } :=
    I.laid (t':=tk) (λb u e=>q05 _ (hk b u e)) hsz ⟨get?_push_size _ rfl,⟨_,get?_push_size _ rfl⟩,λh1 h2 a b=>b _ a⟩
   refine q h'.objs.size c' ((X.mg "__name__").getD .none) iN _ _ (λb u n e=>q05 _ (hk b u e)) ?_ (λa h1 h2=>zj (ne_of_lt (q21 h1 hsz))) ze ((ae.new hn) _ _ ph) (ae.new hn).toN (bC.same ⟨ps,hP,ht,hh⟩ (ae.new hn)) J;show s.heap.objs.size<=(h'.push _).objs.size;rw[size_push];exact Nat.le_succ_of_le hsz
end
def Mf(K:Frag)(P:Addr)(qq:Str)(t:TA):TE:=λσ H Q=>t σ H λvs H1=>∃(l1 l2:Addr)(xs:List Int)(yv:List V),vs=[.ref l1,.ref l2]/\ai K H1 l1 (xs.map V.int)/\ai K H1 l2 yv/\xs.length=yv.length/\0<xs.length/\xs.length<64/\bC P qq H1 /\
 ∀(H2:Hp)(ts:List Addr)(l:Addr)(p:Array Nat),aY H1 H2->bC P qq H2->ja H2 ts ((xs.map V.int).zip yv)->H2 l=none->M14.I (λk=>xs.getD k 0) xs.length p xs.length->Q (.ref l) (upd H2 l (.lst (p.toList.map λi=>V.ref (ts.getD i 0))))
section
variable {X:Cx}{ex ey:Expr}{t:TA}{c P:Addr}{y:Str}{p1 p2 p3 p4 p5 pos ic EN kp:Pos}{j:Nat}{params:Arguments}{scope:Scope}
theorem nz{qq:Str}(WX:X.env.qual ++ "<lambda>"=qq)(hr:bo 3 X.A)(Hn:Gl X "sorted")(WY:X.mg "sorted"=none)(LR:Gl X "zip")(LS:X.mg "zip"=none)(lN:X.env.code=.ref c)(C:codeHdIn X.K c P=true)(B:vA X.mg X.base)(S:ag [y] [y] scope)
 (hy:scope.names.lookup y=some .local) (ji:(y==("__debug__":Str))=false) (ER:(y==("__classdict__":Str))=false)
 (vE:defaultsOf params X.env=([],[])) (fT:closureFor scope X.env=pure [])
 (rQ:∀(q:Str)(pm cv iN u:Value)(b:Expr),bindArgs (kla_fn "<lambda>" q params b scope [] pm cv iN) ⟨[u],[]⟩=pure [(y,u)])
 (ha:PA X [ex,ey] t) (he:starEach [ex,ey] X.env=(false,eval ex X.env)::starEach [ey] X.env:=by rfl) (hpl:(backTo ic (starEach [ey] X.env)).any (·.1)=false:=by rfl) :
 PE X (.Call (.Name "sorted" p1) [.Call (.Name "zip" p2) [ex,ey] [] ic] [⟨some "key",.Lambda params (.Subscript (.Name y p3) (.Constant (.int 0) j p4) p5) scope EN,kp⟩] pos) (Mf X.K P qq t):=by
 intro pins s σ H Q I h;refine wpAny_Call_Name_kw (tX I Hn WY boot_sorted ?_ (by decide) (by decide));refine callWith_kw ?_;refine Calls.spliced_cons ?_;refine wpAny_Call_Name_kw (tX I LR LS boot_zip ?_ (by decide) (by decide));refine callWith_type1 (aO (ha ic pins s σ H _ I h) λus s1 hh=>?_) he hpl;obtain⟨vs,H1,I1,r1,l1,l2,xs,yv,rfl,q1,q2,hl,h0,Hk,hP,q⟩:=hh;obtain⟨u1,u2,rfl⟩:∃u1 u2,us=[u1,u2]:=by
  cases r1 with
  | cons _ r=>cases r with
    | cons _ r=>cases r with
      | nil=>exact⟨_,_,rfl⟩
 cases r1 with
 | cons e1 r=>cases r with
   | cons e2 r =>
     cases (show u1=Value.ref l1 from e1);cases (show u2=Value.ref l2 from e2);refine rN I1 q1 q2 λs2 z TI TO i1 i2 WZ W0 rx ry I2 D o st=>?_;refine Calls.spliced_nil ?_;refine kws_cons ?_;subst WX;refine ny (c:=c) (P:=P) I2 hP lN (codeHd_of_K I2.mod.xj C) B vE fT λf c' pm iN H3 s3 k hsz old hf ph sn W2 I3=>?_;refine kws_nil ?_;obtain⟨ps,hP,_⟩:=hP;have Hm:s2.heap.get? P=some (tabObj ps):=I2.aJ P _ hP;have nO:∀a ∈ [z,TO,i1,i2],a≠P:=λa ha w=>by have:=(o a ha).1.free;rw[w,hP]at this;cases this
     have nX:∀(a:Addr)(u:Obj),s2.heap.get? a=some u->u.cls ≠ .none->a≠P:=λa u e n w=>by rw[w,Hm]at e;cases e;exact n rfl
     obtain⟨a1,a2,a3,a4,a5,a6⟩:=st;obtain⟨b1,ba,bb,b2⟩:IsZip s2.heap z TI TO .none/\∃a b,IsPair s2.heap TO a b:=by
      rcases a6 with⟨_,w⟩|⟨w,_⟩
      .exact w
      .exact q02 w (q37 _)
     have tY:um z TI TO i1 i2 l1 l2 WZ.toArray W0.toArray 0 s3:=by
      refine⟨k _ _ (nX _ _ a1 (by intro w;cases w)) a1,a2.at λu e=>k _ u (nO _ (by simp)) e,a3.at λu e=>k _ u (nO _ (by simp)) e,a4.at λu e=>k _ u ?_ e,a5.at λu e=>k _ u ?_ e,.inl ⟨rfl,k _ _ (nO _ (by simp)) b1,ba,bb,k _ _ (nO _ (by simp)) b2⟩⟩
      .obtain⟨u',e',hc,_⟩:=a4;exact nX _ _ e' (by rw[hc];intro w;cases w)
      .obtain⟨u',e',hc,_⟩:=a5;exact nX _ _ e' (by rw[hc];intro w;cases w)
     have o3:∀a ∈ [z,TO,i1,i2],Own X pins H3 a/\a<s3.heap.objs.size:=λa ha=>by
      obtain⟨oa,la⟩:=o a ha;exact⟨⟨by rw[old a la (nO a ha)];exact oa.free,oa.loc,oa.new,oa.cell,oa.pin,oa.fs⟩,q21 la hsz⟩
     have lx:(xs.map V.int).length=xs.length:=q06 _;have F:ar X.prog X.w X.K X.mg X.base aX 1 f (kla_fn "<lambda>" (X.env.qual ++ "<lambda>") params (.Subscript (.Name y p3) (.Constant (.int 0) j p4) p5) scope [] pm (.ref c') iN) [y] (BD f c' (kla_obj "<lambda>" (X.env.qual ++ "<lambda>") params (.Subscript (.Name y p3) (.Constant (.int 0) j p4) p5) scope [] pm c' iN) (X.env.qual ++ "<lambda>")):=by
      refine BC S (λvs H Q E h=>?_) (λvs H Q E h=>⟨h.1,h.2.1⟩) λA outer s H vs Q E hr h=>?_
      .obtain⟨_,_,t,x,y',rfl,_⟩:=h;rfl
      .obtain⟨_,_,t,x,y',rfl,ht,hq⟩:=h;exact⟨_,zB oO (pk (i:=0) rfl (.inl hy) ji ER) zg (λ_ _=>rfl),⟨_,rfl,t,[x,y'],0,x,rfl,rfl,.inl (.inl ht),rfl,hq⟩⟩
     show wpAny (model X.prog X.w) X.A (call (.builtin "sorted") [.ref z] [(Str.ofString "key",.ref f)]) _ _ s3;refine WM (kz:=xs) (xv:=xs.map V.int) (yv:=yv) (q:=f) hr.hd D rx ry (by rw[lx];exact hl) (by rw[lx];exact Hk) (by rw[lx];exact h0) lx.symm I3 o3 tY (λH4 ts s4 pr i v pins' s5 hv I5=>?_) λs4 H4 ts l p sm pr hn hi I4=>?_
     .rw[q26]at hv;cases et:ts[i]? with
      | none=>rw[et]at hv;cases hv
      | some a =>
        rw[et]at hv;cases hv;obtain⟨⟨pa,pb⟩,ep,ha⟩:=pr.get i a et;have W3:pa=.int (xs.getD i 0):=by
         rw[List.getElem?_zip_eq_some]at ep;obtain⟨ep,_⟩:=ep;rw[q26]at ep;rw[q18];cases ex:xs[i]? with
         | none=>rw[ex]at ep;cases ep
         | some x=>rw[ex]at ep;cases ep;rfl
        subst W3;refine wpAny_call (codeAny_mono (F.run X.A.in1.in1 X.stack s5 H4 ⟨[.ref a],[]⟩ [.ref a] [.ref a] (λx H'=>x=.int (xs.getD i 0)/\H'=H4) E0 hr.in1.in1 I5.uW.in1.in1 (.of_eq (rQ _ _ _ _ _ _)) (.cons rfl .nil) ⟨s4 _ _ hf,s4 _ _ ph,a,_,_,rfl,ha,rfl,rfl⟩) λr s6 hq=>?_);cases r with
        | error e=>exact hq
        | ok fl =>
          cases fl with
          | next=>exact False.elim hq
          | brk=>exact False.elim hq
          | cont=>exact False.elim hq
          | ret u =>
            obtain⟨v,H',I6,rv,rfl,rfl⟩:=I5.after hq;obtain⟨tk,rfl⟩:=rv;exact⟨I6,tk,rfl⟩
     .rw[lx]at hi;exact⟨.ref l,_,I4,rfl,q H4 ts l p (sn.trans sm.toN) (W2.same sm) pr hn hi⟩
end
theorem nA{K:Frag}{l1 l2:Addr}{xs ys:List V}{c:St}{tc:TT}{te:TE}{H:Hp}{fin:List V->Hp->Prop}(Pv:Nat->List V->Hp->Prop)(h0:Pv 0 [] H)(hl:∀i zs H,i<=min xs.length ys.length->Pv i zs H->ai K H l1 xs/\ai K H l2 ys/\zs.length<=i)(hz:min xs.length ys.length<=sizeLine)
 (hs:∀i x y t zs H,xs[i]? = some x->ys[i]? = some y->H t=none->Pv i zs H->tc (some x::some y::c) (upd H t (.tup [x,y])) λb H2=>if b=true then te (some x::some y::c) H2 λz H3=>Pv (i+1) (zs++[z]) H3 else Pv (i+1) zs H2) (hd:∀zs H,Pv (min xs.length ys.length) zs H->fin zs H):eQ K (BF K l1 l2) c tc te H fin:=by
 refine⟨λi m zs H=>m=min xs.length ys.length-i/\i<=min xs.length ys.length/\Pv i zs H,⟨min xs.length ys.length,by simp,zero_le _,h0⟩,?_⟩;rintro i m zs H ⟨rfl,hi,p⟩;obtain⟨q1,q2,hy⟩:=hl i zs H hi p;by_cases bU:i<min xs.length ys.length
 .have h1:i<xs.length:=by lia
  have h2:i<ys.length:=by lia
  refine .inr ⟨⟨xs,ys,xs[i],ys[i],q1,q2,by simp[h1],by simp[h2]⟩,by lia,Pv (i+1),λzs' H' p'=>⟨min xs.length ys.length-(i+1),by lia,rfl,bU,p'⟩,λv H' y=>?_⟩;obtain⟨t,x,y,rfl,hn,rfl,e1,e2⟩:=y;exact⟨t,x,y,rfl,.inl (.inl ze),hs i x y t zs _ (e1 xs q1) (e2 ys q2) hn p⟩
 .have e:i=min xs.length ys.length:=by lia
  subst e;exact .inl ⟨⟨xs,ys,q1,q2,by lia⟩,by lia,hd zs H p⟩
section
variable {X:Cx}
end
section
variable {X:Cx}{tg:Expr}
end
end L2
namespace L2
open PySem PySem.Spec PyProof.Rows PySem.Builtin PySem.Builtin.Str
theorem lO:∀{ts:List Str}{us:List Value},Vals (ts.map V.str) us->∃l:List (Str×Tok),us=strValues l/\l.map (·.1)=ts
 | [],_,h=>by cases h;exact⟨[],rfl,rfl⟩
 | x::ts,_,h=>by
   cases h with
   | cons r h =>
     obtain⟨t,rfl⟩:=r;obtain⟨l,rfl,e⟩:=lO h;exact⟨(x,t)::l,rfl,by rw[map_cons,e]⟩
theorem nB{z:Str}{ts:List Str}(hz:z.length<=10)(hl:ts.length<=200)(h:∀t∈ts,t.length<=2000):tooLong (ts.toArray.foldl (·+ ·.length+z.length) 0)=false:=by
 have go:∀(l:List Str)(n:Nat),(∀t∈l,t.length<=2000)->l.foldl (·+ ·.length+z.length) n<=n+2010*l.length:=by
  intro l
  induction l with
  | nil=>intro n _;simp
  | cons t l ih =>
    intro n h;have:=ih (n+t.length+z.length) λu hu=>h u (q13 _ hu);have h1:=h t (q14 ..);rw[foldl_cons,q12]
    lia
 have:=go ts 0 h;have bY:=zq;unfold tooLong;rw[List.foldl_toArray];simp only[gt_iff_lt,decide_eq_false_iff_not]
 lia
section
variable {X:Cx}
theorem wH:gZ X (.type "str") (λxs H Q=>(∃i:Int,xs=[.int i]/\i.natAbs.log2<1920/\Q (.str (toString i)) H)\/∃y,xs=[.str y]/\Q (.str y) H):=by
 intro pins s σ H xs us Q I r h;rcases h with⟨i,rfl,hd,q⟩|⟨y,rfl,q⟩
 .obtain⟨u,rfl,⟨t,rfl⟩⟩:=r.one;exact P.str_of_int hd ⟨.str _,H,I.tok _,⟨_,rfl⟩,q⟩
 .obtain⟨u,rfl,⟨t,rfl⟩⟩:=r.one;exact P.str_of_str ⟨.str _,H,I,⟨_,rfl⟩,q⟩
inductive rX (K:Frag)(x:V)(xs:List V)(H:Hp)(Q:VK):Prop|mk(z:Str)(a:Addr)(ts:List Str):x=.str z->xs=[.ref a]->ai K H a (ts.map V.str)->z.length<=10->ts.length<=200->((∀t∈ts,t.length<=2000))->Q (.str (Txt.join z ts)) H->rX K x xs H Q
def rJoin(K:Frag):V->List V->Hp->VK->Prop:=λx xs H Q=>rX K x xs H Q
theorem ES:GY X "str.join" (rJoin X.K):=by
 intro pins s σ H x xs v us Q I rx rv h;obtain⟨z,a,ts,rfl,rfl,hq,h1,h2,h3,q⟩:=h;obtain⟨t,rfl⟩:=rx;obtain⟨u,rfl,ru⟩:=rv.one;cases ru;obtain⟨aw,rr,p,_⟩:=I.list hq;obtain⟨l,rfl,rfl⟩:=lO rr;have hf:=nB h1 h2 h3;exact call_meets F.slot_str_join (typeIs_str _ _ _) F.entry_str_join (F.args_str_join_2 _ _) (meets_str_join_list z t a l hf) ⟨p.isList,post_join l ⟨joinFit_length hf,λt' k=>⟨.str _,H,I.tok _,⟨_,rfl⟩,q⟩⟩⟩
end
def tN(n:Int):Str:=Str.ofString (toString n)
theorem yJ{i:Int}(h:i.natAbs<=100000):i.natAbs.log2<1920:=by
 by_cases h0:i.natAbs=0
 .rw[h0];decide
 .have:i.natAbs.log2<17:=(Nat.log2_lt h0).mpr (by lia)
  lia
section
variable {X:Cx}
end
end L2
namespace M2
open PySem L2
def rY(z:Str):Bool:=(decide (1<=(z.length:Int)) && decide ((z.length:Int)<=8)) && (z.cps.toList.map q9).all id
def uq(ts:List Str):Bool:=(decide (1<=(ts.length:Int)) && decide ((ts.length:Int)<=15)) && (decide ts.Nodup && (ts.map rY).all id)
theorem CH(z:Str):rY z=true↔(1<=z.length/\z.length<=8)/\∀c∈z.cps.toList,q9 c=true:=by
 unfold rY;simp only[q42,decide_eq_true_eq,all_map,q39,Function.comp,id];constructor
 .rintro ⟨⟨h1,h2⟩,h3⟩;exact⟨⟨by lia,by lia⟩,h3⟩
 .rintro ⟨⟨h1,h2⟩,h3⟩;exact⟨⟨by lia,by lia⟩,h3⟩
theorem Mg(ts:List Str):uq ts=true↔(1<=ts.length/\ts.length<=15)/\ts.Nodup/\∀z∈ts,(1<=z.length/\z.length<=8)/\∀c∈z.cps.toList,q9 c=true:=by
 unfold uq;simp only[q42,decide_eq_true_eq,all_map,q39,Function.comp,id,CH];constructor
 .rintro ⟨⟨h1,h2⟩,h3,h4⟩;exact⟨⟨by lia,by lia⟩,h3,h4⟩
 .rintro ⟨⟨h1,h2⟩,h3,h4⟩;exact⟨⟨by lia,by lia⟩,h3,h4⟩
theorem Mh(c:Nat):(!decide ((⟨#[c]⟩:Str).cps.toList<("a":Str).cps.toList))=decide (97<=c):=by
 have e:("a":Str).cps.toList=[97]:=by decide +kernel
 rw[e];show(!decide ([c] < [97]))=_;by_cases h:97<=c
 .rw[q19 h,q20];rfl;simp[cons_lt_cons_iff];lia
 .rw[q20 h,q19];rfl;simp[cons_lt_cons_iff];lia
theorem Mi(c:Nat):(!decide (("z":Str).cps.toList<(⟨#[c]⟩:Str).cps.toList))=decide (c<=122):=by
 have e:("z":Str).cps.toList=[122]:=by decide +kernel
 rw[e];show(!decide ([122] < [c]))=_;by_cases h:c<=122
 .rw[q19 h,q20];rfl;simp[cons_lt_cons_iff];lia
 .rw[q20 h,q19];rfl;simp[cons_lt_cons_iff];lia
end M2
namespace L2
open PySem PySem.Spec PyProof.Rows
end L2
namespace M1
def gap(c:Int):Int:=[1,7,500,998].getD (c%4).toNat 1
def aa(c:Int)(m:Nat):List Int:=(List.range m).map fun(k:Nat)=>(c/4+(k:Int)*gap c)%999+1
theorem Sm(c:Int)(m:Nat):(aa c m).length=m:=by unfold aa;simp
theorem W4(c:Int)(m:Nat):aa c (m+1)=aa c m++[(c/4+(m:Int)*gap c)%999+1]:=by unfold aa;rw[range_succ,q07];rfl
theorem W5{c:Int}{m:Nat}{x:Int}(h:x∈aa c m):1<=x/\x<=999:=by
 obtain⟨k,_,rfl⟩:=q25.mp h;have h1:=Int.emod_nonneg (c/4+(k:Int)*gap c) (show(999:Int)≠0 by decide);have h2:=Int.emod_lt_of_pos (c/4+(k:Int)*gap c) (show(0:Int)<999 by decide)
 lia
theorem nC(c:Int):gap c=1\/gap c=7\/gap c=500\/gap c=998:=by
 have h:c%4=0\/c%4=1\/c%4=2\/c%4=3:=by lia
 unfold gap;rcases h with h | h | h | h <;> rw[h]
 .exact .inl rfl
 .exact .inr (.inl rfl)
 .exact .inr (.inr (.inl rfl))
 .exact .inr (.inr (.inr rfl))
theorem W6{c:Int}{m:Nat}(hm:m<=999):(aa c m).Nodup:=by
 unfold aa;refine List.pairwise_map.mpr (List.Pairwise.imp_of_mem (λ{i j} hi hj bU e=>?_) (pairwise_lt_range (n:=m)));have hi:=List.mem_range.mp hi;have hj:=List.mem_range.mp hj;rcases nC c with g | g | g | g <;> rw[g]at e <;> lia
def oV(ns:List Int):Bool:=(decide (1<=(ns.length:Int)) && decide ((ns.length:Int)<=24)) && (decide ns.Nodup && (ns.map λn=>decide (1<=n) && decide (n<=999)).all id)
theorem Sn(ns:List Int):oV ns=true↔(1<=ns.length/\ns.length<=24)/\ns.Nodup/\∀n∈ns,1<=n/\n<=999:=by
 unfold oV;simp only[q42,decide_eq_true_eq,all_map,q39,Function.comp,id];constructor
 .rintro ⟨⟨h1,h2⟩,h3,h4⟩;exact⟨⟨by lia,by lia⟩,h3,h4⟩
 .rintro ⟨⟨h1,h2⟩,h3,h4⟩;exact⟨⟨by lia,by lia⟩,h3,h4⟩
end M1
namespace L2
open PySem PySem.Spec PyProof.Rows
inductive rZ (K:Frag)(x y:V)(H:Hp)(Q:VK):Prop|mk(a:_)(b:_)(xs:_):x=.ref a->y=.ref b->ai K H a xs->ai K H b []->Q (.bl (!decide (xs.length=0))) H->rZ K x y H Q
def ET(K:Frag):R2:=λx y H Q=>rZ K x y H Q
theorem W7{X:Cx}(hu:X.A.units<cLine):dB X (compareOp .NotEq) (ET X.K):=by
 intro pins s σ H x y v u Q I rx ry h;obtain⟨a,b,xs,rfl,rfl,ha,hb,q⟩:=h;cases xs with
 | nil=>exact CB hu pins s σ H _ _ v u Q I rx ry ⟨a,b,[],[],rfl,rfl,ha,hb,rfl,rfl,q⟩
 | cons z xs =>
   cases rx;cases ry;obtain⟨aw,r1,p1,z1⟩:=I.list ha;obtain⟨eZ,r2,p2,z2⟩:=I.list hb;have l1:=r1.length;have l2:=r2.length;exact SeqAt.RcNeAt.lists_lengths p1.isList p2.isList (by simp at l1 l2;simp;lia) hu _ _ _ _ ⟨.bl true,H,I,rfl,q⟩
structure DF (K:Frag) (x:Str) (st:Stmt) (ps:List Str):Prop where
 ex:∃f fd,nsIn K mainGlobals x=some (some (.ref f))/\aL K x x st f fd/\Binds K fd ps []
structure DM (K:Frag) (C:Addr) (m qual:Str) (st:Stmt) (ps:List Str):Prop where
 ex:∃f fd,findIn K (.ref C) m=some (some (.ref f))/\isFn K (.ref f)=true/\aL K m qual st f fd/\Binds K fd ps []
section
variable {K:Frag}{st:Stmt}{f C:Addr}{oc:Value}{od an:Option Addr}{i7:Array (Option Value)}{kV doc pm aG ct:Value}{ps:List Str}
theorem df{x:Str}(a:nsIn K mainGlobals x=some (some (.ref f)))(l:K.lookup f=some ⟨oc,od,.func (fnOf x x (qf st) (wP st) (zf st) .none kV doc pm an aG ct),i7⟩)(c:codeIn K aG x=true)(k:keepIn K (.ref f)=true)
 (h:∀(kV doc pm:Value)(an:Option Addr)(aG ct:Value)(us:List Value),us.length=ps.length->bindArgs (fnOf x x (qf st) (wP st) (zf st) .none kV doc pm an aG ct) ⟨us,[]⟩=pure (ps.zip us)):DF K x st ps:=⟨⟨f,_,a,Cp l c k,(Cp l c k).binds h⟩⟩
theorem dm{m qual:Str}(a:findIn K (.ref C) m=some (some (.ref f)))(i:isFn K (.ref f)=true)(l:K.lookup f=some ⟨oc,od,.func (fnOf m qual (qf st) (wP st) (zf st) .none kV doc pm an aG ct),i7⟩)(c:codeIn K aG qual=true)(k:keepIn K (.ref f)=true)
 (h:∀(kV doc pm:Value)(an:Option Addr)(aG ct:Value)(us:List Value),us.length=ps.length->bindArgs (fnOf m qual (qf st) (wP st) (zf st) .none kV doc pm an aG ct) ⟨us,[]⟩=pure (ps.zip us)):DM K C m qual st ps:=⟨⟨f,_,a,i,Cp l c k,(Cp l c k).binds h⟩⟩
end
section
variable {K:Frag}{mg:Str->Option Value}{st:Stmt}{C:Addr}{ps:List Str}{k:Nat}{sp:Sp}{h:Heap}{x m qual:Str}(P:Program)(w:World)(base:Heap)
theorem zS(X:K.In h)(G:h.Ns mainGlobals mg)(d:DF K x st ps)(g:∀{f fd},aL K x x st f fd->ar P w K mg base aX k f fd ps sp):aK P w K mg base k x ps sp:=by
 obtain⟨f,fd,a,F,b⟩:=d.ex;exact aK.of F (g F) (mg_of X G a) b
theorem nD(X:K.In h)(G:h.Ns mainGlobals mg)(d:DF K x st ps)(g:∀{f fd},aL K x x st f fd->ar P w K mg base (dO P w) k f fd ps sp):cc P w K mg base k x ps sp:=by
 obtain⟨f,fd,a,F,b⟩:=d.ex;exact cc.of F (g F) (mg_of X G a) b
theorem ke(hC:zK K x=C)(d:DM K C m qual st ps)(g:∀{f fd},aL K m qual st f fd->ar P w K mg base aX k f fd ps sp):bE P w K mg base k (zK K x) m ps sp:=by
 obtain⟨f,fd,a,i,F,b⟩:=d.ex;exact bE.of hC (g F) ⟨a,i,F.kp⟩ b
theorem CI(hC:zK K x=C)(d:DM K C m qual st ps)(g:∀{f fd},aL K m qual st f fd->ar P w K mg base (dO P w) k f fd ps sp):bL P w K mg base k (zK K x) m ps sp:=by
 obtain⟨f,fd,a,i,F,b⟩:=d.ex;exact bL.of hC (g F) ⟨a,i,F.kp⟩ b
theorem Mj(hC:zK K x=C)(X:K.In h)(G:h.Ns mainGlobals mg)(ha:nsIn K mainGlobals x=some (some (.ref C)))(mk:makesIn K C=true)(kc:keepIn K (.ref C)=true)(d:DM K C "__init__" qual st ps)(g:∀{f fd},aL K "__init__" qual st f fd->ar P w K mg base (dO P w) k f fd ps sp):ni P w K mg base k x (zK K x) ps sp:=by
 obtain⟨f,fd,a,i,F,b⟩:=d.ex;exact ni.of hC (g F) (mg_of X G ha) ⟨mk,a,i,kc⟩ b
end
section
variable {P:List Value->Prop}
theorem on0(p:P []):∀us:List Value,us.length=0->P us
 | [],_=>p
theorem onS{n:Nat}(p:∀(a:Value)(us:List Value),us.length=n->P (a::us)):∀us:List Value,us.length=n+1->P us:=by
 intro us e;cases us with
 | nil=>cases e
 | cons a r=>exact p a r (Nat.succ.inj e)
end
theorem aW{N P:List Str}{sc:Scope}(a1:sc.kind=.function:=by exact rfl)(a2:sc.isCoroutine=false:=by exact rfl)(a3:sc.isGenerator=false:=by exact rfl)(a4:N.Nodup:=by decide +kernel)(a5:N.take P.length=P:=by exact rfl)(a6:∀x∈P,sc.names.lookup x=some .local\/sc.names.lookup x=some .cell:=by decide +kernel)(a7:∀y∈sc.names,y.2 ≠ .free:=by decide +kernel):ag N P sc:=⟨a1,a2,a3,a4,a5,a6,a7⟩
section
variable {sc:Scope}{N:List Str}{x x2:Str}{fr:List Str}{ix:List Nat}{scope:Scope}
theorem cZ(a1:scope.kind=.function:=by exact rfl)(a2:∀y∈scope.names,y.2 ≠ .cell:=by decide +kernel)(a3:∀y∈scope.names,y.2=.local->scope.names.lookup y.1=some .local:=by decide +kernel)(a4:scope.names.lookup x=some .local:=by exact rfl)(a5:∀y∈scope.names,y.2=.free->sc.names.lookup y.1=some .cell\/sc.names.lookup y.1=some .free:=by decide +kernel)
 (a6:fr.map some=ix.map λi=>N[i]? := by exact rfl) (a7:∀y∈fr,scope.names.lookup y=some .free/\(sc.names.lookup y=some .cell\/sc.names.lookup y=some .free):=by decide +kernel) (a8:(x::fr).Nodup:=by decide +kernel):ak sc N x fr ix scope:=⟨a1,a2,a3,a4,a5,a6,a7,a8⟩
theorem Ml(a1:scope.kind=.function:=by exact rfl)(b1:∀a acc,cellsFrom a scope.names acc=(x,a)::acc:=by exact λ_ _=>rfl)(b2:∀h:Heap,pushCells h scope.names=h.push { cls:=.type "cell",data:=.cell none }:=by exact λ_=>rfl)(b3:∀y∈scope.names,y.2=.cell->y.1=x:=by decide +kernel)(a3:∀y∈scope.names,y.2=.local->scope.names.lookup y.1=some .local:=by decide +kernel)(a4:scope.names.lookup x=some .cell:=by exact rfl)(a5:∀y∈scope.names,y.2=.free->sc.names.lookup y.1=some .cell\/sc.names.lookup y.1=some .free:=by decide +kernel)
 (a6:fr.map some=ix.map λi=>N[i]? := by exact rfl) (a7:∀y∈fr,scope.names.lookup y=some .free/\(sc.names.lookup y=some .cell\/sc.names.lookup y=some .free):=by decide +kernel) (a8:(x::fr).Nodup:=by decide +kernel):bw sc N x fr ix scope:=⟨a1,b1,b2,b3,a3,a4,a5,a6,a7,a8⟩
theorem sd(a1:scope.kind=.function:=by exact rfl)(a2:∀y∈scope.names,y.2 ≠ .cell:=by decide +kernel)(a3:∀y∈scope.names,y.2=.local->scope.names.lookup y.1=some .local:=by decide +kernel)(a4:scope.names.lookup x=some .local:=by exact rfl)(b4:scope.names.lookup x2=some .local:=by exact rfl)(a5:∀y∈scope.names,y.2=.free->sc.names.lookup y.1=some .cell\/sc.names.lookup y.1=some .free:=by decide +kernel)
 (a6:fr.map some=ix.map λi=>N[i]? := by exact rfl) (a7:∀y∈fr,scope.names.lookup y=some .free/\(sc.names.lookup y=some .cell\/sc.names.lookup y=some .free):=by decide +kernel) (a8:(x::x2::fr).Nodup:=by decide +kernel):aU sc N x x2 fr ix scope:=⟨a1,a2,a3,a4,b4,a5,a6,a7,a8⟩
end
section
variable {X:Cx}{e:Expr}{p pos:Pos}{te:TE}
theorem yj(hm:X.mg "len"=none)(he:PE X e te)(hg:Gl X "len":=by rfl)(hs:starEach [e] X.env=(false,eval e X.env)::starEach [] X.env:=by rfl)(hpl:(backTo pos (starEach [] X.env)).any (·.1)=false:=by rfl):
 PE X (.Call (.Name "len" p) [e] [] pos) (GX (bI X.K) (k7 te mO)):=zN Ry hg hm PySem.boot_len (za he zb (hs:=hs)) (he:=hs) (hpl:=hpl)
theorem xZ{K:Frag}(hK:X.K=K)(hm:X.mg "len"=none)(he:PE X e te)(hg:Gl X "len":=by rfl)(hs:starEach [e] X.env=(false,eval e X.env)::starEach [] X.env:=by rfl)(hpl:(backTo pos (starEach [] X.env)).any (·.1)=false:=by rfl):
 PE X (.Call (.Name "len" p) [e] [] pos) (GX (bI K) (k7 te mO)):=zN (Wh hK) hg hm PySem.boot_len (za he zb (hs:=hs)) (he:=hs) (hpl:=hpl)
end
structure bW (sc:Scope) (N:List Str) (x x2 x3 x4:Str) (fr:List Str) (ix:List Nat) (scope:Scope):Prop where
 kind:scope.kind=.function
 bV:∀y∈scope.names,y.2 ≠ .cell
 lA:∀y∈scope.names,y.2=.local->scope.names.lookup y.1=some .local
 lx:scope.names.lookup x=some .local
 EO:scope.names.lookup x2=some .local
 So:scope.names.lookup x3=some .local
 Sq:scope.names.lookup x4=some .local
 free:∀y∈scope.names,y.2=.free->sc.names.lookup y.1=some .cell\/sc.names.lookup y.1=some .free
 at':fr.map some=ix.map λi=>N[i]?
 qi:∀y∈fr,scope.names.lookup y=some .free/\(sc.names.lookup y=some .cell\/sc.names.lookup y=some .free)
 nd:(x::x2::x3::x4::fr).Nodup
def fE(K:Frag)(J:It)(c:St)(tc:TT)(te:TE)(H1:Hp)(fin:List V->Hp->Prop):Prop :=
 ∃W:Nat->Nat->List V->Hp->Prop,(∃m,W 0 m [] H1)/\∀i m ys H,W i m ys H ->
  (J.stop i H/\ys.length<=sizeLine/\fin ys H) \/
  (J.go i H/\ys.length<sizeLine/\∃N:List V->Hp->Prop,(∀ys' H',N ys' H'->∃m',m'<m/\W (i+1) m' ys' H')/\∀x H',J.uN i H x H'->∃t a b a' b',x=.ref t/\bX K H' t [a,b,a',b']/\tc (some a::some b::some a'::some b'::c) H' λd H2=>if d=true then te (some a::some b::some a'::some b'::c) H2 λy H3=>N (ys++[y]) H3 else N ys H2)
def BG(K:Frag)(ix:List Nat)(wi:TI)(tc:TT)(te:TE):TE:=λσ H Q=>wi σ H λJ H1=>fE K J (fQ ix σ) tc te H1 λys H2=>∀l,H2 l=none->Q (.ref l) (upd H2 l (.lst ys))
section
variable {X:Cx}{pins:List (Addr×Obj)}{σ:St}{H:Hp}{s:Shared}{x x2 x3 x4:Str}{fr:List Str}{ix:List Nat}{scope:Scope}{cl:List (Str×Addr)}{fp:List Addr}{C D:Addr}
theorem bW.g(S:bW X.env.scope X.N x x2 x3 x4 fr ix scope):bD X.env.scope X.N [x,x2,x3,x4] fr ix scope:=⟨S.kind,S.bV,S.lA,S.free,S.at',S.qi,S.nd⟩
theorem fE.g{K:Frag}{J:It}{c:St}{tc:TT}{te:TE}{fin:List V->Hp->Prop}(h:fE K J c tc te H fin):G3 4 (pE K 4 (mE (iZ 0) (mE (iZ 1) (mE (iZ 2) (mE (iZ 3) pC))))) J c tc te H fin:=by
 obtain⟨W,w,t⟩:=h;refine⟨W,w,λi m ys H hw=>(t i m ys H hw).imp id λ⟨go,l,N,n,st⟩=>⟨go,l,N,n,λx H' y v hv=>?_⟩⟩;obtain⟨t,u0,u1,u2,u3,rfl,q,z⟩:=st x H' y;obtain _ | ⟨b0,v⟩:=v
 .cases hv
 obtain _ | ⟨b1,v⟩:=v
 .cases hv
 obtain _ | ⟨b2,v⟩:=v
 .cases hv
 obtain _ | ⟨b3,v⟩:=v
 .cases hv
 obtain _ | ⟨b,v⟩:=v
 .exact⟨t,_,rfl,q,rfl,_,_,rfl,_,_,rfl,_,_,rfl,_,_,rfl,rfl,[some u0,some u1,some u2,some u3],rfl,rfl,rfl,z⟩
 .simp at hv
theorem bW.pg{px nu Ho Hq tp:Pos}{tk:Nat}{s2:Shared}(S:bW X.env.scope X.N x x2 x3 x4 fr ix scope)(hc:X.calm=true):PG (cY X (x::x2::x3::x4::fr) scope cl C s2 H fp) (.Tuple [.Name x px,.Name x2 nu,.Name x3 Ho,.Name x4 Hq] tk tp) (pE X.K 4 (mE (iZ 0) (mE (iZ 1) (mE (iZ 2) (mE (iZ 3) pC))))):=GN hc (wI (zM S.nd rfl (.inl (lookup_relabel_local S.lx)) (.inr (lookup_relabel_local S.lx))) (wI (zM S.nd rfl (.inl (lookup_relabel_local S.EO)) (.inr (lookup_relabel_local S.EO))) (wI (zM S.nd rfl (.inl (lookup_relabel_local S.So)) (.inr (lookup_relabel_local S.So))) (wI (zM S.nd rfl (.inl (lookup_relabel_local S.Sq)) (.inr (lookup_relabel_local S.Sq))) GL))))
end
section
variable {X:Cx}{x x2 x3 x4:Str}{fr:List Str}{ix:List Nat}{scope:Scope}{elt iter:Expr}{ifs:List Expr}{px nu Ho Hq tp pos:Pos}{tk:Nat}{wi:TI}{tc:TT}{te:TE}
theorem se(S:bW X.env.scope X.N x x2 x3 x4 fr ix scope)(hc:X.calm=true)(hi:PI X (.Tuple [.Name x px,.Name x2 nu,.Name x3 Ho,.Name x4 Hq] tk tp) iter wi)(j6:∀cl C s2 H2 fp,ud (cY X (x::x2::x3::x4::fr) scope cl C s2 H2 fp) ifs tc)(he:∀cl C s2 H2 fp,PE (cY X (x::x2::x3::x4::fr) scope cl C s2 H2 fp) elt te)
 (hs:∀x,foldedSetIterable iter X.env x=pure x:=by intro _;rfl):PE X (.ListComp elt [⟨.Tuple [.Name x px,.Name x2 nu,.Name x3 Ho,.Name x4 Hq] tk tp,iter,ifs,0⟩] scope pos) (BG X.K ix wi tc te):=by
 intro pins s σ H Q I h;obtain⟨cl,qw,h1,h2⟩:=Cr (env:=X.env) (scope:=scope) λy hy hf=>I.ok.has y.1 (S.free y hy hf);rw[eval_ListComp];refine wpAny_comprehension_free (use:=none) rfl hs qw S.kind S.lA (aO (hi pins s σ H _ I h) λxv s1 q1=>aO q1 λxp s2 q2=>?_);obtain⟨it,fp,tn,J,H2,rfl,I2,T,iI,f2,wc⟩:=q2;refine Ej S.g (λ_ _ _ _ _=>S.pg hc) hc j6 he h1 h2 I2 T iI f2 wc.g λD C ys H' s' m I' hD hn gR hC qx fin=>?_;refine⟨m,hn,λh' sb=>⟨.ref D,upd H' D (.lst ys),?_,rfl,fin D hD⟩⟩;have dj:fq X pins (upd H' D (.lst ys)) C:=by
  have z:=I2.fV (H':=upd H' D (.lst ys)) hC (by rw[zj (Ne.symm gR)];exact qx);exact z
 exact I'.turned (t':=s'.toks) (it:=C) (λb o hb e=>(sb.2 b hb).trans e) dj.1 dj.2.1 dj.2.2.2.1 dj.2.2.2.2.1 dj.2.2.2.2.2
end
section
variable {κ:Type} [DecidableEq κ]
def fH(ax:List (κ×V))(k:κ):Option V:=(ax.find? λkv=>decide (kv.1=k)).map (·.2)
def ie(ax:List (κ×V))(k:κ)(v:V):List (κ×V) :=
 if(ax.any λkv=>decide (kv.1=k))=true then ax.map (λkv=>if kv.1=k then(kv.1,v)else kv)else ax++[(k,v)]
theorem wY{p:κ×V}{r:List (κ×V)}{k:κ}(e:p.1=k):fH (p::r) k=some p.2:=by simp[fH,find?_cons,e]
theorem wT{p:κ×V}{r:List (κ×V)}{k:κ}(e:¬p.1=k):fH (p::r) k=fH r k:=by simp[fH,find?_cons,e]
theorem EU(k:κ):∀ax:List (κ×V),(ax.any λkv=>decide (kv.1=k))=(fH ax k).isSome
 | []=>rfl
 | p::r=>by
   rw[any_cons];by_cases e:p.1=k
   .simp only[wY e,q19 e,Bool.true_or,Option.isSome_some]
   .rw[wT e,q20 e,Bool.false_or];exact EU k r
theorem Sr(k j:κ)(y:V):∀ax:List (κ×V),fH (ax.map λkv=>if kv.1=k then(kv.1,y)else kv) j=(fH ax j).map λx=>if j=k then y else x
 | []=>rfl
 | p::r=>by
   have ih:=Sr k j y r;rw[map_cons];by_cases h:p.1=k
   .rw[q01 h];by_cases e:p.1=j
    .rw[wY (p:=(p.1,y)) e,wY e,q41,q01 (e.symm.trans h)]
    .rw[wT (p:=(p.1,y)) e,wT e,ih]
   .rw[q00 h];by_cases e:p.1=j
    .rw[wY (p:=p) e,wY e,q41,q00 (λz=>h (e.trans z))]
    .rw[wT (p:=p) e,wT e,ih]
theorem Ss(k j:κ)(y:V):∀ax:List (κ×V),fH ax k=none->fH (ax++[(k,y)]) j=if j=k then some y else fH ax j
 | [],_=>by
   by_cases e:k=j
   .rw[q01 e.symm];exact wY (p:=(k,y)) e
   .rw[q00 (λz=>e z.symm)];exact wT (p:=(k,y)) e
 | p::r,hn=>by
   rw[cons_append];have hk:¬p.1=k:=λz=>by rw[wY z]at hn;cases hn
   rw[wT hk]at hn;have ih:=Ss k j y r hn;by_cases e:p.1=j
   .rw[wY e,wY e,q00 (λz=>hk (e.trans z))]
   .rw[wT e,wT e,ih]
theorem Hr(ax:List (κ×V))(k j:κ)(y:V):fH (ie ax k y) j=if j=k then some y else fH ax j:=by
 unfold ie;by_cases a:(ax.any λkv=>decide (kv.1=k))=true
 .rw[q01 a,Sr];rw[EU]at a;by_cases e:j=k
  .obtain⟨x,hx⟩:=Option.isSome_iff_exists.mp a;rw[q01 e,e,hx,q41,q01 rfl]
  .rw[q00 e];cases fH ax j with
   | none=>rfl
   | some x=>rw[q41,q00 e]
 .rw[q00 a];refine Ss k j y ax ?_;rw[EU]at a;cases q:fH ax k with
  | none=>rfl
  | some x=>rw[q]at a;exact(a rfl).elim
theorem Mm(ax:List (κ×V))(k:κ)(v:V):(ie ax k v).length<=ax.length+1:=by
 unfold ie;split
 .rw[q06];omega
 .rw[q08,q12,length_nil];omega
theorem eB.de{o:Option V}{u:Option Value}(r:eB o u):o.isSome=u.isSome:=by
 cases o with
 | none=>cases u with
   | none=>rfl
   | some _=>exact(show False from r).elim
 | some _=>cases u with
   | none=>exact(show False from r).elim
   | some _=>rfl
theorem KV.val{ax:List (κ×V)}{vs:List (κ×Value)}(r:KV ax vs)(k:κ):eB (fH ax k) (valueAt vs k):=by
 unfold KV at r
 induction r with
 | nil=>exact True.intro
 | @cons p q ps qs h t ih =>
   obtain⟨h1,h2⟩:=h;by_cases e:p.1=k
   .have e':q.1=k:=h1.symm.trans e;have b:valueAt (q::qs) k=some q.2:=by simp[valueAt,find?_cons,e']
    rw[wY e,b];exact h2
   .have e':¬q.1=k:=λz=>e (h1.trans z);have b:valueAt (q::qs) k=valueAt qs k:=by simp[valueAt,find?_cons,e']
    rw[wT e,b];exact ih
theorem KV.any{ax:List (κ×V)}{vs:List (κ×Value)}(r:KV ax vs)(k:κ):(ax.any λkv=>decide (kv.1=k))=vs.any λkv=>decide (kv.1=k):=by
 unfold KV at r
 induction r with
 | nil=>rfl
 | cons h t ih=>rw[any_cons,any_cons,ih,h.1]
theorem KV.BH{ax:List (κ×V)}{vs:List (κ×Value)}(r:KV ax vs)(k:κ){y:V}{u:Value}(ry:RelV y u):
 KV (ax.map λkv=>if kv.1=k then(kv.1,y)else kv) (vs.map λkv=>if kv.1=k then(kv.1,u)else kv):=by
 unfold KV at r ⊢
 induction r with
 | nil=>exact .nil
 | @cons p q ps qs h t ih =>
   rw[map_cons,map_cons];refine .cons ?_ ih;obtain⟨h1,h2⟩:=h;by_cases e:p.1=k
   .rw[q01 e,q01 (h1.symm.trans e)];exact⟨h1,ry⟩
   .rw[q00 e,q00 (λz=>e (h1.trans z))];exact⟨h1,h2⟩
theorem KV.put{ax:List (κ×V)}{vs:List (κ×Value)}(r:KV ax vs)(k:κ){y:V}{u:Value}(ry:RelV y u):KV (ie ax k y) (stored vs k u):=by
 unfold ie stored;rw[r.any k];by_cases e:(vs.any λkv=>decide (kv.1=k))=true
 .rw[q01 e,q01 e];exact r.BH k ry
 .rw[q00 e,q00 e];exact Paired.snoc r ⟨rfl,ry⟩
theorem KV.length{ax:List (κ×V)}{vs:List (κ×Value)}(r:KV ax vs):ax.length=vs.length:=Paired.length r
end
variable {P:Program}{w:World}{u:Value}
theorem EV{k:Key}(r:RelV (kV k) u):(wN P w).is k u=true:=by
 cases k with
 | inl i=>obtain⟨t,e⟩:=(show ∃t,u=Value.int i t from r);subst e;exact VB P w i t
 | inr x=>obtain⟨t,e⟩:=(show ∃t,u=Value.str x t from r);subst e;exact VC P w x t
theorem Su:∀{ks:List Key}{us:List Value},Vals (ks.map kV) us->ItemsAre (wN P w) ks us
 | [],_,r=>by rw[map_nil]at r;cases r;exact .nil
 | k::ks,_,r=>by
   rw[map_cons]at r;cases r with
   | cons h t=>exact .cons (EV h) (Su t)
abbrev KT(H:Hp):List (List Key×V)->List (List Key×Addr×Value)->Prop:=Paired λp q=>p.1=q.1/\H q.2.1=some (.tup (p.1.map kV))/\RelV p.2 q.2.2
variable {H:Hp}{ax:List (List Key×V)}{xs:List (List Key×Addr×Value)}
theorem KT.val(r:KT H ax xs)(k:List Key):eB (fH ax k) ((atKey xs k).map (·.2)):=by
 induction r with
 | nil=>exact True.intro
 | @cons p q ps qs h t ih =>
   obtain⟨h1,_,h2⟩:=h;by_cases e:p.1=k
   .have e':q.1=k:=h1.symm.trans e;have b:atKey (q::qs) k=some q.2:=by simp[atKey,find?_cons,e']
    rw[wY e,b];exact h2
   .have e':¬q.1=k:=λz=>e (h1.trans z);have b:atKey (q::qs) k=atKey qs k:=by simp[atKey,find?_cons,e']
    rw[wT e,b];exact ih
theorem KT.BH(r:KT H ax xs)(k:List Key){y:V}(ry:RelV y u):
 KT H (ax.map λkv=>if kv.1=k then(kv.1,y)else kv) (xs.map (putAt k u)):=by
 induction r with
 | nil=>exact .nil
 | @cons p q ps qs h t ih =>
   rw[map_cons,map_cons];refine .cons ?_ ih;obtain⟨h1,h2,h3⟩:=h;unfold putAt;by_cases e:p.1=k
   .rw[q01 e,q01 (h1.symm.trans e)];exact⟨h1,h2,ry⟩
   .rw[q00 e,q00 (λz=>e (h1.trans z))];exact⟨h1,h2,h3⟩
theorem KT.put(r:KT H ax xs)(k:List Key){b:Addr}{y:V}(hb:H b=some (.tup (k.map kV)))(ry:RelV y u):
 KT H (ie ax k y) (storedH xs k b u):=by
 have e:(ax.any λkv=>decide (kv.1=k))=(atKey xs k).isSome:=by
  rw[EU,(r.val k).de,Option.isSome_map]
 unfold ie storedH;rw[e];by_cases q:(atKey xs k).isSome=true
 .rw[q01 q,q01 q];exact r.BH k ry
 .rw[q00 q,q00 q];exact Paired.snoc r ⟨rfl,hb,ry⟩
theorem KT.keeps{H':Hp}(r:KT H ax xs)(ht:∀b ys,H b=some (.tup ys)->H' b=some (.tup ys)):KT H' ax xs :=
 Paired.AK r λ_ _ z=>⟨z.1,ht _ _ z.2.1,z.2.2⟩
section
variable {P:Program}{w:World}{H:Hp}{h:Heap}{a:Addr}
theorem x8{u:HO}(ok:dz P w H h)(e:Rd H a u):bu P w H h a u:=e.ok ok
variable {ax:List (Key×V)}
theorem EW(ok:dz P w H h)(e:Rd H a (.dK ax)):ax.length<=sizeLine/\(a==sysModules)=false/\∃vs,KV ax vs/\h.DictOf (wN P w) a vs :=
 show bu P w H h a (.dK ax)from x8 ok e
theorem EX(ok:dz P w H h)(e:H a=some (.dK ax)):ax.length<=sizeLine/\(a==sysModules)=false/\∃vs,KV ax vs/\h.DictOf (wN P w) a vs:=EW ok (.inl e)
theorem EY{ks:List Key}(ok:dz P w H h)(e:H a=some (.tup (ks.map kV))):(tupleKind (wN P w)).is h ks a:=by
 obtain⟨_,aw,r,o,h1,h2,n,h3⟩:=(show bu P w H h a (.tup (ks.map kV))from ok a _ e);exact⟨o,aw.toArray,n,h1,h2,h3,by simpa using Su r⟩
theorem EZ{ax:List (List Key×V)}(ok:dz P w H h)(e:Rd H a (.dT ax)):ax.length<=sizeLine/\(a==sysModules)=false /\
 ∃xs,KT H ax xs/\h.DictOfH (tupleKind (wN P w)) a xs:=by
 obtain⟨z,y,xs,r,o,es,ep,h1,h2,h3,h4,h5⟩:=(show bu P w H h a (.dT ax)from x8 ok e);refine⟨z,y,xs,r,o,es,ep,h1,h2,h3,h4,λx hx=>?_,h5⟩;have all:∀{l:List (List Key×V)} {m:List (List Key×Addr×Value)},KT H l m->∀x∈m,(tupleKind (wN P w)).is h x.1 x.2.1:=by
  intro l m q
  induction q with
  | nil=>intro x hx;exact nomatch hx
  | @cons p q ps qs hq t ih =>
    intro x hx;rcases q27.mp hx with e | hx
    .subst e;exact EY ok (by rw[<-hq.1];exact hq.2.1)
    .exact ih x hx
 exact all r x hx
theorem E1{ax:List (List Key×V)}(ok:dz P w H h)(e:H a=some (.dT ax)):ax.length<=sizeLine/\(a==sysModules)=false /\
 ∃xs,KT H ax xs/\h.DictOfH (tupleKind (wN P w)) a xs:=EZ ok (.inl e)
end
def fI(H:Hp)(a:Addr)(y:V)(r:Option V):Prop :=
 (∃ax k,Rd H a (.dK ax)/\y=kV k/\r=fH ax k)\/∃ax k b,Rd H a (.dT ax)/\y=.ref b/\H b=some (.tup (k.map kV))/\r=fH ax k
def nE(H:Hp)(a:Addr)(y v:V)(H':Hp):Prop :=
 (∃ax k,H a=some (.dK ax)/\y=kV k/\ax.length<sizeLine/\H'=upd H a (.dK (ie ax k v))) \/
 ∃ax k b,H a=some (.dT ax)/\y=.ref b/\H b=some (.tup (k.map kV))/\ax.length<sizeLine/\H'=upd H a (.dT (ie ax k v))
theorem fI.k{H:Hp}{a:Addr}{ax:List (Key×V)}{k:Key}(e:H a=some (.dK ax)):fI H a (kV k) (fH ax k):=.inl ⟨ax,k,.inl e,rfl,rfl⟩
theorem nE.k{H:Hp}{a:Addr}{ax:List (Key×V)}{k:Key}{v:V}(e:H a=some (.dK ax))(hl:ax.length<sizeLine):nE H a (kV k) v (upd H a (.dK (ie ax k v))):=.inl ⟨ax,k,e,rfl,hl,rfl⟩
section
variable {X:Cx}{pins:List (Addr×Obj)}{σ:St}{H:Hp}{s:Shared}{a:Addr}{y v:V}{u r:Value}{o:Option V}{A:Around}{E:Value->Shared->Prop}
theorem Inv.big(I:Inv X pins σ H s):sysModules<s.heap.objs.size:=by
 have h:mainGlobals<s.heap.objs.size:=(I.mod.glob.keeps I.bk).lt;exact lt_trans (by decide) h
variable {Q:Value->Shared->Prop}
theorem nF(hu:A.units+1<cLine)(I:Inv X pins σ H s)(g:fI H a y (some v))(ry:RelV y u)(h:∀w' s',Inv X pins σ H s'->RelV v w'->Q w' s'):
 wpAny (model X.prog X.w) A (getItem (.ref a) u) Q E s:=by
 rcases g with⟨ax,k,e,ey,l⟩|⟨ax,k,b,e,ey,eb,l⟩
 .subst ey;obtain⟨z,hd,vs,rel,dd⟩:=EW I.aJ e;obtain⟨w',hw,mR⟩:=eB.some_of (v:=v) (o:=valueAt vs k) (by rw[l];exact rel.val k);exact wpAny_getItem_of (EV ry) dd.mapOf hw (h w' _ (I.tok _) mR)
 .subst ey;cases (show u=Value.ref b from ry);obtain⟨z,hd,xs,rel,dd⟩:=EZ I.aJ e;obtain⟨w',hw,mR⟩:=eB.some_of (v:=v) (o:=(atKey xs k).map (·.2)) (by rw[l];exact rel.val k);obtain⟨p,hp,sf⟩:=Option.map_eq_some_iff.mp hw;refine wpAny_getItem_heap (tupleKind_room_in1 hu) (EY I.aJ eb) dd hp ?_;rw[sf];exact h w' _ (I.tok _) mR
theorem Mn(hu:A.units+1<cLine)(I:Inv X pins σ H s)(g:fI H a y o)(ry:RelV y u)(h:∀s',Inv X pins σ H s'->Q (.bool o.isSome) s'):
 wpAny (model X.prog X.w) A (compareOp .In u (.ref a)) Q E s:=by
 rcases g with⟨ax,k,e,ey,l⟩|⟨ax,k,b,e,ey,eb,l⟩
 .subst ey;obtain⟨z,hd,vs,rel,dd⟩:=EW I.aJ e;refine wpAny_in_of (EV ry) hd dd.mapOf ?_;rw[<-(rel.val k).de,<-l];exact h _ (I.tok _)
 .subst ey;cases (show u=Value.ref b from ry);obtain⟨z,hd,xs,rel,dd⟩:=EZ I.aJ e;refine wpAny_in_heap (tupleKind_room_in1 hu) (EY I.aJ eb) hd dd ?_;have q:=(rel.val k).de;rw[Option.isSome_map]at q;rw[<-q,<-l];exact h _ (I.tok _)
theorem vF(hu:A.units+1<cLine)(I:Inv X pins σ H s)(g:fI H a y o)(ry:RelV y u)(h:∀s',Inv X pins σ H s'->Q (.bool (!o.isSome)) s'):
 wpAny (model X.prog X.w) A (compareOp .NotIn u (.ref a)) Q E s:=by
 rcases g with⟨ax,k,e,ey,l⟩|⟨ax,k,b,e,ey,eb,l⟩
 .subst ey;obtain⟨z,hd,vs,rel,dd⟩:=EW I.aJ e;refine wpAny_notIn_of (EV ry) hd dd.mapOf ?_;rw[<-(rel.val k).de,<-l];exact h _ (I.tok _)
 .subst ey;cases (show u=Value.ref b from ry);obtain⟨z,hd,xs,rel,dd⟩:=EZ I.aJ e;refine wpAny_notIn_heap (tupleKind_room_in1 hu) (EY I.aJ eb) hd dd ?_;have q:=(rel.val k).de;rw[Option.isSome_map]at q;rw[<-q,<-l];exact h _ (I.tok _)
theorem lQ{h':Heap}{t':Nat}{ob:HO}(I:Inv X pins σ H s)(mu:Dz (H a))(hs:SameBut a s.heap h')(he:∃q,h'.get? a=some q)(new:bu X.prog X.w (upd H a ob) h' a ob):
 Inv X pins σ (upd H a ob) { s with heap:=h',toks:=t' } :=
 I.write (x:=a) (e:=a) mu (.inl rfl) (λb q hb z=>(hs.2 b hb).trans z) he new
theorem BI{P:Program}{w:World}{H':Hp}{h':Heap}{ax:List (Key×V)}{vs:List (Key×Value)}(z:ax.length<=sizeLine)(hd:(a==sysModules)=false)(rel:KV ax vs)(dd:h'.DictOf (wN P w) a vs):
 bu P w H' h' a (.dK ax):=⟨z,hd,vs,rel,dd⟩
theorem nG{H':Hp}{Q:Unit->Shared->Prop}(hu:A.units+1<cLine)(I:Inv X pins σ H s)(g:nE H a y v H')(ry:RelV y u)(rv:RelV v r)(h:∀s',Inv X pins σ H' s'->Q () s'):
 wpAny (model X.prog X.w) A (setItem (.ref a) u r) Q E s:=by
 rcases g with⟨ax,k,e,ey,l,eH⟩|⟨ax,k,b,e,ey,eb,l,eH⟩
 .subst ey eH;obtain⟨z,hd,vs,rel,dd⟩:=EX I.aJ e;have hz:vs.length<=sizeLine:=by rw[<-rel.length];exact z
  have hl:(ie ax k v).length<=sizeLine:=by have:=Mm ax k v;omega
  refine wpAny_setItem_pairs (hsz:=hz) (EV ry) dd λh' Ex hs=>h _ ?_;have he:∃q,h'.get? a=some q:=let ⟨q,_,_,hq,_⟩:=Ex;⟨q,hq⟩;exact lQ I (by rw[e];exact True.intro) hs he (BI hl hd (rel.put k rv) Ex)
 .subst ey eH;cases (show u=Value.ref b from ry);obtain⟨z,hd,xs,rel,dd⟩:=E1 I.aJ e;have hz:xs.length<=sizeLine:=by rw[<-Paired.length rel];exact z
  have hl:(ie ax k v).length<=sizeLine:=by have:=Mm ax k v;omega
  refine wpAny_setItem_heap (hsz:=hz) (tupleKind_room_in1 hu) (EY I.aJ eb) dd λh' Ex hs=>h _ ?_;obtain⟨q,es,ep,hq,h2,h3,h4,_,h5⟩:=Ex;refine lQ I (by rw[e];exact True.intro) hs ⟨q,hq⟩ ⟨hl,hd,_,(rel.put k eb rv).keeps λc ys ec=>?_,q,es,ep,hq,h2,h3,h4,h5⟩;rw[zj (wn ec e (λz=>nomatch z))];exact ec
end
section
variable {X:Cx}{pins:List (Addr×Obj)}{σ:St}{H:Hp}{s:Shared}{a:Addr}{ax:List (Key×V)}{k:Key}{u:Value}{A:Around}{E:Value->Shared->Prop}
end
def E2(i:Expr):Prop:=∀ov iv,subscripted i false ov iv=operate [ov,iv] (getItem ov iv)
theorem vG{prog:Program}{A:Around}{E:Value->Shared->Prop}{s:Shared}{env:Env}{value slice:Expr}{pos:Pos}{T id:String}{Q:Value->Shared->Prop}
 (hl:typeLookup (.type T) "__getitem__"=pure (some (.builtin id))) (hs:E2 slice)
 (h:wpAny (model prog w) A (eval value env) (λo s₁=>wpAny (model prog w) A (eval slice env) (λi s₂=>s₂.TypeIs o T/\wpAny (model prog w) A (getItem o i) Q E s₂) E s₁) E s) :
 wpAny (model prog w) A (eval (.Subscript value slice pos) env) Q E s:=by
 refine Subscript_ (wpAny_mono h (λo s₁ h₁=>wpAny_mono h₁ (λi s₂ h₂=>?_) λ_ _ x=>x) λ_ _ x=>x);obtain⟨hT,h₂⟩:=h₂;unfold subscriptTail;refine q03 ?_;rw[getitemInPython_of_ne hT.not_modules];refine q03 (wpAny_specialOf hT hl ?_);have fin:wpAny (model prog w) A (subscripted slice false o i) (λr s₃=>wpAny (model prog w) A (letTemporaryGo value o r >>= λ_=>pure r) Q E s₃) E s₂:=by
  rw[hs o i];exact wpAny_operating (wpAny_mono h₂ (λr s₃ h₃=>q03 (wpAny_letTemporaryGo (q04 h₃))) λ_ _ x=>x)
 first
  | exact q04 (q03 fin)
  | exact q03 (q04 (q03 fin))
  | exact q03 fin
theorem W8{X:Cx}{pins:List (Addr×Obj)}{σ:St}{s:Shared}{a:Addr}{y:V}{o:Option V}(I:Inv X pins σ H s)(g:fI H a y o):s.TypeIs (.ref a) "dict":=by
 rcases g with⟨ax,k,e,_,_⟩|⟨ax,k,b,e,_,_,_⟩
 .obtain⟨_,_,vs,_,dd⟩:=EW I.aJ e;exact dd.typeIs
 .obtain⟨_,_,xs,_,dd⟩:=EZ I.aJ e;exact dd.typeIs
def E3(td ty:TE):TE:=λσ H Q=>td σ H λx H1=>ty σ H1 λy H2=>∃a v,x=.ref a/\fI H2 a y (some v)/\Q v H2
def Mo(ty td:TE):TE:=λσ H Q=>ty σ H λy H1=>td σ H1 λx H2=>∃a o,x=.ref a/\fI H2 a y o/\Q (.bl o.isSome) H2
def vH(ty td:TE):TE:=λσ H Q=>ty σ H λy H1=>td σ H1 λx H2=>∃a o,x=.ref a/\fI H2 a y o/\Q (.bl (!o.isSome)) H2
def E4(td ty tv:TE):TS:=λD σ H=>tv σ H λv H1=>td σ H1 λx H2=>ty σ H2 λy H3=>∃a H4,x=.ref a/\nE H3 a y v H4/\D.nx σ H4
section
variable {X:Cx}{o i e value:Expr}{pos pos' KG:Pos}{td ty tv:TE}
theorem lR(hu:X.A.units+1<cLine)(ho:PE X o td)(hi:PE X i ty)(hs:E2 i):PE X (.Subscript o i pos) (E3 td ty):=by
 intro pins s σ H Q I h;refine vG PySem.F.slot_dict_getitem.lookup hs (aO (ho pins s σ H _ I h) λu s1 ⟨x,H1,I1,rx,q1⟩=>aO (hi pins s1 σ H1 _ I1 q1) λiv s2 ⟨y,H2,I2,ry,a,v,ex,g,q2⟩=>?_);subst ex;obtain rfl:u=Value.ref a:=rx;exact⟨W8 I2 g,nF hu I2 g ry λw' s3 I3 mR=>⟨v,H2,I3,mR,q2⟩⟩
theorem BJ(hu:X.A.units+1<cLine)(hi:PE X i ty)(ho:PE X o td):PC X .In i o (Mo ty td):=by
 intro pins s σ H Q I h;refine aO (hi pins s σ H _ I h) λiv s1 ⟨y,H1,I1,ry,q1⟩=>aO (ho pins s1 σ H1 _ I1 q1) λu s2 ⟨x,H2,I2,rx,a,ov,ex,g,q2⟩=>?_;subst ex;obtain rfl:u=Value.ref a:=rx;exact Mn hu I2 g ry λs3 I3=>⟨.bl ov.isSome,H2,I3,rfl,q2⟩
theorem nH(hu:X.A.units+1<cLine)(hi:PE X i ty)(ho:PE X o td):PC X .NotIn i o (vH ty td):=by
 intro pins s σ H Q I h;refine aO (hi pins s σ H _ I h) λiv s1 ⟨y,H1,I1,ry,q1⟩=>aO (ho pins s1 σ H1 _ I1 q1) λu s2 ⟨x,H2,I2,rx,a,ov,ex,g,q2⟩=>?_;subst ex;obtain rfl:u=Value.ref a:=rx;exact vF hu I2 g ry λs3 I3=>⟨.bl (!ov.isSome),H2,I3,rfl,q2⟩
theorem lT(hu:X.A.units+1<cLine)(ho:PE X o td)(hi:PE X i ty)(hv:PE X value tv)(hs:swapsWith value (some (.Subscript o i pos')) pos.line X.env=pure false):
 PS X (.Assign [.Subscript o i pos'] value pos) (E4 td ty tv):=by
 intro pins s σ H D I h;refine wpAny_Assign_Subscript (aO (hv pins s σ H _ I h) λr s1 ⟨v,H1,I1,rv,q1⟩=>aO (ho pins s1 σ H1 _ I1 q1) λu s2 ⟨x,H2,I2,rx,q2⟩=>aO (hi pins s2 σ H2 _ I2 q2) λiv s3 ⟨y,H3,I3,ry,a,H4,ex,g,q3⟩=>?_) hs;subst ex;obtain rfl:u=Value.ref a:=rx;exact nG hu I3 g ry rv λs4 I4=>⟨σ,H4,I4,q3⟩
end
theorem si(h:Heap)(hb:sysModules<h.objs.size):bu P w H (h.push { cls:=.type "dict",data:=.dict #[] }) h.objs.size (.dK []) :=
 ⟨zero_le _,beq_eq_false_iff_ne.mpr (Ne.symm (ne_of_lt hb)),[],.nil,Heap.DictOf.new h⟩
def BK:TE:=λ_ H Q=>∀p,H p=none->Q (.ref p) (upd H p (.dK []))
section
variable {X:Cx}{pos:Pos}
theorem sk:PE X (.Dict [] [] pos) BK:=λpins s σ H Q I h =>
 wpAny_Dict_empty ⟨.ref s.heap.objs.size,_,I.laid (a:=s.heap.objs.size) (o:=.dK []) (t':=s.toks) (λ_ _ q=>q05 _ q) (le_refl _) (si s.heap I.big),rfl,h _ (I.aJ.fresh (le_refl _))⟩
end
structure M1 (X:Cx) (o:Expr) (m:Str) (apos:Pos) (e:Expr) (bM:Pos):Prop where
 base:attributeBase o m X.env (eval o X.env)=eval o X.env
 W9:((backTo bM (starEach [e] X.env)).all (λx => !x.1) && (backToKw bM (keywordEach [] X.env)).all (λx=>x.1.isSome)
  && decide (([e]:List Expr).length+([]:List Keyword).length+(if([]:List Keyword).isEmpty then 0 else 1)<30))=true
 line:(apos.endLine==bM.line)=true
 trees:backTo bM (starEach [e] X.env)=[(false,eval e X.env)]
structure M2 (X:Cx) (o:Expr) (m:Str) (apos:Pos) (e f:Expr) (bM:Pos):Prop where
 base:attributeBase o m X.env (eval o X.env)=eval o X.env
 W9:((backTo bM (starEach [e,f] X.env)).all (λx => !x.1) && (backToKw bM (keywordEach [] X.env)).all (λx=>x.1.isSome)
  && decide (([e,f]:List Expr).length+([]:List Keyword).length+(if([]:List Keyword).isEmpty then 0 else 1)<30))=true
 line:(apos.endLine==bM.line)=true
 trees:backTo bM (starEach [e,f] X.env)=[(false,eval e X.env),(false,eval f X.env)]
section
variable {X:Cx}{pins:List (Addr×Obj)}{σ:St}{H:Hp}{s:Shared}{a:Addr}{y d:V}{u r:Value}{o:Option V}{A:Around}{E:Value->Shared->Prop}
end
section
variable {X:Cx}{o e f:Expr}{apos bM:Pos}{td ty tx:TE}
end
section
variable {X:Cx}{pins:List (Addr×Obj)}{σ:St}{H:Hp}{s:Shared}{a:Addr}{ax:List (Key×V)}{A:Around}{E:Value->Shared->Prop}
end
section
variable {X:Cx}{pins:List (Addr×Obj)}{σ:St}{H:Hp}{s:Shared}{a:Addr}{y:V}{u:Value}{A:Around}{E:Value->Shared->Prop}
end
section
variable {X:Cx}
end
section
variable {κ:Type} [DecidableEq κ]
end
end L2
namespace M10
open PySem L2 M2
def BL(e0 e1:Str)(c:Int)(k:Nat):Str:=e0++⟨#[97+((c+11*(k:Int))%26).toNat]⟩++e1
def ur(e0 e1:Str)(c:Int)(m:Nat):List Str:=(List.range m).map fun(k:Nat)=>BL e0 e1 c k
theorem Xa(e0 e1:Str)(c:Int)(m:Nat):ur e0 e1 c (m+1)=ur e0 e1 c m++[BL e0 e1 c m]:=by unfold ur;rw[range_succ,q07];rfl
theorem Sv(e0 e1:Str)(c:Int)(m:Nat):(ur e0 e1 c m).length=m:=by unfold ur;simp
theorem Sw(e0 e1:Str)(c:Int)(k:Nat):(BL e0 e1 c k).cps.toList=e0.cps.toList++[97+((c+11*(k:Int))%26).toNat]++e1.cps.toList:=by
 show(e0.cps ++ #[97+((c+11*(k:Int))%26).toNat]++e1.cps).toList=_;rw[Array.toList_append,Array.toList_append]
theorem Xb(e0 e1:Str)(c:Int){m:Nat}(hm:m<=26):(ur e0 e1 c m).Nodup:=by
 unfold ur;refine List.pairwise_map.mpr (List.Pairwise.imp_of_mem (λ{i j} hi hj bU e=>?_) (pairwise_lt_range (n:=m)));have hi:=List.mem_range.mp hi;have hj:=List.mem_range.mp hj;have h:=congrArg (λs:Str=>s.cps.toList) e;simp only[Sw,append_assoc]at h;have h2:=List.append_cancel_left h;have h3:97+((c+11*(i:Int))%26).toNat=97+((c+11*(j:Int))%26).toNat:=by
  have:=List.cons.inj (show(97+((c+11*(i:Int))%26).toNat)::e1.cps.toList=(97+((c+11*(j:Int))%26).toNat)::e1.cps.toList from h2);exact this.1
 lia
theorem kf{e0 e1:Str}(c:Int)(k:Nat)(hl:e0.length+e1.length<=7)(h0:∀x∈e0.cps.toList,q9 x=true)(h1:∀x∈e1.cps.toList,q9 x=true):rY (BL e0 e1 c k)=true:=by
 rw[CH];have hlen:(BL e0 e1 c k).length=e0.length+1+e1.length:=by unfold BL;rw[zu,zu];rfl
 refine⟨by lia,λx hx=>?_⟩;rw[Sw]at hx;rcases List.mem_append.mp hx with hx | hx
 .rcases List.mem_append.mp hx with hx | hx
  .exact h0 x hx
  .have e:x=97+((c+11*(k:Int))%26).toNat:=List.mem_singleton.mp hx;have:=Int.emod_nonneg (c+11*(k:Int)) (show(26:Int)≠0 by decide);have:=Int.emod_lt_of_pos (c+11*(k:Int)) (show(0:Int)<26 by decide);unfold q9;rw[e,q19 (by lia),q19 (by lia)];rfl
 .exact h1 x hx
theorem vI(z p:Fin 8)(h:p.val<=z.val):(PySem.Txt.slice "vwxyzab" none (some (p.val:Int))).length+(PySem.Txt.slice "vwxyzab" (some (p.val:Int)) (some (z.val:Int))).length<=7 /\
 (∀x∈(PySem.Txt.slice "vwxyzab" none (some (p.val:Int))).cps.toList,q9 x=true)/\∀x∈(PySem.Txt.slice "vwxyzab" (some (p.val:Int)) (some (z.val:Int))).cps.toList,q9 x=true:=by
 revert z p;decide +kernel
end M10
namespace M3
open PySem L2
def got(ms:List Int)(n:Int):List Int:=ms.filter λm=>decide (m<=n)
def cnt(ms:List Int)(n:Int):Nat:=(got ms n).length
def sm(ms:List Int)(n:Int):Int:=(got ms n).sum
def dQ(ms:List Int)(f:Int):Prop:=ms.length<2*cnt ms f/\2*cnt ms (f-1)<=ms.length
variable {ms:List Int}
theorem BM{a b:Int}(h:a<=b):cnt ms a<=cnt ms b:=by
 unfold cnt got
 induction ms with
 | nil=>exact le_refl _
 | cons x ms ih =>
   rw[q17,q17];by_cases h1:x<=a
   .rw[q01 (q19 h1),q01 (q19 (by lia)),q12,q12];lia
   .rw[q00 (by simpa using h1)];split
    .rw[q12];lia
    .exact ih
theorem E5{f g:Int}(h1:dQ ms f)(h2:dQ ms g):f=g:=by
 unfold dQ at h1 h2;rcases Int.lt_trichotomy f g with h | h | h
 .have:=BM (ms:=ms) (show f<=g-1 by lia);lia
 .exact h
 .have:=BM (ms:=ms) (show g<=f-1 by lia);lia
theorem Mp{n:Int}(h:∀x∈ms,n<x):cnt ms n=0:=by
 unfold cnt got;rw[List.filter_eq_nil_iff.mpr]
 .rfl
 .intro x hx;have:=h x hx;simp;lia
theorem Mq{n:Int}(h:∀x∈ms,x<=n):cnt ms n=ms.length:=by
 unfold cnt got;rw[List.filter_eq_self.mpr];intro x hx;have:=h x hx;simp;lia
theorem vJ(ms:List Int)(n:Int):cnt ms n<=ms.length:=q09 _ _
theorem E6{f:Int}(h:dQ ms f)(lo hi:Int)(hl:∀x∈ms,lo<=x/\x<=hi):lo<=f/\f<=hi:=by
 unfold dQ at h;constructor
 .by_cases c:lo<=f
  .exact c
  .have:=Mp (ms:=ms) (n:=f) λx hx=>by have:=(hl x hx).1;lia
   lia
 .by_cases c:f<=hi
  .exact c
  .have:=Mq (ms:=ms) (n:=f-1) λx hx=>by have:=(hl x hx).2;lia
   have:=vJ ms f
   lia
theorem Hs{i:Nat}(n:Int)(hi:i<ms.length):got (ms.take (i+1)) n=if ms.getD i 0<=n then got (ms.take i) n++[ms.getD i 0] else got (ms.take i) n:=by
 unfold got;rw[yM hi,q16,q17];by_cases h:ms.getD i 0<=n
 .rw[q01 (q19 h),q01 h];rfl
 .rw[q00 (by simpa using h),q00 h];simp
end M3
namespace L2
open PySem
inductive All2 {α β:Type} (R:α->β->Prop):List α->List β->Prop
 | nil:All2 R [] []
 | cons {a:α} {b:β} {as:List α} {bs:List β}:R a b->All2 R as bs->All2 R (a::as) (b::bs)
namespace All2
variable {α β:Type}{R S:α->β->Prop}{as E7:List α}{bs CA:List β}
theorem length(h:All2 R as bs):as.length=bs.length:=by
 induction h with
 | nil=>rfl
 | cons _ _ ih=>rw[q12,q12,ih]
theorem imp(f:∀a b,R a b->S a b)(h:All2 R as bs):All2 S as bs:=by
 induction h with
 | nil=>exact .nil
 | cons r _ ih=>exact .cons (f _ _ r) ih
theorem append(h:All2 R as bs)(h':All2 R E7 CA):All2 R (as++E7) (bs++CA):=by
 induction h with
 | nil=>exact h'
 | cons r _ ih=>exact .cons r ih
theorem snoc{a:α}{b:β}(h:All2 R as bs)(r:R a b):All2 R (as++[a]) (bs++[b]):=h.append (.cons r .nil)
theorem get(h:All2 R as bs):∀{i:Nat}{b:β},bs[i]? = some b->∃a,as[i]? = some a/\R a b:=by
 induction h with
 | nil=>intro i b e;simp at e
 | cons r _ ih =>
   intro i b e;cases i with
   | zero=>simp only[List.getElem?_cons_zero]at e ⊢;cases e;exact⟨_,rfl,r⟩
   | succ i=>simp only[List.getElem?_cons_succ]at e ⊢;exact ih e
theorem getL(h:All2 R as bs):∀{i:Nat}{a:α},as[i]? = some a->∃b,bs[i]? = some b/\R a b:=by
 induction h with
 | nil=>intro i b e;simp at e
 | cons r _ ih =>
   intro i b e;cases i with
   | zero=>simp only[List.getElem?_cons_zero]at e ⊢;cases e;exact⟨_,rfl,r⟩
   | succ i=>simp only[List.getElem?_cons_succ]at e ⊢;exact ih e
end All2
def Refs{α:Type}(K:Frag)(R:Hp->Addr->α->Prop)(H:Hp)(a:Addr)(xs:List α):Prop:=∃ls:List Addr,ai K H a (ls.map V.ref)/\All2 (R H) ls xs
def lU{α:Type}(R:Hp->Addr->α->Prop):Prop:=∀H H' l x,ae H H'->R H l x->R H' l x
variable {α:Type}{K:Frag}{H H':Hp}{a:Addr}
theorem Refs.same{R:Hp->Addr->α->Prop}(st:lU R){xs:List α}(s:ae H H')(h:Refs K R H a xs):Refs K R H' a xs:=by
 obtain⟨ls,q,r⟩:=h;exact⟨ls,s.seq q,r.imp λa b=>st _ _ _ _ s⟩
def IL(K:Frag)(H:Hp)(l:Addr)(c:List Int):Prop:=ai K H l (c.map V.int)
def gD(K:Frag)(H:Hp)(l:Addr)(p:Int×Int):Prop:=bX K H l [.int p.1,.int p.2]
theorem IL.stays(K:Frag):lU (IL K):=λ_ _ _ _ s h=>ae.seq s h
theorem gD.stays(K:Frag):lU (gD K):=λ_ _ _ _ s h=>s.j8 h
variable {ls:List Addr}{i:Nat}{l:Addr}
theorem wM(h:ls[i]? = some l):(ls.map V.ref)[i]? = some (.ref l):=by rw[q26,h];rfl
theorem wK{x:V}(h:(ls.map V.ref)[i]? = some x):∃l,ls[i]? = some l/\x=.ref l:=by
 rw[q26]at h;cases e:ls[i]? with
 | none=>rw[e]at h;cases h
 | some l=>rw[e]at h;cases h;exact⟨l,rfl,rfl⟩
theorem Ht{ms:List Int}{n:Int}{c:St}{tc:TT}{te:TE}{fin:List V->Hp->Prop}(hS:ai K H a (ms.map V.int))(hz:ms.length<=1000000)
 (hc:∀x (R:Bool->Hp->Prop),R (decide (x<=n)) H->tc (some (.int x)::c) H R) (he:∀x (R:V->Hp->Prop),R (.int x) H->te (some (.int x)::c) H R) (hd:fin ((M3.got ms n).map V.int) H):cU (i5 K a) c tc te H fin:=by
 refine yN (xs:=ms.map V.int) (λi ys H2=>H2=H/\ys=(M3.got (ms.take i) n).map V.int) ⟨rfl,rfl⟩ ?_ (by rw[q06];have:=zq;lia) ?_ ?_
 .rintro i ys H2 hi ⟨rfl,rfl⟩;refine⟨hS,?_⟩;rw[q06];have:=M3.vJ (ms.take i) n;unfold M3.cnt at this;rw[q11]at this
  lia
 .rintro i x ys H2 hx ⟨rfl,rfl⟩;obtain⟨hi,rfl⟩:=yQ hx;refine hc _ _ (yO (λh=>?_) (λh=>?_))
  .refine he _ _ ⟨rfl,?_⟩;rw[M3.Hs n hi,q01 h,q07];rfl
  .refine⟨rfl,?_⟩;rw[M3.Hs n hi,q00 h]
 .rintro ys H2 ⟨rfl,rfl⟩;rw[q06,q15];exact hd
variable {p:Addr}{xs:List V}
theorem bX.put{ys:List V}{o:HO}(h:bX K H a xs)(hp:H p=some (.lst ys)):bX K (upd H p o) a xs:=by
 rcases h with(h | ⟨u,h⟩) | h
 .exact .inl (.inl (by rw[zj (λe=>by rw[e,hp]at h;cases h)];exact h))
 .exact .inl (.inr ⟨u,by rw[zj (λe=>by rw[e,hp]at h;cases h)];exact h⟩)
 .exact .inr h
theorem gD.put{ys:List V}{o:HO}{ps:List (Int×Int)}(h:All2 (gD K H) ls ps)(hp:H p=some (.lst ys)):All2 (gD K (upd H p o)) ls ps:=h.imp λ_ _ r=>bX.put r hp
theorem Hu(ls:List Addr)(x:Addr):upd H l (.lst (ls.map V.ref++[V.ref x])) l=some (.lst ((ls++[x]).map V.ref)):=ze.trans (congrArg (λl=>some (HO.lst l)) (by rw[q07];rfl))
theorem vK{X:Cx}{e:Expr}{t u:TE}(h1:PE X e t)(h2:PE X e u):PE X e (λσ H Q=>t σ H Q\/u σ H Q):=by
 intro pins s σ H Q I h;rcases h with h | h
 .exact h1 pins s σ H Q I h
 .exact h2 pins s σ H Q I h
structure Sh where
 aa:List Int
 struck:List Int
 af:List Str
 card:Str->Option (List Int)
 taken:Nat
 b7:Bool
def wo(c:Int)(l:List Int):List Int:=l.filter λo => !decide (o=c)
namespace Sh
structure Ok (S:Sh):Prop where
 c1:1<=S.aa.length
 cQ:S.aa.length+S.struck.length<=24
 nd:S.aa.Nodup
 cO:∀c∈S.aa,1<=c/\c<=999
 p1:1<=S.af.length
 dw:S.af.length<=15
 so:S.af.Nodup
 cd:∀j c,S.card j=some c->j∈S.af/\c.Perm S.aa
 sr:S.taken<=200
def handed(S:Sh):List Str:=S.af.filter λj=>(S.card j).isSome
def ao(S:Sh):List (List Int):=S.handed.map λj=>(S.card j).getD []
def new(us:List Int)(ts:List Str):Sh:=⟨us,[],ts,λ_=>none,0,false⟩
def hand(S:Sh)(j:Str)(c:List Int):Sh:={ S with card:=λk=>if k=j then some c else S.card k,taken:=S.taken+1 }
def refuse(S:Sh)(j:Str)(c:List Int):Option Str :=
 if S.b7=true then some "SheetSealed" else if j∈S.af then(if c.Perm S.aa then(if 200<=S.taken then some "TooManyCards" else none)else some "BadCard")else some "UnknownJudge"
def bG(S:Sh)(c:Int):Sh:={ S with aa:=wo c S.aa,struck:=S.struck++[c],card:=λj=>(S.card j).map (wo c) }
def bO(S:Sh)(c:Int):Option Str :=
 if S.b7=true then some "SheetSealed" else if c∈S.aa then(if S.aa.length=1 then some "LastCouple" else none)else some "UnknownCouple"
def close(S:Sh):Sh:={ S with b7:=true }
theorem Ok.new{us:List Int}{ts:List Str}(h1:M1.oV us=true)(h2:M2.uq ts=true):(new us ts).Ok:=by
 have g1:=h1;unfold M1.oV at g1;simp only[q42,decide_eq_true_eq,all_map,q39,Function.comp,id]at g1;obtain⟨⟨a1,a2⟩,a3,a4⟩:=g1;obtain⟨⟨b1,b2⟩,b3,_⟩:=(M2.Mg ts).mp h2;exact⟨by show 1<=us.length;lia,by show us.length+0<=24;lia,a3,a4,b1,b2,b3,(λ_ _ h=>nomatch h),zero_le _⟩
theorem Ok.hand{S:Sh}(h:S.Ok){j:Str}{c:List Int}(hr:S.refuse j c=none):(S.hand j c).Ok/\j∈S.af/\c.Perm S.aa/\S.taken<200/\S.b7=false:=by
 unfold refuse at hr;split at hr
 .cases hr
 rename_i h1;split at hr;rename_i h2;split at hr;rename_i h3;split at hr
 .cases hr
 rename_i h4
 .refine⟨⟨h.c1,h.cQ,h.nd,h.cO,h.p1,h.dw,h.so,λk d e=>?_,by show S.taken+1<=200;lia⟩,h2,h3,by lia,by simpa using h1⟩;have e:(if k=j then some c else S.card k)=some d:=e;by_cases ek:k=j
  .rw[q01 ek]at e;cases e;subst ek;exact⟨h2,h3⟩
  .rw[q00 ek]at e;exact h.cd k d e
 .cases hr
 .cases hr
theorem BN{c:Int}{l:List Int}(nd:l.Nodup)(hc:c∈l):(wo c l).length+1=l.length:=by
 unfold wo;have e:(l.filter λo => !decide (o=c))=l.erase c:=by
  rw[nd.erase_eq_filter];refine filter_congr λx _=>?_;by_cases h:x=c
  .subst h;simp
  .simp[h]
 rw[e,List.length_erase_of_mem hc];have:=q30 hc
 lia
theorem Ok.bG{S:Sh}(h:S.Ok){c:Int}(hr:S.bO c=none):(S.bG c).Ok/\c∈S.aa/\2<=S.aa.length/\S.b7=false:=by
 unfold bO at hr;split at hr
 .cases hr
 rename_i h1;split at hr;rename_i h2;split at hr
 .cases hr
 rename_i h3
 .have hl:=BN h.nd h2;have h0:=h.c1;have CJ:=h.cQ;refine⟨⟨?_,?_,h.nd.filter _,λd hd=>h.cO d (q24.mp hd).1,h.p1,h.dw,h.so,λk d e=>?_,h.sr⟩,h2,by lia,by simpa using h1⟩
  .show 1<=(wo c S.aa).length
   lia
  .show(wo c S.aa).length+(S.struck++[c]).length<=24;rw[q08,length_singleton]
   lia
  .have e:(S.card k).map (wo c)=some d:=e;cases q:S.card k with
   | none=>rw[q]at e;cases e
   | some b =>
     rw[q]at e;cases e;exact⟨(h.cd k b q).1,(h.cd k b q).2.filter _⟩
 .cases hr
theorem Ok.close{S:Sh}(h:S.Ok):S.close.Ok:=⟨h.c1,h.cQ,h.nd,h.cO,h.p1,h.dw,h.so,h.cd,h.sr⟩
end Sh
def gE(a1 a2 a3 d:Addr)(S:Sh):List (Str×V):=[("standing",.ref a1),("struck_so_far",.ref a2),("panel",.ref a3),("card_by_judge",.ref d),("taken_so_far",.int S.taken),("sealed",.bl S.b7)]
structure Shape (K:Frag) (H:Hp) (p:Addr) (F:Addr->Prop) (S:Sh) (dx a1 a2 a3 d:Addr) (ax:List (Key×V)):Prop where
 ip:H p=some (.ins (zK K "Sheet") dx (gE a1 a2 a3 d S))
 i1:H a1=some (.lst (S.aa.map V.int))
 i2:H a2=some (.lst (S.struck.map V.int))
 i3:H a3=some (.lst (S.af.map V.str))
 i4:H d=some (.dK ax)
 kl:ax.length<=S.taken
 cn:∀j,S.card j=none->fH ax (Sum.inr j)=none
 cs:∀j c,S.card j=some c->∃l,fH ax (Sum.inr j)=some (.ref l)/\H l=some (.lst (c.map V.int))/\F l/\l≠a2
 fp:F p
 f1:F a1
 f2:F a2
 f3:F a3
 f4:F d
 x9:a1≠a2
 Aa:a3≠a2
 fh:∀b,F b->H b≠none
structure gj (K:Frag) (H:Hp) (p:Addr) (F:Addr->Prop) (S:Sh) (dx a1 a2 a3 d:Addr) (ax:List (Key×V)):Prop extends Shape K H p F S dx a1 a2 a3 d ax where
 ok:S.Ok
def lV(K:Frag)(H:Hp)(p:Addr)(F:Addr->Prop)(S:Sh):Prop:=∃dx a1 a2 a3 d ax,Shape K H p F S dx a1 a2 a3 d ax
def aq(K:Frag)(H:Hp)(p:Addr)(F:Addr->Prop)(S:Sh):Prop:=∃dx a1 a2 a3 d ax,gj K H p F S dx a1 a2 a3 d ax
variable {F:Addr->Prop}{S:Sh}{ax:List (Key×V)}
theorem gj.off{dx a1 a2 a3 d:Addr}(h:gj K H p F S dx a1 a2 a3 d ax)(e:∀b,F b->H' b=H b):gj K H' p F S dx a1 a2 a3 d ax :=
 ⟨⟨(e _ h.fp).trans h.ip,(e _ h.f1).trans h.i1,(e _ h.f2).trans h.i2,(e _ h.f3).trans h.i3,(e _ h.f4).trans h.i4,h.kl,h.cn,
  λj c hc=>let ⟨l,x1,x2,x3,x4⟩:=h.cs j c hc;⟨l,x1,(e _ x3).trans x2,x3,x4⟩,h.fp,h.f1,h.f2,h.f3,h.f4,h.x9,h.Aa,λb hb=>by rw[e b hb];exact h.fh b hb⟩,h.ok⟩
theorem aq.off(h:aq K H p F S)(e:∀b,F b->H' b=H b):aq K H' p F S:=by
 obtain⟨dx,a1,a2,a3,d,ax,h⟩:=h;exact⟨dx,a1,a2,a3,d,ax,h.off e⟩
theorem aq.fh(h:aq K H p F S):∀b,F b->H b≠none:=by
 obtain⟨dx,a1,a2,a3,d,ax,h⟩:=h;exact h.fh
theorem aq.ok(h:aq K H p F S):S.Ok:=by
 obtain⟨dx,a1,a2,a3,d,ax,h⟩:=h;exact h.ok
theorem aq.shape(h:aq K H p F S):lV K H p F S:=by
 obtain⟨dx,a1,a2,a3,d,ax,h⟩:=h;exact⟨dx,a1,a2,a3,d,ax,h.toShape⟩
theorem aq.same(h:aq K H p F S)(s:ae H H'):aq K H' p F S:=h.off λb hb=>by
 have:=h.fh b hb;cases e:H b with
 | none=>exact q02 e this
 | some o=>exact s b o e
def dk(F:Addr->Prop)(H:Hp)(F':Addr->Prop)(H':Hp):Prop:=∀b o,H b=some o->¬F b->H' b=some o/\¬F' b
def LQ(K:Frag)(F:Addr->Prop)(H:Hp)(a:Addr)(xs:List V):Prop :=
 (Rd H a (.lst xs)/\¬F a)\/∃(o:Obj)(aw:Array Value)(n:Nat),K.lookup a=some o/\o.cls=.type "list"/\o.dict=none/\o.data=.seq aw n/\aw.size<=sizeLine/\Vals xs aw.toList
theorem LQ.sq(h:LQ K F H a xs):ai K H a xs:=h.imp (λz=>z.1) id
variable {F':Addr->Prop}
theorem LQ.gF(h:LQ K F H a xs)(d:dk F H F' H'):LQ K F' H' a xs:=by
 rcases h with⟨r | ⟨o,r⟩,n⟩ | h
 .exact .inl ⟨.inl (d a _ r n).1,(d a _ r n).2⟩
 .exact .inl ⟨.inr ⟨o,(d a _ r n).1⟩,(d a _ r n).2⟩
 .exact .inr h
theorem LQ.same(h:LQ K F H a xs)(s:ae H H'):LQ K F H' a xs:=by
 rcases h with⟨r | ⟨o,r⟩,n⟩ | h
 .exact .inl ⟨.inl (s a _ r),n⟩
 .exact .inl ⟨.inr ⟨o,s a _ r⟩,n⟩
 .exact .inr h
theorem LQ.of(h:H a=some (.lst xs))(n:¬F a):LQ K F H a xs:=.inl ⟨.inl h,n⟩
theorem ai.none(h:ai K H a xs):LQ K (λ_=>False) H a xs:=h.imp (λz=>⟨z,λw=>w⟩) id
theorem dk.same(s:ae H H'):dk F H F H':=λb o e n=>⟨s b o e,n⟩
theorem dk.trans{F1 F2:Addr->Prop}{H1 H2:Hp}(a:dk F H F1 H1)(b:dk F1 H1 F2 H2):dk F H F2 H2:=λc o e n=>b c o (a c o e n).1 (a c o e n).2
theorem aq.apart(h:aq K H p F S)(n:H l=none):¬F l:=λz=>h.fh l z n
theorem Hx{x:Addr}{o u i:HO}(hx:H x=some i)(hl:H l=none):upd (upd H l o) x u x=some u/\upd (upd H l o) x u l=some o/\l≠x/\∀b v,H b=some v->b≠x->upd (upd H l o) x u b=some v:=by
 have n:l≠x:=λe=>by rw[e,hx]at hl;cases hl
 exact⟨ze,by rw[zj n];exact ze,n,λb v e nb=>by rw[zj nb,zj (zr e hl)];exact e⟩
theorem Mr(f:Str)(v x:V)(r:List (Str×V)):eV f v ((f,x)::r)=(f,v)::r:=by rw[eV,q01 rfl]
theorem ye{f g:Str}(v x:V)(r:List (Str×V))(h:g≠f):eV f v ((g,x)::r)=(g,x)::eV f v r:=by rw[eV,q00 h]
theorem Xc(v:V):eV "standing" v []=([("standing",v)]:List (Str×V)):=rfl
theorem Xd(u v:V):eV "struck_so_far" v [("standing",u)]=([("standing",u),("struck_so_far",v)]:List (Str×V)):=by rw[ye _ _ _ (by decide)];rfl
theorem Xe(u w v:V):eV "panel" v [("standing",u),("struck_so_far",w)]=([("standing",u),("struck_so_far",w),("panel",v)]:List (Str×V)):=by rw[ye _ _ _ (by decide),ye _ _ _ (by decide)];rfl
theorem Xf(u w y v:V):eV "card_by_judge" v [("standing",u),("struck_so_far",w),("panel",y)]=([("standing",u),("struck_so_far",w),("panel",y),("card_by_judge",v)]:List (Str×V)):=by rw[ye _ _ _ (by decide),ye _ _ _ (by decide),ye _ _ _ (by decide)];rfl
theorem Xg(u w y z v:V):eV "taken_so_far" v [("standing",u),("struck_so_far",w),("panel",y),("card_by_judge",z)]=([("standing",u),("struck_so_far",w),("panel",y),("card_by_judge",z),("taken_so_far",v)]:List (Str×V)):=by rw[ye _ _ _ (by decide),ye _ _ _ (by decide),ye _ _ _ (by decide),ye _ _ _ (by decide)];rfl
theorem Xh(u w y z t v:V):eV "sealed" v [("standing",u),("struck_so_far",w),("panel",y),("card_by_judge",z),("taken_so_far",t)]=([("standing",u),("struck_so_far",w),("panel",y),("card_by_judge",z),("taken_so_far",t),("sealed",v)]:List (Str×V)):=by rw[ye _ _ _ (by decide),ye _ _ _ (by decide),ye _ _ _ (by decide),ye _ _ _ (by decide),ye _ _ _ (by decide)];rfl
theorem Xi(a1 a2 a3 d b:Addr)(S S':Sh)(h:S'.taken=S.taken)(h2:S'.b7=S.b7):eV "standing" (.ref b) (gE a1 a2 a3 d S)=gE b a2 a3 d S':=by unfold gE;rw[Mr,h,h2]
theorem su(a1 a2 a3 d:Addr)(S S':Sh)(h2:S'.b7=S.b7):eV "taken_so_far" (.int S'.taken) (gE a1 a2 a3 d S)=gE a1 a2 a3 d S':=by
 unfold gE;rw[ye _ _ _ (by decide),ye _ _ _ (by decide),ye _ _ _ (by decide),ye _ _ _ (by decide),Mr,h2]
theorem nI(a1 a2 a3 d:Addr)(S S':Sh)(h:S'.taken=S.taken):eV "sealed" (.bl S'.b7) (gE a1 a2 a3 d S)=gE a1 a2 a3 d S':=by
 unfold gE;rw[ye _ _ _ (by decide),ye _ _ _ (by decide),ye _ _ _ (by decide),ye _ _ _ (by decide),ye _ _ _ (by decide),Mr,h]
theorem sx{k:Key}{v u:V}(h:fH ax k=some u):(ie ax k v).length=ax.length:=by
 unfold ie;have:(ax.any λkv=>decide (kv.1=k))=true:=by rw[EU,h];rfl
 rw[q01 this,q06]
theorem aq.ins(h:aq K H p F S):∃dx a1 a2 a3 d,H p=some (.ins (zK K "Sheet") dx (gE a1 a2 a3 d S)):=by
 obtain⟨dx,a1,a2,a3,d,ax,h⟩:=h;exact⟨dx,a1,a2,a3,d,h.ip⟩
def Sh.rows(S:Sh):List (List Int):=S.af.map λj=>(S.card j).getD []
def uu(cs:List (List Int)):List Int:=((List.range cs.length).filter λk => !decide (cs.getD k []=[])).map fun(k:Nat)=>(k:Int)
theorem Sx(l:List α)(d:α):(List.range l.length).map (λk=>l.getD k d)=l:=by
 refine ext_getElem (by simp) λi h1 h2=>?_;simp[h2]
theorem Ms{cs:List (List Int)}{x:Int}(h:x∈uu cs):0<=x/\x.toNat<cs.length/\cs.getD x.toNat []≠[]:=by
 obtain⟨k,hk,rfl⟩:=q25.mp h;obtain⟨h1,h2⟩:=q24.mp hk;have h1:=List.mem_range.mp h1;refine⟨by lia,by simpa using h1,λz=>?_⟩;have e:((k:Int)).toNat=k:=by lia
 rw[e]at z;rw[q19 z]at h2;exact q02 h2 (by decide)
theorem nJ(cs:List (List Int)):(uu cs).length<=cs.length:=by
 unfold uu;rw[q06];exact q38 (q09 _ _) (by rw[q33];exact le_refl _)
theorem Sh.bq(S:Sh):S.rows.length=S.af.length:=by unfold rows;simp
theorem Sh.eA(S:Sh){k:Nat}(h:k<S.af.length):S.rows.getD k []=(S.card (S.af.getD k "")).getD []:=by
 unfold rows;rw[q18,q18,q26,q31 h];rfl
variable {c:List Int}
theorem Sh.Ok.full(h:S.Ok){j:Str}(e:S.card j=some c):c≠[]:=λz=>by
 have:=(h.cd j c e).2.length_eq;have h1:=h.c1;rw[z]at this;simp at this
 lia
theorem Sh.gG(h:S.Ok):(uu S.rows).map (λx=>S.af.getD x.toNat "")=S.handed:=by
 unfold uu Sh.handed;rw[q32]
 conv=>rhs;rw[<-Sx S.af ""]
 rw[filter_map,Sh.bq];have e:(List.range S.af.length).filter (λk => !decide (S.rows.getD k []=[]))=(List.range S.af.length).filter ((λj=>(S.card j).isSome) ∘ λk=>S.af.getD k ""):=by
  refine filter_congr λk hk=>?_;have hk:=List.mem_range.mp hk;rw[S.eA hk];show _=(S.card (S.af.getD k "")).isSome;cases e:S.card (S.af.getD k "")with
  | none=>rfl
  | some c=>rw[show(some c).getD ([]:List Int)=c from rfl,q20 (h.full e)];rfl
 rw[e];refine q43 λk _=>?_;show S.af.getD ((k:Int)).toNat ""=_;rw[show((k:Int)).toNat=k by lia]
theorem Sh.kg(h:S.Ok):(uu S.rows).map (λx=>S.rows.getD x.toNat [])=S.ao:=by
 unfold Sh.ao;rw[<-Sh.gG h,q32];refine q43 λx hx=>?_;have:=Ms hx;rw[S.eA (by rw[<-Sh.bq];exact this.2.1)];rfl
theorem Sh.sy{S:Sh}(h:S.Ok){x:Int}(hx:x∈uu S.rows):S.card (S.af.getD x.toNat "")=some (S.rows.getD x.toNat []):=by
 have hm:=Ms hx;have e:=S.eA (k:=x.toNat) (by rw[<-Sh.bq];exact hm.2.1);cases q:S.card (S.af.getD x.toNat "")with
 | none=>rw[q]at e;exact q02 e hm.2.2
 | some c=>rw[q]at e;rw[e];rfl
theorem Sy(cs:List (List Int))(i:Nat):(((List.range (i+1)).filter λk => !decide (cs.getD k []=[])).map fun(k:Nat)=>(k:Int))=(((List.range i).filter λk => !decide (cs.getD k []=[])).map fun(k:Nat)=>(k:Int))++(if cs.getD i []=[] then [] else [(i:Int)]):=by
 rw[range_succ,q16,q07];congr 1;by_cases h:cs.getD i []=[]
 .rw[q01 h,q17,q00 (by rw[q19 h];decide)];rfl
 .rw[q00 h,q17,q01 (by rw[q20 h];rfl)];rfl
theorem All2.at{β:Type}{R:α->β->Prop}{as:List α}{bs:List β}(h:All2 R as bs)(hi:i<bs.length)(d:β):∃a,as[i]? = some a/\R a (bs.getD i d):=by
 have e:bs[i]? = some (bs.getD i d):=by rw[q18,q31 hi];rfl
 exact h.get e
theorem All2.set{β:Type}{R:α->β->Prop}{as:List α}{bs:List β}(h:All2 R as bs){a:α}{b:β}(r:R a b):∀k,All2 R (as.set k a) (bs.set k b):=by
 induction h with
 | nil=>intro k;exact .nil
 | cons r' h' ih =>
   intro k;cases k with
   | zero=>exact .cons r h'
   | succ k=>exact .cons r' (ih k)
def Rows(F:Addr->Prop)(H:Hp)(lc:Addr)(ls:List Addr)(cs:List (List Int)):Prop:=H lc=some (.lst (ls.map V.ref))/\¬F lc/\All2 (λl c=>H l=some (.lst (c.map V.int))/\¬F l) ls cs
variable {lc:Addr}{cs:List (List Int)}
theorem Rows.len(h:Rows F H lc ls cs):ls.length=cs.length:=h.2.2.length
theorem Rows.gF(h:Rows F H lc ls cs)(d:dk F H F' H'):Rows F' H' lc ls cs :=
 ⟨(d _ _ h.1 h.2.1).1,(d _ _ h.1 h.2.1).2,h.2.2.imp λ_ _ z=>d _ _ z.1 z.2⟩
theorem Rows.same(h:Rows F H lc ls cs)(s:ae H H'):Rows F H' lc ls cs:=h.gF (dk.same s)
theorem lW(h:ls≠[]):(HO.lst (c.map V.int)) ≠ .lst (ls.map V.ref):=λz=>by
 injection z with z
 cases ls with
 | nil=>exact h rfl
 | cons l ls=>cases c with
   | nil=>cases z
   | cons x c=>simp at z
theorem Rows.set(h:Rows F H lc ls cs)(bx:ls≠[]){m:Addr}(hm:H m=some (.lst (c.map V.int)))(nm:¬F m)(k:Nat):
 Rows F (upd H lc (.lst ((ls.map V.ref).set k (.ref m)))) lc (ls.set k m) (cs.set k c):=by
 refine⟨by rw[ze,List.map_set],h.2.1,All2.set (h.2.2.imp λl c z=>⟨?_,z.2⟩) ⟨?_,nm⟩ k⟩
 .rw[zj (wn z.1 h.1 (lW bx))];exact z.1
 .rw[zj (wn hm h.1 (lW bx))];exact hm
theorem Sh.iE(h:S.af.Nodup){k:Nat}(hk:k<S.af.length)(c:List Int):(S.hand (S.af.getD k "") c).rows=S.rows.set k c:=by
 unfold Sh.rows;refine ext_getElem (by simp;rfl) λi h1 h2=>?_;have hi:i<S.af.length:=by simpa using h2
 rw[List.getElem_set];have e1:((S.hand (S.af.getD k "") c).af.map λj=>((S.hand (S.af.getD k "") c).card j).getD [])[i]=(if S.af[i]=S.af.getD k "" then some c else S.card S.af[i]).getD []:=by
  rw[getElem_map];rfl
 rw[e1];have ek:S.af.getD k ""=S.af[k]:=by rw[q18,q31 hk];rfl
 by_cases Mt:k=i
 .subst Mt;rw[q01 ek.symm,q01 rfl];rfl
 .rw[q00 Mt,q00 (λz=>Mt (List.getElem_inj h |>.mp (z.trans ek)).symm),getElem_map]
theorem Sh.jt(S:Sh)(c:Int):(S.bG c).rows=S.rows.map (wo c):=by
 unfold Sh.rows;rw[q32];refine q43 λj _=>?_;show((S.card j).map (wo c)).getD []=wo c ((S.card j).getD []);cases S.card j with
 | none=>rfl
 | some d=>rfl
theorem Sh.vL(h:S.Ok){d:List Int}(hd:d∈S.rows):d.length<=24:=by
 unfold Sh.rows at hd;obtain⟨j,_,rfl⟩:=q25.mp hd;cases e:S.card j with
 | none=>exact zero_le _
 | some c =>
   have:=(h.cd j c e).2.length_eq;have:=h.cQ;show c.length<=24
   lia
end L2
namespace M5
open PySem L2 M3
def key(ms:List Int):Nat->List Int
 | 0=>[]
 | k+1=>(λa:List Int=>if a=[] then [] else a++[-((got ms ((k:Int)+1)).length:Int),(got ms ((k:Int)+1)).sum])
    (if key ms k=[]/\ms.length<2*(got ms ((k:Int)+1)).length then [(k:Int)+1] else key ms k)
def zn(cs:List (List Int))(c:Int):List Int:=cs.map λcard=>(card.idxOf c:Int)+1
def vM(cs:List (List Int))(us:List Int):List (List Int):=us.map λc=>key (zn cs c) us.length
def Bg(rs:List (List Int))(m:List Int):Nat:=(rs.filter λr=>HT.lexLt r m).length
def E8(cs:List (List Int))(us:List Int):List Int:=(vM cs us).map λm=>1+(Bg (vM cs us) m:Int)
def rows(ps us:List Int):List (Int×Int):=(List.range us.length).flatMap fun(i:Nat)=>(ps.zip us).filter λp=>decide (p.1=(i:Int)+1)
theorem lX(ms:List Int):∀k,(key ms k).length<=1+2*k
 | 0=>zero_le _
 | k+1=>by
   have ih:=lX ms k;unfold key;dsimp only;have go:∀a:List Int,a.length<=1+2*k->(if a=[] then [] else a++[-((got ms ((k:Int)+1)).length:Int),(got ms ((k:Int)+1)).sum]).length<=1+2*(k+1):=λa h=>by
    split
    .simp
    .rw[q08,q12,q12,length_nil];lia
   refine go _ ?_;split
   .rw[q12,length_nil];lia
   .exact ih
theorem ya(cs:List (List Int))(c:Int):(zn cs c).length=cs.length:=by unfold zn;simp
theorem bq(ps us:List Int)(h:ps.length=us.length):(rows ps us).length<=us.length*us.length:=by
 unfold rows;have go:∀n:Nat,((List.range n).flatMap fun(i:Nat)=>(ps.zip us).filter λp=>decide (p.1=(i:Int)+1)).length<=n*us.length:=λn=>by
  induction n with
  | zero=>simp
  | succ n ih =>
    rw[range_succ,flatMap_append,q08,succ_mul];have h1:=q09 (λp=>decide (p.1=(n:Int)+1)) (ps.zip us);rw[length_zip,h,Nat.min_self]at h1;have e:flatMap (fun(i:Nat)=>(ps.zip us).filter λp=>decide (p.1=(i:Int)+1)) [n]=(ps.zip us).filter λp=>decide (p.1=(n:Int)+1):=by simp
    rw[e]
    lia
 exact go us.length
end M5
namespace M6
open PySem L2 M3 M5
abbrev Sg:=Option (Int×Int)
def sg(a:List Int)(k:Int):Sg:=if a.length<2*cnt a k then some ((cnt a k:Int),sm a k)else none
def nK:Sg->Sg->Bool
 | some _,none=>true
 | none,_=>false
 | some p,some q=>decide (q.1<p.1) || (decide (p.1=q.1) && decide (p.2<q.2))
def zR:List Sg->List Sg->Bool
 | x::xs,y::ys=>if x=y then zR xs ys else nK x y
 | _,_=>false
def wR(a:List Int)(n:Nat):List Sg:=(List.range n).map fun(i:Nat)=>sg a ((i:Int)+1)
def yq(a b:List Int)(n:Nat):Bool:=zR (wR a n) (wR b n)
theorem Mu(k:Nat)(x:Sg)(xs ys:List Sg):zR (replicate k x++xs) (replicate k x++ys)=zR xs ys:=by
 induction k with
 | zero=>rfl
 | succ k ih=>rw[replicate_succ,cons_append,cons_append,zR,q01 rfl];exact ih
def tl(a:List Int)(f m:Nat):List Int:=(List.range m).flatMap fun(i:Nat)=>[-(cnt a ((f:Int)+i):Int),sm a ((f:Int)+i)]
theorem lY(a:List Int)(f m:Nat):tl a f (m+1)=tl a f m++[-(cnt a ((f:Int)+m):Int),sm a ((f:Int)+m)]:=by
 unfold tl;rw[range_succ,flatMap_append];simp
theorem Sz{a:List Int}:∀{k:Nat},(∀j:Nat,j<=k->1<=j->2*cnt a j<=a.length)->key a k=[]
 | 0,_=>rfl
 | k+1,h=>by
   have ih:=Sz (a:=a) (k:=k) λj hj h1=>h j (by lia) h1;have hk:=h (k+1) (le_refl _) (by lia);have e:((k+1:Nat):Int)=(k:Int)+1:=by lia
   rw[e]at hk;unfold cnt at hk;unfold key;rw[ih,q00 (λz=>q02 z.2 (by lia))];rfl
theorem Mv{a:List Int}{f:Nat}(h1:1<=f)(hf:dQ a f):∀m:Nat,key a (f+m)=(f:Int)::tl a f (m+1)
 | 0=>by
   obtain⟨g,rfl⟩:∃g,f=g+1:=⟨f-1,by lia⟩;have e:((g+1:Nat):Int)=(g:Int)+1:=by lia
   have Mw:key a g=[]:=Sz λj hj WH=>by
    have:=BM (ms:=a) (show(j:Int)<=((g+1:Nat):Int)-1 by lia);have:=hf.2
    lia
   have vN:=hf.1;rw[e]at vN;unfold cnt at vN;show key a (g+1)=_;unfold key;rw[Mw,q01 ⟨rfl,vN⟩,lY];have e0:((g+1:Nat):Int)+((0:Nat):Int)=(g:Int)+1:=by lia
   rw[e0,e];rfl
 | m+1=>by
   have ih:=Mv h1 hf m;show key a ((f+m)+1)=_;unfold key;rw[ih,q00 (λz=>by cases z.1),lY a f (m+1)];have e:((f+m:Nat):Int)+1=(f:Int)+((m+1:Nat):Int):=by lia
   rw[e];rfl
variable {a:List Int}{k:Int}
theorem Ab(h:2*cnt a k<=a.length):sg a k=none:=by unfold sg;rw[q00 (by lia)]
theorem wF(h:a.length<2*cnt a k):sg a k=some ((cnt a k:Int),sm a k):=by unfold sg;rw[q01 h]
theorem SA{f m:Nat}(h1:1<=f)(hf:dQ a f):wR a (f+m)=replicate (f-1) none++(List.range (m+1)).map fun(i:Nat)=>some ((cnt a ((f:Int)+i):Int),sm a ((f:Int)+i)):=by
 refine ext_getElem ?_ λi gS ui=>?_
 .unfold wR;simp;lia
 .have hi:i<f+m:=by unfold wR at gS;simpa using gS
  have e1:(wR a (f+m))[i]=sg a ((i:Int)+1):=by
   have:(wR a (f+m))[i]? = some (sg a ((i:Int)+1)):=by
    show((List.range (f+m)).map fun(i:Nat)=>sg a ((i:Int)+1))[i]? = _;rw[q26,q36 hi];rfl
   rw[q31 gS]at this;exact q22 this
  rw[e1];by_cases c:i<f-1
  .rw[List.getElem_append_left (by simpa using c),List.getElem_replicate];refine Ab ?_;have:=BM (ms:=a) (show(i:Int)+1<=(f:Int)-1 by lia);have:=hf.2
   lia
  .rw[List.getElem_append_right (by simpa using c)];simp only[q34,getElem_map,getElem_range];have e2:(f:Int)+((i-(f-1):Nat):Int)=(i:Int)+1:=by lia
   rw[e2];refine wF ?_;have:=BM (ms:=a) (show(f:Int)<=(i:Int)+1 by lia);have:=hf.1
   lia
theorem SD(c s c' s':Nat->Int):∀(m j:Nat),HT.lexLt ((range' j m).flatMap fun(i:Nat)=>[-c i,s i]) ((range' j m).flatMap fun(i:Nat)=>[-c' i,s' i])=zR ((range' j m).map fun(i:Nat)=>some (c i,s i)) ((range' j m).map fun(i:Nat)=>some (c' i,s' i))
 | 0,j=>rfl
 | m+1,j=>by
   rw[List.range'_succ,flatMap_cons,flatMap_cons,map_cons,map_cons];show HT.lexLt (-c j::s j::_) (-c' j::s' j::_)=_;rw[HT.di,HT.di,zR,<-SD c s c' s' m (j+1)];by_cases h1:c j=c' j
   .rw[q01 (by rw[h1])];by_cases h2:s j=s' j
    .rw[q01 h2,q01 (by rw[h1,h2])];rfl
    .rw[q00 h2,q00 (λz=>h2 (by injection z with z;exact(Prod.mk.inj z).2))];show _=(decide (c' j<c j) || (decide (c j=c' j) && decide (s j<s' j)));rw[q20 (show ¬c' j<c j by lia),q19 h1];rfl
   .rw[q00 (λz=>h1 (by lia)),q00 (λz=>h1 (by injection z with z;exact(Prod.mk.inj z).1))];show _=(decide (c' j<c j) || (decide (c j=c' j) && decide (s j<s' j)));rw[q20 h1,Bool.false_and,Bool.or_false];by_cases h3:c' j<c j
    .rw[q19 h3,q19 (by lia)]
    .rw[q20 h3,q20 (by lia)]
theorem lZ{α:Type}(m n:Nat)(x:α):replicate (m+n) x=replicate m x++replicate n x:=by simp
variable {b:List Int}{n:Nat}
theorem nM{f g:Nat}(SE:1<=f)(Hn:1<=g)(hf:dQ a f)(hg:dQ b g)(GI:f<=n)(SF:g<=n):HT.lexLt (key a n) (key b n)=yq a b n:=by
 obtain⟨m,rfl⟩:∃m,n=f+m:=⟨n-f,by lia⟩;obtain⟨k,hk⟩:∃k,f+m=g+k:=⟨f+m-g,by lia⟩;unfold yq;rw[Mv SE hf m,SA SE hf];rw[hk,Mv Hn hg k,SA Hn hg,HT.di];rcases Nat.lt_trichotomy f g with h | h | h
 .rw[q00 (by lia),q19 (show(f:Int)<g by lia)];obtain⟨d,hd⟩:∃d,g-1=(f-1)+(d+1):=⟨g-1-(f-1)-1,by lia⟩;rw[hd,lZ,append_assoc,Mu,range_succ_eq_map,map_cons,replicate_succ,cons_append,zR,q00 (by intro z;cases z)];rfl
 .subst h;have:k=m:=by lia
  subst this;rw[q01 rfl,Mu];have:=SD (λi=>(cnt a ((f:Int)+i):Int)) (λi=>sm a ((f:Int)+i)) (λi=>(cnt b ((f:Int)+i):Int)) (λi=>sm b ((f:Int)+i)) (k+1) 0;rw[<-List.range_eq_range']at this;exact this
 .rw[q00 (by lia),q20 (show ¬(f:Int)<g by lia)];obtain⟨d,hd⟩:∃d,f-1=(g-1)+(d+1):=⟨f-1-(g-1)-1,by lia⟩;rw[hd,lZ,append_assoc,Mu,range_succ_eq_map (n:=k),map_cons,replicate_succ,cons_append,zR,q00 (by intro z;cases z)];rfl
theorem SG{a:List Int}(K1:∀x∈a,1<=x):∀n:Nat,a.length<2*cnt a n->∃f:Nat,1<=f/\f<=n/\dQ a f
 | 0,h=>by
   have:=Mp (ms:=a) (n:=((0:Nat):Int)) λx hx=>by have:=K1 x hx;lia
   lia
 | n+1,h=>by
   by_cases c:a.length<2*cnt a n
   .obtain⟨f,h1,h2,h3⟩:=SG K1 n c;exact⟨f,h1,by lia,h3⟩
   .refine⟨n+1,by lia,le_refl _,h,?_⟩;have e:((n+1:Nat):Int)-1=(n:Int):=by lia
    rw[e]
    lia
theorem SH(bx:a≠[])(h:∀x∈a,1<=x/\x<=n):∃f:Nat,1<=f/\f<=n/\dQ a f :=
 SG (λx hx=>(h x hx).1) n (by
  rw[Mq λx hx=>(h x hx).2];have:=List.length_pos_iff.mpr bx
  lia)
theorem ma{n:Int}(h:∀x∈a,x<=n)(hk:n<=k):sg a k=sg a n:=by
 have e:got a k=got a n:=by
  unfold got;exact filter_congr λx hx=>by
   have:=h x hx;rw[q19 (by lia),q19 this]
 unfold sg cnt sm;rw[e]
theorem SI(a:List Int)(n:Nat):wR a (n+1)=wR a n++[sg a ((n:Int)+1)]:=by unfold wR;rw[range_succ,q07];rfl
theorem CK(a:List Int)(n:Nat):(wR a n).length=n:=by unfold wR;simp
theorem SJ:∀{xs ys:List Sg}{x y:Sg},xs.length=ys.length->(x=y\/xs≠ys)->zR (xs++[x]) (ys++[y])=zR xs ys
 | [],[],x,y,_,h=>by
   rcases h with h | h
   .subst h;show(if x=x then false else nK x x)=false;rw[q01 rfl]
   .exact q02 rfl h
 | p::xs,q::ys,x,y,hl,h=>by
   rw[cons_append,cons_append,zR,zR];by_cases e:p=q
   .subst e;rw[q01 rfl,q01 rfl];exact SJ (by simpa using hl) (h.imp id λz w=>z (by rw[w]))
   .rw[q00 e,q00 e]
theorem Mx(h1:1<=n)(ha:∀x∈a,x<=n)(hb:∀x∈b,x<=n):∀k,yq a b (n+k)=yq a b n
 | 0=>rfl
 | k+1=>by
   rw[<-Mx h1 ha hb k];show zR (wR a ((n+k)+1)) (wR b ((n+k)+1))=_;rw[SI,SI];refine SJ (by rw[CK,CK]) ?_;by_cases e:wR a (n+k)=wR b (n+k)
   .left;have:(wR a (n+k))[n-1]? = (wR b (n+k))[n-1]? := by rw[e]
    unfold wR at this;rw[q26,q26,q36 (by lia)]at this;have this:sg a (((n-1:Nat):Int)+1)=sg b (((n-1:Nat):Int)+1):=q22 this;have en:((n-1:Nat):Int)+1=(n:Int):=by lia
    rw[en]at this;rw[ma ha (by lia),ma hb (by lia)];exact this
   .exact .inr e
theorem nN{m:Nat}(h1:1<=n)(hm:1<=m)(ha:∀x∈a,x<=n/\x<=m)(hb:∀x∈b,x<=n/\x<=m):yq a b n=yq a b m:=by
 rcases Nat.le_total n m with h | h
 .obtain⟨k,rfl⟩:=Nat.exists_eq_add_of_le h;exact(Mx h1 (λx hx=>(ha x hx).1) (λx hx=>(hb x hx).1) k).symm
 .obtain⟨k,rfl⟩:=Nat.exists_eq_add_of_le h;exact Mx hm (λx hx=>(ha x hx).2) (λx hx=>(hb x hx).2) k
def vO:Sg->Sg->Str
 | some p,some q=>if p.1=q.1 then "sum" else "count"
 | _,_=> "half"
def wf(a b:List Int)(n:Nat):Option (Nat×Str)->Prop
 | none=>∀k:Nat,1<=k->k<=n->sg a k=sg b k
 | some r=>1<=r.1/\r.1<=n/\(∀j:Nat,1<=j->j<r.1->sg a j=sg b j)/\sg a r.1≠sg b r.1/\r.2=vO (sg a r.1) (sg b r.1)
theorem Hy{r r':Option (Nat×Str)}(h:wf a b n r)(h':wf a b n r'):r=r':=by
 cases r with
 | none =>
   cases r' with
   | none=>rfl
   | some q=>exact q02 (h q.1 h'.1 h'.2.1) h'.2.2.2.1
 | some p =>
   cases r' with
   | none=>exact q02 (h' p.1 h.1 h.2.1) h.2.2.2.1
   | some q =>
     obtain⟨k,w⟩:=p;obtain⟨j,v⟩:=q;obtain⟨a1,a2,a3,a4,a5⟩:=h;obtain⟨b1,b2,b3,b4,b5⟩:=h';dsimp only at a1 a2 a3 a4 a5 b1 b2 b3 b4 b5;have e:k=j:=by
      rcases Nat.lt_trichotomy k j with c | c | c
      .exact q02 (b3 k a1 c) a4
      .exact c
      .exact q02 (a3 j b1 c) b4
     subst e;rw[a5,b5]
theorem SK:∀{xs ys:List Sg}(k:Nat)(h1:k<xs.length)(h2:k<ys.length),(∀j,j<k->xs[j]? = ys[j]?)->xs[k]≠ys[k]->zR xs ys=nK xs[k] ys[k]
 | x::xs,y::ys,0,_,_,_,bx=>by rw[zR,q00 (show ¬x=y from bx)];rfl
 | x::xs,y::ys,k+1,h1,h2,he,bx=>by
   have e:x=y:=by have:=he 0 (by lia);simpa using this
   rw[zR,q01 e];exact SK k (by simpa using h1) (by simpa using h2) (λj hj=>by have:=he (j+1) (by lia);simpa using this) (by simpa using bx)
theorem SM:∀(xs:List Sg),zR xs xs=false
 | []=>rfl
 | x::xs=>by rw[zR,q01 rfl];exact SM xs
theorem Hz(a:List Int){k:Nat}(h:k<n):(wR a n)[k]? = some (sg a ((k:Int)+1)):=by
 unfold wR;rw[q26,q36 h];rfl
theorem Xj(h:wf a b n none):yq a b n=false:=by
 have e:wR a n=wR b n:=by
  unfold wR;refine q43 λi hi=>?_;have hi:=List.mem_range.mp hi;have:=h (i+1) (by lia) (by lia);have ei:((i+1:Nat):Int)=(i:Int)+1:=by lia
  rw[ei]at this;exact this
 unfold yq;rw[e];exact SM _
theorem My{r:Nat×Str}(h:wf a b n (some r)):yq a b n=nK (sg a r.1) (sg b r.1):=by
 obtain⟨k,w⟩:=r;obtain⟨a1,a2,a3,a4,a5⟩:=h;dsimp only at a1 a2 a3 a4 a5 ⊢;obtain⟨j,rfl⟩:∃j,k=j+1:=⟨k-1,by lia⟩;have ej:((j+1:Nat):Int)=(j:Int)+1:=by lia
 have l1:j<(wR a n).length:=by rw[CK];lia
 have l2:j<(wR b n).length:=by rw[CK];lia
 have g1:(wR a n)[j]=sg a ((j+1:Nat):Int):=by
  have:=Hz a (n:=n) (k:=j) (by lia);rw[q31 l1]at this;rw[ej];exact q22 this
 have g2:(wR b n)[j]=sg b ((j+1:Nat):Int):=by
  have:=Hz b (n:=n) (k:=j) (by lia);rw[q31 l2]at this;rw[ej];exact q22 this
 unfold yq;rw[SK j l1 l2 (λi hi=>?_) (by rw[g1,g2];exact a4),g1,g2];rw[Hz a (by lia),Hz b (by lia)];have:=a3 (i+1) (by lia) (by lia);have ei:((i+1:Nat):Int)=(i:Int)+1:=by lia
 rw[ei]at this;rw[this]
end M6
namespace L2
open PySem
end L2
namespace M6
open PySem L2 M3 M5
def zA(cs:List (List Int))(us:List Int):List Int:=us.map λc=>1+((us.filter λd=>yq (zn cs d) (zn cs c) us.length).length:Int)
variable {cs:List (List Int)}{us:List Int}{c:Int}
theorem yA(hp:∀d∈cs,d.Perm us)(hc:c∈us):∀x∈zn cs c,1<=x/\x<=us.length:=λx hx=>by
 unfold zn at hx;obtain⟨d,hd,rfl⟩:=q25.mp hx;have h:=hp d hd;have:d.idxOf c<d.length:=idxOf_lt_length_of_mem (h.mem_iff.mpr hc);have:=h.length_eq
 lia
theorem SN(h:1<=cs.length):zn cs c≠[]:=λe=>by
 have:=ya cs c;rw[e]at this;simp at this
 lia
theorem BO{d:Int}(hp:∀d∈cs,d.Perm us)(h1:1<=cs.length)(hc:c∈us)(hd:d∈us):HT.lexLt (key (zn cs c) us.length) (key (zn cs d) us.length)=yq (zn cs c) (zn cs d) us.length:=by
 obtain⟨f,f1,f2,f3⟩:=SH (SN h1) (yA hp hc);obtain⟨g,g1,g2,g3⟩:=SH (SN h1) (yA hp hd);exact nM f1 g1 f3 g3 f2 g2
theorem E9(hp:∀d∈cs,d.Perm us)(h1:1<=cs.length):E8 cs us=zA cs us:=by
 unfold E8 zA vM;rw[q32];refine q43 λc hc=>?_;show 1+(M5.Bg (us.map λc=>key (zn cs c) us.length) (key (zn cs c) us.length):Int)=_;unfold M5.Bg;rw[filter_map,q06];congr 3;exact filter_congr λd hd=>BO hp h1 hd hc
theorem yW(cs:List (List Int))(us:List Int):(zA cs us).length=us.length:=by unfold zA;simp
def oW(ms:List Int)(n:Nat):List (Int×Int):=(List.range n).map fun(i:Nat)=>((cnt ms ((i:Int)+1):Int),sm ms ((i:Int)+1))
theorem SO(ms:List Int)(n:Nat):oW ms (n+1)=oW ms n++[((cnt ms ((n:Int)+1):Int),sm ms ((n:Int)+1))]:=by unfold oW;rw[range_succ,q07];rfl
theorem HA(ms:List Int)(n:Nat):(oW ms n).length=n:=by unfold oW;simp
theorem nQ(p q:Sg):vO p q=vO q p:=by
 cases p with
 | none=>cases q <;> rfl
 | some p=>cases q with
   | none=>rfl
   | some q =>
     show(if p.1=q.1 then("sum":Str)else("count":Str))=if q.1=p.1 then("sum":Str)else("count":Str)
     by_cases h:p.1=q.1
     .rw[q01 h,q01 h.symm]
     .rw[q00 h,q00 λz=>h z.symm]
theorem Xk{a b:List Int}{n:Nat}{r:Option (Nat×Str)}(h:wf a b n r):wf b a n r:=by
 cases r with
 | none=>exact λk h1 h2=>(h k h1 h2).symm
 | some r=>exact⟨h.1,h.2.1,λj h1 h2=>(h.2.2.1 j h1 h2).symm,λz=>h.2.2.2.1 z.symm,by rw[nQ];exact h.2.2.2.2⟩
end M6
namespace L2
open PySem
def Told(K:Frag)(H:Hp)(x:V):Option (Nat×Str)->Prop
 | none=>x=.bH
 | some r=>∃l,x=.ref l/\bX K H l [.int (r.1:Nat),.str r.2]
end L2
namespace M3
open PySem L2
theorem SQ{a b:List Int}(h:a.Perm b)(n:Int):cnt a n=cnt b n:=(h.filter _).length_eq
theorem SR(a b:List Int)(n:Int):cnt (a++b) n=cnt a n+cnt b n:=by
 unfold cnt got;rw[q16,q08]
theorem sC{a b:List Int}(h:a.Perm b){f:Int}(hf:dQ a f):dQ b f:=by
 unfold dQ at *;rw[<-SQ h,<-SQ h,<-h.length_eq];exact hf
theorem Xl{ns:List Int}(hs:ns.Pairwise (·<= ·))(bx:ns≠[]):dQ ns (ns.getD (ns.length/2) 0):=by
 have hn:=List.length_pos_iff.mpr bx;have hk:ns.length/2<ns.length:=by lia
 generalize hK:ns.length/2=k at hk ⊢;have e:ns=ns.take k++ns.drop k:=(q35 k ns).symm;have ed:ns.drop k=ns.getD k 0::ns.drop (k+1):=by rw[Cv hk];exact drop_eq_getElem_cons hk
 generalize ns.getD k 0=f at ed ⊢;have lt:(ns.take k).length=k:=by rw[q11];lia
 rw[e]at hs;obtain⟨h1,h2,h3⟩:=List.pairwise_append.mp hs;rw[ed]at h2 h3;have h4:=List.pairwise_cons.mp h2;unfold dQ;constructor
 .have a1:cnt (ns.take k) f=k:=by rw[Mq λx hx=>h3 x hx f (q14 ..),lt]
  have a2:1<=cnt (ns.drop k) f:=by
   rw[ed];unfold cnt got;rw[q17,q01 (q19 (Int.le_refl f)),q12]
   lia
  have a3:cnt ns f=cnt (ns.take k) f+cnt (ns.drop k) f:=by rw[<-SR,<-e]
  lia
 .have a1:=vJ (ns.take k) (f-1);have a2:cnt (ns.drop k) (f-1)=0:=by
   refine Mp λx hx=>?_;rw[ed]at hx;rcases q27.mp hx with z | z
   .lia
   .have:=h4.1 x z;lia
  have a3:cnt ns (f-1)=cnt (ns.take k) (f-1)+cnt (ns.drop k) (f-1):=by rw[<-SR,<-e]
  lia
end M3
namespace M6
open PySem L2 M3 M5
def Fb(a b:List Int)(f:Int):Option Int->Prop
 | none=>∀k,f<=k->cnt a k=cnt b k/\sm a k=sm b k
 | some n=>f<=n/\n<=24/\(∀j,f<=j->j<n->cnt a j=cnt b j/\sm a j=sm b j)/\¬(cnt a n=cnt b n/\sm a n=sm b n)
variable {a:List Int}{f:Int}
theorem uv{j:Int}(hf:dQ a f)(hj:j<f):sg a j=none:=by
 refine Ab ?_;have:=BM (ms:=a) (show j<=f-1 by lia);have:=hf.2
 lia
theorem nR{j:Int}(hf:dQ a f)(hj:f<=j):sg a j=some ((cnt a j:Int),sm a j):=by
 refine wF ?_;have:=BM (ms:=a) hj;have:=hf.1
 lia
variable {b:List Int}{g:Int}
theorem Mz(hf:dQ a f)(hg:dQ b g)(h:f<g)(h1:1<=f)(h2:f<=24):wf a b 24 (some (f.toNat,"half")):=by
 have e:((f.toNat:Nat):Int)=f:=by lia
 refine⟨by dsimp only;lia,by dsimp only;lia,λj j1 j2=>?_,?_,?_⟩
 .dsimp only at j2;rw[uv hf (by lia),uv hg (by lia)]
 .dsimp only;rw[e,nR hf (Int.le_refl _),uv hg h];exact λz=>nomatch z
 .dsimp only;rw[e,nR hf (Int.le_refl _),uv hg h];rfl
theorem me(hf:dQ a f)(hg:dQ b g)(h:g<f)(h1:1<=g)(h2:g<=24):wf a b 24 (some (g.toNat,"half")):=Xk (Mz hg hf h h1 h2)
theorem SS(hf:dQ a f)(hg:dQ b f)(h:Fb a b f none):wf a b 24 none:=λk k1 k2=>by
 by_cases c:(k:Int)<f
 .rw[uv hf c,uv hg c]
 .obtain⟨e1,e2⟩:=h k (by lia);rw[nR hf (by lia),nR hg (by lia),e1,e2]
theorem SU{n:Int}(hf:dQ a f)(hg:dQ b f)(h1:1<=f)(h:Fb a b f (some n)):wf a b 24 (some (n.toNat,if(cnt a n:Int)=cnt b n then "sum" else "count")):=by
 obtain⟨a1,a2,a3,a4⟩:=h;have e:((n.toNat:Nat):Int)=n:=by lia
 refine⟨by dsimp only;lia,by dsimp only;lia,λj j1 j2=>?_,?_,?_⟩
 .dsimp only at j2;by_cases c:(j:Int)<f
  .rw[uv hf c,uv hg c]
  .obtain⟨e1,e2⟩:=a3 j (by lia) (by lia);rw[nR hf (by lia),nR hg (by lia),e1,e2]
 .dsimp only;rw[e,nR hf a1,nR hg a1];intro z;injection z with z
  injection z with z1 z2
  exact a4 ⟨by lia,z2⟩
 .dsimp only;rw[e,nR hf a1,nR hg a1];rfl
theorem sD(hf:dQ a f)(hg:dQ b g)(h:f<g)(h1:1<=f)(h2:f<=24):yq a b 24=true:=by
 rw[My (Mz hf hg h h1 h2)];dsimp only;have e:((f.toNat:Nat):Int)=f:=by lia
 rw[e,nR hf (Int.le_refl _),uv hg h];rfl
theorem sE(hf:dQ a f)(hg:dQ b g)(h:g<f)(h1:1<=g)(h2:g<=24):yq a b 24=false:=by
 rw[My (me hf hg h h1 h2)];dsimp only;have e:((g.toNat:Nat):Int)=g:=by lia
 rw[e,uv hf h];rfl
theorem sF{n:Int}(hf:dQ a f)(hg:dQ b f)(h1:1<=f)(h:Fb a b f (some n)):yq a b 24=if(cnt a n:Int)=cnt b n then decide (sm a n<sm b n)else decide ((cnt b n:Int)<cnt a n):=by
 rw[My (SU hf hg h1 h)];dsimp only;have e:((n.toNat:Nat):Int)=n:=by have:=h.1;lia
 rw[e,nR hf h.1,nR hg h.1];show(decide ((cnt b n:Int)<cnt a n) || (decide ((cnt a n:Int)=cnt b n) && decide (sm a n<sm b n)))=_;by_cases c:(cnt a n:Int)=cnt b n
 .rw[q01 c,q19 c,q20 (show ¬(cnt b n:Int)<cnt a n by lia)];rfl
 .rw[q00 c,q20 c,Bool.false_and,Bool.or_false]
theorem kh{M:Int}(ha:∀x∈a,x<=M)(hb:∀x∈b,x<=M)(hM:f<=M)(h:∀j,f<=j->j<=M->cnt a j=cnt b j/\sm a j=sm b j):Fb a b f none:=λk hk=>by
 by_cases c:k<=M
 .exact h k hk c
 .have ea:got a k=got a M:=by
   unfold got;exact filter_congr λx hx=>by have:=ha x hx;rw[q19 (by lia),q19 this]
  have eb:got b k=got b M:=by
   unfold got;exact filter_congr λx hx=>by have:=hb x hx;rw[q19 (by lia),q19 this]
  have:=h M hM (Int.le_refl _);unfold cnt sm at *;rw[ea,eb];exact this
theorem nS{cs:List (List Int)}{us:List Int}(hp:∀d∈cs,d.Perm us)(h1:1<=us.length)(CJ:us.length<=24):zA cs us=us.map λc=>1+(((us.map (zn cs)).filter λr=>yq r (zn cs c) 24).length:Int):=by
 unfold zA;refine q43 λc hc=>?_;rw[filter_map,q06];congr 3;refine filter_congr λd hd=>?_;refine nN h1 (by lia) (λx hx=>?_) (λx hx=>?_)
 .have:=yA hp hd x hx;lia
 .have:=yA hp hc x hx;lia
end M6
namespace L2
open PySem
variable {S:Sh}
theorem Sh.aM(ok:S.Ok):∀d∈S.ao,d.Perm S.aa:=λd hd=>by
 obtain⟨j,hj,rfl⟩:=q25.mp hd;have h2:=(q24.mp hj).2;cases e:S.card j with
 | none=>rw[e]at h2;cases h2
 | some c=>exact(ok.cd j c e).2
theorem Sh.aI(S:Sh):S.ao.length=S.handed.length:=by unfold Sh.ao;simp
def Sh.aS(S:Sh)(j:Str):List (List Int):=(S.handed.filter λi => !decide (i=j)).map λi=>(S.card i).getD []
theorem Sh.dn(ok:S.Ok)(j:Str):∀d∈S.aS j,d.Perm S.aa:=λd hd=>by
 obtain⟨i,hi,rfl⟩:=q25.mp hd;exact Sh.aM ok _ (List.mem_map_of_mem (q24.mp hi).1)
theorem Sh.fc(ok:S.Ok)(j:Str):(!decide ((S.card j).getD []=[]))=(S.card j).isSome:=by
 cases e:S.card j with
 | none=>rfl
 | some c=>rw[show(some c).getD ([]:List Int)=c from rfl,q20 (ok.full e)];rfl
theorem Sh.bP(ok:S.Ok):S.ao=S.rows.filter λd => !decide (d=[]):=by
 unfold Sh.ao Sh.handed Sh.rows;rw[filter_map];congr 1;exact filter_congr λj _=>(Sh.fc ok j).symm
theorem SV:∀{l:List Str},l.Nodup->∀{k:Nat}(hk:k<l.length),(l.filter λi => !decide (i=l[k]))=l.take k++l.drop (k+1)
 | a::l,nd,0,_=>by
   have h:=List.nodup_cons.mp nd;show((a::l).filter λi => !decide (i=a))=l;rw[q17,q00 (by rw[q19 rfl];decide),List.filter_eq_self];intro x hx;have:¬x=a:=λz=>h.1 (z ▸ hx);rw[q20 this];rfl
 | a::l,nd,k+1,hk=>by
   have h:=List.nodup_cons.mp nd;have sG:k<l.length:=by simpa using hk
   show((a::l).filter λi => !decide (i=l[k]))=a::(l.take k++l.drop (k+1));have:¬a=l[k]:=λz=>h.1 (z ▸ q44 sG);rw[q17,q01 (by rw[q20 this];rfl),SV h.2 sG]
theorem Sh.fe(ok:S.Ok){k:Nat}(hk:k<S.af.length):S.aS (S.af.getD k "")=(S.rows.take k++S.rows.drop (k+1)).filter λd => !decide (d=[]):=by
 have e:S.af.getD k ""=S.af[k]:=by rw[q18,q31 hk];rfl
 unfold Sh.aS Sh.handed Sh.rows;rw[e,filter_filter,<-map_take,<-map_drop,<-q07,<-SV ok.so hk,filter_map,filter_filter];congr 1;refine filter_congr λj _=>?_;show((!decide (j=S.af[k])) && (S.card j).isSome)=((!decide ((S.card j).getD []=[])) && (!decide (j=S.af[k])));rw[Sh.fc ok j,Bool.and_comm]
theorem Sh.gH(ok:S.Ok):S.handed.length=(S.rows.filter λd => !decide (d=[])).length:=by rw[<-Sh.bP ok,Sh.aI]
theorem Sh.dR{j:Str}(nd:S.af.Nodup)(hj:j∈S.handed):(S.aS j).length+1=S.handed.length:=by
 unfold Sh.aS;rw[q06];have hn:S.handed.Nodup:=nd.filter _;have e:(S.handed.filter λi => !decide (i=j))=S.handed.erase j:=by
  rw[hn.erase_eq_filter];refine filter_congr λx _=>?_;by_cases h:x=j
  .simp[h]
  .simp[h]
 rw[e,List.length_erase_of_mem hj];have:=q30 hj
 lia
theorem CL{K:Frag}{a:Addr}{ls:List Addr}{cs:List (List Int)}{c:St}{tc:TT}{te:TE}{H:Hp}{fin:List V->Hp->Prop}(hA:ai K H a (ls.map V.ref))(hR:All2 (IL K H) ls cs)(hz:cs.length<=1000)
 (MA:∀(m:Addr)(d:List Int)(H':Hp)(Q:Bool->Hp->Prop),ai K H' m (d.map V.int)->(∀H2,ae H' H2->Q (!decide (d=[])) H2)->tc (some (.ref m)::c) H' Q)
 (sH:∀(m:Addr)(H':Hp)(Q:VK),Q (.ref m) H'->te (some (.ref m)::c) H' Q)
 (hd:∀(ks:List Addr)(H':Hp),ae H H'->All2 (IL K H') ks (cs.filter λd => !decide (d=[]))->fin (ks.map V.ref) H'):cU (i5 K a) c tc te H fin:=by
 have bY:=zq;have hl:=hR.length;refine yN (xs:=ls.map V.ref) (λi ys H2=>∃ks:List Addr,ys=ks.map V.ref/\ae H H2/\All2 (IL K H2) ks ((cs.take i).filter λd => !decide (d=[]))) ⟨[],rfl,ae.refl _,.nil⟩ ?_ (by rw[q06];lia) ?_ ?_
 .rintro i ys H2 hi ⟨ks,rfl,s2,r2⟩;refine⟨s2.seq hA,?_⟩;have h3:=r2.length;have h4:=q09 (λd:List Int => !decide (d=[])) (cs.take i);rw[q11]at h4;rw[q06]
  lia
 .rintro i x ys H2 hx ⟨ks,rfl,s2,r2⟩;obtain⟨m,em,rfl⟩:=wK hx;obtain⟨d,ed,rd⟩:=hR.getL em;refine MA m d H2 _ (s2.seq rd) λH3 s3=>?_;have e:(cs.take (i+1)).filter (λd => !decide (d=[]))=(cs.take i).filter (λd => !decide (d=[]))++if(!decide (d=[]))=true then [d] else []:=by
   rw[take_succ,ed,q16];congr 1;show filter _ [d]=_;rw[q17];rfl
  refine vf (λhb=>?_) (λhb=>?_)
  .refine sH m H3 _ ⟨ks++[m],by rw[q07];rfl,s2.trans s3,?_⟩;rw[e,q01 hb];exact(r2.imp λ_ _=>IL.stays K _ _ _ _ s3).snoc ((s2.trans s3).seq rd)
  .refine⟨ks,rfl,s2.trans s3,?_⟩;rw[e,q00 (by rw[hb];exact q23),append_nil];exact r2.imp λ_ _=>IL.stays K _ _ _ _ s3
 .rintro ys H2 ⟨ks,rfl,s2,r2⟩;rw[q06,hl,q15]at r2;exact hd ks H2 s2 r2
variable {α β:Type}
theorem All2.sI{R:α->β->Prop}{as:List α}{bs:List β}(h:All2 R as bs):∀k,All2 R (as.take k) (bs.take k):=by
 induction h with
 | nil=>intro k;rw[take_nil,take_nil];exact .nil
 | cons r _ ih =>
   intro k;cases k with
   | zero=>exact .nil
   | succ k=>exact .cons r (ih k)
theorem All2.sJ{R:α->β->Prop}{as:List α}{bs:List β}(h:All2 R as bs):∀k,All2 R (as.drop k) (bs.drop k):=by
 induction h with
 | nil=>intro k;rw[drop_nil,drop_nil];exact .nil
 | cons r h' ih =>
   intro k;cases k with
   | zero=>exact .cons r h'
   | succ k=>exact ih k
theorem All2.app{R:α->β->Prop}{as E7:List α}{bs CA:List β}(h:All2 R as bs)(h2:All2 R E7 CA):All2 R (as++E7) (bs++CA):=by
 induction h with
 | nil=>exact h2
 | cons r _ ih=>exact .cons r ih
end L2
namespace M6
open PySem L2 M3 M5
def front(cs:List (List Int))(us:List Int)(c:Int):Nat:=(us.filter λd=>yq (zn cs d) (zn cs c) us.length).length
theorem SW{cs:List (List Int)}{us:List Int}{i:Nat}(h:i<us.length):(zA cs us).getD i 0=1+(front cs us (us.getD i 0):Int):=by
 unfold zA front;rw[q18,q26,q18,q31 h];rfl
end M6
namespace L2
open PySem
end L2
namespace M6
open PySem L2 M3 M5
variable {cs:List (List Int)}{us:List Int}{c:Int}
end M6
namespace L2
open PySem
end L2
namespace M6
open PySem L2 M3 M5
end M6
namespace L2
open PySem
end L2
namespace M6
open PySem L2 M3 M5
def Fc(a b:List Int)(n:Nat):Option (Nat×Str):=((List.range n).find? fun(i:Nat)=>decide (sg a ((i:Int)+1)≠sg b ((i:Int)+1))).map fun(i:Nat)=>(i+1,vO (sg a ((i:Int)+1)) (sg b ((i:Int)+1)))
theorem SX{p:Nat->Bool}:∀{n j i:Nat},(range' j n).find? p=some i->p i=true/\j<=i/\i<j+n/\∀k,j<=k->k<i->p k=false
 | 0,j,i,h=>by cases h
 | n+1,j,i,h=>by
   rw[List.range'_succ,find?_cons]at h;cases hp:p j with
   | true =>
     rw[hp]at h;have e:j=i:=q22 h;subst e;exact⟨hp,le_refl _,by lia,λk h1 h2=>by lia⟩
   | false =>
     rw[hp]at h;obtain⟨h1,h2,h3,h4⟩:=SX h;refine⟨h1,by lia,by lia,λk k1 k2=>?_⟩;by_cases e:k=j
     .subst e;exact hp
     .exact h4 k (by lia) k2
theorem Fd(a b:List Int)(n:Nat):wf a b n (Fc a b n):=by
 unfold Fc;rw[List.range_eq_range'];cases h:(range' 0 n).find? fun(i:Nat)=>decide (sg a ((i:Int)+1)≠sg b ((i:Int)+1))with
 | none =>
   rw[List.find?_eq_none]at h;show wf a b n none;intro k h1 h2;have:=h (k-1) (by rw[List.mem_range'_1];lia);have e:((k-1:Nat):Int)+1=(k:Int):=by lia
   rw[e]at this;by_cases c:sg a k=sg b k
   .exact c
   .exact q02 (q19 c) this
 | some i =>
   obtain⟨h1,h2,h3,h4⟩:=SX h;have e:((i+1:Nat):Int)=(i:Int)+1:=by lia
   show wf a b n (some (i+1,vO (sg a ((i:Int)+1)) (sg b ((i:Int)+1))));refine⟨by show 1<=i+1;lia,by show i+1<=n;lia,λj j1 j2=>?_,?_,?_⟩
   .have j2:j<i+1:=j2;have:=h4 (j-1) (by lia) (by lia);have ej:((j-1:Nat):Int)+1=(j:Int):=by lia
    rw[ej]at this;by_cases c:sg a j=sg b j
    .exact c
    .rw[q19 c]at this;cases this
   .show sg a ((i+1:Nat):Int)≠sg b ((i+1:Nat):Int);rw[e];exact of_decide_eq_true h1
   .show _=vO (sg a ((i+1:Nat):Int)) (sg b ((i+1:Nat):Int));rw[e]
abbrev R4:=Int×Int×Int×Str
def nb(cs:List (List Int))(us:List Int)(p q:Int×Int):Option R4:=if p.1=q.1 then none else(Fc (zn cs p.2) (zn cs q.2) us.length).map λr=>(p.2,q.2,(r.1:Int),r.2)
def yl(cs:List (List Int))(us:List Int):List R4:=((rows (zA cs us) us).zip (rows (zA cs us) us).tail).filterMap λpq=>nb cs us pq.1 pq.2
def wD(cs:List (List Int))(us:List Int)(c:Int):Int:=1+((us.filter λd=>yq (zn cs d) (zn cs c) us.length).length:Int)
variable {cs:List (List Int)}{us:List Int}
theorem Ac{p:Int×Int}(h:p∈rows (zA cs us) us):p.2∈us/\p.1=wD cs us p.2:=by
 unfold rows at h;obtain⟨i,_,hi⟩:=List.mem_flatMap.mp h;have hz:=(q24.mp hi).1;have e:(zA cs us).zip us=us.map λc=>(wD cs us c,c):=by
  show(us.map λc=>wD cs us c).zip us=_;rw[List.zip_map_left];have:us.zip us=us.map λc=>(c,c):=by
   induction us with
   | nil=>rfl
   | cons a us ih=>rw[List.zip_cons_cons,map_cons];congr 1;rw[List.zip_eq_zipWith,List.zipWith_self]
  rw[this,q32];rfl
 rw[e]at hz;obtain⟨c,hc,rfl⟩:=q25.mp hz;exact⟨hc,rfl⟩
theorem Xm{c d:Int}(h:wD cs us c≠wD cs us d):Fc (zn cs c) (zn cs d) us.length≠none:=λe=>by
 have hp:=Fd (zn cs c) (zn cs d) us.length;rw[e]at hp;apply h;have es:wR (zn cs c) us.length=wR (zn cs d) us.length:=by
  unfold wR;refine q43 λi hi=>?_;have hi:=List.mem_range.mp hi;have:=hp (i+1) (by lia) (by lia);have ei:((i+1:Nat):Int)=(i:Int)+1:=by lia
  rw[ei]at this;exact this
 unfold wD yq;rw[es]
end M6
namespace L2
open PySem
def F4(K:Frag)(H:Hp)(l:Addr)(p:M6.R4):Prop:=bX K H l [.int p.1,.int p.2.1,.int p.2.2.1,.str p.2.2.2]
theorem F4.stays(K:Frag):lU (F4 K):=λ_ _ _ _ s h=>s.j8 h
theorem F4.put{K:Frag}{H:Hp}{p:Addr}{ys:List V}{o:HO}{ls:List Addr}{ps:List M6.R4}(h:All2 (F4 K H) ls ps)(hp:H p=some (.lst ys)):All2 (F4 K (upd H p o)) ls ps:=h.imp λ_ _ r=>bX.put r hp
end L2
namespace M9
open PySem L2 M3 M5
end M9
namespace M6
open PySem L2 M3 M5 M9
variable {cs:List (List Int)}{us:List Int}{c d f:Int}
end M6
namespace L2
open PySem
def fZ(d:List Int)(i:Nat):List Int:=d.take (i-1)++[d.getD i 0,d.getD (i-1) 0]++d.drop (i+1)
variable {d:List Int}{i:Nat}
theorem sL(h0:0<i)(hi:i<d.length):∃p q,p.length=i-1/\d=p++[d.getD (i-1) 0,d.getD i 0]++q/\fZ d i=p++[d.getD i 0,d.getD (i-1) 0]++q:=by
 refine⟨d.take (i-1),d.drop (i+1),by rw[q11];lia,?_,rfl⟩;have h1:i-1<d.length:=by lia
 have e1:d.getD (i-1) 0=d[i-1]:=by rw[q18,q31 h1];rfl
 have e2:d.getD i 0=d[i]:=by rw[q18,q31 hi];rfl
 rw[e1,e2,append_assoc]
 conv=>lhs;rw[<-q35 (i-1) d]
 congr 1;rw[drop_eq_getElem_cons h1];show d[i-1]::d.drop (i-1+1)=d[i-1]::(d[i]::d.drop (i+1));congr 1;have:i-1+1=i:=by lia
 rw[this];exact drop_eq_getElem_cons hi
theorem MB(h0:0<i)(hi:i<d.length):(fZ d i).Perm d:=by
 obtain⟨p,q,_,e1,e2⟩:=sL h0 hi;rw[e2]
 conv=>rhs;rw[e1]
 refine List.Perm.append_right _ (List.Perm.append_left _ ?_);exact List.Perm.swap _ _ _
theorem BP(h0:0<i)(hi:i<d.length):(fZ d i)[i]? = some (d.getD (i-1) 0):=by
 obtain⟨p,q,hp,_,e2⟩:=sL h0 hi;rw[e2,append_assoc,q29 (by lia),hp,show i-(i-1)=1 by lia];rfl
def Sh.bh(S:Sh)(j:Str)(d:List Int):List (List Int):=S.handed.map λi=>if i=j then d else(S.card i).getD []
theorem Sh.fg{S:Sh}(ok:S.Ok){j:Str}(h:d.Perm S.aa):∀e∈S.bh j d,e.Perm S.aa:=λe he=>by
 obtain⟨i,hi,rfl⟩:=q25.mp he;by_cases c:i=j
 .rw[q01 c];exact h
 .rw[q00 c];exact Sh.aM ok _ (List.mem_map_of_mem hi)
theorem Sh.dS(S:Sh)(j:Str)(d:List Int):(S.bh j d).length=S.handed.length:=by unfold Sh.bh;simp
def Sh.sM(S:Sh)(j:Str)(d:List Int):Sh:={ S with card:=λk=>if k=j then some d else S.card k }
theorem Sh.Ok.sM{S:Sh}(h:S.Ok){j:Str}(hj:j∈S.af)(hd:d.Perm S.aa):(S.sM j d).Ok:=by
 refine⟨h.c1,h.cQ,h.nd,h.cO,h.p1,h.dw,h.so,λk e z=>?_,h.sr⟩;have z:(if k=j then some d else S.card k)=some e:=z;by_cases ek:k=j
 .rw[q01 ek]at z;cases z;subst ek;exact⟨hj,hd⟩
 .rw[q00 ek]at z;exact h.cd k e z
theorem vP{α:Type}{l:List α}{k:Nat}(hk:k<l.length)(x:α):l.take k++[x]++l.drop (k+1)=l.set k x:=by
 rw[List.set_eq_take_append_cons_drop,q01 hk,append_assoc];rfl
theorem Sh.iP{S:Sh}(ok:S.Ok){w:Nat}(hw:w<S.af.length)(hd:d.Perm S.aa)(hs:(S.card (S.af.getD w "")).isSome=true):S.bh (S.af.getD w "") d=(S.rows.take w++[d]++S.rows.drop (w+1)).filter λd => !decide (d=[]):=by
 have hj:S.af.getD w "" ∈ S.af:=vk hw;rw[vP (by rw[S.bq];exact hw),<-Sh.iE ok.so hw d];rw[show(S.hand (S.af.getD w "") d).rows=(S.sM (S.af.getD w "") d).rows from rfl,<-Sh.bP (ok.sM hj hd)];unfold Sh.bh Sh.ao;have e:(S.sM (S.af.getD w "") d).handed=S.handed:=by
  unfold Sh.handed;refine filter_congr λi _=>?_;show(if i=S.af.getD w "" then some d else S.card i).isSome=_;by_cases c:i=S.af.getD w ""
  .rw[q01 c,c,hs];rfl
  .rw[q00 c]
 rw[e];refine q43 λi _=>?_;show _=(if i=S.af.getD w "" then some d else S.card i).getD [];by_cases c:i=S.af.getD w ""
 .rw[q01 c,q01 c];rfl
 .rw[q00 c,q00 c]
end L2
namespace M6
open PySem L2 M3 M5
def Ad(c:Int)(d d':List Int):Prop:=d'.Perm d/\d'.idxOf c<=d.idxOf c/\∀e∈d,e≠c->d.idxOf e<=d'.idxOf e
theorem Ad.nil{c:Int}{d d':List Int}(h:Ad c d d'):d=[]↔d'=[]:=by
 constructor
 .intro e;rw[e]at h;exact List.Perm.eq_nil h.1
 .intro e;rw[e]at h;exact List.Perm.eq_nil h.1.symm
variable {cs Xn:List (List Int)}{us:List Int}{c:Int}
theorem MC{d:List Int}{e:Int}(h:e∈d):d.getD (d.idxOf e) 0=e:=by
 rw[Cv (idxOf_lt_length_of_mem h)];exact List.getElem_idxOf _
end M6
namespace L2
open PySem M6 M5
def Sh.more(S:Sh)(n:Nat):Sh:={ S with taken:=S.taken+n }
section
variable {S:Sh}{j:Str}{d:List Int}{k:Nat}
end
end L2
namespace M6
open PySem L2 M3 M5
section
variable {A B C:List Int}{c:Int}
end
end M6
namespace L2
open PySem
def Ae(ps us:List Int)(n:Nat):List Int:=((List.range n).filter λk=>decide (ps.getD k 0=1)).map λk=>us.getD k 0
theorem HB(ps us:List Int)(n:Nat):Ae ps us (n+1)=Ae ps us n++if ps.getD n 0=1 then [us.getD n 0] else []:=by
 unfold Ae;rw[range_succ,q16,q07];congr 1;by_cases h:ps.getD n 0=1
 .rw[q01 h,q17,q01 (by rw[q19 h])];rfl
 .rw[q00 h,q17,q00 (by rw[q20 h];decide)];rfl
theorem SY(ps us:List Int)(n:Nat):(Ae ps us n).length<=n:=by
 unfold Ae;rw[q06];exact q38 (q09 _ _) (by rw[q33];exact le_refl _)
def sN(cs:List (List Int))(us:List Int):List Int:=Ae (M6.zA cs us) us us.length
def Sh.decide(S:Sh):List Str:=S.handed.filter λj => !Decidable.decide (sN (S.aS j) S.aa=sN S.ao S.aa)
theorem Sh.ki(S:Sh)(j:Str):(S.aS j).length<=S.handed.length:=by
 unfold Sh.aS;rw[q06];exact q09 _ _
theorem Sh.kj{S:Sh}(nd:S.af.Nodup)(j:Str):S.handed.length<=(S.aS j).length+1:=by
 by_cases hj:j∈S.handed
 .exact le_of_eq (Sh.dR nd hj).symm
 .unfold Sh.aS;rw[q06,List.filter_eq_self.mpr]
  .exact le_succ _
  .intro x hx;have:¬x=j:=λz=>hj (z ▸ hx);rw[q20 this];rfl
end L2
namespace M6
open PySem L2 M3 M5
variable {cs:List (List Int)}{us:List Int}{c:Int}
end M6
namespace L2
open PySem
end L2
namespace M6
open PySem L2 M3 M5
theorem sO(f:Int->Int):∀us:List Int,(us.map f).zip us=us.map λc=>(f c,c)
 | []=>rfl
 | c::us=>by rw[map_cons,List.zip_cons_cons,sO f us];rfl
def cY(f:Int->Int)(us:List Int)(i:Nat):List (Int×Int):=(us.filter λc=>decide (f c=(i:Int)+1)).map λc=>(f c,c)
theorem sP(f:Int->Int)(us:List Int):rows (us.map f) us=(List.range us.length).flatMap (cY f us):=by
 unfold rows cY;congr 1;funext i;rw[sO,filter_map];rfl
variable {cs:List (List Int)}{us:List Int}{c:Int}
def dC(cs:List (List Int))(us:List Int)(c:Int):Int:=1+(front cs us c:Int)
theorem Xo(cs:List (List Int))(us:List Int):rows (zA cs us) us=(List.range us.length).flatMap (cY (dC cs us) us):=sP _ _
end M6
namespace L2
open PySem
def Af(cs:List (List Int))(us:List Int)(k:Nat):Bool := !decide (cs.getD k []=[]) && !decide (sN ((cs.take k++cs.drop (k+1)).filter λd => !decide (d=[])) us=sN (cs.filter λd => !decide (d=[])) us)
def nT(ts:List Str)(cs:List (List Int))(us:List Int)(n:Nat):List Str:=((List.range n).filter (Af cs us)).map λk=>ts.getD k ""
theorem MD(ts:List Str)(cs:List (List Int))(us:List Int)(n:Nat):nT ts cs us (n+1)=nT ts cs us n++if Af cs us n=true then [ts.getD n ""] else []:=by
 unfold nT;rw[range_succ,q16,q07];congr 1;by_cases h:Af cs us n=true
 .rw[q01 h,q17,q01 h];rfl
 .rw[q00 h,q17,q00 h];rfl
theorem sQ(ts:List Str)(cs:List (List Int))(us:List Int)(n:Nat):(nT ts cs us n).length<=n:=by
 unfold nT;rw[q06];exact q38 (q09 _ _) (by rw[q33];exact le_refl _)
theorem Sh.ju{S:Sh}(ok:S.Ok):S.decide=nT S.af S.rows S.aa S.af.length:=by
 unfold Sh.decide Sh.handed nT;rw[filter_filter]
 conv=>lhs;rw[<-Sx S.af ""]
 rw[filter_map];congr 1;refine filter_congr λk hk=>?_;have hk:=List.mem_range.mp hk;show((!Decidable.decide (sN (S.aS (S.af.getD k "")) S.aa=sN S.ao S.aa)) && (S.card (S.af.getD k "")).isSome)=Af S.rows S.aa k;unfold Af;rw[Sh.fe ok hk,Sh.bP ok,S.eA hk,Sh.fc ok,Bool.and_comm]
variable {K:Frag}{H H':Hp}
theorem aq.eN{p:Addr}{F:Addr->Prop}{S:Sh}(h:aq K H p F S)(s:aY H H'):∃F':Addr->Prop,(∀b,F' b->F b)/\aq K H' p F' S:=by
 obtain⟨dx,a1,a2,a3,d,ax,h⟩:=h;refine⟨λb=>F b/\∀ps,H b≠some (.dh ps),λb z=>z.1,dx,a1,a2,a3,d,ax,⟨⟨s.1 _ _ h.ip (λ_ z=>by cases z),s.1 _ _ h.i1 (λ_ z=>by cases z),s.1 _ _ h.i2 (λ_ z=>by cases z),s.1 _ _ h.i3 (λ_ z=>by cases z),s.1 _ _ h.i4 (λ_ z=>by cases z),h.kl,h.cn,λj c hc=>?_,⟨h.fp,λps z=>by rw[h.ip]at z;cases z⟩,⟨h.f1,λps z=>by rw[h.i1]at z;cases z⟩,⟨h.f2,λps z=>by rw[h.i2]at z;cases z⟩,⟨h.f3,λps z=>by rw[h.i3]at z;cases z⟩,⟨h.f4,λps z=>by rw[h.i4]at z;cases z⟩,h.x9,h.Aa,λb hb=>?_⟩,h.ok⟩⟩
 .obtain⟨l,x1,x2,x3,x4⟩:=h.cs j c hc;exact⟨l,x1,s.1 _ _ x2 (λ_ z=>by cases z),⟨x3,λps z=>by rw[x2]at z;cases z⟩,x4⟩
 .cases e:H b with
  | none=>exact q02 e (h.fh b hb.1)
  | some u =>
    rw[s.1 b u e λps z=>hb.2 ps (by rw[e,z])];simp
theorem aY.lst(s:aY H H'){a:Addr}{xs:List V}(e:H a=some (.lst xs)):H' a=some (.lst xs):=s.1 _ _ e λ_ z=>by cases z
theorem aY.seq(s:aY H H'){a:Addr}{xs:List V}(h:ai K H a xs):ai K H' a xs:=s.same.seq h.nr
theorem All2.eN{ls:List Addr}{cs:List (List Int)}(h:All2 (IL K H) ls cs)(s:aY H H'):All2 (IL K H') ls cs:=h.imp λ_ _ (z:ai K H _ _)=>(show ai K H' _ _ from s.seq z)
end L2
namespace M6
open PySem L2 M3 M5 M9
section
variable {φ:Sg->Sg}{cs Xn:List (List Int)}{us:List Int}
end
end M6
namespace M6
open PySem L2 M3 M5
section
variable {cs:List (List Int)}{us d:List Int}
end
end M6
namespace L2
open PySem
end L2
namespace M6
open PySem L2 M3 M5
def bar:Str:=Str.ofString "|"
def sl:Str:=Str.ofString "/"
def zY:Str:=Str.ofString " "
def Fe(p:Int×Int):Str:=tN p.1++sl++tN p.2
def jb(ms:List Int)(n:Nat):List Str:=(oW ms n).map Fe
def km(p c:Int)(ms:List Int)(n:Nat):List Str:=[tN p,tN c]++[bar]++ms.map tN++[bar]++jb ms n
def vQ(p c:Int)(ms:List Int)(n:Nat):Str:=Txt.join zY (km p c ms n)
theorem kq{n:Int}(h:n.natAbs<=990):(tN n).length<=992:=by
 have:=len_str_of_int n;unfold tN
 lia
theorem S0:∀{ms:List Int},(∀x∈ms,1<=x/\x<=24)->0<=ms.sum/\ms.sum<=24*ms.length
 | [],_=>by simp
 | x::ms,h=>by
   have h1:=h x (q14 ..);have h2:=S0 (ms:=ms) λy hy=>h y (q13 _ hy);simp only[sum_cons,q12]
   lia
variable {ms:List Int}
theorem ME(h:∀x∈ms,1<=x/\x<=24)(n:Int):0<=sm ms n/\sm ms n<=24*ms.length:=by
 have h1:=S0 (ms:=got ms n) λx hx=>h x (q24.mp hx).1;have h2:=vJ ms n;unfold cnt at h2;unfold sm
 lia
theorem HC:sl.length=1:=by decide +kernel
theorem mf:bar.length=1:=by decide +kernel
theorem S1(ms:List Int)(n:Nat):jb ms (n+1)=jb ms n++[tN (cnt ms ((n:Int)+1))++sl++tN (sm ms ((n:Int)+1))]:=by
 unfold jb;rw[SO,q07];rfl
theorem MF(hl:ms.length<=15)(h:∀x∈ms,1<=x/\x<=24)(n:Int):(tN (cnt ms n)).length<=992/\(tN (sm ms n)).length<=992:=by
 have h1:=vJ ms n;have h2:=ME h n;exact⟨kq (by lia),kq (by lia)⟩
theorem S2(ms:List Int)(n:Nat):(jb ms n).length=n:=by unfold jb;rw[q06,HA]
theorem kr(hl:ms.length<=15)(h:∀x∈ms,1<=x/\x<=24)(n:Nat):∀w∈jb ms n,w.length<=2000:=λw hw=>by
 induction n with
 | zero=>unfold jb oW at hw;simp at hw
 | succ n ih =>
   rw[S1]at hw;rcases List.mem_append.mp hw with z | z
   .exact ih z
   .rw[List.mem_singleton.mp z,zu,zu,HC];have:=MF hl h ((n:Int)+1)
    lia
theorem S3(hl:ms.length<=15)(h:∀x∈ms,1<=x/\x<=24){p c:Int}(hp:p.natAbs<=990)(hc:c.natAbs<=1000)(n:Nat):∀w∈km p c ms n,w.length<=2000:=λw hw=>by
 unfold km at hw;simp only[mem_append,q27,not_mem_nil,or_false,q25]at hw;have l1:=len_str_of_int p;have l2:=len_str_of_int c;rcases hw with((((rfl | rfl) | rfl) | ⟨x,hx,rfl⟩) | rfl) | hw
 .unfold tN;lia
 .unfold tN;lia
 .rw[mf];lia
 .have:=h x hx;have:=kq (n:=x) (by lia)
  lia
 .rw[mf];lia
 .exact kr hl h n w hw
theorem MG(y:Str):Str.empty++y=y:=by
 refine PySem.Str.ext' ?_;show(#[]:Array Nat)++y.cps=y.cps;simp
end M6
namespace L2
open PySem
inductive eR:V->Str->Prop
 | int {i:Int}:i.natAbs<=100000->eR (.int i) (tN i)
 | str {y:Str}:eR (.str y) y
 | big:eR (.int 1000000000000000000000000000000) (tN 1000000000000000000000000000000)
theorem HD:∀{ns:List Int},(∀n∈ns,n.natAbs<=100000)->All2 eR (ns.map V.int) (ns.map tN)
 | [],_=>.nil
 | n::ns,h=>.cons (.int (h n (q14 ..))) (HD λm hm=>h m (q13 _ hm))
theorem CM:∀(ts:List Str),All2 eR (ts.map V.str) ts
 | []=>.nil
 | t::ts=>.cons .str (CM ts)
variable {fin:List V->Hp->Prop}
theorem MH{K:Frag}{a:Addr}{ls:List Addr}{rs:List (Int×Int)}{f:Int×Int->Str}{c:St}{te:TE}{H:Hp}(hA:ai K H a (ls.map V.ref))(hR:All2 (gD K H) ls rs)(hz:rs.length<=1000)
 (sH:∀(p:Int×Int)(H':Hp)(Q:VK),p∈rs->ae H H'->(∀H2,ae H' H2->Q (.str (f p)) H2)->te (some (.int p.1)::some (.int p.2)::c) H' Q)
 (hd:∀(H':Hp),ae H H'->fin ((rs.map f).map V.str) H'):eQ K (i5 K a) c ue te H fin:=by
 have bY:=zq;have hl:=hR.length;refine Sk (xs:=ls.map V.ref) (λi ys H3=>ae H H3/\ys=((rs.take i).map f).map V.str) ⟨ae.refl _,rfl⟩ ?_ (by rw[q06];lia) ?_ ?_
 .rintro i ys H3 hi ⟨s3,rfl⟩;refine⟨s3.seq hA,?_⟩;rw[q06,q06,q11]
  lia
 .rintro i x ys H3 hx ⟨s3,rfl⟩;obtain⟨p,ep,rfl⟩:=wK hx;obtain⟨m,em,rm⟩:=hR.getL ep;refine⟨p,.int m.1,.int m.2,rfl,s3.j8 rm,sH m H3 _ (mem_of_getElem? em) s3 λH4 s4=>⟨s3.trans s4,?_⟩⟩;rw[take_succ,em,q07,q07];rfl
 .rintro ys H3 ⟨s3,rfl⟩;rw[q06,hl,q15];exact hd H3 s3
theorem S4{K:Frag}{a:Addr}{us:List Int}{f:Int->Str}{c:St}{te:TE}{H:Hp}(hA:ai K H a (us.map V.int))(hz:us.length<=1000)
 (sH:∀(x:Int)(H':Hp)(Q:VK),x∈us->ae H H'->(∀(H2:Hp),ae H' H2->Q (.str (f x)) H2)->te (some (.int x)::c) H' Q)
 (hd:∀(H':Hp),ae H H'->fin ((us.map f).map V.str) H'):cU (i5 K a) c ue te H fin:=by
 have bY:=zq;refine zU (xs:=us.map V.int) (λk ys H5=>ys=((us.take k).map f).map V.str/\ae H H5) ⟨rfl,ae.refl _⟩ ?_ (by rw[q06];lia) ?_ ?_
 .rintro k ys H5 hk ⟨rfl,s5⟩;refine⟨s5.seq hA,?_⟩;rw[q06,q06,q11]
  lia
 .rintro k x ys H5 hx ⟨rfl,s5⟩;obtain⟨hk,rfl⟩:=yQ hx;refine sH _ H5 _ (mV hk) s5 λH2 s2=>⟨?_,s5.trans s2⟩;rw[yM hk,q07,q07];rfl
 .rintro ys H5 ⟨rfl,s5⟩;rw[q06,q15];exact hd H5 s5
end L2
namespace M19
open PySem
theorem HE(y x:PySem.Str)(z:PySem.Str)(r:List PySem.Str):Str.join y (x::z::r)=x++y++Str.join y (z::r):=rfl
theorem HF(x y:PySem.Str):(x++y).cps.toList=x.cps.toList++y.cps.toList:=by
 show(x.cps++y.cps).toList=_;simp
theorem S5{c:Nat}:∀{a b r q:List Nat},c∉a->c∉b->a++c::r=b++c::q->a=b/\r=q
 | [],[],r,q,_,_,h=>⟨rfl,by simpa using h⟩
 | [],y::b,r,q,_,hb,h=>by
   simp only[nil_append,cons_append,List.cons.injEq]at h;exact q02 (h.1 ▸ q14 ..) hb
 | x::a,[],r,q,ha,_,h=>by
   simp only[nil_append,cons_append,List.cons.injEq]at h;exact q02 (h.1 ▸ q14 ..) ha
 | x::a,y::b,r,q,ha,hb,h=>by
   simp only[cons_append,List.cons.injEq]at h;obtain⟨e1,e2⟩:=S5 (λz=>ha (q13 _ z)) (λz=>hb (q13 _ z)) h.2;exact⟨by rw[h.1,e1],e2⟩
theorem Ff{c:Nat}{a b r:List Nat}(ha:c∉a)(h:a=b++c::r):False:=ha (by rw[h];simp)
theorem MI{x y:PySem.Str}(h:x.cps.toList=y.cps.toList):x=y:=by
 cases x;cases y;have:_=_:=Array.toList_inj.mp h
 simpa using this
theorem HG(c:Nat)(x z:PySem.Str)(r:List PySem.Str):(Str.join ⟨#[c]⟩ (x::z::r)).cps.toList=x.cps.toList++c::(Str.join ⟨#[c]⟩ (z::r)).cps.toList:=by
 rw[HE,HF,HF,append_assoc];rfl
theorem S6{c:Nat}:∀{ws vs:List PySem.Str},(∀w∈ws,c∉w.cps.toList)->(∀w∈vs,c∉w.cps.toList)->ws≠[]->vs≠[]->Str.join ⟨#[c]⟩ ws=Str.join ⟨#[c]⟩ vs->ws=vs
 | [],_,_,_,h,_,_=>q02 rfl h
 | _::_,[],_,_,_,h,_=>q02 rfl h
 | [x],[y],_,_,_,_,h=>by
   have h:x=y:=h;rw[h]
 | [x],y::z::r,hx,_,_,_,h=>by
   have:=congrArg (λs:PySem.Str=>s.cps.toList) h;rw[HG]at this;exact(Ff (hx x (q14 ..)) this).elim
 | x::z::r,[y],_,hy,_,_,h=>by
   have:=congrArg (λs:PySem.Str=>s.cps.toList) h;rw[HG]at this;exact(Ff (hy y (q14 ..)) this.symm).elim
 | x::z::r,y::z'::r',hx,hy,_,_,h=>by
   have:=congrArg (λs:PySem.Str=>s.cps.toList) h;rw[HG,HG]at this;obtain⟨e1,e2⟩:=S5 (hx x (q14 ..)) (hy y (q14 ..)) this;have ih:=S6 (ws:=z::r) (vs:=z'::r') (λw hw=>hx w (q13 _ hw)) (λw hw=>hy w (q13 _ hw)) (by simp) (by simp) (MI e2);rw[MI e1,ih]
theorem sR(x y:PySem.Str):Txt.split x y≠[]:=by
 unfold Txt.split;split
 .simp
 .split
  .simp
  .rw[StrLaws.partsBetween_eq];obtain⟨p,r,e⟩:=StrLaws.partsFrom_ne x y.length 0 (Builtin.Str.occurrences x y 0 x.length (x.length+1));rw[e];simp
theorem Xp{c:Nat}{ws:List PySem.Str}(h:∀w∈ws,c∉w.cps.toList)(h0:ws≠[]):Txt.split (Str.join ⟨#[c]⟩ ws) ⟨#[c]⟩=ws :=
 S6 (StrLaws.split_free _ c) h (sR _ _) h0 (StrLaws.join_split _ _)
end M19
namespace M20
open PySem L2
def sS:List Str:=["seal","couples","places","parts","deciders"]
def wl:List Str:=["card","show","leave","step"]
def uw:List Str:=["strike","step","row"]
def gk(n:Int):Str:=Str.ofString (toString n)
def zY:Str:=⟨#[32]⟩
theorem MJ:(" ":Str)=zY:=by decide +kernel
theorem Xq:∀m:Fin 1000,0<m.val->((toDigits 10 m.val).map Char.toNat).length<=3/\((toDigits 10 m.val).map Char.toNat).head? ≠ some 48/\((toDigits 10 m.val).map Char.toNat)≠[]/\(((toDigits 10 m.val).map Char.toNat).all λc=>decide (48<=c) && decide (c<=57))=true:=by decide +kernel
variable {n:Int}
theorem nU(h0:0<=n):(gk n).cps.toList=(toDigits 10 n.toNat).map Char.toNat:=by
 obtain⟨m,rfl⟩:=Int.eq_ofNat_of_zero_le h0;exact PySem.W.KIN.signs_num m
structure Num (z:Str):Prop where
 len:z.length<=3
 ex:∃c r,z.cps.toList=c::r/\c≠48
 all:∀c∈z.cps.toList,48<=c/\c<=57
theorem MK(z:Str):z.length=z.cps.toList.length:=by simp[PySem.Str.length]
theorem ML(h:1<=n/\n<=999):Num (gk n):=by
 have e:=nU (n:=n) (by lia);obtain⟨d1,d2,d3,d4⟩:=Xq ⟨n.toNat,by lia⟩ (by show 0<n.toNat;lia);dsimp only at d1 d2 d3 d4;rw[<-e]at d1 d2 d3 d4;refine⟨by rw[MK];exact d1,?_,λc hc=>?_⟩
 .cases q:(gk n).cps.toList with
  | nil=>exact q02 q d3
  | cons c r =>
    rw[q]at d2;exact⟨c,r,rfl,λz=>d2 (by rw[z];rfl)⟩
 .have:=q39.mp d4 c hc
  simpa using this
theorem ku(h:1<=n/\n<=999):PySem.intText? (gk n)=some n:=PySem.W.KIN.num_reads (by lia) (by lia)
structure Wd (z:Str):Prop where
 ne:z≠Str.ofString ""
 no:(32:Nat)∉z.cps.toList
 len:z.length<=12
theorem S7:(Str.ofString "").cps.toList=[]:=by decide +kernel
theorem mh(h:1<=n/\n<=999):Wd (gk n):=by
 have q:=ML h;obtain⟨c,r,e,_⟩:=q.ex;refine⟨λz=>?_,λz=>?_,by have:=q.len;lia⟩
 .rw[z,S7]at e;cases e
 .have:=q.all 32 z;lia
def dD(f:Str)(l:List Str):Bool:=u9 (.str f) (l.map V.str)
def jv(f:Str):Int:=if dD f uw=true then 1 else 0
structure Row (f j:Str) (ns:List Int):Prop where
 eO:dD f (sS++wl++uw)=true
 fw:Wd f
 Xr:dD f wl=true->Wd j
 Fg:dD f wl=false->j=Str.ofString ""
 jv:f=Str.ofString "card"\/(ns.length:Int)=jv f
 cO:∀n∈ns,1<=n/\n<=999
 len:ns.length<=24
def jN(f j:Str)(ns:List Int):List Str:=f::((if dD f wl=true then [j] else [])++ns.map gk)
def row(f j:Str)(ns:List Int):Str:=Str.join zY (jN f j ns)
variable {f j:Str}{ns:List Int}
theorem MM(h:Row f j ns):∀w∈jN f j ns,Wd w:=λw hw=>by
 unfold jN at hw;rcases q27.mp hw with e | hw
 .rw[e];exact h.fw
 .rcases List.mem_append.mp hw with hw | hw
  .by_cases c:dD f wl=true
   .rw[q01 c]at hw;rw[List.mem_singleton.mp hw];exact h.Xr c
   .rw[q00 c]at hw;cases hw
  .obtain⟨n,hn,rfl⟩:=q25.mp hw;exact mh (h.cO n hn)
theorem S8(h:Row f j ns):(jN f j ns).length<=26:=by
 unfold jN;have:=h.len;rw[q12,q08,q06];split <;> simp <;> lia
theorem nV(h:Row f j ns):Txt.split (row f j ns) zY=jN f j ns :=
 M19.Xp (λw hw=>(MM h w hw).no) (by unfold jN;simp)
theorem sT:∀(ws:List Str),(∀w∈ws,w.length<=12)->(ws.map (·.length)).sum<=12*ws.length
 | [],_=>le_refl _
 | w::ws,h=>by
   have:=sT ws λx hx=>h x (q13 _ hx);have:=h w (q14 ..);simp only[map_cons,sum_cons,q12]
   lia
theorem kx{ws:List Str}(h:∀w∈ws,w.length<=12):(Str.join zY ws).length<=13*ws.length:=by
 have:=StrLaws.join_length_le zY ws;have h2:=sT ws h;have e:zY.length=1:=rfl;rw[e]at this
 lia
theorem vR(h:Row f j ns):(row f j ns).length<=338:=by
 have:=kx (ws:=jN f j ns) λw hw=>(MM h w hw).len;have:=S8 h;unfold row
 lia
theorem sU(h:Row f j ns):u9 (.str (Str.ofString "")) ((jN f j ns).map V.str)=false:=by
 unfold u9;rw[List.any_eq_false];intro y hy;obtain⟨w,hw,rfl⟩:=q25.mp hy;have:=(MM h w hw).ne;show ¬(w==Str.ofString "")=true
 simpa using this
theorem HH(ws:List Str):(ws.map V.str).all iA=true:=by
 rw[q39];intro y hy;obtain⟨w,_,rfl⟩:=q25.mp hy;rfl
def Fh(c:Nat):Bool:=decide (48<=c) && decide (c<=57)
theorem le_0(c:Nat):(!decide ((⟨#[c]⟩:Str).cps.toList<("0":Str).cps.toList))=decide (48<=c):=by
 have e:("0":Str).cps.toList=[48]:=by decide +kernel
 rw[e];show(!decide ([c] < [48]))=_;by_cases h:48<=c
 .rw[q19 h,q20];rfl;simp[cons_lt_cons_iff];lia
 .rw[q20 h,q19];rfl;simp[cons_lt_cons_iff];lia
theorem MN(c:Nat):(!decide (("9":Str).cps.toList<(⟨#[c]⟩:Str).cps.toList))=decide (c<=57):=by
 have e:("9":Str).cps.toList=[57]:=by decide +kernel
 rw[e];show(!decide ([57] < [c]))=_;by_cases h:c<=57
 .rw[q19 h,q20];rfl;simp[cons_lt_cons_iff];lia
 .rw[q20 h,q19];rfl;simp[cons_lt_cons_iff];lia
def S9:List Str:=["seal","couples","places","parts","deciders","show","leave","strike","row","step","card","card","card","step"]
def Ag(f:Str):Bool:=dD f (sS++wl++uw) && (f != Str.ofString "") && (!decide ((32:Nat)∈f.cps.toList)) && decide (f.length<=12) && (dD f ["show","leave","step","card"]==dD f wl) && (dD f ["strike","row","step"]==dD f uw)
theorem sV:S9.all Ag=true:=by decide +kernel
structure MO (f:Str):Prop where
 eO:dD f (sS++wl++uw)=true
 fw:Wd f
 jd:dD f ["show","leave","step","card"]=dD f wl
 cp:dD f ["strike","row","step"]=dD f uw
theorem yY(h:f∈S9):MO f:=by
 have:=q39.mp sV f h;unfold Ag at this;simp only[q42,Bool.not_eq_true',bne_iff_ne,ne_eq,decide_eq_false_iff_not,decide_eq_true_eq,beq_iff_eq]at this;obtain⟨⟨⟨⟨⟨a1,a2⟩,a3⟩,a4⟩,a5⟩,a6⟩:=this;exact⟨a1,⟨a2,a3,a4⟩,a5,a6⟩
def pre(f j:Str):List Str:=f::(if dD f wl=true then [j] else [])
end M20
namespace M6
open PySem L2
theorem wL(x y z:Str):x++y++z=x++(y++z):=M19.MI (by simp only[M19.HF,append_assoc])
theorem nW(z x y:Str)(r:List Str):Str.join z ((x++z++y)::r)=x++z++Str.join z (y::r):=by
 cases r with
 | nil=>rfl
 | cons w r=>rw[M19.HE,M19.HE,wL,wL,wL,wL,wL]
theorem Ta(z:Str):∀(r:List Str)(x:Str),Builtin.Str.glued z (x::r)=Str.join z (x::r)
 | [],x=>rfl
 | y::r,x=>by
   have ih:=Ta z r (x++z++y);rw[M19.HE,<-nW,<-ih];rfl
theorem sW(z:Str)(ts:List Str):Txt.join z ts=Str.join z ts:=by
 cases ts with
 | nil=>rfl
 | cons x r=>exact Ta z r x
theorem sX:zY=M20.zY:=M20.MJ
theorem mi{j:Str}(h:M2.rY j=true):M20.Wd j:=by
 obtain⟨⟨h1,h2⟩,h3⟩:=(M2.CH j).mp h;refine⟨λz=>?_,λz=>?_,by lia⟩
 .rw[z,M20.MK,M20.S7]at h1;simp at h1
 .have:=h3 _ z;revert this;decide
end M6
namespace M6
open PySem L2 M3 M5
def Ah(c:Str):Str :=
 if c=("SheetSealed":Str)then Str.ofString "refused: sealed" else if c=("UnknownJudge":Str)then Str.ofString "refused: judge" else if c=("BadCard":Str)then Str.ofString "refused: card" else
 if c=("TooManyCards":Str)then Str.ofString "refused: full" else if c=("UnknownCouple":Str)then Str.ofString "refused: couple" else if c=("LastCouple":Str)then Str.ofString "refused: last" else
 if c=("NoCard":Str)then Str.ofString "refused: none" else if c=("TooFewCards":Str)then Str.ofString "refused: few" else Str.ofString "refused: top"
def colon:Str:=Str.ofString ":"
def sY(p:Int×Int):Str:=tN p.1++colon++tN p.2
theorem HI:colon.length=1:=by decide +kernel
theorem yp{n:Int}(h:1<=n/\n<=999):(tN n).length<=12:=(M20.mh h).len
theorem Fi{p:Int×Int}(h1:1<=p.1/\p.1<=999)(h2:1<=p.2/\p.2<=999):(tN p.1).length<=12/\(tN p.2).length<=12/\(sY p).length<=25:=by
 have a:=yp h1;have b:=yp h2;refine⟨a,b,?_⟩;unfold sY;rw[zu,zu,HI]
 lia
end M6
namespace L2
open PySem
end L2
namespace M6
open M5
theorem Xs(xs:List Sg):zR xs xs=false:=by
 induction xs with
 | nil=>rfl
 | cons x xs ih=>rw[zR,q01 rfl];exact ih
theorem Tb(a:List Int)(n:Nat):yq a a n=false:=Xs _
theorem Tc{α:Type}{p:α->Bool}:∀{l:List α}{x:α},x∈l->p x=false->(l.filter p).length<l.length
 | y::l,x,h,hp=>by
   rcases q27.mp h with e | h
   .subst e;rw[filter_cons_of_neg (by rw[hp];exact q23),q12];exact Nat.lt_succ_of_le (q09 _ _)
   .have:=Tc h hp;rw[q17];split
    .rw[q12,q12];lia
    .rw[q12];lia
theorem MP(cs:List (List Int))(us:List Int):∀k,k<us.length->1<=(zA cs us).getD k 0/\(zA cs us).getD k 0<=us.length:=λk hk=>by
 have e:(zA cs us).getD k 0=1+((us.filter λd=>yq (zn cs d) (zn cs us[k]) us.length).length:Int):=by
  unfold zA;rw[q18,q26,q31 hk];rfl
 have:=Tc (p:=λd=>yq (zn cs d) (zn cs us[k]) us.length) (q44 hk) (Tb _ _);rw[e]
 lia
end M6
namespace M6
open PySem L2 M3 M5
theorem nY{x y z:Sg}(h:nK x y=true)(k:nK y z=true):nK x z=true:=by
 cases x with
 | none=>cases h
 | some p =>
   cases y with
   | none=>cases k
   | some q =>
     cases z with
     | none=>rfl
     | some r =>
       simp only[nK,Bool.or_eq_true,q42,decide_eq_true_eq]at h k ⊢
       lia
theorem BQ{x y:Sg}(h:nK x y=true):x≠y:=λe=>by
 subst e;cases x with
 | none=>cases h
 | some p=>simp only[nK,Bool.or_eq_true,q42,decide_eq_true_eq]at h;lia
theorem nZ{x y:Sg}(h:x≠y):nK x y=true\/nK y x=true:=by
 cases x with
 | none=>cases y with
   | none=>exact q02 rfl h
   | some q=>exact .inr rfl
 | some p=>cases y with
   | none=>exact .inl rfl
   | some q =>
     obtain⟨p1,p2⟩:=p;obtain⟨q1,q2⟩:=q;have:¬(p1=q1/\p2=q2):=λz=>h (by rw[z.1,z.2]);simp only[nK,Bool.or_eq_true,q42,decide_eq_true_eq]
     lia
theorem Td:∀{xs ys zs:List Sg},zR xs ys=true->zR ys zs=true->zR xs zs=true
 | [],_,_,h,_=>by cases h
 | _::_,[],_,h,_=>by cases h
 | _::_,_::_,[],_,k=>by cases k
 | x::xs,y::ys,z::zs,h,k=>by
   rw[zR]at h k ⊢;by_cases c:x=y
   .rw[q01 c]at h;subst c;by_cases d:x=z
    .rw[q01 d]at k ⊢;exact Td h k
    .rw[q00 d]at k ⊢;exact k
   .rw[q00 c]at h;by_cases d:y=z
    .subst d;rw[q00 c];exact h
    .rw[q00 d]at k;have:=nY h k;rw[q00 (BQ this)];exact this
theorem Te:∀{xs ys:List Sg},xs.length=ys.length->xs≠ys->zR xs ys=true\/zR ys xs=true
 | [],[],_,h=>q02 rfl h
 | [],_::_,l,_=>by cases l
 | _::_,[],l,_=>by cases l
 | x::xs,y::ys,l,h=>by
   rw[zR,zR];by_cases c:x=y
   .rw[q01 c,q01 c.symm];exact Te (by simpa using l) λz=>h (by rw[c,z])
   .rw[q00 c,q00 λz=>c z.symm];exact nZ c
theorem Tf{α:Type}{p q:α->Bool}:∀{l:List α},(∀x∈l,p x=true->q x=true)->(l.filter p).length<=(l.filter q).length
 | [],_=>le_refl _
 | x::l,h=>by
   have ih:=Tf (p:=p) (q:=q) λy hy=>h y (q13 _ hy);rw[q17,q17];cases hp:p x with
   | false =>
     cases hq:q x with
     | false=>exact ih
     | true=>exact Nat.le_succ_of_le ih
   | true =>
     rw[h x (q14 ..) hp];exact Nat.succ_le_succ ih
theorem Tg{α:Type}{p q:α->Bool}:∀{l:List α}{x:α},x∈l->p x=false->q x=true->(∀x∈l,p x=true->q x=true)->(l.filter p).length<(l.filter q).length
 | y::l,x,hx,hp,hq,h=>by
   have le:=Tf (p:=p) (q:=q) λy hy=>h y (q13 _ hy);rw[q17,q17];rcases q27.mp hx with e | hx
   .subst e;rw[hp,hq];exact Nat.lt_succ_of_le le
   .have ih:=Tg hx hp hq λy hy=>h y (q13 _ hy);cases xI:p y with
    | false =>
      cases CC:q y with
      | false=>exact ih
      | true=>exact lt_succ_of_lt ih
    | true =>
      rw[h y (q14 ..) xI];exact Nat.succ_lt_succ ih
variable {cs:List (List Int)}{us:List Int}{c d:Int}
theorem Th(hc:c∈us)(h:yq (zn cs c) (zn cs d) us.length=true):wD cs us c<wD cs us d:=by
 unfold wD;have:=Tg (p:=λe=>yq (zn cs e) (zn cs c) us.length) (q:=λe=>yq (zn cs e) (zn cs d) us.length) hc (Tb _ _) h λx _ hx=>Td hx h
 lia
theorem sZ(hc:c∈us)(hd:d∈us)(h:wD cs us c=wD cs us d):wR (zn cs c) us.length=wR (zn cs d) us.length:=by
 by_cases e:wR (zn cs c) us.length=wR (zn cs d) us.length
 .exact e
 .rcases Te (by rw[CK,CK]) e with z | z
  .have:=Th (d:=d) hc z;lia
  .have:=Th (d:=c) hd z;lia
theorem Ti{a:List Int}{n:Nat}(ha:∀x∈a,x<=n){k:Nat}(h:n<=k):sg a k=sg a n:=by
 have e:got a k=got a n:=by
  unfold got;exact filter_congr λx hx=>by have:=ha x hx;rw[q19 (by lia),q19 this]
 unfold sg cnt sm;rw[e]
variable {r:Option (Nat×Str)}
theorem Xt{a b:List Int}{n m:Nat}(ha:∀x∈a,x<=n)(hb:∀x∈b,x<=n)(h1:1<=n)(hm:n<=m)(h:wf a b m r):wf a b n r:=by
 cases r with
 | none=>exact λk k1 k2=>h k k1 (by lia)
 | some r =>
   refine⟨h.1,?_,h.2.2.1,h.2.2.2⟩;by_cases c:r.1<=n
   .exact c
   .refine q02 ?_ h.2.2.2.1;rw[Ti ha (by lia),Ti hb (by lia)];exact h.2.2.1 n h1 (by lia)
theorem vS(hp:∀d∈cs,d.Perm us)(h1:1<=us.length)(CJ:us.length<=24)(hc:c∈us)(hd:d∈us)(h:wf (zn cs c) (zn cs d) 24 r):
 nb cs us (wD cs us c,c) (wD cs us d,d)=r.map λr=>(c,d,(r.1:Int),r.2):=by
 have h':=Xt (λx hx=>(yA hp hc x hx).2) (λx hx=>(yA hp hd x hx).2) h1 CJ h;have e:=Hy h' (Fd (zn cs c) (zn cs d) us.length);unfold nb;dsimp only;by_cases z:wD cs us c=wD cs us d
 .rw[q01 z];have es:=sZ hc hd z;have:wf (zn cs c) (zn cs d) us.length none:=λk k1 k2=>by
   have:=congrArg (λl=>l[k-1]?) es;unfold wR at this;simp only[q26]at this;rw[q36 (by lia)]at this;have ek:((k-1:Nat):Int)+1=(k:Int):=by lia
   simpa [ek] using this
  rw[Hy h' this];rfl
 .rw[q00 z,e]
theorem Tj{α:Type}{g g':Nat->List α}:∀l:List Nat,(∀i∈l,g' i=g i)->l.flatMap g'=l.flatMap g
 | [],_=>rfl
 | j::l,h=>by rw[flatMap_cons,flatMap_cons,h j (by simp),Tj l λi hi=>h i (q13 _ hi)]
theorem Tn{α:Type}{x:α}{g g':Nat->List α}{i0:Nat}:∀l:List Nat,l.Nodup->i0∈l->g' i0=x::g i0->(∀i,i≠i0->g' i=g i)->(l.flatMap g').Perm (x::l.flatMap g)
 | [],_,h,_,_=>by cases h
 | j::l,nd,h,h1,h2=>by
   obtain⟨n1,n2⟩:=List.nodup_cons.mp nd;rw[flatMap_cons,flatMap_cons];by_cases e:j=i0
   .subst e;rw[h1,Tj l λi hi=>h2 i (λz=>n1 (z ▸ hi))];exact List.Perm.refl _
   .have hm:i0∈l:=by
     rcases q27.mp h with z | z
     .exact q02 z.symm e
     .exact z
    rw[h2 j e];exact((Tn l n2 hm h1 h2).append_left (g j)).trans List.perm_middle
theorem To(f:Int->Int)(n:Nat):∀us:List Int,(∀u∈us,1<=f u/\f u<=n)->((List.range n).flatMap (cY f us)).Perm (us.map λc=>(f c,c))
 | [],_=>by
   rw[show(List.range n).flatMap (cY f [])=[] from List.flatMap_eq_nil_iff.mpr λi _=>rfl];exact List.Perm.refl _
 | u::us,h=>by
   have hu:=h u (by simp);have ih:=To f n us λv hv=>h v (q13 _ hv);have e:=Tn (x:=(f u,u)) (g:=cY f us) (g':=cY f (u::us)) (i0:=(f u-1).toNat) (List.range n) List.nodup_range (List.mem_range.mpr (by lia)) (by
    unfold cY;rw[q17,q01 (by rw[q19 (by lia)])];rfl) (λi hi=>by
    unfold cY;rw[q17,q00 (by rw[q20 (by lia)];decide)])
   exact e.trans (ih.cons _)
theorem CN{u:Int}(h:u∈us):1<=dC cs us u/\dC cs us u<=us.length:=by
 obtain⟨i,hi,rfl⟩:=List.getElem_of_mem h;have:=MP cs us i hi;have e:(zA cs us).getD i 0=dC cs us us[i]:=by
  unfold zA;rw[q18,q26,q31 hi];rfl
 rw[e]at this;exact this
theorem n6(cs:List (List Int))(us:List Int):(rows (zA cs us) us).Perm (us.map λc=>(dC cs us c,c)):=by
 rw[Xo];exact To _ _ _ λu hu=>CN hu
theorem Fj(cs:List (List Int))(us:List Int):(rows (zA cs us) us).length=us.length:=by rw[(n6 cs us).length_eq,q06]
end M6
namespace M57
open PySem L2 M20
def cw(w:Str):Bool:=decide (w.length<=3) && (!decide (w.cps.toList.head? = some 48) && w.cps.toList.all Fh)
def num(w:Str):Int:=match (List.range 999).find? fun(k:Nat)=>decide (w=gk (k+1))with
 | some k=>k+1
 | none=>0
def Xu:List Str:=sS++wl++uw
def nums(f:Str)(r:List Str):Option (List Int) :=
 if decide (f=Str.ofString "card")=false/\(r.length:Int)≠jv f then none else if r.all cw=true then some (r.map num)else none
def Fm(ws:List Str):Option (Str×Str×List Int) :=
 if dD (Str.ofString "") ws=true then none else match ws with
  | []=>none
  | f::r=>if dD f Xu=false then none else if dD f wl=false then(nums f r).map λns=>(f,Str.ofString "",ns)else match r with
    | []=>none
    | j::r=>(nums f r).map λns=>(f,j,ns)
def Xv(z:Str):Option (Str×Str×List Int):=Fm (Txt.split z zY)
def ux:List Str:=["couples","show","places","leave","step","parts","deciders","row"]
end M57
namespace M59
open PySem PySem.Builtin PySem.Builtin.Str
end M59
namespace M57
open PySem L2 M20
end M57
namespace L2
open PySem
inductive Qn where
 | iF
 | dC
 | ky
 | mj
 | fJ (j:Str)
 | fu (j:Str)
 | dy (j:Str) (c:Int)
 | row (c:Int)
def Qn.f:Qn->Str
 | .iF=>Str.ofString "couples"
 | .dC=>Str.ofString "places"
 | .ky=>Str.ofString "parts"
 | .mj=>Str.ofString "deciders"
 | .fJ _=>Str.ofString "show"
 | .fu _=>Str.ofString "leave"
 | .dy _ _=>Str.ofString "step"
 | .row _=>Str.ofString "row"
def Qn.j:Qn->Str
 | .fJ j=>j
 | .fu j=>j
 | .dy j _=>j
 | _=>Str.ofString ""
def Qn.ns:Qn->List Int
 | .dy _ c=>[c]
 | .row c=>[c]
 | _=>[]
def Qn.text(q:Qn):Str:=M20.row q.f q.j q.ns
def Qn.Ok:Qn->Prop
 | .fJ j=>M20.Wd j
 | .fu j=>M20.Wd j
 | .dy j c=>M20.Wd j/\1<=c/\c<=999
 | .row c=>1<=c/\c<=999
 | _=>True
theorem Qn.Row{q:Qn}(h:q.Ok):M20.Row q.f q.j q.ns:=by
 cases q with
 | iF=>exact⟨(M20.yY (f:=Str.ofString "couples") (by decide)).eO,(M20.yY (f:=Str.ofString "couples") (by decide)).fw,λz=>q02 (show M20.dD (Str.ofString "couples") M20.wl=true from z) (by decide +kernel),λ_=>rfl,.inr (show(0:Int)=M20.jv (Str.ofString "couples")by decide +kernel),(λn hn=>by cases hn),by show 0<=24;decide⟩
 | dC=>exact⟨(M20.yY (f:=Str.ofString "places") (by decide)).eO,(M20.yY (f:=Str.ofString "places") (by decide)).fw,λz=>q02 (show M20.dD (Str.ofString "places") M20.wl=true from z) (by decide +kernel),λ_=>rfl,.inr (show(0:Int)=M20.jv (Str.ofString "places")by decide +kernel),(λn hn=>by cases hn),by show 0<=24;decide⟩
 | ky=>exact⟨(M20.yY (f:=Str.ofString "parts") (by decide)).eO,(M20.yY (f:=Str.ofString "parts") (by decide)).fw,λz=>q02 (show M20.dD (Str.ofString "parts") M20.wl=true from z) (by decide +kernel),λ_=>rfl,.inr (show(0:Int)=M20.jv (Str.ofString "parts")by decide +kernel),(λn hn=>by cases hn),by show 0<=24;decide⟩
 | mj=>exact⟨(M20.yY (f:=Str.ofString "deciders") (by decide)).eO,(M20.yY (f:=Str.ofString "deciders") (by decide)).fw,λz=>q02 (show M20.dD (Str.ofString "deciders") M20.wl=true from z) (by decide +kernel),λ_=>rfl,.inr (show(0:Int)=M20.jv (Str.ofString "deciders")by decide +kernel),(λn hn=>by cases hn),by show 0<=24;decide⟩
 | fJ j=>exact⟨(M20.yY (f:=Str.ofString "show") (by decide)).eO,(M20.yY (f:=Str.ofString "show") (by decide)).fw,λ_=>h,λz=>q02 (show M20.dD (Str.ofString "show") M20.wl=false from z) (by decide +kernel),.inr (show(0:Int)=M20.jv (Str.ofString "show")by decide +kernel),(λn hn=>by cases hn),by show 0<=24;decide⟩
 | fu j=>exact⟨(M20.yY (f:=Str.ofString "leave") (by decide)).eO,(M20.yY (f:=Str.ofString "leave") (by decide)).fw,λ_=>h,λz=>q02 (show M20.dD (Str.ofString "leave") M20.wl=false from z) (by decide +kernel),.inr (show(0:Int)=M20.jv (Str.ofString "leave")by decide +kernel),(λn hn=>by cases hn),by show 0<=24;decide⟩
 | dy j c=>exact⟨(M20.yY (f:=Str.ofString "step") (by decide)).eO,(M20.yY (f:=Str.ofString "step") (by decide)).fw,λ_=>h.1,λz=>q02 (show M20.dD (Str.ofString "step") M20.wl=false from z) (by decide +kernel),.inr (show(1:Int)=M20.jv (Str.ofString "step")by decide +kernel),(λn hn=>by rw[List.mem_singleton.mp hn];exact h.2),by show 1<=24;decide⟩
 | row c=>exact⟨(M20.yY (f:=Str.ofString "row") (by decide)).eO,(M20.yY (f:=Str.ofString "row") (by decide)).fw,λz=>q02 (show M20.dD (Str.ofString "row") M20.wl=true from z) (by decide +kernel),λ_=>rfl,.inr (show(1:Int)=M20.jv (Str.ofString "row")by decide +kernel),(λn hn=>by rw[List.mem_singleton.mp hn];exact h),by show 1<=24;decide⟩
end L2
namespace M6
open PySem L2 M3 M5
def gt:Str:=Str.ofString ">"
def vT(r:R4):Str:=tN r.1++gt++tN r.2.1++colon++tN r.2.2.1++colon++r.2.2.2
def n8(cs:List (List Int))(us:List Int):Str:=Txt.join zY ((rows (zA cs us) us).map sY)
def uy(ws:List Str):Str:=if ws=[] then Str.ofString "none" else Txt.join zY ws
theorem ml(m:Nat):∀(ws:List Str),(∀w∈ws,w.length<=m)->(ws.map (·.length)).sum<=m*ws.length
 | [],_=>zero_le _
 | w::ws,h=>by
   have:=ml m ws λx hx=>h x (q13 _ hx);have:=h w (q14 ..);simp only[map_cons,sum_cons,q12,Nat.mul_add,Nat.mul_one]
   lia
theorem kA(m:Nat){ws:List Str}(h:∀w∈ws,w.length<=m):(Txt.join zY ws).length<=m*ws.length+ws.length:=by
 rw[sW,sX];have:=StrLaws.join_length_le M20.zY ws;have h2:=ml m ws h;have e:M20.zY.length=1:=rfl;rw[e]at this
 lia
variable {cs:List (List Int)}{us:List Int}
theorem Tp(h:∀u∈us,1<=u/\u<=999)(CJ:us.length<=24):(n8 cs us).length<=1000:=by
 unfold n8;have:=kA 25 (ws:=(rows (zA cs us) us).map sY) λw hw=>by
  obtain⟨p,hp,rfl⟩:=q25.mp hw;obtain⟨m1,m2⟩:=Ac hp;have r1:=CN (cs:=cs) m1;have m2:p.1=dC cs us p.2:=m2;exact(Fi (by lia) (h _ m1)).2.2
 rw[q06,Fj]at this
 lia
theorem tf(x y:Sg):(vO x y).length<=5:=by unfold vO;split <;> (try split) <;> decide +kernel
theorem Tq{r:R4}(h:r∈yl cs us):r.1∈us/\r.2.1∈us/\(1<=r.2.2.1/\r.2.2.1<=us.length)/\r.2.2.2.length<=5:=by
 unfold yl at h;obtain⟨pq,hm,e⟩:=List.mem_filterMap.mp h;unfold nb at e;split at e
 .cases e
 obtain⟨p,q⟩:=pq;have hp:=(of_mem_zip hm).1;have hq:=List.mem_of_mem_tail (of_mem_zip hm).2;cases hf:Fc (zn cs p.2) (zn cs q.2) us.length with
 | none=>rw[hf]at e;cases e
 | some w =>
   rw[hf]at e;cases e;have hi:=Fd (zn cs p.2) (zn cs q.2) us.length;rw[hf]at hi;obtain⟨h1,h2,_,_,h5⟩:=hi;refine⟨(Ac hp).1,(Ac hq).1,⟨by show(1:Int)<=(w.1:Int);lia,by show(w.1:Int)<=_;lia⟩,?_⟩;show w.2.length<=5;rw[h5];exact tf _ _
theorem Tr(cs:List (List Int))(us:List Int):(yl cs us).length<=us.length:=by
 unfold yl;refine q38 (List.length_filterMap_le _ _) ?_;rw[length_zip];have:=Fj (cs:=cs) (us:=us)
 lia
theorem Ts{r:R4}(h1:1<=r.1/\r.1<=999)(h2:1<=r.2.1/\r.2.1<=999)(h3:1<=r.2.2.1/\r.2.2.1<=999)(h4:r.2.2.2.length<=5):(vT r).length<=60:=by
 have a:=yp h1;have b:=yp h2;have c:=yp h3;have g:gt.length=1:=by decide +kernel
 unfold vT;simp only[zu,HI,g]
 lia
end M6
namespace L2
open PySem M3 M5 M6
def Sh.bJ(S:Sh):Qn->Option Str
 | .iF=>none
 | .dC=>if S.handed.length=0 then some ("TooFewCards":Str)else none
 | .ky=>if S.handed.length=0 then some ("TooFewCards":Str)else none
 | .mj=>if S.handed.length<2 then some ("TooFewCards":Str)else none
 | .fJ j=>if j∈S.af then(if S.card j=none then some ("NoCard":Str)else none)else some ("UnknownJudge":Str)
 | .fu j=>if j∈S.af then(if S.card j=none then some ("NoCard":Str)else if S.handed.length<2 then some ("TooFewCards":Str)else none)else some ("UnknownJudge":Str)
 | .dy j c=>if j∈S.af then(if S.card j=none then some ("NoCard":Str)else if c∈S.aa then(if((S.card j).getD []).getD 0 0=c then some ("AtTop":Str)else none)else some ("UnknownCouple":Str))else some ("UnknownJudge":Str)
 | .row c=>if S.handed.length=0 then some ("TooFewCards":Str)else if c∈S.aa then none else some ("UnknownCouple":Str)
def Fn(d:List Int)(c:Int)(t:Str):Str:=tN (d.getD (d.idxOf c-1) 0)++Str.ofString " | " ++ t
def Sh.kB(S:Sh):Qn->Str
 | .iF=>Txt.join M6.zY (S.aa.map tN)
 | .dC=>n8 S.ao S.aa
 | .ky=>uy ((yl S.ao S.aa).map vT)
 | .mj=>uy S.decide
 | .fJ j=>Txt.join M6.zY (((S.card j).getD []).map tN)
 | .fu j=>n8 (S.aS j) S.aa
 | .dy j c=>Fn ((S.card j).getD []) c (n8 (S.bh j (fZ ((S.card j).getD []) (((S.card j).getD []).idxOf c))) S.aa)
 | .row c=>vQ (M6.dC S.ao S.aa c) c (zn S.ao c) S.aa.length
def Sh.aA(S:Sh)(q:Qn):Str:=match S.bJ q with
 | some z=>M6.Ah z
 | none=>S.kB q
theorem Sh.kC{S:Sh}{q:Qn}{z:Str}(h:S.bJ q=some z):z=("UnknownJudge":Str)\/z=("NoCard":Str)\/z=("TooFewCards":Str)\/z=("UnknownCouple":Str)\/z=("AtTop":Str):=by
 cases q <;> simp only[Sh.bJ]at h <;> (repeat' split at h) <;> first | (cases h;done) | (injection h with h;subst h;simp)
end L2
namespace M15
open M14
def idx(key:Nat->Int)(n:Nat):List Nat:=(List.range n).flatMap fun(i:Nat)=>(List.range n).filter λk=>decide (key k=(i:Int)+1)
theorem Xw(key:Nat->Int)(n:Nat):(idx key n).Pairwise (R key):=by
 unfold idx;rw[List.pairwise_flatMap];refine⟨λi _=>?_,?_⟩
 .rw[List.pairwise_filter];refine List.Pairwise.imp ?_ (pairwise_lt_range (n:=n));intro a b l ha hb;have ha:=of_decide_eq_true ha;have hb:=of_decide_eq_true hb;exact .inr ⟨by lia,l⟩
 .refine List.Pairwise.imp ?_ (pairwise_lt_range (n:=n));intro i j l x hx y hy;have hx:=of_decide_eq_true (q24.mp hx).2;have hy:=of_decide_eq_true (q24.mp hy).2;exact .inl (by lia)
theorem mm(key:Nat->Int)(n:Nat)(h:∀k,k<n->1<=key k/\key k<=n)(x:Nat):x∈idx key n↔x∈List.range n:=by
 unfold idx;rw[List.mem_flatMap];constructor
 .rintro ⟨i,_,z⟩;exact(q24.mp z).1
 .intro z;have hx:=List.mem_range.mp z;have:=h x hx;exact⟨(key x-1).toNat,List.mem_range.mpr (by lia),q24.mpr ⟨z,q19 (by lia)⟩⟩
variable {key:Nat->Int}
theorem R.asymm{a b:Nat}(h:R key a b)(k:R key b a):False:=by
 rcases h with h | h <;> rcases k with k | k <;> lia
theorem one{key:Nat->Int}:∀{l m:List Nat},l.Pairwise (R key)->m.Pairwise (R key)->(∀x,x∈l↔x∈m)->l=m
 | [],[],_,_,_=>rfl
 | [],b::m,_,_,h=>q02 ((h b).mpr (q14 ..)) (not_mem_nil)
 | a::l,[],_,_,h=>q02 ((h a).mp (q14 ..)) (not_mem_nil)
 | a::l,b::m,hl,hm,h=>by
   rw[List.pairwise_cons]at hl hm;have e:a=b:=by
    rcases q27.mp ((h a).mp (q14 ..))with e | z
    .exact e
    .rcases q27.mp ((h b).mpr (q14 ..))with e | y
     .exact e.symm
     .exact(R.asymm (hm.1 a z) (hl.1 b y)).elim
   subst e;refine congrArg _ (one hl.2 hm.2 λx=>?_);have nl:∀{l:List Nat},(∀y,y∈l->R key a y)->a∉l:=λq z=>R.asymm (q a z) (q a z);constructor
   .intro z;rcases q27.mp ((h x).mp (q13 _ z))with e | y
    .subst e;exact(nl hl.1 z).elim
    .exact y
   .intro z;rcases q27.mp ((h x).mpr (q13 _ z))with e | y
    .subst e;exact(nl hm.1 z).elim
    .exact y
variable {p:Array Nat}
theorem Xx{n:Nat}(h:I key n p n):p.toList.Pairwise (R key):=by
 rw[List.pairwise_iff_getElem];intro i j hi hj l;have hz:=h.1.size;have e:∀(k:Nat)(hk:k<p.toList.length),p.toList[k]=g p k:=λk hk=>by
  have sG:k<p.size:=by simpa using hk
  show _=p.getD k 0;simp[Array.getD,sG]
 rw[e i hi,e j hj];refine h.2 i j l ?_;rw[<-hz]
 simpa using hj
theorem tj{n:Nat}(h:I key n p n)(hk:∀k,k<n->1<=key k/\key k<=n):p.toList=idx key n:=by
 refine one (Xx h) (Xw key n) λx=>?_;rw[mm key n hk];have:=h.1.pm.toList.mem_iff (a:=x)
 simpa using this
theorem zip_get(ps us:List Int)(h:ps.length=us.length):(List.range us.length).map (λk=>(ps.getD k 0,us.getD k 0))=ps.zip us:=by
 refine ext_getElem (by simp[h]) λi h1 h2=>?_;have hi:i<us.length:=by simpa using h1
 have hp:i<ps.length:=by lia
 simp[hi,hp]
theorem vU{ps us:List Int}(hl:ps.length=us.length)(hk:∀k,k<us.length->1<=ps.getD k 0/\ps.getD k 0<=us.length)(h:I (λk=>ps.getD k 0) us.length p us.length):
 p.toList.map (λk=>(ps.getD k 0,us.getD k 0))=M5.rows ps us:=by
 rw[tj h hk];unfold idx M5.rows;rw[List.map_flatMap];congr 1;funext i;rw[<-zip_get ps us hl,filter_map];rfl
end M15
namespace L2
open PySem PySem.W
variable {K:Frag}{H:Hp}{a:Addr}
theorem Refs.nr{cs:List (List Int)}(h:Refs K (IL K) H a cs):Refs K (IL K) (L2.nr H) a cs:=by
 obtain⟨ls,h1,h2⟩:=h;exact⟨ls,h1.nr,h2.imp λ_ _ r=>ai.nr r⟩
theorem Tt{K:Frag}{H:Hp}{ts:List Addr}{ps us:List Int}(hl:ps.length=us.length)(pr:ja H ts ((ps.map V.int).zip (us.map V.int))):∀(l:List Nat),(∀i∈l,i<us.length)->All2 (gD K H) (l.map λi=>ts.getD i 0) (l.map λi=>(ps.getD i 0,us.getD i 0))
 | [],_=>.nil
 | i::l,h=>by
   have hi:=h i (q14 ..);have lt:ts.length=us.length:=by rw[pr.length,length_zip,q06,q06];lia
   refine .cons ?_ (Tt hl pr l λj hj=>h j (q13 _ hj));have ht:ts[i]? = some (ts.getD i 0):=by rw[q18,q31 (by lia)];rfl
   obtain⟨⟨pa,pb⟩,ep,e⟩:=pr.get i _ ht;rw[List.getElem?_zip_eq_some]at ep;obtain⟨e1,e2⟩:=ep;rw[q26,q31 (by lia)]at e1 e2;cases e1;cases e2;have h1:ps.getD i 0=ps[i]:=by rw[q18,q31 (by lia)];rfl
   have h2:us.getD i 0=us[i]:=by rw[q18,q31 (by lia)];rfl
   show bX K H (ts.getD i 0) [.int (ps.getD i 0),.int (us.getD i 0)];rw[h1,h2];exact .inl (.inl e)
variable {te:TE}{fin:List V->Hp->Prop}
theorem kD{xs:List V}{c:St}{tc:TT}(Pv:Nat->List V->Hp->Prop)(h0:Pv 0 [] H)(hl:∀i ys H,i<=xs.length->Pv i ys H->ai K H a xs/\ys.length<=i)(hz:xs.length<=sizeLine)
 (hs:∀i x ys H,xs[i]? = some x->Pv i ys H->∃t u v u' v',x=.ref t/\bX K H t [u,v,u',v']/\tc (some u::some v::some u'::some v'::c) H λb H2=>if b=true then te (some u::some v::some u'::some v'::c) H2 λy H3=>Pv (i+1) (ys++[y]) H3 else Pv (i+1) ys H2) (hd:∀ys H,Pv xs.length ys H->fin ys H):fE K (i5 K a) c tc te H fin:=by
 refine⟨λi m ys H=>m=xs.length-i/\i<=xs.length/\Pv i ys H,⟨xs.length,by simp,zero_le _,h0⟩,?_⟩;rintro i m ys H ⟨rfl,hi,p⟩;obtain⟨q,hy⟩:=hl i ys H hi p;by_cases bU:i<xs.length
 .refine .inr ⟨⟨xs,xs[i],q,by simp[bU]⟩,by lia,λys' H'=>Pv (i+1) ys' H',λys' H' p'=>⟨xs.length-(i+1),by lia,rfl,bU,p'⟩,λx H' y=>?_⟩;obtain⟨e,y⟩:=y;subst e;exact hs i x ys _ (y xs q) p
 .have e:i=xs.length:=by lia
  subst e;exact .inl ⟨⟨xs,q,le_refl _⟩,by lia,hd ys H p⟩
theorem Xy{xs:List V}{c:St}(Pv:Nat->List V->Hp->Prop)(h0:Pv 0 [] H)(hl:∀i ys H,i<=xs.length->Pv i ys H->ai K H a xs/\ys.length<=i)(hz:xs.length<=sizeLine)
 (hs:∀i x ys H,xs[i]? = some x->Pv i ys H->∃t u v u' v',x=.ref t/\bX K H t [u,v,u',v']/\te (some u::some v::some u'::some v'::c) H λy H3=>Pv (i+1) (ys++[y]) H3) (hd:∀ys H,Pv xs.length ys H->fin ys H):fE K (i5 K a) c ue te H fin :=
 kD Pv h0 hl hz (λi x ys H e p=>let ⟨t,u,v,u',v',e1,e2,h⟩:=hs i x ys H e p;⟨t,u,v,u',v',e1,e2,oP (B:=Pv (i+1) ys H) h⟩) hd
theorem kE{ls:List Addr}{rs:List M6.R4}{f:M6.R4->Str}{c:St}(hA:ai K H a (ls.map V.ref))(hR:All2 (F4 K H) ls rs)(hz:rs.length<=1000)
 (sH:∀(p:M6.R4)(H':Hp)(Q:VK),p∈rs->ae H H'->(∀H2,ae H' H2->Q (.str (f p)) H2)->te (some (.int p.1)::some (.int p.2.1)::some (.int p.2.2.1)::some (.str p.2.2.2)::c) H' Q)
 (hd:∀(H':Hp),ae H H'->fin ((rs.map f).map V.str) H'):fE K (i5 K a) c ue te H fin:=by
 have bY:=zq;have hl:=hR.length;refine Xy (xs:=ls.map V.ref) (λi ys H3=>ae H H3/\ys=((rs.take i).map f).map V.str) ⟨ae.refl _,rfl⟩ ?_ (by rw[q06];lia) ?_ ?_
 .rintro i ys H3 hi ⟨s3,rfl⟩;refine⟨s3.seq hA,?_⟩;rw[q06,q06,q11]
  lia
 .rintro i x ys H3 hx ⟨s3,rfl⟩;obtain⟨p,ep,rfl⟩:=wK hx;obtain⟨m,em,rm⟩:=hR.getL ep;refine⟨p,.int m.1,.int m.2.1,.int m.2.2.1,.str m.2.2.2,rfl,s3.j8 rm,sH m H3 _ (mem_of_getElem? em) s3 λH4 s4=>⟨s3.trans s4,?_⟩⟩;rw[take_succ,em,q07,q07];rfl
 .rintro ys H3 ⟨s3,rfl⟩;rw[q06,hl,q15];exact hd H3 s3
end L2
namespace M6
open PySem L2 M3 M5
end M6
namespace L2
open PySem
theorem kF{K:Frag}{F:Addr->Prop}{a:Addr}{ls:List Addr}{cs:List (List Int)}{f:List Int->List Int}{c:St}{te:TE}{H:Hp}{fin:List V->Hp->Prop}(hA:ai K H a (ls.map V.ref))(hR:All2 (λl d=>H l=some (.lst (d.map V.int))) ls cs)(hz:cs.length<=1000)
 (sH:∀(m:Addr)(d:List Int)(H':Hp)(Q:VK),d∈cs->H' m=some (.lst (d.map V.int))->ae H H'->(∀(l:Addr)(H2:Hp),ae H' H2->H2 l=some (.lst ((f d).map V.int))->¬F l->Q (.ref l) H2)->te (some (.ref m)::c) H' Q)
 (hd:∀(ks:List Addr)(H':Hp),ae H H'->All2 (λl d=>H' l=some (.lst (d.map V.int))/\¬F l) ks (cs.map f)->fin (ks.map V.ref) H'):cU (i5 K a) c ue te H fin:=by
 have bY:=zq;have hl:=hR.length;refine zU (xs:=ls.map V.ref) (λk ys H5=>∃ks:List Addr,ys=ks.map V.ref/\ae H H5/\All2 (λl d=>H5 l=some (.lst (d.map V.int))/\¬F l) ks ((cs.take k).map f)) ⟨[],rfl,ae.refl _,.nil⟩ ?_ (by rw[q06];lia) ?_ ?_
 .rintro k ys H5 hk ⟨ks,rfl,s5,r5⟩;refine⟨s5.seq hA,?_⟩;have:=r5.length;rw[q06,q11]at this;rw[q06]
  lia
 .rintro k x ys H5 hx ⟨ks,rfl,s5,r5⟩;obtain⟨m,em,rfl⟩:=wK hx;obtain⟨d,ed,rm⟩:=hR.getL em;refine sH m d H5 _ (mem_of_getElem? ed) (s5 _ _ rm) s5 λl H2 s2 r2 n2=>⟨ks++[l],by rw[q07];rfl,s5.trans s2,?_⟩;rw[take_succ,ed,q07];exact(r5.imp λ_ _ z=>⟨s2 _ _ z.1,z.2⟩).snoc ⟨r2,n2⟩
 .rintro ys H5 ⟨ks,rfl,s5,r5⟩;rw[q06,hl,q15]at r5;exact hd ks H5 s5 r5
end L2
set_option maxHeartbeats 4000000
namespace Pp
open PySem L2
def top(i:Nat):Stmt:=PySem.Challenge.pw_panelplace_k34_desk_questions.main.body.getD i (.Pass ⟨0,0,0,0⟩)
structure Txt (K:Frag) (mg:Str->Option Value):Prop where
 mn:mg "all"=none
 tm:mg "bool"=none
 Ai:mg "int"=none
 aZ:mg "isinstance"=none
 ay:mg "len"=none
 bQ:mg "list"=none
 Fo:mg "max"=none
 Fp:mg "min"=none
 aT:mg "range"=none
 Aj:mg "set"=none
 fi:mg "sorted"=none
 b8:mg "str"=none
 jw:mg "sum"=none
 tq:mg "zip"=none
 iQ:rz K mg "BARE_WORDS" ["seal","couples","places","parts","deciders"]
 eP:rz K mg "JUDGE_WORDS" ["card","show","leave","step"]
 dU:rz K mg "COUPLE_WORDS" ["strike","step","row"]
 gI:∃t,mg "MOST_FIGURES"=some (.int 3 t)
 gJ:∃t,mg "MOST_COUPLES"=some (.int 24 t)
 ig:∃t,mg "MOST_JUDGES"=some (.int 15 t)
 ij:∃t,mg "MOST_NUMBER"=some (.int 999 t)
 iR:∃t,mg "MOST_SIGNS"=some (.int 8 t)
 iS:∃t,mg "MOST_CARDS"=some (.int 200 t)
 dq:∃C,aj K "BadCouples" C/\mg "BadCouples"=some (.ref C)/\iM K C
 dW:∃C,aj K "BadJudges" C/\mg "BadJudges"=some (.ref C)/\iM K C
 bz:∃C,aj K "SheetSealed" C/\mg "SheetSealed"=some (.ref C)/\iM K C
 aN:∃C,aj K "UnknownJudge" C/\mg "UnknownJudge"=some (.ref C)/\iM K C
 cI:∀C D,aj K "UnknownJudge" C->aj K "SheetSealed" D->zy K C D=false
 cm:∀C D,aj K "UnknownJudge" C->aj K "UnknownJudge" D->zy K C D=true
 dE:∀C D,aj K "UnknownJudge" C->aj K "BadRow" D->zy K C D=false
 cC:∃C,aj K "BadCard" C/\mg "BadCard"=some (.ref C)/\iM K C
 br:∃C,aj K "TooManyCards" C/\mg "TooManyCards"=some (.ref C)/\iM K C
 au:∃C,aj K "UnknownCouple" C/\mg "UnknownCouple"=some (.ref C)/\iM K C
 cy:∀C D,aj K "UnknownCouple" C->aj K "SheetSealed" D->zy K C D=false
 cf:∀C D,aj K "UnknownCouple" C->aj K "UnknownJudge" D->zy K C D=false
 dg:∀C D,aj K "UnknownCouple" C->aj K "BadCard" D->zy K C D=false
 cg:∀C D,aj K "UnknownCouple" C->aj K "TooManyCards" D->zy K C D=false
 b9:∀C D,aj K "UnknownCouple" C->aj K "UnknownCouple" D->zy K C D=true
 dr:∀C D,aj K "UnknownCouple" C->aj K "BadRow" D->zy K C D=false
 bF:∃C,aj K "LastCouple" C/\mg "LastCouple"=some (.ref C)/\iM K C
 bc:∃C,aj K "NoCard" C/\mg "NoCard"=some (.ref C)/\iM K C
 dX:∀C D,aj K "NoCard" C->aj K "SheetSealed" D->zy K C D=false
 dF:∀C D,aj K "NoCard" C->aj K "UnknownJudge" D->zy K C D=false
 fK:∀C D,aj K "NoCard" C->aj K "BadCard" D->zy K C D=false
 dG:∀C D,aj K "NoCard" C->aj K "TooManyCards" D->zy K C D=false
 du:∀C D,aj K "NoCard" C->aj K "UnknownCouple" D->zy K C D=false
 eC:∀C D,aj K "NoCard" C->aj K "LastCouple" D->zy K C D=false
 gb:∀C D,aj K "NoCard" C->aj K "NoCard" D->zy K C D=true
 gc:∀C D,aj K "NoCard" C->aj K "BadRow" D->zy K C D=false
 az:∃C,aj K "TooFewCards" C/\mg "TooFewCards"=some (.ref C)/\iM K C
 cR:∀C D,aj K "TooFewCards" C->aj K "SheetSealed" D->zy K C D=false
 cJ:∀C D,aj K "TooFewCards" C->aj K "UnknownJudge" D->zy K C D=false
 dH:∀C D,aj K "TooFewCards" C->aj K "BadCard" D->zy K C D=false
 cK:∀C D,aj K "TooFewCards" C->aj K "TooManyCards" D->zy K C D=false
 cz:∀C D,aj K "TooFewCards" C->aj K "UnknownCouple" D->zy K C D=false
 c6:∀C D,aj K "TooFewCards" C->aj K "LastCouple" D->zy K C D=false
 dY:∀C D,aj K "TooFewCards" C->aj K "NoCard" D->zy K C D=false
 cS:∀C D,aj K "TooFewCards" C->aj K "TooFewCards" D->zy K C D=true
 dZ:∀C D,aj K "TooFewCards" C->aj K "BadRow" D->zy K C D=false
 bj:∃C,aj K "AtTop" C/\mg "AtTop"=some (.ref C)/\iM K C
 eD:∀C D,aj K "AtTop" C->aj K "SheetSealed" D->zy K C D=false
 d0:∀C D,aj K "AtTop" C->aj K "UnknownJudge" D->zy K C D=false
 gd:∀C D,aj K "AtTop" C->aj K "BadCard" D->zy K C D=false
 d6:∀C D,aj K "AtTop" C->aj K "TooManyCards" D->zy K C D=false
 dI:∀C D,aj K "AtTop" C->aj K "UnknownCouple" D->zy K C D=false
 eU:∀C D,aj K "AtTop" C->aj K "LastCouple" D->zy K C D=false
 gK:∀C D,aj K "AtTop" C->aj K "NoCard" D->zy K C D=false
 eE:∀C D,aj K "AtTop" C->aj K "TooFewCards" D->zy K C D=false
 ik:∀C D,aj K "AtTop" C->aj K "AtTop" D->zy K C D=true
 gL:∀C D,aj K "AtTop" C->aj K "BadRow" D->zy K C D=false
 gM:∃C,aj K "BadRow" C/\mg "BadRow"=some (.ref C)/\iM K C
 ah:oM K (zK K "Sheet")
 aP:cb K (zK K "Sheet") "standing"
 bA:cb K (zK K "Sheet") "struck_so_far"
 bZ:cb K (zK K "Sheet") "panel"
 aE:cb K (zK K "Sheet") "card_by_judge"
 aQ:cb K (zK K "Sheet") "taken_so_far"
 bR:cb K (zK K "Sheet") "sealed"
abbrev MQ:Stmt:=wO (top 73) 10
theorem Xz:ag ["self"] ["self"] (zf MQ):=aW
abbrev MR:Stmt:=wO (top 73) 11
theorem XA:ag ["self"] ["self"] (zf MR):=aW
abbrev yV:Stmt:=wO (top 73) 12
theorem XB:ag ["self"] ["self"] (zf yV):=aW
abbrev yt:Stmt:=wO (top 73) 13
abbrev zO:List Str:=["self","judge"]
theorem XC:ag ["self","judge"] zO (zf yt):=aW
abbrev MS:Stmt:=wO (top 73) 4
abbrev zD:List Str:=["self"]
theorem XD:ag ["self"] zD (zf MS):=aW
abbrev MT:Stmt:=wO (top 73) 5
theorem XE:ag ["self"] ["self"] (zf MT):=aW
abbrev MU:Stmt:=wO (top 73) 6
theorem XF:ag ["self"] ["self"] (zf MU):=aW
abbrev HJ:Stmt:=wO (top 73) 7
abbrev zV:List Str:=["self"]
theorem XG:ag ["self"] zV (zf HJ):=aW
abbrev MV:Stmt:=top 100
abbrev Fq:List Str:=["_law_spots_here","_law_couples_here"]
theorem HK:ag ["_law_spots_here","_law_couples_here","_law_rows_here","_law_place","_law_k"] Fq (zf MV):=aW
abbrev Fs:Stmt:=top 101
abbrev MW:List Str:=["_law_one","_law_other","_law_last","_law_number","_law_got","_law_had"]
abbrev HL:List Str:=["_law_one","_law_other","_law_last"]
theorem HM:ag MW HL (zf Fs):=aW
abbrev HN:Stmt:=top 106
abbrev Tu:List Str:=["_law_card_here","_law_couple"]
abbrev HP:List Str:=["_law_card_here","_law_couple"]
theorem XH:ag Tu HP (zf HN):=aW
abbrev HQ:Stmt:=top 107
abbrev yy:List Str:=["_law_things"]
theorem XI:ag ["_law_things"] yy (zf HQ):=aW
abbrev HR:Stmt:=top 108
abbrev Tv:List Str:=["_law_marks_here","_law_last","_law_steps","_law_number","_law_got"]
abbrev HS:List Str:=["_law_marks_here","_law_last"]
theorem HU:ag Tv HS (zf HR):=aW
abbrev HV:Stmt:=top 115
abbrev Tw:List Str:=["_law_cards","_law_who","_law_k","_law_card_here","_law_up"]
abbrev HW:List Str:=["_law_cards","_law_who","_law_k"]
theorem MX:ag Tw HW (zf HV):=aW
abbrev MY:Stmt:=top 15
abbrev HX:List Str:=["card","couples"]
theorem XJ:ag ["card","couples"] HX (zf MY):=aW
abbrev MZ:Stmt:=top 16
abbrev HY:List Str:=["card","couple"]
theorem XM:ag ["card","couple"] HY (zf MZ):=aW
abbrev HZ:Stmt:=top 17
abbrev wQ:List Str:=["card","couple"]
theorem XN:ag ["card","couple"] wQ (zf HZ):=aW
abbrev M0:Stmt:=top 18
abbrev Ia:List Str:=["card","couple"]
theorem M4:ag ["card","couple","place","passed"] Ia (zf M0):=aW
abbrev M7:Stmt:=top 20
theorem XO:ag ["many"] ["many"] (zf M7):=aW
abbrev Ib:Stmt:=top 24
abbrev Ft:List Str:=["marks","number"]
theorem XQ:ag ["marks","number"] Ft (zf Ib):=aW
abbrev M8:Stmt:=top 55
theorem XR:ag ["first"] ["first"] (zf M8):=aW
abbrev Na:Stmt:=top 58
theorem n9:ag ["sign"] ["sign"] (zf Na):=aW
abbrev Nb:Stmt:=top 66
theorem XS:ag ["couple"] ["couple"] (zf Nb):=aW
abbrev Nc:Stmt:=top 68
theorem XT:ag ["sign"] ["sign"] (zf Nc):=aW
abbrev Nd:Stmt:=top 69
abbrev wa:List Str:=["things","most"]
theorem XU:ag ["things","most"] wa (zf Nd):=aW
abbrev Nf:Stmt:=top 70
theorem XX:ag ["things"] ["things"] (zf Nf):=aW
abbrev Ic:Stmt:=top 81
theorem XY:ag ["couples"] ["couples"] (zf Ic):=aW
abbrev Ie:Stmt:=top 82
theorem XZ:ag ["rows"] ["rows"] (zf Ie):=aW
abbrev Ng:Stmt:=top 85
theorem X0:ag ["words"] ["words"] (zf Ng):=aW
abbrev Nh:Stmt:=top 87
abbrev Fu:List Str:=["_law_found"]
theorem X1:ag ["_law_found"] Fu (zf Nh):=aW
abbrev Ni:Stmt:=top 88
abbrev Fv:List Str:=["_law_script","_law_k"]
theorem og:ag ["_law_script","_law_k"] Fv (zf Ni):=aW
abbrev Nj:Stmt:=top 90
abbrev Ig:List Str:=["_law_found","_law_due"]
theorem Tx:ag ["_law_found","_law_due","_law_k"] Ig (zf Nj):=aW
abbrev Nk:Stmt:=top 92
abbrev Ih:List Str:=["_law_cell","_law_place"]
theorem Tz:ag ["_law_cell","_law_place","_law_once"] Ih (zf Nk):=aW
abbrev Nl:Stmt:=top 93
abbrev Ii:List Str:=["_law_mode","_law_cell","_law_least","_law_few","_law_most"]
theorem X2:ag ["_law_mode","_law_cell","_law_least","_law_few","_law_most"] Ii (zf Nl):=aW
abbrev Ij:Stmt:=top 94
abbrev TB:List Str:=["_law_cell","_law_many_here","_law_gap"]
abbrev Ik:List Str:=["_law_cell","_law_many_here"]
theorem TC:ag TB Ik (zf Ij):=aW
abbrev Il:Stmt:=top 95
abbrev TF:List Str:=["_law_cell","_law_many_here","_law_letters","_law_size","_law_spot","_law_ends"]
abbrev Im:List Str:=["_law_cell","_law_many_here"]
theorem Fw:ag TF Im (zf Il):=aW
abbrev Io:Stmt:=top 97
abbrev CO:List Str:=["_law_cards","_law_couple"]
theorem X3:ag ["_law_cards","_law_couple"] CO (zf Io):=aW
abbrev Ip:Stmt:=top 98
abbrev TH:List Str:=["_law_marks_here","_law_last","_law_key_here","_law_number","_law_got"]
abbrev Iq:List Str:=["_law_marks_here","_law_last"]
theorem zev:ag TH Iq (zf Ip):=aW
abbrev Nm:Stmt:=wO (top 73) 1
abbrev Ir:List Str:=["self","judge","card"]
theorem X4:ag ["self","judge","card"] Ir (zf Nm):=aW
abbrev Nn:Stmt:=wO (top 73) 2
abbrev Iu:List Str:=["self","couple"]
theorem TK:ag ["self","couple","judge"] Iu (zf Nn):=aW
abbrev Np:Stmt:=wO (top 73) 3
theorem X5:ag ["self"] ["self"] (zf Np):=aW
abbrev Nq:Stmt:=wO (top 73) 9
abbrev zW:List Str:=["self","judge"]
theorem X6:ag ["self","judge"] zW (zf Nq):=aW
abbrev Nr:Stmt:=top 102
abbrev Iv:List Str:=["_law_cards","_law_couples_here","_law_spots_here"]
theorem wE:ag ["_law_cards","_law_couples_here","_law_spots_here","_law_rows_here","_law_made","_law_k","_law_one","_law_other","_law_what"] Iv (zf Nr):=aW
abbrev Nt:Stmt:=top 109
abbrev Iw:List Str:=["_law_place","_law_couple","_law_cards","_law_last"]
theorem TL:ag ["_law_place","_law_couple","_law_cards","_law_last","_law_marks_here"] Iw (zf Nt):=aW
abbrev Iy:Stmt:=top 110
abbrev TM:List Str:=["_law_spots_here","_law_couples_here"]
abbrev yE:List Str:=["_law_spots_here","_law_couples_here"]
theorem X7:ag TM yE (zf Iy):=aW
abbrev Iz:Stmt:=top 21
abbrev CP:List Str:=["cards","couple"]
theorem X8:ag ["cards","couple"] CP (zf Iz):=aW
abbrev Nu:Stmt:=top 22
abbrev BR:List Str:=["marks","number"]
theorem X9:ag ["marks","number"] BR (zf Nu):=aW
abbrev Nv:Stmt:=top 23
abbrev wq:List Str:=["marks","number"]
theorem Ya:ag ["marks","number"] wq (zf Nv):=aW
abbrev Nw:Stmt:=top 25
theorem Yb:ag ["marks"] ["marks"] (zf Nw):=aW
abbrev Nx:Stmt:=top 45
abbrev zJ:List Str:=["sheet","least"]
theorem Yc:ag ["sheet","least"] zJ (zf Nx):=aW
abbrev IA:Stmt:=top 57
theorem Yd:ag ["word"] ["word"] (zf IA):=aW
abbrev IB:Stmt:=top 64
theorem Ye:ag ["couples"] ["couples"] (zf IB):=aW
abbrev IC:Stmt:=top 67
theorem Yf:ag ["judge"] ["judge"] (zf IC):=aW
abbrev Ny:Stmt:=top 89
abbrev Fx:List Str:=["_law_found","_law_due"]
theorem TN:ag ["_law_found","_law_due","_law_k"] Fx (zf Ny):=aW
abbrev Nz:Stmt:=top 96
abbrev ID:List Str:=["_law_cell","_law_couples_here","_law_style"]
theorem yi:ag ["_law_cell","_law_couples_here","_law_style","_law_pool","_law_turn","_law_left","_law_made","_law_k","_law_spot"] ID (zf Nz):=aW
abbrev Fy:Stmt:=top 99
abbrev NA:List Str:=["_law_cards","_law_couples_here","_law_ranks"]
abbrev yP:List Str:=["_law_cards","_law_couples_here"]
theorem TQ:ag NA yP (zf Fy):=aW
abbrev IE:Stmt:=wO (top 73) 8
abbrev yh:List Str:=["self"]
theorem Yg:ag ["self"] yh (zf IE):=aW
abbrev NB:Stmt:=top 103
abbrev IF:List Str:=["_law_script","_law_start","_law_couples_here","_law_many_here","_law_style","_law_mode"]
theorem IG:ag ["_law_script","_law_start","_law_couples_here","_law_many_here","_law_style","_law_mode","_law_made","_law_k","_law_cell"] IF (zf NB):=aW
abbrev NC:Stmt:=top 111
abbrev IH:List Str:=["_law_cards","_law_couples_here","_law_spots_here"]
theorem yF:ag ["_law_cards","_law_couples_here","_law_spots_here","_law_made","_law_one","_law_other","_law_number","_law_by"] IH (zf NC):=aW
abbrev II:Stmt:=top 112
abbrev TR:List Str:=["_law_cards","_law_couples_here","_law_spots_here"]
abbrev IJ:List Str:=["_law_cards","_law_couples_here"]
theorem TU:ag TR IJ (zf II):=aW
abbrev ND:Stmt:=top 117
abbrev IK:List Str:=["_law_into","_law_couples_here","_law_couple"]
theorem Yh:ag ["_law_into","_law_couples_here","_law_couple"] IK (zf ND):=aW
abbrev NF:Stmt:=top 118
abbrev IM:List Str:=["_law_cards","_law_couples_here","_law_who","_law_couple"]
theorem IP:ag ["_law_cards","_law_couples_here","_law_who","_law_couple","_law_card_here","_law_k","_law_then"] IM (zf NF):=aW
abbrev IQ:Stmt:=top 26
abbrev IS:List Str:=["marks","last"]
theorem Yi:ag ["marks","last"] IS (zf IQ):=aW
abbrev NG:Stmt:=top 29
abbrev Fz:List Str:=["one","other"]
theorem TV:ag ["one","other","number"] Fz (zf NG):=aW
abbrev IT:Stmt:=top 47
abbrev wp:List Str:=["sheet","judge"]
theorem Yj:ag ["sheet","judge"] wp (zf IT):=aW
abbrev NH:Stmt:=top 56
theorem Yk:ag ["word"] ["word"] (zf NH):=aW
abbrev IU:Stmt:=top 65
theorem Yl:ag ["judges"] ["judges"] (zf IU):=aW
abbrev NI:Stmt:=top 91
abbrev IV:List Str:=["_law_found","_law_due"]
theorem TX:ag ["_law_found","_law_due","_law_k"] IV (zf NI):=aW
abbrev NJ:Stmt:=wO (top 73) 0
abbrev IW:List Str:=["self","couples","judges"]
theorem Ym:ag ["self","couples","judges"] IW (zf NJ):=aW
abbrev CQ:Stmt:=top 105
abbrev IX:List Str:=["_law_sheet_here","_law_names","_law_couples_here","_law_gone","_law_cards","_law_many_here","_law_shut","_law_into","_law_k","_law_count","_law_sealed"]
abbrev IY:List Str:=["_law_sheet_here","_law_names","_law_couples_here","_law_gone","_law_cards","_law_many_here","_law_shut"]
theorem FA:ag IX IY (zf CQ):=aW
abbrev wV:Stmt:=top 113
abbrev NK:List Str:=["_law_names","_law_cards","_law_couples_here","_law_now","_law_made","_law_k","_law_rest"]
abbrev IZ:List Str:=["_law_names","_law_cards","_law_couples_here"]
theorem wG:ag NK IZ (zf wV):=aW
abbrev Ja:Stmt:=top 119
abbrev TY:List Str:=["_law_cards","_law_couples_here","_law_who","_law_number","_law_rest","_law_due"]
abbrev Jb:List Str:=["_law_cards","_law_couples_here","_law_who","_law_number"]
theorem NL:ag TY Jb (zf Ja):=aW
abbrev NM:Stmt:=top 28
abbrev Jc:List Str:=["one","other"]
theorem TZ:ag ["one","other","number"] Jc (zf NM):=aW
abbrev NN:Stmt:=top 35
abbrev Jd:List Str:=["one","other"]
theorem T1:ag ["one","other","number"] Jd (zf NN):=aW
abbrev Je:Stmt:=top 54
abbrev Jf:List Str:=["first","words"]
theorem Yn:ag ["first","words"] Jf (zf Je):=aW
abbrev FC:Stmt:=top 76
abbrev NO:List Str:=["sheet","place","couple","marks","ladder","head","steps"]
abbrev Jg:List Str:=["sheet","place","couple"]
theorem FD:ag NO Jg (zf FC):=aW
abbrev NP:Stmt:=top 114
abbrev wA:List Str:=["_law_names","_law_cards","_law_couples_here"]
theorem T2:ag ["_law_names","_law_cards","_law_couples_here","_law_made"] wA (zf NP):=aW
abbrev Jh:Stmt:=top 31
abbrev Ji:List Str:=["rows","own"]
theorem Yo:ag ["rows","own"] Ji (zf Jh):=aW
abbrev NQ:Stmt:=top 53
theorem NR:ag ["row","words","first"] ["row"] (zf NQ):=aW
abbrev NS:Stmt:=top 104
abbrev Jj:List Str:=["_law_couples_here","_law_names","_law_cards"]
theorem NT:ag ["_law_couples_here","_law_names","_law_cards","_law_sheet_here","_law_k"] Jj (zf NS):=aW
abbrev Jk:Stmt:=top 116
abbrev T3:List Str:=["_law_names","_law_cards","_law_couples_here","_law_into","_law_due","_law_spots_here"]
abbrev Jl:List Str:=["_law_names","_law_cards","_law_couples_here"]
theorem Jm:ag T3 Jl (zf Jk):=aW
abbrev FE:Stmt:=top 30
abbrev NU:List Str:=["cards","couples","rows"]
abbrev yT:List Str:=["cards","couples"]
theorem T4:ag NU yT (zf FE):=aW
abbrev NV:Stmt:=top 38
theorem oh:ag ["sheet"] ["sheet"] (zf NV):=aW
abbrev NW:Stmt:=top 42
abbrev Jn:List Str:=["sheet","judge"]
theorem Yp:ag ["sheet","judge"] Jn (zf NW):=aW
abbrev Jo:Stmt:=top 44
abbrev T5:List Str:=["sheet","judge","couple","card","stepped","passed","cards"]
abbrev Jp:List Str:=["sheet","judge","couple"]
theorem FF:ag T5 Jp (zf Jo):=aW
abbrev Jq:Stmt:=top 46
abbrev FG:List Str:=["cards","couples"]
theorem Yq:ag ["cards","couples"] FG (zf Jq):=aW
abbrev NX:Stmt:=top 40
theorem oi:ag ["sheet"] ["sheet"] (zf NX):=aW
abbrev NY:Stmt:=top 75
abbrev Jr:List Str:=["sheet","couple"]
theorem T6:ag ["sheet","couple","all_places"] Jr (zf NY):=aW
abbrev Js:Stmt:=top 43
theorem T7:ag ["sheet","now"] ["sheet"] (zf Js):=aW
abbrev CS:Stmt:=top 33
theorem Yr:ag ["places","couples"] ["places","couples"] (zf CS):=aW
abbrev NZ:Stmt:=top 32
abbrev FH:List Str:=["cards","couples"]
theorem Ys:ag ["cards","couples"] FH (zf NZ):=aW
abbrev N0:Stmt:=top 83
abbrev FI:List Str:=["sheet","places"]
theorem Yt:ag ["sheet","places"] FI (zf N0):=aW
abbrev Jt:Stmt:=top 36
abbrev T8:List Str:=["cards","couples","ranked","rows","one","other","parting"]
abbrev Ju:List Str:=["cards","couples"]
theorem wu:ag T8 Ju (zf Jt):=aW
abbrev N1:Stmt:=top 39
theorem kG:ag ["sheet"] ["sheet"] (zf N1):=aW
abbrev N2:Stmt:=top 84
abbrev Jv:List Str:=["sheet","judge","couple"]
theorem T9:ag ["sheet","judge","couple","step"] Jv (zf N2):=aW
abbrev N3:Stmt:=top 41
theorem Yu:ag ["sheet"] ["sheet"] (zf N3):=aW
abbrev Jw:Stmt:=top 80
abbrev Ua:List Str:=["sheet","first","judge","couples"]
abbrev Jx:List Str:=["sheet","first","judge","couples"]
theorem Yv:ag Ua Jx (zf Jw):=aW
abbrev N4:Stmt:=top 79
abbrev Jy:List Str:=["sheet","first","judge","couples"]
theorem Yw:ag ["sheet","first","judge","couples"] Jy (zf N4):=aW
abbrev N5:Stmt:=top 78
abbrev Jz:List Str:=["sheet","row"]
theorem Ub:ag ["sheet","row","said"] Jz (zf N5):=aW
abbrev N6:Stmt:=top 120
abbrev JA:List Str:=["_law_sheet_here","_law_rows_here","_law_due"]
theorem N7:ag ["_law_sheet_here","_law_rows_here","_law_due","_law_k","_law_found"] JA (zf N6):=aW
abbrev oj:Stmt:=top 121
abbrev FJ:List Str:=["_law_script","_law_mode","_law_couples_here","_law_names","_law_cards","_law_sheet_here","_law_gone","_law_into","_law_who","_law_stray","_law_number","_law_words_here","_law_due","_law_rows_here"]
theorem wz:ag FJ ["_law_script"] (zf oj):=aW
inductive N8 (K:Frag)(vs:List V)(H:Hp)(Q:VK)(E:XK):Prop|mk(p:Addr)(F:Addr->Prop)(S:Sh):vs=[.ref p]->aq K H p F S->Q (.int S.taken) H->N8 K vs H Q E
section
variable {P:Program}{w:World}{K:Frag}{mg:Str->Option Value}{base:Heap}
variable {f:Addr}{fd:FuncData}
theorem Yx(F:aL K "taken" "Sheet.taken" MQ f fd)(T:Txt K mg):ar P w K mg base aX 1 f fd ["self"] (N8 K):=by
 refine F.ok Xz ?_ ?_
 .rintro _ _ _ _⟨p,F,S,rfl,_⟩;rfl
 .rintro aG A outer s H vs Q E hr⟨p,F,S,rfl,⟨dx,a1,a2,a3,d,ax,h⟩,q⟩;refine⟨_,(zd (zi (yX (pv 0) rfl))),?_⟩;exact⟨_,rfl,p,_,dx,_,_,rfl,h.ip,T.ah,T.aQ,rfl,q⟩
inductive N9 (K:Frag)(vs:List V)(H:Hp)(Q:VK)(E:XK):Prop|mk(p:Addr)(F:Addr->Prop)(S:Sh):vs=[.ref p]->aq K H p F S->Q (.bl S.b7) H->N9 K vs H Q E
theorem Yy(F:aL K "is_sealed" "Sheet.is_sealed" MR f fd)(T:Txt K mg):ar P w K mg base aX 1 f fd ["self"] (N9 K):=by
 refine F.ok XA ?_ ?_
 .rintro _ _ _ _⟨p,F,S,rfl,_⟩;rfl
 .rintro aG A outer s H vs Q E hr⟨p,F,S,rfl,⟨dx,a1,a2,a3,d,ax,h⟩,q⟩;refine⟨_,(zd (zi (yX (pv 0) rfl))),?_⟩;exact⟨_,rfl,p,_,dx,_,_,rfl,h.ip,T.ah,T.bR,rfl,q⟩
inductive zX (K:Frag)(vs:List V)(H:Hp)(Q:VK)(E:XK):Prop|mk(p:Addr)(F:Addr->Prop)(S:Sh):vs=[.ref p]->aq K H p F S->((S.b7=true->∀C,aj K "SheetSealed" C->E (.ref C) none H))->((S.b7=false->Q .bH H))->zX K vs H Q E
theorem Yz(F:aL K "refuse_if_sealed" "Sheet.refuse_if_sealed" yV f fd)(T:Txt K mg):ar P w K mg base (dO P w) 1 f fd ["self"] (zX K):=by
 obtain⟨il,bg,c7,bz⟩:=T.bz;refine F.iC XB ?_ ?_
 .rintro _ _ _ _⟨p,F,S,rfl,_⟩;rfl
 .rintro X W aG A outer s H vs Q E hX hW fl md hr⟨p,F,S,rfl,⟨dx,a1,a2,a3,d,ax,h⟩,qE,q⟩;subst hX;refine⟨_,(zd (zw (yL (yX (pv 0) rfl)) (zd (wt rfl md rfl c7 bz (za zp zb))) zm)),?_⟩;refine⟨_,rfl,p,_,dx,_,_,rfl,h.ip,T.ah,T.bR,rfl,_,rfl,vf (λhs=>?_) (λhs=>q hs)⟩;exact⟨(by show 1<=sizeLine;decide),by rw[hW];exact qE hs _ bg⟩
inductive yb (K:Frag)(vs:List V)(H:Hp)(Q:VK)(E:XK):Prop|mk(p:Addr)(F:Addr->Prop)(S:Sh)(j:Str):vs=[.ref p,.str j]->aq K H p F S->((j∉S.af->∀C,aj K "UnknownJudge" C->E (.ref C) none H))->((j∈S.af->Q .bH H))->yb K vs H Q E
theorem YA(F:aL K "refuse_unknown_judge" "Sheet.refuse_unknown_judge" yt f fd)(T:Txt K mg):ar P w K mg base (dO P w) 1 f fd zO (yb K):=by
 obtain⟨gN,aF,cL,aN⟩:=T.aN;refine F.iC XC ?_ ?_
 .rintro _ _ _ _⟨p,F,S,j,rfl,_⟩;rfl
 .rintro X W aG A outer s H vs Q E hX hW fl md hr⟨p,F,S,j,rfl,⟨dx,a1,a2,a3,d,ax,h⟩,qE,q⟩;subst hX;refine⟨_,(zd (zw (zk yz (pv 1) (yX (pv 0) rfl) (by first | exact zl _ | rfl)) (zd (wt rfl md rfl cL aN (za zp zb))) zm)),?_⟩;refine⟨_,rfl,_,rfl,p,_,dx,_,_,rfl,h.ip,T.ah,T.bZ,rfl,_,_,rfl,.inl (ai.of h.i3),rfl,nc _,_,rfl,?_⟩;rw[qZ];refine yn (λhj=>?_) (λhj=>q hj);exact⟨(by show 1<=sizeLine;decide),by rw[hW];exact qE hj _ aF⟩
inductive zE (K:Frag)(vs:List V)(H:Hp)(Q:VK)(E:XK):Prop|mk(p:Addr)(F:Addr->Prop)(S:Sh):vs=[.ref p]->aq K H p F S->(∀(l:Addr)(H':Hp),ae H H'->H l=none->H' l=some (.lst (S.aa.map V.int))->Q (.ref l) H')->zE K vs H Q E
theorem YB(F:aL K "couples" "Sheet.couples" MS f fd)(T:Txt K mg):ar P w K mg base aX 1 f fd zD (zE K):=by
 refine F.ok XD ?_ ?_
 .rintro _ _ _ _⟨p,F,S,rfl,_⟩;rfl
 .rintro aG A outer s H vs Q E hr⟨p,F,S,rfl,⟨dx,a1,a2,a3,d,ax,h⟩,q⟩;refine⟨_,(zd (zi (zG yf (by rfl) T.bQ boot_list (za (yX (pv 0) rfl) zb)))),?_⟩;exact⟨_,rfl,p,_,dx,_,_,rfl,h.ip,T.ah,T.aP,rfl,_,_,rfl,.inl (ai.of h.i1),λl hl=>q l _ (ae.new hl) hl ze⟩
inductive Oa (K:Frag)(vs:List V)(H:Hp)(Q:VK)(E:XK):Prop|mk(p:Addr)(F:Addr->Prop)(S:Sh):vs=[.ref p]->aq K H p F S->(∀(l:Addr)(H':Hp),ae H H'->H l=none->H' l=some (.lst (S.struck.map V.int))->Q (.ref l) H')->Oa K vs H Q E
theorem YC(F:aL K "struck" "Sheet.struck" MT f fd)(T:Txt K mg):ar P w K mg base aX 1 f fd ["self"] (Oa K):=by
 refine F.ok XE ?_ ?_
 .rintro _ _ _ _⟨p,F,S,rfl,_⟩;rfl
 .rintro aG A outer s H vs Q E hr⟨p,F,S,rfl,⟨dx,a1,a2,a3,d,ax,h⟩,q⟩;refine⟨_,(zd (zi (zG yf (by rfl) T.bQ boot_list (za (yX (pv 0) rfl) zb)))),?_⟩;exact⟨_,rfl,p,_,dx,_,_,rfl,h.ip,T.ah,T.bA,rfl,_,_,rfl,.inl (ai.of h.i2),λl hl=>q l _ (ae.new hl) hl ze⟩
inductive Ob (K:Frag)(vs:List V)(H:Hp)(Q:VK)(E:XK):Prop|mk(p:Addr)(F:Addr->Prop)(S:Sh):vs=[.ref p]->aq K H p F S->(∀(l:Addr)(H':Hp),ae H H'->H l=none->H' l=some (.lst (S.af.map V.str))->Q (.ref l) H')->Ob K vs H Q E
theorem YD(F:aL K "judges" "Sheet.judges" MU f fd)(T:Txt K mg):ar P w K mg base aX 1 f fd ["self"] (Ob K):=by
 refine F.ok XF ?_ ?_
 .rintro _ _ _ _⟨p,F,S,rfl,_⟩;rfl
 .rintro aG A outer s H vs Q E hr⟨p,F,S,rfl,⟨dx,a1,a2,a3,d,ax,h⟩,q⟩;refine⟨_,(zd (zi (zG yf (by rfl) T.bQ boot_list (za (yX (pv 0) rfl) zb)))),?_⟩;exact⟨_,rfl,p,_,dx,_,_,rfl,h.ip,T.ah,T.bZ,rfl,_,_,rfl,.inl (ai.of h.i3),λl hl=>q l _ (ae.new hl) hl ze⟩
inductive yc (K:Frag)(vs:List V)(H:Hp)(Q:VK)(E:XK):Prop|mk(p:Addr)(F:Addr->Prop)(S:Sh):vs=[.ref p]->lV K H p F S->S.af.length<=15->(∀(l:Addr)(H':Hp),ae H H'->H l=none->H' l=some (.lst (S.handed.map V.str))->Q (.ref l) H')->yc K vs H Q E
theorem YE(F:aL K "handed" "Sheet.handed" HJ f fd)(T:Txt K mg):ar P w K mg base aX 1 f fd zV (yc K):=by
 refine F.ok XG ?_ ?_
 .rintro _ _ _ _⟨p,F,S,rfl,_⟩;rfl
 .rintro aG A outer s H vs Q E hr⟨p,F,S,rfl,⟨dx,a1,a2,a3,d,ax,h⟩,gf,q⟩;refine⟨_,(zd (zi (zQ (show ak (zf HJ) ["self"] "judge" ["self"] [0] _ from cZ) rfl (zz (yX (pv 0) rfl)) (λ_ _ _ _ _=>(yI (pw (BJ (Cq hr) (pv 0) (vp (K:=K) rfl (pv 1) rfl))))) (λ_ _ _ _ _=>(pv 0))))),?_⟩;have bY:=zq;refine⟨_,rfl,p,_,dx,_,_,rfl,h.ip,T.ah,T.bZ,rfl,a3,rfl,⟨_,ai.of h.i3⟩,?_⟩;refine yN (xs:=S.af.map V.str) (λi ys H2=>H2=H/\ys=((S.af.take i).filter λj=>(S.card j).isSome).map V.str) ⟨rfl,rfl⟩ ?_ (by rw[q06];lia) ?_ ?_
  .rintro i ys H2 hi ⟨rfl,rfl⟩;refine⟨ai.of h.i3,?_⟩;rw[q06];exact q38 (q09 _ _) (by rw[q11];lia)
  .rintro i x ys H2 hx ⟨rfl,rfl⟩;obtain⟨hi,rfl⟩:=Bu hx;refine⟨_,rfl,_,rfl,p,_,dx,_,_,rfl,h.ip,T.ah,T.aE,rfl,d,_,rfl,fI.k (k:=Sum.inr (S.af.getD i "")) h.i4,_,rfl,?_⟩;have hv:(fH ax (Sum.inr (S.af.getD i ""))).isSome=(S.card (S.af.getD i "")).isSome:=by
    cases e:S.card (S.af.getD i "")with
    | none=>rw[h.cn _ e];rfl
    | some c=>obtain⟨l,e1,_⟩:=h.cs _ _ e;rw[e1];rfl
   rw[hv];refine vf (λhb=>?_) (λhb=>?_)
   .refine⟨_,rfl,rfl,?_⟩;rw[yw hi,q16,q17,q01 hb,q07];rfl
   .refine⟨rfl,?_⟩;rw[yw hi,q16,q17,q00 (by rw[hb];exact q23)];simp
  .rintro ys H2 ⟨rfl,rfl⟩ l hl;rw[q06,q15];exact q l _ (ae.new hl) hl ze
inductive JB (K:Frag)(vs:List V)(H:Hp)(Q:VK)(E:XK):Prop|mk(a b:Addr)(ps us:List Int):vs=[.ref a,.ref b]->ai K H a (ps.map V.int)->ai K H b (us.map V.int)->ps.length=us.length->us.length<=500->(∀(l:Addr)(H':Hp)(ls:List Addr),ae H H'->H l=none->H' l=some (.lst (ls.map V.ref))->All2 (gD K H') ls (M5.rows ps us)->Q (.ref l) H')->JB K vs H Q E
theorem Uc{ps us:List Int}{j:Nat}(h1:j<ps.length)(h2:j<us.length):(ps.zip us).take (j+1)=(ps.zip us).take j++[(ps.getD j 0,us.getD j 0)]:=by
 have e:(ps.zip us)[j]? = some (ps.getD j 0,us.getD j 0):=by
  rw[q31 (by rw[length_zip];lia),List.getElem_zip,Cv h1,Cv h2]
 rw[take_succ,e];rfl
theorem YF(F:aL K "_law_rows" "_law_rows" MV f fd)(T:Txt K mg):ar P w K mg base aX 1 f fd Fq (JB K):=by
 refine F.ok HK ?_ ?_
 .rintro _ _ _ _⟨a,b,ps,us,rfl,_⟩;rfl
 .rintro aG A outer s H vs Q E hr⟨a,b,ps,us,rfl,hA,hB,hl,hz,q⟩;refine⟨_,(zc (zt (i:=2) HK.nd rfl (Or.inl rfl) (zF zb))
   (zc (wd PassesOwn.never rfl (AW rfl T.aT (za zg (za (zo yg (yj T.ay (pv 1)) zg) zb))) (zM (i:=3) HK.nd rfl (Or.inl rfl))
     (zd (wd PassesOwn.never rfl (yD rfl T.aT (za (yj T.ay (pv 1)) zb)) (zM (i:=4) HK.nd rfl (Or.inl rfl))
     (zd (zw (zk yB (zB zv (pv 0) (pv 4) (λ_ _=>rfl)) (pv 3) (zl _)) (zd (zT (wb PySem.F.plainAttrs_list PySem.F.slot_list_append PySem.F.type_list_append yC (pv 2) (za (mP (za (pv 3) (za (zB zv (pv 1) (pv 4) (λ_ _=>rfl)) zb))) zb)))) zm)))))
   (zd (zi (pv 2))))),?_⟩
  have bY:=zq;let F:=fun(i:Nat)=>(ps.zip us).filter λp=>decide (p.1=(i:Int)+1);have hF:∀i,(F i).length<=us.length:=λi=>by
   have:=q09 (λp=>decide (p.1=(i:Int)+1)) (ps.zip us);rw[length_zip]at this;show(filter _ _).length<=_
   lia
  have hR:∀i,((List.range i).flatMap F).length<=i*us.length:=λi=>by
   induction i with
   | zero=>simp
   | succ i ih =>
     rw[range_succ,flatMap_append,q08];have e:flatMap F [i]=F i:=by simp
     rw[e,succ_mul];have:=hF i
     lia
  refine⟨by decide,λp0 gT=>?_⟩;refine⟨_,rfl,b,_,rfl,.inl ((ae.new gT).seq hB),_,_,rfl,rfl,_,_,rfl,⟨by decide,by decide,by rw[q06];lia,by rw[q06];lia⟩,?_⟩;refine ym (λi σ H2=>∃(v3 v4:Option V)(ls:List Addr),σ=[some (.ref a),some (.ref b),some (.ref p0),v3,v4]/\ae H H2/\H2 p0=some (.lst (ls.map V.ref))/\All2 (gD K H2) ls ((List.range i).flatMap F)) ⟨_,_,[],rfl,ae.new gT,ze,.nil⟩ ?_ ?_
  .rintro i σ H2 hi ⟨v3,v4,ls,rfl,s2,e2,r2⟩;have hi:i<us.length:=by rw[q06]at hi;lia
   have RY:=hR i;have hmul:i*us.length<=500*500:=mul_le_mul (by lia) hz;refine⟨_,rfl,b,_,rfl,.inl (s2.seq hB),_,rfl,by lia,by rw[q06];lia,?_⟩;refine ym (λj σ H3=>∃(v4:Option V)(ls:List Addr),σ=[some (.ref a),some (.ref b),some (.ref p0),some (.int (1+(i:Int))),v4]/\ae H H3/\H3 p0=some (.lst (ls.map V.ref))/\All2 (gD K H3) ls ((List.range i).flatMap F++(((ps.zip us).take j).filter λp=>decide (p.1=(i:Int)+1)))) ⟨_,ls,rfl,s2,e2,by rw[take_zero,filter_nil,append_nil];exact r2⟩ ?_ ?_
   .rintro j σ H3 hj ⟨v4,ls,rfl,s3,e3,r3⟩;have hj:j<us.length:=by rw[q06]at hj;lia
    have mq:j<ps.length:=by lia
    have e1:fC (ps.map V.int) (0+(j:Int))=some (.int (ps.getD j 0)):=by rw[Int.zero_add];exact zP (oQ mq)
    have e4:fC (us.map V.int) (0+(j:Int))=some (.int (us.getD j 0)):=by rw[Int.zero_add];exact zP (oQ hj)
    have hlen:=r3.length;rw[q08]at hlen;have ib:=q09 (λp=>decide (p.1=(i:Int)+1)) ((ps.zip us).take j);rw[q11]at ib;refine⟨_,rfl,_,rfl,a,_,_,_,rfl,rfl,s3.seq hA,e1,_,rfl,rfl,_,rfl,yO (λh=>?_) (λh=>?_)⟩
    .have h:ps.getD j 0=(i:Int)+1:=by injection h with h;lia
     refine⟨_,rfl,.inl ⟨rfl,_,ai.of e3⟩,_,rfl,_,rfl,_,rfl,b,_,_,_,rfl,rfl,s3.seq hB,e4,(by show 2<=sizeLine;decide),λp5 Oc=>?_⟩;have Od:p0≠p5:=zr e3 Oc;refine⟨p0,_,_,rfl,rfl,(by rw[zj Od];exact e3),(by rw[q06];lia),?_⟩;refine⟨_,ls++[p5],rfl,(s3.aB Oc).put gT,Hu ls p5,?_⟩;rw[Uc mq hj,q16,filter_cons_of_pos (by simpa using h),filter_nil,<-append_assoc];refine All2.snoc (gD.put (r3.imp λ_ _=>gD.stays K _ _ _ _ (ae.new Oc)) (by rw[zj Od];exact e3)) ?_;refine bX.put (ys:=ls.map V.ref) ?_ (by rw[zj Od];exact e3);show bX K _ p5 [.int (ps.getD j 0),.int (us.getD j 0)];rw[h,Int.add_comm];exact bX.new
    .have h:¬ps.getD j 0=(i:Int)+1:=λz=>h (by rw[z,Int.add_comm]);refine⟨_,ls,rfl,s3,e3,?_⟩;rw[Uc mq hj,q16,filter_cons_of_neg (by simpa using h),filter_nil,append_nil];exact r3
   .rintro σ H3 ⟨v4,ls,rfl,s3,e3,r3⟩;refine⟨_,_,ls,rfl,s3,e3,?_⟩;rw[range_succ,flatMap_append];have e:flatMap F [i]=F i:=by simp
    have et:(ps.zip us).take ((us.map V.int).length:Int).toNat=ps.zip us:=take_of_length_le (by rw[length_zip,q06];lia);rw[et]at r3;rw[e];exact r3
  .rintro σ H2 ⟨v3,v4,ls,rfl,s2,e2,r2⟩;have e:(((us.map V.int).length:Int)+1-1).toNat=us.length:=by rw[q06];lia
   rw[e]at r2;exact⟨_,rfl,q p0 _ ls s2 gT e2 r2⟩
inductive Oe (K:Frag)(vs:List V)(H:Hp)(Q:VK)(E:XK):Prop|mk(a b:Addr)(ms us:List Int)(n:Nat):vs=[.ref a,.ref b,.int n]->ai K H a (ms.map V.int)->ai K H b (us.map V.int)->ms.length=us.length->ms.length<=1000->n<=1000->((M6.wf ms us n none->∀H',ae H H'->Q .bH H'))->((∀r,M6.wf ms us n (some r)->∀(l:Addr)(H':Hp),ae H H'->bX K H' l [.int (r.1:Nat),.str r.2]->Q (.ref l) H'))->Oe K vs H Q E
theorem YG(F:aL K "_law_part" "_law_part" Fs f fd)(T:Txt K mg):ar P w K mg base aX 1 f fd HL (Oe K):=by
 refine F.ok HM ?_ ?_
 .rintro _ _ _ _⟨a,b,ms,us,n,rfl,_⟩;rfl
 .rintro aG A outer s H vs Q E hr⟨a,b,ms,us,n,rfl,hA,hB,hl,hz,hn,qn,qs⟩;refine⟨_,(zc (wd PassesOwn.never rfl (AW rfl T.aT (za zg (za (zo yg (pv 2) zg) zb))) (zM (i:=3) HM.nd rfl (Or.inr rfl))
   (zc (yu (i:=4) (show ak (zf Fs) MW "_law_mark" ["_law_number"] [3] _ from cZ) rfl HM.nd rfl (Or.inl rfl) (zz (pv 0)) (λ_ _ _ _ _=>(yI (zk ua (pv 0) (pv 1) (zl _)))) (λ_ _ _ _ _=>(pv 0)))
   (zc (yu (i:=5) (show ak (zf Fs) MW "_law_mark" ["_law_number"] [3] _ from cZ) rfl HM.nd rfl (Or.inl rfl) (zz (pv 1)) (λ_ _ _ _ _=>(yI (zk ua (pv 0) (pv 1) (zl _)))) (λ_ _ _ _ _=>(pv 0)))
   (zc (qK (zw (zk gv (oK uR (zo uQ zg (yj T.ay (pv 4))) (yj T.ay (pv 0)) (zl _)) (oK uR (zo uQ zg (yj T.ay (pv 5))) (yj T.ay (pv 0)) (zl _)) (zl _)) (zd (zi (mP (za (pv 3) (za zp zb))))) zm))
   (zc (qK (zw (PW.pt (AQ (zk uR (zo uQ zg (yj T.ay (pv 4))) (yj T.ay (pv 0)) (zl _)) (AO (zk gv (yj T.ay (pv 4)) (yj T.ay (pv 5)) (zl _))))) (zd (zi (mP (za (pv 3) (za zp zb))))) zm))
   (zd (zw (PW.pt (AQ (zk uR (zo uQ zg (yj T.ay (pv 4))) (yj T.ay (pv 0)) (zl _)) (AO (zk gv (zN (EA rfl) (by rfl) T.jw boot_sum (za (pv 4) zb)) (zN (EA rfl) (by rfl) T.jw boot_sum (za (pv 5) zb)) (zl _))))) (zd (zi (mP (za (pv 3) (za zp zb))))) zm)))))))
   (zd (zi Ci))),?_⟩
  have bY:=zq;refine⟨_,rfl,_,_,rfl,rfl,_,_,rfl,⟨by decide,by decide,by lia,by lia⟩,?_⟩;refine ym (λi σ H2=>∃(v3 v4 v5:Option V),σ=[some (.ref a),some (.ref b),some (.int n),v3,v4,v5]/\ae H H2/\∀j:Nat,1<=j->j<=i->M6.sg ms j=M6.sg us j) ⟨_,_,_,rfl,ae.refl _,λj h1 h2=>by lia⟩ ?_ ?_
  .rintro i σ H2 hi ⟨v3,v4,v5,rfl,s2,hj⟩;have hi:i<n:=by lia
   refine⟨_,rfl,a,rfl,⟨_,s2.seq hA⟩,?_⟩;refine Ht (ms:=ms) (n:=1+(i:Int)) (s2.seq hA) (by lia) (λx R h=>⟨_,rfl,_,rfl,_,_,rfl,rfl,_,rfl,h⟩) (λx R h=>⟨_,rfl,h⟩) ?_;intro l3 eF;have s3:=s2.aB (o:=.lst ((M3.got ms (1+(i:Int))).map V.int)) eF;refine⟨_,rfl,b,rfl,⟨_,s3.seq hB⟩,?_⟩;refine Ht (ms:=us) (n:=1+(i:Int)) (s3.seq hB) (by lia) (λx R h=>⟨_,rfl,_,rfl,_,_,rfl,rfl,_,rfl,h⟩) (λx R h=>⟨_,rfl,h⟩) ?_;intro l4 jO;have en:(1:Int)+(i:Int)=((i+1:Nat):Int):=by lia
   have tu:l3≠l4:=zr ze jO;generalize Ak:upd (upd H2 l3 _) l4 _=H4;have s4:ae H H4:=by rw[<-Ak];exact s3.aB jO
   have t3:H4 l3=some (.lst ((M3.got ms (1+(i:Int))).map V.int)):=by rw[<-Ak,zj tu];exact ze
   have t4:H4 l4=some (.lst ((M3.got us (1+(i:Int))).map V.int)):=by rw[<-Ak];exact ze
   rw[en]at t3 t4 ⊢;have c3:(M3.got ms ((i+1:Nat):Int)).length=M3.cnt ms ((i+1:Nat):Int):=rfl;have c4:(M3.got us ((i+1:Nat):Int)).length=M3.cnt us ((i+1:Nat):Int):=rfl;have m3:(M3.got ms ((i+1:Nat):Int)).sum=M3.sm ms ((i+1:Nat):Int):=rfl;have m4:(M3.got us ((i+1:Nat):Int)).sum=M3.sm us ((i+1:Nat):Int):=rfl;have told:∀(w:Str),M6.sg ms ((i+1:Nat):Int)≠M6.sg us ((i+1:Nat):Int)->w=M6.vO (M6.sg ms ((i+1:Nat):Int)) (M6.sg us ((i+1:Nat):Int))->∀(H5:Hp),ae H H5->∀p,H5 p=none->Q (.ref p) (upd H5 p (.tup [.int ((i+1:Nat):Int),.str w])):=λw bx hw H5 s5 p hp =>
    qs (i+1,w) ⟨Nat.succ_le_succ (zero_le _),hi,λj h1 h2=>hj j h1 (Nat.le_of_lt_succ h2),bx,hw⟩ p _ (s5.aB hp) bX.new
   generalize hk:((i+1:Nat):Int)=k at *;have q3:=ai.of (K:=K) t3;have q4:=ai.of (K:=K) t4;have g1:(M3.got ms k).length=M3.cnt ms k:=rfl;have g2:(M3.got us k).length=M3.cnt us k:=rfl;refine⟨λσ' H'=>σ'=[some (.ref a),some (.ref b),some (.int n),some (.int k),some (.ref l3),some (.ref l4)]/\H'=H4/\(us.length<2*M3.cnt us k↔ms.length<2*M3.cnt ms k),?_,?_⟩
   .refine⟨_,rfl,l3,_,rfl,.inl q3,_,_,rfl,rfl,.inl ⟨by decide,by decide⟩,_,rfl,a,_,rfl,.inl (s4.seq hA),_,_,rfl,rfl,_,rfl,l4,_,rfl,.inl q4,_,_,rfl,rfl,.inl ⟨by decide,by decide⟩,_,rfl,a,_,rfl,.inl (s4.seq hA),_,_,rfl,rfl,rfl,_,rfl,?_⟩;rw[q06,q06,q06,g1,g2];refine yn (λbx=>?_) (λhe=>?_)
    .have jx:¬(ms.length<2*M3.cnt ms k↔us.length<2*M3.cnt us k):=λz=>bx (by
      show V.bl (decide ((ms.length:Int)<2*(M3.cnt ms k:Int)))=V.bl (decide ((ms.length:Int)<2*(M3.cnt us k:Int)));rw[decide_eq_decide.mpr (show(ms.length:Int)<2*(M3.cnt ms k:Int)↔(ms.length:Int)<2*(M3.cnt us k:Int)by lia)])
     refine⟨_,rfl,(by show 2<=sizeLine;decide),told "half" (λz=>jx ?_) ?_ H4 s4⟩
     .by_cases c1:ms.length<2*M3.cnt ms k
      .by_cases c2:us.length<2*M3.cnt us k
       .exact⟨λ_=>c2,λ_=>c1⟩
       .rw[M6.wF c1,M6.Ab (by lia)]at z;cases z
      .by_cases c2:us.length<2*M3.cnt us k
       .rw[M6.Ab (by lia),M6.wF c2]at z;cases z
       .exact⟨λz=>q02 z c1,λz=>q02 z c2⟩
     .by_cases c1:ms.length<2*M3.cnt ms k
      .by_cases c2:us.length<2*M3.cnt us k
       .exact q02 ⟨λ_=>c2,λ_=>c1⟩ jx
       .rw[M6.wF c1,M6.Ab (by lia)];rfl
      .rw[M6.Ab (show 2*M3.cnt ms k<=ms.length by lia)];rfl
    .refine⟨rfl,rfl,?_⟩;injection he with he
     have:=decide_eq_decide.mp he
     lia
   rintro σ' H' ⟨rfl,rfl,vN⟩;refine⟨λσ' Of=>σ'=[some (.ref a),some (.ref b),some (.int n),some (.int k),some (.ref l3),some (.ref l4)]/\Of=H'/\(ms.length<2*M3.cnt ms k->M3.cnt ms k=M3.cnt us k),?_,?_⟩
   .refine⟨_,rfl,l3,_,rfl,.inl q3,_,_,rfl,rfl,.inl ⟨by decide,by decide⟩,_,rfl,a,_,rfl,.inl (s4.seq hA),_,_,rfl,rfl,_,rfl,?_⟩;rw[q06,q06,g1];refine yO (λh1=>?_) (λh1=>fP ⟨rfl,rfl,λz=>q02 (show(ms.length:Int)<2*(M3.cnt ms k:Int)by lia) h1⟩);refine⟨_,rfl,l3,_,rfl,.inl q3,_,rfl,l4,_,rfl,.inl q4,rfl,_,rfl,?_⟩;rw[q06,q06,g1,g2];refine yn (λbx=>?_) (λhe=>⟨rfl,rfl,λ_=>by injection he with he;lia⟩);have c1:ms.length<2*M3.cnt ms k:=by lia
    have BS:¬M3.cnt ms k=M3.cnt us k:=λz=>bx (by rw[z]);refine⟨_,rfl,(by show 2<=sizeLine;decide),told "count" (λz=>BS ?_) ?_ _ s4⟩
    .rw[M6.wF c1,M6.wF (vN.mpr c1)]at z;injection z with z
     have:=(Prod.mk.inj z).1
     lia
    .rw[M6.wF c1,M6.wF (vN.mpr c1)];show _=if((M3.cnt ms k:Nat):Int)=(M3.cnt us k:Nat)then _ else _
     rw[q00 (by lia)]
   rintro σ' Of ⟨rfl,rfl,Og⟩;refine⟨_,rfl,l3,_,rfl,.inl q3,_,_,rfl,rfl,.inl ⟨by decide,by decide⟩,_,rfl,a,_,rfl,.inl (s4.seq hA),_,_,rfl,rfl,_,rfl,?_⟩;rw[q06,q06,g1];have same:M6.sg ms k=M6.sg us k->∀j:Nat,1<=j->j<=i+1->M6.sg ms j=M6.sg us j:=λe j h1 h2=>by
    by_cases c:j<=i
    .exact hj j h1 c
    .have:j=i+1:=by lia
     subst this;rw[hk];exact e
   refine yO (λh1=>?_) (λh1=>fP ⟨_,_,_,rfl,s4,same ?_⟩)
   .have c1:ms.length<2*M3.cnt ms k:=by lia
    refine⟨_,rfl,l3,_,rfl,q3,_,rfl,l4,_,rfl,q4,rfl,_,rfl,yn (λbx=>?_) (λhe=>⟨_,_,_,rfl,s4,same ?_⟩)⟩
    .have BS:¬M3.sm ms k=M3.sm us k:=λz=>bx (by show V.int (M3.sm ms k)=V.int (M3.sm us k);rw[z]);refine⟨_,rfl,(by show 2<=sizeLine;decide),told "sum" (λz=>BS ?_) ?_ _ s4⟩
     .rw[M6.wF c1,M6.wF (vN.mpr c1)]at z;injection z with z
      exact(Prod.mk.inj z).2
     .rw[M6.wF c1,M6.wF (vN.mpr c1)];show _=if((M3.cnt ms k:Nat):Int)=(M3.cnt us k:Nat)then _ else _
      rw[q01 (by rw[Og c1])]
    .injection he with he
     have he:M3.sm ms k=M3.sm us k:=he;rw[M6.wF c1,M6.wF (vN.mpr c1),Og c1,he]
   .rw[M6.Ab (by lia),M6.Ab (by lia)]
  .rintro σ H2 ⟨v3,v4,v5,rfl,s2,hj⟩;have e:((n:Int)+1-1).toNat=n:=by lia
   rw[e]at hj;exact qn (λk h1 h2=>hj k h1 h2) _ s2
inductive Oh (K:Frag)(vs:List V)(H:Hp)(Q:VK)(E:XK):Prop|mk(a:Addr)(ns:List Int)(c:Int):vs=[.ref a,.int c]->ai K H a (ns.map V.int)->ns.length<=1000->(∀(l:Addr)(H':Hp),ae H H'->H l=none->H' l=some (.lst ((ns.filter λo => !decide (o=c)).map V.int))->Q (.ref l) H')->Oh K vs H Q E
theorem YH(F:aL K "_law_without" "_law_without" HN f fd)(T:Txt K mg):ar P w K mg base aX 1 f fd HP (Oh K):=by
 refine F.ok XH ?_ ?_
 .rintro _ _ _ _⟨a,ns,c,rfl,_⟩;rfl
 .rintro aG A outer s H vs Q E hr⟨a,ns,c,rfl,hS,hz,q⟩;refine⟨_,(zd (zi (zQ (show ak (zf HN) Tu "_law_other" ["_law_couple"] [1] _ from cZ) rfl (zz (pv 0)) (λ_ _ _ _ _=>(yI (zk gv (pv 0) (pv 1) (zl _)))) (λ_ _ _ _ _=>(pv 0))))),?_⟩;refine⟨_,rfl,a,rfl,⟨_,hS⟩,?_⟩;refine yN (xs:=ns.map V.int) (λi ys H2=>H2=H/\ys=((ns.take i).filter λo => !decide (o=c)).map V.int) ⟨rfl,rfl⟩ ?_ (by rw[q06];have:=zq;lia) ?_ ?_
  .rintro i ys H2 hi ⟨rfl,rfl⟩;refine⟨hS,?_⟩;rw[q06];have:=q09 (λo => !decide (o=c)) (ns.take i);rw[q11]at this
   lia
  .rintro i x ys H2 hx ⟨rfl,rfl⟩;obtain⟨hi,rfl⟩:=yQ hx;refine⟨_,rfl,_,rfl,rfl,_,rfl,yn (λh=>?_) (λh=>?_)⟩
   .have h:¬ns.getD i 0=c:=λz=>h (by rw[z]);refine⟨_,rfl,rfl,?_⟩;rw[yM hi,q16,filter_cons_of_pos (by simpa using h),q07];rfl
   .have h:ns.getD i 0=c:=by injection h
    refine⟨rfl,?_⟩;rw[yM hi,q16,filter_cons_of_neg (by simpa using h),filter_nil,append_nil]
  .rintro ys H2 ⟨rfl,rfl⟩ l hl;rw[q06,q15];exact q l _ (ae.new hl) hl ze
inductive yS (K:Frag)(vs:List V)(H:Hp)(Q:VK)(E:XK):Prop|mk(a:Addr)(xs:List V)(ws:List Str):vs=[.ref a]->ai K H a xs->All2 eR xs ws->ws.length<=200->((∀w∈ws,w.length<=2000))->(∀H',ae H H'->Q (.str (Txt.join M6.zY ws)) H')->yS K vs H Q E
theorem YI(F:aL K "_law_words" "_law_words" HQ f fd)(T:Txt K mg):ar P w K mg base aX 1 f fd yy (yS K):=by
 refine F.ok XI ?_ ?_
 .rintro _ _ _ _⟨a,xs,ws,rfl,_⟩;rfl
 .rintro aG A outer s H vs Q E hr⟨a,xs,ws,rfl,hA,hW,hl,hw,q⟩;refine⟨_,(zd (zi (wb PySem.F.plainAttrs_str PySem.F.slot_str_join PySem.F.type_str_join ES zp (za (zQ (show ak (zf HQ) ["_law_things"] "_law_thing" [] [] _ from cZ) rfl (zz (pv 0)) (λ_ _ _ _ _=>yk) (λ_ _ _ _ _=>(zG wH (by rfl) T.b8 boot_str (za (pv 0) zb)))) zb)))),?_⟩;have bY:=zq;have YJ:=hW.length;refine⟨rfl,_,rfl,a,rfl,⟨_,hA⟩,?_⟩;refine zU (xs:=xs) (λi ys H2=>H2=H/\ys=(ws.take i).map V.str) ⟨rfl,rfl⟩ ?_ (by lia) ?_ ?_
  .rintro i ys H2 hi ⟨rfl,rfl⟩;exact⟨hA,by rw[q06,q11];lia⟩
  .rintro i x ys H2 hx ⟨rfl,rfl⟩;obtain⟨w,ew,mR⟩:=hW.getL hx;have e:(ws.take (i+1)).map V.str=(ws.take i).map V.str++[.str w]:=by rw[take_succ,ew,q07];rfl
   cases mR with
   | int hb=>exact⟨_,rfl,.inl ⟨_,rfl,yJ hb,rfl,e.symm⟩⟩
   | big=>exact⟨_,rfl,.inl ⟨_,rfl,(by decide +kernel),rfl,e.symm⟩⟩
   | str=>exact⟨_,rfl,.inr ⟨_,rfl,rfl,e.symm⟩⟩
  rintro ys H2 ⟨rfl,rfl⟩ l om;rw[YJ,q15];refine⟨_,l,ws,rfl,rfl,ai.new,by decide +kernel,hl,hw,?_⟩;exact q _ (ae.new om)
inductive Oi (K:Frag)(vs:List V)(H:Hp)(Q:VK)(E:XK):Prop|mk(a:Addr)(ms:List Int)(n:Nat):vs=[.ref a,.int n]->ai K H a (ms.map V.int)->ms.length<=15->((∀x∈ms,1<=x/\x<=24))->n<=24->(∀(l:Addr)(H':Hp),ae H H'->H l=none->H' l=some (.lst ((M6.jb ms n).map V.str))->Q (.ref l) H')->Oi K vs H Q E
theorem YK(F:aL K "_law_ladder" "_law_ladder" HR f fd)(T:Txt K mg):ar P w K mg base aX 1 f fd HS (Oi K):=by
 refine F.ok HU ?_ ?_
 .rintro _ _ _ _⟨a,ms,n,rfl,_⟩;rfl
 .rintro aG A outer s H vs Q E hr⟨a,ms,n,rfl,hA,hz,hx,hn,q⟩;refine⟨_,(zc (zt (i:=2) HU.nd rfl (Or.inl rfl) (zF zb))
   (zc (wd PassesOwn.never rfl (AW rfl T.aT (za zg (za (zo yg (pv 1) zg) zb))) (zM (i:=3) HU.nd rfl (Or.inr rfl))
     (zc (yu (i:=4) (show ak (zf HR) Tv "_law_mark" ["_law_number"] [3] _ from cZ) rfl HU.nd rfl (Or.inl rfl) (zz (pv 0)) (λ_ _ _ _ _=>(yI (zk ua (pv 0) (pv 1) (zl _)))) (λ_ _ _ _ _=>(pv 0)))
   (zd (zT (wb PySem.F.plainAttrs_list PySem.F.slot_list_append PySem.F.type_list_append yC (pv 2) (za (zo zx (zo zx (zG wH (by rfl) T.b8 boot_str (za (yj T.ay (pv 4)) zb)) zp) (zG wH (by rfl) T.b8 boot_str (za (zN (EA rfl) (by rfl) T.jw boot_sum (za (pv 4) zb)) zb))) zb))))))
   (zd (zi (pv 2))))),?_⟩
  have bY:=zq;refine⟨(by show 0<=sizeLine;decide),λl hl=>?_⟩;have s1:=ae.new (o:=.lst []) hl;have e1:upd H l (.lst []) l=some (.lst ((M6.jb ms 0).map V.str)):=ze;generalize Oj:upd H l _=H1 at s1 e1 ⊢;refine⟨_,rfl,_,_,rfl,rfl,_,_,rfl,⟨by decide,by decide,by lia,by lia⟩,?_⟩;rw[show((n:Int)+1-1).toNat=n by lia];refine ym (λi σ H2=>∃v w,σ=[some (.ref a),some (.int n),some (.ref l),v,w]/\ae H H2/\H2 l=some (.lst ((M6.jb ms i).map V.str))) ⟨_,_,rfl,s1,e1⟩ ?_ ?_
  .rintro i σ H2 hi ⟨v,w,rfl,s2,e2⟩;refine⟨_,rfl,a,rfl,⟨_,s2.seq hA⟩,?_⟩;refine Ht (ms:=ms) (n:=1+(i:Int)) (s2.seq hA) (by lia) (λx R h=>⟨_,rfl,_,rfl,_,_,rfl,rfl,_,rfl,h⟩) (λx R h=>⟨_,rfl,h⟩) ?_;intro l3 eF;have s3:=s2.aB (o:=.lst ((M3.got ms (1+(i:Int))).map V.int)) eF;have e3:=(ae.new (o:=.lst ((M3.got ms (1+(i:Int))).map V.int)) eF) _ _ e2;have g3:ai K (upd H2 l3 (.lst ((M3.got ms (1+(i:Int))).map V.int))) l3 ((M3.got ms (1+(i:Int))).map V.int):=ai.new;generalize jP:upd H2 l3 _=H3 at s3 e3 g3 ⊢;have hc:=M3.vJ ms (1+(i:Int));have hs:0<=M3.sm ms (1+(i:Int))/\M3.sm ms (1+(i:Int))<=24*ms.length:=M6.ME hx _;have uz:=M6.MF hz hx (1+(i:Int));have vV:(M6.jb ms i).length=i:=by unfold M6.jb;rw[q06,M6.HA]
   refine⟨_,rfl,.inl ⟨rfl,_,ai.of e3⟩,_,rfl,l3,_,rfl,.inl g3,.inl ⟨_,rfl,?_,_,_,rfl,rfl,?_,_,rfl,l3,_,rfl,g3,.inl ⟨_,rfl,?_,_,_,rfl,rfl,?_,?_⟩⟩⟩
   .rw[q06];exact yJ (by show((M3.cnt ms (1+(i:Int)):Nat):Int).natAbs<=100000;lia)
   .rw[q06];show(tN ((M3.cnt ms (1+(i:Int)):Nat):Int)).length+M6.sl.length<=sizeLine;rw[M6.HC];lia
   .exact yJ (by show(M3.sm ms (1+(i:Int))).natAbs<=100000;lia)
   .rw[q06];show(tN ((M3.cnt ms (1+(i:Int)):Nat):Int)++M6.sl).length+(tN (M3.sm ms (1+(i:Int)))).length<=sizeLine;rw[zu,M6.HC];lia
   .rw[q06];refine⟨l,_,_,rfl,rfl,e3,by rw[q06,vV];lia,_,_,rfl,s3.put hl,?_⟩;rw[ze,M6.S1,q07,show(i:Int)+1=1+(i:Int)by lia];rfl
  .rintro σ H2 ⟨v,w,rfl,s2,e2⟩;exact⟨_,rfl,q l H2 s2 hl e2⟩
inductive Ol (K:Frag)(vs:List V)(H:Hp)(Q:VK)(E:XK):Prop|mk(a:Addr) (cs:List (List Int)) (w k:Nat):vs=[.ref a,.int w,.int k]->Refs K (IL K) H a cs->w<cs.length->cs.length<=500->0<k->k<(cs.getD w []).length->(cs.getD w []).length<=500->(∀(l:Addr)(H':Hp),ae H H'->H l=none->Refs K (IL K) H' l ((cs.take w++[fZ (cs.getD w []) k]++cs.drop (w+1)).filter λd => !decide (d=[]))->Q (.ref l) H')->Ol K vs H Q E
theorem YL(F:aL K "_law_moved" "_law_moved" HV f fd)(T:Txt K mg):ar P w K mg base aX 1 f fd HW (Ol K):=by
 refine F.ok MX ?_ ?_
 .rintro _ _ _ _⟨a,cs,w,k,rfl,_⟩;rfl
 .rintro aG A outer s H vs Q E hr⟨a,cs,w,k,rfl,⟨ls,hA,rA⟩,hw,hz,k0,hk,hkz,q⟩;refine⟨_,(zc (zt (i:=3) MX.nd rfl (Or.inl rfl) (zB zv (pv 0) (pv 1) (λ_ _=>rfl)))
   (zc (zt (i:=4) MX.nd rfl (Or.inl rfl) (zo wy (zo wy (yo wC (pv 3) y9 (yH (zo tZ (pv 2) zg))) (zF (za (zB zv (pv 3) (pv 2) (λ_ _=>rfl)) (za (zB zv (pv 3) (zo tZ (pv 2) zg) (λ_ _=>rfl)) zb)))) (yo wC (pv 3) (yH (zo yg (pv 2) zg)) y9)))
   (zd (zi (zQ (show ak (zf HV) Tw "_law_other" [] [] _ from cZ) rfl (zz (zo wy (zo wy (yo wC (pv 0) y9 (yH (pv 1))) (zF (za (pv 4) zb))) (yo wC (pv 0) (yH (zo yg (pv 1) zg)) y9))) (λ_ _ _ _ _=>(yI (zk (ww (K:=K) rfl hr.bp) (pv 0) (zF zb) (zl _)))) (λ_ _ _ _ _=>(pv 0))))))),?_⟩
  have bY:=zq;have vV:=rA.length;obtain⟨m,em,rm⟩:=rA.at (i:=w) hw [];have am:fC (ls.map V.ref) (w:Int)=some (.ref m):=zP (wM em);generalize hd:cs.getD w []=d at *;have rm:ai K H m (d.map V.int):=rm;refine⟨_,rfl,_,rfl,a,_,_,_,rfl,rfl,hA,am,?_⟩;refine⟨_,rfl,_,rfl,_,_,rfl,rfl,_,rfl,m,_,rfl,rm,λl1 c9=>?_⟩;rw[Lj (by lia),show((k:Int)-1).toNat=k-1 by lia];have s1:=ae.new (o:=.lst ((d.take (k-1)).map V.int)) c9;have e1:upd H l1 (.lst ((d.take (k-1)).map V.int)) l1=some (.lst ((d.take (k-1)).map V.int)):=ze;generalize Oj:upd H l1 _=H1 at s1 e1 ⊢;refine⟨_,rfl,_,rfl,m,_,_,_,rfl,rfl,s1.seq rm,Bm (by lia) (by lia),_,rfl,_,rfl,_,_,rfl,rfl,m,_,_,_,rfl,rfl,s1.seq rm,Bm (by lia) (by lia),(by show 2<=sizeLine;decide),λl2 cX=>?_⟩;rw[show((k:Int)).toNat=k by lia,show((k:Int)-1).toNat=k-1 by lia];have s2:=ae.new (o:=.lst ([d.getD k 0,d.getD (k-1) 0].map V.int)) cX;refine⟨l1,l2,_,[d.getD k 0,d.getD (k-1) 0].map V.int,rfl,rfl,s2 _ _ e1,ze,by simp only[q06,q11,q12,length_nil];lia,λl3 eF=>?_⟩;rw[<-q07];have s3:=(s1.trans s2).aB (o:=.lst ((d.take (k-1)++[d.getD k 0,d.getD (k-1) 0]).map V.int)) eF;have e3:=ze (H:=upd H1 l2 (.lst ([d.getD k 0,d.getD (k-1) 0].map V.int))) (a:=l3) (o:=.lst ((d.take (k-1)++[d.getD k 0,d.getD (k-1) 0]).map V.int));change ae H (upd (upd H1 l2 (.lst [.int (d.getD k 0),.int (d.getD (k-1) 0)])) l3 _)at s3;change upd (upd H1 l2 (.lst [.int (d.getD k 0),.int (d.getD (k-1) 0)])) l3 _ l3=_ at e3;generalize jP:upd (upd H1 l2 _) l3 _=H3 at s3 e3 ⊢;refine⟨_,rfl,_,rfl,_,_,rfl,rfl,_,rfl,m,_,rfl,s3.seq rm,λl4 jO=>?_⟩;rw[G8 (by lia),show((k:Int)+1).toNat=k+1 by lia];have s4:=ae.new (o:=.lst ((d.drop (k+1)).map V.int)) jO;refine⟨l3,l4,_,_,rfl,rfl,s4 _ _ e3,ze,by simp only[q06,q08,q11,length_drop,q12,length_nil];lia,λl5 gg=>?_⟩;rw[<-q07];have s5:=(s3.trans s4).aB (o:=.lst ((d.take (k-1)++[d.getD k 0,d.getD (k-1) 0]++d.drop (k+1)).map V.int)) gg;have e5:=ze (H:=upd H3 l4 (.lst ((d.drop (k+1)).map V.int))) (a:=l5) (o:=.lst ((d.take (k-1)++[d.getD k 0,d.getD (k-1) 0]++d.drop (k+1)).map V.int));change _=some (HO.lst ((fZ d k).map V.int))at e5;generalize CT:upd (upd H3 l4 _) l5 _=H5 at s5 e5 ⊢;refine⟨_,rfl,_,rfl,_,rfl,a,_,rfl,s5.seq hA,λl6 Al=>?_⟩;rw[G7 (by lia),show((w:Int)).toNat=w by lia];have s6:=ae.new (o:=.lst ((ls.map V.ref).take w)) Al;have e6:upd H5 l6 (.lst ((ls.map V.ref).take w)) l6=some (.lst ((ls.map V.ref).take w)):=ze;generalize Om:upd H5 l6 _=H6 at s6 e6 ⊢;refine⟨_,rfl,(by show 1<=sizeLine;decide),λl7 kH=>?_⟩;have s7:=ae.new (o:=.lst [.ref l5]) kH;refine⟨l6,l7,_,[.ref l5],rfl,rfl,s7 _ _ e6,ze,by rw[q11,q06];simp only[q12,length_nil];lia,λl8 uA=>?_⟩;have s8:=(s6.trans s7).aB (o:=.lst ((ls.map V.ref).take w++[.ref l5])) uA;have e8:=ze (H:=upd H6 l7 (.lst [.ref l5])) (a:=l8) (o:=.lst ((ls.map V.ref).take w++[.ref l5]));generalize JC:upd (upd H6 l7 _) l8 _=H8 at s8 e8 ⊢;have t8:=s5.trans s8;refine⟨_,rfl,_,rfl,_,_,rfl,rfl,_,rfl,a,_,rfl,t8.seq hA,λl9 vW=>?_⟩;rw[Cu (by lia),show((w:Int)+1).toNat=w+1 by lia];have s9:=ae.new (o:=.lst ((ls.map V.ref).drop (w+1))) vW;refine⟨l8,l9,_,_,rfl,rfl,s9 _ _ e8,ze,by simp only[q06,q08,q11,length_drop,q12,length_nil];lia,λfA fL=>?_⟩;have ex:(ls.map V.ref).take w++[.ref l5]++(ls.map V.ref).drop (w+1)=(ls.take w++[l5]++ls.drop (w+1)).map V.ref:=by rw[q07,q07,map_take,map_drop];rfl
  rw[ex];have iq:=(s8.trans s9).aB (o:=.lst ((ls.take w++[l5]++ls.drop (w+1)).map V.ref)) fL;have oo:=ze (H:=upd H8 l9 (.lst ((ls.map V.ref).drop (w+1)))) (a:=fA) (o:=.lst ((ls.take w++[l5]++ls.drop (w+1)).map V.ref));generalize YM:upd (upd H8 l9 _) fA _=kI at iq oo ⊢;have Ud:=s5.trans iq;have oX:All2 (IL K kI) (ls.take w++[l5]++ls.drop (w+1)) (cs.take w++[fZ d k]++cs.drop (w+1)):=by
   have z:=rA.imp λ_ _=>IL.stays K _ _ _ _ Ud;exact((z.sI w).app (.cons (show IL K kI l5 (fZ d k)from ai.of (iq _ _ e5)) .nil)).app (z.sJ (w+1))
  refine⟨fA,rfl,⟨_,ai.of oo⟩,?_⟩;refine CL (ai.of oo) oX (by simp only[q08,q11,length_drop,q12,length_nil];lia) (λm d H' R hm h=>?_) (λm H' R h=>⟨_,rfl,h⟩) λks Am cA FK=>?_
  .refine⟨_,rfl,(by show 0<=sizeLine;decide),λiG eG=>?_⟩;have cA:=ae.new (o:=.lst []) eG;refine⟨m,iG,_,[],rfl,rfl,cA.seq hm,ai.new,zC _,rfl,_,rfl,?_⟩;rw[show fR (d.map V.int) []=decide (d=[])from yU _ []];exact h _ cA
  intro jy iT;have FL:=Ud.trans cA;exact q jy _ (FL.aB iT) (FL.free iT) ⟨ks,ai.of ze,FK.imp λ_ _=>IL.stays K _ _ _ _ (ae.new iT)⟩
inductive Oo (K:Frag)(vs:List V)(H:Hp)(Q:VK)(E:XK):Prop|mk(a b:Addr)(ns ms:List Int):vs=[.ref a,.ref b]->ai K H a (ns.map V.int)->ai K H b (ms.map V.int)->ns.length<64->ms.length<64->(∀H',ae H H'->Q (.bl (decide (ns.Perm ms))) H')->Oo K vs H Q E
variable {ns ms:List Int}
theorem YN{xK JD:List Int}(h1:xK.Perm ns)(h2:xK.Pairwise (·<= ·))(h3:JD.Perm ms)(h4:JD.Pairwise (·<= ·)):decide (xK=JD)=decide (ns.Perm ms):=by
 by_cases h:ns.Perm ms
 .rw[q19 h];exact q19 (List.Perm.eq_of_pairwise (λa b _ _ x y=>Int.le_antisymm x y) h2 h4 (h1.trans (h.trans h3.symm)))
 .rw[q20 h];refine q20 λe=>h ?_;subst e;exact h1.symm.trans h3
theorem YO(F:aL K "whole_card" "whole_card" MY f fd)(T:Txt K mg):ar P w K mg base aX 1 f fd HX (Oo K):=by
 refine F.ok XJ ?_ ?_
 .rintro _ _ _ _⟨a,b,ns,ms,rfl,_⟩;rfl
 .rintro aG A outer s H vs Q E hr⟨a,b,ns,ms,rfl,hA,hB,YQ,He,q⟩;refine⟨_,(zd (zi (oK (Cw hr.bp) (zN Lo (by rfl) T.fi PyProof.Rows.boot_sorted (za (pv 0) zb)) (zN Lo (by rfl) T.fi PyProof.Rows.boot_sorted (za (pv 1) zb)) (zl _)))),?_⟩;refine⟨_,rfl,a,ns,rfl,hA,YQ,λl1 xK c9 p1 w1=>?_⟩;refine⟨_,rfl,b,ms,rfl,(ae.new c9).seq hB,He,λl2 JD cX p2 w2=>?_⟩;refine⟨l1,l2,_,_,rfl,rfl,(ae.new cX).seq ai.new,ai.new,zC _,zC _,?_⟩;rw[yU,YN p1 w1 p2 w2];exact q _ ((ae.new c9).aB cX)
inductive Oq (K:Frag)(vs:List V)(H:Hp)(Q:VK)(E:XK):Prop|mk(a:Addr)(ns:List Int)(c:Int):vs=[.ref a,.int c]->ai K H a (ns.map V.int)->c∈ns->Q (.int ((ns.idxOf c:Nat)+1)) H->Oq K vs H Q E
theorem kJ(F:aL K "mark_on" "mark_on" MZ f fd)(T:Txt K mg):ar P w K mg base aX 1 f fd HY (Oq K):=by
 refine F.ok XM ?_ ?_
 .rintro _ _ _ _⟨a,ns,c,rfl,_⟩;rfl
 .rintro aG A outer s H vs Q E hr⟨a,ns,c,rfl,hS,hc,q⟩;refine⟨_,(zd (zi (zo yg (wb PySem.F.plainAttrs_list PySem.F.slot_list_index PySem.F.type_list_index Bj (pv 0) (za (pv 1) zb)) zg))),?_⟩;refine⟨_,rfl,.inl ⟨rfl,_,hS⟩,_,rfl,a,_,_,rfl,rfl,hS,rfl,zC _,?_,_,_,rfl,rfl,?_⟩
  .rw[wm,q06];exact List.idxOf_lt_length_iff.mpr hc
  .rw[wm];exact q
inductive Ot (K:Frag)(vs:List V)(H:Hp)(Q:VK)(E:XK):Prop|mk(a:Addr)(ns:List Int)(c:Int):vs=[.ref a,.int c]->ai K H a (ns.map V.int)->ns.length<=1000->(∀l H',ae H H'->H l=none->H' l=some (.lst ((ns.filter λo => !decide (o=c)).map V.int))->Q (.ref l) H')->Ot K vs H Q E
theorem YR(F:aL K "without_couple" "without_couple" HZ f fd)(T:Txt K mg):ar P w K mg base aX 1 f fd wQ (Ot K):=by
 refine F.ok XN ?_ ?_
 .rintro _ _ _ _⟨a,ns,c,rfl,_⟩;rfl
 .rintro aG A outer s H vs Q E hr⟨a,ns,c,rfl,hS,hz,q⟩;refine⟨_,(zd (zi (zQ (show ak (zf HZ) ["card","couple"] "other" ["couple"] [1] _ from cZ) rfl (zz (pv 0)) (λ_ _ _ _ _=>(yI (zk gv (pv 0) (pv 1) (zl _)))) (λ_ _ _ _ _=>(pv 0))))),?_⟩;refine⟨_,rfl,a,rfl,⟨_,hS⟩,?_⟩;refine yN (xs:=ns.map V.int) (λi ys H2=>H2=H/\ys=((ns.take i).filter λo => !decide (o=c)).map V.int) ⟨rfl,rfl⟩ ?_ (by rw[q06];exact q38 hz (q38 (by decide) zq)) ?_ ?_
  .rintro i ys H2 hi ⟨rfl,rfl⟩;refine⟨hS,?_⟩;rw[q06];exact q38 (q09 _ _) (by rw[q11];lia)
  .rintro i x ys H2 hx ⟨rfl,rfl⟩;obtain⟨hi,rfl⟩:=yQ hx;refine⟨_,rfl,_,rfl,rfl,_,rfl,yn (λbx=>?_) (λhe=>?_)⟩
   .refine⟨_,rfl,rfl,?_⟩;have:¬ns.getD i 0=c:=λe=>bx (by rw[e]);rw[yM hi,q16,filter_cons_of_pos (by show(!decide (ns.getD i 0=c))=true;rw[q20 this];rfl),q07];rfl
   .refine⟨rfl,?_⟩;have:ns.getD i 0=c:=by injection he
    rw[yM hi,q16,filter_cons_of_neg (by show ¬(!decide (ns.getD i 0=c))=true;rw[q19 this];decide),q07];simp
  .rintro ys H2 ⟨rfl,rfl⟩ l hl;rw[q06,q15];exact q l _ (ae.new hl) hl ze
inductive Ou (K:Frag)(vs:List V)(H:Hp)(Q:VK)(E:XK):Prop|mk(a:Addr)(ns:List Int)(i:Nat):vs=[.ref a,.int (ns.getD i 0)]->ai K H a (ns.map V.int)->ns.Nodup->i<ns.length->ns.length<=1000->((∀n∈ns,1<=n/\n<=999))->((i=0->∀C,aj K "AtTop" C->E (.ref C) none H))->((0<i->∀l H',ae H H'->H l=none->H' l=some (.lst ((ns.take (i-1)++[ns.getD i 0,ns.getD (i-1) 0]++ns.drop (i+1)).map V.int))->Q (.ref l) H'))->Ou K vs H Q E
theorem oq(F:aL K "one_up" "one_up" M0 f fd)(T:Txt K mg):ar P w K mg base (dO P w) 1 f fd Ia (Ou K):=by
 obtain⟨vX,bB,iU,bj⟩:=T.bj;refine F.iC M4 ?_ ?_
 .rintro _ _ _ _⟨a,ns,i,rfl,_⟩;rfl
 .rintro X W aG A outer s H vs Q E hX hW fl md hr⟨a,ns,i,rfl,hS,hn,hi,hz,vY,qE,qQ⟩;subst hX;refine⟨_,(zc (zt (i:=2) M4.nd rfl (Or.inl rfl) (wb PySem.F.plainAttrs_list PySem.F.slot_list_index PySem.F.type_list_index Bj (pv 0) (za (pv 1) zb)))
   (zc (zw (zk yB (pv 2) zg (zl _)) (zd (wt rfl md rfl iU bj (za (Hb (yZ zp (yZ (vi (pv 1)) (yZ zp Ha)))) zb))) zm)
   (zc (zt (i:=3) M4.nd rfl (Or.inl rfl) (zB zv (pv 0) (zo tZ (pv 2) zg) (λ_ _=>rfl)))
   (zd (zi (zo wy (zo wy (yo wC (pv 0) y9 (yH (zo tZ (pv 2) zg))) (zF (za (pv 1) (za (pv 3) zb)))) (yo wC (pv 0) (yH (zo yg (pv 2) zg)) y9))))))),?_⟩
  have gO:ns.idxOf (ns.getD i 0)=i:=by rw[Cv hi];exact hn.idxOf_getElem i hi
  have hl:=zq;have FN:(ns.getD i 0).natAbs.log2<1920:=by
   have:=vY _ (mV hi);exact(Nat.log2_lt (by lia)).mpr (q21 (show(ns.getD i 0).natAbs<2 ^ 10 by lia) (Nat.pow_le_pow_right (by decide) (by decide)))
  refine⟨_,rfl,.inl ⟨rfl,_,hS⟩,_,rfl,a,_,_,rfl,rfl,hS,rfl,zC _,by rw[wm,gO,q06];exact hi,?_⟩;rw[wm,gO];refine⟨_,rfl,rfl,_,rfl,yO (λh0=>?_) (λh0=>?_)⟩
  .have h0:i=0:=by injection h0 with h0;lia
   have hL:=PyProof.Rows.int_text_len_1921 FN;have l1:(Str.empty++Str.ofString "couple ").length<=0+7:=Lw (by decide) (by decide);have l2:=Lw l1 hL;have l3:=Lw l2 (show(Str.ofString " is the first one on the card").length<=29 by decide);exact⟨_,rfl,q38 l1 (by decide),_,rfl,.inl ⟨_,rfl,FN,_,rfl,q38 l2 (by decide),_,rfl,q38 l3 (by decide),q38 l3 (by decide),(by show 1<=sizeLine;decide),by rw[hW];exact qE h0 _ bB⟩⟩
  .have h0:0<i:=Nat.pos_of_ne_zero λz=>h0 (by rw[z];rfl);refine⟨_,rfl,_,rfl,_,_,rfl,rfl,a,_,_,_,rfl,rfl,hS,Bm (by lia) (by lia),?_⟩;refine⟨_,rfl,_,rfl,_,_,rfl,rfl,_,rfl,a,_,rfl,hS,λl1 c9=>?_⟩;rw[Lj (by lia),show((i:Int)-1).toNat=i-1 by lia];refine⟨_,rfl,_,rfl,(by show 2<=sizeLine;decide),λl2 cX=>?_⟩;have s1:=ae.new (o:=.lst ((ns.take (i-1)).map V.int)) c9;have s2:=s1.aB (o:=.lst ([ns.getD i 0,ns.getD (i-1) 0].map V.int)) cX;have x9:l1≠l2:=zr ze cX;refine⟨l1,l2,_,[ns.getD i 0,ns.getD (i-1) 0].map V.int,rfl,rfl,by rw[zj x9];exact ze,ze,by simp only[q06,q11,q12,length_nil];lia,λl3 eF=>?_⟩;rw[<-q07];have s3:=s2.aB (o:=.lst ((ns.take (i-1)++[ns.getD i 0,ns.getD (i-1) 0]).map V.int)) eF;refine⟨_,rfl,_,rfl,_,_,rfl,rfl,_,rfl,a,_,rfl,s3.seq hS,λl4 jO=>?_⟩;rw[G8 (by lia),show((i:Int)+1).toNat=i+1 by lia];have s4:=s3.aB (o:=.lst ((ns.drop (i+1)).map V.int)) jO;have tu:l3≠l4:=zr ze jO;refine⟨l3,l4,_,_,rfl,rfl,by rw[zj tu];exact ze,ze,by simp only[q06,q08,q11,length_drop,q12,length_nil];lia,λl5 gg=>?_⟩;rw[<-q07];exact qQ h0 l5 _ (s4.aB gg) (s4.free gg) ze
inductive Ov (K:Frag)(vs:List V)(H:Hp)(Q:VK)(E:XK):Prop|mk(n:Int):vs=[.int n]->Q (.int (n/2+1)) H->Ov K vs H Q E
theorem YS(F:aL K "majority_of" "majority_of" M7 f fd)(T:Txt K mg):ar P w K mg base aX 1 f fd ["many"] (Ov K):=by
 refine F.ok XO ?_ ?_
 .rintro _ _ _ _⟨n,rfl,_⟩;rfl
 .rintro aG A outer s H vs Q E hr⟨n,rfl,q⟩;refine⟨_,(zd (zi (zo yg (zo AZ (pv 0) zg) zg))),?_⟩;exact⟨_,rfl,_,_,rfl,rfl,⟨by decide,by decide⟩,_,_,rfl,rfl,q⟩
inductive JE (K:Frag)(vs:List V)(H:Hp)(Q:VK)(E:XK):Prop|mk(a:Addr)(ms:List Int)(n:Int):vs=[.ref a,.int n]->ai K H a (ms.map V.int)->ms.length<=1000->(∀(l:Addr)(H':Hp),ae H H'->H l=none->H' l=some (.lst ((M3.got ms n).map V.int))->Q (.ref l) H')->JE K vs H Q E
theorem YT(F:aL K "granting" "granting" Ib f fd)(T:Txt K mg):ar P w K mg base aX 1 f fd Ft (JE K):=by
 refine F.ok XQ ?_ ?_
 .rintro _ _ _ _⟨a,ms,n,rfl,_⟩;rfl
 .rintro aG A outer s H vs Q E hr⟨a,ms,n,rfl,hS,hz,q⟩;refine⟨_,(zd (zi (zQ (show ak (zf Ib) ["marks","number"] "mark" ["number"] [1] _ from cZ) rfl (zz (pv 0)) (λ_ _ _ _ _=>(yI (zk ua (pv 0) (pv 1) (zl _)))) (λ_ _ _ _ _=>(pv 0))))),?_⟩;refine⟨_,rfl,a,rfl,⟨_,hS⟩,?_⟩;refine yN (xs:=ms.map V.int) (λi ys H2=>H2=H/\ys=(M3.got (ms.take i) n).map V.int) ⟨rfl,rfl⟩ ?_ (by rw[q06];have:=zq;lia) ?_ ?_
  .rintro i ys H2 hi ⟨rfl,rfl⟩;refine⟨hS,?_⟩;rw[q06];have:=M3.vJ (ms.take i) n;unfold M3.cnt at this;rw[q11]at this
   lia
  .rintro i x ys H2 hx ⟨rfl,rfl⟩;obtain⟨hi,rfl⟩:=yQ hx;refine⟨_,rfl,_,rfl,_,_,rfl,rfl,_,rfl,yO (λh=>?_) (λh=>?_)⟩
   .refine⟨_,rfl,rfl,?_⟩;rw[M3.Hs n hi,q01 h,q07];rfl
   .refine⟨rfl,?_⟩;rw[M3.Hs n hi,q00 h]
  .rintro ys H2 ⟨rfl,rfl⟩ l hl;rw[q06,q15];exact q l _ (ae.new hl) hl ze
inductive Ow (K:Frag)(vs:List V)(H:Hp)(Q:VK)(E:XK):Prop|mk(f:Str):vs=[.str f]->Q (.int (M20.jv f)) H->Ow K vs H Q E
theorem YU(F:aL K "due_couples" "due_couples" M8 f fd)(T:Txt K mg):ar P w K mg base aX 1 f fd ["first"] (Ow K):=by
 refine F.ok XR ?_ ?_
 .rintro _ _ _ _⟨f,rfl,_⟩;rfl
 .rintro aG A outer s H vs Q E hr⟨f,rfl,q⟩;refine⟨_,(zd (zi (Km (zk Rx (pv 0) (EF T.dU rfl) (by first | exact zl _ | rfl)) zg zg))),?_⟩;unfold M20.jv at q;refine⟨_,rfl,λa ha=>⟨a,_,rfl,.inr (ha _),rfl,M20.HH _,_,rfl,?_⟩⟩;refine vf (λh1=>?_) (λh1=>?_)
  .rw[q01 (show M20.dD f M20.uw=true from h1)]at q;exact q
  .rw[q00 (by rw[show M20.dD f M20.uw=false from h1];exact q23)]at q;exact q
inductive Ox (K:Frag)(vs:List V)(H:Hp)(Q:VK)(E:XK):Prop|mk(c:Nat):vs=[.str ⟨#[c]⟩]->Q (.bl (M20.Fh c)) H->Ox K vs H Q E
theorem ot(F:aL K "figure" "figure" Na f fd)(T:Txt K mg):ar P w K mg base aX 1 f fd ["sign"] (Ox K):=by
 refine F.ok n9 ?_ ?_
 .rintro _ _ _ _⟨c,rfl,_⟩;rfl
 .rintro aG A outer s H vs Q E hr⟨c,rfl,q⟩;refine⟨_,(zd (zi (GU Hd Hd zp (pv 0) zp))),?_⟩;unfold M20.Fh at q;refine⟨_,rfl,_,_,rfl,rfl,_,rfl,?_⟩;rw[M20.le_0];refine yO (λh1=>?_) (λh1=>?_)
  .rw[q19 h1,Bool.true_and]at q;refine⟨_,_,rfl,rfl,?_⟩;rw[M20.MN];exact q
  .rw[q20 h1,Bool.false_and]at q;exact q
inductive Oy (K:Frag)(vs:List V)(H:Hp)(Q:VK)(E:XK):Prop|mk(n:Int):vs=[.int n]->Q (.bl (decide (1<=n) && decide (n<=999))) H->Oy K vs H Q E
theorem YV(F:aL K "good_number" "good_number" Nb f fd)(T:Txt K mg):ar P w K mg base aX 1 f fd ["couple"] (Oy K):=by
 refine F.ok XS ?_ ?_
 .rintro _ _ _ _⟨n,rfl,_⟩;rfl
 .rintro aG A outer s H vs Q E hr⟨n,rfl,q⟩;refine⟨_,(zd (zi (GU ua ua zg (pv 0) (Cs T.ij rfl)))),?_⟩;refine⟨_,rfl,_,_,rfl,rfl,_,rfl,yO (λh1=>?_) (λh1=>?_)⟩
  .rw[q19 h1,Bool.true_and]at q;exact⟨_,_,rfl,rfl,q⟩
  .rw[q20 h1,Bool.false_and]at q;exact q
inductive Oz (K:Frag)(vs:List V)(H:Hp)(Q:VK)(E:XK):Prop|mk(c:Nat):vs=[.str ⟨#[c]⟩]->Q (.bl (q9 c)) H->Oz K vs H Q E
theorem YW(F:aL K "small_letter" "small_letter" Nc f fd)(T:Txt K mg):ar P w K mg base aX 1 f fd ["sign"] (Oz K):=by
 refine F.ok XT ?_ ?_
 .rintro _ _ _ _⟨c,rfl,_⟩;rfl
 .rintro aG A outer s H vs Q E hr⟨c,rfl,q⟩;refine⟨_,(zd (zi (GU Hd Hd zp (pv 0) zp))),?_⟩;unfold q9 at q;refine⟨_,rfl,_,_,rfl,rfl,_,rfl,?_⟩;rw[M2.Mh];refine yO (λh1=>?_) (λh1=>?_)
  .rw[q19 h1,Bool.true_and]at q;refine⟨_,_,rfl,rfl,?_⟩;rw[M2.Mi];exact q
  .rw[q20 h1,Bool.false_and]at q;exact q
inductive wU (K:Frag)(vs:List V)(H:Hp)(Q:VK)(E:XK):Prop|mk(x:V)(n:Nat)(m:Int):vs=[x,.int m]->DZ K x H n->Q (.bl (decide (1<=(n:Int)) && decide ((n:Int)<=m))) H->wU K vs H Q E
theorem YX(F:aL K "good_length" "good_length" Nd f fd)(T:Txt K mg):ar P w K mg base aX 1 f fd wa (wU K):=by
 refine F.ok XU ?_ ?_
 .rintro _ _ _ _⟨x,n,m,rfl,_⟩;rfl
 .rintro aG A outer s H vs Q E hr⟨x,n,m,rfl,hx,q⟩;refine⟨_,(zd (zi (GU ua ua zg (zN pO (by rfl) T.ay PySem.boot_len (za (pv 0) zb)) (pv 1)))),?_⟩;refine⟨_,rfl,x,n,rfl,hx,_,_,rfl,rfl,_,rfl,yO (λh1=>?_) (λh1=>?_)⟩
  .rw[q19 h1,Bool.true_and]at q;exact⟨_,rfl,_,_,rfl,rfl,q⟩
  .rw[q20 h1,Bool.false_and]at q;exact q
inductive JF (K:Frag)(vs:List V)(H:Hp)(Q:VK)(E:XK):Prop|mk(a:Addr):vs=[.ref a]->(((∃ns:List Int,ai K H a (ns.map V.int)/\ns.length<4000/\∀H',ae H H'->Q (.bl (decide ns.Nodup)) H')\/∃ts:List Str,ai K H a (ts.map V.str)/\ts.length<4000/\Q (.bl (decide ts.Nodup)) H))->JF K vs H Q E
theorem YY(F:aL K "all_unlike" "all_unlike" Nf f fd)(T:Txt K mg):ar P w K mg base aX 1 f fd ["things"] (JF K):=by
 refine F.ok XX ?_ ?_
 .rintro _ _ _ _⟨a,rfl,_⟩;rfl
 .rintro aG A outer s H vs Q E hr⟨a,rfl,h⟩;refine⟨_,(zd (zi (oK yB (vK (zN call_len_set (by rfl) T.ay PySem.boot_len (za (zG (V7 rfl) (by rfl) T.Aj boot_set (za (pv 0) zb)) zb)) (Wt rfl (by rfl) T.ay (by rfl) T.Aj (pv 0))) (yj T.ay (pv 0)) (zl _)))),?_⟩;rcases h with⟨ns,hS,hz,q⟩|⟨ts,hS,hz,q⟩
  .refine .inl ⟨_,rfl,a,ns,rfl,hS,hz,λl hl=>?_⟩;refine⟨l,_,_,rfl,ze,_,rfl,a,_,rfl,.inl ((ae.new hl).seq hS),rfl,?_⟩;have e:decide (V.int ((PyProof.Rows.firstMet (λi=>ns.getD i 0) ns.length).length:Int)=V.int ((ns.map V.int).length:Int))=decide ns.Nodup:=by
    rw[q06];by_cases h:ns.Nodup
    .rw[q19 h,(RL ns).mpr h];exact q19 rfl
    .rw[q20 h];refine q20 λz=>h ((RL ns).mp ?_);injection z with z
     exact Int.ofNat.inj z
   rw[e];exact q _ (ae.new hl)
  .refine .inr ⟨_,rfl,a,ts,rfl,hS,hz,?_⟩;refine⟨_,rfl,a,_,rfl,.inl hS,rfl,?_⟩;have e:decide (V.int ((met (λi=>ts.getD i "") ts.length).length:Int)=V.int ((ts.map V.str).length:Int))=decide ts.Nodup:=by
    rw[q06];by_cases h:ts.Nodup
    .rw[q19 h,(RN ts "").mpr h];exact q19 rfl
    .rw[q20 h];refine q20 λz=>h ((RN ts "").mp ?_);injection z with z
     exact Int.ofNat.inj z
   rw[e];exact q
inductive OA (K:Frag)(vs:List V)(H:Hp)(Q:VK)(E:XK):Prop|mk(a:Addr)(ns:List Int):vs=[.ref a]->ai K H a (ns.map V.int)->ns.length<=24->((∀n∈ns,1<=n/\n<=999))->(∀H',ae H H'->Q (.str (Txt.join M6.zY (ns.map tN))) H')->OA K vs H Q E
theorem YZ(F:aL K "numbers_text" "numbers_text" Ic f fd)(T:Txt K mg):ar P w K mg base aX 1 f fd ["couples"] (OA K):=by
 refine F.ok XY ?_ ?_
 .rintro _ _ _ _⟨a,ns,rfl,_⟩;rfl
 .rintro aG A outer s H vs Q E hr⟨a,ns,rfl,hA,hl,hn,q⟩;refine⟨_,(zd (zi (wb PySem.F.plainAttrs_str PySem.F.slot_str_join PySem.F.type_str_join ES zp (za (zQ (show ak (zf Ic) ["couples"] "couple" [] [] _ from cZ) rfl (zz (pv 0)) (λ_ _ _ _ _=>yk) (λ_ _ _ _ _=>(zG wH (by rfl) T.b8 boot_str (za (pv 0) zb)))) zb)))),?_⟩;have bY:=zq;refine⟨rfl,_,rfl,a,rfl,⟨_,hA⟩,?_⟩;refine S4 (f:=tN) hA (by lia) (λy H' R hy s' h=>⟨_,rfl,.inl ⟨_,rfl,yJ (by have:=hn y hy;lia),h H' (ae.refl _)⟩⟩) λH1 s1=>?_;intro l1 c9;refine⟨_,l1,ns.map tN,rfl,rfl,ai.new,by decide +kernel,by rw[q06];lia,λw hw=>?_,q _ (s1.aB c9)⟩;obtain⟨n,h,rfl⟩:=q25.mp hw;have:=M6.yp (hn n h)
  lia
inductive JG (K:Frag)(vs:List V)(H:Hp)(Q:VK)(E:XK):Prop|mk(a:Addr)(ls:List Addr) (rs:List (Int×Int)):vs=[.ref a]->ai K H a (ls.map V.ref)->All2 (gD K H) ls rs->rs.length<=24->((∀p∈rs,(1<=p.1/\p.1<=999)/\1<=p.2/\p.2<=999))->(∀H',ae H H'->Q (.str (Txt.join M6.zY (rs.map M6.sY))) H')->JG K vs H Q E
theorem Y0(F:aL K "ranking_text" "ranking_text" Ie f fd)(T:Txt K mg):ar P w K mg base aX 1 f fd ["rows"] (JG K):=by
 refine F.ok XZ ?_ ?_
 .rintro _ _ _ _⟨a,ls,rs,rfl,_⟩;rfl
 .rintro aG A outer s H vs Q E hr⟨a,ls,rs,rfl,hA,hR,hl,OB,q⟩;refine⟨_,(zd (zi (wb PySem.F.plainAttrs_str PySem.F.slot_str_join PySem.F.type_str_join ES zp (za (Mb (show aU (zf Ie) ["rows"] "place" "couple" [] [] _ from sd) rfl (zz (pv 0)) (λ_ _ _ _ _=>yk) (λ_ _ _ _ _=>(Hb (yZ (vi (pv 0)) (yZ zp (yZ (vi (pv 1)) Ha)))))) zb)))),?_⟩;have bY:=zq;refine⟨rfl,_,rfl,a,rfl,⟨_,hA⟩,?_⟩;refine MH (f:=M6.sY) hA hR (by lia) (λpr H' R kK s' h=>?_) λH6 s6=>?_
  .obtain⟨p1,p2⟩:=OB pr kK;obtain⟨l1,l2,l3⟩:=M6.Fi p1 p2;have l0:Str.empty.length=0:=rfl;have lc:(Str.ofString ":").length=1:=M6.HI;unfold tN at l1 l2;refine⟨_,rfl,.inl ⟨_,rfl,yJ (by lia),_,rfl,?_,_,rfl,?_,_,rfl,.inl ⟨_,rfl,yJ (by lia),_,rfl,?_,?_,?_⟩⟩⟩
   .rw[zu];lia
   .rw[zu,zu];lia
   .rw[zu,zu,zu];lia
   .rw[zu,zu,zu];lia
   .rw[M6.MG];exact h H' (ae.refl _)
  intro l6 Al;refine⟨_,l6,rs.map M6.sY,rfl,rfl,ai.new,by decide +kernel,by rw[q06];lia,λw hw=>?_,q _ (s6.aB Al)⟩;obtain⟨p,hp,rfl⟩:=q25.mp hw;have:=(M6.Fi (OB p hp).1 (OB p hp).2).2.2
  lia
inductive OC (K:Frag)(vs:List V)(H:Hp)(Q:VK)(E:XK):Prop|mk(a:Addr)(ws:List Str):vs=[.ref a]->ai K H a (ws.map V.str)->ws.length<=200->((∀w∈ws,w.length<=2000))->(Q (.str (if ws=[] then Str.ofString "none" else Txt.join M6.zY ws)) H)->OC K vs H Q E
theorem Y1(F:aL K "text_or_none" "text_or_none" Ng f fd)(T:Txt K mg):ar P w K mg base aX 1 f fd ["words"] (OC K):=by
 refine F.ok X0 ?_ ?_
 .rintro _ _ _ _⟨a,ws,rfl,_⟩;rfl
 .rintro aG A outer s H vs Q E hr⟨a,ws,rfl,hA,hl,hw,q⟩;refine⟨_,(zd (zi (Km (pN (pv 0) (λ_=>rfl)) (wb PySem.F.plainAttrs_str PySem.F.slot_str_join PySem.F.type_str_join ES zp (za (pv 0) zb)) zp))),?_⟩;refine⟨_,rfl,_,.inl ⟨_,hA,rfl⟩,?_⟩;cases ws with
  | nil=>exact q
  | cons w ws=>exact⟨rfl,_,rfl,_,a,w::ws,rfl,rfl,hA,by decide +kernel,hl,hw,q⟩
inductive JH (K:Frag)(vs:List V)(H:Hp)(Q:VK)(E:XK):Prop|mk(x:_)(b1:_)(b2:_):vs=[x]->isInt x=some b1->isBool x=some b2->Q (.bl (b1 && !b2)) H->JH K vs H Q E
theorem Y2(F:aL K "_law_whole" "_law_whole" Nh f fd)(T:Txt K mg):ar P w K mg base aX 1 f fd Fu (JH K):=by
 refine F.ok X1 ?_ ?_
 .rintro _ _ _ _⟨x,b1,b2,rfl,_⟩;rfl
 .rintro aG A outer s H vs Q E hr⟨x,b1,b2,rfl,h1,h2,k⟩;refine⟨_,(zd (zi (pB (zN V4 (by rfl) T.aZ boot_isinstance (za (pv 0) (za (xm (v:=V.ty "int") rfl T.Ai boot_int rfl) zb))) (Cj (AR (zN RH (by rfl) T.aZ boot_isinstance (za (pv 0) (za (xm (v:=V.ty "bool") rfl T.tm boot_bool rfl) zb)))))))),?_⟩;refine⟨_,rfl,x,b1,rfl,h1,_,rfl,?_⟩;cases b1 with
  | false=>exact fP k
  | true=>exact oP ⟨_,rfl,x,b2,rfl,h2,_,rfl,k⟩
inductive JI (K:Frag)(vs:List V)(H:Hp)(Q:VK)(E:XK):Prop|mk(a:Addr)(ns:List Int)(k:Int):vs=[.ref a,.int k]->ai K H a (ns.map V.int)->0<=k->Q (.int (ns.getD k.toNat 0)) H->JI K vs H Q E
theorem ou(F:aL K "_law_at" "_law_at" Ni f fd)(T:Txt K mg):ar P w K mg base aX 1 f fd Fv (JI K):=by
 refine F.ok og ?_ ?_
 .rintro _ _ _ _⟨a,ns,k,rfl,_⟩;rfl
 .rintro aG A outer s H vs Q E hr⟨a,ns,k,rfl,hS,h0,q⟩;refine⟨_,(zc (zw (zk kZ (pv 1) (yj T.ay (pv 0)) (zl _)) (zd (zi (zB zv (pv 0) (pv 1) (λ_ _=>rfl)))) zm)
   (zd (zi zg))),?_⟩
  refine⟨_,rfl,_,rfl,a,_,rfl,.inl hS,_,_,rfl,rfl,_,rfl,yO (λhk=>?_) (λhk=>?_)⟩
  .rw[q06]at hk;exact⟨_,rfl,_,rfl,a,_,k,_,rfl,rfl,hS,Bm h0 hk,q⟩
  .rw[q06]at hk;show Q (.int 0) H;rw[q18,List.getElem?_eq_none (by lia)]at q;exact q
inductive OD (K:Frag)(vs:List V)(H:Hp)(Q:VK)(E:XK):Prop|mk(a b:Addr)(ts us:List Str):vs=[.ref a,.ref b]->ai K H a (ts.map V.str)->ai K H b (us.map V.str)->us.length<=1000000->Q (.bl (decide (ts=us))) H->OD K vs H Q E
variable {ts:List Str}
theorem ow{us:List Str}(hl:ts.length=us.length)(h:∀j,j<us.length->ts.getD j ""=us.getD j ""):ts=us:=by
 refine ext_getElem hl λj h1 h2=>?_;have:=h j h2
 rwa [q18,q18,q31 h1,q31 h2]at this
theorem Y3(F:aL K "_law_texts" "_law_texts" Nj f fd)(T:Txt K mg):ar P w K mg base aX 1 f fd Ig (OD K):=by
 refine F.ok Tx ?_ ?_
 .rintro _ _ _ _⟨a,b,ts,us,rfl,_⟩;rfl
 .rintro aG A outer s H vs Q E hr⟨a,b,ts,us,rfl,hA,hB,hz,q⟩;refine⟨_,(zc (zw (PW.pt (xo (wv (yL (zN Lf (by rfl) T.aZ boot_isinstance (za (pv 0) (za (xm (v:=V.ty "list") rfl T.bQ boot_list rfl) zb))))) (xn (zk gv (yj T.ay (pv 0)) (yj T.ay (pv 1)) (zl _))))) (zd (zi gX)) zm)
   (zc (wd PassesOwn.never rfl (yD rfl T.aT (za (yj T.ay (pv 1)) zb)) (zM (i:=2) Tx.nd rfl (Or.inl rfl))
     (zd (zw (PW.pt (xo (wv (yL (zN RI (by rfl) T.aZ boot_isinstance (za (zB zv (pv 0) (pv 2) (λ_ _=>rfl)) (za (xm (v:=V.ty "str") rfl T.b8 boot_str rfl) zb))))) (xn (zk gv (zB zv (pv 0) (pv 2) (λ_ _=>rfl)) (zB zv (pv 1) (pv 2) (λ_ _=>rfl)) (zl _))))) (zd (zi gX)) zm)))
   (zd (zi gX)))),?_⟩
  refine⟨_,rfl,_,_,rfl,.yes hA,_,rfl,fP ?_⟩;refine⟨_,rfl,a,_,rfl,.inl hA,_,rfl,b,_,rfl,.inl hB,rfl,_,rfl,?_⟩;rw[q06,q06];refine yn (λbx=>?_) (λhe=>?_)
  .show Q (.bl false) H;have:ts≠us:=λe=>bx (by rw[e]);rw[q20 this]at q;exact q
  .have hl:ts.length=us.length:=by injection he with he;exact Int.ofNat.inj he
   refine⟨_,rfl,b,_,rfl,.inl hB,_,rfl,by lia,by rw[q06];lia,?_⟩;rw[q06];refine ym (λi σ H2=>∃v,σ=[some (.ref a),some (.ref b),v]/\H2=H/\∀j,j<i->ts.getD j ""=us.getD j "") ⟨_,rfl,rfl,λj hj=>by lia⟩ ?_ ?_
   .rintro i σ H2 hi ⟨v,rfl,rfl,hj⟩;have uj:i<us.length:=by simpa using hi
    have e1:fC (ts.map V.str) (0+(i:Int))=some (.str (ts.getD i "")):=by rw[Int.zero_add];exact zP (Hf (by lia))
    have e2:fC (us.map V.str) (0+(i:Int))=some (.str (us.getD i "")):=by rw[Int.zero_add];exact zP (Hf uj)
    refine⟨_,rfl,_,rfl,a,_,_,_,rfl,rfl,hA,e1,_,_,rfl,rfl,_,rfl,fP ?_⟩;refine⟨_,rfl,_,rfl,a,_,_,_,rfl,rfl,hA,e1,_,rfl,_,rfl,b,_,_,_,rfl,rfl,hB,e2,rfl,_,rfl,yn (λbx=>?_) (λhe=>?_)⟩
    .show Q (.bl false) _;have:ts≠us:=λe=>bx (by rw[e]);rw[q20 this]at q;exact q
    .refine⟨_,rfl,rfl,λj G6=>?_⟩;by_cases OE:j=i
     .subst OE;injection he
     .exact hj j (by lia)
   .rintro σ H2 ⟨v,rfl,rfl,hj⟩;show Q (.bl true) _;have:ts=us:=ow hl λj h=>hj j (by simpa using h);rw[q19 this]at q;exact q
def OF(c p:Int):Int:=(c*48271%2147483647+p+1)*69621%2147483647
inductive OG (K:Frag)(vs:List V)(H:Hp)(Q:VK)(E:XK):Prop|mk(c:_)(p:_):vs=[.int c,.int p]->Q (.int (OF c p)) H->OG K vs H Q E
theorem kL(F:aL K "_law_mix" "_law_mix" Nk f fd)(T:Txt K mg):ar P w K mg base aX 1 f fd Ih (OG K):=by
 refine F.ok Tz ?_ ?_
 .rintro _ _ _ _⟨c,p,rfl,_⟩;rfl
 .rintro aG A outer s H vs Q E hr⟨c,p,rfl,q⟩;refine⟨_,(zc (zt (i:=2) Tz.nd rfl (Or.inl rfl) (zo yK (zo uQ (pv 0) zg) zg))
   (zd (zi (zo yK (zo uQ (zo yg (zo yg (pv 2) (pv 1)) zg) zg) zg)))),?_⟩
  refine⟨_,rfl,_,_,rfl,rfl,.inr ⟨by decide,by decide⟩,_,_,rfl,rfl,(by show(0:Int)<2147483647;decide),?_⟩;exact⟨_,rfl,_,rfl,_,_,rfl,rfl,_,_,rfl,rfl,_,_,rfl,rfl,.inr ⟨by decide,by decide⟩,_,_,rfl,rfl,(by show(0:Int)<2147483647;decide),q⟩
inductive OH (K:Frag)(vs:List V)(H:Hp)(Q:VK)(E:XK):Prop|mk(md c a b d:Int):vs=[.int md,.int c,.int a,.int b,.int d]->a<=b->b<=d->(∀r:Int,a<=r->r<=d->Q (.int r) H)->OH K vs H Q E
theorem Y4(F:aL K "_law_many" "_law_many" Nl f fd)(T:Txt K mg):ar P w K mg base aX 1 f fd Ii (OH K):=by
 refine F.ok X2 ?_ ?_
 .rintro _ _ _ _⟨md,c,a,b,d,rfl,_⟩;rfl
 .rintro aG A outer s H vs Q E hr⟨md,c,a,b,d,rfl,h1,h2,q⟩;refine⟨_,(zc (zw (zk yB (pv 0) zg (zl _)) (zd (zi (pv 4))) zm)
   (zc (zw (zk yB (pv 0) zg (zl _)) (zd (zi (zo yg (pv 2) (zo yK (pv 1) (zo tZ (zo yg (pv 4) zg) (pv 2)))))) zm)
   (zd (zi (zo yg (pv 2) (zo yK (pv 1) (zo tZ (zo yg (pv 3) zg) (pv 2)))))))),?_⟩
  have e1:=Int.emod_nonneg c (show d+1-a≠0 by lia);have e2:=Int.emod_lt_of_pos c (show 0<d+1-a by lia);have e3:=Int.emod_nonneg c (show b+1-a≠0 by lia);have e4:=Int.emod_lt_of_pos c (show 0<b+1-a by lia);refine⟨_,rfl,rfl,_,rfl,yO (λ_=>⟨_,rfl,q d (by lia) (by lia)⟩) (λ_=>?_)⟩;refine⟨_,rfl,rfl,_,rfl,yO (λ_=>?_) (λ_=>?_)⟩
  .exact⟨_,rfl,_,rfl,_,rfl,_,_,rfl,rfl,_,rfl,_,_,rfl,rfl,_,_,rfl,rfl,(by show 0<d+1-a;lia),_,_,rfl,rfl,q _ (by lia) (by lia)⟩
  .exact⟨_,rfl,_,rfl,_,rfl,_,_,rfl,rfl,_,rfl,_,_,rfl,rfl,_,_,rfl,rfl,(by show 0<b+1-a;lia),_,_,rfl,rfl,q _ (by lia) (by lia)⟩
inductive OI (K:Frag)(vs:List V)(H:Hp)(Q:VK)(E:XK):Prop|mk(c:_)(m:_):vs=[.int c,.int m]->0<=m->m<=1000->(∀l H',ae H H'->H l=none->H' l=some (.lst ((M1.aa c m.toNat).map V.int))->Q (.ref l) H')->OI K vs H Q E
theorem Y5(F:aL K "_law_couples" "_law_couples" Ij f fd)(T:Txt K mg):ar P w K mg base aX 1 f fd Ik (OI K):=by
 refine F.ok TC ?_ ?_
 .rintro _ _ _ _⟨c,m,rfl,_⟩;rfl
 .rintro aG A outer s H vs Q E hr⟨c,m,rfl,h0,h1,q⟩;refine⟨_,(zc (zt (i:=2) TC.nd rfl (Or.inr rfl) (zB zv (zF (za zg (za zg (za zg (za zg zb))))) (zo yK (pv 0) zg) (λ_ _=>rfl)))
   (zd (zi (zQ (show ak (zf Ij) TB "_law_k" ["_law_cell","_law_gap"] [0,2] _ from cZ) rfl (yD rfl T.aT (za (pv 1) zb)) (λ_ _ _ _ _=>yk) (λ_ _ _ _ _=>(zo yg (zo yK (zo yg (zo AZ (pv 1) zg) (zo uQ (pv 0) (pv 2))) zg) zg)))))),?_⟩
  refine⟨by decide,λp hp=>?_⟩;have g4:0<=c%4/\c%4<4:=⟨Int.emod_nonneg _ (by decide),Int.emod_lt_of_pos _ (by decide)⟩;have eg:fC [V.int 1,V.int 7,V.int 500,V.int 998] (c%4)=some (.int (M1.gap c)):=by
   have h:c%4=0\/c%4=1\/c%4=2\/c%4=3:=by lia
   unfold M1.gap;rcases h with h | h | h | h <;> rw[h] <;> rfl
  refine⟨_,rfl,_,_,rfl,rfl,(by show(0:Int)<4;decide),p,_,_,_,rfl,rfl,ai.new,eg,?_⟩;refine⟨_,rfl,m,rfl,by lia,by lia,?_⟩;refine Li (λi ys H2=>H2=upd H p (.lst [V.int 1,V.int 7,V.int 500,V.int 998])/\ys=(M1.aa c i).map V.int) ⟨rfl,rfl⟩ ?_ (q38 (by lia) zq) ?_ ?_
  .rintro i ys H2 hi ⟨_,rfl⟩;rw[q06,M1.Sm];exact le_refl _
  .rintro i ys H2 hi ⟨rfl,rfl⟩;refine⟨_,rfl,_,_,rfl,rfl,⟨by decide,by decide⟩,_,rfl,_,rfl,_,_,rfl,rfl,.inl ⟨by lia,by lia⟩,_,_,rfl,rfl,_,_,rfl,rfl,(by show(0:Int)<999;decide),_,_,rfl,rfl,rfl,?_⟩;rw[M1.W4,q07,Int.zero_add];rfl
  .rintro ys H2 ⟨rfl,rfl⟩ l hl;exact q l _ ((ae.new hp).aB hl) (ae.free (ae.new hp) hl) ze
inductive OJ (K:Frag)(vs:List V)(H:Hp)(Q:VK)(E:XK):Prop|mk(c m:Int):vs=[.int c,.int m]->0<=m->m<=15->(∀(l:Addr)(H':Hp)(ts:List Str),ae H H'->H l=none->H' l=some (.lst (ts.map V.str))->ts.length=m.toNat->ts.Nodup->(∀z∈ts,M2.rY z=true)->(∀z∈ts,∀y∈ts,z.length=y.length)->Q (.ref l) H')->OJ K vs H Q E
theorem BU{i:Int}(h0:0<=i)(h1:i<26):fC LU.cps.toList i=some (97+i.toNat):=by
 have:∀k:Fin 26,LU.cps.toList[k.val]? = some (97+k.val):=by decide +kernel
 have:=zP (this ⟨i.toNat,by lia⟩)
 rwa [show((i.toNat:Nat):Int)=i by lia]at this
theorem Y6(F:aL K "_law_judges" "_law_judges" Il f fd)(T:Txt K mg):ar P w K mg base aX 1 f fd Im (OJ K):=by
 refine F.ok Fw ?_ ?_
 .rintro _ _ _ _⟨c,m,rfl,_⟩;rfl
 .rintro aG A outer s H vs Q E hr⟨c,m,rfl,m0,m1,q⟩;refine⟨_,(zc (zt (i:=2) Fw.nd rfl (Or.inr rfl) zp)
   (zc (zt (i:=3) Fw.nd rfl (Or.inl rfl) (zo yK (pv 0) zg))
   (zc (zt (i:=4) Fw.nd rfl (Or.inl rfl) (zo yK (zo AZ (pv 0) zg) (zo yg (pv 3) zg)))
   (zc (zt (i:=5) Fw.nd rfl (Or.inr rfl) (zF (za (yo qV zp y9 (yH (pv 4))) (za (yo qV zp (yH (pv 4)) (yH (pv 3))) zb))))
   (zd (zi (zQ (show ak (zf Il) TF "_law_k" ["_law_cell","_law_letters","_law_ends"] [0,2,5] _ from cZ) rfl (yD rfl T.aT (za (pv 1) zb)) (λ_ _ _ _ _=>yk) (λ_ _ _ _ _=>(zo zx (zo zx (zB (xQ (K:=K) rfl) (pv 3) zg (λ_ _=>rfl)) (zB pY (pv 2) (zo yK (zo yg (zo AZ (pv 1) zg) (zo uQ zg (pv 0))) zg) (λ_ _=>rfl))) (zB (xQ (K:=K) rfl) (pv 3) zg (λ_ _=>rfl))))))))))),?_⟩
  have bY:=zq;have z0:0<=c%8:=Int.emod_nonneg _ (by decide);have z1:c%8<8:=Int.emod_lt_of_pos _ (by decide);refine⟨_,rfl,_,_,rfl,rfl,(by show(0:Int)<8;decide),?_⟩;dsimp only;generalize c%8=size at z0 z1 ⊢;have p0:0<=c/8%(size+1):=Int.emod_nonneg _ (by lia);have p1:c/8%(size+1)<size+1:=Int.emod_lt_of_pos _ (by lia);refine⟨_,rfl,_,_,rfl,rfl,⟨by decide,by decide⟩,_,rfl,_,_,rfl,rfl,_,_,rfl,rfl,(by show 0<size+1;lia),?_⟩;dsimp only;generalize c/8%(size+1)=ox at p0 p1 ⊢;have he:=M10.vI ⟨size.toNat,by lia⟩ ⟨ox.toNat,by lia⟩ (by show ox.toNat<=size.toNat;lia);dsimp only at he;rw[show((ox.toNat:Nat):Int)=ox by lia,show((size.toNat:Nat):Int)=size by lia]at he;refine⟨_,rfl,_,rfl,_,rfl,(by show 7<=sizeLine;decide),_,rfl,_,rfl,_,rfl,_,rfl,_,rfl,(by show 7<=sizeLine;decide),(by show 2<=sizeLine;decide),λp3 BV=>?_⟩;generalize PySem.Txt.slice "vwxyzab" none (some ox)=e0 at he ⊢;generalize PySem.Txt.slice "vwxyzab" (some ox) (some size)=e1 at he ⊢;obtain⟨hl,h0,h1⟩:=he;have s3:=ae.new (o:=.lst [.str e0,.str e1]) BV;have q3:=ai.new (K:=K) (H:=H) (l:=p3) (xs:=[.str e0,.str e1]);generalize jP:upd H p3 _=H3 at s3 q3 ⊢;refine⟨_,rfl,m,rfl,by lia,by lia,?_⟩;refine Li (λi ys H4=>H4=H3/\ys=(M10.ur e0 e1 (c/64) i).map V.str) ⟨rfl,rfl⟩ ?_ (by lia) ?_ ?_
  .rintro i ys H4 hi ⟨rfl,rfl⟩;rw[q06,M10.Sv]
   lia
  .rintro i ys H4 hi ⟨rfl,rfl⟩;have i0:=Int.emod_nonneg (c/64+11*(0+(i:Int))) (show(26:Int)≠0 by decide);have i1:=Int.emod_lt_of_pos (c/64+11*(0+(i:Int))) (show(0:Int)<26 by decide);refine⟨_,rfl,p3,_,_,_,rfl,rfl,q3,rfl,_,rfl,_,rfl,_,_,rfl,rfl,⟨by decide,by decide⟩,_,rfl,_,_,rfl,rfl,.inl ⟨by decide,by decide⟩,_,_,rfl,rfl,_,_,rfl,rfl,(by show(0:Int)<26;decide),LU,_,_,rfl,rfl,(by decide),BU i0 i1,_,_,rfl,rfl,(by show e0.length+1<=sizeLine;lia),_,rfl,p3,_,_,_,rfl,rfl,q3,rfl,_,_,rfl,rfl,(by rw[zu];show e0.length+1+e1.length<=sizeLine;lia),rfl,?_⟩;rw[M10.Xa,q07,Int.zero_add];rfl
  .rintro ys H4 ⟨rfl,rfl⟩ l om;refine q l _ _ (s3.aB om) (s3.free om) ze (M10.Sv _ _ _ _) (M10.Xb _ _ _ (by lia)) (λz hz=>?_) (λz hz y hy=>?_)
   rotate_left
   .unfold M10.ur at hz hy;obtain⟨k,_,rfl⟩:=q25.mp hz;obtain⟨k',_,rfl⟩:=q25.mp hy;unfold M10.BL;rw[zu,zu,zu,zu];rfl
   unfold M10.ur at hz;obtain⟨k,_,rfl⟩:=q25.mp hz;exact M10.kf _ _ hl h0 h1
inductive FO (K:Frag)(vs:List V)(H:Hp)(Q:VK)(E:XK):Prop|mk(a:Addr) (cs:List (List Int)) (c:Int):vs=[.ref a,.int c]->Refs K (IL K) H a cs->cs.length<=1000->((∀d∈cs,c∈d))->(∀(l:Addr)(H':Hp),ae H H'->H l=none->H' l=some (.lst ((M5.zn cs c).map V.int))->Q (.ref l) H')->FO K vs H Q E
theorem Y7(F:aL K "_law_marks" "_law_marks" Io f fd)(T:Txt K mg):ar P w K mg base aX 1 f fd CO (FO K):=by
 refine F.ok X3 ?_ ?_
 .rintro _ _ _ _⟨a,cs,c,rfl,_⟩;rfl
 .rintro aG A outer s H vs Q E hr⟨a,cs,c,rfl,⟨ls,hS,hR⟩,hz,hm,q⟩;refine⟨_,(zd (zi (zQ (show ak (zf Io) ["_law_cards","_law_couple"] "_law_card_here" ["_law_couple"] [1] _ from cZ) rfl (zz (pv 0)) (λ_ _ _ _ _=>yk) (λ_ _ _ _ _=>(zo yg (Bt (K:=K) rfl PySem.F.plainAttrs_list PySem.F.slot_list_index PySem.F.type_list_index (mZ (K:=K) rfl) (pv 0) (za (pv 1) zb)) zg))))),?_⟩;have hl:=hR.length;refine⟨_,rfl,a,rfl,⟨_,hS⟩,?_⟩;refine zU (xs:=ls.map V.ref) (λi ys H2=>H2=H/\ys=(M5.zn (cs.take i) c).map V.int) ⟨rfl,rfl⟩ ?_ (by rw[q06];have:=zq;lia) ?_ ?_
  .rintro i ys H2 hi ⟨rfl,rfl⟩;refine⟨hS,?_⟩;rw[q06,M5.ya,q11]
   lia
  .rintro i x ys H2 hx ⟨rfl,rfl⟩;obtain⟨l,el,rfl⟩:=wK hx;obtain⟨d,ed,rd⟩:=hR.getL el;have fY:=hm d (mem_of_getElem? ed);refine⟨_,rfl,.inl ⟨rfl,_,rd⟩,_,rfl,l,_,_,rfl,rfl,rd,rfl,zC _,?_⟩;rw[wm,q06];refine⟨idxOf_lt_length_of_mem fY,_,_,rfl,rfl,rfl,?_⟩;rw[take_succ,ed];unfold M5.zn;rw[q07,q07];rfl
  .rintro ys H2 ⟨rfl,rfl⟩ l om;rw[q06,hl,q15];exact q l _ (ae.new om) om ze
inductive OK (K:Frag)(vs:List V)(H:Hp)(Q:VK)(E:XK):Prop|mk(a:Addr)(ms:List Int)(n:Int):vs=[.ref a,.int n]->ai K H a (ms.map V.int)->ms.length<=1000->0<=n->n<=1000->(∀(l:Addr)(H':Hp),ae H H'->H l=none->H' l=some (.lst ((M5.key ms n.toNat).map V.int))->Q (.ref l) H')->OK K vs H Q E
theorem mr(ns:List Int):fR (ns.map V.int) []=decide (ns=[]):=by cases ns <;> rfl
theorem Y8(F:aL K "_law_key" "_law_key" Ip f fd)(T:Txt K mg):ar P w K mg base aX 1 f fd Iq (OK K):=by
 refine F.ok zev ?_ ?_
 .rintro _ _ _ _⟨a,ms,n,rfl,_⟩;rfl
 .rintro aG A outer s H vs Q E hr⟨a,ms,n,rfl,hS,hz,n0,n1,q⟩;refine⟨_,(zc (zt (i:=2) zev.nd rfl (Or.inl rfl) (zF zb))
   (zc (wd PassesOwn.never rfl (AW rfl T.aT (za zg (za (zo yg (pv 1) zg) zb))) (zM (i:=3) zev.nd rfl (Or.inr rfl))
     (zc (yu (i:=4) (show ak (zf Ip) TH "_law_mark" ["_law_number"] [3] _ from cZ) rfl zev.nd rfl (Or.inl rfl) (zz (pv 0)) (λ_ _ _ _ _=>(yI (zk ua (pv 0) (pv 1) (zl _)))) (λ_ _ _ _ _=>(pv 0)))
   (zc (qK (zw (PW.pt (AQ (zk (Cw hr.bp) (pv 2) (zF zb) (zl _)) (AO (zk uR (zo uQ zg (yj T.ay (pv 4))) (yj T.ay (pv 0)) (zl _))))) (zd (zT (wb PySem.F.plainAttrs_list PySem.F.slot_list_append PySem.F.type_list_append yC (pv 2) (za (pv 3) zb)))) zm))
   (zd (qK (zw (zk (CB hr.bp) (pv 2) (zF zb) (zl _)) (zc (zT (wb PySem.F.plainAttrs_list PySem.F.slot_list_append PySem.F.type_list_append yC (pv 2) (za (xu pJ (yj T.ay (pv 4))) zb)))
   (zd (zT (wb PySem.F.plainAttrs_list PySem.F.slot_list_append PySem.F.type_list_append yC (pv 2) (za (zN (EA rfl) (by rfl) T.jw boot_sum (za (pv 4) zb)) zb))))) zm))))))
   (zd (zi (pv 2))))),?_⟩
  have bY:=zq;refine⟨by decide,λp0 gT=>?_⟩;refine⟨_,rfl,_,_,rfl,rfl,_,_,rfl,⟨by decide,by decide,by lia,by lia⟩,?_⟩;refine ym (λi σ H2=>∃(v3 v4:Option V),σ=[some (.ref a),some (.int n),some (.ref p0),v3,v4]/\ae H H2/\H2 p0=some (.lst ((M5.key ms i).map V.int))) ⟨_,_,rfl,ae.new gT,ze⟩ ?_ ?_
  .rintro i σ H2 hi ⟨v3,v4,rfl,s2,e2⟩;have hi:i<1000:=by lia
   have vw:=M5.lX ms i;have Bz:=s2.seq hS;refine⟨_,rfl,a,rfl,⟨_,Bz⟩,?_⟩;refine Ht (ms:=ms) (n:=1+(i:Int)) Bz (by lia) (λx R h=>⟨_,rfl,_,rfl,_,_,rfl,rfl,_,rfl,h⟩) (λx R h=>⟨_,rfl,h⟩) ?_;intro l3 eF;have en:(1:Int)+(i:Int)=(i:Int)+1:=by lia
   rw[en];have Y9:(M3.got ms ((i:Int)+1)).length<=ms.length:=M3.vJ ms _;have mL:M5.key ms (i+1)=(λa:List Int=>if a=[] then [] else a++[-((M3.got ms ((i:Int)+1)).length:Int),(M3.got ms ((i:Int)+1)).sum]) (if M5.key ms i=[]/\ms.length<2*(M3.got ms ((i:Int)+1)).length then [(i:Int)+1] else M5.key ms i):=rfl;generalize M3.got ms ((i:Int)+1)=g at Y9 mL ⊢;generalize M5.key ms i=ks at vw mL e2 ⊢;generalize jP:upd H2 l3 _=H3;have s3:ae H H3:=by rw[<-jP];exact s2.aB eF
   have OL:p0≠l3:=zr e2 eF;have e3:H3 p0=some (.lst (ks.map V.int)):=by rw[<-jP,zj OL];exact e2
   have t3:H3 l3=some (.lst (g.map V.int)):=by rw[<-jP];exact ze
   have f3:H l3=none:=s2.free eF;refine⟨λσ' H'=>σ'=[some (.ref a),some (.int n),some (.ref p0),some (.int ((i:Int)+1)),some (.ref l3)]/\ae H H'/\H' l3=some (.lst (g.map V.int))/\H' p0=some (.lst ((if ks=[]/\ms.length<2*g.length then [(i:Int)+1] else ks).map V.int)),?_,?_⟩
   .refine⟨_,rfl,by decide,λp4 kM=>?_⟩;have s4:=s3.aB (o:=.lst []) kM;have uB:p0≠p4:=zr e3 kM;have tu:l3≠p4:=zr t3 kM;refine⟨p0,p4,_,_,rfl,rfl,ai.of (by rw[zj uB];exact e3),ai.new,zC _,rfl,_,rfl,?_⟩;rw[mr];refine yO (λhk=>?_) (λhk=>fP ⟨rfl,s4,by rw[zj tu];exact t3,by rw[zj uB,q00 (λz=>hk z.1)];exact e3⟩);refine⟨_,rfl,l3,_,rfl,.inl (ai.of (by rw[zj tu];exact t3)),_,_,rfl,rfl,.inl ⟨by decide,by decide⟩,_,rfl,a,_,rfl,.inl (s4.seq hS),_,_,rfl,rfl,_,rfl,?_⟩;rw[q06,q06];refine yO (λh2=>?_) (λh2=>⟨rfl,s4,by rw[zj tu];exact t3,by rw[zj uB,q00 (λz=>h2 (by lia))];exact e3⟩);refine⟨_,rfl,.inl ⟨rfl,_,ai.of (by rw[zj uB];exact e3)⟩,_,rfl,p0,_,_,rfl,rfl,(by rw[zj uB];exact e3),(by rw[q06];lia),?_⟩;refine⟨rfl,s4.put gT,by rw[zj (Ne.symm OL),zj tu];exact t3,?_⟩;rw[lC,q01 ⟨hk,by lia⟩,hk];rfl
   rintro σ' H5 ⟨rfl,s5,t5,e5⟩;have Za:(if ks=[]/\ms.length<2*g.length then [(i:Int)+1] else ks).length<=1+2*i:=by
    split
    .rw[q12,length_nil];lia
    .exact vw
   generalize (if ks=[]/\ms.length<2*g.length then [(i:Int)+1] else ks)=as at e5 mL Za;refine⟨λσ' H'=>σ'=[some (.ref a),some (.int n),some (.ref p0),some (.int ((i:Int)+1)),some (.ref l3)]/\ae H H'/\H' p0=some (.lst ((if as=[] then [] else as++[-(g.length:Int),g.sum]).map V.int)),?_,?_⟩
   .refine⟨_,rfl,by decide,λp4 kM=>?_⟩;have s4:=s5.aB (o:=.lst []) kM;have uB:p0≠p4:=zr e5 kM;have tu:l3≠p4:=zr t5 kM;refine⟨p0,p4,_,_,rfl,rfl,ai.of (by rw[zj uB];exact e5),ai.new,zC _,rfl,_,rfl,?_⟩;rw[mr];refine yn (λhk=>?_) (λhk=>⟨rfl,s4,by rw[zj uB,q01 hk];rw[hk]at e5;exact e5⟩);refine⟨_,rfl,.inl ⟨rfl,_,ai.of (by rw[zj uB];exact e5)⟩,_,rfl,l3,_,rfl,.inl (ai.of (by rw[zj tu];exact t5)),_,rfl,p0,_,_,rfl,rfl,(by rw[zj uB];exact e5),(by rw[q06];lia),?_⟩;rw[q06];refine⟨_,rfl,.inl ⟨rfl,_,ai.of ze⟩,_,rfl,l3,g,rfl,ai.of (by rw[zj (Ne.symm OL),zj tu];exact t5),p0,_,_,rfl,rfl,ze,(by rw[q08,q06,q12,length_nil];lia),?_⟩;refine⟨rfl,(s4.put gT).put gT,?_⟩;rw[ze,q00 hk,q07,append_assoc];rfl
   rintro σ' H6 ⟨rfl,s6,e6⟩;exact⟨_,_,rfl,s6,by rw[mL];exact e6⟩
  .rintro σ H2 ⟨v3,v4,rfl,s2,e2⟩;have e:(n+1-1).toNat=n.toNat:=by lia
   rw[e]at e2;exact⟨_,rfl,q p0 _ s2 gT e2⟩
inductive OM (K:Frag)(vs:List V)(H:Hp)(Q:VK)(E:XK):Prop|mk(p:Addr)(F:Addr->Prop)(S:Sh)(j:Str)(a:Addr)(ns:List Int):vs=[.ref p,.str j,.ref a]->aq K H p F S->ai K H a (ns.map V.int)->ns.length<64->((∀c,S.refuse j ns=some c->∀C H',aj K c C->ae H H'->E (.ref C) none H'))->((S.refuse j ns=none->∀H' F',aq K H' p F' (S.hand j ns)->dk F H F' H'->Q .bH H'))->OM K vs H Q E
theorem Zb(F:aL K "hand_in" "Sheet.hand_in" Nm f fd)(T:Txt K mg)(Zc:aK P w K mg base 1 "whole_card" HX (Oo K))(FP:bL P w K mg base 1 (zK K "Sheet") "refuse_if_sealed" ["self"] (zX K))(ON:bL P w K mg base 1 (zK K "Sheet") "refuse_unknown_judge" zO (yb K)):ar P w K mg base (dO P w) 2 f fd Ir (OM K):=by
 obtain⟨oy,cE,fM,cC⟩:=T.cC;obtain⟨gP,bt,cM,br⟩:=T.br;refine F.iC X4 ?_ ?_
 .rintro _ _ _ _⟨p,F,S,j,a,ns,rfl,_⟩;rfl
 .rintro X W aG A outer s H vs Q E hX hW fl md hr⟨p,F,S,j,a,ns,rfl,aR,hA,hz,qE,q⟩;obtain⟨dx,a1,a2,a3,d,ax,h⟩:=id aR;subst hX;refine⟨_,(zc (zT (Hj FP T.ah fl (hM hr) (pv 0)))
   (zc (zT (wS ON T.ah fl (hM hr) (pv 0) (za (pv 1) zb)))
   (zc (zw (wv (yL (zh Zc (hM hr) rfl (za (pv 2) (za (yX (pv 0) rfl) zb))))) (zd (wt rfl md rfl fM cC (za zp zb))) zm)
   (zc (zw (zk DV (yX (pv 0) rfl) (Cs T.iS rfl) (zl _)) (zd (wt rfl md rfl cM br (za zp zb))) zm)
   (zc (lT (Cq hr) (yX (pv 0) rfl) (pv 1) (zG yf (by rfl) T.bQ boot_list (za (pv 2) zb)) rfl)
   (zd (uV (pv 0) (zo yg (yX (pv 0) rfl) zg) rfl))))))),?_⟩
  have bY:=zq;have CJ:=h.ok.cQ;refine⟨_,rfl,p,dx,_,rfl,h.ip,rfl,p,F,S,rfl,aR,(λhs C hC=>?_),λhs=>?_⟩
  .rw[hW];exact qE "SheetSealed" (by unfold Sh.refuse;rw[q01 hs]) C _ hC (ae.refl _)
  refine⟨_,rfl,p,dx,_,rfl,h.ip,rfl,_,rfl,p,F,S,j,rfl,aR,(λhj C hC=>?_),λhj=>?_⟩
  .rw[hW];exact qE "UnknownJudge" (by unfold Sh.refuse;rw[q00 (by rw[hs];exact q23),q00 hj]) C _ hC (ae.refl _)
  refine⟨_,rfl,_,rfl,p,_,dx,_,_,rfl,h.ip,T.ah,T.aP,rfl,a,a1,ns,S.aa,rfl,hA,ai.of h.i1,hz,by lia,λH2 s2=>⟨_,rfl,?_⟩⟩;refine yn (λhp=>?_) (λhp=>?_)
  .refine⟨(by show 1<=sizeLine;decide),?_⟩;rw[hW];exact qE "BadCard" (by unfold Sh.refuse;rw[q00 (by rw[hs];exact q23),q01 hj,q00 hp]) _ _ cE s2
  have ip:=s2 _ _ h.ip;have i1:=s2 _ _ h.i1;have i2:=s2 _ _ h.i2;have i3:=s2 _ _ h.i3;have i4:=s2 _ _ h.i4;refine⟨_,rfl,p,_,dx,_,_,rfl,ip,T.ah,T.aQ,rfl,_,_,rfl,rfl,_,rfl,yO (λht=>?_) (λht=>?_)⟩
  .refine⟨(by show 1<=sizeLine;decide),?_⟩;rw[hW];exact qE "TooManyCards" (by unfold Sh.refuse;rw[q00 (by rw[hs];exact q23),q01 hj,q01 hp,q01 (by lia)]) _ _ bt s2
  have hn:S.refuse j ns=none:=by unfold Sh.refuse;rw[q00 (by rw[hs];exact q23),q01 hj,q01 hp,q00 (by lia)]
  have hk:=h.kl;have ht2:=h.ok.sr;refine⟨_,rfl,a,_,rfl,.inl (s2.seq hA),λl hl=>?_⟩;have kp:∀b o,H2 b=some o->upd H2 l (.lst (ns.map V.int)) b=some o:=λb o e=>ae.new hl b o e;refine⟨_,rfl,p,_,dx,_,_,rfl,kp _ _ ip,T.ah,T.aE,rfl,_,rfl,d,_,rfl,nE.k (k:=Sum.inr j) (kp _ _ i4) (by lia),?_⟩;have n1:a1≠p:=wn i1 ip (by intro z;cases z);have n2:a2≠p:=wn i2 ip (by intro z;cases z);have n3:a3≠p:=wn i3 ip (by intro z;cases z);have n4:d≠p:=wn i4 ip (by intro z;cases z);have m1:a1≠d:=wn i1 i4 (by intro z;cases z);have m2:a2≠d:=wn i2 i4 (by intro z;cases z);have m3:a3≠d:=wn i3 i4 (by intro z;cases z);have lp:l≠p:=λz=>by rw[z,ip]at hl;cases hl
  have ld:l≠d:=λz=>by rw[z,i4]at hl;cases hl
  have l2:l≠a2:=λz=>by rw[z,i2]at hl;cases hl
  have Ue:upd (upd H2 l (.lst (ns.map V.int))) d (.dK (ie ax (Sum.inr j) (.ref l))) p=some (.ins (zK K "Sheet") dx (gE a1 a2 a3 d S)):=by rw[zj (Ne.symm n4)];exact kp _ _ ip
  refine⟨_,rfl,p,_,dx,_,_,rfl,Ue,T.ah,T.aQ,rfl,_,_,rfl,rfl,?_⟩;refine⟨_,rfl,p,_,dx,_,rfl,Ue,T.ah,T.aQ,(by show 6<1000;decide),?_⟩;have et:(V.int ((S.taken:Int)+1))=.int ((S.hand j ns).taken:Nat):=by show V.int _=V.int ((S.taken+1:Nat):Int);congr 1
  show _;dsimp only;rw[et,su a1 a2 a3 d S (S.hand j ns) rfl];obtain⟨Bx,_⟩:=h.ok.hand hn;have up:∀b o,H2 b=some o->b≠p->b≠d->upd (upd (upd H2 l (.lst (ns.map V.int))) d (.dK (ie ax (Sum.inr j) (.ref l)))) p (.ins (zK K "Sheet") dx (gE a1 a2 a3 d (S.hand j ns))) b=some o:=λb o e nb nd=>by rw[zj nb,zj nd];exact kp b o e
  have el:upd (upd (upd H2 l (.lst (ns.map V.int))) d (.dK (ie ax (Sum.inr j) (.ref l)))) p (.ins (zK K "Sheet") dx (gE a1 a2 a3 d (S.hand j ns))) l=some (.lst (ns.map V.int)):=by rw[zj lp,zj ld];exact ze
  refine q hn _ (λb=>F b\/b=l) ⟨dx,a1,a2,a3,d,ie ax (Sum.inr j) (.ref l),⟨⟨ze,up _ _ i1 n1 m1,up _ _ i2 n2 m2,up _ _ i3 n3 m3,by rw[zj n4];exact ze,?_,λk sG=>?_,λk c hc=>?_,.inl h.fp,.inl h.f1,.inl h.f2,.inl h.f3,.inl h.f4,h.x9,h.Aa,λb hb=>?_⟩,Bx⟩⟩ λb o e n=>⟨up b o (s2 _ _ e) (λz=>n (z ▸ h.fp)) (λz=>n (z ▸ h.f4)),?_⟩
  .have:=Mm ax (Sum.inr j) (.ref l);show _<=S.taken+1
   lia
  .have sG:(if k=j then some ns else S.card k)=none:=sG;rw[Hr];by_cases ek:k=j
   .rw[q01 ek]at sG;cases sG
   .rw[q00 ek]at sG;rw[q00 (λz=>ek (by injection z))];exact h.cn k sG
  .have hc:(if k=j then some ns else S.card k)=some c:=hc;rw[Hr];by_cases ek:k=j
   .rw[q01 ek]at hc;cases hc;rw[q01 (by rw[ek])];exact⟨l,rfl,el,.inr rfl,l2⟩
   .rw[q00 ek]at hc;rw[q00 (λz=>ek (by injection z))];obtain⟨l',x1,x2,x3,x4⟩:=h.cs k c hc;exact⟨l',x1,up _ _ (s2 _ _ x2) (wn x2 h.ip (by intro z;cases z)) (wn x2 h.i4 (by intro z;cases z)),.inl x3,x4⟩
  .by_cases An:b=p
   .rw[An,ze];exact λz=>nomatch z
   rw[zj An];by_cases tD:b=d
   .rw[tD,ze];exact λz=>nomatch z
   rw[zj tD];rcases hb with hb | hb
   .have:=h.fh b hb;cases e:H b with
    | none=>exact q02 e this
    | some o=>rw[kp _ _ (s2 _ _ e)];exact λz=>nomatch z
   .rw[hb,ze];exact λz=>nomatch z
  .rintro (z | z)
   .exact n z
   .have:=s2 _ _ e;rw[z,hl]at this;cases this
inductive OO (K:Frag)(vs:List V)(H:Hp)(Q:VK)(E:XK):Prop|mk(p:Addr)(F:Addr->Prop)(S:Sh)(c:Int):vs=[.ref p,.int c]->aq K H p F S->((∀x,S.bO c=some x->∀C,aj K x C->E (.ref C) none H))->((S.bO c=none->∀H' F',aq K H' p F' (S.bG c)->dk F H F' H'->Q .bH H'))->OO K vs H Q E
theorem Zd(F:aL K "strike" "Sheet.strike" Nn f fd)(T:Txt K mg)(Ug:aK P w K mg base 1 "without_couple" wQ (Ot K))(oz:bE P w K mg base 1 (zK K "Sheet") "handed" zV (yc K))(FP:bL P w K mg base 1 (zK K "Sheet") "refuse_if_sealed" ["self"] (zX K)):ar P w K mg base (dO P w) 2 f fd Iu (OO K):=by
 obtain⟨cj,av,aV,au⟩:=T.au;obtain⟨iV,bS,dv,bF⟩:=T.bF;refine F.iC TK ?_ ?_
 .rintro _ _ _ _⟨p,F,S,c,rfl,_⟩;rfl
 .rintro X W aG A outer s H vs Q E hX hW fl md hr⟨p,F,S,c,rfl,aR,qE,q⟩;obtain⟨dx,a1,a2,a3,d,ax,h⟩:=id aR;subst hX;refine⟨_,(zc (zT (Hj FP T.ah fl (hM hr) (pv 0)))
   (zc (zw (zk yz (pv 1) (yX (pv 0) rfl) (by first | exact zl _ | rfl)) (zd (wt rfl md rfl aV au (za zp zb))) zm)
   (zc (zw (zk yB (yj T.ay (yX (pv 0) rfl)) zg (zl _)) (zd (wt rfl md rfl dv bF (za zp zb))) zm)
   (zc (uV (pv 0) (zh Ug (hM hr) rfl (za (yX (pv 0) rfl) (za (pv 1) zb))) rfl)
   (zc (zT (wb PySem.F.plainAttrs_list PySem.F.slot_list_append PySem.F.type_list_append yC (yX (pv 0) rfl) (za (pv 1) zb)))
   (zd (wd PassesOwn.leaving rfl (zz (zI oz T.ah (hM hr) (pv 0))) (zM (i:=2) TK.nd rfl (Or.inl rfl))
     (zd (lT (Cq hr) (yX (pv 0) rfl) (pv 2) (zh Ug (hM hr) rfl (za (lR (Cq hr) (yX (pv 0) rfl) (pv 2) (λ_ _=>rfl)) (za (pv 1) zb))) rfl))))))))),?_⟩
  have bY:=zq;have CJ:=h.ok.cQ;refine⟨_,rfl,p,dx,_,rfl,h.ip,rfl,p,F,S,rfl,aR,(λhs C hC=>?_),λhs=>?_⟩
  .rw[hW];exact qE "SheetSealed" (by unfold Sh.bO;rw[q01 hs]) C hC
  have qS:¬S.b7=true:=by rw[hs];exact q23
  refine⟨_,rfl,_,rfl,p,_,dx,_,_,rfl,h.ip,T.ah,T.aP,rfl,a1,_,rfl,.inl (ai.of h.i1),rfl,zC _,_,rfl,?_⟩;rw[Ct];refine yn (λhc=>?_) (λhc=>?_)
  .refine⟨(by show 1<=sizeLine;decide),?_⟩;rw[hW];exact qE "UnknownCouple" (by unfold Sh.bO;rw[q00 qS,q00 hc]) _ av
  refine⟨_,rfl,p,_,dx,_,_,rfl,h.ip,T.ah,T.aP,rfl,a1,_,rfl,.inl (ai.of h.i1),rfl,_,rfl,?_⟩;rw[q06];refine yO (λh1=>?_) (λh1=>?_)
  .refine⟨(by show 1<=sizeLine;decide),?_⟩;rw[hW];injection h1 with h1
   exact qE "LastCouple" (by unfold Sh.bO;rw[q00 qS,q01 hc,q01 (by lia)]) _ bS
  have h1:S.aa.length≠1:=λz=>h1 (by rw[z];rfl);have hn:S.bO c=none:=by unfold Sh.bO;rw[q00 qS,q01 hc,q00 h1]
  refine⟨_,rfl,p,_,dx,_,_,rfl,h.ip,T.ah,T.aP,rfl,_,rfl,a1,S.aa,c,rfl,ai.of h.i1,by lia,λb1 H2 s2 f2 e2=>?_⟩;have ip:=s2 _ _ h.ip;have i2:=s2 _ _ h.i2;have i3:=s2 _ _ h.i3;have i4:=s2 _ _ h.i4;refine⟨_,rfl,p,_,dx,_,rfl,ip,T.ah,T.aP,(by show 6<1000;decide),?_⟩;rw[Xi a1 a2 a3 d b1 S (S.bG c) rfl rfl];have n2:a2≠p:=wn i2 ip (by intro z;cases z);have n3:a3≠p:=wn i3 ip (by intro z;cases z);have n4:d≠p:=wn i4 ip (by intro z;cases z);have n1:b1≠p:=wn e2 ip (by intro z;cases z);have m2:a2≠d:=wn i2 i4 (by intro z;cases z);have b2:b1≠a2:=λz=>by rw[z,h.i2]at f2;cases f2
  have Uh:upd H2 p (.ins (zK K "Sheet") dx (gE b1 a2 a3 d (S.bG c))) a2=some (.lst (S.struck.map V.int)):=by rw[zj n2];exact i2
  refine⟨_,rfl,p,_,dx,_,_,rfl,ze,T.ah,T.bA,rfl,.inl ⟨rfl,_,ai.of Uh⟩,_,rfl,a2,_,_,rfl,rfl,Uh,(by rw[q06];lia),?_⟩;have up:∀b o,H2 b=some o->b≠p->b≠a2->upd (upd H2 p (.ins (zK K "Sheet") dx (gE b1 a2 a3 d (S.bG c)))) a2 (.lst (S.struck.map V.int++[V.int c])) b=some o:=λb o e nb nd=>by rw[zj nd,zj nb];exact e
  have up1:upd (upd H2 p (.ins (zK K "Sheet") dx (gE b1 a2 a3 d (S.bG c)))) a2 (.lst (S.struck.map V.int++[V.int c])) p=some (.ins (zK K "Sheet") dx (gE b1 a2 a3 d (S.bG c))):=by rw[zj (Ne.symm n2)];exact ze
  have xN:upd (upd H2 p (.ins (zK K "Sheet") dx (gE b1 a2 a3 d (S.bG c)))) a2 (.lst (S.struck.map V.int++[V.int c])) a2=some (.lst ((S.bG c).struck.map V.int)):=lC _ _;generalize jP:upd (upd H2 p _) a2 _=H3 at up up1 xN ⊢;have F3:∀b,(F b\/b=b1)->H3 b≠none:=λb hb=>by
   by_cases An:b=p
   .rw[An,up1];exact λz=>nomatch z
   by_cases Ui:b=a2
   .rw[Ui,xN];exact λz=>nomatch z
   rcases hb with hb | hb
   .have:=h.fh b hb;cases e:H b with
    | none=>exact q02 e this
    | some o=>rw[up _ _ (s2 _ _ e) An Ui];exact λz=>nomatch z
   .rw[hb,up _ _ e2 n1 b2];exact λz=>nomatch z
  have D3:dk F H (λb=>F b\/b=b1) H3:=λb o e n=>⟨up b o (s2 _ _ e) (λz=>n (z ▸ h.fp)) (λz=>n (z ▸ h.f2)),λz=>z.elim n λz=>by rw[z,f2]at e;cases e⟩;have Hi:∀j cd,S.card j=some cd->∃l,fH ax (Sum.inr j)=some (.ref l)/\H3 l=some (.lst (cd.map V.int))/\(F l\/l=b1)/\l≠a2:=λj cd e=>by
   obtain⟨l,x1,x2,x3,x4⟩:=h.cs j cd e;exact⟨l,x1,up _ _ (s2 _ _ x2) (wn x2 h.ip (by intro z;cases z)) x4,.inl x3,x4⟩
  obtain⟨Bx,_⟩:=h.ok.bG hn;refine⟨_,rfl,p,dx,_,rfl,up1,rfl,p,(λb=>F b\/b=b1),⟨wo c S.aa,S.struck++[c],S.af,S.card,S.taken,S.b7⟩,rfl,⟨dx,b1,a2,a3,d,ax,⟨up1,up _ _ e2 n1 b2,xN,up _ _ i3 n3 h.Aa,up _ _ i4 n4 (Ne.symm m2),h.kl,h.cn,Hi,.inl h.fp,.inr rfl,.inl h.f2,.inl h.f3,.inl h.f4,b2,h.Aa,F3⟩⟩,h.ok.dw,λa H4 s4 f4 e4=>?_⟩;have CU:S.handed.length<=15:=q38 (q09 _ _) h.ok.dw;refine⟨a,rfl,⟨_,ai.of e4⟩,?_⟩;refine GR (xs:=S.handed.map V.str) (λi σ H5=>∃(v:Option V)(iu:List (Key×V)) (F':Addr->Prop),σ=[some (.ref p),some (.int c),v]/\H5 p=some (.ins (zK K "Sheet") dx (gE b1 a2 a3 d (S.bG c)))/\H5 b1=some (.lst ((wo c S.aa).map V.int))/\H5 a2=some (.lst ((S.bG c).struck.map V.int))/\H5 a3=some (.lst (S.af.map V.str))/\H5 d=some (.dK iu)/\H5 a=some (.lst (S.handed.map V.str)) /\
   iu.length<=S.taken/\(∀j,S.card j=none->fH iu (Sum.inr j)=none)/\(∀j cd,S.card j=some cd->∃l,fH iu (Sum.inr j)=some (.ref l)/\H5 l=some (.lst ((if j∈S.handed.take i then wo c cd else cd).map V.int))/\F' l/\l≠a2)/\(∀b,F b->F' b)/\F' b1/\(∀b,F' b->H5 b≠none)/\dk F H F' H5)
   ⟨_,ax,λb=>F b\/b=b1,rfl,s4 _ _ up1,s4 _ _ (up _ _ e2 n1 b2),s4 _ _ xN,s4 _ _ (up _ _ i3 n3 h.Aa),s4 _ _ (up _ _ i4 n4 (Ne.symm m2)),e4,h.kl,h.cn,(λj cd e=>?_),(λb hb=>.inl hb),.inr rfl,(λb hb=>?_),λb o e n=>⟨s4 _ _ (D3 b o e n).1,(D3 b o e n).2⟩⟩ ?_ ?_ ?_
  .obtain⟨l,x1,x2,x3,x4⟩:=Hi j cd e;exact⟨l,x1,by rw[q00 (by rw[take_zero];exact not_mem_nil)];exact s4 _ _ x2,x3,x4⟩
  .have:=F3 b hb;cases e:H3 b with
   | none=>exact q02 e this
   | some o=>rw[s4 _ _ e];exact λz=>nomatch z
  .rintro i σ H5 hi ⟨v,iu,F',rfl,w1,w2,w3,w4,w5,w6,_⟩;exact ai.of w6
  .rintro i x σ H5 hx ⟨v,iu,F',rfl,w1,w2,w3,w4,w5,w6,w7,w8,w9,CV,OP,OQ,OR⟩;obtain⟨hi,rfl⟩:=Bu hx;have hm:=q24.mp (show S.handed.getD i "" ∈ S.af.filter λj=>(S.card j).isSome from vk hi);generalize hj:S.handed.getD i ""=j at hm;cases e:S.card j with
   | none=>rw[e]at hm;exact q02 hm.2 q23
   | some cd =>
     have CW:S.handed.Nodup:=h.ok.so.filter _;have Ze:j∉S.handed.take i:=λz=>by
      have e1:S.handed.take (i+1)=S.handed.take i++[j]:=by rw[yw hi,hj]
      have e2:(S.handed.take (i+1)).Nodup:=CW.sublist (List.take_sublist _ _);rw[e1]at e2;exact(List.nodup_append.mp e2).2.2 j z j (List.mem_singleton.mpr rfl) rfl
     obtain⟨l,x1,x2,x3,x4⟩:=w9 j cd e;rw[q00 Ze]at x2;have fT:cd.length<=24:=by have:=(h.ok.cd j cd e).2.length_eq;lia
     refine⟨_,rfl,p,_,dx,_,_,rfl,w1,T.ah,T.aE,rfl,_,rfl,d,.ref l,rfl,x1 ▸ fI.k (k:=Sum.inr j) w5,_,rfl,l,cd,c,rfl,ai.of x2,by lia,λl' H6 s6 f6 e6=>?_⟩;refine⟨_,rfl,p,_,dx,_,_,rfl,s6 _ _ w1,T.ah,T.aE,rfl,_,rfl,d,_,rfl,nE.k (k:=Sum.inr j) (s6 _ _ w5) (by have:=h.ok.sr;lia),?_⟩;have nd:∀b o,H6 b=some o->(∀k,o ≠ .dK k)->upd H6 d (.dK (ie iu (Sum.inr j) (.ref l'))) b=some o:=λb o e n=>by rw[zj (wn e (s6 _ _ w5) (n _))];exact e
     have ld:l'≠d:=wn e6 (s6 _ _ w5) (by intro z;cases z);refine⟨_,ie iu (Sum.inr j) (.ref l'),λb=>F' b\/b=l',rfl,nd _ _ (s6 _ _ w1) (λ_ z=>nomatch z),nd _ _ (s6 _ _ w2) (λ_ z=>nomatch z),nd _ _ (s6 _ _ w3) (λ_ z=>nomatch z),nd _ _ (s6 _ _ w4) (λ_ z=>nomatch z),ze,nd _ _ (s6 _ _ w6) (λ_ z=>nomatch z),by rw[sx x1];exact w7,λk hk=>?_,λk b hk=>?_,λb hb=>.inl (CV b hb),.inl OP,λb hb=>?_,λb o e' n=>?_⟩
     .rw[Hr,q00 (λz=>by injection z with z;rw[z,e]at hk;cases hk)];exact w8 k hk
     .rw[Hr,yw hi,hj];by_cases ek:k=j
      .subst ek;rw[e]at hk;cases hk;rw[q01 rfl];refine⟨l',rfl,?_,.inr rfl,λz=>by rw[z,w3]at f6;cases f6⟩;rw[q01 (mem_append_right _ (List.mem_singleton.mpr rfl))];exact nd _ _ e6 (λ_ z=>nomatch z)
      .rw[q00 (λz=>ek (by injection z))];obtain⟨m,y1,y2,y3,y4⟩:=w9 k b hk;refine⟨m,y1,?_,.inl y3,y4⟩;have:(k∈S.handed.take i++[j])↔k∈S.handed.take i:=by
        rw[mem_append,List.mem_singleton];exact⟨λz=>z.elim id λw=>q02 w ek,.inl⟩
       simp only[this];exact nd _ _ (s6 _ _ y2) (λ_ z=>nomatch z)
     .by_cases tD:b=d
      .rw[tD,ze];exact λz=>nomatch z
      rw[zj tD];rcases hb with hb | hb
      .have:=OQ b hb;cases e7:H5 b with
       | none=>exact q02 e7 this
       | some o=>rw[s6 _ _ e7];exact λz=>nomatch z
      .rw[hb,e6];exact λz=>nomatch z
     .obtain⟨y1,y2⟩:=OR b o e' n;refine⟨?_,λz=>z.elim y2 λw=>by rw[w,f6]at y1;cases y1⟩;have Zf:b≠d:=λz=>n (by rw[z];exact h.f4);rw[zj Zf];exact s6 _ _ y1
  .rintro σ H5 ⟨v,iu,F',rfl,w1,w2,w3,w4,w5,w6,w7,w8,w9,CV,OP,OQ,OR⟩;rw[q06,q15]at w9;refine q hn H5 F' ⟨dx,b1,a2,a3,d,iu,⟨⟨w1,w2,w3,w4,w5,w7,λj hj=>?_,λj b hj=>?_,CV _ h.fp,OP,CV _ h.f2,CV _ h.f3,CV _ h.f4,b2,h.Aa,OQ⟩,Bx⟩⟩ OR
   .have hj:(S.card j).map (wo c)=none:=hj;exact w8 j (Option.map_eq_none_iff.mp hj)
   .have hj:(S.card j).map (wo c)=some b:=hj;obtain⟨cd,e,rfl⟩:=Option.map_eq_some_iff.mp hj;obtain⟨l,x1,x2,x3,x4⟩:=w9 j cd e;refine⟨l,x1,?_,x3,x4⟩;have oA:j∈S.handed:=q24.mpr ⟨(h.ok.cd j cd e).1,by rw[e];rfl⟩;rw[q01 oA]at x2;exact x2
inductive OS (K:Frag)(vs:List V)(H:Hp)(Q:VK)(E:XK):Prop|mk(p:Addr)(F:Addr->Prop)(S:Sh):vs=[.ref p]->aq K H p F S->((S.b7=true->∀C,aj K "SheetSealed" C->E (.ref C) none H))->((S.b7=false->∀H',aq K H' p F S.close->dk F H F H'->Q .bH H'))->OS K vs H Q E
theorem Zg(F:aL K "seal" "Sheet.seal" Np f fd)(T:Txt K mg)(FP:bL P w K mg base 1 (zK K "Sheet") "refuse_if_sealed" ["self"] (zX K)):ar P w K mg base (dO P w) 2 f fd ["self"] (OS K):=by
 refine F.iC X5 ?_ ?_
 .rintro _ _ _ _⟨p,F,S,rfl,_⟩;rfl
 .rintro X W aG A outer s H vs Q E hX hW fl md hr⟨p,F,S,rfl,⟨dx,a1,a2,a3,d,ax,h⟩,qE,q⟩;subst hX;refine⟨_,(zc (zT (Hj FP T.ah fl (hM hr) (pv 0)))
   (zd (uV (pv 0) gX rfl))),?_⟩
  refine⟨_,rfl,p,dx,_,rfl,h.ip,rfl,p,F,S,rfl,⟨dx,a1,a2,a3,d,ax,h⟩,λhs C hC=>by rw[hW];exact qE hs C hC,λhs=>?_⟩;refine⟨_,rfl,p,_,dx,_,rfl,h.ip,T.ah,T.bR,(by show 6<1000;decide),?_⟩;rw[show V.bl true=V.bl S.close.b7 from rfl,nI a1 a2 a3 d S S.close rfl];have up:∀b o,H b=some o->b≠p->upd H p (.ins (zK K "Sheet") dx (gE a1 a2 a3 d S.close)) b=some o:=λb o e n=>by rw[zj n];exact e
  have n1:a1≠p:=wn h.i1 h.ip (by intro z;cases z);have n2:a2≠p:=wn h.i2 h.ip (by intro z;cases z);have n3:a3≠p:=wn h.i3 h.ip (by intro z;cases z);have n4:d≠p:=wn h.i4 h.ip (by intro z;cases z);refine q hs _ ⟨dx,a1,a2,a3,d,ax,⟨⟨ze,up _ _ h.i1 n1,up _ _ h.i2 n2,up _ _ h.i3 n3,up _ _ h.i4 n4,h.kl,h.cn,λj c hc=>?_,h.fp,h.f1,h.f2,h.f3,h.f4,h.x9,h.Aa,λb hb=>?_⟩,h.ok.close⟩⟩ λb o e n=>⟨up b o e λz=>n (z ▸ h.fp),n⟩
  .obtain⟨l,x1,x2,x3,x4⟩:=h.cs j c hc;exact⟨l,x1,up _ _ x2 (wn x2 h.ip (by intro z;cases z)),x3,x4⟩
  .by_cases An:b=p
   .rw[An,ze];exact λz=>nomatch z
   .rw[zj An];exact h.fh b hb
inductive yd (K:Frag)(vs:List V)(H:Hp)(Q:VK)(E:XK):Prop|mk(p:Addr)(F:Addr->Prop)(S:Sh)(j:Str):vs=[.ref p,.str j]->aq K H p F S->((j∉S.af->∀C,aj K "UnknownJudge" C->E (.ref C) none H))->((j∈S.af->S.card j=none->∀C,aj K "NoCard" C->E (.ref C) none H))->((∀c,S.card j=some c->∀(l:Addr)(H':Hp),ae H H'->H l=none->H' l=some (.lst (c.map V.int))->Q (.ref l) H'))->yd K vs H Q E
theorem Zh(F:aL K "card_of" "Sheet.card_of" Nq f fd)(T:Txt K mg)(ON:bL P w K mg base 1 (zK K "Sheet") "refuse_unknown_judge" zO (yb K)):ar P w K mg base (dO P w) 2 f fd zW (yd K):=by
 obtain⟨tE,bf,gQ,bc⟩:=T.bc;refine F.iC X6 ?_ ?_
 .rintro _ _ _ _⟨p,F,S,j,rfl,_⟩;rfl
 .rintro X W aG A outer s H vs Q E hX hW fl md hr⟨p,F,S,j,rfl,⟨dx,a1,a2,a3,d,ax,h⟩,qU,qN,q⟩;subst hX;refine⟨_,(zc (zT (wS ON T.ah fl (hM hr) (pv 0) (za (pv 1) zb)))
   (zc (zw (pw (nH (Cq hr) (pv 1) (yX (pv 0) rfl))) (zd (wt rfl md rfl gQ bc (za zp zb))) zm)
   (zd (zi (zG yf (by rfl) T.bQ boot_list (za (lR (Cq hr) (yX (pv 0) rfl) (pv 1) (λ_ _=>rfl)) zb)))))),?_⟩
  refine⟨_,rfl,p,dx,_,rfl,h.ip,rfl,_,rfl,p,F,S,j,rfl,⟨dx,a1,a2,a3,d,ax,h⟩,λhj C hC=>by rw[hW];exact qU hj C hC,λhj=>?_⟩;refine⟨_,rfl,_,rfl,p,_,dx,_,_,rfl,h.ip,T.ah,T.aE,rfl,d,_,rfl,fI.k (k:=Sum.inr j) h.i4,_,rfl,?_⟩;cases e:S.card j with
  | none =>
    rw[h.cn _ e];exact⟨(by show 1<=sizeLine;decide),by rw[hW];exact qN hj e _ bf⟩
  | some c =>
    obtain⟨l,e1,e2,_⟩:=h.cs _ _ e;rw[e1];refine⟨_,rfl,p,_,dx,_,_,rfl,h.ip,T.ah,T.aE,rfl,_,rfl,d,.ref l,rfl,e1 ▸ fI.k (k:=Sum.inr j) h.i4,l,_,rfl,.inl (ai.of e2),λl' om=>?_⟩;exact q c e l' _ (ae.new om) om ze
inductive OT (K:Frag)(vs:List V)(H:Hp)(Q:VK)(E:XK):Prop|mk(a b c:Addr) (cs:List (List Int)) (us:List Int):vs=[.ref a,.ref b,.ref c]->Refs K (IL K) H a cs->ai K H b (us.map V.int)->ai K H c ((M6.zA cs us).map V.int)->cs.length<=500->us.length<=500->((∀u∈us,∀d∈cs,u∈d))->(∀(l:Addr)(H':Hp)(ls:List Addr),ae H H'->H l=none->H' l=some (.lst (ls.map V.ref))->All2 (F4 K H') ls (M6.yl cs us)->Q (.ref l) H')->OT K vs H Q E
theorem Zi(F:aL K "_law_parts" "_law_parts" Nr f fd)(T:Txt K mg)(CY:aK P w K mg base 1 "_law_marks" CO (FO K))(OU:aK P w K mg base 1 "_law_rows" Fq (JB K))(Zj:aK P w K mg base 1 "_law_part" HL (Oe K)):ar P w K mg base aX 2 f fd Iv (OT K):=by
 refine F.ok wE ?_ ?_
 .rintro _ _ _ _⟨a,b,c,cs,us,rfl,_⟩;rfl
 .rintro aG A outer s H vs Q E hr⟨a,b,c,cs,us,rfl,hA,hB,hC,hz,hu,hm,q⟩;refine⟨_,(zc (zt (i:=3) wE.nd rfl (Or.inl rfl) (zh OU (hM hr) rfl (za (pv 2) (za (pv 1) zb))))
   (zc (zt (i:=4) wE.nd rfl (Or.inl rfl) (zF zb))
   (zc (wd PassesOwn.never rfl (AW rfl T.aT (za zg (za (yj T.ay (pv 3)) zb))) (zM (i:=5) wE.nd rfl (Or.inl rfl))
     (zd (zw (zk gv (zB oO (zB zv (pv 3) (pv 5) (λ_ _=>rfl)) zg (λ_ _=>rfl)) (zB oO (zB zv (pv 3) (zo tZ (pv 5) zg) (λ_ _=>rfl)) zg (λ_ _=>rfl)) (zl _)) (zc (zt (i:=6) wE.nd rfl (Or.inl rfl) (zB oO (zB zv (pv 3) (zo tZ (pv 5) zg) (λ_ _=>rfl)) zg (λ_ _=>rfl)))
   (zc (zt (i:=7) wE.nd rfl (Or.inl rfl) (zB oO (zB zv (pv 3) (pv 5) (λ_ _=>rfl)) zg (λ_ _=>rfl)))
   (zc (zt (i:=8) wE.nd rfl (Or.inl rfl) (zh Zj (hM hr) rfl (za (zh CY (hM hr) rfl (za (pv 0) (za (pv 6) zb))) (za (zh CY (hM hr) rfl (za (pv 0) (za (pv 7) zb))) (za (yj T.ay (pv 1)) zb)))))
   (zd (zT (wb PySem.F.plainAttrs_list PySem.F.slot_list_append PySem.F.type_list_append yC (pv 4) (za (mP (za (pv 6) (za (pv 7) (za (zB oO (pv 8) zg (λ_ _=>rfl)) (za (zB oO (pv 8) zg (λ_ _=>rfl)) zb))))) zb))))))) zm)))
   (zd (zi (pv 4)))))),?_⟩
  have bY:=zq;refine⟨_,rfl,_,rfl,c,b,_,us,rfl,hC,hB,M6.yW cs us,hu,λl1 H1 ls s1 f1 e1 r1=>?_⟩;have oB:=M5.bq (M6.zA cs us) us (M6.yW cs us);have hmul:us.length*us.length<=500*500:=mul_le_mul hu hu;have fY:=λp (hp:p∈M5.rows (M6.zA cs us) us)=>M6.Ac hp;unfold M6.yl at q;generalize M5.rows (M6.zA cs us) us=rs at r1 oB fY q;have c9:=r1.length;refine⟨by decide,λp2 sf=>?_⟩;have s2:=ae.new (o:=.lst []) sf;refine⟨_,rfl,l1,_,rfl,.inl (ai.of (s2 _ _ e1)),_,_,rfl,⟨by decide,by decide,by rw[q06];lia,by rw[q06];lia⟩,?_⟩;refine ym (λi σ H2=>∃(v5 v6 v7 v8:Option V)(ms:List Addr),σ=[some (.ref a),some (.ref b),some (.ref c),some (.ref l1),some (.ref p2),v5,v6,v7,v8]/\ae H1 H2/\H2 p2=some (.lst (ms.map V.ref))/\All2 (F4 K H2) ms (((rs.zip rs.tail).take i).filterMap λpq=>M6.nb cs us pq.1 pq.2)) ⟨_,_,_,_,[],rfl,s2,ze,.nil⟩ ?_ ?_
  .rintro i σ H2 hi ⟨v5,v6,v7,v8,ms,rfl,cN,e2,r2⟩;rw[q06]at hi;have gS:i+1<rs.length:=by lia
   have Uj:i<rs.length:=by lia
   have ez:(rs.zip rs.tail)[i]? = some (rs[i],rs[i+1]):=by
    rw[q31 (by rw[length_zip,length_tail];lia),List.getElem_zip,List.getElem_tail]
   obtain⟨la,Zk,ra⟩:=r1.get (q31 Uj);obtain⟨lb,Zl,rb⟩:=r1.get (q31 gS);obtain⟨CZ,JJ⟩:=fY _ (q44 Uj);obtain⟨Dc,JK⟩:=fY _ (q44 gS);rw[take_succ,ez,List.filterMap_append];generalize rs[i]=pa at ra CZ JJ ⊢;generalize rs[i+1]=pb at rb Dc JK ⊢;have q1:ai K H2 l1 (ls.map V.ref):=ai.of (cN _ _ e1);have ta:=cN.j8 ra;have tb:=cN.j8 rb;have ea:fC (ls.map V.ref) (1+(i:Int)-1)=some (.ref la):=by
    have:(1:Int)+(i:Int)-1=(i:Int):=by lia
    rw[this];exact zP (wM Zk)
   have eb:fC (ls.map V.ref) (1+(i:Int))=some (.ref lb):=by
    have:(1:Int)+(i:Int)=((i+1:Nat):Int):=by lia
    rw[this];exact zP (wM Zl)
   refine⟨_,rfl,_,rfl,l1,_,_,_,rfl,rfl,q1,eb,lb,_,_,_,rfl,rfl,tb,rfl,_,rfl,_,rfl,_,_,rfl,rfl,l1,_,_,_,rfl,rfl,q1,ea,la,_,_,_,rfl,rfl,ta,rfl,rfl,_,rfl,yn (λbx=>?_) (λhe=>?_)⟩
   .have bx:¬pa.1=pb.1:=λz=>bx (by rw[z]);refine⟨_,rfl,_,rfl,_,_,rfl,rfl,l1,_,_,_,rfl,rfl,q1,ea,la,_,_,_,rfl,rfl,ta,rfl,?_⟩;refine⟨_,rfl,_,rfl,l1,_,_,_,rfl,rfl,q1,eb,lb,_,_,_,rfl,rfl,tb,rfl,?_⟩;have Uk:=s1.trans cN;refine⟨_,rfl,_,rfl,a,cs,_,rfl,hA.same (IL.stays K) Uk,by lia,hm _ CZ,λl3 H3 s3 f3 e3=>?_⟩;have FQ:=Uk.trans s3;refine⟨_,rfl,_,rfl,a,cs,_,rfl,hA.same (IL.stays K) FQ,by lia,hm _ Dc,λl4 H4 s4 f4 e4=>?_⟩;have Zm:=FQ.trans s4;refine⟨_,rfl,b,_,rfl,.inl (Zm.seq hB),l3,l4,_,_,us.length,?_,ai.of (s4 _ _ e3),ai.of e4,by rw[M5.ya,M5.ya],by rw[M5.ya];lia,by lia,?_,?_⟩
    .rw[q06];rfl
    .intro hn;have hp:=M6.Fd (M5.zn cs pa.2) (M5.zn cs pb.2) us.length;exact q02 (M6.Hy hp hn) (M6.Xm (by rw[<-JJ,<-JK];exact bx))
    .intro r hr l5 H5 s5 hT;have hp:=M6.Hy (M6.Fd (M5.zn cs pa.2) (M5.zn cs pb.2) us.length) hr;have FR:=s3.trans (s4.trans s5);have JL:=FR _ _ e2;refine⟨_,rfl,.inl ⟨rfl,_,ai.of JL⟩,_,rfl,_,rfl,_,rfl,l5,_,_,_,rfl,rfl,hT,rfl,_,rfl,l5,_,_,_,rfl,rfl,hT,rfl,(by show 4<=sizeLine;decide),λp6 Zn=>?_⟩;have s6:=ae.new (o:=.tup [.int pa.2,.int pb.2,.int (r.1:Nat),.str r.2]) Zn;have cX:=r2.length;have ib:=List.length_filterMap_le (λpq:(Int×Int)×(Int×Int)=>M6.nb cs us pq.1 pq.2) ((rs.zip rs.tail).take i);rw[q11]at ib;refine⟨p2,_,_,rfl,rfl,s6 _ _ JL,by rw[q06];lia,?_⟩;refine⟨_,_,_,_,ms++[p6],rfl,(cN.trans (FR.trans s6)).put sf,Hu ms p6,?_⟩;have en:M6.nb cs us pa pb=some (pa.2,pb.2,(r.1:Int),r.2):=by unfold M6.nb;rw[q00 bx,hp];rfl
     have ef:filterMap (λpq:(Int×Int)×(Int×Int)=>M6.nb cs us pq.1 pq.2) (some (pa,pb)).toList=[(pa.2,pb.2,(r.1:Int),r.2)]:=by
      show filterMap _ [(pa,pb)]=_;rw[List.filterMap_cons_some (f:=λpq:(Int×Int)×(Int×Int)=>M6.nb cs us pq.1 pq.2) (a:=(pa,pb)) en,filterMap_nil]
     rw[ef];refine All2.snoc (F4.put (r2.imp λ_ _=>F4.stays K _ _ _ _ (FR.trans s6)) (s6 _ _ JL)) ?_;exact bX.put (ys:=ms.map V.ref) bX.new (s6 _ _ JL)
   .have he:pb.1=pa.1:=by injection he
    have en:M6.nb cs us pa pb=none:=by unfold M6.nb;rw[q01 he.symm]
    have ef:filterMap (λpq:(Int×Int)×(Int×Int)=>M6.nb cs us pq.1 pq.2) (some (pa,pb)).toList=[]:=by
     show filterMap _ [(pa,pb)]=_;rw[List.filterMap_cons_none (f:=λpq:(Int×Int)×(Int×Int)=>M6.nb cs us pq.1 pq.2) (a:=(pa,pb)) en,filterMap_nil]
    rw[ef,append_nil];exact⟨_,_,_,_,ms,rfl,cN,e2,r2⟩
  .rintro σ H2 ⟨v5,v6,v7,v8,ms,rfl,cN,e2,r2⟩;have et:(rs.zip rs.tail).take ((((ls.map V.ref).length:Nat):Int)-1).toNat=rs.zip rs.tail:=take_of_length_le (by rw[length_zip,length_tail,q06];lia);rw[et]at r2;exact⟨_,rfl,q p2 _ ms (s1.trans cN) (s1.free sf) e2 r2⟩
inductive OV (K:Frag)(vs:List V)(H:Hp)(Q:VK)(E:XK):Prop|mk(p c:Int)(a:Addr) (cs:List (List Int)) (n:Nat):vs=[.int p,.int c,.ref a,.int n]->Refs K (IL K) H a cs->cs.length<=15->((∀d∈cs,c∈d))->((∀x∈M5.zn cs c,1<=x/\x<=24))->n<=24->p.natAbs<=990->c.natAbs<=1000->(∀H',ae H H'->Q (.str (M6.vQ p c (M5.zn cs c) n)) H')->OV K vs H Q E
theorem Zo(F:aL K "_law_line" "_law_line" Nt f fd)(T:Txt K mg)(CY:aK P w K mg base 1 "_law_marks" CO (FO K))(tF:aK P w K mg base 1 "_law_words" yy (yS K))(Zp:aK P w K mg base 1 "_law_ladder" HS (Oi K)):ar P w K mg base aX 2 f fd Iw (OV K):=by
 refine F.ok TL ?_ ?_
 .rintro _ _ _ _⟨p,c,a,cs,n,rfl,_⟩;rfl
 .rintro aG A outer s H vs Q E hr⟨p,c,a,cs,n,rfl,hA,hz,hc,hx,hn,hp,ph,q⟩;refine⟨_,(zc (zt (i:=4) TL.nd rfl (Or.inl rfl) (zh CY (hM hr) rfl (za (pv 2) (za (pv 1) zb))))
   (zd (zi (zh tF (hM hr) rfl (za (zo wy (zo wy (zo wy (zF (za (pv 0) (za (pv 1) (za zp zb)))) (pv 4)) (zF (za zp zb))) (zh Zp (hM hr) rfl (za (pv 4) (za (pv 3) zb)))) zb))))),?_⟩
  have bY:=zq;refine⟨_,rfl,_,rfl,a,cs,c,rfl,hA,by lia,hc,λl1 H1 s1 f1 e1=>?_⟩;have OW:=M5.ya cs c;generalize M5.zn cs c=ms at e1 OW hx q;refine⟨_,rfl,_,rfl,(by show 3<=sizeLine;decide),λl2 cX=>?_⟩;have s2:=s1.aB (o:=.lst [.int p,.int c,.str M6.bar]) cX;have e2:upd H1 l2 (.lst [.int p,.int c,.str M6.bar]) l2=some (.lst [.int p,.int c,.str M6.bar]):=ze;have iw:=(ae.new (o:=.lst [.int p,.int c,.str M6.bar]) cX) _ _ e1;change ae H (upd H1 l2 (.lst [.int p,.int c,.str (Str.ofString "|")]))at s2;change upd H1 l2 (.lst [.int p,.int c,.str (Str.ofString "|")]) l2=_ at e2;change upd H1 l2 (.lst [.int p,.int c,.str (Str.ofString "|")]) l1=_ at iw;generalize OX:upd H1 l2 _=H2 at s2 e2 iw ⊢;refine⟨_,rfl,l2,l1,_,_,rfl,rfl,e2,iw,by rw[q06];simp only[q12,length_nil];lia,λl3 eF=>?_⟩;have s3:=s2.aB (o:=.lst ([.int p,.int c,.str M6.bar]++ms.map V.int)) eF;have e3:upd H2 l3 (.lst ([.int p,.int c,.str M6.bar]++ms.map V.int)) l3=some (.lst ([.int p,.int c,.str M6.bar]++ms.map V.int)):=ze;have tG:=(ae.new (o:=.lst ([.int p,.int c,.str M6.bar]++ms.map V.int)) eF) _ _ iw;generalize jP:upd H2 l3 _=H3 at s3 e3 tG ⊢;refine⟨(by show 1<=sizeLine;decide),λl4 jO=>?_⟩;have s4:=ae.new (o:=.lst [.str M6.bar]) jO;change ae H3 (upd H3 l4 (.lst [.str (Str.ofString "|")]))at s4;refine⟨l3,l4,_,[.str M6.bar],rfl,rfl,s4 _ _ e3,ze,by rw[q08,q06];simp only[q12,length_nil];lia,λl5 gg=>?_⟩;have s5:=s4.aB (o:=.lst ([.int p,.int c,.str M6.bar]++ms.map V.int++[.str M6.bar])) gg;have e5:upd (upd H3 l4 (.lst [.str (Str.ofString "|")])) l5 (.lst ([.int p,.int c,.str M6.bar]++ms.map V.int++[.str M6.bar])) l5=some (.lst ([.int p,.int c,.str M6.bar]++ms.map V.int++[.str M6.bar])):=ze;generalize CT:upd (upd H3 l4 _) l5 _=H5 at s5 e5 ⊢;have t5:=s3.trans s5;refine⟨_,rfl,_,rfl,l1,ms,n,rfl,ai.of (s5 _ _ tG),by lia,hx,hn,λl6 H6 s6 f6 e6=>?_⟩;have FT:=M6.S2 ms n;refine⟨l5,l6,_,_,rfl,rfl,s6 _ _ e5,e6,by simp only[q08,q06,q12,length_nil];lia,λl7 kH=>?_⟩;have s7:=(t5.trans s6).aB (o:=.lst ([.int p,.int c,.str M6.bar]++ms.map V.int++[.str M6.bar]++(M6.jb ms n).map V.str)) kH;refine⟨l7,_,M6.km p c ms n,rfl,ai.new,?_,?_,?_,λH' s'=>q H' (s7.trans s')⟩
  .have Zq:All2 eR [.int p,.int c,.str M6.bar] ([tN p,tN c]++[M6.bar]):=.cons (.int (by lia)) (.cons (.int (by lia)) (.cons .str .nil));exact((Zq.append (HD λx h=>by have:=hx x h;lia)).append (CM [M6.bar])).append (CM _)
  .unfold M6.km;simp only[q08,q06,q12,length_nil]
   lia
  .intro w hw;exact M6.S3 (by lia) hx hp ph n w hw
inductive wg (K:Frag)(vs:List V)(H:Hp)(Q:VK)(E:XK):Prop|mk(a b:Addr) (cs:List (List Int)) (us:List Int):vs=[.ref a,.ref b]->ai K H a ((M6.zA cs us).map V.int)->ai K H b (us.map V.int)->us.length<=24->((∀u∈us,1<=u/\u<=999))->(∀H',ae H H'->Q (.str (Txt.join M6.zY ((M5.rows (M6.zA cs us) us).map M6.sY))) H')->wg K vs H Q E
theorem Zr(F:aL K "_law_spot_text" "_law_spot_text" Iy f fd)(T:Txt K mg)(OU:aK P w K mg base 1 "_law_rows" Fq (JB K))(tF:aK P w K mg base 1 "_law_words" yy (yS K)):ar P w K mg base aX 2 f fd yE (wg K):=by
 refine F.ok X7 ?_ ?_
 .rintro _ _ _ _⟨a,b,cs,us,rfl,_⟩;rfl
 .rintro aG A outer s H vs Q E hr⟨a,b,cs,us,rfl,hA,hB,hl,hu,q⟩;refine⟨_,(zd (zi (zh tF (hM hr) rfl (za (Mb (show aU (zf Iy) TM "_law_place" "_law_couple" [] [] _ from sd) rfl (zz (zh OU (hM hr) rfl (za (pv 0) (za (pv 1) zb)))) (λ_ _ _ _ _=>yk) (λ_ _ _ _ _=>(zo zx (zo zx (zG wH (by rfl) T.b8 boot_str (za (pv 0) zb)) zp) (zG wH (by rfl) T.b8 boot_str (za (pv 1) zb))))) zb)))),?_⟩;have bY:=zq;have vY:∀p∈M5.rows (M6.zA cs us) us,(1<=p.1/\p.1<=999)/\1<=p.2/\p.2<=999:=λpr kK=>by
   obtain⟨m1,m2⟩:=M6.Ac kK;have FU:=M6.CN (cs:=cs) m1;have Ul:=hu _ m1;have m2:pr.1=M6.dC cs us pr.2:=m2
   lia
  have oB:=M6.Fj cs us;refine⟨_,rfl,_,rfl,a,b,_,us,rfl,hA,hB,by rw[M6.yW],by lia,λl1 H1 ls s1 f1 e1 r1=>?_⟩;refine⟨l1,rfl,⟨_,ai.of e1⟩,?_⟩;refine MH (f:=M6.sY) (ai.of e1) r1 (by lia) (λpr H' R kK s' h=>?_) λH2 s2=>?_
  .obtain⟨p1,p2⟩:=vY pr kK;obtain⟨l1,l2,l3⟩:=M6.Fi p1 p2;have lc:(Str.ofString ":").length=1:=M6.HI;unfold tN at l1 l2;refine⟨_,rfl,.inl ⟨_,rfl,yJ (by lia),_,_,rfl,rfl,(by lia),_,rfl,.inl ⟨_,rfl,yJ (by lia),_,_,rfl,rfl,(by rw[zu];lia),?_⟩⟩⟩;exact h H' (ae.refl _)
  intro l3 eF;refine⟨l3,_,(M5.rows (M6.zA cs us) us).map M6.sY,rfl,ai.new,CM _,by rw[q06];lia,λw hw=>?_,λH4 s4=>q _ (s1.trans ((s2.aB eF).trans s4))⟩;obtain⟨p,hp,rfl⟩:=q25.mp hw;have:=(M6.Fi (vY p hp).1 (vY p hp).2).2.2
  lia
inductive FV (K:Frag)(vs:List V)(H:Hp)(Q:VK)(E:XK):Prop|mk(a:Addr) (cs:List (List Int)) (c:Int):vs=[.ref a,.int c]->Refs K (IL K) H a cs->cs.length<=1000->((∀d∈cs,c∈d))->(∀(l:Addr)(H':Hp),ae H H'->H l=none->H' l=some (.lst ((M5.zn cs c).map V.int))->Q (.ref l) H')->FV K vs H Q E
theorem Zs(F:aL K "marks_of" "marks_of" Iz f fd)(T:Txt K mg)(Zt:aK P w K mg base 1 "mark_on" HY (Oq K)):ar P w K mg base aX 2 f fd CP (FV K):=by
 refine F.ok X8 ?_ ?_
 .rintro _ _ _ _⟨a,cs,c,rfl,_⟩;rfl
 .rintro aG A outer s H vs Q E hr⟨a,cs,c,rfl,⟨ls,hS,hR⟩,hz,hc,q⟩;refine⟨_,(zd (zi (zQ (show ak (zf Iz) ["cards","couple"] "card" ["couple"] [1] _ from cZ) rfl (zz (pv 0)) (λ_ _ _ _ _=>yk) (λ_ _ _ _ _=>(zh Zt (hM hr) rfl (za (pv 0) (za (pv 1) zb))))))),?_⟩;have hlen:=hR.length;refine⟨_,rfl,a,rfl,⟨_,hS⟩,?_⟩;refine zU (xs:=ls.map V.ref) (λi ys H2=>H2=H/\ys=(M5.zn (cs.take i) c).map V.int) ⟨rfl,rfl⟩ ?_ (by rw[q06];have:=zq;lia) ?_ ?_
  .rintro i ys H2 hi ⟨rfl,rfl⟩;refine⟨hS,?_⟩;rw[q06,M5.ya,q11]
   lia
  .rintro i x ys H2 hx ⟨rfl,rfl⟩;obtain⟨l,el,rfl⟩:=wK hx;obtain⟨d,ed,rd⟩:=hR.getL el;refine⟨_,rfl,_,rfl,l,d,c,rfl,rd,hc d (mem_of_getElem? ed),rfl,?_⟩;rw[take_succ,ed];unfold M5.zn;rw[q07,q07];rfl
  .rintro ys H2 ⟨rfl,rfl⟩ l hl;rw[q06,hlen,q15];exact q l _ (ae.new hl) hl ze
inductive Dd (K:Frag)(vs:List V)(H:Hp)(Q:VK)(E:XK):Prop|mk(a:Addr)(ms:List Int)(n:Int):vs=[.ref a,.int n]->ai K H a (ms.map V.int)->ms.length<=1000->(∀(H':Hp),ae H H'->Q (.int (M3.cnt ms n)) H')->Dd K vs H Q E
theorem kN(F:aL K "granted" "granted" Nu f fd)(T:Txt K mg)(OY:aK P w K mg base 1 "granting" Ft (JE K)):ar P w K mg base aX 2 f fd BR (Dd K):=by
 refine F.ok X9 ?_ ?_
 .rintro _ _ _ _⟨a,ms,n,rfl,_⟩;rfl
 .rintro aG A outer s H vs Q E hr⟨a,ms,n,rfl,hS,hz,q⟩;refine⟨_,(zd (zi (yj T.ay (zh OY (hM hr) rfl (za (pv 0) (za (pv 1) zb)))))),?_⟩;refine⟨_,rfl,_,rfl,a,ms,n,rfl,hS,hz,λl H1 s1 f1 e1=>?_⟩;refine⟨l,_,rfl,.inl (ai.of e1),?_⟩;rw[q06];exact q _ s1
inductive wZ (K:Frag)(vs:List V)(H:Hp)(Q:VK)(E:XK):Prop|mk(a:Addr)(ms:List Int)(n:Int):vs=[.ref a,.int n]->ai K H a (ms.map V.int)->ms.length<=1000->(∀(H':Hp),ae H H'->Q (.int (M3.sm ms n)) H')->wZ K vs H Q E
theorem Zu(F:aL K "granted_sum" "granted_sum" Nv f fd)(T:Txt K mg)(OY:aK P w K mg base 1 "granting" Ft (JE K)):ar P w K mg base aX 2 f fd wq (wZ K):=by
 refine F.ok Ya ?_ ?_
 .rintro _ _ _ _⟨a,ms,n,rfl,_⟩;rfl
 .rintro aG A outer s H vs Q E hr⟨a,ms,n,rfl,hS,hz,q⟩;refine⟨_,(zd (zi (zN (EA rfl) (by rfl) T.jw boot_sum (za (zh OY (hM hr) rfl (za (pv 0) (za (pv 1) zb))) zb)))),?_⟩;refine⟨_,rfl,_,rfl,a,ms,n,rfl,hS,hz,λl H1 s1 f1 e1=>?_⟩;exact⟨l,_,rfl,ai.of e1,q _ s1⟩
inductive wJ (K:Frag)(vs:List V)(H:Hp)(Q:VK)(E:XK):Prop|mk(a:Addr)(ms:List Int):vs=[.ref a]->ai K H a (ms.map V.int)->ms≠[]->ms.length<=60->((∀x∈ms,1<=x/\x<=24))->(∀(H':Hp)(f:Int),ae H H'->M3.dQ ms f->Q (.int f) H')->wJ K vs H Q E
theorem Zv(F:aL K "first_number" "first_number" Nw f fd)(T:Txt K mg)(Zw:aK P w K mg base 1 "majority_of" ["many"] (Ov K)):ar P w K mg base aX 2 f fd ["marks"] (wJ K):=by
 refine F.ok Yb ?_ ?_
 .rintro _ _ _ _⟨a,ms,rfl,_⟩;rfl
 .rintro aG A outer s H vs Q E hr⟨a,ms,rfl,hS,bx,hz,hx,q⟩;refine⟨_,(zd (zi (zB zv (zN Lo (by rfl) T.fi PyProof.Rows.boot_sorted (za (pv 0) zb)) (zo tZ (zh Zw (hM hr) rfl (za (yj T.ay (pv 0)) zb)) zg) (λ_ _=>rfl)))),?_⟩;refine⟨_,rfl,a,ms,rfl,hS,by lia,λl ns hl p w=>?_⟩;refine⟨_,rfl,a,_,rfl,.inl ((ae.new hl).seq hS),_,rfl,_,_,rfl,rfl,?_⟩;have hlen:=p.length_eq;have hn:=List.length_pos_iff.mpr bx;rw[q06];refine⟨l,_,_,_,rfl,rfl,ai.new,Bm (by lia) (by lia),?_⟩;have e:(((ms.length:Nat):Int)/2+1-1).toNat=ns.length/2:=by lia
  rw[e];exact q _ _ (ae.new hl) (M3.sC p (M3.Xl w λz=>by rw[z]at hlen;simp at hlen;lia))
inductive zL (K:Frag)(vs:List V)(H:Hp)(Q:VK)(E:XK):Prop|mk(p:Addr)(F:Addr->Prop)(S:Sh)(n:Int):vs=[.ref p,.int n]->aq K H p F S->((¬n<=S.handed.length->∀C H',aj K "TooFewCards" C->ae H H'->E (.ref C) none H'))->((n<=S.handed.length->∀H',ae H H'->Q .bH H'))->zL K vs H Q E
theorem Zx(F:aL K "refuse_fewer_cards" "refuse_fewer_cards" Nx f fd)(T:Txt K mg)(oz:bE P w K mg base 1 (zK K "Sheet") "handed" zV (yc K)):ar P w K mg base (dO P w) 2 f fd zJ (zL K):=by
 obtain⟨iy,aD,c8,az⟩:=T.az;refine F.iC Yc ?_ ?_
 .rintro _ _ _ _⟨p,F,S,n,rfl,_⟩;rfl
 .rintro X W aG A outer s H vs Q E hX hW fl md hr⟨p,F,S,n,rfl,aR,qE,q⟩;subst hX;refine⟨_,(zd (zw (zk kZ (yj T.ay (zI oz T.ah (hM hr) (pv 0))) (pv 1) (zl _)) (zd (wt rfl md rfl c8 az (za zp zb))) zm)),?_⟩;obtain⟨dx,b1,b2,b3,d,bT⟩:=aR.ins;refine⟨_,rfl,p,dx,_,rfl,bT,rfl,p,F,S,rfl,aR.shape,aR.ok.dw,λl1 H1 s1 f1 e1=>?_⟩;refine⟨l1,_,rfl,.inl (ai.of e1),_,rfl,_,_,rfl,rfl,_,rfl,yO (λh=>?_) (λh=>?_)⟩
  .rw[q06]at h;exact⟨(by show 1<=sizeLine;decide),by rw[hW];exact qE (by lia) _ _ aD s1⟩
  .rw[q06]at h;exact q (by lia) H1 s1
inductive OZ (K:Frag)(vs:List V)(H:Hp)(Q:VK)(E:XK):Prop|mk(z:Str):vs=[.str z]->M20.Num z->(∀H',ae H H'->Q (.bl true) H')->OZ K vs H Q E
theorem Zy(F:aL K "couple_word" "couple_word" IA f fd)(T:Txt K mg)(Zz:aK P w K mg base 1 "figure" ["sign"] (Ox K)):ar P w K mg base aX 2 f fd ["word"] (OZ K):=by
 refine F.ok Yd ?_ ?_
 .rintro _ _ _ _⟨z,rfl,_⟩;rfl
 .rintro aG A outer s H vs Q E hr⟨z,rfl,hz,q⟩;refine⟨_,(zd (zi (pB (oK ua (zN VW (by rfl) T.ay PySem.boot_len (za (pv 0) zb)) (Cs T.gI rfl) (zl _)) (pB (oK gv (zB pY (pv 0) zg (λ_ _=>rfl)) zp (zl _)) (Cj (zN (G9 rfl) (by rfl) T.mn boot_all (za (zQ (show ak (zf IA) ["word"] "sign" [] [] _ from cZ) rfl (qW (pv 0)) (λ_ _ _ _ _=>yk) (λ_ _ _ _ _=>(zh Zz (hM hr) rfl (za (pv 0) zb)))) zb))))))),?_⟩;have hl:=zq;have hz3:=hz.len;obtain⟨c0,r0,e0,n0⟩:=hz.ex;refine⟨_,rfl,z,rfl,by lia,_,_,rfl,rfl,_,rfl,yO (λ_=>?_) (λh1=>q02 (show(z.length:Int)<=3 by lia) h1)⟩;refine⟨_,rfl,z,0,c0,rfl,rfl,by lia,by rw[e0];exact zP (j:=0) rfl,rfl,_,rfl,?_⟩;refine yn (λ_=>?_) (λh1=>?_)
  .refine⟨_,rfl,z,rfl,?_⟩;refine RU (λi ys H2=>H2=H/\ys=((z.cps.toList.take i).map M20.Fh).map V.bl) ⟨rfl,rfl⟩ ?_ (by lia) ?_ ?_
   .rintro i ys H2 hi ⟨rfl,rfl⟩;simp only[q06,q11]
    lia
   .rintro i d ys H2 hx ⟨rfl,rfl⟩;refine⟨_,rfl,d,rfl,rfl,?_⟩;rw[take_succ,hx,q07,q07];rfl
   .rintro ys H2 ⟨rfl,rfl⟩ l hl;have e:z.cps.toList.take z.length=z.cps.toList:=take_of_length_le (by rw[M20.MK];exact le_refl _);rw[e];refine⟨l,_,rfl,ai.new,?_⟩;have ea:(z.cps.toList.map M20.Fh).all id=true:=by
     rw[q39];intro b hb;obtain⟨c,hc,rfl⟩:=q25.mp hb;obtain⟨a1,a2⟩:=hz.all c hc;show(decide (48<=c) && decide (c<=57))=true;rw[q19 a1,q19 a2];rfl
    rw[ea];exact q _ (ae.new hl)
  .exfalso;have ZA:(("0":Str))=⟨#[48]⟩:=by decide +kernel
   rw[ZA]at h1;injection h1 with h1
   injection h1 with h1
   have:=congrArg (λa:Array Nat=>a.toList) h1;simp at this;exact n0 this
inductive O0 (K:Frag)(vs:List V)(H:Hp)(Q:VK)(E:XK):Prop|mk(a:Addr)(ns:List Int):vs=[.ref a]->ai K H a (ns.map V.int)->ns.length<4000->(∀H',ae H H'->Q (.bl (M1.oV ns)) H')->O0 K vs H Q E
theorem ZC(F:aL K "good_couples" "good_couples" IB f fd)(T:Txt K mg)(ZD:aK P w K mg base 1 "good_number" ["couple"] (Oy K))(FW:aK P w K mg base 1 "good_length" wa (wU K))(O1:aK P w K mg base 1 "all_unlike" ["things"] (JF K)):ar P w K mg base aX 2 f fd ["couples"] (O0 K):=by
 refine F.ok Ye ?_ ?_
 .rintro _ _ _ _⟨a,ns,rfl,_⟩;rfl
 .rintro aG A outer s H vs Q E hr⟨a,ns,rfl,hS,hz,q⟩;refine⟨_,(zd (zi (pB (zh FW (hM hr) rfl (za (pv 0) (za (Cs T.gJ rfl) zb))) (pB (zh O1 (hM hr) rfl (za (pv 0) zb)) (Cj (zN (G9 rfl) (by rfl) T.mn boot_all (za (zQ (show ak (zf IB) ["couples"] "couple" [] [] _ from cZ) rfl (zz (pv 0)) (λ_ _ _ _ _=>yk) (λ_ _ _ _ _=>(zh ZD (hM hr) rfl (za (pv 0) zb)))) zb))))))),?_⟩;refine⟨_,rfl,_,_,_,rfl,.inl ⟨_,hS,rfl⟩,_,rfl,?_⟩;rw[q06];unfold M1.oV at q;refine vf (λh1=>?_) (λh1=>?_)
  .rw[h1,Bool.true_and]at q;refine⟨_,rfl,a,rfl,.inl ⟨ns,hS,hz,λH1 s1=>⟨_,rfl,yO (λh2=>?_) (λh2=>?_)⟩⟩⟩
   .rw[q19 h2,Bool.true_and]at q;have CF:=s1.seq hS;refine⟨_,rfl,a,rfl,⟨_,CF⟩,?_⟩;refine zU (xs:=ns.map V.int) (λi ys H2=>H2=H1/\ys=((ns.take i).map λn=>decide (1<=n) && decide (n<=999)).map V.bl) ⟨rfl,rfl⟩ ?_ (by rw[q06];have:=zq;lia) ?_ ?_
    .rintro i ys H2 hi ⟨rfl,rfl⟩;exact⟨CF,by simp only[q06,q11];lia⟩
    .rintro i x ys H2 hx ⟨rfl,rfl⟩;obtain⟨hi,rfl⟩:=yQ hx;refine⟨_,rfl,_,rfl,rfl,?_⟩;rw[yM hi,q07,q07];rfl
    .rintro ys H2 ⟨rfl,rfl⟩ l hl;rw[q06,q15];exact⟨l,_,rfl,ai.new,q _ (s1.aB hl)⟩
   .rw[q20 h2,Bool.false_and]at q;exact q _ s1
  .rw[h1,Bool.false_and]at q;exact q _ (ae.refl _)
inductive O2 (K:Frag)(vs:List V)(H:Hp)(Q:VK)(E:XK):Prop|mk(z:Str):vs=[.str z]->z.length<=1000->(∀H',ae H H'->Q (.bl (M2.rY z)) H')->O2 K vs H Q E
theorem ZE(F:aL K "good_name" "good_name" IC f fd)(T:Txt K mg)(ZF:aK P w K mg base 1 "small_letter" ["sign"] (Oz K))(FW:aK P w K mg base 1 "good_length" wa (wU K)):ar P w K mg base aX 2 f fd ["judge"] (O2 K):=by
 refine F.ok Yf ?_ ?_
 .rintro _ _ _ _⟨z,rfl,_⟩;rfl
 .rintro aG A outer s H vs Q E hr⟨z,rfl,hz,q⟩;refine⟨_,(zd (zi (pB (zh FW (hM hr) rfl (za (pv 0) (za (Cs T.iR rfl) zb))) (Cj (zN (G9 rfl) (by rfl) T.mn boot_all (za (zQ (show ak (zf IC) ["judge"] "sign" [] [] _ from cZ) rfl (qW (pv 0)) (λ_ _ _ _ _=>yk) (λ_ _ _ _ _=>(zh ZF (hM hr) rfl (za (pv 0) zb)))) zb)))))),?_⟩;have hl:=zq;refine⟨_,rfl,_,_,_,rfl,⟨by lia,rfl⟩,_,rfl,?_⟩;unfold M2.rY at q;refine vf (λh1=>?_) (λh1=>?_)
  .rw[h1,Bool.true_and]at q;refine⟨_,rfl,z,rfl,?_⟩;refine RU (λi ys H2=>H2=H/\ys=((z.cps.toList.take i).map q9).map V.bl) ⟨rfl,rfl⟩ ?_ (by lia) ?_ ?_
   .rintro i ys H2 hi ⟨rfl,rfl⟩;simp only[q06,q11]
    lia
   .rintro i d ys H2 hx ⟨rfl,rfl⟩;refine⟨_,rfl,d,rfl,rfl,?_⟩;rw[take_succ,hx,q07,q07];rfl
   .rintro ys H2 ⟨rfl,rfl⟩ l hl;have e:z.cps.toList.take z.length=z.cps.toList:=take_of_length_le (by show z.cps.toList.length<=z.cps.size;rw[Array.length_toList];exact le_refl _);rw[e];exact⟨l,_,rfl,ai.new,q _ (ae.new hl)⟩
  .rw[h1,Bool.false_and]at q;exact q _ (ae.refl _)
inductive JM (K:Frag)(vs:List V)(H:Hp)(Q:VK)(E:XK):Prop|mk(a b:Addr)(ns ms:List Int):vs=[.ref a,.ref b]->ai K H a (ns.map V.int)->ai K H b (ms.map V.int)->ms.length<=1000000->Q (.bl (decide (ns=ms))) H->JM K vs H Q E
theorem tH(hl:ns.length=ms.length)(h:∀j,j<ms.length->ns.getD j 0=ms.getD j 0):ns=ms:=by
 refine ext_getElem hl λj h1 h2=>?_;have:=h j h2
 rwa [q18,q18,q31 h1,q31 h2]at this
theorem ZG(F:aL K "_law_same" "_law_same" Ny f fd)(T:Txt K mg)(O3:aK P w K mg base 1 "_law_whole" Fu (JH K)):ar P w K mg base aX 2 f fd Fx (JM K):=by
 refine F.ok TN ?_ ?_
 .rintro _ _ _ _⟨a,b,ns,ms,rfl,_⟩;rfl
 .rintro aG A outer s H vs Q E hr⟨a,b,ns,ms,rfl,hA,hB,hz,q⟩;refine⟨_,(zc (zw (PW.pt (xo (wv (yL (zN Lf (by rfl) T.aZ boot_isinstance (za (pv 0) (za (xm (v:=V.ty "list") rfl T.bQ boot_list rfl) zb))))) (xn (zk gv (yj T.ay (pv 0)) (yj T.ay (pv 1)) (zl _))))) (zd (zi gX)) zm)
   (zc (wd PassesOwn.never rfl (yD rfl T.aT (za (yj T.ay (pv 1)) zb)) (zM (i:=2) TN.nd rfl (Or.inl rfl))
     (zd (zw (PW.pt (xo (wv (yL (zh O3 (hM hr) rfl (za (zB zv (pv 0) (pv 2) (λ_ _=>rfl)) zb)))) (xn (zk gv (zB zv (pv 0) (pv 2) (λ_ _=>rfl)) (zB zv (pv 1) (pv 2) (λ_ _=>rfl)) (zl _))))) (zd (zi gX)) zm)))
   (zd (zi gX)))),?_⟩
  refine⟨_,rfl,_,_,rfl,.yes hA,_,rfl,fP ?_⟩;refine⟨_,rfl,a,_,rfl,.inl hA,_,rfl,b,_,rfl,.inl hB,rfl,_,rfl,?_⟩;rw[q06,q06];refine yn (λbx=>?_) (λhe=>?_)
  .show Q (.bl false) H;have:ns≠ms:=λe=>bx (by rw[e]);rw[q20 this]at q;exact q
  .have hl:ns.length=ms.length:=by injection he with he;exact Int.ofNat.inj he
   refine⟨_,rfl,b,_,rfl,.inl hB,_,rfl,by lia,by rw[q06];lia,?_⟩;rw[q06];refine ym (λi σ H2=>∃v,σ=[some (.ref a),some (.ref b),v]/\H2=H/\∀j,j<i->ns.getD j 0=ms.getD j 0) ⟨_,rfl,rfl,λj hj=>by lia⟩ ?_ ?_
   .rintro i σ H2 hi ⟨v,rfl,rfl,hj⟩;have uj:i<ms.length:=by simpa using hi
    have e1:fC (ns.map V.int) (0+(i:Int))=some (.int (ns.getD i 0)):=by rw[Int.zero_add];exact zP (oQ (by lia))
    have e2:fC (ms.map V.int) (0+(i:Int))=some (.int (ms.getD i 0)):=by rw[Int.zero_add];exact zP (oQ uj)
    refine⟨_,rfl,_,rfl,a,_,_,_,rfl,rfl,hA,e1,_,true,false,rfl,rfl,rfl,_,rfl,fP ?_⟩;refine⟨_,rfl,_,rfl,a,_,_,_,rfl,rfl,hA,e1,_,rfl,_,rfl,b,_,_,_,rfl,rfl,hB,e2,rfl,_,rfl,yn (λbx=>?_) (λhe=>?_)⟩
    .show Q (.bl false) _;have:ns≠ms:=λe=>bx (by rw[e]);rw[q20 this]at q;exact q
    .refine⟨_,rfl,rfl,λj G6=>?_⟩;by_cases OE:j=i
     .subst OE;injection he
     .exact hj j (by lia)
   .rintro σ H2 ⟨v,rfl,rfl,hj⟩;show Q (.bl true) _;have:ns=ms:=tH hl λj h=>hj j (by simpa using h);rw[q19 this]at q;exact q
inductive O4 (K:Frag)(vs:List V)(H:Hp)(Q:VK)(E:XK):Prop|mk(c:Int)(a:Addr)(ns:List Int)(y:Int):vs=[.int c,.ref a,.int y]->ai K H a (ns.map V.int)->ns≠[]->ns.length<=1000->(∀(l:Addr)(H':Hp)(ms:List Int),ae H H'->H l=none->H' l=some (.lst (ms.map V.int))->ms.Perm ns->Q (.ref l) H')->O4 K vs H Q E
theorem ZH(F:aL K "_law_card" "_law_card" Nz f fd)(T:Txt K mg)(Um:aK P w K mg base 1 "_law_mix" Ih (OG K)):ar P w K mg base aX 2 f fd ID (O4 K):=by
 refine F.ok yi ?_ ?_
 .rintro _ _ _ _⟨c,a,ns,y,rfl,_⟩;rfl
 .rintro aG A outer s H vs Q E hr⟨c,a,ns,y,rfl,hS,bx,hz,q⟩;refine⟨_,(zc (zt (i:=3) yi.nd rfl (Or.inl rfl) (zG yf (by rfl) T.bQ boot_list (za (pv 1) zb)))
   (zc (zw (zk yB (pv 2) zg (zl _)) (zc (zt (i:=4) yi.nd rfl (Or.inl rfl) (zo yK (pv 0) (yj T.ay (pv 1))))
   (zc (zt (i:=3) yi.nd rfl (Or.inl rfl) (zo wy (yo wC (pv 3) (yH (pv 4)) y9) (yo wC (pv 3) y9 (yH (pv 4)))))
   (zc (zw (zk yB (zo yK (zo AZ (pv 0) (yj T.ay (pv 1))) zg) zg (zl _)) (zd (zt (i:=3) yi.nd rfl (Or.inl rfl) (Bk (pv 3) (xu pJ zg)))) zm)
   (zd (zi (pv 3)))))) zm)
   (zc (zt (i:=5) yi.nd rfl (Or.inl rfl) (pv 0))
   (zc (zw (zk yB (pv 2) zg (zl _)) (zd (zt (i:=5) yi.nd rfl (Or.inl rfl) (zh Um (hM hr) rfl (za (pv 0) (za (yj T.ay (pv 1)) zb))))) zm)
   (zc (zt (i:=6) yi.nd rfl (Or.inl rfl) (zF zb))
   (zc (wd PassesOwn.never rfl (yD rfl T.aT (za (yj T.ay (pv 1)) zb)) (zM (i:=7) yi.nd rfl (Or.inl rfl))
     (zc (zt (i:=8) yi.nd rfl (Or.inl rfl) (zo yK (pv 5) (yj T.ay (pv 3))))
   (zc (zt (i:=5) yi.nd rfl (Or.inl rfl) (zo AZ (pv 5) (yj T.ay (pv 3))))
   (zc (zT (wb PySem.F.plainAttrs_list PySem.F.slot_list_append PySem.F.type_list_append yC (pv 6) (za (wb PySem.F.plainAttrs_list PySem.F.slot_list_pop PySem.F.type_list_pop qd (pv 3) (za (pv 8) zb)) zb)))
   (zd (zw (zk yB (pv 2) zg (zl _)) (zd (zt (i:=5) yi.nd rfl (Or.inl rfl) (zh Um (hM hr) rfl (za (zo yg (pv 5) (pv 8)) (za (pv 7) zb))))) zm))))))
   (zd (zi (pv 6))))))))),?_⟩
  have Br:0<ns.length:=List.length_pos_iff.mpr bx;refine⟨_,rfl,a,_,rfl,.inl hS,λp0 gT=>?_⟩;have s0:ae H (upd H p0 (.lst (ns.map V.int))):=ae.new gT;refine⟨_,rfl,rfl,_,rfl,yO (λ_=>?_) (λ_=>?_)⟩
  .
   have ht:0<=c%(ns.map V.int).length:=Int.emod_nonneg _ (by rw[q06];lia);refine⟨_,rfl,_,rfl,a,_,rfl,.inl (s0.seq hS),_,_,rfl,rfl,(by show(0:Int)<(ns.map V.int).length;rw[q06];lia),?_⟩;refine⟨_,rfl,_,rfl,_,rfl,p0,_,rfl,ai.new,λp1 JN=>?_⟩;rw[G8 ht];refine⟨_,rfl,_,rfl,_,rfl,p0,_,rfl,(ae.new JN).seq ai.new,λp2 sf=>?_⟩;rw[Lj ht];have ZI:p1≠p2:=zr ze sf;refine⟨p1,p2,_,_,rfl,rfl,by rw[zj ZI];exact ze,ze,?_,λp3 BV=>?_⟩
   .simp only[q06,q11,length_drop];have:=zq;lia
   rw[<-q07];have f1:H p1=none:=s0.free JN;have s1:=s0.aB (o:=.lst ((ns.drop (c%(ns.map V.int).length).toNat).map V.int)) JN;have s2:=s1.aB (o:=.lst ((ns.take (c%(ns.map V.int).length).toNat).map V.int)) sf;have s3:=s2.aB (o:=.lst ((ns.drop (c%(ns.map V.int).length).toNat++ns.take (c%(ns.map V.int).length).toNat).map V.int)) BV;have pm:(ns.drop (c%(ns.map V.int).length).toNat++ns.take (c%(ns.map V.int).length).toNat).Perm ns:=by
    have:=List.perm_append_comm (l₁:=ns.drop (c%(ns.map V.int).length).toNat) (l₂:=ns.take (c%(ns.map V.int).length).toNat)
    rwa [q35]at this
   refine⟨_,rfl,_,rfl,a,_,rfl,.inl (s3.seq hS),_,_,rfl,rfl,⟨by rw[q06];lia,by rw[q06];lia⟩,_,_,rfl,rfl,(by show(0:Int)<2;decide),rfl,_,rfl,yO (λ_=>?_) (λ_=>?_)⟩
   .refine⟨_,rfl,_,rfl,rfl,p3,_,rfl,ai.new,λp4 kM=>?_⟩;rw[<-List.map_reverse];exact⟨_,rfl,q p4 _ _ (s3.aB kM) (s3.free kM) ze ((List.reverse_perm _).trans pm)⟩
   .exact⟨_,rfl,q p3 _ _ s3 (s2.free BV) ze pm⟩
  .
   refine⟨_,rfl,?_⟩;refine⟨_,rfl,rfl,_,rfl,yO (λ_=>?_) (λ_=>?_)⟩
   all_goals
    first
     | refine⟨by decide,λm0 JO=>?_⟩
     | refine⟨_,rfl,_,rfl,a,_,rfl,.inl (s0.seq hS),_,_,rfl,?_⟩
       refine⟨by decide,λm0 JO=>?_⟩
    have s1:=s0.aB (o:=.lst []) JO;have fm:H m0=none:=s0.free JO;have O5:p0≠m0:=zr ze JO;refine⟨_,rfl,a,_,rfl,.inl (s1.seq hS),_,rfl,by lia,by rw[q06];lia,?_⟩;rw[q06];refine ym (λi σ H2=>∃(bK made:List Int)(left:Int)(v4 v7 v8:Option V),σ=[some (.int c),some (.ref a),some (.int y),some (.ref p0),v4,some (.int left),some (.ref m0),v7,v8]/\ae H H2/\H2 p0=some (.lst (bK.map V.int))/\H2 m0=some (.lst (made.map V.int))/\bK.length+i=ns.length/\(made++bK).Perm ns)
     ⟨ns,[],_,_,_,_,rfl,s1,by rw[zj O5];exact ze,ze,rfl,List.Perm.refl _⟩ ?_ ?_
    .rintro i σ H2 hi ⟨bK,made,left,v4,v7,v8,rfl,s2,e1,e2,hlen,pm⟩;have uj:i<ns.length:=by simpa using hi
     have hpl:0<bK.length:=by lia
     have ZJ:0<=left%((bK.map V.int).length:Int):=Int.emod_nonneg _ (by rw[q06];lia);have FU:left%((bK.map V.int).length:Int)<bK.length:=by
      have:=Int.emod_lt_of_pos left (b:=((bK.map V.int).length:Int)) (by rw[q06];lia)
      rwa [q06]at this ⊢
     have uz:(left%((bK.map V.int).length:Int)).toNat<bK.length:=by lia
     have gO:seqIndex? (left%((bK.map V.int).length:Int)) (bK.map V.int).length=some (left%((bK.map V.int).length:Int)).toNat:=qB ZJ (by rw[q06]at FU ⊢;exact FU);refine⟨_,rfl,_,rfl,p0,_,rfl,.inl (ai.of e1),_,_,rfl,rfl,(by show(0:Int)<(bK.map V.int).length;rw[q06];lia),?_⟩;refine⟨_,rfl,_,rfl,p0,_,rfl,.inl (ai.of e1),_,_,rfl,rfl,⟨by rw[q06];lia,by rw[q06];lia⟩,?_⟩;refine⟨_,rfl,.inl ⟨rfl,_,ai.of e2⟩,_,rfl,.inl ⟨rfl,_,ai.of e1⟩,_,rfl,p0,_,_,_,_,rfl,rfl,e1,by lia,by lia,gO,oQ uz,?_⟩;generalize (left%((bK.map V.int).length:Int)).toNat=j at uz;rw[RJ];have s3:ae H (upd H2 p0 (.lst ((bK.eraseIdx j).map V.int))):=s2.put gT;refine⟨m0,_,_,rfl,rfl,by rw[zj (Ne.symm O5)];exact e2,by rw[q06];have:=pm.length_eq;rw[q08]at this;have:=zq;lia,?_⟩;have s4:ae H (upd (upd H2 p0 (.lst ((bK.eraseIdx j).map V.int))) m0 (.lst ((made++[bK.getD j 0]).map V.int))):=s3.put fm;have Uo:(made++[bK.getD j 0]++bK.eraseIdx j).Perm ns:=by
      refine List.Perm.trans ?_ pm;rw[append_assoc];refine List.Perm.append_left _ ?_;have e:bK.getD j 0=bK[j]:=by rw[q18,q31 uz];rfl
      rw[e];exact RK bK j uz
     have cX:(bK.eraseIdx j).length+(i+1)=ns.length:=by rw[List.length_eraseIdx_of_lt uz];lia
     have qm:upd (upd H2 p0 (.lst ((bK.eraseIdx j).map V.int))) m0 (.lst ((made++[bK.getD j 0]).map V.int)) p0=some (.lst ((bK.eraseIdx j).map V.int)):=by rw[zj O5];exact ze
     have ZK:made.map V.int++[V.int (bK.getD j 0)]=(made++[bK.getD j 0]).map V.int:=by rw[q07];rfl
     rw[ZK];refine⟨_,rfl,rfl,_,rfl,yO (λ_=>?_) (λ_=>?_)⟩
     .refine⟨_,rfl,_,rfl,_,_,rfl,rfl,_,rfl,_,_,rfl,?_⟩;exact⟨_,_,_,_,_,_,rfl,s4,qm,ze,cX,Uo⟩
     .exact⟨_,_,_,_,_,_,rfl,s4,qm,ze,cX,Uo⟩
    .rintro σ H2 ⟨bK,made,left,v4,v7,v8,rfl,s2,e1,e2,hlen,pm⟩;have hl0:(ns.length:Int).toNat=ns.length:=Int.toNat_natCast _;have hp:bK=[]:=List.eq_nil_of_length_eq_zero (by lia);subst hp;rw[append_nil]at pm;exact⟨_,rfl,q m0 _ _ s2 fm e2 pm⟩
inductive wB (K:Frag)(vs:List V)(H:Hp)(Q:VK)(E:XK):Prop|mk(a b:Addr) (cs:List (List Int)) (us:List Int):vs=[.ref a,.ref b]->Refs K (IL K) H a cs->ai K H b (us.map V.int)->cs.length<=500->us.length<=500->((∀u∈us,∀d∈cs,u∈d))->(∀(l:Addr)(H':Hp),ae H H'->H l=none->H' l=some (.lst ((M5.E8 cs us).map V.int))->Q (.ref l) H')->wB K vs H Q E
theorem ZL(F:aL K "_law_spots" "_law_spots" Fy f fd)(T:Txt K mg)(CY:aK P w K mg base 1 "_law_marks" CO (FO K))(ZM:aK P w K mg base 1 "_law_key" Iq (OK K)):ar P w K mg base aX 2 f fd yP (wB K):=by
 refine F.ok TQ ?_ ?_
 .rintro _ _ _ _⟨a,b,cs,us,rfl,_⟩;rfl
 .rintro aG A outer s H vs Q E hr⟨a,b,cs,us,rfl,hA,hB,hz,hu,hm,q⟩;refine⟨_,(zc (zt (i:=2) TQ.nd rfl (Or.inr rfl) (zQ (show ak (zf Fy) NA "_law_couple" ["_law_cards","_law_couples_here"] [0,1] _ from cZ) rfl (zz (pv 1)) (λ_ _ _ _ _=>yk) (λ_ _ _ _ _=>(zh ZM (hM hr) rfl (za (zh CY (hM hr) rfl (za (pv 1) (za (pv 0) zb))) (za (xZ (K:=K) rfl T.ay (pv 2)) zb))))))
   (zd (zi (rg (show bw (zf Fy) NA "_law_mine" ["_law_ranks"] [2] _ from Ml) rfl (zz (pv 2)) (λ_ _ _ _ _ _=>yk) (λ_ _ _ _ _ _=>(zo yg zg (xZ (K:=K) rfl T.ay (zQ (ak.under (show ak _ ["_law_mine","_law_ranks"] "_law_rank" ["_law_mine"] [0] _ from cZ)) rfl (qO (K:=K) rfl (pv 1)) (λ_ _ _ _ _=>(yI (zk (WA (K:=K) rfl hr.bp) (pv 0) (pv 1) (zl _)))) (λ_ _ _ _ _=>(pv 0)))))))))),?_⟩
  have bY:=zq;refine⟨_,rfl,b,rfl,⟨_,hB⟩,?_⟩;refine zU (xs:=us.map V.int) (λi ys H2=>ae H H2/\∃ls:List Addr,ys=ls.map V.ref/\All2 (IL K H2) ls ((us.take i).map λc=>M5.key (M5.zn cs c) us.length)) ⟨ae.refl _,[],rfl,.nil⟩ ?_ (by rw[q06];lia) ?_ ?_
  .rintro i ys H2 hi ⟨s2,ls,rfl,r⟩;refine⟨s2.seq hB,?_⟩;have:=r.length;rw[q06,q11]at this;rw[q06]
   lia
  .rintro i x ys H2 hx ⟨s2,ls,rfl,r⟩;obtain⟨hi,rfl⟩:=yQ hx;refine⟨_,rfl,_,rfl,a,cs,_,rfl,hA.same (IL.stays K) s2,by lia,hm _ (mV hi),λl3 H3 s3 f3 e3=>?_⟩;have FQ:=s2.trans s3;refine⟨_,rfl,b,_,rfl,.inl (FQ.seq hB),l3,_,_,rfl,ai.of e3,by rw[M5.ya];lia,by lia,by rw[q06];lia,λl4 H4 s4 f4 e4=>?_⟩;have el:(((us.map V.int).length:Nat):Int).toNat=us.length:=by rw[q06];lia
   rw[el]at e4;refine⟨FQ.trans s4,ls++[l4],by rw[q07];rfl,?_⟩;rw[yM hi,q07];exact(r.imp λx y=>IL.stays K _ _ _ _ (s3.trans s4)).snoc (show IL K H4 l4 _ from ai.of e4)
  rintro ys H2 ⟨s2,ls,rfl,r⟩ l5 gg;rw[q06,q15]at r;generalize CT:upd H2 l5 _=H5;have s5:ae H2 H5:=by rw[<-CT];exact ae.new gg
  have t5:H5 l5=some (.lst (ls.map V.ref)):=by rw[<-CT];exact ze
  have r5:All2 (IL K H5) ls (M5.vM cs us):=r.imp λx y=>IL.stays K _ _ _ _ s5;have lr:(M5.vM cs us).length=us.length:=by unfold M5.vM;rw[q06]
  have ll:=r5.length;have hZ:M5.E8 cs us=(M5.vM cs us).map λm=>1+(M5.Bg (M5.vM cs us) m:Int):=rfl;rw[hZ]at q;generalize M5.vM cs us=rs at r5 lr ll q;refine⟨_,rfl,l5,rfl,⟨_,ai.of t5⟩,?_⟩;refine zU (xs:=ls.map V.ref) (λi ys H6=>ae H5 H6/\ys=((rs.take i).map λm=>1+(M5.Bg rs m:Int)).map V.int) ⟨ae.refl _,rfl⟩ ?_ (by rw[q06];lia) ?_ ?_
  .rintro i ys H6 hi ⟨s6,rfl⟩;refine⟨s6.seq (ai.of t5),?_⟩;rw[q06,q06,q11]
   lia
  .rintro i x ys H6 hx ⟨s6,rfl⟩;obtain⟨l,el,rfl⟩:=wK hx;obtain⟨m,em,rm⟩:=r5.getL el;have q6:ai K H6 l5 (ls.map V.ref):=s6.seq (ai.of t5);have m6:=IL.stays K _ _ _ _ s6 rm;refine⟨_,rfl,l5,rfl,⟨_,q6⟩,?_⟩;refine yN (xs:=ls.map V.ref) (λj zs H7=>H7=H6/\zs.length=((rs.take j).filter λr=>HT.lexLt r m).length) ⟨rfl,rfl⟩ ?_ (by rw[q06];lia) ?_ ?_
   .rintro j zs H7 hj ⟨rfl,e⟩;refine⟨q6,?_⟩;have:=q09 (λr=>HT.lexLt r m) (rs.take j);rw[q11]at this
    lia
   .rintro j y zs H7 hy ⟨rfl,e⟩;obtain⟨k,ek,rfl⟩:=wK hy;obtain⟨r',er,rr⟩:=r5.getL ek;have r6:=IL.stays K _ _ _ _ s6 rr;refine⟨_,rfl,_,rfl,k,l,_,_,rfl,rfl,r6,m6,_,rfl,vf (λh=>?_) (λh=>?_)⟩
    .refine⟨_,rfl,rfl,?_⟩;rw[take_succ,er,q16,q08,q08,e];show _+1=_+(filter (λr=>HT.lexLt r m) [r']).length;rw[filter_cons_of_pos (by simpa using h)];rfl
    .refine⟨rfl,?_⟩;rw[take_succ,er,q16,q08,e];show _=_+(filter (λr=>HT.lexLt r m) [r']).length;rw[filter_cons_of_neg (by simpa using h)];rfl
   rintro zs H7 ⟨rfl,e⟩ l8 uA;rw[q06,ll,q15]at e;refine⟨l8,_,rfl,.inl ai.new,_,_,rfl,rfl,s6.aB uA,?_⟩;rw[e,take_succ,em,q07,q07];rfl
  .rintro ys H6 ⟨s6,rfl⟩ l9 vW;rw[q06,ll,q15];exact q l9 _ ((s2.trans (s5.trans s6)).aB vW) ((s2.trans (s5.trans s6)).free vW) ze
inductive yr (K:Frag)(vs:List V)(H:Hp)(Q:VK)(E:XK):Prop|mk(p:Addr)(F:Addr->Prop)(S:Sh):vs=[.ref p]->aq K H p F S->(∀(l:Addr)(H':Hp)(ks:List Addr),ae H H'->H l=none->H' l=some (.lst (ks.map V.ref))->All2 (λk c=>H k=none/\H' k=some (.lst (c.map V.int))) ks S.ao->Q (.ref l) H')->yr K vs H Q E
theorem ZN(F:aL K "cards" "Sheet.cards" IE f fd)(T:Txt K mg)(oz:bE P w K mg base 1 (zK K "Sheet") "handed" zV (yc K))(oY:bL P w K mg base 2 (zK K "Sheet") "card_of" zW (yd K)):ar P w K mg base aX 3 f fd yh (yr K):=by
 refine F.ok Yg ?_ ?_
 .rintro _ _ _ _⟨p,F,S,rfl,_⟩;rfl
 .rintro aG A outer s H vs Q E hr⟨p,F,S,rfl,aR,q⟩;refine⟨_,(zd (zi (zQ (show ak (zf IE) ["self"] "judge" ["self"] [0] _ from cZ) rfl (zz (zI oz T.ah (hM hr) (pv 0))) (λ_ _ _ _ _=>yk) (λ_ _ _ _ _=>(wS oY T.ah xP (hM hr) (pv 1) (za (pv 0) zb)))))),?_⟩;have bY:=zq;have gf:=aR.ok.dw;have bT:∃dx fs,H p=some (.ins (zK K "Sheet") dx fs)/\fs.lookup ("handed":Str)=none/\fs.lookup ("card_of":Str)=none:=by
   obtain⟨dx,a1,a2,a3,d,ax,h⟩:=aR;exact⟨dx,_,h.ip,rfl,rfl⟩
  obtain⟨dx,fs,bT,ZO,ZP⟩:=bT;refine⟨_,rfl,p,dx,_,rfl,bT,ZO,p,F,S,rfl,aR.shape,gf,λa H1 s1 f1 e1=>?_⟩;have cX:S.handed.length<=15:=q38 (q09 _ _) gf;refine⟨a,rfl,⟨_,ai.of e1⟩,?_⟩;refine zU (xs:=S.handed.map V.str) (λi ys H2=>∃ks:List Addr,ys=ks.map V.ref/\ae H1 H2/\All2 (λk c=>H k=none/\H2 k=some (.lst (c.map V.int))) ks ((S.handed.take i).map λj=>(S.card j).getD [])) ⟨[],rfl,ae.refl _,.nil⟩ ?_ (by rw[q06];lia) ?_ ?_
  .rintro i ys H2 hi ⟨ks,rfl,s2,r2⟩;refine⟨s2.seq (ai.of e1),?_⟩;have:=r2.length;rw[q06,q11]at this;rw[q06]
   lia
  .rintro i x ys H2 hx ⟨ks,rfl,s2,r2⟩;obtain⟨hi,rfl⟩:=Bu hx;have hm:=q24.mp (show S.handed.getD i "" ∈ S.af.filter λj=>(S.card j).isSome from vk hi);have cN:=s1.trans s2;cases e:S.card (S.handed.getD i "")with
   | none=>rw[e]at hm;exact q02 hm.2 q23
   | some c =>
     refine⟨_,rfl,p,dx,_,rfl,cN _ _ bT,ZP,_,rfl,p,F,S,_,rfl,aR.same cN,λhj=>q02 hm.1 hj,(λ_ z=>by rw[e]at z;cases z),λc' e' l H3 s3 f3 e3=>?_⟩;rw[e]at e';cases e';refine⟨ks++[l],by rw[q07];rfl,s2.trans s3,?_⟩;rw[yw hi,q07];refine(r2.imp λ_ _ z=>⟨z.1,s3 _ _ z.2⟩).snoc ⟨cN.free f3,?_⟩;dsimp only;rw[e];exact e3
  .rintro ys H2 ⟨ks,rfl,s2,r2⟩ l hl;rw[q06,q15]at r2;exact q l _ ks ((s1.trans s2).aB hl) ((s1.trans s2).free hl) ze (r2.imp λ_ _ z=>⟨z.1,ae.new hl _ _ z.2⟩)
inductive O6 (K:Frag)(vs:List V)(H:Hp)(Q:VK)(E:XK):Prop|mk(a b:Addr)(ns us:List Int)(st m y md:Int):vs=[.ref a,.int st,.ref b,.int m,.int y,.int md]->ai K H a (ns.map V.int)->ai K H b (us.map V.int)->0<=st->0<=m->m<=1000->us≠[]->us.length<=1000->(∀(l:Addr)(H':Hp)(ls:List Addr)(cs:List (List Int)),ae H H'->H l=none->H' l=some (.lst (ls.map V.ref))->All2 (λl c=>H' l=some (.lst (c.map V.int))) ls cs->cs.length=m.toNat->(∀d∈cs,d=[]\/d.Perm us)->Q (.ref l) H')->O6 K vs H Q E
theorem ZQ(F:aL K "_law_panel" "_law_panel" NB f fd)(T:Txt K mg)(kO:aK P w K mg base 1 "_law_at" Fv (JI K))(ZR:aK P w K mg base 2 "_law_card" ID (O4 K)):ar P w K mg base aX 3 f fd IF (O6 K):=by
 refine F.ok IG ?_ ?_
 .rintro _ _ _ _⟨a,b,ns,us,st,m,y,md,rfl,_⟩;rfl
 .rintro aG A outer s H vs Q E hr⟨a,b,ns,us,st,m,y,md,rfl,hA,hB,h0,m0,m1,bx,hz,q⟩;refine⟨_,(zc (zt (i:=6) IG.nd rfl (Or.inl rfl) (zF zb))
   (zc (wd PassesOwn.never rfl (yD rfl T.aT (za (pv 3) zb)) (zM (i:=7) IG.nd rfl (Or.inl rfl))
     (zc (zt (i:=8) IG.nd rfl (Or.inl rfl) (zh kO (hM hr) rfl (za (pv 0) (za (zo yg (pv 1) (pv 7)) zb))))
   (zd (zw (PW.pt (AQ (zk yB (zo yK (pv 8) zg) zg (zl _)) (AO (zk gv (pv 5) zg (zl _))))) (zd (zT (wb PySem.F.plainAttrs_list PySem.F.slot_list_append PySem.F.type_list_append yC (pv 6) (za (zF zb) zb)))) (zd (zT (wb PySem.F.plainAttrs_list PySem.F.slot_list_append PySem.F.type_list_append yC (pv 6) (za (zh ZR (hM hr) rfl (za (zo AZ (pv 8) zg) (za (pv 2) (za (pv 4) zb)))) zb))))))))
   (zd (zi (pv 6))))),?_⟩
  have bY:=zq;refine⟨by decide,λp0 gT=>?_⟩;refine⟨_,rfl,m,rfl,by lia,by lia,ym (λi σ H2=>∃(v7 v8:Option V)(ls:List Addr)(cs:List (List Int)),σ=[some (.ref a),some (.int st),some (.ref b),some (.int m),some (.int y),some (.int md),some (.ref p0),v7,v8]/\ae H H2/\H2 p0=some (.lst (ls.map V.ref))/\All2 (λl d=>H2 l=some (.lst (d.map V.int))/\l≠p0) ls cs/\cs.length=i/\∀d∈cs,d=[]\/d.Perm us) ⟨_,_,[],[],rfl,ae.new gT,ze,.nil,rfl,by simp⟩ ?_ ?_⟩
  .rintro i σ H2 hi ⟨v7,v8,ls,cs,rfl,s2,e2,r2,hl,hd⟩;have hi:i<1000:=by lia
   refine⟨_,rfl,_,rfl,_,rfl,_,_,rfl,rfl,a,ns,_,rfl,s2.seq hA,by lia,?_⟩;dsimp only;generalize ns.getD (st+(0+(i:Int))).toNat 0=cell;have go:∀(H3:Hp)(l3:Addr)(d:List Int),ae H2 H3->H2 l3=none->H3 l3=some (.lst (d.map V.int))->(d=[]\/d.Perm us)->(ae H (upd H3 p0 (.lst (ls.map V.ref++[.ref l3])))/\upd H3 p0 (.lst (ls.map V.ref++[.ref l3])) p0=some (.lst ((ls++[l3]).map V.ref))/\All2 (λl d=>upd H3 p0 (.lst (ls.map V.ref++[.ref l3])) l=some (.lst (d.map V.int))/\l≠p0) (ls++[l3]) (cs++[d])/\(cs++[d]).length=i+1/\∀e∈cs++[d],e=[]\/e.Perm us):=λH3 l3 d s3 f3 e3 h3=>by
    have n3:l3≠p0:=λz=>by rw[z,e2]at f3;cases f3
    refine⟨(s2.trans s3).put gT,Hu ls l3,?_,by rw[q08,hl];rfl,λe he=>?_⟩
    .refine All2.snoc (r2.imp λl d h=>⟨by rw[zj h.2];exact s3 _ _ h.1,h.2⟩) ⟨by rw[zj n3];exact e3,n3⟩
    .rcases List.mem_append.mp he with h | h
     .exact hd e h
     .rw[List.mem_singleton.mp h];exact h3
   have vV:=r2.length;refine⟨_,rfl,_,_,rfl,rfl,(by show(0:Int)<6;decide),rfl,_,rfl,yO (λ_=>?_) (λ_=>fP ?_)⟩
   .refine⟨_,rfl,rfl,_,rfl,yn (λ_=>?_) (λ_=>?_)⟩
    .refine⟨_,rfl,.inl ⟨rfl,_,ai.of e2⟩,by decide,λp3 BV=>?_⟩;have s3:=ae.new (o:=.lst []) BV;refine⟨p0,_,_,rfl,rfl,s3 _ _ e2,by rw[q06];lia,?_⟩;obtain⟨g1,g2,g3,g4,g5⟩:=go _ p3 [] s3 BV ze (.inl rfl);exact⟨_,_,_,_,rfl,g1,g2,g3,g4,g5⟩
    .refine⟨_,rfl,.inl ⟨rfl,_,ai.of e2⟩,_,rfl,_,_,rfl,rfl,⟨by decide,by decide⟩,_,rfl,_,rfl,_,b,us,_,rfl,s2.seq hB,bx,hz,λl3 H3 d s3 f3 e3 pd=>?_⟩;refine⟨p0,_,_,rfl,rfl,s3 _ _ e2,by rw[q06];lia,?_⟩;obtain⟨g1,g2,g3,g4,g5⟩:=go H3 l3 d s3 f3 e3 (.inr pd);exact⟨_,_,_,_,rfl,g1,g2,g3,g4,g5⟩
   .refine⟨_,rfl,.inl ⟨rfl,_,ai.of e2⟩,_,rfl,_,_,rfl,rfl,⟨by decide,by decide⟩,_,rfl,_,rfl,_,b,us,_,rfl,s2.seq hB,bx,hz,λl3 H3 d s3 f3 e3 pd=>?_⟩;refine⟨p0,_,_,rfl,rfl,s3 _ _ e2,by rw[q06];lia,?_⟩;obtain⟨g1,g2,g3,g4,g5⟩:=go H3 l3 d s3 f3 e3 (.inr pd);exact⟨_,_,_,_,rfl,g1,g2,g3,g4,g5⟩
  .rintro σ H2 ⟨v7,v8,ls,cs,rfl,s2,e2,r2,hl,hd⟩;exact⟨_,rfl,q p0 _ ls cs s2 gT e2 (r2.imp λ_ _ h=>h.1) hl hd⟩
inductive O7 (K:Frag)(vs:List V)(H:Hp)(Q:VK)(E:XK):Prop|mk(a b c:Addr) (cs:List (List Int)) (us:List Int):vs=[.ref a,.ref b,.ref c]->Refs K (IL K) H a cs->ai K H b (us.map V.int)->ai K H c ((M6.zA cs us).map V.int)->cs.length<=500->us.length<=24->((∀u∈us,∀d∈cs,u∈d))->((∀u∈us,1<=u/\u<=999))->(∀H',ae H H'->Q (.str (M6.uy ((M6.yl cs us).map M6.vT))) H')->O7 K vs H Q E
theorem tI(ws:List Str):fR (ws.map V.str) []=decide (ws=[]):=by
 cases ws with
 | nil=>rfl
 | cons _ _=>rfl
theorem ZS(F:aL K "_law_part_text" "_law_part_text" NC f fd)(T:Txt K mg)(ZT:aK P w K mg base 2 "_law_parts" Iv (OT K))(tF:aK P w K mg base 1 "_law_words" yy (yS K)):ar P w K mg base aX 3 f fd IH (O7 K):=by
 refine F.ok yF ?_ ?_
 .rintro _ _ _ _⟨a,b,c,cs,us,rfl,_⟩;rfl
 .rintro aG A outer s H vs Q E hr⟨a,b,c,cs,us,rfl,hA,hB,hC,fT,hl,hm,hu,q⟩;refine⟨_,(zc (zt (i:=3) yF.nd rfl (Or.inl rfl) (zF zb))
   (zc (wd PassesOwn.never rfl (zz (zh ZT (hM hr) rfl (za (pv 0) (za (pv 1) (za (pv 2) zb))))) (GN rfl (wI (zM (i:=4) yF.nd rfl (Or.inl rfl)) (wI (zM (i:=5) yF.nd rfl (Or.inl rfl)) (wI (zM (i:=6) yF.nd rfl (Or.inl rfl)) (wI (zM (i:=7) yF.nd rfl (Or.inl rfl)) GL)))))
     (zd (zT (wb PySem.F.plainAttrs_list PySem.F.slot_list_append PySem.F.type_list_append yC (pv 3) (za (zo zx (zo zx (zo zx (zo zx (zo zx (zo zx (zG wH (by rfl) T.b8 boot_str (za (pv 4) zb)) zp) (zG wH (by rfl) T.b8 boot_str (za (pv 5) zb))) zp) (zG wH (by rfl) T.b8 boot_str (za (pv 6) zb))) zp) (pv 7)) zb)))))
   (zc (zw (zk (Cw hr.bp) (pv 3) (zF zb) (zl _)) (zd (zi zp)) zm)
   (zd (zi (zh tF (hM hr) rfl (za (pv 3) zb))))))),?_⟩
  have bY:=zq;have hpl:=M6.Tr cs us;have tD:∀r∈M6.yl cs us,(1<=r.1/\r.1<=999)/\(1<=r.2.1/\r.2.1<=999)/\(1<=r.2.2.1/\r.2.2.1<=999)/\r.2.2.2.length<=5:=λr hr=>by
   obtain⟨a1,a2,a3,a4⟩:=M6.Tq hr;exact⟨hu _ a1,hu _ a2,by lia,a4⟩
  refine⟨(by show 0<=sizeLine;decide),λl om=>?_⟩;have s1:=ae.new (o:=.lst []) om;have e1:upd H l (.lst []) l=some (.lst []):=ze;generalize Oj:upd H l _=H1 at s1 e1 ⊢;refine⟨_,rfl,_,rfl,_,rfl,a,b,c,cs,us,rfl,Refs.same (IL.stays K) s1 hA,s1.seq hB,s1.seq hC,fT,by lia,hm,λl2 H2 ls s2 f2 e2 r2=>?_⟩;have t2:=s1.trans s2;have iw:=s2 _ _ e1;have x9:l≠l2:=λz=>by rw[z,f2]at e1;cases e1
  refine⟨l2,rfl,⟨_,ai.of e2⟩,?_⟩;refine GR (xs:=ls.map V.ref) (λi σ H3=>∃v4 v5 v6 v7:Option V,σ=[some (.ref a),some (.ref b),some (.ref c),some (.ref l),v4,v5,v6,v7]/\ae H H3/\H3 l=some (.lst ((((M6.yl cs us).take i).map M6.vT).map V.str))/\H3 l2=some (.lst (ls.map V.ref))/\All2 (F4 K H3) ls (M6.yl cs us)) ⟨_,_,_,_,rfl,t2,by rw[take_zero];exact iw,e2,r2⟩ (λi σ H3 _ h=>?_) ?_ ?_
  .obtain⟨_,_,_,_,_,_,_,z,_⟩:=h;exact ai.of z
  .rintro i x σ H3 hx ⟨v4,v5,v6,v7,rfl,s3,e3,BW,r3⟩;obtain⟨t,et,rfl⟩:=wK hx;obtain⟨r,er,hr⟩:=r3.getL et;have ZU:=mem_of_getElem? er;obtain⟨a1,a2,a3,a4⟩:=tD r ZU;have w1:=M6.yp a1;have w2:=M6.yp a2;have w3:=M6.yp a3;have g1:(Str.ofString ">").length=1:=by decide +kernel
   have g2:(Str.ofString ":").length=1:=by decide +kernel
   unfold tN at w1 w2 w3;refine⟨t,_,rfl,hr,rfl,_,_,rfl,_,_,rfl,_,_,rfl,_,_,rfl,rfl,?_⟩;refine⟨_,rfl,.inl ⟨rfl,_,ai.of e3⟩,_,rfl,.inl ⟨_,rfl,yJ (by lia),_,_,rfl,rfl,?_,_,rfl,.inl ⟨_,rfl,yJ (by lia),_,_,rfl,rfl,?_,_,_,rfl,rfl,?_,_,rfl,.inl ⟨_,rfl,yJ (by lia),_,_,rfl,rfl,?_,_,_,rfl,rfl,?_,_,rfl,_,_,rfl,rfl,?_,?_⟩⟩⟩⟩
   .lia
   .rw[zu];lia
   .simp only[zu];lia
   .simp only[zu];lia
   .simp only[zu];lia
   .simp only[zu];lia
   .refine⟨l,_,_,rfl,rfl,e3,by rw[q06,q06,q11];lia,_,_,_,_,rfl,s3.put om,?_,?_,F4.put r3 e3⟩
    .rw[ze,take_succ,er,q07,q07];rfl
    .rw[zj (Ne.symm x9)];exact BW
  .rintro σ H3 ⟨v4,v5,v6,v7,rfl,s3,e3,BW,r3⟩;have hlen:=r3.length;rw[q06,hlen,q15]at e3;refine⟨_,rfl,(by decide),λl5 gg=>?_⟩;have s5:=s3.aB (o:=.lst []) gg;refine⟨l,l5,_,_,rfl,rfl,ai.of ((ae.new gg) _ _ e3),ai.new,M20.HH _,rfl,_,rfl,?_⟩;rw[tI];refine yO (λh0=>?_) (λh0=>?_)
   .have:=q _ s5;unfold M6.uy at this;rw[q01 h0]at this;exact this
   .refine⟨_,rfl,l,_,(M6.yl cs us).map M6.vT,rfl,ai.of ((ae.new gg) _ _ e3),CM _,by rw[q06];lia,λw hw=>?_,λH4 s4=>?_⟩
    .obtain⟨r,hr,rfl⟩:=q25.mp hw;obtain⟨a1,a2,a3,a4⟩:=tD r hr;have:=M6.Ts a1 a2 a3 a4
     lia
    .have:=q _ (s5.trans s4);unfold M6.uy at this;rw[q00 h0]at this;exact this
inductive O8 (K:Frag)(vs:List V)(H:Hp)(Q:VK)(E:XK):Prop|mk(a b:Addr) (cs:List (List Int)) (us:List Int):vs=[.ref a,.ref b]->Refs K (IL K) H a cs->ai K H b (us.map V.int)->((∀d∈cs,d.Perm us))->1<=cs.length->cs.length<=500->us.length<=500->(∀(l:Addr)(H':Hp),ae H H'->H l=none->H' l=some (.lst ((sN cs us).map V.int))->Q (.ref l) H')->O8 K vs H Q E
theorem ZV(F:aL K "_law_firsts" "_law_firsts" II f fd)(T:Txt K mg)(vZ:aK P w K mg base 2 "_law_spots" yP (wB K)):ar P w K mg base aX 3 f fd IJ (O8 K):=by
 refine F.ok TU ?_ ?_
 .rintro _ _ _ _⟨a,b,cs,us,rfl,_⟩;rfl
 .rintro aG A outer s H vs Q E hr⟨a,b,cs,us,rfl,hA,hB,hp,c1,O9,JP,q⟩;refine⟨_,(zc (zt (i:=2) TU.nd rfl (Or.inr rfl) (zh vZ (hM hr) rfl (za (pv 0) (za (pv 1) zb))))
   (zd (zi (zQ (show ak (zf II) TR "_law_k" ["_law_couples_here","_law_spots_here"] [1,2] _ from cZ) rfl (yD rfl T.aT (za (yj T.ay (pv 1)) zb)) (λ_ _ _ _ _=>(yI (zk yB (zB (xQ (K:=K) rfl) (pv 2) (pv 0) (λ_ _=>rfl)) zg (zl _)))) (λ_ _ _ _ _=>(zB (xQ (K:=K) rfl) (pv 1) (pv 0) (λ_ _=>rfl))))))),?_⟩
  have bY:=zq;refine⟨_,rfl,_,rfl,a,b,cs,us,rfl,hA,hB,O9,JP,λu hu d hd=>(hp d hd).mem_iff.mpr hu,λl1 H1 s1 f1 e1=>?_⟩;rw[M6.E9 hp c1]at e1;have hpl:=M6.yW cs us;refine⟨_,rfl,b,_,rfl,.inl (s1.seq hB),_,rfl,by lia,by rw[q06];lia,?_⟩;rw[q06,show((us.length:Nat):Int).toNat=us.length by lia];refine Lh (λi zs H2=>ae H1 H2/\zs=(Ae (M6.zA cs us) us i).map V.int) ⟨ae.refl _,rfl⟩ ?_ (by lia) ?_ ?_
  .rintro i zs H2 hi ⟨s2,rfl⟩;rw[q06];exact SY _ _ _
  .rintro i zs H2 hi ⟨s2,rfl⟩;refine⟨_,rfl,_,rfl,l1,_,_,_,rfl,rfl,ai.of (s2 _ _ e1),(by rw[Int.zero_add];exact zP (oQ (by lia))),rfl,_,rfl,yO (λhe=>?_) (λbx=>?_)⟩
   .have he:(M6.zA cs us).getD i 0=1:=by injection he
    refine⟨_,rfl,_,rfl,b,_,_,_,rfl,rfl,(s1.trans s2).seq hB,(by rw[Int.zero_add];exact zP (oQ hi)),s2,?_⟩;rw[HB,q01 he,q07];rfl
   .have bx:¬(M6.zA cs us).getD i 0=1:=λz=>bx (by rw[z]);refine⟨s2,?_⟩;rw[HB,q00 bx,append_nil]
  .rintro zs H2 ⟨s2,rfl⟩ l hl;have t2:=s1.trans s2;exact q l _ (t2.aB hl) (t2.free hl) ze
inductive Pa (K:Frag)(vs:List V)(H:Hp)(Q:VK)(E:XK):Prop|mk(a b:Addr)(c:Int)(S:Sh):vs=[.ref a,.ref b,.int c]->Refs K (IL K) H a S.ao->ai K H b (S.aa.map V.int)->S.Ok->c.natAbs<=1000->(∀H',ae H H'->Q (.str (S.aA (.row c))) H')->Pa K vs H Q E
theorem kP(F:aL K "_law_row" "_law_row" ND f fd)(T:Txt K mg)(vZ:aK P w K mg base 2 "_law_spots" yP (wB K))(ZW:aK P w K mg base 2 "_law_line" Iw (OV K)):ar P w K mg base aX 3 f fd IK (Pa K):=by
 refine F.ok Yh ?_ ?_
 .rintro _ _ _ _⟨a,b,c,S,rfl,_⟩;rfl
 .rintro aG A outer s H vs Q E hr⟨a,b,c,S,rfl,hA,hB,ok,hc,q⟩;refine⟨_,(zc (zw (zk (WE hr.bp) (pv 0) (zF zb) (zl _)) (zd (zi zp)) zm)
   (zc (zw (zk yz (pv 2) (pv 1) (by first | exact zl _ | rfl)) (zd (zi zp)) zm)
   (zd (zi (zh ZW (hM hr) rfl (za (zB zv (zh vZ (hM hr) rfl (za (pv 0) (za (pv 1) zb))) (wb PySem.F.plainAttrs_list PySem.F.slot_list_index PySem.F.type_list_index Bj (pv 1) (za (pv 2) zb)) (λ_ _=>rfl)) (za (pv 2) (za (pv 0) (za (yj T.ay (pv 1)) zb))))))))),?_⟩
  have bY:=zq;obtain⟨ls,hl,hR⟩:=id hA;have vV:=hR.length;have fT:=Sh.aI S;have cQ:=ok.cQ;have gf:S.handed.length<=15:=q38 (q09 _ _) ok.dw;refine⟨_,rfl,(by decide),λl1 c9=>?_⟩;have s1:=ae.new (o:=.lst []) c9;refine⟨a,l1,_,rfl,rfl,s1.seq hl,ai.new,_,rfl,?_⟩;rw[q06,vV,fT];refine yO (λh0=>?_) (λh0=>?_)
  .have:=q _ s1;unfold Sh.aA at this;rw[show S.bJ (.row c)=some ("TooFewCards":Str)from q01 h0]at this;exact this
  refine⟨_,rfl,_,rfl,b,_,rfl,.inl (s1.seq hB),rfl,zC _,_,rfl,?_⟩;rw[Ct];refine yn (λhm=>?_) (λhm=>?_)
  .have:=q _ s1;unfold Sh.aA at this;rw[show S.bJ (.row c)=some ("UnknownCouple":Str)by show(if S.handed.length=0 then _ else _)=_;rw[q00 h0,q00 hm]]at this;exact this
  have oA:∀u∈S.aa,∀d∈S.ao,u∈d:=λu hu d hd=>(Sh.aM ok d hd).mem_iff.mpr hu;refine⟨_,rfl,_,rfl,a,b,S.ao,S.aa,rfl,Refs.same (IL.stays K) s1 hA,s1.seq hB,by lia,by lia,oA,λl2 H2 s2 f2 e2=>?_⟩;have t2:=s1.trans s2;have h1:1<=S.ao.length:=by lia
  have gO:=idxOf_lt_length_of_mem hm;have Pb:fC ((M5.E8 S.ao S.aa).map V.int) (S.aa.idxOf c:Int)=some (.int (M6.dC S.ao S.aa c)):=by
   rw[M6.E9 (Sh.aM ok) h1];have:=zP (oQ (ns:=M6.zA S.ao S.aa) (i:=S.aa.idxOf c) (by rw[M6.yW];exact gO));rw[M6.SW gO,M6.MC hm]at this;exact this
  refine⟨_,rfl,.inl ⟨rfl,_,t2.seq hB⟩,_,rfl,b,_,_,rfl,rfl,t2.seq hB,rfl,zC _,(by rw[wm,q06];exact gO),l2,_,_,.int (M6.dC S.ao S.aa c),rfl,rfl,ai.of e2,(by rw[wm];exact Pb),_,rfl,_,rfl,_,rfl,b,_,rfl,.inl (t2.seq hB),?_⟩;rw[q06]
  .have hp:=M6.CN (cs:=S.ao) hm;refine⟨_,c,a,S.ao,S.aa.length,rfl,Refs.same (IL.stays K) t2 hA,by lia,λd hd=>oA c hm d hd,?_,by lia,by lia,hc,λH3 s3=>?_⟩
   .intro x hx;have:=M6.yA (Sh.aM ok) hm x hx;lia
   .have:=q _ (t2.trans s3);unfold Sh.aA at this;rw[show S.bJ (.row c)=none by show(if S.handed.length=0 then _ else _)=_;rw[q00 h0,q01 hm]]at this;exact this
inductive Pc (K:Frag)(vs:List V)(H:Hp)(Q:VK)(E:XK):Prop|mk(a b:Addr)(w:Nat)(c:Int)(S:Sh):vs=[.ref a,.ref b,.int w,.int c]->Refs K (IL K) H a S.rows->ai K H b (S.aa.map V.int)->S.Ok->w<S.af.length->(S.card (S.af.getD w "")).isSome=true->(∀H',ae H H'->Q (.str (S.aA (.dy (S.af.getD w "") c))) H')->Pc K vs H Q E
theorem ZX(F:aL K "_law_step" "_law_step" NF f fd)(T:Txt K mg)(vZ:aK P w K mg base 2 "_law_spots" yP (wB K))(FX:aK P w K mg base 2 "_law_spot_text" yE (wg K))(ZY:aK P w K mg base 1 "_law_moved" HW (Ol K)):ar P w K mg base aX 3 f fd IM (Pc K):=by
 refine F.ok IP ?_ ?_
 .rintro _ _ _ _⟨a,b,w,c,S,rfl,_⟩;rfl
 .rintro aG A outer s H vs Q E hr⟨a,b,w,c,S,rfl,hA,hB,ok,hw,hs,q⟩;refine⟨_,(zc (zt (i:=4) IP.nd rfl (Or.inl rfl) (zB zv (pv 0) (pv 2) (λ_ _=>rfl)))
   (zc (zw (zk yz (pv 3) (pv 1) (by first | exact zl _ | rfl)) (zd (zi zp)) zm)
   (zc (zt (i:=5) IP.nd rfl (Or.inl rfl) (wb PySem.F.plainAttrs_list PySem.F.slot_list_index PySem.F.type_list_index Bj (pv 4) (za (pv 3) zb)))
   (zc (zw (zk yB (pv 5) zg (zl _)) (zd (zi zp)) zm)
   (zc (zt (i:=6) IP.nd rfl (Or.inl rfl) (zh vZ (hM hr) rfl (za (zh ZY (hM hr) rfl (za (pv 0) (za (pv 2) (za (pv 5) zb)))) (za (pv 1) zb))))
   (zd (zi (zo zx (zo zx (zG Ky (by rfl) T.b8 boot_str (za (zB zv (pv 4) (zo tZ (pv 5) zg) (λ_ _=>rfl)) zb)) zp) (zh FX (hM hr) rfl (za (pv 6) (za (pv 1) zb))))))))))),?_⟩
  have bY:=zq;have cQ:=ok.cQ;have dw:=ok.dw;have oB:=Sh.bq S;obtain⟨m,em,rm⟩:=hA.choose_spec.2.at (i:=w) (by lia) [];obtain⟨ls,hl,hR⟩:=id hA;obtain⟨m,em,rm⟩:=hR.at (i:=w) (by lia) [];have De:=Sh.eA S hw;generalize hj:S.af.getD w ""=j at hs q De;obtain⟨d,hd⟩:=Option.isSome_iff_exists.mp hs;have Bb:S.rows.getD w []=d:=by rw[De,hd];rfl
  rw[Bb]at rm;obtain⟨mq,iz⟩:=ok.cd j d hd;have xR:=iz.length_eq;have BX:d.Nodup:=iz.nodup_iff.mpr ok.nd;have Pd:¬S.card j=none:=by rw[hd];exact λz=>by cases z
  refine⟨_,rfl,_,rfl,a,_,_,_,rfl,rfl,hl,zP (wM em),?_⟩;refine⟨_,rfl,_,rfl,b,_,rfl,.inl hB,rfl,zC _,_,rfl,?_⟩;rw[Ct];refine yn (λhm=>?_) (λhm=>?_)
  .have:=q _ (ae.refl _);unfold Sh.aA at this;rw[show S.bJ (.dy j c)=some ("UnknownCouple":Str)by show(if j∈S.af then _ else _)=_;rw[q01 mq,q00 Pd,q00 hm]]at this;exact this
  have fB:c∈d:=iz.mem_iff.mpr hm;have gO:=idxOf_lt_length_of_mem fB;have Df:d.getD (d.idxOf c) 0=c:=M6.MC fB;refine⟨_,rfl,.inl ⟨rfl,_,rm⟩,_,rfl,m,_,_,rfl,rfl,rm,rfl,zC _,(by rw[wm,q06];exact gO),?_⟩;rw[wm];refine⟨_,rfl,rfl,_,rfl,yO (λh0=>?_) (λh0=>?_)⟩
  .have h0:d.idxOf c=0:=by injection h0 with h0;lia
   have:=q _ (ae.refl _);unfold Sh.aA at this;rw[show S.bJ (.dy j c)=some ("AtTop":Str)by show(if j∈S.af then _ else _)=_;rw[q01 mq,q00 Pd,q01 hm,q01 (by rw[hd];show d.getD 0 0=c;rw[<-h0];exact Df)]]at this;exact this
  have h0:0<d.idxOf c:=by
   by_cases z:d.idxOf c=0
   .exact q02 (by rw[z];rfl) h0
   .lia
  have BY:S.bJ (.dy j c)=none:=by
   show(if j∈S.af then _ else _)=_;rw[q01 mq,q00 Pd,q01 hm,q00];rw[hd];intro z;have z:d.getD 0 0=c:=z;have FY:0<d.length:=by lia
   have:d.idxOf c=0:=by
    rw[<-z,show d.getD 0 0=d[0] by rw[q18,q31 FY];rfl];exact BX.idxOf_getElem 0 FY
   lia
  have Up:=Sh.iP ok hw (d:=fZ d (d.idxOf c)) ((MB h0 gO).trans iz) (by rw[hj];exact hs);rw[hj]at Up;refine⟨_,rfl,_,rfl,_,rfl,a,S.rows,w,d.idxOf c,rfl,hA,by lia,by lia,h0,by rw[Bb];exact gO,by rw[Bb];lia,λl2 H2 s2 f2 r2=>?_⟩;rw[Bb,<-Up]at r2;have hcu:=Sh.dS S j (fZ d (d.idxOf c));have gf:S.handed.length<=15:=q38 (q09 _ _) dw;have JQ:1<=S.handed.length:=q30 (q24.mpr ⟨mq,hs⟩);have Uq:=Sh.fg ok (j:=j) ((MB h0 gO).trans iz);refine⟨_,rfl,l2,b,_,S.aa,rfl,r2,s2.seq hB,by lia,by lia,λu hu e he=>(Uq e he).mem_iff.mpr hu,λl3 H3 s3 f3 e3=>?_⟩;rw[M6.E9 Uq (by lia)]at e3;have t3:=s2.trans s3;have vY:1<=d.getD (d.idxOf c-1) 0/\d.getD (d.idxOf c-1) 0<=999:=by
   have gS:d.idxOf c-1<d.length:=by lia
   rw[show d.getD (d.idxOf c-1) 0=d[d.idxOf c-1] by rw[q18,q31 gS];rfl];exact ok.cO _ (iz.mem_iff.mp (q44 gS))
  have uz:=M6.Tp (cs:=S.bh j (fZ d (d.idxOf c))) ok.cO (by lia);have Ao:=M6.yp vY;have Pe:(Str.ofString " | ").length=3:=by decide +kernel
  unfold tN at Ao;refine⟨_,rfl,_,rfl,_,_,rfl,rfl,m,_,_,.int (d.getD (d.idxOf c-1) 0),rfl,rfl,t3.seq rm,?_,_,rfl,yJ (by lia),_,_,rfl,rfl,?_,_,rfl,_,rfl,l3,b,_,S.aa,rfl,ai.of e3,t3.seq hB,by lia,ok.cO,λH4 s4=>⟨_,_,rfl,rfl,?_,?_⟩⟩
  .rw[show((d.idxOf c:Nat):Int)-1=((d.idxOf c-1:Nat):Int)by lia];exact zP (oQ (by lia))
  .show(Str.ofString (toString (d.getD (d.idxOf c-1) 0))).length+(Str.ofString " | ").length<=sizeLine
   lia
  .rw[zu,Pe];show(Str.ofString (toString (d.getD (d.idxOf c-1) 0))).length+3+(M6.n8 (S.bh j (fZ d (d.idxOf c))) S.aa).length<=sizeLine
   lia
  .have:=q _ (t3.trans s4);unfold Sh.aA at this;rw[BY]at this;have e:S.kB (.dy j c)=tN (d.getD (d.idxOf c-1) 0)++Str.ofString " | " ++ M6.n8 (S.bh j (fZ d (d.idxOf c))) S.aa:=by
    show Fn ((S.card j).getD []) c (M6.n8 (S.bh j (fZ ((S.card j).getD []) (((S.card j).getD []).idxOf c))) S.aa)=_;rw[hd];rfl
   rw[e]at this;exact this
inductive Pf (K:Frag)(vs:List V)(H:Hp)(Q:VK)(E:XK):Prop|mk(a:Addr)(ms:List Int)(n:Int):vs=[.ref a,.int n]->ai K H a (ms.map V.int)->ms.length<=1000->0<=n->n<=1000->(∀(l:Addr)(H':Hp)(ls:List Addr),ae H H'->H l=none->H' l=some (.lst (ls.map V.ref))->All2 (gD K H') ls (M6.oW ms n.toNat)->Q (.ref l) H')->Pf K vs H Q E
theorem ZZ(F:aL K "ladder_of" "ladder_of" IQ f fd)(T:Txt K mg)(oZ:aK P w K mg base 2 "granted" BR (Dd K))(BZ:aK P w K mg base 2 "granted_sum" wq (wZ K)):ar P w K mg base aX 3 f fd IS (Pf K):=by
 refine F.ok Yi ?_ ?_
 .rintro _ _ _ _⟨a,ms,n,rfl,_⟩;rfl
 .rintro aG A outer s H vs Q E hr⟨a,ms,n,rfl,hS,hz,h0,h1,q⟩;refine⟨_,(zd (zi (zQ (show ak (zf IQ) ["marks","last"] "number" ["marks"] [0] _ from cZ) rfl (AW rfl T.aT (za zg (za (zo yg (pv 1) zg) zb))) (λ_ _ _ _ _=>yk) (λ_ _ _ _ _=>(mP (za (zh oZ (hM hr) rfl (za (pv 1) (za (pv 0) zb))) (za (zh BZ (hM hr) rfl (za (pv 1) (za (pv 0) zb))) zb))))))),?_⟩;refine⟨_,rfl,_,_,rfl,rfl,_,_,rfl,⟨by lia,by lia,by lia,by lia⟩,?_⟩;have en:(n+1-1).toNat=n.toNat:=by lia
  rw[en];refine Li (λi ys H2=>∃ks:List Addr,ys=ks.map V.ref/\ae H H2/\All2 (gD K H2) ks (M6.oW ms i)) ⟨[],rfl,ae.refl _,.nil⟩ ?_ (by have:=zq;lia) ?_ ?_
  .rintro i ys H2 hi ⟨ks,rfl,s2,r2⟩;have:=r2.length;rw[M6.HA]at this;rw[q06]
   lia
  .rintro i ys H2 hi ⟨ks,rfl,s2,r2⟩;refine⟨_,rfl,_,rfl,a,ms,_,rfl,s2.seq hS,hz,λH3 s3=>?_⟩;refine⟨_,rfl,_,rfl,a,ms,_,rfl,(s2.trans s3).seq hS,hz,λH4 s4=>?_⟩;refine⟨by show 2<=sizeLine;decide,λt ht=>?_⟩;have s5:=(s2.trans s3).trans s4;refine⟨ks++[t],by rw[q07];rfl,s5.aB ht,?_⟩;rw[M6.SO,Int.add_comm (i:Int) 1];exact(r2.imp λ_ _=>gD.stays K _ _ _ _ ((s3.trans s4).aB ht)).snoc (show gD K _ t _ from bX.new)
  .rintro ys H2 ⟨ks,rfl,s2,r2⟩ l hl;refine q l _ ks (s2.aB hl) ?_ ze (r2.imp λ_ _=>gD.stays K _ _ _ _ (ae.new hl));cases e:H l with
   | none=>rfl
   | some u=>have:=s2 l u e;rw[hl]at this;cases this
def Pg:Option Int->V
 | none=>.bH
 | some n=>.int n
inductive JR (K:Frag)(vs:List V)(H:Hp)(Q:VK)(E:XK):Prop|mk(a b:Addr)(ms us:List Int)(f:Int):vs=[.ref a,.ref b]->ai K H a (ms.map V.int)->ai K H b (us.map V.int)->1<=ms.length->ms.length<=60->us.length<=60->((∀x∈ms,1<=x/\x<=24))->((∀x∈us,1<=x/\x<=24))->M3.dQ ms f->M3.dQ us f->(∀(r:Option Int)(H':Hp),ae H H'->M6.Fb ms us f r->Q (Pg r) H')->JR K vs H Q E
theorem Z0(F:aL K "unlike_at" "unlike_at" NG f fd)(T:Txt K mg)(oZ:aK P w K mg base 2 "granted" BR (Dd K))(BZ:aK P w K mg base 2 "granted_sum" wq (wZ K))(tJ:aK P w K mg base 2 "first_number" ["marks"] (wJ K)):ar P w K mg base aX 3 f fd Fz (JR K):=by
 refine F.ok TV ?_ ?_
 .rintro _ _ _ _⟨a,b,ms,us,f,rfl,_⟩;rfl
 .rintro aG A outer s H vs Q E hr⟨a,b,ms,us,f,rfl,hA,hB,h1,hz,He,hm,hu,fF,fG,q⟩;refine⟨_,(zc (wd PassesOwn.never rfl (AW rfl T.aT (za (zh tJ (hM hr) rfl (za (pv 0) zb)) (za (zo yg (zN (WB rfl) (by rfl) T.Fo boot_max (za (zo vt (pv 0) (pv 1)) zb)) zg) zb))) (zM (i:=2) TV.nd rfl (Or.inl rfl))
   (zc (qK (zw (zk gv (zh oZ (hM hr) rfl (za (pv 0) (za (pv 2) zb))) (zh oZ (hM hr) rfl (za (pv 1) (za (pv 2) zb))) (zl _)) (zd (zi (pv 2))) zm))
   (zd (qK (zw (zk gv (zh BZ (hM hr) rfl (za (pv 0) (za (pv 2) zb))) (zh BZ (hM hr) rfl (za (pv 1) (za (pv 2) zb))) (zl _)) (zd (zi (pv 2))) zm)))))
   (zd (zi Ci))),?_⟩
  have bY:=zq;have bx:ms≠[]:=by intro z;rw[z]at h1;simp at h1
  refine⟨_,rfl,a,ms,rfl,hA,bx,hz,hm,λH1 f' s1 uC=>?_⟩;have ef:=M3.E5 uC fF;subst ef;refine⟨_,rfl,_,rfl,a,b,_,_,rfl,rfl,s1.seq hA,s1.seq hB,(by rw[q06,q06];lia),λl hl=>?_⟩;rw[<-q07];refine⟨l,ms++us,rfl,ai.new,(by rw[q08];lia),λM hM Ur=>?_⟩;have hMr:1<=M/\M<=24:=by
   rcases List.mem_append.mp hM with z | z
   .exact hm M z
   .exact hu M z
  have Us:∀x∈ms,x<=M:=λx hx=>Ur x (mem_append_left _ hx);have Z1:∀x∈us,x<=M:=λx hx=>Ur x (mem_append_right _ hx);have FZ:=M3.E6 uC 1 M λx hx=>⟨(hm x hx).1,Us x hx⟩;refine⟨_,_,rfl,rfl,_,_,rfl,⟨by lia,by lia,by lia,by lia⟩,?_⟩;generalize OX:upd H1 l _=H2;have s2:ae H H2:=by rw[<-OX];exact s1.aB hl
  refine ym (λi σ H3=>∃v,σ=[some (.ref a),some (.ref b),v]/\ae H H3/\∀j,f'<=j->j<f'+i->M3.cnt ms j=M3.cnt us j/\M3.sm ms j=M3.sm us j) ⟨_,rfl,s2,λj j1 j2=>by lia⟩ ?_ ?_
  .rintro i σ H3 hi ⟨v,rfl,s3,hj⟩;refine⟨λσ' H'=>σ'=[some (.ref a),some (.ref b),some (.int (f'+i))]/\ae H H'/\M3.cnt ms (f'+i)=M3.cnt us (f'+i),?_,?_⟩
   .refine⟨_,rfl,_,rfl,a,ms,_,rfl,s3.seq hA,by lia,λH4 s4=>?_⟩;refine⟨_,rfl,_,rfl,b,us,_,rfl,(s3.trans s4).seq hB,by lia,λH5 s5=>?_⟩;refine⟨rfl,_,rfl,yn (λbx=>?_) (λhe=>?_)⟩
    .refine⟨_,rfl,q (some (f'+i)) _ ((s3.trans s4).trans s5) ⟨by lia,by lia,hj,λz=>bx (by rw[z.1])⟩⟩
    .refine⟨rfl,(s3.trans s4).trans s5,?_⟩;injection he with he
     lia
   .rintro σ' H' ⟨rfl,s4,Ph⟩;refine⟨λσ' H'=>σ'=[some (.ref a),some (.ref b),some (.int (f'+i))]/\ae H H'/\M3.sm ms (f'+i)=M3.sm us (f'+i),?_,?_⟩
    .refine⟨_,rfl,_,rfl,a,ms,_,rfl,s4.seq hA,by lia,λH5 s5=>?_⟩;refine⟨_,rfl,_,rfl,b,us,_,rfl,(s4.trans s5).seq hB,by lia,λH6 s6=>?_⟩;refine⟨rfl,_,rfl,yn (λbx=>?_) (λhe=>?_)⟩
     .refine⟨_,rfl,q (some (f'+i)) _ ((s4.trans s5).trans s6) ⟨by lia,by lia,hj,λz=>bx (by rw[z.2])⟩⟩
     .refine⟨rfl,(s4.trans s5).trans s6,?_⟩;injection he with he
    .rintro σ' Of ⟨rfl,s5,B0⟩;refine⟨_,rfl,s5,λj j1 j2=>?_⟩;by_cases c:j<f'+i
     .exact hj j j1 c
     .have:j=f'+i:=by lia
      subst this;exact⟨Ph,B0⟩
  .rintro σ H3 ⟨v,rfl,s3,hj⟩;exact q none _ s3 (M6.kh Us Z1 FZ.2 λj j1 j2=>hj j j1 (by lia))
inductive JS (K:Frag)(vs:List V)(H:Hp)(Q:VK)(E:XK):Prop|mk(p:Addr)(F:Addr->Prop)(S:Sh)(j:Str):vs=[.ref p,.str j]->aq K H p F S->(∀(l:Addr)(H':Hp)(ks:List Addr),ae H H'->H l=none->H' l=some (.lst (ks.map V.ref))->All2 (IL K H') ks (S.aS j)->Q (.ref l) H')->JS K vs H Q E
theorem Z2(F:aL K "cards_without" "cards_without" IT f fd)(T:Txt K mg)(oz:bE P w K mg base 1 (zK K "Sheet") "handed" zV (yc K))(oY:bL P w K mg base 2 (zK K "Sheet") "card_of" zW (yd K)):ar P w K mg base aX 3 f fd wp (JS K):=by
 refine F.ok Yj ?_ ?_
 .rintro _ _ _ _⟨p,F,S,j,rfl,_⟩;rfl
 .rintro aG A outer s H vs Q E hr⟨p,F,S,j,rfl,aR,q⟩;refine⟨_,(zd (zi (zQ (show ak (zf IT) ["sheet","judge"] "other" ["sheet","judge"] [0,1] _ from cZ) rfl (zz (zI oz T.ah (hM hr) (pv 0))) (λ_ _ _ _ _=>(yI (zk gv (pv 0) (pv 2) (zl _)))) (λ_ _ _ _ _=>(wS oY T.ah xP (hM hr) (pv 1) (za (pv 0) zb)))))),?_⟩;have bY:=zq;have gf:=aR.ok.dw;obtain⟨dx,b1,b2,b3,d,bT⟩:=aR.ins;refine⟨_,rfl,p,dx,_,rfl,bT,rfl,p,F,S,rfl,aR.shape,gf,λa H1 s1 f1 e1=>?_⟩;have cX:S.handed.length<=15:=q38 (q09 _ _) gf;refine⟨a,rfl,⟨_,ai.of e1⟩,?_⟩;refine yN (xs:=S.handed.map V.str) (λi ys H2=>∃ks:List Addr,ys=ks.map V.ref/\ae H1 H2/\All2 (IL K H2) ks (((S.handed.take i).filter λi => !decide (i=j)).map λi=>(S.card i).getD [])) ⟨[],rfl,ae.refl _,.nil⟩ ?_ (by rw[q06];lia) ?_ ?_
  .rintro i ys H2 hi ⟨ks,rfl,s2,r2⟩;refine⟨s2.seq (ai.of e1),?_⟩;have h3:=r2.length;have h4:=q09 (λi => !decide (i=j)) (S.handed.take i);rw[q06]at h3;rw[q11]at h4;rw[q06]
   lia
  .rintro i x ys H2 hx ⟨ks,rfl,s2,r2⟩;obtain⟨hi,rfl⟩:=Bu hx;have hm:=q24.mp (show S.handed.getD i "" ∈ S.af.filter λj=>(S.card j).isSome from vk hi);have cN:=s1.trans s2;refine⟨_,rfl,_,rfl,rfl,_,rfl,yn (λbx=>?_) (λhe=>?_)⟩
   .have bx:¬S.handed.getD i ""=j:=λz=>bx (by rw[z]);cases e:S.card (S.handed.getD i "")with
    | none=>rw[e]at hm;exact q02 hm.2 q23
    | some c =>
      refine⟨_,rfl,p,dx,_,rfl,cN _ _ bT,rfl,_,rfl,p,F,S,_,rfl,aR.same cN,λhj=>q02 hm.1 hj,(λ_ z=>by rw[e]at z;cases z),λc' e' l H3 s3 f3 e3=>?_⟩;rw[e]at e';cases e';refine⟨ks++[l],by rw[q07];rfl,s2.trans s3,?_⟩;rw[yw hi,q16,q17,q01 (by rw[q20 bx];rfl),q07];refine(r2.imp λ_ _=>IL.stays K _ _ _ _ s3).snoc ?_;show IL K H3 l ((S.card (S.handed.getD i "")).getD []);rw[e];exact ai.of e3
   .have he:S.handed.getD i ""=j:=by injection he
    refine⟨ks,rfl,s2,?_⟩;rw[yw hi,q16,q17,q00 (by rw[q19 he];decide),filter_nil,append_nil];exact r2
  .rintro ys H2 ⟨ks,rfl,s2,r2⟩ l hl;rw[q06,q15]at r2;have cN:=s1.trans s2;exact q l _ ks (cN.aB hl) (cN.free hl) ze (r2.imp λ_ _=>IL.stays K _ _ _ _ (ae.new hl))
inductive Pj (K:Frag)(vs:List V)(H:Hp)(Q:VK)(E:XK):Prop|mk(n:Int):vs=[.str (M20.gk n)]->(1<=n/\n<=999)->(∀H',ae H H'->Q (.int n) H')->Pj K vs H Q E
theorem Z3(F:aL K "read_couple" "read_couple" NH f fd)(T:Txt K mg)(Z4:aK P w K mg base 2 "couple_word" ["word"] (OZ K)):ar P w K mg base aX 3 f fd ["word"] (Pj K):=by
 refine F.ok Yk ?_ ?_
 .rintro _ _ _ _⟨n,rfl,_⟩;rfl
 .rintro aG A outer s H vs Q E hr⟨n,rfl,hn,q⟩;refine⟨_,(zc (zw (wv (yL (zh Z4 (hM hr) rfl (za (pv 0) zb)))) (zd yx) zm)
   (zd (zi (zG WC (by rfl) T.Ai boot_int (za (pv 0) zb))))),?_⟩
  refine⟨_,rfl,_,rfl,M20.ML hn,λH1 s1=>⟨_,rfl,fP ?_⟩⟩;exact⟨_,rfl,_,n,rfl,M20.ku hn,by have:=(M20.ML hn).len;lia,q _ s1⟩
inductive Pk (K:Frag)(vs:List V)(H:Hp)(Q:VK)(E:XK):Prop|mk(a:Addr)(ts:List Str):vs=[.ref a]->ai K H a (ts.map V.str)->ts.length<4000->((∀z∈ts,z.length<=1000))->(∀H',ae H H'->Q (.bl (M2.uq ts)) H')->Pk K vs H Q E
theorem Z5(F:aL K "good_judges" "good_judges" IU f fd)(T:Txt K mg)(Z6:aK P w K mg base 2 "good_name" ["judge"] (O2 K))(FW:aK P w K mg base 1 "good_length" wa (wU K))(O1:aK P w K mg base 1 "all_unlike" ["things"] (JF K)):ar P w K mg base aX 3 f fd ["judges"] (Pk K):=by
 refine F.ok Yl ?_ ?_
 .rintro _ _ _ _⟨a,ts,rfl,_⟩;rfl
 .rintro aG A outer s H vs Q E hr⟨a,ts,rfl,hS,hz,ht,q⟩;refine⟨_,(zd (zi (pB (zh FW (hM hr) rfl (za (pv 0) (za (Cs T.ig rfl) zb))) (pB (zh O1 (hM hr) rfl (za (pv 0) zb)) (Cj (zN (G9 rfl) (by rfl) T.mn boot_all (za (zQ (show ak (zf IU) ["judges"] "judge" [] [] _ from cZ) rfl (zz (pv 0)) (λ_ _ _ _ _=>yk) (λ_ _ _ _ _=>(zh Z6 (hM hr) rfl (za (pv 0) zb)))) zb))))))),?_⟩;refine⟨_,rfl,_,_,_,rfl,.inl ⟨_,hS,rfl⟩,_,rfl,?_⟩;rw[q06];unfold M2.uq at q;refine vf (λh1=>?_) (λh1=>?_)
  .rw[h1,Bool.true_and]at q;refine⟨_,rfl,a,rfl,.inr ⟨ts,hS,hz,_,rfl,yO (λh2=>?_) (λh2=>?_)⟩⟩
   .rw[q19 h2,Bool.true_and]at q;refine⟨_,rfl,a,rfl,⟨_,hS⟩,?_⟩;refine zU (xs:=ts.map V.str) (λi ys H2=>ae H H2/\ys=((ts.take i).map M2.rY).map V.bl) ⟨ae.refl _,rfl⟩ ?_ (by rw[q06];have:=zq;lia) ?_ ?_
    .rintro i ys H2 hi ⟨s2,rfl⟩;exact⟨s2.seq hS,by simp only[q06,q11];lia⟩
    .rintro i x ys H2 hx ⟨s2,rfl⟩;obtain⟨hi,rfl⟩:=Bu hx;refine⟨_,rfl,_,rfl,ht _ (vk hi),λH3 s3=>⟨s2.trans s3,?_⟩⟩;rw[yw hi,q07,q07];rfl
    .rintro ys H2 ⟨s2,rfl⟩ l hl;rw[q06,q15];exact⟨l,_,rfl,ai.new,q _ (s2.aB hl)⟩
   .rw[q20 h2,Bool.false_and]at q;exact q _ (ae.refl _)
  .rw[h1,Bool.false_and]at q;exact q _ (ae.refl _)
inductive Pl (K:Frag)(vs:List V)(H:Hp)(Q:VK)(E:XK):Prop|mk(a b:Addr) (cs:List (List Int)):vs=[.ref a,.ref b]->Refs K (IL K) H a cs->Refs K (IL K) H b cs->cs.length<=1000->((∀d∈cs,d.length<=1000))->Q (.bl true) H->Pl K vs H Q E
theorem Z7(F:aL K "_law_lists" "_law_lists" NI f fd)(T:Txt K mg)(F0:aK P w K mg base 2 "_law_same" Fx (JM K)):ar P w K mg base aX 3 f fd IV (Pl K):=by
 refine F.ok TX ?_ ?_
 .rintro _ _ _ _⟨a,b,cs,rfl,_⟩;rfl
 .rintro aG A outer s H vs Q E hr⟨a,b,cs,rfl,⟨ls,hA,rA⟩,⟨ks,hB,rB⟩,hz,hd,q⟩;refine⟨_,(zc (zw (PW.pt (xo (wv (yL (zN Lf (by rfl) T.aZ boot_isinstance (za (pv 0) (za (xm (v:=V.ty "list") rfl T.bQ boot_list rfl) zb))))) (xn (zk gv (yj T.ay (pv 0)) (yj T.ay (pv 1)) (zl _))))) (zd (zi gX)) zm)
   (zc (wd PassesOwn.never rfl (yD rfl T.aT (za (yj T.ay (pv 1)) zb)) (zM (i:=2) TX.nd rfl (Or.inl rfl))
     (zd (zw (wv (yL (zh F0 (hM hr) rfl (za (zB zv (pv 0) (pv 2) (λ_ _=>rfl)) (za (zB zv (pv 1) (pv 2) (λ_ _=>rfl)) zb))))) (zd (zi gX)) zm)))
   (zd (zi gX)))),?_⟩
  have la:=rA.length;have lb:=rB.length;refine⟨_,rfl,_,_,rfl,.yes hA,_,rfl,fP ?_⟩;refine⟨_,rfl,a,_,rfl,.inl hA,_,rfl,b,_,rfl,.inl hB,rfl,_,rfl,?_⟩;rw[q06,q06];refine yn (λbx=>q02 (by rw[la,lb]) bx) (λhe=>?_);refine⟨_,rfl,b,_,rfl,.inl hB,_,rfl,by lia,by rw[q06];lia,?_⟩;rw[q06];refine ym (λi σ H2=>∃v,σ=[some (.ref a),some (.ref b),v]/\H2=H) ⟨_,rfl,rfl⟩ ?_ ?_
  .rintro i σ H2 hi ⟨v,rfl,rfl⟩;have uj:i<cs.length:=by rw[<-lb];simpa using hi
   obtain⟨l,el,rl⟩:=rA.get (q31 uj);obtain⟨k,ek,rk⟩:=rB.get (q31 uj);have e1:fC (ls.map V.ref) (0+(i:Int))=some (.ref l):=by rw[Int.zero_add];exact zP (wM el)
   have e2:fC (ks.map V.ref) (0+(i:Int))=some (.ref k):=by rw[Int.zero_add];exact zP (wM ek)
   refine⟨_,rfl,_,rfl,a,_,_,_,rfl,rfl,hA,e1,_,rfl,_,rfl,b,_,_,_,rfl,rfl,hB,e2,l,k,_,_,rfl,rl,rk,by have:=hd _ (q44 uj);lia,?_⟩;rw[q19 rfl];exact⟨_,rfl,fP ⟨_,rfl,rfl⟩⟩
  .rintro σ H2 ⟨v,rfl,rfl⟩;exact q
inductive Pm (K:Frag)(vs:List V)(H:Hp)(Q:VK)(E:XK):Prop|mk(x dx a b:Addr)(us:List Int)(ts:List Str):vs=[.ref x,.ref a,.ref b]->H x=some (.ins (zK K "Sheet") dx [])->ai K H a (us.map V.int)->us.length<4000->ai K H b (ts.map V.str)->ts.length<4000->((∀z∈ts,z.length<=1000))->((M1.oV us=false->∀C H',aj K "BadCouples" C->ae H H'->E (.ref C) none H'))->((M1.oV us=true->M2.uq ts=false->∀C H',aj K "BadJudges" C->ae H H'->E (.ref C) none H'))->((M1.oV us=true->M2.uq ts=true->∀H' F,aq K H' x F (Sh.new us ts)->(∀b o,H b=some o->b≠x->H' b=some o/\¬F b)->Q .bH H'))->Pm K vs H Q E
theorem Z8(F:aL K "__init__" "Sheet.__init__" NJ f fd)(T:Txt K mg)(Z9:aK P w K mg base 2 "good_couples" ["couples"] (O0 K))(c05:aK P w K mg base 3 "good_judges" ["judges"] (Pk K)):ar P w K mg base (dO P w) 4 f fd IW (Pm K):=by
 obtain⟨v9,iW,iX,dq⟩:=T.dq;obtain⟨Ap,jz,jA,dW⟩:=T.dW;refine F.iC Ym ?_ ?_
 .rintro _ _ _ _⟨x,dx,a,b,us,ts,rfl,_⟩;rfl
 .rintro X W aG A outer s H vs Q E hX hW fl md hr⟨x,dx,a,b,us,ts,rfl,hx,hA,hzA,hB,hzB,hzz,qC,qJ,q⟩;subst hX;refine⟨_,(zc (zw (wv (yL (zh Z9 (hM hr) rfl (za (pv 1) zb)))) (zd (wt rfl md rfl iX dq (za zp zb))) zm)
   (zc (zw (wv (yL (zh c05 (hM hr) rfl (za (pv 2) zb)))) (zd (wt rfl md rfl jA dW (za zp zb))) zm)
   (zc (uV (pv 0) (zG yf (by rfl) T.bQ boot_list (za (pv 1) zb)) rfl)
   (zc (uV (pv 0) (zF zb) rfl)
   (zc (uV (pv 0) (zG yf (by rfl) T.bQ boot_list (za (pv 2) zb)) rfl)
   (zc (uV (pv 0) sk rfl)
   (zc (uV (pv 0) zg rfl)
   (zd (uV (pv 0) gX rfl))))))))),?_⟩
  refine⟨_,rfl,a,us,rfl,hA,hzA,λH1 s1=>⟨_,rfl,?_⟩⟩;cases hg:M1.oV us with
  | false=>exact⟨(by show 1<=sizeLine;decide),by rw[hW];exact qC hg _ _ iW s1⟩
  | true =>
    refine⟨_,rfl,b,ts,rfl,s1.seq hB,hzB,hzz,λH2 s2=>⟨_,rfl,?_⟩⟩;have cN:=s1.trans s2;cases hj:M2.uq ts with
    | false=>exact⟨(by show 1<=sizeLine;decide),by rw[hW];exact qJ hg hj _ _ jz cN⟩
    | true =>
      have x2:=cN _ _ hx;have k2:∀c o,H c=some o->c≠x->H2 c=some o:=λc o e _=>cN c o e;refine⟨_,rfl,a,_,rfl,.inl (cN.seq hA),λl1 c9=>?_⟩;have f1:=cN.free c9;obtain⟨x3,e1,n1,k3⟩:=Hx (o:=.lst (us.map V.int)) (u:=.ins (zK K "Sheet") dx [("standing",.ref l1)]) x2 c9;refine⟨_,rfl,x,_,dx,_,rfl,(by rw[zj (zr x2 c9)];exact x2),T.ah,T.aP,(by decide),?_⟩;rw[Xc];generalize jP:upd (upd H2 l1 _) x _=H3 at x3 e1 k3 ⊢;refine⟨(by show 0<=sizeLine;decide),λl2 cX=>?_⟩;obtain⟨x4,e2,n2,k4⟩:=Hx (o:=.lst []) (u:=.ins (zK K "Sheet") dx [("standing",.ref l1),("struck_so_far",.ref l2)]) x3 cX;refine⟨_,rfl,x,_,dx,_,rfl,(by rw[zj (zr x3 cX)];exact x3),T.ah,T.bA,(by show 1<1000;decide),?_⟩;rw[Xd];generalize Ak:upd (upd H3 l2 _) x _=H4 at x4 e2 k4 ⊢;have Pn:∀c o,H c=some o->c≠x->H4 c=some o:=λc o e n=>k4 c o (k3 c o (k2 c o e n) n) n;have hB4:ai K H4 b (ts.map V.str):=by
       rcases hB with(e | ⟨o,e⟩) | e
       .exact .inl (.inl (Pn _ _ e (wn e hx (by intro z;cases z))))
       .exact .inl (.inr ⟨o,Pn _ _ e (wn e hx (by intro z;cases z))⟩)
       .exact .inr e
      refine⟨_,rfl,b,_,rfl,.inl hB4,λl3 eF=>?_⟩;obtain⟨x5,e3,n3,k5⟩:=Hx (o:=.lst (ts.map V.str)) (u:=.ins (zK K "Sheet") dx [("standing",.ref l1),("struck_so_far",.ref l2),("panel",.ref l3)]) x4 eF;refine⟨_,rfl,x,_,dx,_,rfl,(by rw[zj (zr x4 eF)];exact x4),T.ah,T.bZ,(by show 2<1000;decide),?_⟩;rw[Xe];generalize CT:upd (upd H4 l3 _) x _=H5 at x5 e3 k5 ⊢;intro d hd;obtain⟨x6,e4,n4,k6⟩:=Hx (o:=.dK []) (u:=.ins (zK K "Sheet") dx [("standing",.ref l1),("struck_so_far",.ref l2),("panel",.ref l3),("card_by_judge",.ref d)]) x5 hd;refine⟨_,rfl,x,_,dx,_,rfl,(by rw[zj (zr x5 hd)];exact x5),T.ah,T.aE,(by show 3<1000;decide),?_⟩;rw[Xf];generalize Om:upd (upd H5 d _) x _=H6 at x6 e4 k6 ⊢;refine⟨_,rfl,x,_,dx,_,rfl,x6,T.ah,T.aQ,(by show 4<1000;decide),?_⟩;rw[Xg];refine⟨_,rfl,x,_,dx,_,rfl,ze,T.ah,T.bR,(by show 5<1000;decide),?_⟩;rw[Xh,uH];have keep:∀c o,H6 c=some o->c≠x->upd H6 x (.ins (zK K "Sheet") dx (gE l1 l2 l3 d (Sh.new us ts))) c=some o:=λc o e n=>by rw[zj n];exact e
      have g1:H6 l1=some (.lst (us.map V.int)):=k6 _ _ (k5 _ _ (k4 _ _ e1 n1) n1) n1;have g2:H6 l2=some (.lst []):=k6 _ _ (k5 _ _ e2 n2) n2;have g3:H6 l3=some (.lst (ts.map V.str)):=k6 _ _ e3 n3;refine q hg hj (upd H6 x (.ins (zK K "Sheet") dx (gE l1 l2 l3 d (Sh.new us ts)))) (λc=>c=x\/c=l1\/c=l2\/c=l3\/c=d) ⟨dx,l1,l2,l3,d,[],?_⟩ λc o e n=>⟨?_,?_⟩
      .refine⟨⟨ze,keep _ _ g1 n1,keep _ _ g2 n2,keep _ _ g3 n3,keep _ _ e4 n4,zero_le _,λ_ _=>rfl,(λ_ _ z=>nomatch z),.inl rfl,.inr (.inl rfl),.inr (.inr (.inl rfl)),.inr (.inr (.inr (.inl rfl))),.inr (.inr (.inr (.inr rfl))),?_,?_,?_⟩,Sh.Ok.new hg hj⟩
       .exact zr e1 cX
       .exact λz=>zr (k4 _ _ (show H3 l1=_ from e1) n1) eF (by rw[z]at eF;rw[e2]at eF;cases eF)
       .rintro c (rfl | rfl | rfl | rfl | rfl)
        .rw[ze];exact λz=>nomatch z
        .rw[keep _ _ g1 n1];exact λz=>nomatch z
        .rw[keep _ _ g2 n2];exact λz=>nomatch z
        .rw[keep _ _ g3 n3];exact λz=>nomatch z
        .rw[keep _ _ e4 n4];exact λz=>nomatch z
      .exact keep _ _ (k6 _ _ (k5 _ _ (Pn _ _ e n) n) n) n
      .have jn:=k2 _ _ e n;have j4:=k3 _ _ jn n;have Po:=k4 _ _ j4 n;have Ut:=k5 _ _ Po n;rintro (z | z | z | z | z)
       .exact n z
       .rw[z,c9]at jn;cases jn
       .rw[z,cX]at j4;cases j4
       .rw[z,eF]at Po;cases Po
       .rw[z,hd]at Ut;cases Ut
inductive Pq (K:Frag)(vs:List V)(H:Hp)(Q:VK)(E:XK):Prop|mk(p:Addr)(F:Addr->Prop)(S:Sh)(a1 a2 a3 a4:Addr):vs=[.ref p,.ref a1,.ref a2,.ref a3,.ref a4,.int S.taken,.bl S.b7]->aq K H p F S->ai K H a1 (S.af.map V.str)->ai K H a2 (S.aa.map V.int)->ai K H a3 (S.struck.map V.int)->Refs K (IL K) H a4 S.rows->(∀H',ae H H'->Q (.bl true) H')->Pq K vs H Q E
theorem zkc(F:aL K "_law_stands" "_law_stands" CQ f fd)(T:Txt K mg)(O3:aK P w K mg base 1 "_law_whole" Fu (JH K))(F0:aK P w K mg base 2 "_law_same" Fx (JM K))(Uu:aK P w K mg base 1 "_law_texts" Ig (OD K))(c06:aK P w K mg base 3 "_law_lists" IV (Pl K))(gh:bE P w K mg base 1 (zK K "Sheet") "couples" zD (zE K))(c07:bE P w K mg base 1 (zK K "Sheet") "struck" ["self"] (Oa K))(c08:bE P w K mg base 1 (zK K "Sheet") "judges" ["self"] (Ob K))(oz:bE P w K mg base 1 (zK K "Sheet") "handed" zV (yc K))(tK:bE P w K mg base 3 (zK K "Sheet") "cards" yh (yr K))(oY:bL P w K mg base 2 (zK K "Sheet") "card_of" zW (yd K))(c09:bE P w K mg base 1 (zK K "Sheet") "taken" ["self"] (N8 K))(c1a:bE P w K mg base 1 (zK K "Sheet") "is_sealed" ["self"] (N9 K)):ar P w K mg base aX 4 f fd IY (Pq K):=by
 refine F.ok FA ?_ ?_
 .rintro _ _ _ _⟨p,F,S,a1,a2,a3,a4,rfl,_⟩;rfl
 .rintro aG A outer s H vs Q E hr⟨p,F,S,a1,a2,a3,a4,rfl,aR,JT,hA2,hA3,⟨ls,Pr,hR⟩,q⟩;refine⟨_,(zc (zw (PW.pt (xo (wv (yL (zh F0 (hM hr) rfl (za (zI gh T.ah (hM hr) (pv 0)) (za (pv 2) zb))))) (xn (wv (yL (zh F0 (hM hr) rfl (za (zI c07 T.ah (hM hr) (pv 0)) (za (pv 3) zb)))))))) (zd (zi gX)) zm)
   (zc (yu (i:=7) (show ak (zf CQ) IX "_law_k" ["_law_cards"] [4] _ from cZ) rfl FA.nd rfl (Or.inl rfl) (yD rfl T.aT (za (yj T.ay (pv 1)) zb)) (λ_ _ _ _ _=>(yI (zk (ww (K:=K) rfl hr.bp) (zB (xQ (K:=K) rfl) (pv 1) (pv 0) (λ_ _=>rfl)) (zF zb) (zl _)))) (λ_ _ _ _ _=>(pv 0)))
   (zc (zw (PW.pt (xo (wv (yL (zh Uu (hM hr) rfl (za (zI c08 T.ah (hM hr) (pv 0)) (za (pv 1) zb))))) (xn (wv (yL (zh Uu (hM hr) rfl (za (zI oz T.ah (hM hr) (pv 0)) (za (zQ (show ak (zf CQ) IX "_law_k" ["_law_names"] [1] _ from cZ) rfl (zz (pv 7)) (λ_ _ _ _ _=>yk) (λ_ _ _ _ _=>(zB (xQ (K:=K) rfl) (pv 1) (pv 0) (λ_ _=>rfl)))) zb)))))))) (zd (zi gX)) zm)
   (zc (zw (wv (yL (zh c06 (hM hr) rfl (za (zI tK T.ah (hM hr) (pv 0)) (za (zQ (show ak (zf CQ) IX "_law_k" ["_law_cards"] [4] _ from cZ) rfl (zz (pv 7)) (λ_ _ _ _ _=>yk) (λ_ _ _ _ _=>(zB (xQ (K:=K) rfl) (pv 1) (pv 0) (λ_ _=>rfl)))) zb))))) (zd (zi gX)) zm)
   (zc (wd PassesOwn.never rfl (zz (pv 7)) (zM (i:=8) FA.nd rfl (Or.inl rfl))
     (zd (zw (wv (yL (zh F0 (hM hr) rfl (za (wS oY T.ah xP (hM hr) (pv 0) (za (zB zv (pv 1) (pv 8) (λ_ _=>rfl)) zb)) (za (zB zv (pv 4) (pv 8) (λ_ _=>rfl)) zb))))) (zd (zi gX)) zm)))
   (zc (zt (i:=9) FA.nd rfl (Or.inl rfl) (zI c09 T.ah (hM hr) (pv 0)))
   (zc (zt (i:=10) FA.nd rfl (Or.inl rfl) (zI c1a T.ah (hM hr) (pv 0)))
   (zd (zi (pB (zh O3 (hM hr) rfl (za (pv 9) zb)) (pB (oK yB (pv 9) (pv 5) (zl _)) (pB (zN RH (by rfl) T.aZ boot_isinstance (za (pv 10) (za (xm (v:=V.ty "bool") rfl T.tm boot_bool rfl) zb))) (Cj (oK yB (pv 10) (pv 6) (zl _))))))))))))))),?_⟩
  have bY:=zq;have ok:=aR.ok;have cQ:=ok.cQ;have dw:=ok.dw;obtain⟨dx,b1,b2,b3,d,bT⟩:=aR.ins;have oB:=S.bq;have vV:=hR.length;refine⟨_,rfl,p,dx,_,rfl,bT,rfl,p,F,S,rfl,aR,λl1 H1 s1 f1 e1=>?_⟩;refine⟨_,rfl,l1,a2,S.aa,S.aa,rfl,ai.of e1,s1.seq hA2,by lia,?_⟩;rw[q19 rfl];refine⟨_,rfl,fP ?_⟩;refine⟨_,rfl,p,dx,_,rfl,s1 _ _ bT,rfl,p,F,S,rfl,aR.same s1,λl2 H2 s2 f2 e2=>?_⟩;have t2:=s1.trans s2;refine⟨_,rfl,l2,a3,S.struck,S.struck,rfl,ai.of e2,t2.seq hA3,by lia,?_⟩;rw[q19 rfl];refine⟨_,rfl,fP ?_⟩;refine⟨_,rfl,a1,_,rfl,.inl (t2.seq JT),_,rfl,by lia,by rw[q06];lia,?_⟩;rw[q06,show((S.af.length:Nat):Int).toNat=S.af.length by lia];refine Lh (λi ys H3=>ae H2 H3/\ys=(((List.range i).filter λk => !decide (S.rows.getD k []=[])).map fun(k:Nat)=>(k:Int)).map V.int) ⟨ae.refl _,rfl⟩ ?_ (by lia) ?_ ?_
  .rintro i ys H3 hi ⟨s3,rfl⟩;rw[q06,q06];exact q38 (q09 _ _) (by rw[q33];exact le_refl _)
  .rintro i ys H3 hi ⟨s3,rfl⟩;have t3:=t2.trans s3;obtain⟨m,em,rm⟩:=hR.at (i:=i) (by lia) [];refine⟨_,rfl,_,rfl,a4,_,_,_,rfl,rfl,t3.seq Pr,Bl (by lia) (by rw[show((0:Int)+(i:Int)).toNat=i by lia];exact wM em),(by show 0<=sizeLine;decide),λl3 eF=>?_⟩;refine⟨m,l3,_,[],rfl,rfl,(t3.aB eF).seq rm,ai.new,zC _,rfl,_,rfl,?_⟩;rw[show fR ((S.rows.getD i []).map V.int) []=decide (S.rows.getD i []=[])from yU _ []];refine yn (λhb=>?_) (λhb=>?_)
   .refine⟨_,rfl,s3.aB eF,?_⟩;rw[Sy,q00 hb,q07,show(0:Int)+(i:Int)=(i:Int)by lia];rfl
   .refine⟨s3.aB eF,?_⟩;rw[Sy,q01 hb,append_nil]
  .rintro ys H3 ⟨s3,rfl⟩ l3 eF;rw[show(((List.range S.af.length).filter λk => !decide (S.rows.getD k []=[])).map fun(k:Nat)=>(k:Int))=uu S.rows by unfold uu;rw[oB]];have oA:=@Ms S.rows;have Uv:=nJ S.rows;have n1:=Sh.gG ok;have n2:=Sh.kg ok;have n3:=@Sh.sy S ok;generalize uu S.rows=is at oA Uv n1 n2 n3 ⊢;generalize Ak:upd H3 l3 _=H4;have s4:ae H2 H4:=by rw[<-Ak];exact s3.aB eF
   have e3:H4 l3=some (.lst (is.map V.int)):=by rw[<-Ak];exact ze
   have t4:=t2.trans s4;refine⟨_,rfl,p,dx,_,rfl,t4 _ _ bT,rfl,p,F,S,rfl,aR.same t4,λl5 H5 s5 f5 e5=>?_⟩;have t5:=t4.trans s5;refine⟨_,rfl,l5,a1,S.af,S.af,rfl,ai.of e5,t5.seq JT,by lia,?_⟩;rw[q19 rfl];refine⟨_,rfl,fP ?_⟩;refine⟨_,rfl,p,dx,_,rfl,t5 _ _ bT,rfl,p,F,S,rfl,(aR.same t5).shape,dw,λl6 H6 s6 f6 e6=>?_⟩;have t6:=t5.trans s6;have i6:=ai.of (K:=K) (s6 _ _ (s5 _ _ e3));refine⟨_,rfl,l3,rfl,⟨_,i6⟩,?_⟩;refine zU (xs:=is.map V.int) (λi ys H7=>H7=H6/\ys=((is.take i).map λx=>S.af.getD x.toNat "").map V.str) ⟨rfl,rfl⟩ ?_ (by rw[q06];lia) ?_ ?_
   .rintro i ys H7 hi ⟨rfl,rfl⟩;refine⟨i6,?_⟩;rw[q06,q06,q11]
    lia
   .rintro i x ys H7 hx ⟨rfl,rfl⟩;obtain⟨hi,rfl⟩:=yQ hx;have hx:=oA (mV hi);refine⟨_,rfl,_,rfl,a1,_,_,_,rfl,rfl,t6.seq JT,Ez hx.1 (by lia),rfl,?_⟩;rw[yM hi,q07,q07];rfl
   rintro ys H7 ⟨rfl,rfl⟩ l7 kH;rw[q06,q15,n1];generalize JC:upd H7 l7 _=H8;have s8:ae H7 H8:=by rw[<-JC];exact ae.new kH
   have e8:H8 l7=some (.lst (S.handed.map V.str)):=by rw[<-JC];exact ze
   have CU:S.handed.length<=15:=q38 (q09 _ _) dw;refine⟨l6,l7,S.handed,S.handed,rfl,ai.of (s8 _ _ e6),ai.of e8,by lia,?_⟩;rw[q19 rfl];refine⟨_,rfl,fP ?_⟩;have t8:=t6.trans s8;refine⟨_,rfl,p,dx,_,rfl,t8 _ _ bT,rfl,p,F,S,rfl,aR.same t8,λl9 H9 ks s9 f9 e9 r9=>?_⟩;have t9:=t8.trans s9;have i9:=(s8.trans s9).seq i6;refine⟨_,rfl,l3,rfl,⟨_,i9⟩,?_⟩;have Uw:∀x∈is,∃m,ls[x.toNat]? = some m/\IL K H m (S.rows.getD x.toNat []):=λx hx=>hR.at (oA hx).2.1 [];refine zU (xs:=is.map V.int) (λi ys kI=>kI=H9/\∃ms:List Addr,ys=ms.map V.ref/\All2 (IL K H) ms ((is.take i).map λx=>S.rows.getD x.toNat [])) ⟨rfl,[],rfl,.nil⟩ ?_ (by rw[q06];lia) ?_ ?_
   .rintro i ys kI hi ⟨rfl,ms,rfl,oX⟩;refine⟨i9,?_⟩;have:=oX.length;rw[q06,q11]at this;rw[q06]
    lia
   .rintro i x ys kI hx ⟨rfl,ms,rfl,oX⟩;obtain⟨hi,rfl⟩:=yQ hx;have hx:=oA (mV hi);obtain⟨m,em,rm⟩:=Uw _ (mV hi);refine⟨_,rfl,_,rfl,a4,_,_,_,rfl,rfl,t9.seq Pr,Bl hx.1 (wM em),rfl,ms++[m],by rw[q07];rfl,?_⟩;rw[yM hi,q07];exact oX.snoc rm
   rintro ys kI ⟨rfl,ms,rfl,oX⟩ fA fL;rw[q06,q15,n2]at oX;have gm:=ae.new (o:=.lst (ms.map V.ref)) fL;have fT:S.ao.length<=15:=by unfold Sh.ao;rw[q06];exact CU
   refine⟨l9,fA,S.ao,rfl,⟨ks,ai.of (gm _ _ e9),r9.imp λ_ _ z=>ai.of (gm _ _ z.2)⟩,⟨ms,ai.new,oX.imp λ_ _=>IL.stays K _ _ _ _ (t9.trans gm)⟩,by lia,λc hc=>?_,?_⟩
   .unfold Sh.ao at hc;obtain⟨j,hj,rfl⟩:=q25.mp hc;cases e:S.card j with
    | none=>exact zero_le _
    | some c =>
      have:=(ok.cd j c e).2.length_eq;show c.length<=1000
      lia
   refine⟨_,rfl,fP ?_⟩;generalize F5:upd kI fA _=F6 at gm;have Ux:=t9.trans gm;have o6:=gm.seq i9;refine⟨_,rfl,l3,rfl,⟨_,o6⟩,?_⟩;refine GR (xs:=is.map V.int) (λi σ mv=>∃v,σ=[some (.ref p),some (.ref a1),some (.ref a2),some (.ref a3),some (.ref a4),some (.int S.taken),some (.bl S.b7),some (.ref l3),v,none,none]/\ae F6 mv) ⟨_,rfl,ae.refl _⟩ ?_ ?_ ?_
   .rintro i σ mv hi ⟨v,rfl,cN⟩;exact cN.seq o6
   .rintro i x σ mv hx ⟨v,rfl,cN⟩;obtain⟨hi,rfl⟩:=yQ hx;have hx:=oA (mV hi);have xa:=n3 (mV hi);obtain⟨m,em,rm⟩:=Uw _ (mV hi);have kQ:=Ux.trans cN;refine⟨_,rfl,p,dx,_,rfl,kQ _ _ bT,rfl,_,rfl,_,rfl,a1,_,_,_,rfl,rfl,kQ.seq JT,Ez hx.1 (by lia),p,F,S,_,rfl,aR.same kQ,(λz=>q02 (ok.cd _ _ xa).1 z),(λ_ z=>by rw[xa]at z;cases z),λc hc iG Am cA Uy tG=>?_⟩;rw[xa]at hc;cases hc;have FL:=kQ.trans cA;have fT:(S.rows.getD (is.getD i 0).toNat []).length<=24:=by have:=(ok.cd _ _ xa).2.length_eq;lia
    refine⟨_,rfl,_,rfl,a4,_,_,_,rfl,rfl,FL.seq Pr,Bl hx.1 (wM em),iG,m,_,_,rfl,ai.of tG,FL.seq rm,by lia,?_⟩;rw[q19 rfl];exact⟨_,rfl,fP ⟨_,rfl,cN.trans cA⟩⟩
   rintro σ mv ⟨v,rfl,cN⟩;have kQ:=Ux.trans cN;refine⟨_,rfl,p,dx,_,rfl,kQ _ _ bT,rfl,p,F,S,rfl,aR.same kQ,?_⟩;refine⟨_,rfl,p,dx,_,rfl,kQ _ _ bT,rfl,p,F,S,rfl,aR.same kQ,?_⟩;refine⟨_,rfl,.int S.taken,true,false,rfl,rfl,rfl,_,rfl,oP ?_⟩;refine⟨_,rfl,_,rfl,rfl,_,rfl,?_⟩;rw[q19 rfl];refine oP ⟨_,rfl,.bl S.b7,true,rfl,rfl,_,rfl,oP ?_⟩;refine⟨_,rfl,_,rfl,rfl,?_⟩;rw[q19 rfl];exact q _ kQ
inductive Pt (K:Frag)(vs:List V)(H:Hp)(Q:VK)(E:XK):Prop|mk(a b c:Addr)(ts:List Str) (cs:List (List Int)) (us:List Int):vs=[.ref a,.ref b,.ref c]->ai K H a (ts.map V.str)->Refs K (IL K) H b cs->ai K H c (us.map V.int)->cs.length=ts.length->ts.length<=500->us.length<=500->((∀d∈cs,d=[]\/d.Perm us))->(2<=(cs.filter λd => !decide (d=[])).length)->(∀(l:Addr)(H':Hp),ae H H'->H l=none->H' l=some (.lst ((nT ts cs us ts.length).map V.str))->Q (.ref l) H')->Pt K vs H Q E
theorem zlU{cs:List (List Int)}{k:Nat}(hk:k<cs.length):(cs.filter λd => !decide (d=[])).length<=((cs.take k++cs.drop (k+1)).filter λd => !decide (d=[])).length+1:=by
 conv=>lhs;rw[<-q35 k cs,drop_eq_getElem_cons hk,q16,q08,q17]
 rw[q16,q08];split
 .rw[q12];lia
 .lia
theorem zil(F:aL K "_law_deciding" "_law_deciding" wV f fd)(T:Txt K mg)(Uz:aK P w K mg base 3 "_law_firsts" IJ (O8 K)):ar P w K mg base aX 4 f fd IZ (Pt K):=by
 refine F.ok wG ?_ ?_
 .rintro _ _ _ _⟨a,b,c,ts,cs,us,rfl,_⟩;rfl
 .rintro aG A outer s H vs Q E hr⟨a,b,c,ts,cs,us,rfl,hA,⟨ls,hB,rB⟩,hC,fT,hz,UA,fB,h2,q⟩;refine⟨_,(zc (zt (i:=3) wG.nd rfl (Or.inl rfl) (zh Uz (hM hr) rfl (za (zQ (show ak (zf wV) NK "_law_card_here" [] [] _ from cZ) rfl (zz (pv 1)) (λ_ _ _ _ _=>(yI (zk (ww (K:=K) rfl hr.bp) (pv 0) (zF zb) (zl _)))) (λ_ _ _ _ _=>(pv 0))) (za (pv 2) zb))))
   (zc (zt (i:=4) wG.nd rfl (Or.inl rfl) (zF zb))
   (zc (wd PassesOwn.never rfl (yD rfl T.aT (za (yj T.ay (pv 0)) zb)) (zM (i:=5) wG.nd rfl (Or.inl rfl))
     (zc (yu (i:=6) (show ak (zf wV) NK "_law_card_here" [] [] _ from cZ) rfl wG.nd rfl (Or.inl rfl) (zz (zo wy (yo wC (pv 1) y9 (yH (pv 5))) (yo wC (pv 1) (yH (zo yg (pv 5) zg)) y9))) (λ_ _ _ _ _=>(yI (zk (ww (K:=K) rfl hr.bp) (pv 0) (zF zb) (zl _)))) (λ_ _ _ _ _=>(pv 0)))
   (zd (zw (PW.pt (AQ (zk (CB hr.bp) (zB zv (pv 1) (pv 5) (λ_ _=>rfl)) (zF zb) (zl _)) (AO (zk (CB hr.bp) (zh Uz (hM hr) rfl (za (pv 6) (za (pv 2) zb))) (pv 3) (zl _))))) (zd (zT (wb PySem.F.plainAttrs_list PySem.F.slot_list_append PySem.F.type_list_append yC (pv 4) (za (zB zv (pv 0) (pv 5) (λ_ _=>rfl)) zb)))) zm))))
   (zd (zi (pv 4)))))),?_⟩
  have bY:=zq;have vV:=rB.length;have UB:∀ds:List (List Int),(∀d∈ds,d∈cs)->∀d∈ds.filter (λd => !decide (d=[])),d.Perm us:=λds hs d hd=>by
   have h:=q24.mp hd;refine(fB d (hs d h.1)).resolve_left λz=>?_;have h2:=h.2;rw[q19 z]at h2;exact q02 h2 (by decide)
  refine⟨_,rfl,b,rfl,⟨_,hB⟩,?_⟩;refine CL hB rB (by lia) (λm d H' R hm h=>?_) (λm H' R h=>⟨_,rfl,h⟩) λks H1 s1 r1=>?_
  .refine⟨_,rfl,(by show 0<=sizeLine;decide),λiG eG=>?_⟩;have cA:=ae.new (o:=.lst []) eG;refine⟨m,iG,_,[],rfl,rfl,cA.seq hm,ai.new,zC _,rfl,_,rfl,?_⟩;rw[show fR (d.map V.int) []=decide (d=[])from yU _ []];exact h _ cA
  intro l1 c9;have s2:=ae.new (o:=.lst (ks.map V.ref)) c9;have t2:=s1.trans s2;refine⟨_,rfl,l1,c,_,us,rfl,⟨ks,ai.new,r1.imp λ_ _=>IL.stays K _ _ _ _ s2⟩,t2.seq hC,UB cs λ_ h=>h,by lia,q38 (q09 _ _) (by lia),UA,λl3 H3 s3 f3 e3=>?_⟩;have t3:=t2.trans s3;refine⟨(by show 0<=sizeLine;decide),λp0 gT=>?_⟩;have t3':=t3.aB (o:=.lst []) gT;refine⟨_,rfl,a,_,rfl,.inl (t3'.seq hA),_,rfl,by lia,by rw[q06];lia,?_⟩;rw[q06,show((ts.length:Nat):Int).toNat=ts.length by lia];refine ym (λi σ H4=>∃(v5 v6:Option V),σ=[some (.ref a),some (.ref b),some (.ref c),some (.ref l3),some (.ref p0),v5,v6]/\ae H3 H4/\H4 p0=some (.lst ((nT ts cs us i).map V.str))) ⟨_,_,rfl,ae.new gT,ze⟩ ?_ ?_
  .rintro i σ H4 hi ⟨v5,v6,rfl,s4,e4⟩;have t4:=t3.trans s4;rw[show(0:Int)+(i:Int)=(i:Int)by lia];refine⟨_,rfl,_,rfl,_,rfl,b,_,rfl,t4.seq hB,λfA fL=>?_⟩;rw[G7 (by lia),show((i:Int)).toNat=i by lia];have iq:=ae.new (o:=.lst ((ls.map V.ref).take i)) fL;refine⟨_,rfl,_,rfl,_,_,rfl,rfl,_,rfl,b,_,rfl,(t4.trans iq).seq hB,λjB jC=>?_⟩;rw[Cu (by lia),show((i:Int)+1).toNat=i+1 by lia];have gm:=ae.new (o:=.lst ((ls.map V.ref).drop (i+1))) jC;have oo:=gm _ _ (ze (H:=H4) (a:=fA) (o:=.lst ((ls.map V.ref).take i)));refine⟨fA,jB,_,_,rfl,rfl,oo,ze,by rw[q11,length_drop,q06];lia,λgU jD=>?_⟩;rw[<-map_take,<-map_drop,<-q07]at *;have cN:=(iq.trans gm).aB (o:=.lst ((ls.take i++ls.drop (i+1)).map V.ref)) jD;have iw:upd (upd (upd H4 fA (.lst ((ls.take i).map V.ref))) jB (.lst ((ls.drop (i+1)).map V.ref))) gU (.lst ((ls.take i++ls.drop (i+1)).map V.ref)) gU=some (.lst ((ls.take i++ls.drop (i+1)).map V.ref)):=ze;generalize xb:upd (upd (upd H4 fA _) jB _) gU _=mv at cN iw ⊢;have kQ:=t4.trans cN;have Pu:All2 (IL K mv) (ls.take i++ls.drop (i+1)) (cs.take i++cs.drop (i+1)):=by
    have z:=rB.imp λ_ _=>IL.stays K _ _ _ _ kQ;exact(z.sI i).app (z.sJ (i+1))
   refine⟨gU,rfl,⟨_,ai.of iw⟩,?_⟩;refine CL (ai.of iw) Pu (by rw[q08,q11,length_drop];lia) (λm d H' R hm h=>?_) (λm H' R h=>⟨_,rfl,h⟩) λks Am cA FK=>?_
   .refine⟨_,rfl,(by show 0<=sizeLine;decide),λiG eG=>?_⟩;have cA:=ae.new (o:=.lst []) eG;refine⟨m,iG,_,[],rfl,rfl,cA.seq hm,ai.new,zC _,rfl,_,rfl,?_⟩;rw[show fR (d.map V.int) []=decide (d=[])from yU _ []];exact h _ cA
   intro jy iT;have jQ:=ae.new (o:=.lst (ks.map V.ref)) iT;have d7:upd Am jy (.lst (ks.map V.ref)) jy=some (.lst (ks.map V.ref)):=ze;have B1:=FK.imp λ_ _=>IL.stays K _ _ _ _ jQ;generalize F7:upd Am jy _=F8 at jQ d7 B1 ⊢;have Dg:=(cN.trans cA).trans jQ;obtain⟨m,em,rm⟩:=rB.at (i:=i) (by lia) [];have rm:ai K H m ((cs.getD i []).map V.int):=rm;have UC:=t4.trans Dg;refine⟨_,rfl,_,rfl,b,_,_,_,rfl,rfl,UC.seq hB,zP (wM em),(by show 0<=sizeLine;decide),λJU Pw=>?_⟩;have o7:=ae.new (o:=.lst []) Pw;refine⟨m,JU,_,[],rfl,rfl,(UC.trans o7).seq rm,ai.new,zC _,rfl,_,rfl,?_⟩;rw[show fR ((cs.getD i []).map V.int) []=decide (cs.getD i []=[])from yU _ []];generalize Aaq:upd F8 JU _=JV at o7 ⊢;have Aq:=Dg.trans o7;refine yn (λbx=>?_) (λhe=>?_)
   .have hf:=zlU (cs:=cs) (k:=i) (by lia);have m8:∀d∈cs.take i++cs.drop (i+1),d∈cs:=λd hd=>by
     rcases List.mem_append.mp hd with h | h
     .exact List.mem_of_mem_take h
     .exact List.mem_of_mem_drop h
    have hle:=q09 (λd:List Int => !decide (d=[])) (cs.take i++cs.drop (i+1));rw[q08,q11,length_drop]at hle;refine⟨_,rfl,_,rfl,jy,c,_,us,rfl,⟨ks,ai.of (o7 _ _ d7),B1.imp λ_ _=>IL.stays K _ _ _ _ o7⟩,(t4.trans Aq).seq hC,UB _ m8,by lia,by lia,UA,λDh Di tL f16 F9=>?_⟩;have uD:=Aq.trans tL;refine⟨_,rfl,Dh,l3,_,_,rfl,rfl,ai.of F9,ai.of ((s4.trans uD) _ _ e3),zC _,zC _,_,rfl,?_⟩;rw[yU];refine yn (λhb=>?_) (λhb=>?_)
    .have ats:fC (ts.map V.str) (i:Int)=some (.str (ts.getD i "")):=by
      have:=Ez (ts:=ts) (i:=(i:Int)) (by lia) (by lia);rw[show((i:Int)).toNat=i by lia]at this;exact this
     refine⟨_,rfl,.inl ⟨rfl,_,ai.of (uD _ _ e4)⟩,_,rfl,_,rfl,a,_,_,_,rfl,rfl,(t4.trans uD).seq hA,ats,p0,_,_,rfl,rfl,uD _ _ e4,?_,_,_,rfl,(s4.trans uD).put gT,?_⟩
     .have:=sQ ts cs us i;rw[q06]
      lia
     .rw[ze,MD,q01 (by unfold Af;rw[q20 bx,q20 hb];rfl),q07];rfl
    .refine⟨_,_,rfl,s4.trans uD,?_⟩;rw[MD,q00 (by unfold Af;rw[q19 hb];simp),append_nil];exact uD _ _ e4
   .refine⟨_,_,rfl,s4.trans Aq,?_⟩;rw[MD,q00 (by unfold Af;rw[q19 he];simp),append_nil];exact Aq _ _ e4
  .rintro σ H4 ⟨v5,v6,rfl,s4,e4⟩;exact⟨_,rfl,q p0 H4 (t3.trans s4) (t3.free gT) e4⟩
inductive Px (K:Frag)(vs:List V)(H:Hp)(Q:VK)(E:XK):Prop|mk(a b:Addr)(w:Nat)(c:Int)(S:Sh):vs=[.ref a,.ref b,.int w,.int c]->Refs K (IL K) H a S.rows->ai K H b (S.aa.map V.int)->S.Ok->w<S.af.length->(∀(l:Addr)(H':Hp),ae H H'->H l=none->H' l=some (.lst (([S.aA (.fJ (S.af.getD w "")),S.aA (.fu (S.af.getD w "")),S.aA (.dy (S.af.getD w "") c)]:List Str).map V.str))->Q (.ref l) H')->Px K vs H Q E
theorem zin(F:aL K "_law_of_judge" "_law_of_judge" Ja f fd)(T:Txt K mg)(vZ:aK P w K mg base 2 "_law_spots" yP (wB K))(tF:aK P w K mg base 1 "_law_words" yy (yS K))(FX:aK P w K mg base 2 "_law_spot_text" yE (wg K))(c1b:aK P w K mg base 3 "_law_step" IM (Pc K)):ar P w K mg base aX 4 f fd Jb (Px K):=by
 refine F.ok NL ?_ ?_
 .rintro _ _ _ _⟨a,b,w,c,S,rfl,_⟩;rfl
 .rintro aG A outer s H vs Q E hr⟨a,b,w,c,S,rfl,hA,hB,ok,hw,q⟩;refine⟨_,(zc (zw (zk (Cw hr.bp) (zB zv (pv 0) (pv 2) (λ_ _=>rfl)) (zF zb) (zl _)) (zd (zi (lK (cV.cons (cV.cons (cV.cons cV.nil)))))) zm)
   (zc (yu (i:=4) (show ak (zf Ja) TY "_law_card_here" [] [] _ from cZ) rfl NL.nd rfl (Or.inl rfl) (zz (zo wy (yo wC (pv 0) y9 (yH (pv 2))) (yo wC (pv 0) (yH (zo yg (pv 2) zg)) y9))) (λ_ _ _ _ _=>(yI (zk (ww (K:=K) rfl hr.bp) (pv 0) (zF zb) (zl _)))) (λ_ _ _ _ _=>(pv 0)))
   (zc (zt (i:=5) NL.nd rfl (Or.inl rfl) (zF (za (zh tF (hM hr) rfl (za (zB zv (pv 0) (pv 2) (λ_ _=>rfl)) zb)) (za zp (za (zh c1b (hM hr) rfl (za (pv 0) (za (pv 1) (za (pv 2) (za (pv 3) zb))))) zb)))))
   (zc (zw (zk (W7 hr.bp) (pv 4) (zF zb) (zl _)) (zd (GP (zh FX (hM hr) rfl (za (zh vZ (hM hr) rfl (za (pv 4) (za (pv 1) zb))) (za (pv 1) zb))) (GO (pv 5) zg GZ))) zm)
   (zd (zi (pv 5))))))),?_⟩
  have bY:=zq;have cQ:=ok.cQ;have dw:=ok.dw;have oB:=Sh.bq S;obtain⟨ls,hl,hR⟩:=id hA;have vV:=hR.length;obtain⟨m,em,rm⟩:=hR.at (i:=w) (by lia) [];have De:=Sh.eA S hw;have o8:S.af.getD w "" ∈ S.af:=vk hw;have B0:=Sh.fc ok (S.af.getD w "");have UD:=Sh.fe ok hw;have Py:=λh=>Sh.dR (j:=S.af.getD w "") ok.so h;have Pz:=Sh.dn ok (S.af.getD w "");generalize hj:S.af.getD w ""=j at q De o8 B0 UD Py Pz;have rm:ai K H m ((S.rows.getD w []).map V.int):=rm;refine⟨_,rfl,_,rfl,a,_,_,_,rfl,rfl,hl,zP (wM em),(by decide),λl1 c9=>?_⟩;have s1:=ae.new (o:=.lst []) c9;refine⟨m,l1,_,[],rfl,rfl,s1.seq rm,ai.new,zC _,rfl,_,rfl,?_⟩;rw[show fR ((S.rows.getD w []).map V.int) []=decide (S.rows.getD w []=[])from yU _ []];have Ar:S.rows.getD w []=[]↔S.card j=none:=by
   rw[De];constructor
   .intro h;rw[q19 h]at B0;cases e:S.card j with
    | none=>rfl
    | some d=>rw[e]at B0;cases B0
   .intro h;rw[h];rfl
  refine yO (λh0=>?_) (λh0=>?_)
  .have hn:=Ar.mp h0;refine⟨(by decide),λl2 cX=>?_⟩;refine q l2 _ (s1.aB cX) (s1.free cX) ?_;rw[show S.aA (.fJ j)=Str.ofString "refused: none" by unfold Sh.aA;rw[show S.bJ (.fJ j)=some ("NoCard":Str)by show(if j∈S.af then _ else _)=_;rw[q01 o8,q01 hn]];exact(show M6.Ah ("NoCard":Str)=Str.ofString "refused: none" by decide +kernel)];rw[show S.aA (.fu j)=Str.ofString "refused: none" by unfold Sh.aA;rw[show S.bJ (.fu j)=some ("NoCard":Str)by show(if j∈S.af then _ else _)=_;rw[q01 o8,q01 hn]];exact(show M6.Ah ("NoCard":Str)=Str.ofString "refused: none" by decide +kernel)];rw[show S.aA (.dy j c)=Str.ofString "refused: none" by unfold Sh.aA;rw[show S.bJ (.dy j c)=some ("NoCard":Str)by show(if j∈S.af then _ else _)=_;rw[q01 o8,q01 hn]];exact(show M6.Ah ("NoCard":Str)=Str.ofString "refused: none" by decide +kernel)];exact ze
  have hn:¬S.card j=none:=λz=>h0 (Ar.mpr z);obtain⟨d,hd⟩:∃d,S.card j=some d:=by
   cases e:S.card j with
   | none=>exact q02 e hn
   | some d=>exact⟨d,rfl⟩
  have Bb:S.rows.getD w []=d:=by rw[De,hd];rfl
  rw[Bb]at rm;obtain⟨_,iz⟩:=ok.cd j d hd;have xR:=iz.length_eq;have JQ:j∈S.handed:=q24.mpr ⟨o8,by rw[hd];rfl⟩;have Py:=Py JQ;refine⟨_,rfl,_,rfl,_,rfl,a,_,rfl,s1.seq hl,λfA fL=>?_⟩;rw[G7 (by lia),show((w:Int)).toNat=w by lia];have iq:=ae.new (o:=.lst ((ls.map V.ref).take w)) fL;refine⟨_,rfl,_,rfl,_,_,rfl,rfl,_,rfl,a,_,rfl,(s1.trans iq).seq hl,λjB jC=>?_⟩;rw[Cu (by lia),show((w:Int)+1).toNat=w+1 by lia];have gm:=ae.new (o:=.lst ((ls.map V.ref).drop (w+1))) jC;have oo:=gm _ _ (ze (H:=upd H l1 (.lst [])) (a:=fA) (o:=.lst ((ls.map V.ref).take w)));refine⟨fA,jB,_,_,rfl,rfl,oo,ze,by rw[q11,length_drop,q06];lia,λgU jD=>?_⟩;rw[<-map_take,<-map_drop,<-q07]at *;have cN:=(iq.trans gm).aB (o:=.lst ((ls.take w++ls.drop (w+1)).map V.ref)) jD;have iw:upd (upd (upd (upd H l1 (.lst [])) fA (.lst ((ls.take w).map V.ref))) jB (.lst ((ls.drop (w+1)).map V.ref))) gU (.lst ((ls.take w++ls.drop (w+1)).map V.ref)) gU=some (.lst ((ls.take w++ls.drop (w+1)).map V.ref)):=ze;generalize xb:upd (upd (upd (upd H l1 _) fA _) jB _) gU _=mv at cN iw ⊢;have kQ:=s1.trans cN;have Pu:All2 (IL K mv) (ls.take w++ls.drop (w+1)) (S.rows.take w++S.rows.drop (w+1)):=by
   have z:=hR.imp λ_ _=>IL.stays K _ _ _ _ kQ;exact(z.sI w).app (z.sJ (w+1))
  refine⟨gU,rfl,⟨_,ai.of iw⟩,?_⟩;refine CL (ai.of iw) Pu (by rw[q08,q11,length_drop];lia) (λm d H' R hm h=>?_) (λm H' R h=>⟨_,rfl,h⟩) λks Am cA FK=>?_
  .refine⟨_,rfl,(by show 0<=sizeLine;decide),λiG eG=>?_⟩;have cA:=ae.new (o:=.lst []) eG;refine⟨m,iG,_,[],rfl,rfl,cA.seq hm,ai.new,zC _,rfl,_,rfl,?_⟩;rw[show fR (d.map V.int) []=decide (d=[])from yU _ []];exact h _ cA
  intro jy iT;have jQ:=ae.new (o:=.lst (ks.map V.ref)) iT;have d7:upd Am jy (.lst (ks.map V.ref)) jy=some (.lst (ks.map V.ref)):=ze;have B1:=FK.imp λ_ _=>IL.stays K _ _ _ _ jQ;rw[<-UD]at B1;generalize F7:upd Am jy _=F8 at jQ d7 B1 ⊢;have Dg:=(kQ.trans cA).trans jQ;have JW:=B1.length;have Ga:S.aA (.fJ j)=Txt.join M6.zY (d.map tN):=by
   unfold Sh.aA;rw[show S.bJ (.fJ j)=none by show(if j∈S.af then _ else _)=_;rw[q01 o8,q00 hn]];show Txt.join M6.zY (((S.card j).getD []).map tN)=_;rw[hd];rfl
  refine⟨_,rfl,_,rfl,a,_,_,_,rfl,rfl,Dg.seq hl,zP (wM em),m,_,d.map tN,rfl,Dg.seq rm,?_,by rw[q06];lia,?_,λJV o7=>?_⟩
  .exact HD λn hn=>by have:=ok.cO n (iz.mem_iff.mp hn);lia
  .intro x hx;obtain⟨n,hn,rfl⟩:=q25.mp hx;have:=M6.yp (ok.cO n (iz.mem_iff.mp hn))
   lia
  have Aq:=Dg.trans o7;refine⟨_,rfl,_,rfl,_,rfl,_,rfl,a,b,w,c,S,rfl,Refs.same (IL.stays K) Aq hA,Aq.seq hB,ok,hw,by rw[hj,hd];rfl,λDi tL=>?_⟩;rw[hj];have uD:=Aq.trans tL;refine⟨(by show 3<=sizeLine;decide),λuE tM=>?_⟩;have PB:=uD.free tM;have xc:=ae.new (o:=.lst [.str (Txt.join M6.zY (d.map tN)),.str (Str.ofString "refused: few"),.str (S.aA (.dy j c))]) tM;have uF:upd Di uE (.lst [.str (Txt.join M6.zY (d.map tN)),.str (Str.ofString "refused: few"),.str (S.aA (.dy j c))]) uE=some (.lst [.str (Txt.join M6.zY (d.map tN)),.str (Str.ofString "refused: few"),.str (S.aA (.dy j c))]):=ze;generalize Gb:upd Di uE _=JX at xc uF ⊢;have t17:=uD.trans xc;have Gd:=((o7.trans tL).trans xc) _ _ d7;refine⟨_,rfl,(by decide),λB2 xf=>?_⟩;have oC:=ae.new (o:=.lst []) xf;refine⟨jy,B2,_,rfl,rfl,ai.of (oC _ _ Gd),ai.new,_,rfl,?_⟩;rw[q06,JW];generalize Ge:upd JX B2 _=PD at oC ⊢;have PF:=t17.trans oC;refine yn (λbx=>?_) (λhe=>?_)
  .have B3:S.aA (.fu j)=M6.n8 (S.aS j) S.aa:=by
    unfold Sh.aA;rw[show S.bJ (.fu j)=none by show(if j∈S.af then _ else _)=_;rw[q01 o8,q00 hn,q00 (by lia)]];rfl
   have u18:=((o7.trans tL).trans xc).trans oC;refine⟨_,rfl,_,rfl,jy,b,S.aS j,S.aa,rfl,⟨ks,ai.of (oC _ _ Gd),B1.imp λ_ _=>IL.stays K _ _ _ _ u18⟩,PF.seq hB,by have:=Sh.gH ok;have:=q09 (λd:List Int => !decide (d=[])) S.rows;lia,by lia,λu hu e he=>(Pz e he).mem_iff.mpr hu,λDj UE Dk f19 As=>?_⟩;rw[M6.E9 Pz (by lia)]at As;have UG:=PF.trans Dk;refine⟨_,rfl,Dj,b,S.aS j,S.aa,rfl,ai.of As,UG.seq hB,by lia,ok.cO,λUH JY=>?_⟩;have Gf:=JY _ _ (Dk _ _ (oC _ _ uF));refine⟨_,rfl,_,_,_,_,rfl,rfl,Gf,rfl,?_⟩;refine⟨_,rfl,q uE _ ((UG.trans JY).put PB) PB ?_⟩;rw[ze,Ga,B3];rfl
  .have B3:S.aA (.fu j)=Str.ofString "refused: few":=by
    unfold Sh.aA;rw[show S.bJ (.fu j)=some ("TooFewCards":Str)by show(if j∈S.af then _ else _)=_;rw[q01 o8,q00 hn,q01 (by lia)]];exact(show M6.Ah ("TooFewCards":Str)=Str.ofString "refused: few" by decide +kernel)
   refine⟨_,rfl,q uE _ PF PB ?_⟩;rw[oC _ _ uF,Ga,B3];rfl
inductive PK (K:Frag)(vs:List V)(H:Hp)(Q:VK)(E:XK):Prop|mk(a b:Addr)(ms us:List Int):vs=[.ref a,.ref b]->ai K H a (ms.map V.int)->ai K H b (us.map V.int)->ms.length=us.length->1<=ms.length->ms.length<=60->((∀x∈ms,1<=x/\x<=24))->((∀x∈us,1<=x/\x<=24))->(∀H',ae H H'->Q (.bl (M6.yq ms us 24)) H')->PK K vs H Q E
theorem zmw(F:aL K "is_ahead" "is_ahead" NM f fd)(T:Txt K mg)(oZ:aK P w K mg base 2 "granted" BR (Dd K))(BZ:aK P w K mg base 2 "granted_sum" wq (wZ K))(tJ:aK P w K mg base 2 "first_number" ["marks"] (wJ K))(PL:aK P w K mg base 3 "unlike_at" Fz (JR K)):ar P w K mg base aX 4 f fd Jc (PK K):=by
 refine F.ok TZ ?_ ?_
 .rintro _ _ _ _⟨a,b,ms,us,rfl,_⟩;rfl
 .rintro aG A outer s H vs Q E hr⟨a,b,ms,us,rfl,hA,hB,hl,h1,hz,hm,hu,q⟩;refine⟨_,(zc (zw (zk gv (zh tJ (hM hr) rfl (za (pv 0) zb)) (zh tJ (hM hr) rfl (za (pv 1) zb)) (zl _)) (zd (zi (oK kZ (zh tJ (hM hr) rfl (za (pv 0) zb)) (zh tJ (hM hr) rfl (za (pv 1) zb)) (zl _)))) zm)
   (zc (zt (i:=2) TZ.nd rfl (Or.inl rfl) (zh PL (hM hr) rfl (za (pv 0) (za (pv 1) zb))))
   (zc (zw (zk pL (pv 2) Ci (zl _)) (zd (zi gX)) zm)
   (zc (zw (zk gv (zh oZ (hM hr) rfl (za (pv 0) (za (pv 2) zb))) (zh oZ (hM hr) rfl (za (pv 1) (za (pv 2) zb))) (zl _)) (zd (zi (oK uR (zh oZ (hM hr) rfl (za (pv 0) (za (pv 2) zb))) (zh oZ (hM hr) rfl (za (pv 1) (za (pv 2) zb))) (zl _)))) zm)
   (zd (zi (oK kZ (zh BZ (hM hr) rfl (za (pv 0) (za (pv 2) zb))) (zh BZ (hM hr) rfl (za (pv 1) (za (pv 2) zb))) (zl _)))))))),?_⟩
  have bx:ms≠[]:=by intro z;rw[z]at h1;simp at h1
  have jx:us≠[]:=by intro z;rw[z]at hl;have:ms.length=0:=hl;lia
  refine⟨_,rfl,a,ms,rfl,hA,bx,hz,hm,λH1 f s1 hf=>?_⟩;refine⟨_,rfl,b,us,rfl,s1.seq hB,jx,by lia,hu,λH2 g s2 hg=>?_⟩;have fr:=M3.E6 hf 1 24 hm;have gr:=M3.E6 hg 1 24 hu;have t2:=s1.trans s2;refine⟨rfl,_,rfl,yn (λoE=>?_) (λoE=>?_)⟩
  .refine⟨_,rfl,a,ms,rfl,t2.seq hA,bx,hz,hm,λH3 f' s3 uC=>?_⟩;have t3:=t2.trans s3;refine⟨_,rfl,b,us,rfl,t3.seq hB,jx,by lia,hu,λH4 g' s4 B4=>?_⟩;have ef:=M3.E5 uC hf;have eg:=M3.E5 B4 hg;subst ef eg;refine⟨_,_,rfl,rfl,?_⟩;have oE:f'≠g':=λz=>oE (by rw[z]);have e:decide (f'<g')=M6.yq ms us 24:=by
    by_cases c:f'<g'
    .rw[q19 c,M6.sD uC B4 c fr.1 fr.2]
    .rw[q20 c,M6.sE uC B4 (by lia) gr.1 gr.2]
   show Q (.bl (decide (f'<g'))) H4;rw[e];exact q _ (t3.trans s4)
  .injection oE with oE
   subst oE;refine⟨_,rfl,_,rfl,a,b,ms,us,f,rfl,t2.seq hA,t2.seq hB,h1,hz,by lia,hm,hu,hf,hg,λr H3 s3 Dl=>?_⟩;have t3:=t2.trans s3;cases r with
   | none =>
     refine⟨_,rfl,rfl,_,rfl,yO (λ_=>?_) (λz=>q02 rfl z)⟩;rw[M6.Xj (M6.SS hf hg Dl)]at q;exact q _ t3
   | some n =>
     refine⟨_,rfl,rfl,_,rfl,yO (λz=>nomatch z) (λ_=>?_)⟩;rw[M6.sF hf hg fr.1 Dl]at q;refine⟨_,rfl,_,rfl,a,ms,_,rfl,t3.seq hA,by lia,λH4 s4=>?_⟩;refine⟨_,rfl,_,rfl,b,us,_,rfl,(t3.trans s4).seq hB,by lia,λH5 s5=>?_⟩;have t5:=(t3.trans s4).trans s5;refine⟨rfl,_,rfl,yn (λhc=>?_) (λhc=>?_)⟩
     .rw[q00 λz=>hc (by rw[z])]at q;refine⟨_,rfl,_,rfl,a,ms,_,rfl,t5.seq hA,by lia,λH6 s6=>?_⟩;refine⟨_,rfl,_,rfl,b,us,_,rfl,(t5.trans s6).seq hB,by lia,λH7 s7=>?_⟩;exact⟨_,_,rfl,rfl,q _ ((t5.trans s6).trans s7)⟩
     .injection hc with hc
      rw[q01 hc]at q;refine⟨_,rfl,_,rfl,a,ms,_,rfl,t5.seq hA,by lia,λH6 s6=>?_⟩;refine⟨_,rfl,_,rfl,b,us,_,rfl,(t5.trans s6).seq hB,by lia,λH7 s7=>?_⟩;exact⟨_,_,rfl,rfl,q _ ((t5.trans s6).trans s7)⟩
inductive PM (K:Frag)(vs:List V)(H:Hp)(Q:VK)(E:XK):Prop|mk(a b:Addr)(ms us:List Int):vs=[.ref a,.ref b]->ai K H a (ms.map V.int)->ai K H b (us.map V.int)->ms.length=us.length->1<=ms.length->ms.length<=60->((∀x∈ms,1<=x/\x<=24))->((∀x∈us,1<=x/\x<=24))->(∀r,M6.wf ms us 24 r->∀(x:V)(H':Hp),ae H H'->Told K H' x r->Q x H')->PM K vs H Q E
theorem zjT(F:aL K "parting_of" "parting_of" NN f fd)(T:Txt K mg)(oZ:aK P w K mg base 2 "granted" BR (Dd K))(tJ:aK P w K mg base 2 "first_number" ["marks"] (wJ K))(PL:aK P w K mg base 3 "unlike_at" Fz (JR K)):ar P w K mg base aX 4 f fd Jd (PM K):=by
 refine F.ok T1 ?_ ?_
 .rintro _ _ _ _⟨a,b,ms,us,rfl,_⟩;rfl
 .rintro aG A outer s H vs Q E hr⟨a,b,ms,us,rfl,hA,hB,hl,h1,hz,hm,hu,q⟩;refine⟨_,(zc (zw (zk gv (zh tJ (hM hr) rfl (za (pv 0) zb)) (zh tJ (hM hr) rfl (za (pv 1) zb)) (zl _)) (zd (zi (mP (za (zN (mJ rfl) (by rfl) T.Fp boot_min (za (zh tJ (hM hr) rfl (za (pv 0) zb)) (za (zh tJ (hM hr) rfl (za (pv 1) zb)) zb))) (za zp zb))))) zm)
   (zc (zt (i:=2) T1.nd rfl (Or.inl rfl) (zh PL (hM hr) rfl (za (pv 0) (za (pv 1) zb))))
   (zc (zw (zk pL (pv 2) Ci (zl _)) (zd (zi Ci)) zm)
   (zc (zw (zk gv (zh oZ (hM hr) rfl (za (pv 0) (za (pv 2) zb))) (zh oZ (hM hr) rfl (za (pv 1) (za (pv 2) zb))) (zl _)) (zd (zi (mP (za (pv 2) (za zp zb))))) zm)
   (zd (zi (mP (za (pv 2) (za zp zb))))))))),?_⟩
  have bx:ms≠[]:=by intro z;rw[z]at h1;simp at h1
  have jx:us≠[]:=by intro z;rw[z]at hl;have:ms.length=0:=hl;lia
  refine⟨_,rfl,a,ms,rfl,hA,bx,hz,hm,λH1 f s1 hf=>?_⟩;refine⟨_,rfl,b,us,rfl,s1.seq hB,jx,by lia,hu,λH2 g s2 hg=>?_⟩;have fr:=M3.E6 hf 1 24 hm;have gr:=M3.E6 hg 1 24 hu;have t2:=s1.trans s2;refine⟨rfl,_,rfl,yn (λoE=>?_) (λoE=>?_)⟩
  .refine⟨_,rfl,a,ms,rfl,t2.seq hA,bx,hz,hm,λH3 f' s3 uC=>?_⟩;have t3:=t2.trans s3;refine⟨_,rfl,b,us,rfl,t3.seq hB,jx,by lia,hu,λH4 g' s4 B4=>?_⟩;have ef:=M3.E5 uC hf;have eg:=M3.E5 B4 hg;subst ef eg;refine⟨_,_,rfl,(by show 2<=sizeLine;decide),λt ht=>?_⟩;have oE:f'≠g':=λz=>oE (by rw[z]);by_cases c:g'<f'
   .rw[q01 c];refine q (some (g'.toNat,"half")) (M6.me uC B4 c gr.1 gr.2) _ _ ((t3.trans s4).aB ht) ⟨t,rfl,?_⟩;have e:((g'.toNat:Nat):Int)=g':=by lia
    dsimp only;rw[e];exact bX.new
   .rw[q00 c];refine q (some (f'.toNat,"half")) (M6.Mz uC B4 (by lia) fr.1 fr.2) _ _ ((t3.trans s4).aB ht) ⟨t,rfl,?_⟩;have e:((f'.toNat:Nat):Int)=f':=by lia
    dsimp only;rw[e];exact bX.new
  .injection oE with oE
   subst oE;refine⟨_,rfl,_,rfl,a,b,ms,us,f,rfl,t2.seq hA,t2.seq hB,h1,hz,by lia,hm,hu,hf,hg,λr H3 s3 Dl=>?_⟩;have t3:=t2.trans s3;cases r with
   | none =>
     refine⟨_,rfl,rfl,_,rfl,yO (λ_=>?_) (λz=>q02 rfl z)⟩;exact q none (M6.SS hf hg Dl) _ _ t3 rfl
   | some n =>
     refine⟨_,rfl,rfl,_,rfl,yO (λz=>nomatch z) (λ_=>?_)⟩;have hp:=M6.SU hf hg fr.1 Dl;have e:((n.toNat:Nat):Int)=n:=by have:=Dl.1;lia
     refine⟨_,rfl,_,rfl,a,ms,_,rfl,t3.seq hA,by lia,λH4 s4=>?_⟩;refine⟨_,rfl,_,rfl,b,us,_,rfl,(t3.trans s4).seq hB,by lia,λH5 s5=>?_⟩;have t5:=(t3.trans s4).trans s5;refine⟨rfl,_,rfl,yn (λhc=>?_) (λhc=>?_)⟩
     .rw[q00 λz=>hc (by rw[z])]at hp;refine⟨_,rfl,(by show 2<=sizeLine;decide),λt ht=>?_⟩;refine q _ hp _ _ (t5.aB ht) ⟨t,rfl,?_⟩;dsimp only;rw[e];exact bX.new
     .injection hc with hc
      rw[q01 hc]at hp;refine⟨_,rfl,(by show 2<=sizeLine;decide),λt ht=>?_⟩;refine q _ hp _ _ (t5.aB ht) ⟨t,rfl,?_⟩;dsimp only;rw[e];exact bX.new
inductive PN (K:Frag)(vs:List V)(H:Hp)(Q:VK)(E:XK):Prop|mk(f:Str)(a:Addr)(ns:List Int):vs=[.str f,.ref a]->ai K H a ((ns.map M20.gk).map V.str)->((f=Str.ofString "card"\/(ns.length:Int)=M20.jv f))->((∀n∈ns,1<=n/\n<=999))->ns.length<=1000->(∀(l:Addr)(H':Hp),ae H H'->H l=none->H' l=some (.lst (ns.map V.int))->Q (.ref l) H')->PN K vs H Q E
theorem zis(F:aL K "read_couples" "read_couples" Je f fd)(T:Txt K mg)(c1c:aK P w K mg base 1 "due_couples" ["first"] (Ow K))(c1d:aK P w K mg base 3 "read_couple" ["word"] (Pj K)):ar P w K mg base aX 4 f fd Jf (PN K):=by
 refine F.ok Yn ?_ ?_
 .rintro _ _ _ _⟨f,a,ns,rfl,_⟩;rfl
 .rintro aG A outer s H vs Q E hr⟨f,a,ns,rfl,hA,hd,hn,hz,q⟩;refine⟨_,(zc (qK (zw (PW.pt (AQ (zk gv (pv 0) zp (zl _)) (AO (zk gv (yj T.ay (pv 1)) (zh c1c (hM hr) rfl (za (pv 0) zb)) (zl _))))) (zd yx) zm))
   (zd (zi (zQ (show ak (zf Je) ["first","words"] "word" [] [] _ from cZ) rfl (zz (pv 1)) (λ_ _ _ _ _=>yk) (λ_ _ _ _ _=>(zh c1d (hM hr) rfl (za (pv 0) zb))))))),?_⟩
  have bY:=zq;refine⟨λσ' H'=>σ'=[some (.str f),some (.ref a)]/\H'=H,?_,?_⟩
  .refine⟨_,rfl,rfl,_,rfl,yn (λhc=>?_) (λhc=>?_)⟩
   .have Cg:(ns.length:Int)=M20.jv f:=by
     rcases hd with e | e
     .exact q02 (by rw[e]) hc
     .exact e
    exact⟨_,rfl,a,_,rfl,.inl hA,_,rfl,f,rfl,rfl,_,rfl,qg (by rw[q06,q06,Cg]) ⟨rfl,rfl⟩⟩
   .exact⟨rfl,rfl⟩
  rintro σ' H1 ⟨rfl,rfl⟩;refine⟨_,rfl,a,rfl,⟨_,hA⟩,?_⟩;refine zU (xs:=(ns.map M20.gk).map V.str) (λi ys H2=>ae H1 H2/\ys=(ns.take i).map V.int) ⟨ae.refl _,rfl⟩ ?_ (by rw[q06,q06];lia) ?_ ?_
  .rintro i ys H2 hi ⟨s2,rfl⟩;refine⟨s2.seq hA,?_⟩;rw[q06,q11]
   lia
  .rintro i x ys H2 hx ⟨s2,rfl⟩;rw[q26,q26]at hx;cases en:ns[i]? with
   | none=>rw[en]at hx;cases hx
   | some n =>
     rw[en]at hx;cases hx;refine⟨_,rfl,n,rfl,hn n (mem_of_getElem? en),λH3 s3=>⟨s2.trans s3,?_⟩⟩;rw[take_succ,en,q07];rfl
  .rintro ys H2 ⟨s2,rfl⟩ l hl;rw[q06,q06,q15];exact q l _ (s2.aB hl) (s2.free hl) ze
inductive PQ (K:Frag)(vs:List V)(H:Hp)(Q:VK)(E:XK):Prop|mk(x:Addr)(F:Addr->Prop)(S:Sh)(p c:Int):vs=[.ref x,.int p,.int c]->aq K H x F S->c∈S.aa->p.natAbs<=990->(∀H',ae H H'->Q (.str (M6.vQ p c (M5.zn S.ao c) S.aa.length)) H')->PQ K vs H Q E
theorem zmq(F:aL K "row_text" "row_text" FC f fd)(T:Txt K mg)(Dm:aK P w K mg base 2 "marks_of" CP (FV K))(c1e:aK P w K mg base 3 "ladder_of" IS (Pf K))(gh:bE P w K mg base 1 (zK K "Sheet") "couples" zD (zE K))(tK:bE P w K mg base 3 (zK K "Sheet") "cards" yh (yr K)):ar P w K mg base aX 4 f fd Jg (PQ K):=by
 refine F.ok FD ?_ ?_
 .rintro _ _ _ _⟨x,F,S,p,c,rfl,_⟩;rfl
 .rintro aG A outer s H vs Q E hr⟨x,F,S,p,c,rfl,aR,hc,hp,q⟩;refine⟨_,(zc (zt (i:=3) FD.nd rfl (Or.inl rfl) (zh Dm (hM hr) rfl (za (zI tK T.ah (hM hr) (pv 0)) (za (pv 2) zb))))
   (zc (zt (i:=4) FD.nd rfl (Or.inl rfl) (zh c1e (hM hr) rfl (za (pv 3) (za (yj T.ay (zI gh T.ah (hM hr) (pv 0))) zb))))
   (zc (zt (i:=5) FD.nd rfl (Or.inl rfl) (zF (za (zG wH (by rfl) T.b8 boot_str (za (pv 1) zb)) (za (zG wH (by rfl) T.b8 boot_str (za (pv 2) zb)) zb))))
   (zc (Sj (i:=6) (show aU (zf FC) NO "many" "total" [] [] _ from sd) rfl FD.nd rfl (Or.inl rfl) (zz (pv 4)) (λ_ _ _ _ _=>yk) (λ_ _ _ _ _=>(Hb (yZ (vi (pv 0)) (yZ zp (yZ (vi (pv 1)) Ha))))))
   (zd (zi (wb PySem.F.plainAttrs_str PySem.F.slot_str_join PySem.F.type_str_join ES zp (za (zo wy (zo wy (zo wy (zo wy (pv 5) (zF (za zp zb))) (zQ (show ak (zf FC) NO "mark" [] [] _ from cZ) rfl (zz (pv 3)) (λ_ _ _ _ _=>yk) (λ_ _ _ _ _=>(zG wH (by rfl) T.b8 boot_str (za (pv 0) zb))))) (zF (za zp zb))) (pv 6)) zb)))))))),?_⟩
  have bY:=zq;have ok:=aR.ok;have gf:S.handed.length<=15:=q38 (q09 _ _) ok.dw;have Uv:=Sh.aI S;have bT:=Sh.aM ok;have cQ:=ok.cQ;have PR:=ok.cO c hc;obtain⟨dx,b1,b2,b3,d,hi⟩:=aR.ins;refine⟨_,rfl,x,dx,_,rfl,hi,rfl,x,F,S,rfl,aR,λl1 H1 ks s1 f1 e1 r1=>?_⟩;refine⟨_,rfl,l1,S.ao,c,rfl,⟨ks,ai.of e1,r1.imp λ_ _ z=>ai.of z.2⟩,by lia,λd hd=>(bT d hd).mem_iff.mpr hc,λl2 H2 s2 f2 e2=>?_⟩;have hx:∀y∈M5.zn S.ao c,1<=y/\y<=24:=λy hy=>by have:=M6.yA bT hc y hy;lia
  have OW:=M5.ya S.ao c;generalize M5.zn S.ao c=ms at e2 OW hx q;have t2:=s1.trans s2;refine⟨_,rfl,_,rfl,x,dx,_,rfl,t2 _ _ hi,rfl,x,F,S,rfl,aR.same t2,λl3 H3 s3 f3 e3=>?_⟩;refine⟨l3,_,rfl,.inl (ai.of e3),?_⟩;rw[q06];refine⟨l2,ms,_,rfl,ai.of (s3 _ _ e2),by lia,by lia,by lia,λl4 H4 ls s4 f4 e4 r4=>?_⟩;rw[show((S.aa.length:Nat):Int).toNat=S.aa.length by lia]at r4;have t4:=(t2.trans s3).trans s4;refine⟨_,rfl,.inl ⟨_,rfl,yJ (by lia),_,rfl,.inl ⟨_,rfl,yJ (by lia),(by show 2<=sizeLine;decide),λl5 gg=>?_⟩⟩⟩;have s5:=ae.new (o:=.lst ([tN p,tN c].map V.str)) gg;have e5:upd H4 l5 (.lst ([tN p,tN c].map V.str)) l5=some (.lst ([tN p,tN c].map V.str)):=ze;change ae H4 (upd H4 l5 (.lst [.str (Str.ofString (toString p)),.str (Str.ofString (toString c))]))at s5;change upd H4 l5 (.lst [.str (Str.ofString (toString p)),.str (Str.ofString (toString c))]) l5=_ at e5;generalize CT:upd H4 l5 _=H5 at s5 e5 ⊢;have UI:=s5 _ _ e4;have r45:=r4.imp λ_ _=>gD.stays K _ _ _ _ s5;refine⟨_,rfl,l4,rfl,⟨_,ai.of UI⟩,?_⟩;refine MH (f:=M6.Fe) (ai.of UI) r45 (by rw[M6.HA];lia) (λpr H' R kK s' h=>?_) λH6 s6=>?_
  .obtain⟨k,hk,rfl⟩:=q25.mp kK;have Og:=M3.vJ ms ((k:Int)+1);have B0:=M6.ME hx ((k:Int)+1);have uz:=M6.MF (by lia) hx ((k:Int)+1);dsimp only at h ⊢;refine⟨_,rfl,.inl ⟨_,rfl,yJ (by lia),_,rfl,?_,_,rfl,?_,_,rfl,.inl ⟨_,rfl,yJ (by lia),_,rfl,?_,?_,?_⟩⟩⟩
   all_goals unfold tN at uz
   all_goals have l0:Str.empty.length=0:=rfl
   all_goals have l1:(Str.ofString "/").length=1:=M6.HC
   .rw[zu];lia
   .rw[zu,zu];lia
   .rw[zu,zu,zu];lia
   .rw[zu,zu,zu];lia
   .rw[M6.MG];exact h H' (ae.refl _)
  intro l6 Al;have s7:=(s5.trans s6).aB (o:=.lst ((M6.jb ms S.aa.length).map V.str)) Al;have e7:upd H6 l6 (.lst ((M6.jb ms S.aa.length).map V.str)) l6=some (.lst ((M6.jb ms S.aa.length).map V.str)):=ze;have PU:=(s6.aB (o:=.lst ((M6.jb ms S.aa.length).map V.str)) Al) _ _ e5;change ae H4 (upd H6 l6 (.lst (((M6.oW ms S.aa.length).map M6.Fe).map V.str)))at s7;change upd H6 l6 (.lst (((M6.oW ms S.aa.length).map M6.Fe).map V.str)) l6=_ at e7;change upd H6 l6 (.lst (((M6.oW ms S.aa.length).map M6.Fe).map V.str)) l5=_ at PU;generalize hH7:upd H6 l6 _=H7 at s7 e7 PU ⊢;have m7:H7 l2=some (.lst (ms.map V.int)):=s7 _ _ (s4 _ _ (s3 _ _ e2));refine⟨rfl,_,rfl,(by show 1<=sizeLine;decide),λl7 kH=>?_⟩;have s8:=ae.new (o:=.lst [.str M6.bar]) kH;change ae H7 (upd H7 l7 (.lst [.str (Str.ofString "|")]))at s8;refine⟨l5,l7,_,[.str M6.bar],rfl,rfl,s8 _ _ PU,ze,(by show 3<=sizeLine;decide),λl8 uA=>?_⟩;have s9:=s8.aB (o:=.lst (([tN p,tN c]++[M6.bar]).map V.str)) uA;have e9:upd (upd H7 l7 (.lst [.str (Str.ofString "|")])) l8 (.lst (([tN p,tN c]++[M6.bar]).map V.str)) l8=some (.lst (([tN p,tN c]++[M6.bar]).map V.str)):=ze;change ae H7 (upd (upd H7 l7 (.lst [.str (Str.ofString "|")])) l8 (.lst ([tN p,tN c].map V.str++[.str M6.bar])))at s9;change upd (upd H7 l7 (.lst [.str (Str.ofString "|")])) l8 (.lst ([tN p,tN c].map V.str++[.str M6.bar])) l8=_ at e9;generalize hH9:upd (upd H7 l7 _) l8 _=H9 at s9 e9 ⊢;have m9:=s9 _ _ m7;refine⟨_,rfl,l2,rfl,⟨_,ai.of m9⟩,?_⟩;refine S4 (f:=tN) (ai.of m9) (by lia) (λy H' R hy s' h=>⟨_,rfl,.inl ⟨_,rfl,yJ (by have:=hx y hy;lia),h H' (ae.refl _)⟩⟩) λkI iq=>?_;intro l9 vW;have gm:=iq.aB (o:=.lst ((ms.map tN).map V.str)) vW;refine⟨l8,l9,_,_,rfl,rfl,gm _ _ e9,ze,by rw[q06,q06,q06];simp only[q08,q12,length_nil];lia,λfA fL=>?_⟩;rw[<-q07];have cN:=gm.aB (o:=.lst (([tN p,tN c]++[M6.bar]++ms.map tN).map V.str)) fL;have iw:upd (upd kI l9 (.lst ((ms.map tN).map V.str))) fA (.lst (([tN p,tN c]++[M6.bar]++ms.map tN).map V.str)) fA=some (.lst (([tN p,tN c]++[M6.bar]++ms.map tN).map V.str)):=ze;generalize xb:upd (upd kI l9 _) fA _=mv at cN iw ⊢;refine⟨(by show 1<=sizeLine;decide),λjB jC=>?_⟩;have cA:=ae.new (o:=.lst [.str M6.bar]) jC;change ae mv (upd mv jB (.lst [.str (Str.ofString "|")]))at cA;refine⟨fA,jB,_,[.str M6.bar],rfl,rfl,cA _ _ iw,ze,by rw[q06];simp only[q08,q06,q12,length_nil];lia,λgU jD=>?_⟩;rw[show([tN p,tN c]++[M6.bar]++ms.map tN).map V.str++[V.str M6.bar]=([tN p,tN c]++[M6.bar]++ms.map tN++[M6.bar]).map V.str by rw[q07 (l₂:=[M6.bar])];rfl];have jQ:=cA.aB (o:=.lst (([tN p,tN c]++[M6.bar]++ms.map tN++[M6.bar]).map V.str)) jD;have d7:upd (upd mv jB (.lst [.str (Str.ofString "|")])) gU (.lst (([tN p,tN c]++[M6.bar]++ms.map tN++[M6.bar]).map V.str)) gU=some (.lst (([tN p,tN c]++[M6.bar]++ms.map tN++[M6.bar]).map V.str)):=ze;generalize F7:upd (upd mv jB _) gU _=F8 at jQ d7 ⊢;have FT:=M6.S2 ms S.aa.length;refine⟨_,rfl,gU,l6,_,_,rfl,rfl,d7,jQ _ _ (cN _ _ (s9 _ _ e7)),by simp only[q08,q06,q12,length_nil];lia,λiG eG=>?_⟩;rw[<-q07];refine⟨_,iG,M6.km p c ms S.aa.length,rfl,rfl,ai.new,by decide +kernel,?_,M6.S3 (by lia) hx hp (by lia) _,?_⟩
  .unfold M6.km;simp only[q08,q06,q12,length_nil]
   lia
  .exact q _ ((((((t4.trans s7).trans s9).trans cN).trans jQ)).aB eG)
inductive PV (K:Frag)(vs:List V)(H:Hp)(Q:VK)(E:XK):Prop|mk(a b c:Addr)(ts:List Str) (cs:List (List Int)) (us:List Int):vs=[.ref a,.ref b,.ref c]->ai K H a (ts.map V.str)->Refs K (IL K) H b cs->ai K H c (us.map V.int)->cs.length=ts.length->ts.length<=15->us.length<=24->((∀d∈cs,d=[]\/d.Perm us))->(2<=(cs.filter λd => !decide (d=[])).length)->((∀z∈nT ts cs us ts.length,z.length<=8))->(nT ts cs us ts.length).length<=15->(∀H',ae H H'->Q (.str (M6.uy (nT ts cs us ts.length))) H')->PV K vs H Q E
theorem tO(ws:List Str):fR (ws.map V.str) []=decide (ws=[]):=by
 cases ws with
 | nil=>rfl
 | cons _ _=>rfl
theorem zge(F:aL K "_law_decide_text" "_law_decide_text" NP f fd)(T:Txt K mg)(tF:aK P w K mg base 1 "_law_words" yy (yS K))(c1f:aK P w K mg base 4 "_law_deciding" IZ (Pt K)):ar P w K mg base aX 5 f fd wA (PV K):=by
 refine F.ok T2 ?_ ?_
 .rintro _ _ _ _⟨a,b,c,ts,cs,us,rfl,_⟩;rfl
 .rintro aG A outer s H vs Q E hr⟨a,b,c,ts,cs,us,rfl,hA,hB,hC,h1,h2,h3,h4,h5,h6,h7,q⟩;refine⟨_,(zc (zt (i:=3) T2.nd rfl (Or.inl rfl) (zh c1f (hM hr) rfl (za (pv 0) (za (pv 1) (za (pv 2) zb)))))
   (zc (zw (zk (Cw hr.bp) (pv 3) (zF zb) (zl _)) (zd (zi zp)) zm)
   (zd (zi (zh tF (hM hr) rfl (za (pv 3) zb)))))),?_⟩
  have bY:=zq;refine⟨_,rfl,_,rfl,_,rfl,a,b,c,ts,cs,us,rfl,hA,hB,hC,h1,by lia,by lia,h4,h5,λl H1 s1 f1 e1=>?_⟩;refine⟨_,rfl,(by decide),λl5 gg=>?_⟩;have s5:=s1.aB (o:=.lst []) gg;have e5:=(ae.new (o:=.lst []) gg) _ _ e1;refine⟨l,l5,_,_,rfl,rfl,ai.of e5,ai.new,M20.HH _,rfl,_,rfl,?_⟩;rw[tO];refine yO (λh0=>?_) (λh0=>?_)
  .have:=q _ s5;unfold M6.uy at this;rw[q01 h0]at this;exact this
  .refine⟨_,rfl,l,_,nT ts cs us ts.length,rfl,ai.of e5,CM _,by lia,λw hw=>by have:=h6 w hw;lia,λH4 s4=>?_⟩;have:=q _ (s5.trans s4);unfold M6.uy at this;rw[q00 h0]at this;exact this
inductive PX (K:Frag)(vs:List V)(H:Hp)(Q:VK)(E:XK):Prop|mk(a b:Addr) (rs:List (List Int)) (ms:List Int):vs=[.ref a,.ref b]->Refs K (IL K) H a rs->ai K H b (ms.map V.int)->((∀r∈rs,r.length=ms.length/\∀x∈r,1<=x/\x<=24))->((∀x∈ms,1<=x/\x<=24))->1<=ms.length->ms.length<=60->rs.length<=1000->(∀H',ae H H'->Q (.int (1+((rs.filter λr=>M6.yq r ms 24).length:Int))) H')->PX K vs H Q E
theorem zja(F:aL K "place_among" "place_among" Jh f fd)(T:Txt K mg)(c1g:aK P w K mg base 4 "is_ahead" Jc (PK K)):ar P w K mg base aX 5 f fd Ji (PX K):=by
 refine F.ok Yo ?_ ?_
 .rintro _ _ _ _⟨a,b,rs,ms,rfl,_⟩;rfl
 .rintro aG A outer s H vs Q E hr⟨a,b,rs,ms,rfl,⟨ls,hS,hR⟩,hB,PY,hm,h1,hz,hzr,q⟩;refine⟨_,(zd (zi (zo yg zg (yj T.ay (zQ (show ak (zf Jh) ["rows","own"] "marks" ["own"] [1] _ from cZ) rfl (zz (pv 0)) (λ_ _ _ _ _=>(yI (yL (zh c1g (hM hr) rfl (za (pv 0) (za (pv 1) zb)))))) (λ_ _ _ _ _=>(pv 0))))))),?_⟩;have hlen:=hR.length;refine⟨_,rfl,a,rfl,⟨_,hS⟩,?_⟩;refine yN (xs:=ls.map V.ref) (λi ys H2=>ae H H2/\ys.length=((rs.take i).filter λr=>M6.yq r ms 24).length) ⟨ae.refl _,rfl⟩ ?_ (by rw[q06];have:=zq;lia) ?_ ?_
  .rintro i ys H2 hi ⟨s2,e2⟩;refine⟨s2.seq hS,?_⟩;rw[e2];have:=q09 (λr=>M6.yq r ms 24) (rs.take i);rw[q11]at this
   lia
  .rintro i x ys H2 hx ⟨s2,e2⟩;obtain⟨l,el,rfl⟩:=wK hx;obtain⟨d,ed,rd⟩:=hR.getL el;have hd:=PY d (mem_of_getElem? ed);refine⟨_,rfl,_,rfl,l,b,d,ms,rfl,s2.seq rd,s2.seq hB,hd.1,by lia,by lia,hd.2,hm,λH3 s3=>⟨_,rfl,vf (λhb=>?_) (λhb=>?_)⟩⟩
   .refine⟨_,rfl,s2.trans s3,?_⟩;rw[take_succ,ed,q16,q08,q08,e2];show _=_+(filter (λr=>M6.yq r ms 24) [d]).length;rw[q17,q01 hb];rfl
   .refine⟨s2.trans s3,?_⟩;rw[take_succ,ed,q16,q08,e2];show _=_+(filter (λr=>M6.yq r ms 24) [d]).length;rw[q17,q00 (by rw[hb];exact q23)];rfl
  .rintro ys H2 ⟨s2,e2⟩ l hl;rw[q06,hlen,q15]at e2;refine⟨l,_,rfl,.inl ai.new,_,_,rfl,rfl,?_⟩;rw[e2];exact q _ (s2.aB hl)
inductive PZ (K:Frag)(vs:List V)(H:Hp)(Q:VK)(E:XK):Prop|mk(f j:Str)(ns:List Int):vs=[.str (M20.row f j ns)]->M20.Row f j ns->(∀(t l:Addr)(H':Hp),ae H H'->H t=none->H l=none->H' t=some (.tup [.str f,.str j,.ref l])->H' l=some (.lst (ns.map V.int))->Q (.ref t) H')->PZ K vs H Q E
theorem zm1(F:aL K "read_row" "read_row" NQ f fd)(T:Txt K mg)(UJ:aK P w K mg base 4 "read_couples" Jf (PN K)):ar P w K mg base aX 5 f fd ["row"] (PZ K):=by
 refine F.ok NR ?_ ?_
 .rintro _ _ _ _⟨f,j,ns,rfl,_⟩;rfl
 .rintro aG A outer s H vs Q E hr⟨f,j,ns,rfl,hR,q⟩;refine⟨_,(zc (zt (i:=1) NR.nd rfl (Or.inl rfl) (wb PySem.F.plainAttrs_str PySem.F.slot_str_split PySem.F.type_str_split rq (pv 0) (za zp zb)))
   (zc (zw (zk Rx zp (pv 1) (by first | exact zl _ | rfl)) (zd yx) zm)
   (zc (zt (i:=2) NR.nd rfl (Or.inl rfl) (zB zv (pv 1) zg (λ_ _=>rfl)))
   (zc (zw (zk yz (pv 2) (zo lj (zo lj (EF T.iQ rfl) (EF T.eP rfl)) (EF T.dU rfl)) (by first | exact zl _ | rfl)) (zd yx) zm)
   (zc (zw (zk yz (pv 2) (EF T.eP rfl) (by first | exact zl _ | rfl)) (zd (zi (mP (za (pv 2) (za zp (za (zh UJ (hM hr) rfl (za (pv 2) (za (yo wC (pv 1) (yH zg) y9) zb))) zb)))))) zm)
   (zc (zw (zk yB (yj T.ay (pv 1)) zg (zl _)) (zd yx) zm)
   (zd (zi (mP (za (pv 2) (za (zB zv (pv 1) zg (λ_ _=>rfl)) (za (zh UJ (hM hr) rfl (za (pv 2) (za (yo wC (pv 1) (yH zg) y9) zb))) zb)))))))))))),?_⟩
  have bY:=zq;have oB:=M20.vR hR;have Ef:=M20.S8 hR;have hZ:=M20.nV hR;refine⟨_,rfl,rfl,_,_,rfl,rfl,by decide +kernel,by lia,by rw[M20.MJ,hZ];lia,λl1 c9=>?_⟩;rw[M20.MJ,hZ];have s1:=ae.new (o:=.lst ((M20.jN f j ns).map V.str)) c9;have e1:upd H l1 (.lst ((M20.jN f j ns).map V.str)) l1=some (.lst ((M20.jN f j ns).map V.str)):=ze;generalize Oj:upd H l1 _=H1 at s1 e1 ⊢;refine⟨_,rfl,l1,_,rfl,.inl (ai.of e1),rfl,M20.HH _,_,rfl,zH (M20.sU hR) ?_⟩;refine⟨_,rfl,l1,_,_,.str f,rfl,rfl,ai.of e1,zP (j:=0) rfl,?_⟩;refine⟨_,rfl,λa1 h1=>λa2 h2=>⟨a1,a2,_,_,rfl,rfl,h1 _,h2 _,by decide,by decide,(λz=>by cases z),λ_ p hp=>λa3 h3=>⟨p,a3,_,_,rfl,rfl,.inl (.inl ze),h3 _,by decide,by decide,(λz=>by cases z),λ_ p2 sf=>?_⟩⟩⟩;have s3:=(ae.aB s1 (o:=.tup (map V.str ["seal","couples","places","parts","deciders"]++map V.str ["card","show","leave","step"])) hp).aB (o:=.tup ((map V.str ["seal","couples","places","parts","deciders"]++map V.str ["card","show","leave","step"])++map V.str ["strike","step","row"])) sf;have e3:=(ae.aB (ae.new (o:=.tup (map V.str ["seal","couples","places","parts","deciders"]++map V.str ["card","show","leave","step"])) hp) (o:=.tup ((map V.str ["seal","couples","places","parts","deciders"]++map V.str ["card","show","leave","step"])++map V.str ["strike","step","row"])) sf) _ _ e1;refine⟨p2,_,rfl,.inr (.inl (.inl ze)),rfl,by rfl,_,rfl,zH ?_ ?_⟩
  .show(!M20.dD f (M20.sS++M20.wl++M20.uw))=false;rw[hR.eO];rfl
  generalize jP:upd (upd H1 p _) p2 _=H3 at s3 e3 ⊢;refine⟨_,rfl,λa4 h4=>⟨a4,_,rfl,.inr (h4 _),rfl,by rfl,_,rfl,?_⟩⟩;show if(!M20.dD f M20.wl)=true then _ else _
  cases hJ:M20.dD f M20.wl with
  | false =>
    have ej:=hR.Fg hJ;have ew:(M20.jN f j ns).map V.str=.str f::(ns.map M20.gk).map V.str:=by
     unfold M20.jN;rw[q00 (by rw[hJ];exact q23)];rfl
    rw[ew]at e3;refine oP ?_;refine⟨_,rfl,_,rfl,_,rfl,_,rfl,l1,_,rfl,ai.of e3,λl5 gg=>?_⟩;have s5:=ae.new (o:=.lst (k9 (.str f::(ns.map M20.gk).map V.str) (some 1) none)) gg;have e5:upd H3 l5 (.lst (k9 (.str f::(ns.map M20.gk).map V.str) (some 1) none)) l5=some (.lst ((ns.map M20.gk).map V.str)):=by rw[ze,Cu (by decide)];rfl
    refine⟨f,l5,ns,rfl,ai.of e5,hR.jv,hR.cO,by have:=hR.len;lia,λl6 H6 s6 f6 e6=>⟨(by show 3<=sizeLine;decide),λt7 B5=>?_⟩⟩;have sA:=(s3.trans s5).trans s6;rw[<-ej];exact q t7 l6 _ (sA.aB B5) (sA.free B5) ((s3.trans s5).free f6) ze ((ae.new B5) _ _ e6)
  | true =>
    have ew:(M20.jN f j ns).map V.str=.str f :: .str j::(ns.map M20.gk).map V.str:=by
     unfold M20.jN;rw[q01 hJ];rfl
    rw[ew]at e3;refine fP ?_;refine⟨_,rfl,l1,_,rfl,.inl (ai.of e3),rfl,_,rfl,zH ?_ ?_⟩
    .refine q20 λz=>?_;injection z with z
     simp only[q12,q06]at z
     lia
    refine⟨_,rfl,_,rfl,l1,_,_,.str j,rfl,rfl,ai.of e3,zP (j:=1) rfl,_,rfl,_,rfl,_,rfl,l1,_,rfl,ai.of e3,λl5 gg=>?_⟩;have s5:=ae.new (o:=.lst (k9 (.str f :: .str j::(ns.map M20.gk).map V.str) (some 2) none)) gg;have e5:upd H3 l5 (.lst (k9 (.str f :: .str j::(ns.map M20.gk).map V.str) (some 2) none)) l5=some (.lst ((ns.map M20.gk).map V.str)):=by rw[ze,Cu (by decide)];rfl
    refine⟨f,l5,ns,rfl,ai.of e5,hR.jv,hR.cO,by have:=hR.len;lia,λl6 H6 s6 f6 e6=>⟨(by show 3<=sizeLine;decide),λt7 B5=>?_⟩⟩;have sA:=(s3.trans s5).trans s6;exact q t7 l6 _ (sA.aB B5) (sA.free B5) ((s3.trans s5).free f6) ze ((ae.new B5) _ _ e6)
inductive P0 (K:Frag)(vs:List V)(H:Hp)(Q:VK)(E:XK):Prop|mk(a b c:Addr)(us:List Int)(ts:List Str) (cs:List (List Int)):vs=[.ref a,.ref b,.ref c]->ai K H a (us.map V.int)->ai K H b (ts.map V.str)->Refs K (IL K) H c cs->M1.oV us=true->M2.uq ts=true->cs.length=ts.length->((∀d∈cs,d=[]\/d.Perm us))->(∀(x:Addr)(H':Hp)(F:Addr->Prop)(S:Sh),aq K H' x F S->dk (λ_=>False) H F H'->S.aa=us->S.struck=[]->S.af=ts->S.rows=cs->S.taken=(cs.filter λd => !decide (d=[])).length->S.b7=false->Q (.ref x) H')->P0 K vs H Q E
theorem zlv(F:aL K "_law_sheet" "_law_sheet" NS f fd)(T:Txt K mg)(c1h:ni P w K mg base 4 "Sheet" (zK K "Sheet") IW (Pm K))(c1i:bL P w K mg base 2 (zK K "Sheet") "hand_in" Ir (OM K)):ar P w K mg base aX 6 f fd Jj (P0 K):=by
 refine F.ok NT ?_ ?_
 .rintro _ _ _ _⟨a,b,c,us,ts,cs,rfl,_⟩;rfl
 .rintro aG A outer s H vs Q E hr⟨a,b,c,us,ts,cs,rfl,hA,hB,⟨ls,hC,hR⟩,Df,JZ,hlen,hds,q⟩;refine⟨_,(zc (zt (i:=3) NT.nd rfl (Or.inl rfl) (rj c1h xP (hM hr) rfl (za (zG yf (by rfl) T.bQ boot_list (za (pv 0) zb)) (za (zG yf (by rfl) T.bQ boot_list (za (pv 1) zb)) zb))))
   (zc (wd PassesOwn.never rfl (yD rfl T.aT (za (yj T.ay (pv 1)) zb)) (zM (i:=4) NT.nd rfl (Or.inl rfl))
     (zd (zw (zk (CB hr.bp) (zB zv (pv 2) (pv 4) (λ_ _=>rfl)) (zF zb) (zl _)) (zd (zT (wS c1i T.ah xP (hM hr) (pv 3) (za (zB zv (pv 1) (pv 4) (λ_ _=>rfl)) (za (zG yf (by rfl) T.bQ boot_list (za (zB zv (pv 2) (pv 4) (λ_ _=>rfl)) zb)) zb))))) zm)))
   (zd (zi (pv 3))))),?_⟩
  have bY:=zq;obtain⟨⟨u1,JP⟩,UK,UL⟩:=(M1.Sn us).mp Df;obtain⟨⟨p1,dw⟩,UM,Gg⟩:=(M2.Mg ts).mp JZ;refine⟨_,rfl,a,_,rfl,.inl hA,λl3 eF=>?_⟩;have s3:=ae.new (o:=.lst (us.map V.int)) eF;refine⟨_,rfl,b,_,rfl,.inl (s3.seq hB),λl4 jO=>?_⟩;have s4:=ae.new (o:=.lst (ts.map V.str)) jO;intro x dx hx hdx hxd;have s5:=(ae.new (o:=.own x) hdx).aB (o:=.ins (zK K "Sheet") dx []) (l:=x) (by rw[zj (Ne.symm hxd)];exact hx);refine⟨x,dx,l3,l4,us,ts,rfl,ze,ai.of (s5 _ _ (s4 _ _ ze)),by lia,ai.of (s5 _ _ ze),by lia,λz hz=>?_,λz=>?_,λ_ z=>?_,λ_ _ H5 F aR Gh=>⟨rfl,?_⟩⟩
  .have:=(Gg z hz).1;lia
  .rw[Df]at z;cases z
  .rw[JZ]at z;cases z
  have FR:=(s3.trans s4).trans s5;have hx2:H x=none:=(s3.trans s4).free hx;have kp:dk (λ_=>False) H F H5:=λb o e _=>Gh b o (FR _ _ e) (zr e hx2);have hB5:=(ai.none hB).gF kp;refine⟨_,rfl,b,_,rfl,.inl hB5.sq,_,rfl,by lia,by rw[q06];lia,?_⟩;rw[q06,show((ts.length:Nat):Int).toNat=ts.length by lia];refine ym (λi σ H6=>∃(v:Option V)(F:Addr->Prop)(S:Sh),σ=[some (.ref a),some (.ref b),some (.ref c),some (.ref x),v]/\aq K H6 x F S/\dk (λ_=>False) H F H6/\S.aa=us/\S.struck=[]/\S.af=ts/\S.b7=false/\S.taken=((cs.take i).filter λd => !decide (d=[])).length/\S.rows=cs.take i++(List.range (ts.length-i)).map λ_=>([]:List Int)) ⟨_,F,Sh.new us ts,rfl,aR,kp,rfl,rfl,rfl,rfl,rfl,?_⟩ ?_ ?_
  .show ts.map (λ_=>([]:List Int))=_;rw[take_zero,nil_append,Nat.sub_zero];refine ext_getElem (by simp) λi h1 h2=>?_;simp
  .rintro i σ H6 hi ⟨v,F,S,rfl,g1,g2,g3,g4,g5,g6,g7,g8⟩;obtain⟨m,em,rm⟩:=hR.at (i:=i) (by lia) [];have J0:i<cs.length:=by lia
   have UN:=(ai.none hC).gF g2;have hB6:=(ai.none hB).gF g2;have UO:=(ai.none rm).gF g2;have ei:((0:Int)+(i:Int)).toNat=i:=by lia
   refine⟨_,rfl,_,rfl,c,_,_,_,rfl,rfl,UN.sq,Bl (by lia) (by rw[ei];exact wM em),(by show 0<=sizeLine;decide),λl7 kH=>?_⟩;have s7:=ae.new (o:=.lst []) kH;refine⟨m,l7,_,[],rfl,rfl,s7.seq UO.sq,ai.new,zC _,rfl,_,rfl,?_⟩;rw[show fR ((cs.getD i []).map V.int) []=decide (cs.getD i []=[])from yU _ []];have Dp:cs.take (i+1)=cs.take i++[cs.getD i []]:=by
    rw[take_succ,q31 J0,q18,q31 J0];rfl
   have Au:(List.range (ts.length-i)).map (λ_=>([]:List Int))=[]::(List.range (ts.length-(i+1))).map λ_=>([]:List Int):=by
    rw[show ts.length-i=(ts.length-(i+1))+1 by lia,range_succ_eq_map,map_cons,q32];rfl
   refine yn (λhb=>?_) (λhb=>?_)
   .have UP:(cs.getD i []).Perm us:=(hds _ (by rw[q18,q31 J0];exact q44 J0)).resolve_left hb;have hpl:=UP.length_eq;obtain⟨dx',b1,b2,b3,d',bT⟩:=(g1.same s7).ins;refine⟨_,rfl,x,dx',_,rfl,bT,rfl,_,rfl,_,rfl,b,_,_,_,rfl,rfl,s7.seq hB6.sq,Ez (by lia) (by lia),_,rfl,_,rfl,c,_,_,_,rfl,rfl,s7.seq UN.sq,Bl (by lia) (by rw[ei];exact wM em),m,_,rfl,.inl (s7.seq UO.sq),λl8 uA=>?_⟩;have s8:=ae.new (o:=.lst ((cs.getD i []).map V.int)) uA;have hjn:ts.getD i "" ∈ S.af:=by rw[g5];exact vk (by lia)
    have AaV:S.taken<200:=by
     rw[g7];have:=q09 (λd => !decide (d=[])) (cs.take i);rw[q11]at this
     lia
    have Dq:S.refuse (ts.getD i "") (cs.getD i [])=none:=by
     unfold Sh.refuse;rw[q00 (by rw[g6];exact q23),q01 hjn,q01 (by rw[g3];exact UP),q00 (by lia)]
    rw[ei];refine⟨x,F,S,_,l8,cs.getD i [],rfl,(g1.same s7).same s8,ai.new,by lia,(λe he=>by rw[Dq]at he;cases he),λ_ H9 F' h9 d9=>?_⟩;refine⟨_,F',S.hand (ts.getD i "") (cs.getD i []),rfl,h9,(g2.trans (dk.same (s7.trans s8))).trans d9,g3,g4,g5,g6,?_,?_⟩
    .show S.taken+1=_;rw[Dp,q16,q08,g7,q17,q01 (by rw[q20 hb];rfl)];rfl
    .have:=Sh.iE (S:=S) g1.ok.so (k:=i) (by rw[g5];lia) (cs.getD i []);rw[g5]at this;rw[this,g8,Au,Dp,List.set_append,q00 (by rw[q11];lia)];rw[show i-(cs.take i).length=0 by rw[q11];lia,List.set_cons_zero,append_assoc];rfl
   .refine⟨_,F,S,rfl,g1.same s7,g2.trans (dk.same s7),g3,g4,g5,g6,?_,?_⟩
    .rw[Dp,q16,q08,g7,q17,q00 (by rw[q19 hb];decide)];rfl
    .rw[g8,Au,Dp,hb,append_assoc];rfl
  .rintro σ H6 ⟨v,F,S,rfl,g1,g2,g3,g4,g5,g6,g7,g8⟩;refine⟨_,rfl,q x H6 F S g1 g2 g3 g4 g5 ?_ ?_ g6⟩
   .rw[g8,Nat.sub_self,<-hlen,q15];exact append_nil _
   .rw[g7,<-hlen,q15]
inductive P1 (K:Frag)(vs:List V)(H:Hp)(Q:VK)(E:XK):Prop|mk(a b c:Addr)(S:Sh):vs=[.ref a,.ref b,.ref c]->ai K H a (S.af.map V.str)->Refs K (IL K) H b S.rows->ai K H c (S.aa.map V.int)->S.Ok->((∀z∈S.af,z.length<=8))->(∀(l:Addr)(H':Hp),ae H H'->H l=none->H' l=some (.lst (([S.aA .iF,S.aA .dC,S.aA .ky,S.aA .mj]:List Str).map V.str))->Q (.ref l) H')->P1 K vs H Q E
theorem zlI(F:aL K "_law_plain" "_law_plain" Jk f fd)(T:Txt K mg)(vZ:aK P w K mg base 2 "_law_spots" yP (wB K))(tF:aK P w K mg base 1 "_law_words" yy (yS K))(FX:aK P w K mg base 2 "_law_spot_text" yE (wg K))(c1j:aK P w K mg base 3 "_law_part_text" IH (O7 K))(c1k:aK P w K mg base 5 "_law_decide_text" wA (PV K)):ar P w K mg base aX 6 f fd Jl (P1 K):=by
 refine F.ok Jm ?_ ?_
 .rintro _ _ _ _⟨a,b,c,S,rfl,_⟩;rfl
 .rintro aG A outer s H vs Q E hr⟨a,b,c,S,rfl,hT,hA,hB,ok,h8,q⟩;refine⟨_,(zc (yu (i:=3) (show ak (zf Jk) T3 "_law_card_here" [] [] _ from cZ) rfl Jm.nd rfl (Or.inl rfl) (zz (pv 1)) (λ_ _ _ _ _=>(yI (zk (ww (K:=K) rfl hr.bp) (pv 0) (zF zb) (zl _)))) (λ_ _ _ _ _=>(pv 0)))
   (zc (zt (i:=4) Jm.nd rfl (Or.inl rfl) (zF (za (zh tF (hM hr) rfl (za (pv 2) zb)) (za zp (za zp (za zp zb))))))
   (zc (qK (zw (zk uR (yj T.ay (pv 3)) zg (zl _)) (zc (zt (i:=5) Jm.nd rfl (Or.inl rfl) (zh vZ (hM hr) rfl (za (pv 3) (za (pv 2) zb))))
   (zc (GP (zh FX (hM hr) rfl (za (pv 5) (za (pv 2) zb))) (GO (pv 4) zg GZ))
   (zd (GP (zh c1j (hM hr) rfl (za (pv 3) (za (pv 2) (za (pv 5) zb)))) (GO (pv 4) zg GZ))))) zm))
   (zc (zw (zk uR (yj T.ay (pv 3)) zg (zl _)) (zd (GP (zh c1k (hM hr) rfl (za (pv 0) (za (pv 1) (za (pv 2) zb)))) (GO (pv 4) zg GZ))) zm)
   (zd (zi (pv 4))))))),?_⟩
  have bY:=zq;have cQ:=ok.cQ;have dw:=ok.dw;have oB:=Sh.bq S;obtain⟨ls,hl,hR⟩:=id hA;have Gi:=Sh.aM ok;have fT:=Sh.aI S;have gf:S.handed.length<=15:=q38 (q09 _ _) dw;have PR:=Sh.bP ok;refine⟨_,rfl,b,rfl,⟨_,hl⟩,?_⟩;refine CL hl hR (by lia) (λm d H' R hm h=>?_) (λm H' R h=>⟨_,rfl,h⟩) λks H1 s1 r1=>?_
  .refine⟨_,rfl,(by show 0<=sizeLine;decide),λiG eG=>?_⟩;have cA:=ae.new (o:=.lst []) eG;refine⟨m,iG,_,[],rfl,rfl,cA.seq hm,ai.new,zC _,rfl,_,rfl,?_⟩;rw[show fR (d.map V.int) []=decide (d=[])from yU _ []];exact h _ cA
  intro l2 cX;have s2:=ae.new (o:=.lst (ks.map V.ref)) cX;have e2:upd H1 l2 (.lst (ks.map V.ref)) l2=some (.lst (ks.map V.ref)):=ze;have r2:=r1.imp λ_ _=>IL.stays K _ _ _ _ s2;rw[<-PR]at r2;generalize OX:upd H1 l2 _=H2 at s2 e2 r2 ⊢;have t2:=s1.trans s2;have JW:=r2.length;have AaZ:S.aA .iF=Txt.join M6.zY (S.aa.map tN):=rfl;refine⟨_,rfl,c,_,S.aa.map tN,rfl,t2.seq hB,HD λn hn=>(by have:=ok.cO n hn;lia),by rw[q06];lia,λx hx=>?_,λH3 s3=>?_⟩
  .obtain⟨n,hn,rfl⟩:=q25.mp hx;have:=M6.yp (ok.cO n hn)
   lia
  have t3:=t2.trans s3;have BW:=s3 _ _ e2;have r3:=r2.imp λ_ _=>IL.stays K _ _ _ _ s3;refine⟨(by show 4<=sizeLine;decide),λl4 jO=>?_⟩;have f4:=t3.free jO;have s4:=ae.new (o:=.lst [.str (S.aA .iF),.str (Str.ofString "refused: few"),.str (Str.ofString "refused: few"),.str (Str.ofString "refused: few")]) jO;have e4:upd H3 l4 (.lst [.str (S.aA .iF),.str (Str.ofString "refused: few"),.str (Str.ofString "refused: few"),.str (Str.ofString "refused: few")]) l4=some (.lst [.str (S.aA .iF),.str (Str.ofString "refused: few"),.str (Str.ofString "refused: few"),.str (Str.ofString "refused: few")]):=ze;rw[show Txt.join M6.zY (S.aa.map tN)=S.aA .iF from rfl];generalize Ak:upd H3 l4 _=H4 at s4 e4 ⊢;have j0:M6.Ah ("TooFewCards":Str)=Str.ofString "refused: few":=by decide +kernel
  have xg:∀d∈S.rows,d=[]\/d.Perm S.aa:=λd hd=>by
   obtain⟨j,hj,rfl⟩:=q25.mp hd;cases e:S.card j with
   | none=>exact .inl rfl
   | some d=>exact .inr (ok.cd j d e).2
  refine⟨λσ' H'=>∃v5:Option V,σ'=[some (.ref a),some (.ref b),some (.ref c),some (.ref l2),some (.ref l4),v5]/\ae H3 H'/\H' l4=some (.lst [.str (S.aA .iF),.str (S.aA .dC),.str (S.aA .ky),.str (Str.ofString "refused: few")]),?_,?_⟩
  .refine⟨_,rfl,l2,_,rfl,.inl (ai.of (s4 _ _ BW)),_,_,rfl,rfl,_,rfl,?_⟩;rw[q06,JW,fT];refine yO (λh0=>?_) (λh0=>?_)
   .have h1:1<=S.ao.length:=by lia
    have hpl:S.aA .dC=M6.n8 S.ao S.aa:=by
     unfold Sh.aA;rw[show S.bJ .dC=none from q00 (by lia)];rfl
    have kK:S.aA .ky=M6.uy ((M6.yl S.ao S.aa).map M6.vT):=by
     unfold Sh.aA;rw[show S.bJ .ky=none from q00 (by lia)];rfl
    have oA:∀u∈S.aa,∀e∈S.ao,u∈e:=λu hu e he=>(Gi e he).mem_iff.mpr hu;refine⟨_,rfl,_,rfl,l2,c,S.ao,S.aa,rfl,⟨ks,ai.of (s4 _ _ BW),r3.imp λ_ _=>IL.stays K _ _ _ _ s4⟩,(t3.trans s4).seq hB,by lia,by lia,oA,λl5 H5 s5 f5 e5=>?_⟩;rw[M6.E9 Gi h1]at e5;have n5:l5≠l4:=λz=>by rw[z,e4]at f5;cases f5
    have u5:=s4.trans s5;refine⟨_,rfl,_,rfl,l5,c,S.ao,S.aa,rfl,ai.of e5,(t3.trans u5).seq hB,by lia,ok.cO,λH6 s6=>?_⟩;have e46:=s6 _ _ (s5 _ _ e4);refine⟨_,rfl,l4,_,_,1,rfl,rfl,e46,rfl,?_⟩;rw[show Txt.join M6.zY ((M5.rows (M6.zA S.ao S.aa) S.aa).map M6.sY)=S.aA .dC from hpl.symm];have u6:=(u5.trans s6).put (o:=(.lst (List.set [V.str (S.aA .iF),.str (Str.ofString "refused: few"),.str (Str.ofString "refused: few"),.str (Str.ofString "refused: few")] 1 (.str (S.aA .dC))))) jO;have UQ:upd H6 l4 (.lst (List.set [V.str (S.aA .iF),.str (Str.ofString "refused: few"),.str (Str.ofString "refused: few"),.str (Str.ofString "refused: few")] 1 (.str (S.aA .dC)))) l5=some (.lst ((M6.zA S.ao S.aa).map V.int)):=by rw[zj n5];exact s6 _ _ e5
    have Gj:upd H6 l4 (.lst (List.set [V.str (S.aA .iF),.str (Str.ofString "refused: few"),.str (Str.ofString "refused: few"),.str (Str.ofString "refused: few")] 1 (.str (S.aA .dC)))) l4=some (.lst [V.str (S.aA .iF),.str (S.aA .dC),.str (Str.ofString "refused: few"),.str (Str.ofString "refused: few")]):=ze;generalize Om:upd H6 l4 _=H6' at u6 UQ Gj ⊢;refine⟨_,rfl,_,rfl,_,rfl,l2,c,l5,S.ao,S.aa,rfl,⟨ks,ai.of (u6 _ _ BW),r3.imp λ_ _=>IL.stays K _ _ _ _ u6⟩,(t3.trans u6).seq hB,ai.of UQ,by lia,by lia,oA,ok.cO,λH7 s7=>?_⟩;rw[<-kK];refine⟨_,rfl,l4,_,_,2,rfl,rfl,s7 _ _ Gj,rfl,?_⟩;exact⟨_,rfl,(u6.trans s7).put jO,ze⟩
   .have hpl:S.aA .dC=Str.ofString "refused: few":=by
     unfold Sh.aA;rw[show S.bJ .dC=some ("TooFewCards":Str)from q01 (by lia)];exact j0
    have kK:S.aA .ky=Str.ofString "refused: few":=by
     unfold Sh.aA;rw[show S.bJ .ky=some ("TooFewCards":Str)from q01 (by lia)];exact j0
    refine⟨_,rfl,s4,?_⟩;rw[hpl,kK];exact e4
  rintro σ7 H7 ⟨v5,rfl,s7,UR⟩;have t7:=t3.trans s7;refine⟨_,rfl,l2,_,rfl,.inl (ai.of (s7 _ _ BW)),_,_,rfl,rfl,_,rfl,?_⟩;rw[q06,JW,fT];refine yO (λh0=>?_) (λh0=>?_)
  .have P2:=Sh.ju ok;have m8:∀w∈S.decide,w∈S.af:=λw hw=>(q24.mp (q24.mp hw).1).1;have xR:S.decide.length<=S.af.length:=q38 (q09 _ _) (q09 _ _);have ER:S.aA .mj=M6.uy S.decide:=by
    unfold Sh.aA;rw[show S.bJ .mj=none from q00 (by lia)];rfl
   refine⟨_,rfl,_,rfl,_,rfl,a,b,c,S.af,S.rows,S.aa,rfl,t7.seq hT,Refs.same (IL.stays K) t7 hA,t7.seq hB,oB,dw,by lia,xg,by rw[<-PR];lia,λw hw=>h8 w (m8 w (by rw[P2];exact hw)),by rw[<-P2];lia,λH8 s8=>?_⟩;rw[<-P2,<-ER];refine⟨_,rfl,l4,_,_,3,rfl,rfl,s8 _ _ UR,rfl,?_⟩;exact⟨_,rfl,q l4 _ ((t7.trans s8).put f4) f4 ze⟩
  .have ER:S.aA .mj=Str.ofString "refused: few":=by
    unfold Sh.aA;rw[show S.bJ .mj=some ("TooFewCards":Str)from q01 (by lia)];exact j0
   refine⟨_,rfl,q l4 H7 t7 f4 ?_⟩;rw[ER];exact UR
inductive wx (K:Frag)(vs:List V)(H:Hp)(Q:VK)(E:XK):Prop|mk(a b:Addr) (cs:List (List Int)) (us:List Int):vs=[.ref a,.ref b]->Refs K (IL K) H a cs->ai K H b (us.map V.int)->us.Nodup->((∀d∈cs,d.Perm us))->1<=cs.length->cs.length<=15->1<=us.length->us.length<=24->(∀(l:Addr)(H':Hp),ae H H'->H l=none->H' l=some (.lst ((M6.zA cs us).map V.int))->Q (.ref l) H')->wx K vs H Q E
theorem zlF(F:aL K "places_of" "places_of" FE f fd)(T:Txt K mg)(Dm:aK P w K mg base 2 "marks_of" CP (FV K))(c1l:aK P w K mg base 5 "place_among" Ji (PX K)):ar P w K mg base aX 6 f fd yT (wx K):=by
 refine F.ok T4 ?_ ?_
 .rintro _ _ _ _⟨a,b,cs,us,rfl,_⟩;rfl
 .rintro aG A outer s H vs Q E hr⟨a,b,cs,us,rfl,hC,hU,CW,hp,c1,c2,u1,u2,q⟩;refine⟨_,(zc (zt (i:=2) T4.nd rfl (Or.inr rfl) (zQ (show ak (zf FE) NU "couple" ["cards"] [0] _ from cZ) rfl (zz (pv 1)) (λ_ _ _ _ _=>yk) (λ_ _ _ _ _=>(zh Dm (hM hr) rfl (za (pv 1) (za (pv 0) zb))))))
   (zd (zi (zQ (show ak (zf FE) NU "own" ["rows"] [2] _ from cZ) rfl (zz (pv 2)) (λ_ _ _ _ _=>yk) (λ_ _ _ _ _=>(zh c1l (hM hr) rfl (za (pv 1) (za (pv 0) zb)))))))),?_⟩
  have bY:=zq;refine⟨_,rfl,b,rfl,⟨_,hU⟩,?_⟩;refine zU (xs:=us.map V.int) (λi ys H2=>∃ks:List Addr,ys=ks.map V.ref/\ae H H2/\All2 (IL K H2) ks ((us.take i).map (M5.zn cs))) ⟨[],rfl,ae.refl _,.nil⟩ ?_ (by rw[q06];lia) ?_ ?_
  .rintro i ys H2 hi ⟨ks,rfl,s2,r2⟩;refine⟨s2.seq hU,?_⟩;have:=r2.length;rw[q06,q11]at this;rw[q06]
   lia
  .rintro i x ys H2 hx ⟨ks,rfl,s2,r2⟩;obtain⟨hi,rfl⟩:=yQ hx;refine⟨_,rfl,_,rfl,a,cs,_,rfl,hC.same (IL.stays K) s2,by lia,λd hd=>(hp d hd).mem_iff.mpr (mV hi),λl H3 s3 f3 e3=>?_⟩;refine⟨ks++[l],by rw[q07];rfl,s2.trans s3,?_⟩;rw[yM hi,q07];exact(r2.imp λ_ _=>IL.stays K _ _ _ _ s3).snoc (show IL K _ l _ from ai.of e3)
  .rintro ys H2 ⟨ks,rfl,s2,r2⟩ l hl;rw[q06,q15]at r2;generalize jP:upd H2 l _=H3;have Gk:ae H2 H3:=by rw[<-jP];exact ae.new hl
   have e3:H3 l=some (.lst (ks.map V.ref)):=by rw[<-jP];exact ze
   have r3:=r2.imp λ_ _=>IL.stays K _ _ _ _ Gk;have s3:=s2.trans Gk;have hk:=r3.length;rw[q06]at hk;refine⟨_,rfl,l,rfl,⟨_,ai.of e3⟩,?_⟩;refine zU (xs:=ks.map V.ref) (λi ys H4=>ae H3 H4/\ys=((us.take i).map λc=>1+(((us.map (M5.zn cs)).filter λr=>M6.yq r (M5.zn cs c) 24).length:Int)).map V.int) ⟨ae.refl _,rfl⟩ ?_ (by rw[q06];lia) ?_ ?_
   .rintro i ys H4 hi ⟨s4,rfl⟩;refine⟨s4.seq (ai.of e3),?_⟩;rw[q06,q06,q11]
    lia
   .rintro i x ys H4 hx ⟨s4,rfl⟩;obtain⟨p,ep,rfl⟩:=wK hx;obtain⟨m,em,rm⟩:=r3.getL ep;rw[q26]at em;cases eu:us[i]? with
    | none=>rw[eu]at em;cases em
    | some c =>
      rw[eu]at em;cases em;have hc:=mem_of_getElem? eu;have cO:∀d∈us,(M5.zn cs d).length=cs.length/\∀x∈M5.zn cs d,1<=x/\x<=24:=λd hd=>⟨M5.ya cs d,λx hx=>by have:=M6.yA hp hd x hx;lia⟩;refine⟨_,rfl,_,rfl,l,p,us.map (M5.zn cs),M5.zn cs c,rfl,⟨ks,s4.seq (ai.of e3),r3.imp λ_ _=>IL.stays K _ _ _ _ s4⟩,s4.seq rm,λr hr=>?_,(cO c hc).2,by rw[(cO c hc).1];exact c1,by rw[(cO c hc).1];lia,by rw[q06];lia,λH5 s5=>⟨s4.trans s5,?_⟩⟩
      .obtain⟨d,hd,rfl⟩:=q25.mp hr;exact⟨by rw[(cO d hd).1,(cO c hc).1],(cO d hd).2⟩
      .rw[take_succ,eu,q07,q07];rfl
   .rintro ys H4 ⟨s4,rfl⟩ p xI;rw[q06,hk,q15];have st:=s3.trans s4;refine q p _ (st.aB xI) ?_ ?_
    .cases e:H p with
     | none=>rfl
     | some u=>have:=st p u e;rw[xI]at this;cases this
    .rw[M6.nS hp u1 u2];exact ze
inductive Gm (K:Frag)(vs:List V)(H:Hp)(Q:VK)(E:XK):Prop|mk(p:Addr)(F:Addr->Prop)(S:Sh):vs=[.ref p]->aq K H p F S->((S.handed.length=0->∀C H',aj K "TooFewCards" C->ae H H'->E (.ref C) none H'))->((1<=S.handed.length->∀(l:Addr)(H':Hp),ae H H'->H l=none->H' l=some (.lst ((M6.zA S.ao S.aa).map V.int))->Q (.ref l) H'))->Gm K vs H Q E
theorem oF(F:aL K "places" "places" NV f fd)(T:Txt K mg)(xh:aK P w K mg base 6 "places_of" yT (wx K))(tP:cc P w K mg base 2 "refuse_fewer_cards" zJ (zL K))(gh:bE P w K mg base 1 (zK K "Sheet") "couples" zD (zE K))(tK:bE P w K mg base 3 (zK K "Sheet") "cards" yh (yr K)):ar P w K mg base (dO P w) 7 f fd ["sheet"] (Gm K):=by
 refine F.iC oh ?_ ?_
 .rintro _ _ _ _⟨p,F,S,rfl,_⟩;rfl
 .rintro X W aG A outer s H vs Q E hX hW fl md hr⟨p,F,S,rfl,aR,qE,q⟩;subst hX;refine⟨_,(zc (zT (yG tP fl (hM hr) rfl (za (pv 0) (za zg zb))))
   (zd (zi (zh xh (hM hr) rfl (za (zI tK T.ah (hM hr) (pv 0)) (za (zI gh T.ah (hM hr) (pv 0)) zb)))))),?_⟩
  have ok:=aR.ok;have gf:S.handed.length<=15:=q38 (q09 _ _) ok.dw;have cQ:=ok.cQ;obtain⟨dx,b1,b2,b3,d,bT⟩:=aR.ins;refine⟨_,rfl,p,F,S,1,rfl,aR,(λh C H1 hC s1=>by rw[hW];exact qE (by lia) C H1 hC s1),λh0 H1 s1=>?_⟩;have h1:1<=S.handed.length:=by lia
  refine⟨_,rfl,p,dx,_,rfl,s1 _ _ bT,rfl,p,F,S,rfl,aR.same s1,λl2 H2 ls s2 f2 e2 r2=>?_⟩;have t2:=s1.trans s2;refine⟨_,rfl,p,dx,_,rfl,t2 _ _ bT,rfl,p,F,S,rfl,aR.same t2,λl3 H3 s3 f3 e3=>?_⟩;have t3:=t2.trans s3;refine⟨l2,l3,S.ao,S.aa,rfl,⟨ls,ai.of (s3 _ _ e2),r2.imp λ_ _ z=>ai.of (s3 _ _ z.2)⟩,ai.of e3,ok.nd,Sh.aM ok,by rw[Sh.aI];exact h1,by rw[Sh.aI];exact gf,ok.c1,by lia,λl4 H4 s4 f4 e4=>?_⟩;exact q h1 l4 H4 (t3.trans s4) (t3.free f4) e4
inductive P4 (K:Frag)(vs:List V)(H:Hp)(Q:VK)(E:XK):Prop|mk(p:Addr)(F:Addr->Prop)(S:Sh)(j:Str):vs=[.ref p,.str j]->aq K H p F S->((j∉S.af->∀C,aj K "UnknownJudge" C->E (.ref C) none H))->((j∈S.af->S.card j=none->∀C,aj K "NoCard" C->E (.ref C) none H))->((j∈S.handed->S.handed.length<2->∀C H',aj K "TooFewCards" C->ae H H'->E (.ref C) none H'))->((j∈S.handed->2<=S.handed.length->∀(l:Addr)(H':Hp),ae H H'->H l=none->H' l=some (.lst ((M6.zA (S.aS j) S.aa).map V.int))->Q (.ref l) H'))->P4 K vs H Q E
theorem zmr(F:aL K "left_out" "left_out" NW f fd)(T:Txt K mg)(xh:aK P w K mg base 6 "places_of" yT (wx K))(tP:cc P w K mg base 2 "refuse_fewer_cards" zJ (zL K))(P5:aK P w K mg base 3 "cards_without" wp (JS K))(gh:bE P w K mg base 1 (zK K "Sheet") "couples" zD (zE K))(oY:bL P w K mg base 2 (zK K "Sheet") "card_of" zW (yd K)):ar P w K mg base (dO P w) 7 f fd Jn (P4 K):=by
 refine F.iC Yp ?_ ?_
 .rintro _ _ _ _⟨p,F,S,j,rfl,_⟩;rfl
 .rintro X W aG A outer s H vs Q E hX hW fl md hr⟨p,F,S,j,rfl,aR,qU,qN,qE,q⟩;subst hX;refine⟨_,(zc (zT (wS oY T.ah fl (hM hr) (pv 0) (za (pv 1) zb)))
   (zc (zT (yG tP fl (hM hr) rfl (za (pv 0) (za zg zb))))
   (zd (zi (zh xh (hM hr) rfl (za (zh P5 (hM hr) rfl (za (pv 0) (za (pv 1) zb))) (za (zI gh T.ah (hM hr) (pv 0)) zb))))))),?_⟩
  have bY:=zq;have ok:=aR.ok;have gf:=ok.dw;have cQ:=ok.cQ;obtain⟨dx,b1,b2,b3,d,bT⟩:=aR.ins;refine⟨_,rfl,p,dx,_,rfl,bT,rfl,_,rfl,p,F,S,j,rfl,aR,(λhn C hC=>by rw[hW];exact qU hn C hC),(λhp hn C hC=>by rw[hW];exact qN hp hn C hC),λc e l1 H1 s1 f1 e1=>?_⟩;have hj:j∈S.handed:=q24.mpr ⟨(ok.cd j c e).1,by rw[e];rfl⟩;refine⟨_,rfl,p,F,S,2,rfl,aR.same s1,(λh C H2 hC s2=>by rw[hW];exact qE hj (by lia) C H2 hC (s1.trans s2)),λh0 H2 s2=>?_⟩;have h2:2<=S.handed.length:=by lia
  have t2:=s1.trans s2;refine⟨_,rfl,_,rfl,p,F,S,j,rfl,aR.same t2,λl3 H3 ks s3 f3 e3 r3=>?_⟩;have t3:=t2.trans s3;refine⟨_,rfl,p,dx,_,rfl,t3 _ _ bT,rfl,p,F,S,rfl,aR.same t3,λl4 H4 s4 f4 e4=>?_⟩;have t4:=t3.trans s4;have Ef:=Sh.dR ok.so hj;have cX:S.handed.length<=15:=q38 (q09 _ _) gf;refine⟨l3,l4,S.aS j,S.aa,rfl,⟨ks,ai.of (s4 _ _ e3),r3.imp λ_ _=>IL.stays K _ _ _ _ s4⟩,ai.of e4,ok.nd,Sh.dn ok j,by lia,by lia,ok.c1,by lia,λl5 H5 s5 f5 e5=>?_⟩;exact q hj h2 l5 H5 (t4.trans s5) (t4.free f5) e5
inductive P6 (K:Frag)(vs:List V)(H:Hp)(Q:VK)(E:XK):Prop|mk(p:Addr)(F:Addr->Prop)(S:Sh)(j:Str)(c:Int):vs=[.ref p,.str j,.int c]->aq K H p F S->((j∉S.af->∀C,aj K "UnknownJudge" C->E (.ref C) none H))->((j∈S.af->S.card j=none->∀C,aj K "NoCard" C->E (.ref C) none H))->(((S.card j).isSome=true->c∉S.aa->∀C H',aj K "UnknownCouple" C->ae H H'->E (.ref C) none H'))->((∀d,S.card j=some d->c∈S.aa->d.getD 0 0=c->∀C H',aj K "AtTop" C->ae H H'->E (.ref C) none H'))->(∀(d:List Int)(i:Nat),S.card j=some d->0<i->i<d.length->d.getD i 0=c->∀(t l:Addr)(H':Hp),ae H H'->H t=none->H l=none->H' t=some (.tup [.int (d.getD (i-1) 0),.ref l])->H' l=some (.lst ((M6.zA (S.bh j (fZ d i)) S.aa).map V.int))->Q (.ref t) H')->P6 K vs H Q E
theorem zm4(F:aL K "step_up" "step_up" Jo f fd)(T:Txt K mg)(c1m:cc P w K mg base 1 "one_up" Ia (Ou K))(xh:aK P w K mg base 6 "places_of" yT (wx K))(gh:bE P w K mg base 1 (zK K "Sheet") "couples" zD (zE K))(oz:bE P w K mg base 1 (zK K "Sheet") "handed" zV (yc K))(oY:bL P w K mg base 2 (zK K "Sheet") "card_of" zW (yd K)):ar P w K mg base (dO P w) 7 f fd Jp (P6 K):=by
 obtain⟨cj,av,aV,au⟩:=T.au;refine F.iC FF ?_ ?_
 .rintro _ _ _ _⟨p,F,S,j,c,rfl,_⟩;rfl
 .rintro X W aG A outer s H vs Q E hX hW fl md hr⟨p,F,S,j,c,rfl,aR,qU,qN,qC,qT,q⟩;subst hX;refine⟨_,(zc (zt (i:=3) FF.nd rfl (Or.inl rfl) (wS oY T.ah fl (hM hr) (pv 0) (za (pv 1) zb)))
   (zc (zw (zk yz (pv 2) (zI gh T.ah (hM hr) (pv 0)) (by first | exact zl _ | rfl)) (zd (wt rfl md rfl aV au (za zp zb))) zm)
   (zc (zt (i:=4) FF.nd rfl (Or.inr rfl) (yG c1m fl (hM hr) rfl (za (pv 3) (za (pv 2) zb))))
   (zc (zt (i:=5) FF.nd rfl (Or.inl rfl) (zB zv (pv 4) (wb PySem.F.plainAttrs_list PySem.F.slot_list_index PySem.F.type_list_index Bj (pv 3) (za (pv 2) zb)) (λ_ _=>rfl)))
   (zc (yu (i:=6) (show ak (zf Jo) T5 "other" ["sheet","judge","stepped"] [0,1,4] _ from cZ) rfl FF.nd rfl (Or.inl rfl) (zz (zI oz T.ah (hM hr) (pv 0))) (λ_ _ _ _ _=>yk) (λ_ _ _ _ _=>(Km (zk yB (pv 0) (pv 2) (zl _)) (pv 3) (wS oY T.ah xP (hM hr) (pv 1) (za (pv 0) zb)))))
   (zd (zi (mP (za (pv 5) (za (zh xh (hM hr) rfl (za (pv 6) (za (zI gh T.ah (hM hr) (pv 0)) zb))) zb)))))))))),?_⟩
  have bY:=zq;have ok:=aR.ok;have gf:=ok.dw;have cQ:=ok.cQ;obtain⟨dx,b1,b2,b3,dd,bT⟩:=aR.ins;refine⟨_,rfl,p,dx,_,rfl,bT,rfl,_,rfl,p,F,S,j,rfl,aR,(λhn C hC=>by rw[hW];exact qU hn C hC),(λhp hn C hC=>by rw[hW];exact qN hp hn C hC),λd hd l1 H1 s1 f1 e1=>?_⟩;obtain⟨mq,iz⟩:=ok.cd j d hd;have xR:=iz.length_eq;have BX:d.Nodup:=iz.nodup_iff.mpr ok.nd;refine⟨_,rfl,_,rfl,p,dx,_,rfl,s1 _ _ bT,rfl,p,F,S,rfl,aR.same s1,λl2 H2 s2 f2 e2=>?_⟩;have t2:=s1.trans s2;refine⟨l2,_,rfl,.inl (ai.of e2),rfl,zC _,_,rfl,?_⟩;rw[Ct];refine yn (λDr=>?_) (λDr=>?_)
  .exact⟨(by show 1<=sizeLine;decide),by rw[hW];exact qC (by rw[hd];rfl) Dr _ _ av t2⟩
  obtain⟨i,hi,rfl⟩:∃i,i<d.length/\d.getD i 0=c:=by
   obtain⟨i,hi,e⟩:=List.getElem_of_mem (iz.mem_iff.mpr Dr);exact⟨i,hi,by rw[q18,q31 hi];exact e⟩
  refine⟨_,rfl,_,rfl,l1,d,i,rfl,ai.of (s2 _ _ e1),BX,hi,by lia,λn hn=>ok.cO n (iz.mem_iff.mp hn),?_,λh0 l3 H3 s3 f3 e3=>?_⟩
  .intro z C hC;subst z;rw[hW];exact qT d hd Dr rfl C _ hC t2
  have q:=q d i hd h0 hi rfl;have t3:=t2.trans s3;have qm:=s3 _ _ (s2 _ _ e1);have gO:d.idxOf (d.getD i 0)=i:=by
   have:d.getD i 0=d[i]:=by rw[q18,q31 hi];rfl
   rw[this];exact BX.idxOf_getElem i hi
  refine⟨_,rfl,_,rfl,.inl ⟨rfl,_,ai.of qm⟩,_,rfl,l1,_,_,rfl,rfl,ai.of qm,rfl,zC _,?_,l3,_,_,.int (d.getD (i-1) 0),rfl,rfl,ai.of e3,?_,?_⟩
  .rw[wm,q06,gO];exact hi
  .rw[wm,gO];refine zP ?_;rw[q26,show d.take (i-1)++[d.getD i 0,d.getD (i-1) 0]++d.drop (i+1)=fZ d i from rfl,BP h0 hi];rfl
  refine⟨_,rfl,p,dx,_,rfl,t3 _ _ bT,rfl,p,F,S,rfl,(aR.same t3).shape,gf,λl4 H4 s4 f4 e4=>?_⟩;have cX:S.handed.length<=15:=q38 (q09 _ _) gf;have j4:H4 l3=some (.lst ((fZ d i).map V.int)):=s4 _ _ e3;have t4:=t3.trans s4;refine⟨l4,rfl,⟨_,ai.of e4⟩,?_⟩;refine zU (xs:=S.handed.map V.str) (λk ys H5=>∃ks:List Addr,ys=ks.map V.ref/\ae H4 H5/\All2 (IL K H5) ks ((S.handed.take k).map λi'=>if i'=j then fZ d i else(S.card i').getD [])) ⟨[],rfl,ae.refl _,.nil⟩ ?_ (by rw[q06];lia) ?_ ?_
  .rintro k ys H5 hk ⟨ks,rfl,s5,r5⟩;refine⟨s5.seq (ai.of e4),?_⟩;have:=r5.length;rw[q06,q11]at this;rw[q06]
   lia
  .rintro k x ys H5 hx ⟨ks,rfl,s5,r5⟩;obtain⟨hk,rfl⟩:=Bu hx;have hm:=q24.mp (show S.handed.getD k "" ∈ S.af.filter λj=>(S.card j).isSome from vk hk);have t5:=t4.trans s5;refine⟨_,rfl,_,rfl,rfl,_,rfl,yO (λhe=>?_) (λbx=>?_)⟩
   .have he:S.handed.getD k ""=j:=by injection he
    refine⟨_,rfl,ks++[l3],by rw[q07];rfl,s5,?_⟩;rw[yw hk,q07];refine r5.snoc ?_;show IL K H5 l3 (if S.handed.getD k ""=j then fZ d i else _);rw[q01 he];exact ai.of (s5 _ _ j4)
   .have bx:¬S.handed.getD k ""=j:=λz=>bx (by rw[z]);cases e:S.card (S.handed.getD k "")with
    | none=>rw[e]at hm;exact q02 hm.2 q23
    | some c =>
      refine⟨_,rfl,p,dx,_,rfl,t5 _ _ bT,rfl,_,rfl,p,F,S,_,rfl,aR.same t5,λhj=>q02 hm.1 hj,(λ_ z=>by rw[e]at z;cases z),λc' e' l6 H6 s6 f6 e6=>?_⟩;rw[e]at e';cases e';refine⟨ks++[l6],by rw[q07];rfl,s5.trans s6,?_⟩;rw[yw hk,q07];refine(r5.imp λ_ _=>IL.stays K _ _ _ _ s6).snoc ?_;show IL K H6 l6 (if S.handed.getD k ""=j then fZ d i else(S.card (S.handed.getD k "")).getD []);rw[q00 bx,e];exact ai.of e6
  .rintro ys H5 ⟨ks,rfl,s5,r5⟩ l7 kH;rw[q06,q15]at r5;have s7:=s5.aB (o:=.lst (ks.map V.ref)) kH;have e7:upd H5 l7 (.lst (ks.map V.ref)) l7=some (.lst (ks.map V.ref)):=ze;have r7:=r5.imp λ_ _=>IL.stays K _ _ _ _ (ae.new (o:=.lst (ks.map V.ref)) kH);generalize hH7:upd H5 l7 _=H7 at s7 e7 r7 ⊢;have t7:=t4.trans s7;refine⟨_,rfl,_,rfl,_,rfl,p,dx,_,rfl,t7 _ _ bT,rfl,p,F,S,rfl,aR.same t7,λl8 H8 s8 f8 e8=>?_⟩;have t8:=t7.trans s8;have JQ:1<=S.handed.length:=q30 (q24.mpr ⟨mq,by rw[hd];rfl⟩);refine⟨l7,l8,S.bh j (fZ d i),S.aa,rfl,⟨ks,ai.of (s8 _ _ e7),r7.imp λ_ _=>IL.stays K _ _ _ _ s8⟩,ai.of e8,ok.nd,Sh.fg ok ((MB h0 hi).trans iz),by rw[Sh.dS];exact JQ,by rw[Sh.dS];exact cX,ok.c1,by lia,λl9 H9 s9 f9 e9=>⟨(by show 2<=sizeLine;decide),λt hT=>?_⟩⟩;have t9:=t8.trans s9;exact q t l9 _ (t9.aB hT) (t9.free hT) (t8.free f9) ze ((ae.new hT) _ _ e9)
inductive J6 (K:Frag)(vs:List V)(H:Hp)(Q:VK)(E:XK):Prop|mk(a b:Addr) (cs:List (List Int)) (us:List Int):vs=[.ref a,.ref b]->Refs K (IL K) H a cs->ai K H b (us.map V.int)->us.Nodup->((∀d∈cs,d.Perm us))->1<=cs.length->cs.length<=15->1<=us.length->us.length<=24->(∀(l:Addr)(H':Hp),ae H H'->H l=none->H' l=some (.lst ((sN cs us).map V.int))->Q (.ref l) H')->J6 K vs H Q E
theorem zk3(F:aL K "firsts_of" "firsts_of" Jq f fd)(T:Txt K mg)(xh:aK P w K mg base 6 "places_of" yT (wx K)):ar P w K mg base aX 7 f fd FG (J6 K):=by
 refine F.ok Yq ?_ ?_
 .rintro _ _ _ _⟨a,b,cs,us,rfl,_⟩;rfl
 .rintro aG A outer s H vs Q E hr⟨a,b,cs,us,rfl,hA,hB,nd,hp,c1,O9,u1,JP,q⟩;refine⟨_,(zd (zi (Mb (show aU (zf Jq) ["cards","couples"] "place" "couple" [] [] _ from sd) rfl (rW rfl T.tq (za (zh xh (hM hr) rfl (za (pv 0) (za (pv 1) zb))) (za (pv 1) zb))) (λ_ _ _ _ _=>(yI (zk yB (pv 0) zg (zl _)))) (λ_ _ _ _ _=>(pv 1))))),?_⟩;have bY:=zq;refine⟨_,rfl,_,rfl,a,b,cs,us,rfl,hA,hB,nd,hp,c1,O9,u1,JP,λl1 H1 s1 f1 e1=>?_⟩;have hpl:=M6.yW cs us;refine⟨_,rfl,l1,b,_,_,rfl,ai.of e1,s1.seq hB,?_⟩;refine nA (xs:=(M6.zA cs us).map V.int) (ys:=us.map V.int) (λi zs H2=>ae H1 H2/\zs=(Ae (M6.zA cs us) us i).map V.int) ⟨ae.refl _,rfl⟩ ?_ (by rw[q06,q06];lia) ?_ ?_
  .rintro i zs H2 hi ⟨s2,rfl⟩;refine⟨ai.of (s2 _ _ e1),(s1.trans s2).seq hB,?_⟩;rw[q06];exact SY _ _ _
  .rintro i x y t zs H2 hx hy ht ⟨s2,rfl⟩;obtain⟨hi,rfl⟩:=yQ hx;obtain⟨ui,rfl⟩:=yQ hy;refine⟨_,rfl,rfl,_,rfl,yO (λhe=>?_) (λbx=>?_)⟩
   .have he:(M6.zA cs us).getD i 0=1:=by injection he
    refine⟨_,rfl,s2.aB ht,?_⟩;rw[HB,q01 he,q07];rfl
   .have bx:¬(M6.zA cs us).getD i 0=1:=λz=>bx (by rw[z]);refine⟨s2.aB ht,?_⟩;rw[HB,q00 bx,append_nil]
  .rintro zs H2 ⟨s2,rfl⟩ l hl;rw[q06,q06,hpl,Nat.min_self]at *;have t2:=s1.trans s2;exact q l _ (t2.aB hl) (t2.free hl) ze
inductive P7 (K:Frag)(vs:List V)(H:Hp)(Q:VK)(E:XK):Prop|mk(p:Addr)(F:Addr->Prop)(S:Sh):vs=[.ref p]->aq K H p F S->((S.handed.length=0->∀C H',aj K "TooFewCards" C->ae H H'->E (.ref C) none H'))->((1<=S.handed.length->∀(l:Addr)(H':Hp),ae H H'->H l=none->H' l=some (.lst ((sN S.ao S.aa).map V.int))->Q (.ref l) H'))->P7 K vs H Q E
theorem oG(F:aL K "firsts" "firsts" NX f fd)(T:Txt K mg)(tP:cc P w K mg base 2 "refuse_fewer_cards" zJ (zL K))(P8:aK P w K mg base 7 "firsts_of" FG (J6 K))(gh:bE P w K mg base 1 (zK K "Sheet") "couples" zD (zE K))(tK:bE P w K mg base 3 (zK K "Sheet") "cards" yh (yr K)):ar P w K mg base (dO P w) 8 f fd ["sheet"] (P7 K):=by
 refine F.iC oi ?_ ?_
 .rintro _ _ _ _⟨p,F,S,rfl,_⟩;rfl
 .rintro X W aG A outer s H vs Q E hX hW fl md hr⟨p,F,S,rfl,aR,qE,q⟩;subst hX;refine⟨_,(zc (zT (yG tP fl (hM hr) rfl (za (pv 0) (za zg zb))))
   (zd (zi (zh P8 (hM hr) rfl (za (zI tK T.ah (hM hr) (pv 0)) (za (zI gh T.ah (hM hr) (pv 0)) zb)))))),?_⟩
  have ok:=aR.ok;have gf:S.handed.length<=15:=q38 (q09 _ _) ok.dw;have cQ:=ok.cQ;obtain⟨dx,b1,b2,b3,d,bT⟩:=aR.ins;refine⟨_,rfl,p,F,S,1,rfl,aR,(λh C H1 hC s1=>by rw[hW];exact qE (by lia) C H1 hC s1),λh0 H1 s1=>?_⟩;have h1:1<=S.handed.length:=by lia
  refine⟨_,rfl,p,dx,_,rfl,s1 _ _ bT,rfl,p,F,S,rfl,aR.same s1,λl2 H2 ls s2 f2 e2 r2=>?_⟩;have t2:=s1.trans s2;refine⟨_,rfl,p,dx,_,rfl,t2 _ _ bT,rfl,p,F,S,rfl,aR.same t2,λl3 H3 s3 f3 e3=>?_⟩;have t3:=t2.trans s3;refine⟨l2,l3,S.ao,S.aa,rfl,⟨ls,ai.of (s3 _ _ e2),r2.imp λ_ _ z=>ai.of (s3 _ _ z.2)⟩,ai.of e3,ok.nd,Sh.aM ok,by rw[Sh.aI];exact h1,by rw[Sh.aI];exact gf,ok.c1,by lia,λl4 H4 s4 f4 e4=>?_⟩;exact q h1 l4 H4 (t3.trans s4) (t3.free f4) e4
inductive P9 (K:Frag)(vs:List V)(H:Hp)(Q:VK)(E:XK):Prop|mk(x:Addr)(F:Addr->Prop)(S:Sh)(c:Int):vs=[.ref x,.int c]->aq K H x F S->((S.handed.length=0->∀C H',aj K "TooFewCards" C->ae H H'->E (.ref C) none H'))->((1<=S.handed.length->c∉S.aa->∀C H',aj K "UnknownCouple" C->ae H H'->E (.ref C) none H'))->((1<=S.handed.length->c∈S.aa->∀H',ae H H'->Q (.str (M6.vQ (M6.dC S.ao S.aa c) c (M5.zn S.ao c) S.aa.length)) H'))->P9 K vs H Q E
theorem zkU(F:aL K "table_row" "table_row" NY f fd)(T:Txt K mg)(Qa:cc P w K mg base 7 "places" ["sheet"] (Gm K))(c1n:aK P w K mg base 4 "row_text" Jg (PQ K))(gh:bE P w K mg base 1 (zK K "Sheet") "couples" zD (zE K)):ar P w K mg base (dO P w) 8 f fd Jr (P9 K):=by
 obtain⟨cj,av,aV,au⟩:=T.au;refine F.iC T6 ?_ ?_
 .rintro _ _ _ _⟨x,F,S,c,rfl,_⟩;rfl
 .rintro X W aG A outer s H vs Q E hX hW fl md hr⟨x,F,S,c,rfl,aR,qF,qC,q⟩;subst hX;refine⟨_,(zc (zt (i:=2) T6.nd rfl (Or.inl rfl) (yG Qa fl (hM hr) rfl (za (pv 0) zb)))
   (zc (zw (zk yz (pv 1) (zI gh T.ah (hM hr) (pv 0)) (by first | exact zl _ | rfl)) (zd (wt rfl md rfl aV au (za zp zb))) zm)
   (zd (zi (zh c1n (hM hr) rfl (za (pv 0) (za (zB zv (pv 2) (wb PySem.F.plainAttrs_list PySem.F.slot_list_index PySem.F.type_list_index Bj (zI gh T.ah (hM hr) (pv 0)) (za (pv 1) zb)) (λ_ _=>rfl)) (za (pv 1) zb)))))))),?_⟩
  have bY:=zq;have ok:=aR.ok;have cQ:=ok.cQ;obtain⟨dx,b1,b2,b3,d,hi⟩:=aR.ins;refine⟨_,rfl,x,F,S,rfl,aR,(λh C H1 hC s1=>by rw[hW];exact qF h C H1 hC s1),λh1 l1 H1 s1 f1 e1=>?_⟩;refine⟨_,rfl,_,rfl,x,dx,_,rfl,s1 _ _ hi,rfl,x,F,S,rfl,aR.same s1,λl2 H2 s2 f2 e2=>?_⟩;have t2:=s1.trans s2;refine⟨l2,_,rfl,.inl (ai.of e2),rfl,zC _,_,rfl,?_⟩;rw[Ct];refine yn (λhc=>?_) (λhc=>?_)
  .exact⟨(by show 1<=sizeLine;decide),by rw[hW];exact qC h1 hc _ _ av t2⟩
  have gO:=idxOf_lt_length_of_mem hc;refine⟨_,rfl,_,rfl,_,rfl,x,dx,_,rfl,t2 _ _ hi,rfl,x,F,S,rfl,aR.same t2,λl3 H3 s3 f3 e3=>?_⟩;refine⟨.inl ⟨rfl,_,ai.of e3⟩,_,rfl,l3,_,_,rfl,rfl,ai.of e3,rfl,zC _,(by rw[wm,q06];exact gO),?_⟩;rw[wm];have Pb:fC ((M6.zA S.ao S.aa).map V.int) (S.aa.idxOf c:Int)=some (.int (M6.dC S.ao S.aa c)):=by
   have:=zP (oQ (ns:=M6.zA S.ao S.aa) (i:=S.aa.idxOf c) (by rw[M6.yW];exact gO));rw[M6.SW gO,M6.MC hc]at this;exact this
  have hb:(M6.dC S.ao S.aa c).natAbs<=990:=by
   unfold M6.dC M6.front;have:=q09 (λd=>M6.yq (M5.zn S.ao d) (M5.zn S.ao c) S.aa.length) S.aa
   lia
  have t3:=t2.trans s3;refine⟨l1,_,_,_,rfl,rfl,ai.of (s3 _ _ (s2 _ _ e1)),Pb,_,rfl,x,F,S,_,c,rfl,aR.same t3,hc,hb,λH4 s4=>q h1 hc H4 (t3.trans s4)⟩
inductive Qb (K:Frag)(vs:List V)(H:Hp)(Q:VK)(E:XK):Prop|mk(p:Addr)(F:Addr->Prop)(S:Sh):vs=[.ref p]->aq K H p F S->((S.handed.length<2->∀C H',aj K "TooFewCards" C->ae H H'->E (.ref C) none H'))->((2<=S.handed.length->∀(l:Addr)(H':Hp),ae H H'->H l=none->H' l=some (.lst (S.decide.map V.str))->Q (.ref l) H'))->Qb K vs H Q E
theorem zlQ(F:aL K "deciders" "deciders" Js f fd)(T:Txt K mg)(c1o:cc P w K mg base 8 "firsts" ["sheet"] (P7 K))(tP:cc P w K mg base 2 "refuse_fewer_cards" zJ (zL K))(P8:aK P w K mg base 7 "firsts_of" FG (J6 K))(P5:aK P w K mg base 3 "cards_without" wp (JS K))(gh:bE P w K mg base 1 (zK K "Sheet") "couples" zD (zE K))(oz:bE P w K mg base 1 (zK K "Sheet") "handed" zV (yc K)):ar P w K mg base (dO P w) 9 f fd ["sheet"] (Qb K):=by
 refine F.iC T7 ?_ ?_
 .rintro _ _ _ _⟨p,F,S,rfl,_⟩;rfl
 .rintro X W aG A outer s H vs Q E hX hW fl md hr⟨p,F,S,rfl,aR,qE,q⟩;subst hX;refine⟨_,(zc (zT (yG tP fl (hM hr) rfl (za (pv 0) (za zg zb))))
   (zc (zt (i:=1) T7.nd rfl (Or.inr rfl) (yG c1o fl (hM hr) rfl (za (pv 0) zb)))
   (zd (zi (zQ (show ak (zf Js) ["sheet","now"] "judge" ["sheet","now"] [0,1] _ from cZ) rfl (zz (zI oz T.ah (hM hr) (pv 0))) (λ_ _ _ _ _=>(yI (zk (ww (K:=K) rfl hr.bp) (zh P8 (hM hr) rfl (za (zh P5 (hM hr) rfl (za (pv 1) (za (pv 0) zb))) (za (zI gh T.ah (hM hr) (pv 1)) zb))) (pv 2) (zl _)))) (λ_ _ _ _ _=>(pv 0))))))),?_⟩
  have bY:=zq;have ok:=aR.ok;have gf:S.handed.length<=15:=q38 (q09 _ _) ok.dw;have cQ:=ok.cQ;obtain⟨dx,b1,b2,b3,d,bT⟩:=aR.ins;refine⟨_,rfl,p,F,S,2,rfl,aR,(λh C H1 hC s1=>by rw[hW];exact qE (by lia) C H1 hC s1),λh0 H1 s1=>?_⟩;have h2:2<=S.handed.length:=by lia
  have q:=q h2;refine⟨_,rfl,p,F,S,rfl,aR.same s1,(λz=>q02 z (by lia)),λ_ l2 H2 s2 f2 e2=>?_⟩;have t2:=s1.trans s2;refine⟨_,rfl,p,dx,_,rfl,t2 _ _ bT,rfl,p,F,S,rfl,(aR.same t2).shape,ok.dw,λl3 H3 s3 f3 e3=>?_⟩;have t3:=t2.trans s3;refine⟨l3,rfl,⟨_,ai.of e3⟩,?_⟩;refine yN (xs:=S.handed.map V.str) (λi ys H4=>ae H3 H4/\ys=((S.handed.take i).filter λj => !Decidable.decide (sN (S.aS j) S.aa=sN S.ao S.aa)).map V.str) ⟨ae.refl _,rfl⟩ ?_ (by rw[q06];lia) ?_ ?_
  .rintro i ys H4 hi ⟨s4,rfl⟩;refine⟨s4.seq (ai.of e3),?_⟩;rw[q06];exact q38 (q09 _ _) (by rw[q11];lia)
  .rintro i x ys H4 hx ⟨s4,rfl⟩;obtain⟨hi,rfl⟩:=Bu hx;have t4:=t3.trans s4;refine⟨_,rfl,_,rfl,p,F,S,_,rfl,aR.same t4,λl5 H5 ks s5 f5 e5 r5=>?_⟩;have t5:=t4.trans s5;refine⟨_,rfl,p,dx,_,rfl,t5 _ _ bT,rfl,p,F,S,rfl,aR.same t5,λl6 H6 s6 f6 e6=>?_⟩;have g1:=Sh.kj ok.so (S.handed.getD i "");have g2:=Sh.ki S (S.handed.getD i "");refine⟨l5,l6,_,S.aa,rfl,⟨ks,ai.of (s6 _ _ e5),r5.imp λ_ _=>IL.stays K _ _ _ _ s6⟩,ai.of e6,ok.nd,Sh.dn ok _,by lia,by lia,ok.c1,by lia,λl7 H7 s7 f7 e7=>?_⟩;have u7:=((s4.trans s5).trans s6).trans s7;refine⟨_,rfl,l7,l2,_,_,rfl,rfl,ai.of e7,ai.of ((s3.trans u7) _ _ e2),zC _,zC _,_,rfl,?_⟩;rw[yU];refine yn (λbx=>?_) (λhe=>?_)
   .refine⟨_,rfl,u7,?_⟩;rw[yw hi,q16,q17,q01 (by rw[q20 bx];rfl),q07];rfl
   .refine⟨u7,?_⟩;rw[yw hi,q16,q17,q00 (by rw[q19 he];decide),filter_nil,append_nil]
  .rintro ys H4 ⟨s4,rfl⟩ l hl;rw[q06,q15]at *;have t4:=t3.trans s4;exact q l _ (t4.aB hl) (t4.free hl) ze
inductive Gn (K:Frag)(vs:List V)(H:Hp)(Q:VK)(E:XK):Prop|mk(a b:Addr)(ps us:List Int):vs=[.ref a,.ref b]->ai K H a (ps.map V.int)->ai K H b (us.map V.int)->ps.length=us.length->((∀k,k<us.length->1<=ps.getD k 0/\ps.getD k 0<=us.length))->1<=us.length->us.length<=24->bC (wW K "by_place") fU H->(∀(l:Addr)(H':Hp)(ls:List Addr),aY H H'->bC (wW K "by_place") fU H'->H l=none->H' l=some (.lst (ls.map V.ref))->All2 (gD K H') ls (M5.rows ps us)->Q (.ref l) H')->Gn K vs H Q E
theorem zmc(F:aL K "by_place" "by_place" CS f fd)(T:Txt K mg)(L:L6 K "by_place" f)(B:vA mg base)(Qa:cc P w K mg base 7 "places" ["sheet"] (Gm K)):ar P w K mg base aX 11 f fd ["places","couples"] (Gn K):=by
 refine F.WN L Yr (λvs H Q E h=>?_) (λc A outer s H vs Q E hC hr h=>?_)
 .obtain⟨a,b,ps,us,rfl,_⟩:=h;rfl
 .obtain⟨a,b,ps,us,rfl,hA,hB,hl,hk,u1,u2,hT,q⟩:=h;refine⟨_,(zd (zi (nz rfl (hM hr) (by rfl) T.fi (by rfl) T.tq rfl hC B ⟨rfl,rfl,rfl,by decide,rfl,by decide +kernel,by decide +kernel⟩ rfl (by decide) (by decide) rfl rfl (λ_ _ _ _ _ _=>rfl) (za (pv 0) (za (pv 1) zb))))),?_⟩;refine⟨_,rfl,_,rfl,a,b,ps,us.map V.int,rfl,hA,hB,by rw[q06];exact hl,by lia,by lia,hT,λH2 ts l p sn ls pr hn hi=>?_⟩;rw[hl]at hi;have hm:∀i∈p.toList,i<us.length:=λi h=>by
   rw[M15.tj hi hk]at h;exact List.mem_range.mp ((M15.mm _ _ hk i).mp h)
  have rr:=Tt (K:=K) hl pr p.toList hm;rw[M15.vU hl hk hi]at rr;refine q l _ (p.toList.map λi=>ts.getD i 0) (sn.trans (ae.new hn).toN) (ls.same (ae.new hn)) (sn.free hn) ?_ (rr.imp λ_ _=>gD.stays K _ _ _ _ (ae.new hn));rw[q32];exact ze
inductive J7 (K:Frag)(vs:List V)(H:Hp)(Q:VK)(E:XK):Prop|mk(a b:Addr) (cs:List (List Int)) (us:List Int):vs=[.ref a,.ref b]->Refs K (IL K) H a cs->ai K H b (us.map V.int)->us.Nodup->((∀d∈cs,d.Perm us))->1<=cs.length->cs.length<=15->1<=us.length->us.length<=24->bC (wW K "by_place") fU H->(∀(l:Addr)(H':Hp)(ls:List Addr),aY H H'->bC (wW K "by_place") fU H'->H l=none->H' l=some (.lst (ls.map V.ref))->All2 (gD K H') ls (M5.rows (M6.zA cs us) us)->Q (.ref l) H')->J7 K vs H Q E
theorem zjP(F:aL K "ranking_of" "ranking_of" NZ f fd)(T:Txt K mg)(xh:aK P w K mg base 6 "places_of" yT (wx K))(Qc:aK P w K mg base 11 "by_place" ["places","couples"] (Gn K)):ar P w K mg base aX 12 f fd FH (J7 K):=by
 refine F.ok Ys ?_ ?_
 .rintro _ _ _ _⟨a,b,cs,us,rfl,_⟩;rfl
 .rintro aG A outer s H vs Q E hr⟨a,b,cs,us,rfl,hC,hU,CW,hp,c1,c2,u1,u2,hT,q⟩;refine⟨_,(zd (zi (zh Qc (hM hr) rfl (za (zh xh (hM hr) rfl (za (pv 0) (za (pv 1) zb))) (za (pv 1) zb))))),?_⟩;refine⟨_,rfl,_,rfl,a,b,cs,us,rfl,hC,hU,CW,hp,c1,c2,u1,u2,λl1 H1 s1 f1 e1=>?_⟩;refine⟨_,rfl,l1,b,M6.zA cs us,us,rfl,ai.of e1,s1.seq hU,M6.yW cs us,M6.MP cs us,u1,u2,hT.same s1,λl H' ls s2 z2 f2 e2 r2=>?_⟩;exact q l H' ls (s1.toN.trans s2) z2 (s1.toN.free f2) e2 r2
inductive J9 (K:Frag)(vs:List V)(H:Hp)(Q:VK)(E:XK):Prop|mk(p:Addr)(F:Addr->Prop)(S:Sh)(a:Addr) (cs:List (List Int)):vs=[.ref p,.ref a]->aq K H p F S->ai K H a ((M6.zA cs S.aa).map V.int)->bC (wW K "by_place") fU H->(∀H',aY H H'->bC (wW K "by_place") fU H'->Q (.str (M6.n8 cs S.aa)) H')->J9 K vs H Q E
theorem ziX(F:aL K "places_text" "places_text" N0 f fd)(T:Txt K mg)(Qc:aK P w K mg base 11 "by_place" ["places","couples"] (Gn K))(Qa:cc P w K mg base 7 "places" ["sheet"] (Gm K))(Qd:aK P w K mg base 1 "ranking_text" ["rows"] (JG K))(gh:bE P w K mg base 1 (zK K "Sheet") "couples" zD (zE K)):ar P w K mg base aX 12 f fd FI (J9 K):=by
 refine F.ok Yt ?_ ?_
 .rintro _ _ _ _⟨p,F,S,a,cs,rfl,_⟩;rfl
 .rintro aG A outer s H vs Q E hr⟨p,F,S,a,cs,rfl,hS,hA,hL,q⟩;refine⟨_,(zd (zi (zh Qd (hM hr) rfl (za (zh Qc (hM hr) rfl (za (pv 1) (za (zI gh T.ah (hM hr) (pv 0)) zb))) zb)))),?_⟩;have ok:=hS.ok;have cQ:=ok.cQ;obtain⟨dx,b1,b2,b3,d,bT⟩:=hS.ins;refine⟨_,rfl,_,rfl,p,dx,_,rfl,bT,rfl,p,F,S,rfl,hS,λl1 H1 s1 f1 e1=>?_⟩;refine⟨a,l1,M6.zA cs S.aa,S.aa,rfl,s1.seq hA,ai.of e1,M6.yW cs S.aa,λk hk=>M6.MP cs S.aa k hk,ok.c1,by lia,hL.same s1,λl2 H2 ls s2 z2 f2 e2 r2=>?_⟩;refine⟨l2,ls,_,rfl,ai.of e2,r2,by rw[M6.Fj];lia,λpr kK=>?_,λH3 s3=>q H3 ((s1.toN.trans s2).trans s3.toN) (z2.same s3)⟩;obtain⟨m1,m2⟩:=M6.Ac kK;have FU:=M6.CN (cs:=cs) m1;have Ul:=ok.cO _ m1;have m2:pr.1=M6.dC cs S.aa pr.2:=m2
  lia
inductive Qe (K:Frag)(vs:List V)(H:Hp)(Q:VK)(E:XK):Prop|mk(a b:Addr) (cs:List (List Int)) (us:List Int):vs=[.ref a,.ref b]->Refs K (IL K) H a cs->ai K H b (us.map V.int)->us.Nodup->((∀d∈cs,d.Perm us))->1<=cs.length->cs.length<=15->1<=us.length->us.length<=24->bC (wW K "by_place") fU H->(∀(l:Addr)(H':Hp)(ls:List Addr),aY H H'->bC (wW K "by_place") fU H'->H l=none->H' l=some (.lst (ls.map V.ref))->All2 (F4 K H') ls (M6.yl cs us)->Q (.ref l) H')->Qe K vs H Q E
theorem ziP(F:aL K "partings_of" "partings_of" Jt f fd)(T:Txt K mg)(Dm:aK P w K mg base 2 "marks_of" CP (FV K))(Qf:aK P w K mg base 12 "ranking_of" FH (J7 K))(c1p:aK P w K mg base 4 "parting_of" Jd (PM K)):ar P w K mg base aX 13 f fd Ju (Qe K):=by
 refine F.ok wu ?_ ?_
 .rintro _ _ _ _⟨a,b,cs,us,rfl,_⟩;rfl
 .rintro aG A outer s H vs Q E hr⟨a,b,cs,us,rfl,hC,hU,CW,hp,c1,c2,u1,u2,hT,q⟩;refine⟨_,(zc (Sj (i:=2) (show aU (zf Jt) T8 "place" "couple" [] [] _ from sd) rfl wu.nd rfl (Or.inl rfl) (zz (zh Qf (hM hr) rfl (za (pv 0) (za (pv 1) zb)))) (λ_ _ _ _ _=>yk) (λ_ _ _ _ _=>(pv 1)))
   (zc (zt (i:=3) wu.nd rfl (Or.inl rfl) (zF zb))
   (zc (wd PassesOwn.never rfl (rW rfl T.tq (za (pv 2) (za (yo wC (pv 2) (yH zg) y9) zb))) (GN rfl (wI (zM (i:=4) wu.nd rfl (Or.inl rfl)) (wI (zM (i:=5) wu.nd rfl (Or.inl rfl)) GL)))
     (zc (zt (i:=6) wu.nd rfl (Or.inl rfl) (zh c1p (hM hr) rfl (za (zh Dm (hM hr) rfl (za (pv 0) (za (pv 4) zb))) (za (zh Dm (hM hr) rfl (za (pv 0) (za (pv 5) zb))) zb))))
   (zd (zw (zk uS (pv 6) Ci (zl _)) (zd (zT (wb PySem.F.plainAttrs_list PySem.F.slot_list_append PySem.F.type_list_append yC (pv 3) (za (mP (za (pv 4) (za (pv 5) (za (zB oO (pv 6) zg (λ_ _=>rfl)) (za (zB oO (pv 6) zg (λ_ _=>rfl)) zb))))) zb)))) zm))))
   (zd (zi (pv 3)))))),?_⟩
  have bY:=zq;refine⟨_,rfl,_,rfl,a,b,cs,us,rfl,hC,hU,CW,hp,c1,c2,u1,u2,hT,λl1 H1 ls s1 z1 f1 e1 r1=>?_⟩;refine⟨l1,rfl,⟨_,ai.of e1⟩,?_⟩;have t1:=s1.same;have US:=hC.nr;have fY:=λp (hp:p∈M5.rows (M6.zA cs us) us)=>M6.Ac hp;have oB:=M5.bq (M6.zA cs us) us (M6.yW cs us);have hmul:us.length*us.length<=24*24:=mul_le_mul u2 u2;unfold M6.yl at q;generalize M5.rows (M6.zA cs us) us=rs at r1 oB fY q;have c9:=r1.length;refine Sk (xs:=ls.map V.ref) (λi ys H2=>ae H1 H2/\ys=((rs.take i).map λp=>p.2).map V.int) ⟨ae.refl _,rfl⟩ ?_ (by rw[q06];lia) ?_ ?_
  .rintro i ys H2 hi ⟨s2,rfl⟩;refine⟨s2.seq (ai.of e1),?_⟩;rw[q06,q06,q11]
   lia
  .rintro i x ys H2 hx ⟨s2,rfl⟩;obtain⟨p,ep,rfl⟩:=wK hx;obtain⟨m,em,rm⟩:=r1.getL ep;refine⟨p,_,_,rfl,s2.j8 rm,_,rfl,s2,?_⟩;rw[take_succ,em,q07,q07];rfl
  .rintro ys H2 ⟨s2,rfl⟩ l2 cX;rw[q06,c9,q15];generalize jP:upd H2 l2 _=H3;have Gk:ae H2 H3:=by rw[<-jP];exact ae.new cX
   have e3:H3 l2=some (.lst ((rs.map λp=>p.2).map V.int)):=by rw[<-jP];exact ze
   have cA:=s2.trans Gk;refine⟨by decide,λp4 kM=>?_⟩;have e4:(upd H3 p4 (.lst [])) l2=some (.lst ((rs.map λp=>p.2).map V.int)):=(ae.new kM) _ _ e3;refine⟨_,rfl,_,rfl,_,rfl,l2,_,rfl,ai.of e4,λl5 gg=>?_⟩;rw[G8 (by decide)];have s4:=ae.new (o:=.lst []) kM;have s5:=ae.new (o:=.lst (((rs.map λp=>p.2).drop (1:Int).toNat).map V.int)) gg;have UT:p4≠l5:=zr ze gg;have e6:upd (upd H3 p4 (.lst [])) l5 (.lst (((rs.map λp=>p.2).drop (1:Int).toNat).map V.int)) p4=some (.lst (([]:List Addr).map V.ref)):=by rw[zj UT];exact ze
   have e5:upd (upd H3 p4 (.lst [])) l5 (.lst (((rs.map λp=>p.2).drop (1:Int).toNat).map V.int)) l5=some (.lst (((rs.map λp=>p.2).drop 1).map V.int)):=ze;have Qg:=s4.trans s5;generalize Om:upd (upd H3 p4 (.lst [])) l5 _=H6 at e6 e5 Qg ⊢;have hf5:H3 l5=none:=s4.free gg;refine⟨l2,l5,_,_,rfl,ai.of (Qg _ _ e3),ai.of e5,?_⟩;refine vD (xs:=(rs.map λp=>p.2).map V.int) (ys:=((rs.map λp=>p.2).drop 1).map V.int) (λi σ H7=>∃(v4 v5 v6:Option V)(ms:List Addr),σ=[some (.ref a),some (.ref b),some (.ref l2),some (.ref p4),v4,v5,v6]/\ae H3 H7/\H7 l5=some (.lst (((rs.map λp=>p.2).drop 1).map V.int))/\H7 p4=some (.lst (ms.map V.ref))/\All2 (F4 K H7) ms (((rs.zip rs.tail).take i).filterMap λpq=>M6.nb cs us pq.1 pq.2)) ⟨_,_,_,[],rfl,Qg,e5,e6,.nil⟩ ?_ ?_ ?_
   .rintro i σ H7 hi ⟨v4,v5,v6,ms,rfl,s7,f5,f4,r7⟩;exact⟨ai.of (s7 _ _ e3),ai.of f5⟩
   .rintro i x y t σ H7 hx hy hn ⟨v4,v5,v6,ms,rfl,s7,f5,f4,r7⟩;rw[q26,q26]at hx;rw[q26,List.getElem?_drop,q26,Nat.add_comm]at hy;cases ea:rs[i]? with
    | none=>rw[ea]at hx;cases hx
    | some pa =>
      cases eb:rs[i+1]? with
      | none=>rw[eb]at hy;cases hy
      | some pb =>
        rw[ea]at hx;rw[eb]at hy;cases hx;cases hy;have ez:(rs.zip rs.tail)[i]? = some (pa,pb):=by rw[List.getElem?_zip_eq_some];exact⟨ea,by rw[List.getElem?_tail];exact eb⟩
        obtain⟨CZ,JJ⟩:=fY _ (mem_of_getElem? ea);obtain⟨Dc,JK⟩:=fY _ (mem_of_getElem? eb);have s8:=ae.new (o:=.tup [.int pa.2,.int pb.2]) hn;refine⟨t,_,rfl,bX.new,rfl,_,_,rfl,_,_,rfl,rfl,?_⟩;have t8:=((t1.trans (s2.trans Gk)).trans s7).trans s8;have UU:=s8 _ _ f4;have UW:=s8 _ _ f5;have r8:=r7.imp λ_ _=>F4.stays K _ _ _ _ s8;have UX:=s7.trans s8;generalize JC:upd H7 t _=H8 at s8 t8 UU UW r8 UX ⊢;refine⟨_,rfl,_,rfl,a,cs,_,rfl,US.same (IL.stays K) t8,by lia,λd hd=>(hp d hd).mem_iff.mpr CZ,λl9 H9 s9 f9 e9=>?_⟩;refine⟨_,rfl,_,rfl,a,cs,_,rfl,US.same (IL.stays K) (t8.trans s9),by lia,λd hd=>(hp d hd).mem_iff.mpr Dc,λfA kI iq f10 oo=>?_⟩;have cO:∀d∈us,∀x∈M5.zn cs d,1<=x/\x<=24:=λd hd x hx=>by have:=M6.yA hp hd x hx;lia
        refine⟨l9,fA,_,_,rfl,ai.of (iq _ _ e9),ai.of oo,by rw[M5.ya,M5.ya],by rw[M5.ya];lia,by rw[M5.ya];lia,cO _ CZ,cO _ Dc,λr hr v F6 gm told=>?_⟩;have Qh:=M6.vS hp u1 u2 CZ Dc hr;rw[<-JJ,<-JK]at Qh;have xi:=s9.trans (iq.trans gm);have Gp:=xi _ _ UU;have UY:=xi _ _ UW;have UZ:=r8.imp λ_ _=>F4.stays K _ _ _ _ xi;have Gq:=UX.trans xi;cases r with
        | none =>
          have told:v=.bH:=told;subst told;have ef:filterMap (λpq:(Int×Int)×(Int×Int)=>M6.nb cs us pq.1 pq.2) (some (pa,pb)).toList=[]:=by
           show filterMap _ [(pa,pb)]=_;rw[List.filterMap_cons_none (f:=λpq:(Int×Int)×(Int×Int)=>M6.nb cs us pq.1 pq.2) (a:=(pa,pb)) Qh,filterMap_nil]
          refine⟨_,rfl,rfl,_,rfl,qg rfl ?_⟩;refine⟨_,_,_,ms,rfl,Gq,UY,Gp,?_⟩;rw[take_succ,ez,List.filterMap_append,ef,append_nil];exact UZ
        | some r =>
          obtain⟨gU,rfl,Gr⟩:=told;have ef:filterMap (λpq:(Int×Int)×(Int×Int)=>M6.nb cs us pq.1 pq.2) (some (pa,pb)).toList=[(pa.2,pb.2,(r.1:Int),r.2)]:=by
           show filterMap _ [(pa,pb)]=_;rw[List.filterMap_cons_some (f:=λpq:(Int×Int)×(Int×Int)=>M6.nb cs us pq.1 pq.2) (a:=(pa,pb)) Qh,filterMap_nil]
          refine⟨_,rfl,rfl,_,rfl,yn (λ_=>?_) (λz=>by cases z)⟩;refine⟨_,rfl,.inl ⟨rfl,_,ai.of Gp⟩,_,rfl,_,rfl,_,rfl,gU,_,_,_,rfl,rfl,Gr,rfl,_,rfl,gU,_,_,_,rfl,rfl,Gr,rfl,(by show 4<=sizeLine;decide),λU0 Qi=>?_⟩;have cA:=ae.new (o:=.tup [.int pa.2,.int pb.2,.int (r.1:Nat),.str r.2]) Qi;have cX:=r7.length;have ib:=List.length_filterMap_le (λpq:(Int×Int)×(Int×Int)=>M6.nb cs us pq.1 pq.2) ((rs.zip rs.tail).take i);rw[q11,length_zip]at ib;refine⟨p4,_,_,rfl,rfl,cA _ _ Gp,by rw[q06];lia,?_⟩;refine⟨_,_,_,ms++[U0],rfl,(Gq.trans cA).put kM,by rw[zj (Ne.symm UT)];exact cA _ _ UY,Hu ms U0,?_⟩;rw[take_succ,ez,List.filterMap_append,ef];refine All2.snoc (F4.put (UZ.imp λ_ _=>F4.stays K _ _ _ _ cA) (cA _ _ Gp)) ?_;exact bX.put (ys:=ms.map V.ref) bX.new (cA _ _ Gp)
   .rintro σ H7 ⟨v4,v5,v6,ms,rfl,s7,f5,f4,r7⟩;rw[q06,q06,q06,length_drop,q06,take_of_length_le (by rw[length_zip,length_tail];lia)]at r7;refine⟨_,rfl,q p4 H7 ms ?_ (z1.same (cA.trans s7)) ?_ f4 r7⟩
    .exact s1.trans (ae.toN (cA.trans s7))
    .exact s1.free (cA.free kM)
inductive Qj (K:Frag)(vs:List V)(H:Hp)(Q:VK)(E:XK):Prop|mk(p:Addr)(F:Addr->Prop)(S:Sh):vs=[.ref p]->aq K H p F S->bC (wW K "by_place") fU H->((S.handed.length=0->∀C H',aj K "TooFewCards" C->ae H H'->E (.ref C) none H'))->((1<=S.handed.length->∀(l:Addr)(H':Hp)(ls:List Addr),aY H H'->bC (wW K "by_place") fU H'->H l=none->H' l=some (.lst (ls.map V.ref))->All2 (gD K H') ls (M5.rows (M6.zA S.ao S.aa) S.aa)->Q (.ref l) H'))->Qj K vs H Q E
theorem kR(F:aL K "ranking" "ranking" N1 f fd)(T:Txt K mg)(Qf:aK P w K mg base 12 "ranking_of" FH (J7 K))(tP:cc P w K mg base 2 "refuse_fewer_cards" zJ (zL K))(gh:bE P w K mg base 1 (zK K "Sheet") "couples" zD (zE K))(tK:bE P w K mg base 3 (zK K "Sheet") "cards" yh (yr K)):ar P w K mg base (dO P w) 13 f fd ["sheet"] (Qj K):=by
 refine F.iC kG ?_ ?_
 .rintro _ _ _ _⟨p,F,S,rfl,_⟩;rfl
 .rintro X W aG A outer s H vs Q E hX hW fl md hr⟨p,F,S,rfl,aR,hT,qE,q⟩;subst hX;refine⟨_,(zc (zT (yG tP fl (hM hr) rfl (za (pv 0) (za zg zb))))
   (zd (zi (zh Qf (hM hr) rfl (za (zI tK T.ah (hM hr) (pv 0)) (za (zI gh T.ah (hM hr) (pv 0)) zb)))))),?_⟩
  have ok:=aR.ok;have gf:S.handed.length<=15:=q38 (q09 _ _) ok.dw;have cQ:=ok.cQ;obtain⟨dx,b1,b2,b3,d,bT⟩:=aR.ins;refine⟨_,rfl,p,F,S,1,rfl,aR,(λh C H1 hC s1=>by rw[hW];exact qE (by lia) C H1 hC s1),λh0 H1 s1=>?_⟩;have h1:1<=S.handed.length:=by lia
  refine⟨_,rfl,p,dx,_,rfl,s1 _ _ bT,rfl,p,F,S,rfl,aR.same s1,λl2 H2 ls s2 f2 e2 r2=>?_⟩;have t2:=s1.trans s2;refine⟨_,rfl,p,dx,_,rfl,t2 _ _ bT,rfl,p,F,S,rfl,aR.same t2,λl3 H3 s3 f3 e3=>?_⟩;have t3:=t2.trans s3;refine⟨l2,l3,S.ao,S.aa,rfl,⟨ls,ai.of (s3 _ _ e2),r2.imp λ_ _ z=>ai.of (s3 _ _ z.2)⟩,ai.of e3,ok.nd,Sh.aM ok,by rw[Sh.aI];exact h1,by rw[Sh.aI];exact gf,ok.c1,by lia,hT.same t3,λl4 H4 Qk s4 z4 f4 e4 r4=>?_⟩;exact q h1 l4 H4 Qk (t3.toN.trans s4) z4 (t3.free f4) e4 r4
inductive Ql (K:Frag)(vs:List V)(H:Hp)(Q:VK)(E:XK):Prop|mk(p:Addr)(F:Addr->Prop)(S:Sh)(j:Str)(c:Int):vs=[.ref p,.str j,.int c]->aq K H p F S->bC (wW K "by_place") fU H->((∀z,S.bJ (.dy j c)=some z->∀C H',aj K z C->ae H H'->E (.ref C) none H'))->((S.bJ (.dy j c)=none->∀H',aY H H'->bC (wW K "by_place") fU H'->Q (.str (S.kB (.dy j c))) H'))->Ql K vs H Q E
theorem zlk(F:aL K "step_text" "step_text" N2 f fd)(T:Txt K mg)(c1q:cc P w K mg base 7 "step_up" Jp (P6 K))(Qm:aK P w K mg base 12 "places_text" FI (J9 K)):ar P w K mg base (dO P w) 13 f fd Jv (Ql K):=by
 refine F.iC T9 ?_ ?_
 .rintro _ _ _ _⟨p,F,S,j,c,rfl,_⟩;rfl
 .rintro X W aG A outer s H vs Q E hX hW fl md hr⟨p,F,S,j,c,rfl,hS,hL,qE,q⟩;subst hX;refine⟨_,(zc (zt (i:=3) T9.nd rfl (Or.inl rfl) (yG c1q fl (hM hr) rfl (za (pv 0) (za (pv 1) (za (pv 2) zb)))))
   (zd (zi (zo zx (zo zx (zG Ky (by rfl) T.b8 boot_str (za (zB oO (pv 3) zg (λ_ _=>rfl)) zb)) zp) (zh Qm (hM hr) rfl (za (pv 0) (za (zB oO (pv 3) zg (λ_ _=>rfl)) zb))))))),?_⟩
  subst hW;have bY:=zq;have ok:=hS.ok;have cQ:=ok.cQ;refine⟨_,rfl,_,rfl,_,rfl,p,F,S,j,c,rfl,hS,(λhn C hC=>qE _ (by show(if j∈S.af then _ else _)=_;rw[q00 hn]) C H hC (ae.refl _)),(λhp hn C hC=>qE _ (by show(if j∈S.af then _ else _)=_;rw[q01 hp,q01 hn]) C H hC (ae.refl _)),(λhs hn C H' hC s'=>qE _ ?_ C H' hC s'),(λd hd hc h0 C H' hC s'=>qE _ ?_ C H' hC s'),λd i hd h0 hi hc t l H1 s1 ft fl et el=>?_⟩
  .obtain⟨d,hd⟩:=Option.isSome_iff_exists.mp hs;show(if j∈S.af then _ else _)=_;rw[q01 (ok.cd j d hd).1,q00 (by rw[hd];exact λz=>by cases z),q00 hn]
  .show(if j∈S.af then _ else _)=_;rw[q01 (ok.cd j d hd).1,q00 (by rw[hd];exact λz=>by cases z),q01 hc,q01 (by rw[hd];exact h0)]
  obtain⟨mq,iz⟩:=ok.cd j d hd;have xR:=iz.length_eq;have BX:d.Nodup:=iz.nodup_iff.mpr ok.nd;have U1:d.getD i 0=d[i]:=by rw[q18,q31 hi];rfl
  have gO:d.idxOf c=i:=by
   rw[<-hc,U1];exact BX.idxOf_getElem i hi
  have Dr:c∈S.aa:=by
   rw[<-hc,U1];exact iz.mem_iff.mp (q44 hi)
  have BY:S.bJ (.dy j c)=none:=by
   show(if j∈S.af then _ else _)=_;rw[q01 mq,q00 (by rw[hd];exact λz=>by cases z),q01 Dr,q00];rw[hd];intro z;have FY:0<d.length:=by lia
   have z:d.getD 0 0=c:=z;have:d.idxOf c=0:=by
    rw[<-z,show d.getD 0 0=d[0] by rw[q18,q31 FY];rfl];exact BX.idxOf_getElem 0 FY
   lia
  have vY:1<=d.getD (i-1) 0/\d.getD (i-1) 0<=999:=by
   have gS:i-1<d.length:=by lia
   rw[show d.getD (i-1) 0=d[i-1] by rw[q18,q31 gS];rfl];exact ok.cO _ (iz.mem_iff.mp (q44 gS))
  have qt:bX K H1 t [.int (d.getD (i-1) 0),.ref l]:=.inl (.inl et);have uz:=M6.Tp (cs:=S.bh j (fZ d i)) ok.cO (by lia);have Ao:=M6.yp vY;have Pe:(Str.ofString " | ").length=3:=by decide +kernel
  unfold tN at Ao;refine⟨_,rfl,t,_,_,.int (d.getD (i-1) 0),rfl,rfl,qt,zP (j:=0) rfl,_,rfl,yJ (by lia),_,_,rfl,rfl,?_,_,rfl,_,rfl,t,_,_,.ref l,rfl,rfl,qt,zP (j:=1) rfl,p,F,S,l,S.bh j (fZ d i),rfl,hS.same s1,ai.of el,hL.same s1,λH2 s2 z2=>?_⟩
  .show(Str.ofString (toString (d.getD (i-1) 0))).length+(Str.ofString " | ").length<=sizeLine
   lia
  .refine⟨_,_,rfl,rfl,?_,?_⟩
   .rw[zu,Pe];show(Str.ofString (toString (d.getD (i-1) 0))).length+3+_<=sizeLine
    lia
   .have:=q BY H2 (s1.toN.trans s2) z2;have e:S.kB (.dy j c)=tN (d.getD (i-1) 0)++Str.ofString " | " ++ M6.n8 (S.bh j (fZ d i)) S.aa:=by
     show Fn ((S.card j).getD []) c _=_;rw[hd];show Fn d c (M6.n8 (S.bh j (fZ d (d.idxOf c))) S.aa)=_;rw[gO];unfold Fn;rw[gO]
    rw[e]at this;exact this
inductive Qo (K:Frag)(vs:List V)(H:Hp)(Q:VK)(E:XK):Prop|mk(p:Addr)(F:Addr->Prop)(S:Sh):vs=[.ref p]->aq K H p F S->bC (wW K "by_place") fU H->((S.handed.length=0->∀C H',aj K "TooFewCards" C->ae H H'->E (.ref C) none H'))->((1<=S.handed.length->∀(l:Addr)(H':Hp)(ls:List Addr),aY H H'->bC (wW K "by_place") fU H'->H l=none->H' l=some (.lst (ls.map V.ref))->All2 (F4 K H') ls (M6.yl S.ao S.aa)->Q (.ref l) H'))->Qo K vs H Q E
theorem zmN(F:aL K "partings" "partings" N3 f fd)(T:Txt K mg)(c1r:aK P w K mg base 13 "partings_of" Ju (Qe K))(tP:cc P w K mg base 2 "refuse_fewer_cards" zJ (zL K))(gh:bE P w K mg base 1 (zK K "Sheet") "couples" zD (zE K))(tK:bE P w K mg base 3 (zK K "Sheet") "cards" yh (yr K)):ar P w K mg base (dO P w) 14 f fd ["sheet"] (Qo K):=by
 refine F.iC Yu ?_ ?_
 .rintro _ _ _ _⟨p,F,S,rfl,_⟩;rfl
 .rintro X W aG A outer s H vs Q E hX hW fl md hr⟨p,F,S,rfl,aR,hT,qE,q⟩;subst hX;refine⟨_,(zc (zT (yG tP fl (hM hr) rfl (za (pv 0) (za zg zb))))
   (zd (zi (zh c1r (hM hr) rfl (za (zI tK T.ah (hM hr) (pv 0)) (za (zI gh T.ah (hM hr) (pv 0)) zb)))))),?_⟩
  have ok:=aR.ok;have gf:S.handed.length<=15:=q38 (q09 _ _) ok.dw;have cQ:=ok.cQ;obtain⟨dx,b1,b2,b3,d,bT⟩:=aR.ins;refine⟨_,rfl,p,F,S,1,rfl,aR,(λh C H1 hC s1=>by rw[hW];exact qE (by lia) C H1 hC s1),λh0 H1 s1=>?_⟩;have h1:1<=S.handed.length:=by lia
  refine⟨_,rfl,p,dx,_,rfl,s1 _ _ bT,rfl,p,F,S,rfl,aR.same s1,λl2 H2 ls s2 f2 e2 r2=>?_⟩;have t2:=s1.trans s2;refine⟨_,rfl,p,dx,_,rfl,t2 _ _ bT,rfl,p,F,S,rfl,aR.same t2,λl3 H3 s3 f3 e3=>?_⟩;have t3:=t2.trans s3;refine⟨l2,l3,S.ao,S.aa,rfl,⟨ls,ai.of (s3 _ _ e2),r2.imp λ_ _ z=>ai.of (s3 _ _ z.2)⟩,ai.of e3,ok.nd,Sh.aM ok,by rw[Sh.aI];exact h1,by rw[Sh.aI];exact gf,ok.c1,by lia,hT.same t3,λl4 H4 Qk s4 z4 f4 e4 r4=>?_⟩;exact q h1 l4 H4 Qk (t3.toN.trans s4) z4 (t3.free f4) e4 r4
inductive Qp (K:Frag)(vs:List V)(H:Hp)(Q:VK)(E:XK):Prop|mk(p:Addr)(F:Addr->Prop)(S:Sh)(q:Qn)(a:Addr):vs=[.ref p,.str q.f,.str q.j,.ref a]->aq K H p F S->ai K H a (q.ns.map V.int)->bC (wW K "by_place") fU H->((∀z∈S.af,z.length<=8))->((∀z,S.bJ q=some z->∀C H',aj K z C->ae H H'->E (.ref C) none H'))->((S.bJ q=none->∀H',aY H H'->bC (wW K "by_place") fU H'->Q (.str (S.kB q)) H'))->Qp K vs H Q E
theorem zlb(F:aL K "only_told" "only_told" Jw f fd)(T:Txt K mg)(c1s:cc P w K mg base 13 "ranking" ["sheet"] (Qj K))(c1t:cc P w K mg base 14 "partings" ["sheet"] (Qo K))(c1u:cc P w K mg base 7 "left_out" Jn (P4 K))(c1v:cc P w K mg base 9 "deciders" ["sheet"] (Qb K))(c1w:cc P w K mg base 8 "table_row" Jr (P9 K))(U2:aK P w K mg base 1 "numbers_text" ["couples"] (OA K))(Qd:aK P w K mg base 1 "ranking_text" ["rows"] (JG K))(Qm:aK P w K mg base 12 "places_text" FI (J9 K))(c1x:cc P w K mg base 13 "step_text" Jv (Ql K))(U3:aK P w K mg base 1 "text_or_none" ["words"] (OC K))(gh:bE P w K mg base 1 (zK K "Sheet") "couples" zD (zE K))(oY:bL P w K mg base 2 (zK K "Sheet") "card_of" zW (yd K)):ar P w K mg base (dO P w) 15 f fd Jx (Qp K):=by
 refine F.iC Yv ?_ ?_
 .rintro _ _ _ _⟨p,F,S,q,a,rfl,_⟩;rfl
 .rintro X W aG A outer s H vs Q E hX hW fl md hr⟨p,F,S,qn,a,rfl,aR,hA,hL,h8,qE,q⟩;subst hX;refine⟨_,(zc (zw (zk yB (pv 1) zp (zl _)) (zd (zi (zh U2 (hM hr) rfl (za (zI gh T.ah (hM hr) (pv 0)) zb)))) zm)
   (zc (zw (zk yB (pv 1) zp (zl _)) (zd (zi (zh U2 (hM hr) rfl (za (wS oY T.ah fl (hM hr) (pv 0) (za (pv 2) zb)) zb)))) zm)
   (zc (zw (zk yB (pv 1) zp (zl _)) (zd (zi (zh Qd (hM hr) rfl (za (yG c1s fl (hM hr) rfl (za (pv 0) zb)) zb)))) zm)
   (zc (zw (zk yB (pv 1) zp (zl _)) (zd (zi (zh Qm (hM hr) rfl (za (pv 0) (za (yG c1u fl (hM hr) rfl (za (pv 0) (za (pv 2) zb))) zb))))) zm)
   (zc (zw (zk yB (pv 1) zp (zl _)) (zd (zi (yG c1x fl (hM hr) rfl (za (pv 0) (za (pv 2) (za (zB zv (pv 3) zg (λ_ _=>rfl)) zb)))))) zm)
   (zc (zw (zk yB (pv 1) zp (zl _)) (zd (zi (zh U3 (hM hr) rfl (za (se (show bW (zf Jw) Ua "one" "other" "number" "by" [] [] _ from⟨rfl,by decide +kernel,by decide +kernel,rfl,rfl,rfl,rfl,by decide +kernel,rfl,by decide +kernel,by decide +kernel⟩) rfl (zz (yG c1t fl (hM hr) rfl (za (pv 0) zb))) (λ_ _ _ _ _=>yk) (λ_ _ _ _ _=>(Hb (yZ (vi (pv 0)) (yZ zp (yZ (vi (pv 1)) (yZ zp (yZ (vi (pv 2)) (yZ zp (yZ (vi (pv 3)) Ha)))))))))) zb)))) zm)
   (zc (zw (zk yB (pv 1) zp (zl _)) (zd (zi (zh U3 (hM hr) rfl (za (yG c1v fl (hM hr) rfl (za (pv 0) zb)) zb)))) zm)
   (zd (zi (yG c1w fl (hM hr) rfl (za (pv 0) (za (zB zv (pv 3) zg (λ_ _=>rfl)) zb)))))))))))),?_⟩
  subst hW;have bY:=zq;have ok:=aR.ok;have cQ:=ok.cQ;have gf:=ok.dw;obtain⟨dx,b1,b2,b3,d,bT⟩:=aR.ins;cases qn with
  | iF =>
    refine⟨_,rfl,rfl,_,rfl,oR (by decide) ?_⟩;refine⟨_,rfl,p,dx,_,rfl,bT,rfl,p,F,S,rfl,aR,λl1 H1 s1 f1 e1=>?_⟩;exact⟨l1,S.aa,rfl,ai.of e1,by lia,ok.cO,λH2 s2=>q rfl H2 (s1.trans s2).toN (hL.same (s1.trans s2))⟩
  | fJ j =>
    rw[show(Qn.fJ j).f=Str.ofString "show" from rfl];refine⟨_,rfl,rfl,_,rfl,zH (by decide) ?_⟩;refine⟨_,rfl,rfl,_,rfl,oR (by decide) ?_⟩;refine⟨_,rfl,p,dx,_,rfl,bT,rfl,_,rfl,p,F,S,j,rfl,aR,(λhn C hC=>qE _ (by show(if j∈S.af then _ else _)=_;rw[q00 hn]) C H hC (ae.refl _)),(λhp hn C hC=>qE _ (by show(if j∈S.af then _ else _)=_;rw[q01 hp,q01 hn]) C H hC (ae.refl _)),λc e l1 H1 s1 f1 e1=>?_⟩;obtain⟨mq,Gi⟩:=ok.cd j c e;have fT:=Gi.length_eq;refine⟨l1,c,rfl,ai.of e1,by lia,λn hn=>ok.cO n (Gi.mem_iff.mp hn),λH2 s2=>?_⟩;have:=q (by show(if j∈S.af then _ else _)=_;rw[q01 mq,q00 (by rw[e];exact λz=>by cases z)]) H2 (s1.trans s2).toN (hL.same (s1.trans s2));rw[show S.kB (.fJ j)=Txt.join M6.zY (c.map tN)by show Txt.join M6.zY (((S.card j).getD []).map tN)=_;rw[e];rfl]at this;exact this
  | dC =>
    refine⟨_,rfl,rfl,_,rfl,zH (by decide) ?_⟩;refine⟨_,rfl,rfl,_,rfl,zH (by decide) ?_⟩;refine⟨_,rfl,rfl,_,rfl,oR (by decide) ?_⟩;refine⟨_,rfl,p,F,S,rfl,aR,hL,λh0 C H' hC s'=>qE _ (q01 h0) C H' hC s',λh1 l1 H1 ls s1 z1 f1 e1 r1=>?_⟩;refine⟨l1,ls,_,rfl,ai.of e1,r1,by rw[M6.Fj];lia,λpr kK=>?_,λH2 s2=>q (q00 (by lia)) H2 (s1.trans s2.toN) (z1.same s2)⟩;obtain⟨m1,m2⟩:=M6.Ac kK;have FU:=M6.CN (cs:=S.ao) m1;have Ul:=ok.cO _ m1;have m2:pr.1=M6.dC S.ao S.aa pr.2:=m2
    lia
  | fu j =>
    rw[show(Qn.fu j).f=Str.ofString "leave" from rfl];refine⟨_,rfl,rfl,_,rfl,zH (by decide) ?_⟩;refine⟨_,rfl,rfl,_,rfl,zH (by decide) ?_⟩;refine⟨_,rfl,rfl,_,rfl,zH (by decide) ?_⟩;refine⟨_,rfl,rfl,_,rfl,oR (by decide) ?_⟩;have hh:∀{j},j∈S.handed->j∈S.af/\S.card j≠none:=λ{j} h=>by
     obtain⟨x,y⟩:=q24.mp h;exact⟨x,λz=>by rw[z]at y;cases y⟩
    refine⟨_,rfl,_,rfl,_,rfl,p,F,S,j,rfl,aR,(λhn C hC=>qE _ (by show(if j∈S.af then _ else _)=_;rw[q00 hn]) C H hC (ae.refl _)),(λhp hn C hC=>qE _ (by show(if j∈S.af then _ else _)=_;rw[q01 hp,q01 hn]) C H hC (ae.refl _)),(λhj h2 C H' hC s'=>qE _ (by show(if j∈S.af then _ else _)=_;rw[q01 (hh hj).1,q00 (hh hj).2,q01 h2]) C H' hC s'),λhj h2 l1 H1 s1 f1 e1=>?_⟩;exact⟨p,F,S,l1,S.aS j,rfl,aR.same s1,ai.of e1,hL.same s1,λH2 s2 z2=>q (by show(if j∈S.af then _ else _)=_;rw[q01 (hh hj).1,q00 (hh hj).2,q00 (by lia)]) H2 (s1.toN.trans s2) z2⟩
  | dy j c =>
    rw[show(Qn.dy j c).f=Str.ofString "step" from rfl];refine⟨_,rfl,rfl,_,rfl,zH (by decide) ?_⟩;refine⟨_,rfl,rfl,_,rfl,zH (by decide) ?_⟩;refine⟨_,rfl,rfl,_,rfl,zH (by decide) ?_⟩;refine⟨_,rfl,rfl,_,rfl,zH (by decide) ?_⟩;refine⟨_,rfl,rfl,_,rfl,oR (by decide) ?_⟩;exact⟨_,rfl,_,rfl,_,rfl,a,_,_,_,rfl,rfl,hA,rfl,p,F,S,j,c,rfl,aR,hL,qE,q⟩
  | ky =>
    refine⟨_,rfl,rfl,_,rfl,zH (by decide) ?_⟩;refine⟨_,rfl,rfl,_,rfl,zH (by decide) ?_⟩;refine⟨_,rfl,rfl,_,rfl,zH (by decide) ?_⟩;refine⟨_,rfl,rfl,_,rfl,zH (by decide) ?_⟩;refine⟨_,rfl,rfl,_,rfl,zH (by decide) ?_⟩;refine⟨_,rfl,rfl,_,rfl,oR (by decide) ?_⟩;refine⟨_,rfl,p,F,S,rfl,aR,hL,λh0 C H' hC s'=>qE _ (q01 h0) C H' hC s',λh1 l1 H1 ls s1 z1 f1 e1 r1=>?_⟩;have hpl:=M6.Tr S.ao S.aa;have tD:∀r∈M6.yl S.ao S.aa,(1<=r.1/\r.1<=999)/\(1<=r.2.1/\r.2.1<=999)/\(1<=r.2.2.1/\r.2.2.1<=999)/\r.2.2.2.length<=5:=λr hr=>by
     obtain⟨a1,a2,a3,a4⟩:=M6.Tq hr;exact⟨ok.cO _ a1,ok.cO _ a2,by lia,a4⟩
    refine⟨l1,rfl,⟨_,ai.of e1⟩,?_⟩;refine kE (f:=M6.vT) (ai.of e1) r1 (by lia) (λr H' R hr s' h=>?_) λH6 s6=>?_
    .obtain⟨a1,a2,a3,a4⟩:=tD r hr;have w1:=M6.yp a1;have w2:=M6.yp a2;have w3:=M6.yp a3;have g1:(Str.ofString ">").length=1:=by decide +kernel
     have g2:(Str.ofString ":").length=1:=by decide +kernel
     have g0:Str.empty.length=0:=rfl;unfold tN at w1 w2 w3;refine⟨_,rfl,.inl ⟨_,rfl,yJ (by lia),_,rfl,?_,_,rfl,?_,_,rfl,.inl ⟨_,rfl,yJ (by lia),_,rfl,?_,_,rfl,?_,_,rfl,.inl ⟨_,rfl,yJ (by lia),_,rfl,?_,_,rfl,?_,_,rfl,.inr ⟨_,rfl,by lia,_,rfl,?_,?_,?_⟩⟩⟩⟩⟩
     .simp only[zu];lia
     .simp only[zu];lia
     .simp only[zu];lia
     .simp only[zu];lia
     .simp only[zu];lia
     .simp only[zu];lia
     .simp only[zu];lia
     .simp only[zu];lia
     .rw[M6.MG];exact h H' (ae.refl _)
    intro l6 Al;have s7:=s6.aB (o:=.lst (((M6.yl S.ao S.aa).map M6.vT).map V.str)) Al;refine⟨l6,_,rfl,ai.new,by rw[q06];lia,λw hw=>?_,q (q00 (by lia)) _ (s1.trans s7.toN) (z1.same s7)⟩;obtain⟨r,hr,rfl⟩:=q25.mp hw;obtain⟨a1,a2,a3,a4⟩:=tD r hr;have:=M6.Ts a1 a2 a3 a4
    lia
  | mj =>
    refine⟨_,rfl,rfl,_,rfl,zH (by decide) ?_⟩;refine⟨_,rfl,rfl,_,rfl,zH (by decide) ?_⟩;refine⟨_,rfl,rfl,_,rfl,zH (by decide) ?_⟩;refine⟨_,rfl,rfl,_,rfl,zH (by decide) ?_⟩;refine⟨_,rfl,rfl,_,rfl,zH (by decide) ?_⟩;refine⟨_,rfl,rfl,_,rfl,zH (by decide) ?_⟩;refine⟨_,rfl,rfl,_,rfl,oR (by decide) ?_⟩;refine⟨_,rfl,p,F,S,rfl,aR,(λh2 C H' hC s'=>qE _ (q01 h2) C H' hC s'),λh2 l1 H1 s1 f1 e1=>?_⟩;have m8:∀w∈S.decide,w∈S.af:=λw hw=>(q24.mp (q24.mp hw).1).1;have xR:S.decide.length<=S.af.length:=q38 (q09 _ _) (q09 _ _);exact⟨l1,S.decide,rfl,ai.of e1,by lia,λw hw=>by have:=h8 w (m8 w hw);lia,q (q00 (by lia)) _ s1.toN (hL.same s1)⟩
  | row c =>
    rw[show(Qn.row c).f=Str.ofString "row" from rfl];refine⟨_,rfl,rfl,_,rfl,zH (by decide) ?_⟩;refine⟨_,rfl,rfl,_,rfl,zH (by decide) ?_⟩;refine⟨_,rfl,rfl,_,rfl,zH (by decide) ?_⟩;refine⟨_,rfl,rfl,_,rfl,zH (by decide) ?_⟩;refine⟨_,rfl,rfl,_,rfl,zH (by decide) ?_⟩;refine⟨_,rfl,rfl,_,rfl,zH (by decide) ?_⟩;refine⟨_,rfl,rfl,_,rfl,zH (by decide) ?_⟩;exact⟨_,rfl,_,rfl,a,_,_,_,rfl,rfl,hA,rfl,p,F,S,c,rfl,aR,(λh0 C H' hC s'=>qE _ (q01 h0) C H' hC s'),(λh1 hc C H' hC s'=>qE _ (by show(if S.handed.length=0 then _ else _)=_;rw[q00 (by lia),q00 hc]) C H' hC s'),λh1 hc H' s'=>q (by show(if S.handed.length=0 then _ else _)=_;rw[q00 (by lia),q01 hc]) H' s'.toN (hL.same s')⟩
inductive Qq (K:Frag)(vs:List V)(H:Hp)(Q:VK)(E:XK):Prop|mk(p:Addr)(F:Addr->Prop)(S:Sh)(q:Qn)(a:Addr):vs=[.ref p,.str q.f,.str q.j,.ref a]->aq K H p F S->ai K H a (q.ns.map V.int)->bC (wW K "by_place") fU H->((∀z∈S.af,z.length<=8))->((∀z,S.bJ q=some z->∀C H',aj K z C->ae H H'->E (.ref C) none H'))->((S.bJ q=none->∀H',aY H H'->bC (wW K "by_place") fU H'->Q (.str (S.kB q)) H'))->Qq K vs H Q E
theorem zhy(F:aL K "done_and_told" "done_and_told" N4 f fd)(T:Txt K mg)(c1y:cc P w K mg base 15 "only_told" Jx (Qp K)):ar P w K mg base (dO P w) 16 f fd Jy (Qq K):=by
 refine F.iC Yw ?_ ?_
 .rintro _ _ _ _⟨p,F,S,q,a,rfl,_⟩;rfl
 .rintro X W aG A outer s H vs Q E hX hW fl md hr⟨p,F,S,qn,a,rfl,aR,hA,hL,h8,qE,q⟩;subst hX;refine⟨_,(zc (zw (zk yB (pv 1) zp (zl _)) (zc yx
   (zd yx)) zm)
   (zc (zw (zk yB (pv 1) zp (zl _)) (zc yx
   (zd yx)) zm)
   (zc (zw (zk yB (pv 1) zp (zl _)) (zc yx
   (zd yx)) zm)
   (zd (zi (yG c1y fl (hM hr) rfl (za (pv 0) (za (pv 1) (za (pv 2) (za (pv 3) zb)))))))))),?_⟩
  subst hW;have h3:∀u∈([Str.ofString "card",Str.ofString "strike",Str.ofString "seal"]:List Str),decide (V.str qn.f=V.str u)=false:=λu hu=>by
   have go:∀f∈M57.ux,∀u∈([Str.ofString "card",Str.ofString "strike",Str.ofString "seal"]:List Str),f≠u:=by decide +kernel
   have hf:qn.f∈M57.ux:=by
    cases qn with
    | iF=>exact(show Str.ofString "couples" ∈ M57.ux by decide +kernel)
    | dC=>exact(show Str.ofString "places" ∈ M57.ux by decide +kernel)
    | ky=>exact(show Str.ofString "parts" ∈ M57.ux by decide +kernel)
    | mj=>exact(show Str.ofString "deciders" ∈ M57.ux by decide +kernel)
    | fJ j=>exact(show Str.ofString "show" ∈ M57.ux by decide +kernel)
    | fu j=>exact(show Str.ofString "leave" ∈ M57.ux by decide +kernel)
    | dy j c=>exact(show Str.ofString "step" ∈ M57.ux by decide +kernel)
    | row c=>exact(show Str.ofString "row" ∈ M57.ux by decide +kernel)
   exact q20 λz=>go _ hf u hu (by injection z)
  refine⟨_,rfl,rfl,_,rfl,zH (h3 _ (by simp)) ?_⟩;refine⟨_,rfl,rfl,_,rfl,zH (h3 _ (by simp)) ?_⟩;refine⟨_,rfl,rfl,_,rfl,zH (h3 _ (by simp)) ?_⟩;exact⟨_,rfl,_,rfl,_,rfl,_,rfl,p,F,S,qn,a,rfl,aR,hA,hL,h8,qE,q⟩
inductive Qr (K:Frag)(vs:List V)(H:Hp)(Q:VK)(E:XK):Prop|mk(p:Addr)(F:Addr->Prop)(S:Sh)(q:Qn):vs=[.ref p,.str (M20.row q.f q.j q.ns)]->aq K H p F S->q.Ok->bC (wW K "by_place") fU H->((∀z∈S.af,z.length<=8))->(∀H',aY H H'->bC (wW K "by_place") fU H'->Q (.str (S.aA q)) H')->Qr K vs H Q E
theorem oH(F:aL K "answer" "answer" N5 f fd)(T:Txt K mg)(c1z:aK P w K mg base 5 "read_row" ["row"] (PZ K))(c1A:cc P w K mg base 16 "done_and_told" Jy (Qq K)):ar P w K mg base aX 17 f fd Jz (Qr K):=by
 obtain⟨il,bg,c7,bz⟩:=T.bz;obtain⟨gN,aF,cL,aN⟩:=T.aN;obtain⟨oy,cE,fM,cC⟩:=T.cC;obtain⟨gP,bt,cM,br⟩:=T.br;obtain⟨cj,av,aV,au⟩:=T.au;obtain⟨iV,bS,dv,bF⟩:=T.bF;obtain⟨tE,bf,gQ,bc⟩:=T.bc;obtain⟨iy,aD,c8,az⟩:=T.az;obtain⟨vX,bB,iU,bj⟩:=T.bj;obtain⟨Gs,d8,tQ,gM⟩:=T.gM;refine F.ok Ub ?_ ?_
 .rintro _ _ _ _⟨p,F,S,q,rfl,_⟩;rfl
 .rintro aG A outer s H vs Q E hr⟨p,F,S,qn,rfl,hS,aJ,hL,h8,q⟩;refine⟨_,(zd (Bs rfl rfl (λ_ _ _ fl=>(zc (zt (i:=2) Ub.nd rfl (Or.inl rfl) (zh c1z (hM hr) rfl (za (pv 1) zb)))
   (zd (zi (yG c1A fl (hM hr) rfl (za (pv 0) (za (zB (LC (K:=K) rfl) (pv 2) zg (λ_ _=>rfl)) (za (zB (LC (K:=K) rfl) (pv 2) zg (λ_ _=>rfl)) (za (zB (LC (K:=K) rfl) (pv 2) zg (λ_ _=>rfl)) zb))))))))) (ug rfl tQ gM (λ_=>(zd yx)) (ug rfl c7 bz (λ_=>(zd yx)) (ug rfl cL aN (λ_=>(zd (zi zp))) (ug rfl fM cC (λ_=>(zd yx)) (ug rfl cM br (λ_=>(zd yx)) (ug rfl aV au (λ_=>(zd (zi zp))) (ug rfl dv bF (λ_=>(zd yx)) (ug rfl gQ bc (λ_=>(zd (zi zp))) (ug rfl c8 az (λ_=>(zd (zi zp))) (ug rfl iU bj (λ_=>(zd (zi zp))) qM)))))))))))),?_⟩
  have hR:=Qn.Row aJ;refine⟨λσ1 cls H2=>∃c C,aj K c C/\cls=.ref C/\ae H H2/\S.bJ qn=some c,?_,?_⟩
  .refine⟨_,rfl,_,_,_,rfl,hR,λt l H1 s1 f1 f2 e1 e2=>?_⟩;have q1:bX K H1 t [.str qn.f,.str qn.j,.ref l]:=.inl (.inl e1);refine⟨_,rfl,_,rfl,t,_,_,_,rfl,rfl,q1,rfl,_,rfl,t,_,_,_,rfl,rfl,q1,rfl,_,rfl,t,_,_,_,rfl,rfl,q1,rfl,p,F,S,qn,l,rfl,hS.same s1,ai.of e2,hL.same s1,h8,λz hz C H' hC s'=>⟨z,C,hC,rfl,s1.trans s',hz⟩,λhn H' s' z'=>?_⟩;have:=q H' (s1.toN.trans s') z';unfold Sh.aA at this;rw[hn]at this;exact this
  .rintro σ1 cls H2 ⟨c,C,hC,rfl,s2,hc⟩;have qc:Q (.str (M6.Ah c)) H2:=by
    have:=q H2 s2.toN (hL.same s2);unfold Sh.aA at this;rw[hc]at this;exact this
   rcases Sh.kC hc with rfl | rfl | rfl | rfl | rfl
   .cases aj.inj hC aF;refine⟨_,rfl,aN,zH (T.dE _ _ aF d8) ?_⟩;refine⟨_,rfl,aN,zH (T.cI _ _ aF bg) ?_⟩;refine⟨_,rfl,aN,oR (T.cm _ _ aF aF) ?_⟩;exact qc
   .cases aj.inj hC bf;refine⟨_,rfl,bc,zH (T.gc _ _ bf d8) ?_⟩;refine⟨_,rfl,bc,zH (T.dX _ _ bf bg) ?_⟩;refine⟨_,rfl,bc,zH (T.dF _ _ bf aF) ?_⟩;refine⟨_,rfl,bc,zH (T.fK _ _ bf cE) ?_⟩;refine⟨_,rfl,bc,zH (T.dG _ _ bf bt) ?_⟩;refine⟨_,rfl,bc,zH (T.du _ _ bf av) ?_⟩;refine⟨_,rfl,bc,zH (T.eC _ _ bf bS) ?_⟩;refine⟨_,rfl,bc,oR (T.gb _ _ bf bf) ?_⟩;exact qc
   .cases aj.inj hC aD;refine⟨_,rfl,az,zH (T.dZ _ _ aD d8) ?_⟩;refine⟨_,rfl,az,zH (T.cR _ _ aD bg) ?_⟩;refine⟨_,rfl,az,zH (T.cJ _ _ aD aF) ?_⟩;refine⟨_,rfl,az,zH (T.dH _ _ aD cE) ?_⟩;refine⟨_,rfl,az,zH (T.cK _ _ aD bt) ?_⟩;refine⟨_,rfl,az,zH (T.cz _ _ aD av) ?_⟩;refine⟨_,rfl,az,zH (T.c6 _ _ aD bS) ?_⟩;refine⟨_,rfl,az,zH (T.dY _ _ aD bf) ?_⟩;refine⟨_,rfl,az,oR (T.cS _ _ aD aD) ?_⟩;exact qc
   .cases aj.inj hC av;refine⟨_,rfl,au,zH (T.dr _ _ av d8) ?_⟩;refine⟨_,rfl,au,zH (T.cy _ _ av bg) ?_⟩;refine⟨_,rfl,au,zH (T.cf _ _ av aF) ?_⟩;refine⟨_,rfl,au,zH (T.dg _ _ av cE) ?_⟩;refine⟨_,rfl,au,zH (T.cg _ _ av bt) ?_⟩;refine⟨_,rfl,au,oR (T.b9 _ _ av av) ?_⟩;exact qc
   .cases aj.inj hC bB;refine⟨_,rfl,bj,zH (T.gL _ _ bB d8) ?_⟩;refine⟨_,rfl,bj,zH (T.eD _ _ bB bg) ?_⟩;refine⟨_,rfl,bj,zH (T.d0 _ _ bB aF) ?_⟩;refine⟨_,rfl,bj,zH (T.gd _ _ bB cE) ?_⟩;refine⟨_,rfl,bj,zH (T.d6 _ _ bB bt) ?_⟩;refine⟨_,rfl,bj,zH (T.dI _ _ bB av) ?_⟩;refine⟨_,rfl,bj,zH (T.eU _ _ bB bS) ?_⟩;refine⟨_,rfl,bj,zH (T.gK _ _ bB bf) ?_⟩;refine⟨_,rfl,bj,zH (T.eE _ _ bB aD) ?_⟩;refine⟨_,rfl,bj,oR (T.ik _ _ bB bB) ?_⟩;exact qc
inductive Qs (K:Frag)(vs:List V)(H:Hp)(Q:VK)(E:XK):Prop|mk(p:Addr)(F:Addr->Prop)(S:Sh)(a b:Addr)(qs:List Qn):vs=[.ref p,.ref a,.ref b]->aq K H p F S->ai K H a ((qs.map Qn.text).map V.str)->ai K H b ((qs.map S.aA).map V.str)->qs.length<=1000->((∀q∈qs,q.Ok))->bC (wW K "by_place") fU H->((∀z∈S.af,z.length<=8))->(∀H',aY H H'->bC (wW K "by_place") fU H'->Q (.bl true) H')->Qs K vs H Q E
theorem zlf(F:aL K "_law_asked" "_law_asked" N6 f fd)(T:Txt K mg)(c1B:aK P w K mg base 17 "answer" Jz (Qr K)):ar P w K mg base aX 18 f fd JA (Qs K):=by
 refine F.ok N7 ?_ ?_
 .rintro _ _ _ _⟨p,F,S,a,b,qs,rfl,_⟩;rfl
 .rintro aG A outer s H vs Q E hr⟨p,F,S,a,b,qs,rfl,hS,hA,hB,hz,aJ,hL,h8,q⟩;refine⟨_,(zc (wd PassesOwn.never rfl (yD rfl T.aT (za (yj T.ay (pv 1)) zb)) (zM (i:=3) N7.nd rfl (Or.inl rfl))
   (zc (zt (i:=4) N7.nd rfl (Or.inl rfl) (zh c1B (hM hr) rfl (za (pv 0) (za (zB zv (pv 1) (pv 3) (λ_ _=>rfl)) zb))))
   (zd (zw (PW.pt (xo (wv (yL (zN RI (by rfl) T.aZ boot_isinstance (za (pv 4) (za (xm (v:=V.ty "str") rfl T.b8 boot_str rfl) zb))))) (xn (zk gv (pv 4) (zB zv (pv 2) (pv 3) (λ_ _=>rfl)) (zl _))))) (zd (zi gX)) zm))))
   (zd (zi gX))),?_⟩
  have bY:=zq;refine⟨_,rfl,a,_,rfl,.inl hA,_,rfl,by lia,by rw[q06,q06];lia,?_⟩;rw[q06,q06,show((qs.length:Nat):Int).toNat=qs.length by lia];refine ym (λi σ H2=>∃v1 v2:Option V,σ=[some (.ref p),some (.ref a),some (.ref b),v1,v2]/\aY H H2/\bC (wW K "by_place") fU H2) ⟨_,_,rfl,(ae.refl _).toN,hL⟩ ?_ ?_
  .rintro i σ H2 hi ⟨v1,v2,rfl,s2,z2⟩;obtain⟨F2,_,Bz⟩:=hS.eN s2;have ei:(0:Int)+(i:Int)=(i:Int):=by lia
   have hq:qs[i]? = some qs[i]:=q31 hi;refine⟨_,rfl,_,rfl,_,rfl,a,_,_,.str (qs[i]).text,rfl,rfl,s2.seq hA,(by rw[ei];refine zP ?_;rw[q26,q26,hq];rfl),p,F2,S,qs[i],rfl,Bz,aJ _ (q44 hi),z2,h8,λH3 s3 z3=>?_⟩;refine⟨_,rfl,_,_,rfl,rfl,_,rfl,fP ?_⟩;refine⟨_,rfl,_,rfl,_,rfl,b,_,_,.str (S.aA qs[i]),rfl,rfl,(s2.trans s3).seq hB,(by rw[ei];refine zP ?_;rw[q26,q26,hq];rfl),rfl,_,rfl,qg rfl ?_⟩;exact⟨_,_,rfl,s2.trans s3,z3⟩
  .rintro σ H2 ⟨v1,v2,rfl,s2,z2⟩;exact q H2 s2 z2
inductive Gu (K:Frag)(vs:List V)(H:Hp)(Q:VK)(E:XK):Prop|mk(a:Addr)(ns:List Int):vs=[.ref a]->ai K H a (ns.map V.int)->ns.length<=63->H (wW K "by_place")=some (.dh #[])->(∀H',Q (.bl true) H')->Gu K vs H Q E
structure oI (K:Frag) (a l2 x:Addr) (ns:List Int) (ts:List Str) (F:Addr->Prop) (S:Sh) (lu lg lc:Addr) (ls:List Addr) (H:Hp):Prop where
 sh:aq K H x F S
 pn:S.af=ts
 cu:H lu=some (.lst (S.aa.map V.int))/\¬F lu
 nm:H l2=some (.lst (ts.map V.str))/\¬F l2
 gn:H lg=some (.lst (S.struck.map V.int))/\¬F lg
 rw:Rows F H lc ls S.rows
 sc:LQ K F H a (ns.map V.int)
 tb:H (wW K "by_place")=some (.dh #[])/\¬F (wW K "by_place")
 tk:S.taken=S.handed.length
 gr:∀g∈S.struck,1<=g/\g<=999
variable {a l2 x lu lg lc:Addr}{S:Sh}{ls:List Addr}{H H':Hp}
theorem oI.same{K:Frag}{F:Addr->Prop}(h:oI K a l2 x ns ts F S lu lg lc ls H)(s:ae H H'):oI K a l2 x ns ts F S lu lg lc ls H' :=
 ⟨h.sh.same s,h.pn,⟨s _ _ h.cu.1,h.cu.2⟩,⟨s _ _ h.nm.1,h.nm.2⟩,⟨s _ _ h.gn.1,h.gn.2⟩,h.rw.same s,h.sc.same s,⟨s _ _ h.tb.1,h.tb.2⟩,h.tk,h.gr⟩
structure jE (K:Frag) (a l2 x lu lg lc li:Addr) (ns:List Int) (S:Sh) (ls ks:List Addr) (H:Hp):Prop where
 sh:∃F,aq K H x F S
 cu:H lu=some (.lst (S.aa.map V.int))
 nm:H l2=some (.lst (S.af.map V.str))
 gn:H lg=some (.lst (S.struck.map V.int))
 rw:H lc=some (.lst (ls.map V.ref))
 rr:All2 (IL K H) ls S.rows
 it:H li=some (.lst (ks.map V.ref))
 ir:All2 (IL K H) ks S.ao
 sc:ai K H a (ns.map V.int)
 lm:bC (wW K "by_place") fU H
variable {ks:List Addr}
theorem jE.eN{K:Frag}{li:Addr}(h:jE K a l2 x lu lg lc li ns S ls ks H)(s:aY H H')(z:bC (wW K "by_place") fU H'):jE K a l2 x lu lg lc li ns S ls ks H':=by
 obtain⟨F,hF⟩:=h.sh;obtain⟨F',_,g⟩:=hF.eN s;exact⟨⟨F',g⟩,s.lst h.cu,s.lst h.nm,s.lst h.gn,s.lst h.rw,All2.eN h.rr s,s.lst h.it,All2.eN h.ir s,s.seq h.sc,z⟩
theorem jE.same{K:Frag}{li:Addr}(h:jE K a l2 x lu lg lc li ns S ls ks H)(s:ae H H'):jE K a l2 x lu lg lc li ns S ls ks H':=h.eN s.toN (h.lm.same s)
theorem tR{j:Str}(h:M2.rY j=true):M20.Wd (j++Str.ofString "a"):=by
 obtain⟨⟨h1,h2⟩,h3⟩:=(M2.CH j).mp h;have w:=M6.mi h;have la:(Str.ofString "a").length=1:=by decide +kernel
 have ca:(Str.ofString "a").cps.toList=[97]:=by decide +kernel
 refine⟨λz=>?_,λz=>?_,by rw[zu];lia⟩
 .have:=congrArg (λs:Str=>s.length) z;rw[zu,la,show(Str.ofString "").length=0 by decide +kernel]at this
  lia
 .rw[M19.HF,ca]at z;rcases List.mem_append.mp z with z | z
  .exact w.no z
  .simp at z
theorem kT{K:Frag}{ts:List Int}{p:Int->Bool}{c:St}{tc:TT}{te:TE}{fin:List V->Hp->Prop}(hA:ai K H a (ts.map V.int))(hz:ts.length<=1000)
 (MA:∀(t:Int)(H':Hp)(Q:Bool->Hp->Prop),t∈ts->ae H H'->(∀H2,ae H' H2->Q (p t) H2)->tc (some (.int t)::c) H' Q)
 (sH:∀(t:Int)(H':Hp)(Q:VK),Q (.int t) H'->te (some (.int t)::c) H' Q)
 (hd:∀(H':Hp),ae H H'->fin ((ts.filter p).map V.int) H'):cU (i5 K a) c tc te H fin:=by
 have bY:=zq;refine yN (xs:=ts.map V.int) (λi ys H5=>ys=((ts.take i).filter p).map V.int/\ae H H5) ⟨rfl,ae.refl _⟩ ?_ (by rw[q06];lia) ?_ ?_
 .rintro i ys H5 hi ⟨rfl,s5⟩;refine⟨s5.seq hA,?_⟩;have:=q09 p (ts.take i);rw[q11]at this;rw[q06]
  lia
 .rintro i x ys H5 hx ⟨rfl,s5⟩;obtain⟨hi,rfl⟩:=yQ hx;have et:ts[i]? = some (ts.getD i 0):=by rw[q18,q31 hi];rfl
  refine MA _ H5 _ (mV hi) s5 λH6 s6=>?_;have ef:(ts.take (i+1)).filter p=(ts.take i).filter p++if p (ts.getD i 0)=true then [ts.getD i 0] else []:=by
   rw[take_succ,et,q16];congr 1;show filter p [ts.getD i 0]=_;rw[q17];split <;> rfl
  by_cases hp:p (ts.getD i 0)=true
  .rw[q01 hp];refine sH _ _ _ ⟨?_,s5.trans s6⟩;rw[ef,q01 hp,q07];rfl
  .rw[q00 hp];refine⟨?_,s5.trans s6⟩;rw[ef,q00 hp,append_nil]
 .rintro ys H5 ⟨rfl,s5⟩;rw[q06,q15];exact hd _ s5
theorem Av(j:Str):Str.ofString "show " ++ j=(Qn.fJ j).text:=by
 show _=Str.join M20.zY (Str.ofString "show" :: ((if M20.dD (Str.ofString "show") M20.wl=true then [j] else [])++[].map M20.gk));rw[q01 (by decide +kernel),show Str.ofString "show "=Str.ofString "show" ++ M20.zY by decide +kernel];rfl
theorem Aw(j:Str):Str.ofString "leave " ++ j=(Qn.fu j).text:=by
 show _=Str.join M20.zY (Str.ofString "leave" :: ((if M20.dD (Str.ofString "leave") M20.wl=true then [j] else [])++[].map M20.gk));rw[q01 (by decide +kernel),show Str.ofString "leave "=Str.ofString "leave" ++ M20.zY by decide +kernel];rfl
theorem Ax(j:Str)(n:Int):Str.ofString "step " ++ j++(Str.ofString " " ++ Str.ofString (toString n))=(Qn.dy j n).text:=by
 show _=Str.join M20.zY (Str.ofString "step" :: ((if M20.dD (Str.ofString "step") M20.wl=true then [j] else [])++[n].map M20.gk));rw[q01 (by decide +kernel),show Str.ofString "step "=Str.ofString "step" ++ M20.zY by decide +kernel,show Str.ofString " "=M20.zY by decide +kernel];show _=Str.ofString "step" ++ M20.zY++(j++M20.zY++M20.gk n);simp only[M6.wL];rfl
theorem Gv(n:Int):Str.ofString "row" ++ (Str.ofString " " ++ Str.ofString (toString n))=(Qn.row n).text:=by
 show _=Str.join M20.zY (Str.ofString "row" :: ((if M20.dD (Str.ofString "row") M20.wl=true then [Str.ofString ""] else [])++[n].map M20.gk));rw[q00 (by decide +kernel),show Str.ofString " "=M20.zY by decide +kernel];show _=Str.ofString "row" ++ M20.zY++M20.gk n;rw[M6.wL];rfl
theorem B6: [Qn.iF,.dC,.ky,.mj].map Qn.text=(["couples","places","parts","deciders"]:List Str):=by decide +kernel
theorem B7{j:Str}(h:j∉S.af)(n:Int):S.aA (.fJ j)=Str.ofString "refused: judge"/\S.aA (.fu j)=Str.ofString "refused: judge"/\S.aA (.dy j n)=Str.ofString "refused: judge":=by
 have e:M6.Ah ("UnknownJudge":Str)=Str.ofString "refused: judge":=by decide +kernel
 refine⟨?_,?_,?_⟩
 .unfold Sh.aA;rw[show S.bJ (.fJ j)=some ("UnknownJudge":Str)by show(if j∈S.af then _ else _)=_;rw[q00 h]];exact e
 .unfold Sh.aA;rw[show S.bJ (.fu j)=some ("UnknownJudge":Str)by show(if j∈S.af then _ else _)=_;rw[q00 h]];exact e
 .unfold Sh.aA;rw[show S.bJ (.dy j n)=some ("UnknownJudge":Str)by show(if j∈S.af then _ else _)=_;rw[q00 h]];exact e
theorem B8(F:aL K "law" "law" oj f fd)(T:Txt K mg)(kO:aK P w K mg base 1 "_law_at" Fv (JI K))(U4:aK P w K mg base 1 "_law_many" Ii (OH K))(c1C:aK P w K mg base 1 "_law_couples" Ik (OI K))(c1D:aK P w K mg base 1 "_law_judges" Im (OJ K))(c1E:aK P w K mg base 3 "_law_panel" IF (O6 K))(c1F:aK P w K mg base 6 "_law_sheet" Jj (P0 K))(c1G:aK P w K mg base 4 "_law_stands" IY (Pq K))(U5:aK P w K mg base 1 "_law_without" HP (Oh K))(c1H:aK P w K mg base 6 "_law_plain" Jl (P1 K))(c1I:aK P w K mg base 3 "_law_row" IK (Pa K))(c1J:aK P w K mg base 4 "_law_of_judge" Jb (Px K))(Qt:aK P w K mg base 18 "_law_asked" JA (Qs K))(c1K:bL P w K mg base 2 (zK K "Sheet") "strike" Iu (OO K))(c1L:bL P w K mg base 2 (zK K "Sheet") "seal" ["self"] (OS K)):ar P w K mg base aX 19 f fd ["_law_script"] (Gu K):=by
 refine F.ok wz ?_ ?_
 .rintro _ _ _ _⟨a,ns,rfl,_⟩;rfl
 .rintro aG A outer s H vs Q E hr⟨a,ns,rfl,hS,hz,hT,q⟩;refine⟨_,(zc (zt (i:=1) wz.nd rfl (Or.inl rfl) (zo yK (zh kO (hM hr) rfl (za (pv 0) (za zg zb))) zg))
   (zc (zt (i:=2) wz.nd rfl (Or.inr rfl) (zh c1C (hM hr) rfl (za (zh kO (hM hr) rfl (za (pv 0) (za zg zb))) (za (zh U4 (hM hr) rfl (za (pv 1) (za (zh kO (hM hr) rfl (za (pv 0) (za zg zb))) (za zg (za zg (za zg zb)))))) zb))))
   (zc (zt (i:=3) wz.nd rfl (Or.inl rfl) (zh c1D (hM hr) rfl (za (zh kO (hM hr) rfl (za (pv 0) (za zg zb))) (za (zh U4 (hM hr) rfl (za (pv 1) (za (zh kO (hM hr) rfl (za (pv 0) (za zg zb))) (za zg (za zg (za zg zb)))))) zb))))
   (zc (zt (i:=4) wz.nd rfl (Or.inl rfl) (zh c1E (hM hr) rfl (za (pv 0) (za zg (za (pv 2) (za (yj T.ay (pv 3)) (za (zo yK (zh kO (hM hr) rfl (za (pv 0) (za zg zb))) zg) (za (pv 1) zb))))))))
   (zc (qK (zw (zk yB (zo yK (zh kO (hM hr) rfl (za (pv 0) (za zg zb))) zg) zg (zl _)) (zd (yu (i:=4) (show ak (zf oj) FJ "_law_name" [] [] _ from cZ) rfl wz.nd rfl (Or.inl rfl) (zz (pv 3)) (λ_ _ _ _ _=>yk) (λ_ _ _ _ _=>(zF zb)))) zm))
   (zc (zt (i:=5) wz.nd rfl (Or.inl rfl) (zh c1F (hM hr) rfl (za (pv 2) (za (pv 3) (za (pv 4) zb)))))
   (zc (zt (i:=6) wz.nd rfl (Or.inr rfl) (zF zb))
   (zc (qK (zw (PW.pt (AQ (zk yB (zo yK (zh kO (hM hr) rfl (za (pv 0) (za zg zb))) zg) zg (zl _)) (AO (zk uR (yj T.ay (pv 2)) zg (zl _))))) (zc (zt (i:=6) wz.nd rfl (Or.inr rfl) (zF (za (zB zv (pv 2) (zo yK (zh kO (hM hr) rfl (za (pv 0) (za zg zb))) (yj T.ay (pv 2))) (λ_ _=>rfl)) zb)))
   (zc (zT (wS c1K T.ah xP (hM hr) (pv 5) (za (zB zv (pv 6) zg (λ_ _=>rfl)) zb)))
   (zc (zt (i:=2) wz.nd rfl (Or.inr rfl) (zh U5 (hM hr) rfl (za (pv 2) (za (zB zv (pv 6) zg (λ_ _=>rfl)) zb))))
   (zd (yu (i:=4) (show ak (zf oj) FJ "_law_card_here" ["_law_gone"] [6] _ from cZ) rfl wz.nd rfl (Or.inl rfl) (zz (pv 4)) (λ_ _ _ _ _=>yk) (λ_ _ _ _ _=>(zh U5 (hM hr) rfl (za (pv 0) (za (zB (xQ (K:=K) rfl) (pv 1) zg (λ_ _=>rfl)) zb))))))))) zm))
   (zc (qK (zw (zk yB (zo yK (zh kO (hM hr) rfl (za (pv 0) (za zg zb))) zg) zg (zl _)) (zd (zT (Hj c1L T.ah xP (hM hr) (pv 5)))) zm))
   (zc (yu (i:=7) (show ak (zf oj) FJ "_law_card_here" [] [] _ from cZ) rfl wz.nd rfl (Or.inl rfl) (zz (pv 4)) (λ_ _ _ _ _=>(yI (zk (ww (K:=K) rfl hr.bp) (pv 0) (zF zb) (zl _)))) (λ_ _ _ _ _=>(pv 0)))
   (zc (zw (wv (yL (zh Qt (hM hr) rfl (za (pv 5) (za (lK (cV.cons (cV.cons (cV.cons (cV.cons cV.nil))))) (za (zh c1H (hM hr) rfl (za (pv 3) (za (pv 4) (za (pv 2) zb)))) zb)))))) (zd (zi gX)) zm)
   (zc (zt (i:=8) wz.nd rfl (Or.inl rfl) (zo yK (zh kO (hM hr) rfl (za (pv 0) (za zg zb))) (yj T.ay (pv 3))))
   (zc (zt (i:=9) wz.nd rfl (Or.inl rfl) (zB zv (zo wy (zo wy (pv 6) (zQ (show ak (zf oj) FJ "_law_number" ["_law_couples_here"] [2] _ from cZ) rfl (zz (zF (za zg (za zg (za zg zb))))) (λ_ _ _ _ _=>(yI (zk (Wg (K:=K) rfl) (pv 0) (pv 1) (by first | exact zl _ | rfl)))) (λ_ _ _ _ _=>(pv 0)))) (zF (za zg zb))) zg (λ_ _=>rfl)))
   (zc (wd PassesOwn.never rfl (zz (zF (za (zB zv (pv 2) (zo yK (zh kO (hM hr) rfl (za (pv 0) (za zg zb))) (yj T.ay (pv 2))) (λ_ _=>rfl)) (za (pv 9) zb)))) (zM (i:=10) wz.nd rfl (Or.inl rfl))
     (zc (zt (i:=11) wz.nd rfl (Or.inl rfl) (zo zx zp (zG Ky (by rfl) T.b8 boot_str (za (pv 10) zb))))
   (zc (zt (i:=12) wz.nd rfl (Or.inl rfl) (zo wy (zh c1J (hM hr) rfl (za (pv 4) (za (pv 2) (za (pv 8) (za (pv 10) zb))))) (zF (za (zh c1I (hM hr) rfl (za (pv 7) (za (pv 2) (za (pv 10) zb)))) zb))))
   (zc (zt (i:=13) wz.nd rfl (Or.inl rfl) (zF (za (zo zx zp (zB zv (pv 3) (pv 8) (λ_ _=>rfl))) (za (zo zx zp (zB zv (pv 3) (pv 8) (λ_ _=>rfl))) (za (zo zx (zo zx zp (zB zv (pv 3) (pv 8) (λ_ _=>rfl))) (pv 11)) (za (zo zx zp (pv 11)) zb))))))
   (zc (zw (wv (yL (zh Qt (hM hr) rfl (za (pv 5) (za (pv 13) (za (pv 12) zb)))))) (zd (zi gX)) zm)
   (zc (zt (i:=13) wz.nd rfl (Or.inl rfl) (zF (za (zo zx (zo zx zp (zB zv (pv 3) (pv 8) (λ_ _=>rfl))) zp) (za (zo zx (zo zx zp (zB zv (pv 3) (pv 8) (λ_ _=>rfl))) zp) (za (zo zx (zo zx (zo zx zp (zB zv (pv 3) (pv 8) (λ_ _=>rfl))) zp) (pv 11)) zb)))))
   (zd (zw (wv (yL (zh Qt (hM hr) rfl (za (pv 5) (za (pv 13) (za (zo A9 (zF (za zp zb)) zg) zb)))))) (zd (zi gX)) zm))))))))
   (zd (zi (zh c1G (hM hr) rfl (za (pv 5) (za (pv 3) (za (pv 2) (za (pv 6) (za (pv 4) (za (yj T.ay (pv 7)) (za (oK yB (zo yK (zh kO (hM hr) rfl (za (pv 0) (za zg zb))) zg) zg (zl _)) zb)))))))))))))))))))))))),?_⟩
  have bY:=zq;refine⟨_,rfl,a,ns,2,rfl,hS,by decide,_,_,rfl,rfl,(by show(0:Int)<16;decide),?_⟩;generalize ns.getD (2:Int).toNat 0%16=md;refine⟨_,rfl,a,ns,4,rfl,hS,by decide,_,rfl,_,rfl,a,ns,0,rfl,hS,by decide,_,_,_,_,_,rfl,by decide,by decide,λmany m1 m2=>?_⟩;refine⟨_,_,rfl,by lia,by lia,λl1 H1 s1 f1 e1=>?_⟩;generalize Qu:M1.aa _ _=us at e1;have U6:us.length=many.toNat:=by rw[<-Qu,M1.Sm]
  have UK:us.Nodup:=by rw[<-Qu];exact M1.W6 (by lia)
  have UL:∀x∈us,1<=x/\x<=999:=λx hx=>by rw[<-Qu]at hx;exact M1.W5 hx
  have Df:M1.oV us=true:=(M1.Sn us).mpr ⟨by lia,UK,UL⟩;refine⟨_,rfl,a,ns,5,rfl,s1.seq hS,by decide,_,rfl,_,rfl,a,ns,1,rfl,s1.seq hS,by decide,_,_,_,_,_,rfl,by decide,by decide,λaf p1 p2=>?_⟩;refine⟨_,_,rfl,by lia,by lia,λl2 H2 ts s2 f2 e2 Ao UM Gg hlen=>?_⟩;have JZ:M2.uq ts=true:=(M2.Mg ts).mpr ⟨by lia,UM,λz hz=>(M2.CH z).mp (Gg z hz)⟩;have t2:=s1.trans s2;have Qv:us≠[]:=by intro z;rw[z]at U6;simp at U6;lia
  have AbI:ts≠[]:=by intro z;rw[z]at Ao;simp at Ao;lia
  refine⟨_,rfl,_,rfl,_,rfl,l2,_,rfl,.inl (ai.of e2),_,rfl,a,ns,3,rfl,t2.seq hS,by decide,_,_,rfl,rfl,(by show(0:Int)<4;decide),_,rfl,a,l1,ns,us,6,_,_,md,rfl,t2.seq hS,ai.of (s2 _ _ e1),by decide,by lia,by rw[q06];lia,Qv,by lia,λlc H3 ls cs s3 f3 e3 r3 fT fB=>?_⟩;rw[q06]at fT;have fT:cs.length=ts.length:=by lia
  have u3:=s3 _ _ (s2 _ _ e1);have n3:=s3 _ _ e2;have t3:=t2.trans s3;refine⟨λσ' H'=>∃(lc:Addr)(ls:List Addr)(cs:List (List Int)),σ'=[some (.ref a),some (.int md),some (.ref l1),some (.ref l2),some (.ref lc),none,none,none,none,none,none,none,none,none]/\ae H3 H'/\H' lc=some (.lst (ls.map V.ref))/\All2 (λl c=>H' l=some (.lst (c.map V.int))) ls cs/\cs.length=ts.length/\(∀d∈cs,d=[]\/d.Perm us),?_,?_⟩
  .refine⟨_,rfl,a,ns,21,rfl,t3.seq hS,by decide,_,_,rfl,rfl,(by show(0:Int)<6;decide),rfl,_,rfl,yO (λ_=>?_) (λ_=>⟨lc,ls,cs,rfl,ae.refl _,e3,r3,fT,fB⟩)⟩;refine⟨_,rfl,l2,rfl,⟨_,ai.of n3⟩,?_⟩;refine zU (xs:=ts.map V.str) (λi ys H7=>∃ks:List Addr,ys=ks.map V.ref/\ae H3 H7/\All2 (λl c=>H7 l=some (.lst (c.map V.int))) ks (replicate i ([]:List Int))) ⟨[],rfl,ae.refl _,.nil⟩ ?_ (by rw[q06];lia) ?_ ?_
   .rintro i ys H7 hi ⟨ks,rfl,s7,r7⟩;have:=r7.length;rw[q34]at this;exact⟨ai.of (s7 _ _ n3),by rw[q06];lia⟩
   .rintro i y ys H7 hy ⟨ks,rfl,s7,r7⟩;refine⟨(by show 0<=sizeLine;decide),λl hl=>⟨ks++[l],by rw[q07];rfl,s7.aB hl,?_⟩⟩;rw[List.replicate_succ'];exact(r7.imp λ_ _ z=>(ae.new hl) _ _ z).snoc ze
   rintro ys H7 ⟨ks,rfl,s7,r7⟩ l8 uA;rw[q06]at r7;exact⟨l8,ks,replicate ts.length [],rfl,s7.aB uA,ze,r7.imp λl c z=>(ae.new uA) l _ z,by rw[q34],λd hd=>.inl (List.eq_of_mem_replicate hd)⟩
  clear r3 e3 f3 fT fB;rintro σ' H4 ⟨lc,ls,cs,rfl,s4,e4,r4,fT,fB⟩;have vV:=r4.length;have t4:=t3.trans s4;have c4:=s4 _ _ u3;refine⟨_,rfl,_,rfl,_,rfl,l1,l2,lc,us,ts,cs,rfl,ai.of c4,ai.of (s4 _ _ n3),⟨ls,ai.of e4,r4.imp λ_ _ z=>ai.of z⟩,Df,JZ,fT,fB,λx H5 F S h5 d5 g1 g2 g3 g4 g5 g6=>?_⟩;have c5:=d5 _ _ c4 (λz=>z);have j5:=d5 _ _ (s4 _ _ n3) (λz=>z);have k5:=d5 _ _ e4 (λz=>z);have r5:Rows F H5 lc ls cs:=⟨k5.1,k5.2,r4.imp λ_ _ z=>d5 _ _ z (λz=>z)⟩;have U7:=(ai.none (t4.seq hS)).gF d5;have Qw:=d5 _ _ (t4 _ _ hT) (λz=>z);have ok:=h5.ok;have CU:=Sh.gH ok;rw[g4]at CU;refine⟨(by show 0<=sizeLine;decide),λlg U8=>?_⟩;have sg:=ae.new (o:=.lst []) U8;have eg:upd H5 lg (.lst []) lg=some (.lst []):=ze;have nlg:¬F lg:=h5.apart U8;generalize hHg:upd H5 lg _=Hg at sg eg ⊢;have i0:oI K a l2 x ns ts F S l1 lg lc ls Hg:=⟨h5.same sg,g3,⟨by rw[g1];exact sg _ _ c5.1,c5.2⟩,⟨sg _ _ j5.1,j5.2⟩,⟨by rw[g2];exact eg,nlg⟩,by rw[g4];exact r5.same sg,U7.same sg,⟨sg _ _ Qw.1,Qw.2⟩,by rw[g5,<-CU],by rw[g2];exact λg z=>nomatch z⟩;refine⟨λσ' H'=>∃(F:Addr->Prop)(S:Sh)(lu lg lc:Addr)(ls:List Addr),σ'=[some (.ref a),some (.int md),some (.ref lu),some (.ref l2),some (.ref lc),some (.ref x),some (.ref lg),none,none,none,none,none,none,none]/\oI K a l2 x ns ts F S lu lg lc ls H'/\S.b7=false,?_,?_⟩
  .refine⟨_,rfl,a,ns,22,rfl,i0.sc.sq,by decide,_,_,rfl,rfl,(by show(0:Int)<3;decide),rfl,_,rfl,yO (λ_=>⟨_,rfl,l1,_,rfl,.inl (ai.of i0.cu.1),_,_,rfl,rfl,_,rfl,yO (λh2=>?_) (λ_=>⟨F,S,l1,lg,lc,ls,rfl,i0,g6⟩)⟩) (λ_=>⟨F,S,l1,lg,lc,ls,rfl,i0,g6⟩)⟩;rw[q06]at h2;have q0:=Int.emod_nonneg (ns.getD (23:Int).toNat 0) (b:=(S.aa.length:Int)) (by lia);have q1:=Int.emod_lt_of_pos (ns.getD (23:Int).toNat 0) (b:=(S.aa.length:Int)) (by lia);refine⟨_,rfl,_,rfl,a,ns,23,rfl,i0.sc.sq,by decide,_,rfl,l1,_,rfl,.inl (ai.of i0.cu.1),?_⟩;rw[q06];refine⟨_,_,rfl,rfl,(by show(0:Int)<S.aa.length;lia),l1,_,_,_,rfl,rfl,ai.of i0.cu.1,Bm q0 (by lia),(by show 1<=sizeLine;decide),λlh U9=>?_⟩;have hc:=mV (ns:=S.aa) (i:=(ns.getD (23:Int).toNat 0%(S.aa.length:Int)).toNat) (by lia);generalize S.aa.getD (ns.getD (23:Int).toNat 0%(S.aa.length:Int)).toNat 0=c at hc ⊢;have sh:=ae.new (o:=.lst [.int c]) U9;have eh:upd Hg lh (.lst [.int c]) lh=some (.lst [.int c]):=ze;have nh:¬F lh:=i0.sh.apart U9;generalize hHh:upd Hg lh _=Hh at sh eh ⊢;have i1:=i0.same sh;obtain⟨dx,b1,b2,b3,dd,bT⟩:=i1.sh.ins;have PY:S.bO c=none:=by
    unfold Sh.bO;rw[g6,q00 (by decide),q01 hc,q00 (by lia)]
   refine⟨_,rfl,x,dx,_,rfl,bT,rfl,_,rfl,lh,_,_,_,rfl,rfl,ai.of eh,rfl,x,F,S,c,rfl,i1.sh,λz hz=>(by rw[PY]at hz;cases hz),λ_ Hc G jI dc=>?_⟩;have uc:=dc _ _ i1.cu.1 i1.cu.2;have jL:=dc _ _ eh nh;have rc:=i1.rw.gF dc;have cQ:=ok.cQ;refine⟨_,rfl,_,rfl,lh,_,_,_,rfl,rfl,ai.of jL.1,rfl,l1,S.aa,c,rfl,ai.of uc.1,by lia,λlv Hv sv fv ev=>?_⟩;have nv:¬G lv:=jI.apart fv;have rv:=rc.same sv;have oB:=Sh.bq S;have dw:=ok.dw;refine⟨_,rfl,lc,rfl,⟨_,ai.of rv.1⟩,?_⟩;refine kF (F:=G) (f:=wo c) (ai.of rv.1) (rv.2.2.imp λ_ _ z=>z.1) (by lia) (λm d H' R hd hm s' h=>?_) λkn Hw sw rn=>?_
   .exact⟨_,rfl,_,rfl,lh,_,_,_,rfl,rfl,ai.of (s' _ _ (sv _ _ jL.1)),rfl,m,d,c,rfl,ai.of hm,by have:=Sh.vL ok hd;lia,λl H2 s2 f2 e2=>h l H2 s2 e2 (λz=>((jI.same sv).same s').fh l z f2)⟩
   intro lw FT;have Va:=sw.aB (o:=.lst (kn.map V.ref)) FT;have tw:=sv.trans Va;have nw:¬G lw:=((jI.same sv).same sw).apart FT;have jc:=dc _ _ i1.nm.1 i1.nm.2;have tc:=dc _ _ i1.tb.1 i1.tb.2;refine⟨G,S.bG c,lv,lh,lw,kn,rfl,⟨jI.same tw,i1.pn,⟨Va _ _ ev,nv⟩,⟨tw _ _ jc.1,jc.2⟩,⟨?_,jL.2⟩,⟨ze,nw,?_⟩,(i1.sc.gF dc).same tw,⟨tw _ _ tc.1,tc.2⟩,?_,?_⟩,g6⟩
   .show upd Hw lw _ lh=some (.lst ((S.struck++[c]).map V.int));rw[g2];exact tw _ _ jL.1
   .rw[Sh.jt];exact rn.imp λ_ _ z=>⟨(ae.new FT) _ _ z.1,z.2⟩
   .show S.taken=(S.bG c).handed.length;rw[i1.tk];unfold Sh.handed;congr 1;refine filter_congr λj _=>?_;show _=((S.card j).map (wo c)).isSome;cases S.card j <;> rfl
   .intro g hg;rcases List.mem_append.mp (show g∈S.struck++[c] from hg)with z | z
    .exact i1.gr g z
    .rw[List.mem_singleton.mp z];exact ok.cO c hc
  clear i0 h5 d5 g1 g2 g4 g5 g6 CU ok Qw U7 r5 k5 j5 c5;rintro σ' H8 ⟨F,S,lu,lg,lc,ls,rfl,i8,Ba⟩;refine⟨λσ' H'=>∃(F:Addr->Prop)(S:Sh),σ'=[some (.ref a),some (.int md),some (.ref lu),some (.ref l2),some (.ref lc),some (.ref x),some (.ref lg),none,none,none,none,none,none,none]/\oI K a l2 x ns ts F S lu lg lc ls H'/\S.b7=decide (V.int (ns.getD (24:Int).toNat 0%3)=V.int 1),?_,?_⟩
  .refine⟨_,rfl,a,ns,24,rfl,i8.sc.sq,by decide,_,_,rfl,rfl,(by show(0:Int)<3;decide),rfl,_,rfl,yO (λh=>?_) (λh=>⟨F,S,rfl,i8,by rw[Ba,q20 h]⟩)⟩;obtain⟨dx,b1,b2,b3,dd,bT⟩:=i8.sh.ins;refine⟨_,rfl,x,dx,_,rfl,bT,rfl,x,F,S,rfl,i8.sh,λz=>(by rw[Ba]at z;cases z),λ_ Hc hc dc=>⟨F,S.close,rfl,⟨hc,i8.pn,dc _ _ i8.cu.1 i8.cu.2,dc _ _ i8.nm.1 i8.nm.2,dc _ _ i8.gn.1 i8.gn.2,i8.rw.gF dc,i8.sc.gF dc,dc _ _ i8.tb.1 i8.tb.2,i8.tk,i8.gr⟩,(q19 h).symm⟩⟩
  clear i8 Ba;rintro σ' H9 ⟨F,S,rfl,i9,Ba⟩;have ok:=i9.sh.ok;have cQ:=ok.cQ;have oB:=Sh.bq S;have dw:=ok.dw;have Gw:=i9.pn;have h8:∀z∈S.af,z.length<=8:=λz hz=>((M2.CH z).mp (Gg z (by rw[<-Gw];exact hz))).1.2;have AbK:S.af.length=ts.length:=by rw[Gw]
  refine⟨_,rfl,lc,rfl,⟨_,ai.of i9.rw.1⟩,?_⟩;refine CL (ai.of i9.rw.1) (i9.rw.2.2.imp λ_ _ z=>ai.of z.1) (by lia) (λm d H' Q hm h=>?_) (λm H' Q h=>⟨_,rfl,h⟩) λks kI iq oX=>?_
  .refine⟨_,rfl,(by show 0<=sizeLine;decide),λiG eG=>?_⟩;have cA:=ae.new (o:=.lst []) eG;refine⟨m,iG,_,[],rfl,rfl,cA.seq hm,ai.new,zC _,rfl,_,rfl,?_⟩;rw[show fR (d.map V.int) []=decide (d=[])from yU _ []];exact h _ cA
  intro li Qx;have gm:=iq.aB (o:=.lst (ks.map V.ref)) Qx;rw[<-Sh.bP ok]at oX;have o6:=i9.same gm;have fx:jE K a l2 x lu lg lc li ns S ls ks (upd kI li (.lst (ks.map V.ref))):=⟨⟨F,o6.sh⟩,o6.cu.1,by rw[Gw];exact o6.nm.1,o6.gn.1,o6.rw.1,o6.rw.2.2.imp λ_ _ z=>ai.of z.1,ze,oX.imp λ_ _=>IL.stays K _ _ _ _ (ae.new Qx),o6.sc.sq,bC.new (q:=fU) o6.tb.1⟩;have hsg:=i9.gr;have Dp:=i9.tk;generalize F5:upd kI li _=F6 at fx ⊢;clear i9 o6 gm F5 oX Qx iq;have hpl:∀z∈S.af,∀y∈S.af,z.length=y.length:=by rw[Gw];exact hlen
  have SF:∀z∈S.af,M2.rY z=true:=by rw[Gw];exact Gg
  have JN:=ok.p1;have hc1:=ok.c1;refine⟨_,rfl,(by decide),λl7 kH=>?_⟩;have s7:=ae.new (o:=.lst (map V.str (["couples","places","parts","deciders"]:List Str))) kH;have e7:upd F6 l7 (.lst (map V.str (["couples","places","parts","deciders"]:List Str))) l7=some (.lst (([Qn.iF,.dC,.ky,.mj].map Qn.text).map V.str)):=by rw[ze,B6]
  generalize xb:upd F6 l7 _=mv at s7 e7 ⊢;have fx:=fx.same s7;refine⟨_,rfl,_,rfl,_,rfl,l2,lc,lu,S,rfl,ai.of fx.nm,⟨ls,ai.of fx.rw,fx.rr⟩,ai.of fx.cu,ok,h8,λl8 Am cA Uy tG=>?_⟩;have fx:=fx.same cA;obtain⟨F1,g1⟩:=fx.sh;refine⟨x,F1,S,l7,l8,[.iF,.dC,.ky,.mj],rfl,g1,ai.of (cA _ _ e7),ai.of tG,by decide,(λz hz=>by simp only[q27,not_mem_nil,or_false]at hz;rcases hz with rfl | rfl | rfl | rfl <;> trivial),fx.lm,h8,λF8 jQ Vb=>⟨_,rfl,fP ?_⟩⟩;have fx:=fx.eN jQ Vb;clear g1 tG Uy cA e7 s7 xb kH jQ Vb;refine⟨_,rfl,a,ns,25,rfl,fx.sc,by decide,_,rfl,l2,_,rfl,.inl (ai.of fx.nm),?_⟩;rw[q06];have w0:=Int.emod_nonneg (ns.getD (25:Int).toNat 0) (b:=(S.af.length:Int)) (by lia);have w1:=Int.emod_lt_of_pos (ns.getD (25:Int).toNat 0) (b:=(S.af.length:Int)) (by lia);refine⟨_,_,rfl,rfl,(by show(0:Int)<S.af.length;lia),?_⟩;dsimp only;generalize ns.getD (25:Int).toNat 0%(S.af.length:Int)=we at w0 w1 ⊢;obtain⟨w,rfl⟩:∃w:Nat,we=(w:Int):=⟨we.toNat,by lia⟩;have hw:w<S.af.length:=by lia
  have o8:S.af.getD w "" ∈ S.af:=vk hw;have Vc:=SF _ o8;have hj8:=h8 _ o8;have Ds:fC (S.af.map V.str) (w:Int)=some (.str (S.af.getD w "")):=by
   have:=Ez (ts:=S.af) (i:=(w:Int)) (by lia) (by lia);rw[show((w:Int)).toNat=w by lia]at this;exact this
  have hja:S.af.getD w "" ++ Str.ofString "a" ∉ S.af:=λz=>by
   have:=hpl _ z _ o8;rw[zu,show(Str.ofString "a").length=1 by decide +kernel]at this
   lia
  refine⟨_,rfl,(by decide),λl9 vW=>?_⟩;have s9:=ae.new (o:=.lst (([999,998,1]:List Int).map V.int)) vW;have e9:upd F8 l9 (.lst (([999,998,1]:List Int).map V.int)) l9=some (.lst (([999,998,1]:List Int).map V.int)):=ze;have fx:=fx.same s9;refine⟨l9,rfl,⟨_,ai.of e9⟩,?_⟩;refine kT (ts:=[999,998,1]) (p:=λn => !decide (n∈S.aa)) (ai.of e9) (by decide) (λn H' R hn s' h=>?_) (λn H' R h=>⟨_,rfl,h⟩) λJV o7=>?_
  .refine⟨_,rfl,_,rfl,lu,_,rfl,.inl (ai.of (s' _ _ fx.cu)),rfl,zC _,_,rfl,?_⟩;rw[Ct];exact h _ (ae.refl _)
  intro fA fL;have fx:=fx.same o7;have FZ:∀n∈([999,998,1]:List Int).filter (λn => !decide (n∈S.aa)),1<=n/\n<=999:=λn hn=>by
   have:=(q24.mp hn).1;simp only[q27,not_mem_nil,or_false]at this
   lia
  have ib:(([999,998,1]:List Int).filter (λn => !decide (n∈S.aa))).length<=3:=q09 _ _;generalize ([999,998,1]:List Int).filter (λn => !decide (n∈S.aa))=jH at FZ ib fL ⊢;have iq:=ae.new (o:=.lst (jH.map V.int)) fL;have oo:upd JV fA (.lst (jH.map V.int)) fA=some (.lst (jH.map V.int)):=ze;generalize Qy:upd JV fA _=Di at iq oo ⊢;have fx:=fx.same iq;refine⟨lg,fA,_,_,rfl,rfl,fx.gn,oo,(by rw[q06,q06];lia),λjB jC=>?_⟩;have gm:=ae.new (o:=.lst (S.struck.map V.int++jH.map V.int)) jC;have Qz:upd Di jB (.lst (S.struck.map V.int++jH.map V.int)) jB=some (.lst (S.struck.map V.int++jH.map V.int)):=ze;generalize Gb:upd Di jB _=JX at gm Qz ⊢;have fx:=fx.same gm;refine⟨(by decide),λgU jD=>?_⟩;have cN:=ae.new (o:=.lst [.int 2]) jD;have iw:upd JX gU (.lst [.int 2]) gU=some (.lst [.int 2]):=ze;have B9:=cN _ _ Qz;generalize Ge:upd JX gU _=PD at cN iw B9 ⊢;have fx:=fx.same cN;refine⟨jB,gU,_,_,rfl,rfl,B9,iw,(by rw[q08,q06,q06];show _+1<=sizeLine;lia),λiG eG=>?_⟩;obtain⟨st,jg,hsr⟩:∃st:Int,(S.struck.map V.int++jH.map V.int++[.int 2])[0]? = some (.int st)/\1<=st/\st<=999:=by
   cases e:S.struck with
   | cons g r=>exact⟨g,rfl,hsg g (by rw[e];exact q14)⟩
   | nil =>
     cases jH with
     | cons g r=>exact⟨g,rfl,FZ g q14⟩
     | nil=>exact⟨2,rfl,by decide,by decide⟩
  have cA:=ae.new (o:=.lst (S.struck.map V.int++jH.map V.int++[.int 2])) eG;have tG:upd PD iG (.lst (S.struck.map V.int++jH.map V.int++[.int 2])) iG=some (.lst (S.struck.map V.int++jH.map V.int++[.int 2])):=ze;generalize QA:upd PD iG _=UE at cA tG ⊢;have fx:=fx.same cA;refine⟨iG,_,_,.int st,rfl,rfl,ai.of tG,zP jg,?_⟩;clear tG cA QA eG iw B9 cN Ge jD Qz gm Gb jC oo iq Qy fL ib FZ o7 e9 s9 vW;refine⟨_,rfl,_,rfl,a,ns,26,rfl,fx.sc,by decide,_,rfl,lu,_,rfl,.inl (ai.of fx.cu),?_⟩;rw[q06];have q0:=Int.emod_nonneg (ns.getD (26:Int).toNat 0) (b:=(S.aa.length:Int)) (by lia);have q1:=Int.emod_lt_of_pos (ns.getD (26:Int).toNat 0) (b:=(S.aa.length:Int)) (by lia);refine⟨_,_,rfl,rfl,(by show(0:Int)<S.aa.length;lia),lu,_,_,_,rfl,rfl,ai.of fx.cu,Bm q0 (by lia),_,rfl,(by show 2<=sizeLine;decide),λjy iT=>?_⟩;have hc:=mV (ns:=S.aa) (i:=(ns.getD (26:Int).toNat 0%(S.aa.length:Int)).toNat) (by lia);generalize S.aa.getD (ns.getD (26:Int).toNat 0%(S.aa.length:Int)).toNat 0=n1 at hc ⊢;have hn1:=ok.cO _ hc;have jQ:=ae.new (o:=.lst (([n1,st]:List Int).map V.int)) iT;have d7:upd UE jy (.lst (([n1,st]:List Int).map V.int)) jy=some (.lst (([n1,st]:List Int).map V.int)):=ze;have fx:=fx.same jQ;refine⟨jy,rfl,⟨_,ai.of d7⟩,?_⟩;refine GR (xs:=([n1,st]:List Int).map V.int) (λi σ H'=>∃v10 v11 QB QC:Option V,σ=[some (.ref a),some (.int md),some (.ref lu),some (.ref l2),some (.ref lc),some (.ref x),some (.ref lg),some (.ref li),some (.int w),some (.int st),v10,v11,QB,QC]/\jE K a l2 x lu lg lc li ns S ls ks H'/\H' jy=some (.lst (([n1,st]:List Int).map V.int))) ⟨_,_,_,_,rfl,fx,d7⟩ (λi σ H' _ h=>?_) ?_ ?_
  .obtain⟨_,_,_,_,_,_,z⟩:=h;exact ai.of z
  .rintro i v σ UH hx ⟨v10,v11,QB,QC,rfl,fx,d7⟩;obtain⟨n,Dq,rfl⟩:∃n:Int,(1<=n/\n<=999)/\v=.int n:=by
    have:=mem_of_getElem? hx;simp only[map_cons,map_nil,q27,not_mem_nil,or_false]at this;rcases this with rfl | rfl
    .exact⟨n1,hn1,rfl⟩
    .exact⟨st,hsr,rfl⟩
   have Ao:=M6.yp Dq;unfold tN at Ao;have hb:(Str.ofString " ").length=1:=by decide +kernel
   have l_s:(Str.ofString "show ").length=5:=by decide +kernel
   have l_l:(Str.ofString "leave ").length=6:=by decide +kernel
   have l_t:(Str.ofString "step ").length=5:=by decide +kernel
   have l_r:(Str.ofString "row").length=3:=by decide +kernel
   have l_a:(Str.ofString "a").length=1:=by decide +kernel
   refine⟨_,rfl,_,rfl,yJ (by lia),_,_,rfl,rfl,(by show(Str.ofString " ").length+(Str.ofString (toString n)).length<=sizeLine;lia),?_⟩;refine⟨_,rfl,_,rfl,_,rfl,_,rfl,lc,lu,w,n,S,rfl,⟨ls,ai.of fx.rw,fx.rr⟩,ai.of fx.cu,ok,hw,λJU H21 Ay f21 uG=>?_⟩;have fx:=fx.same Ay;have d7:=Ay _ _ d7;refine⟨_,rfl,_,rfl,_,rfl,li,lu,n,S,rfl,⟨ks,ai.of fx.it,fx.ir⟩,ai.of fx.cu,ok,by lia,λVd Ka=>?_⟩;have fx:=fx.same Ka;have d7:=Ka _ _ d7;have uG:=Ka _ _ uG;refine⟨(by show 1<=sizeLine;decide),λDh Gx=>?_⟩;have tL:=ae.new (o:=.lst [.str (S.aA (.row n))]) Gx;have F9:upd Vd Dh (.lst [.str (S.aA (.row n))]) Dh=some (.lst [.str (S.aA (.row n))]):=ze;have uG:=tL _ _ uG;have d7:=tL _ _ d7;generalize QD:upd Vd Dh _=Ve at tL F9 uG d7 ⊢;have fx:=fx.same tL;refine⟨JU,Dh,_,_,rfl,rfl,uG,F9,(by show 3+1<=sizeLine;decide),λuE tM=>?_⟩;have xc:=ae.new (o:=.lst (map V.str ([S.aA (.fJ (S.af.getD w "")),S.aA (.fu (S.af.getD w "")),S.aA (.dy (S.af.getD w "") n)]:List Str)++[.str (S.aA (.row n))])) tM;have uF:upd Ve uE (.lst (map V.str ([S.aA (.fJ (S.af.getD w "")),S.aA (.fu (S.af.getD w "")),S.aA (.dy (S.af.getD w "") n)]:List Str)++[.str (S.aA (.row n))])) uE=some (.lst ((([Qn.fJ (S.af.getD w ""),.fu (S.af.getD w ""),.dy (S.af.getD w "") n,.row n]:List Qn).map S.aA).map V.str)):=ze;have d7:=xc _ _ d7;generalize QE:upd Ve uE _=QF at xc uF d7 ⊢;have fx:=fx.same xc;clear F9 uG tL QD Gx f21 Ay Ka xc QE tM;have hjl:(S.af.getD w "").length<=8:=hj8;have sj:ai K QF l2 (S.af.map V.str):=ai.of fx.nm;refine⟨_,rfl,_,rfl,l2,_,_,_,rfl,rfl,sj,Ds,_,_,rfl,rfl,?_,_,rfl,_,rfl,l2,_,_,_,rfl,rfl,sj,Ds,_,_,rfl,rfl,?_,_,rfl,_,rfl,l2,_,_,_,rfl,rfl,sj,Ds,_,_,rfl,rfl,?_,_,rfl,_,_,rfl,rfl,?_,_,rfl,_,_,rfl,rfl,?_,(by show 4<=sizeLine;decide),λB2 xf=>?_⟩
   .lia
   .lia
   .lia
   .simp only[zu];lia
   .simp only[zu];lia
   have oC:=ae.new (o:=.lst [.str (Str.ofString "show " ++ S.af.getD w ""),.str (Str.ofString "leave " ++ S.af.getD w ""),.str (Str.ofString "step " ++ S.af.getD w "" ++ (Str.ofString " " ++ Str.ofString (toString n))),.str (Str.ofString "row" ++ (Str.ofString " " ++ Str.ofString (toString n)))]) xf;have QG:upd QF B2 (.lst [.str (Str.ofString "show " ++ S.af.getD w ""),.str (Str.ofString "leave " ++ S.af.getD w ""),.str (Str.ofString "step " ++ S.af.getD w "" ++ (Str.ofString " " ++ Str.ofString (toString n))),.str (Str.ofString "row" ++ (Str.ofString " " ++ Str.ofString (toString n)))]) B2=some (.lst ((([Qn.fJ (S.af.getD w ""),.fu (S.af.getD w ""),.dy (S.af.getD w "") n,.row n]:List Qn).map Qn.text).map V.str)):=by
    rw[ze,Av,Aw,Ax,Gv];rfl
   have uF:=oC _ _ uF;have d7:=oC _ _ d7;generalize QH:upd QF B2 _=H25 at oC QG uF d7 ⊢;have fx:=fx.same oC;have wj:=M6.mi Vc;obtain⟨F2,g2⟩:=fx.sh;refine⟨_,rfl,_,rfl,_,rfl,x,F2,S,B2,uE,[.fJ (S.af.getD w ""),.fu (S.af.getD w ""),.dy (S.af.getD w "") n,.row n],rfl,g2,ai.of QG,ai.of uF,(by simp),(λz hz=>?_),fx.lm,h8,λQI QJ Vf=>⟨_,rfl,fP ?_⟩⟩
   .simp only[q27,not_mem_nil,or_false]at hz;rcases hz with rfl | rfl | rfl | rfl
    .exact wj
    .exact wj
    .exact⟨wj,Dq⟩
    .exact Dq
   have fx:=fx.eN QJ Vf;have d7:=QJ.lst d7;clear g2 QG uF oC QH xf QJ Vf sj;have sj:ai K QI l2 (S.af.map V.str):=ai.of fx.nm;refine⟨_,rfl,_,rfl,l2,_,_,_,rfl,rfl,sj,Ds,_,_,rfl,rfl,?_,_,_,rfl,rfl,?_,_,rfl,_,rfl,l2,_,_,_,rfl,rfl,sj,Ds,_,_,rfl,rfl,?_,_,_,rfl,rfl,?_,_,rfl,_,rfl,l2,_,_,_,rfl,rfl,sj,Ds,_,_,rfl,rfl,?_,_,_,rfl,rfl,?_,_,rfl,_,_,rfl,rfl,?_,(by show 3<=sizeLine;decide),λDj QK=>?_⟩
   .lia
   .simp only[zu];lia
   .lia
   .simp only[zu];lia
   .lia
   .simp only[zu];lia
   .simp only[zu];lia
   have Dk:=ae.new (o:=.lst [.str (Str.ofString "show " ++ S.af.getD w "" ++ Str.ofString "a"),.str (Str.ofString "leave " ++ S.af.getD w "" ++ Str.ofString "a"),.str (Str.ofString "step " ++ S.af.getD w "" ++ Str.ofString "a" ++ (Str.ofString " " ++ Str.ofString (toString n)))]) QK;have As:upd QI Dj (.lst [.str (Str.ofString "show " ++ S.af.getD w "" ++ Str.ofString "a"),.str (Str.ofString "leave " ++ S.af.getD w "" ++ Str.ofString "a"),.str (Str.ofString "step " ++ S.af.getD w "" ++ Str.ofString "a" ++ (Str.ofString " " ++ Str.ofString (toString n)))]) Dj=some (.lst ((([Qn.fJ (S.af.getD w "" ++ Str.ofString "a"),.fu (S.af.getD w "" ++ Str.ofString "a"),.dy (S.af.getD w "" ++ Str.ofString "a") n]:List Qn).map Qn.text).map V.str)):=by
    rw[ze,M6.wL (Str.ofString "show "),M6.wL (Str.ofString "leave "),M6.wL (Str.ofString "step ") (S.af.getD w "") (Str.ofString "a"),Av,Aw,Ax];rfl
   have d7:=Dk _ _ d7;generalize AbR:upd QI Dj _=Vg at Dk As d7 ⊢;have fx:=fx.same Dk;refine⟨_,rfl,_,rfl,(by show 1<=sizeLine;decide),λQL QM=>?_⟩;have JY:=ae.new (o:=.lst [.str (Str.ofString "refused: judge")]) QM;refine⟨QL,3,_,rfl,rfl,ze,by decide,by decide,(by show 1*3<=sizeLine;decide),λKb QN=>?_⟩;have Ay:=JY.aB (o:=.lst (replicate (3:Int).toNat [V.str (Str.ofString "refused: judge")]).flatten) QN;obtain⟨an1,an2,an3⟩:=B7 hja n;have uG:upd (upd Vg QL (.lst [.str (Str.ofString "refused: judge")])) Kb (.lst (replicate (3:Int).toNat [V.str (Str.ofString "refused: judge")]).flatten) Kb=some (.lst ((([Qn.fJ (S.af.getD w "" ++ Str.ofString "a"),.fu (S.af.getD w "" ++ Str.ofString "a"),.dy (S.af.getD w "" ++ Str.ofString "a") n]:List Qn).map S.aA).map V.str)):=by
    rw[ze];show _=some (HO.lst [V.str (S.aA (.fJ (S.af.getD w "" ++ Str.ofString "a"))),V.str (S.aA (.fu (S.af.getD w "" ++ Str.ofString "a"))),V.str (S.aA (.dy (S.af.getD w "" ++ Str.ofString "a") n))]);rw[an1,an2,an3];rfl
   have As:=Ay _ _ As;have d7:=Ay _ _ d7;generalize AbV:upd (upd Vg QL _) Kb _=H28 at Ay uG As d7 ⊢;have fx:=fx.same Ay;have wk:=tR Vc;obtain⟨F3,g3⟩:=fx.sh;refine⟨x,F3,S,Dj,Kb,[.fJ (S.af.getD w "" ++ Str.ofString "a"),.fu (S.af.getD w "" ++ Str.ofString "a"),.dy (S.af.getD w "" ++ Str.ofString "a") n],rfl,g3,ai.of As,ai.of uG,(by simp),(λz hz=>?_),fx.lm,h8,λH29 Vh z29=>⟨_,rfl,fP ⟨_,_,_,_,rfl,fx.eN Vh z29,Vh.lst d7⟩⟩⟩;simp only[q27,not_mem_nil,or_false]at hz;rcases hz with rfl | rfl | rfl
   .exact wk
   .exact wk
   .exact⟨wk,Dq⟩
  .rintro σ UH ⟨v10,v11,QB,QC,rfl,fx,d7⟩;have vw:=fx.ir.length;rw[Sh.aI,<-Dp]at vw;obtain⟨F2,g2⟩:=fx.sh;refine⟨_,rfl,_,rfl,_,rfl,_,rfl,_,rfl,_,rfl,li,_,rfl,.inl (ai.of fx.it),_,rfl,a,ns,24,rfl,fx.sc,by decide,_,_,rfl,rfl,(by show(0:Int)<3;decide),rfl,x,F2,S,l2,lu,lg,lc,?_,g2,ai.of fx.nm,ai.of fx.cu,ai.of fx.gn,⟨ls,ai.of fx.rw,fx.rr⟩,λH30 _=>q H30⟩;rw[q06,vw,Ba];rfl
variable {l:PySem.W.OpenLaw}
theorem all_mk{w:World}{K:Frag}{h:Heap}{mg:Str->Option Value}{fa Ca QO aC:Addr}(X:K.In h)(G:h.Ns mainGlobals mg)(hfa:mg "law"=some (.ref fa))
 {QP QQ QR QS Cb QT Gy Az AA AB tS AD:Value} {QU QV Gz AE:Option Addr} {QW GA:Array (Option Value)}
 (oa_Sheet:nsIn K mainGlobals "Sheet"=some (some (.ref aC)))
 (a0:DM K aC "taken" "Sheet.taken" MQ ["self"])
 (a1:DM K aC "is_sealed" "Sheet.is_sealed" MR ["self"])
 (a2:DM K aC "refuse_if_sealed" "Sheet.refuse_if_sealed" yV ["self"])
 (a3:DM K aC "refuse_unknown_judge" "Sheet.refuse_unknown_judge" yt zO)
 (a4:DM K aC "couples" "Sheet.couples" MS zD)
 (a5:DM K aC "struck" "Sheet.struck" MT ["self"])
 (a6:DM K aC "judges" "Sheet.judges" MU ["self"])
 (a7:DM K aC "handed" "Sheet.handed" HJ zV)
 (a8:DF K "_law_rows" MV Fq)
 (a9:DF K "_law_part" Fs HL)
 (a10:DF K "_law_without" HN HP)
 (a11:DF K "_law_words" HQ yy)
 (a12:DF K "_law_ladder" HR HS)
 (a13:DF K "_law_moved" HV HW)
 (a14:DF K "whole_card" MY HX)
 (a15:DF K "mark_on" MZ HY)
 (a16:DF K "without_couple" HZ wQ)
 (a17:DF K "one_up" M0 Ia)
 (a18:DF K "majority_of" M7 ["many"])
 (a19:DF K "granting" Ib Ft)
 (a20:DF K "due_couples" M8 ["first"])
 (a21:DF K "figure" Na ["sign"])
 (a22:DF K "good_number" Nb ["couple"])
 (a23:DF K "small_letter" Nc ["sign"])
 (a24:DF K "good_length" Nd wa)
 (a25:DF K "all_unlike" Nf ["things"])
 (a26:DF K "numbers_text" Ic ["couples"])
 (a27:DF K "ranking_text" Ie ["rows"])
 (a28:DF K "text_or_none" Ng ["words"])
 (a29:DF K "_law_whole" Nh Fu)
 (a30:DF K "_law_at" Ni Fv)
 (a31:DF K "_law_texts" Nj Ig)
 (a32:DF K "_law_mix" Nk Ih)
 (a33:DF K "_law_many" Nl Ii)
 (a34:DF K "_law_couples" Ij Ik)
 (a35:DF K "_law_judges" Il Im)
 (a36:DF K "_law_marks" Io CO)
 (a37:DF K "_law_key" Ip Iq)
 (a38:DM K aC "hand_in" "Sheet.hand_in" Nm Ir)
 (a39:DM K aC "strike" "Sheet.strike" Nn Iu)
 (a40:DM K aC "seal" "Sheet.seal" Np ["self"])
 (a41:DM K aC "card_of" "Sheet.card_of" Nq zW)
 (a42:DF K "_law_parts" Nr Iv)
 (a43:DF K "_law_line" Nt Iw)
 (a44:DF K "_law_spot_text" Iy yE)
 (a45:DF K "marks_of" Iz CP)
 (a46:DF K "granted" Nu BR)
 (a47:DF K "granted_sum" Nv wq)
 (a48:DF K "first_number" Nw ["marks"])
 (a49:DF K "refuse_fewer_cards" Nx zJ)
 (a50:DF K "couple_word" IA ["word"])
 (a51:DF K "good_couples" IB ["couples"])
 (a52:DF K "good_name" IC ["judge"])
 (a53:DF K "_law_same" Ny Fx)
 (a54:DF K "_law_card" Nz ID)
 (a55:DF K "_law_spots" Fy yP)
 (a56:DM K aC "cards" "Sheet.cards" IE yh)
 (a57:DF K "_law_panel" NB IF)
 (a58:DF K "_law_part_text" NC IH)
 (a59:DF K "_law_firsts" II IJ)
 (a60:DF K "_law_row" ND IK)
 (a61:DF K "_law_step" NF IM)
 (a62:DF K "ladder_of" IQ IS)
 (a63:DF K "unlike_at" NG Fz)
 (a64:DF K "cards_without" IT wp)
 (a65:DF K "read_couple" NH ["word"])
 (a66:DF K "good_judges" IU ["judges"])
 (a67:DF K "_law_lists" NI IV)
 (a68:DM K aC "__init__" "Sheet.__init__" NJ IW)
 (a69:DF K "_law_stands" CQ IY)
 (a70:DF K "_law_deciding" wV IZ)
 (a71:DF K "_law_of_judge" Ja Jb)
 (a72:DF K "is_ahead" NM Jc)
 (a73:DF K "parting_of" NN Jd)
 (a74:DF K "read_couples" Je Jf)
 (a75:DF K "row_text" FC Jg)
 (a76:DF K "_law_decide_text" NP wA)
 (a77:DF K "place_among" Jh Ji)
 (a78:DF K "read_row" NQ ["row"])
 (a79:DF K "_law_sheet" NS Jj)
 (a80:DF K "_law_plain" Jk Jl)
 (a81:DF K "places_of" FE yT)
 (a82:DF K "places" NV ["sheet"])
 (a83:DF K "left_out" NW Jn)
 (a84:DF K "step_up" Jo Jp)
 (a85:DF K "firsts_of" Jq FG)
 (a86:DF K "firsts" NX ["sheet"])
 (a87:DF K "table_row" NY Jr)
 (a88:DF K "deciders" Js ["sheet"])
 (a89:nsIn K mainGlobals "by_place"=some (some (.ref QO))) (l89:K.lookup QO=some ⟨QP,QU,.func (fnOf "by_place" "by_place" (qf CS) (wP CS) (zf CS) .none QQ QR QS QV Cb QT),QW⟩) (c89:codeIn K Cb "by_place"=true) (k89:keepIn K (.ref QO)=true)
 {lP:Addr} {lo:Value} {ld:Option Addr} {ls:Array (Option Value)} {Vi:Array Value} (qe:Cb=.ref lc) (qk:K.lookup lc=some ⟨lo,ld,.fields Vi,ls⟩) (qv:Vi[11]? = some (.ref lP)) (qh:PySem.W.codeHdIn K lc lP=true) (qn:K.lookup lP=none)
 (a90:DF K "ranking_of" NZ FH)
 (a91:DF K "places_text" N0 FI)
 (a92:DF K "partings_of" Jt Ju)
 (a93:DF K "ranking" N1 ["sheet"])
 (a94:DF K "step_text" N2 Jv)
 (a95:DF K "partings" N3 ["sheet"])
 (a96:DF K "only_told" Jw Jx)
 (a97:DF K "done_and_told" N4 Jy)
 (a98:DF K "answer" N5 Jz)
 (a99:DF K "_law_asked" N6 JA)
 (a100:nsIn K mainGlobals "law"=some (some (.ref Ca))) (l100:K.lookup Ca=some ⟨Gy,Gz,.func (fnOf "law" "law" (qf oj) (wP oj) (zf oj) .none Az AA AB AE tS AD),GA⟩) (c100:codeIn K tS "law"=true) (k100:keepIn K (.ref Ca)=true)
 (z0:nsIn K mainGlobals "all"=some none)
 (z1:nsIn K mainGlobals "bool"=some none)
 (z2:nsIn K mainGlobals "int"=some none)
 (z3:nsIn K mainGlobals "isinstance"=some none)
 (z4:nsIn K mainGlobals "len"=some none)
 (z5:nsIn K mainGlobals "list"=some none)
 (z6:nsIn K mainGlobals "max"=some none)
 (z7:nsIn K mainGlobals "min"=some none)
 (z8:nsIn K mainGlobals "range"=some none)
 (z9:nsIn K mainGlobals "set"=some none)
 (z10:nsIn K mainGlobals "sorted"=some none)
 (z11:nsIn K mainGlobals "str"=some none)
 (z12:nsIn K mainGlobals "sum"=some none)
 (z13:nsIn K mainGlobals "zip"=some none)
 {Vj:Addr} {Vk:Value} {yd0:Option Addr} {QX:Array Value} {yn0:Nat} {ys0:Array (Option Value)}
 (y0:nsIn K mainGlobals "BARE_WORDS"=some (some (.ref Vj))) (yl0:K.lookup Vj=some ⟨Vk,yd0,.seq QX yn0,ys0⟩) (yt0:Vk=.type "tuple") (yz0:QX.size<=sizeLine) (yv0:Vals ((["seal","couples","places","parts","deciders"]:List Str).map V.str) QX.toList)
 {Vl:Addr} {Vm:Value} {yd1:Option Addr} {QY:Array Value} {yn1:Nat} {ys1:Array (Option Value)}
 (y1:nsIn K mainGlobals "JUDGE_WORDS"=some (some (.ref Vl))) (yl1:K.lookup Vl=some ⟨Vm,yd1,.seq QY yn1,ys1⟩) (yt1:Vm=.type "tuple") (yz1:QY.size<=sizeLine) (yv1:Vals ((["card","show","leave","step"]:List Str).map V.str) QY.toList)
 {Vn:Addr} {Vo:Value} {yd2:Option Addr} {QZ:Array Value} {yn2:Nat} {ys2:Array (Option Value)}
 (y2:nsIn K mainGlobals "COUPLE_WORDS"=some (some (.ref Vn))) (yl2:K.lookup Vn=some ⟨Vo,yd2,.seq QZ yn2,ys2⟩) (yt2:Vo=.type "tuple") (yz2:QZ.size<=sizeLine) (yv2:Vals ((["strike","step","row"]:List Str).map V.str) QZ.toList)
 {t3:Tok} (y3:nsIn K mainGlobals "MOST_FIGURES"=some (some (.int 3 t3)))
 {t4:Tok} (y4:nsIn K mainGlobals "MOST_COUPLES"=some (some (.int 24 t4)))
 {t5:Tok} (y5:nsIn K mainGlobals "MOST_JUDGES"=some (some (.int 15 t5)))
 {t6:Tok} (y6:nsIn K mainGlobals "MOST_NUMBER"=some (some (.int 999 t6)))
 {t7:Tok} (y7:nsIn K mainGlobals "MOST_SIGNS"=some (some (.int 8 t7)))
 {t8:Tok} (y8:nsIn K mainGlobals "MOST_CARDS"=some (some (.int 200 t8)))
 {Q0:Addr} (xa1:nsIn K mainGlobals "BadCouples"=some (some (.ref Q0)))
 {Q1:Addr} (xa2:nsIn K mainGlobals "BadJudges"=some (some (.ref Q1)))
 {AF:Addr} (xa3:nsIn K mainGlobals "SheetSealed"=some (some (.ref AF)))
 {tT:Addr} (xa4:nsIn K mainGlobals "UnknownJudge"=some (some (.ref tT)))
 {Cc:Addr} (xa5:nsIn K mainGlobals "BadCard"=some (some (.ref Cc)))
 {Cd:Addr} (xa6:nsIn K mainGlobals "TooManyCards"=some (some (.ref Cd)))
 {oJ:Addr} (xa7:nsIn K mainGlobals "UnknownCouple"=some (some (.ref oJ)))
 {Dt:Addr} (xa8:nsIn K mainGlobals "LastCouple"=some (some (.ref Dt)))
 {mw:Addr} (xa9:nsIn K mainGlobals "NoCard"=some (some (.ref mw)))
 {fj:Addr} (xa10:nsIn K mainGlobals "TooFewCards"=some (some (.ref fj)))
 {fk:Addr} (xa11:nsIn K mainGlobals "AtTop"=some (some (.ref fk)))
 {jF:Addr} (xa12:nsIn K mainGlobals "BadRow"=some (some (.ref jF)))
 (xe1:excIn K Q0 lE "ValueError.__new__"=true)
 (xe2:excIn K Q1 lE "ValueError.__new__"=true)
 (xe3:excIn K AF lE "ValueError.__new__"=true)
 (xe4:excIn K tT lE "ValueError.__new__"=true)
 (xs4_3:L2.zy K tT AF=false)
 (xs4_4:L2.zy K tT tT=true)
 (xs4_12:L2.zy K tT jF=false)
 (xe5:excIn K Cc lE "ValueError.__new__"=true)
 (xe6:excIn K Cd lE "ValueError.__new__"=true)
 (xe7:excIn K oJ lE "ValueError.__new__"=true)
 (xs7_3:L2.zy K oJ AF=false)
 (xs7_4:L2.zy K oJ tT=false)
 (xs7_5:L2.zy K oJ Cc=false)
 (xs7_6:L2.zy K oJ Cd=false)
 (xs7_7:L2.zy K oJ oJ=true)
 (xs7_12:L2.zy K oJ jF=false)
 (xe8:excIn K Dt lE "ValueError.__new__"=true)
 (xe9:excIn K mw lE "ValueError.__new__"=true)
 (xs9_3:L2.zy K mw AF=false)
 (xs9_4:L2.zy K mw tT=false)
 (xs9_5:L2.zy K mw Cc=false)
 (xs9_6:L2.zy K mw Cd=false)
 (xs9_7:L2.zy K mw oJ=false)
 (xs9_8:L2.zy K mw Dt=false)
 (xs9_9:L2.zy K mw mw=true)
 (xs9_12:L2.zy K mw jF=false)
 (xe10:excIn K fj lE "ValueError.__new__"=true)
 (xs10_3:L2.zy K fj AF=false)
 (xs10_4:L2.zy K fj tT=false)
 (xs10_5:L2.zy K fj Cc=false)
 (xs10_6:L2.zy K fj Cd=false)
 (xs10_7:L2.zy K fj oJ=false)
 (xs10_8:L2.zy K fj Dt=false)
 (xs10_9:L2.zy K fj mw=false)
 (xs10_10:L2.zy K fj fj=true)
 (xs10_12:L2.zy K fj jF=false)
 (xe11:excIn K fk lE "ValueError.__new__"=true)
 (xs11_3:L2.zy K fk AF=false)
 (xs11_4:L2.zy K fk tT=false)
 (xs11_5:L2.zy K fk Cc=false)
 (xs11_6:L2.zy K fk Cd=false)
 (xs11_7:L2.zy K fk oJ=false)
 (xs11_8:L2.zy K fk Dt=false)
 (xs11_9:L2.zy K fk mw=false)
 (xs11_10:L2.zy K fk fj=false)
 (xs11_11:L2.zy K fk fk=true)
 (xs11_12:L2.zy K fk jF=false)
 (xe12:excIn K jF lE "ValueError.__new__"=true)
 (opg_Sheet:plainGet K aC Str.empty=true)
 (ohd_Sheet:hasDictIn K aC=true)
 (opo_Sheet:plainOver K aC=true)
 (osa_Sheet:findIn K (.ref aC) "__setattr__"=some (some (.builtin "object.__setattr__")))
 (omk_Sheet:makesIn K aC=true)
 (okc_Sheet:keepIn K (.ref aC)=true)
 (on_Sheet_standing:findIn K (.ref aC) "standing"=some none)
 (on_Sheet_struck_so_far:findIn K (.ref aC) "struck_so_far"=some none)
 (on_Sheet_panel:findIn K (.ref aC) "panel"=some none)
 (on_Sheet_card_by_judge:findIn K (.ref aC) "card_by_judge"=some none)
 (on_Sheet_taken_so_far:findIn K (.ref aC) "taken_so_far"=some none)
 (on_Sheet_sealed:findIn K (.ref aC) "sealed"=some none)
 : vB K "by_place"/\∃fd:FuncData,(∀(s:Shared)(v:Value),BindsTo s fd ⟨[v],[]⟩ [("_law_script",v)])/\∀base:Heap,K.In base->base.Ns mainGlobals mg->vA mg base->ar l.prog w K mg base aX 19 fa fd ["_law_script"] (Gu K):=by
 obtain⟨L89,LK⟩:=BE a89 l89 qe qk qv qh qn;have e:=hfa.symm.trans (mg_of X G a100);cases e;have aH:=vq oa_Sheet;have T:Txt K mg:=⟨mg_none_of X G z0,mg_none_of X G z1,mg_none_of X G z2,mg_none_of X G z3,mg_none_of X G z4,mg_none_of X G z5,mg_none_of X G z6,mg_none_of X G z7,mg_none_of X G z8,mg_none_of X G z9,mg_none_of X G z10,mg_none_of X G z11,mg_none_of X G z12,mg_none_of X G z13,LV X G y0 yl0 yt0 yz0 yv0,LV X G y1 yl1 yt1 yz1 yv1,LV X G y2 yl2 yt2 yz2 yv2,⟨_,mg_of X G y3⟩,⟨_,mg_of X G y4⟩,⟨_,mg_of X G y5⟩,⟨_,mg_of X G y6⟩,⟨_,mg_of X G y7⟩,⟨_,mg_of X G y8⟩,⟨Q0,xa1,mg_of X G xa1,xe1⟩,⟨Q1,xa2,mg_of X G xa2,xe2⟩,⟨AF,xa3,mg_of X G xa3,xe3⟩,⟨tT,xa4,mg_of X G xa4,xe4⟩,λC D hC hD=>by cases aj.inj hC xa4;cases aj.inj hD xa3;exact xs4_3,λC D hC hD=>by cases aj.inj hC xa4;cases aj.inj hD xa4;exact xs4_4,λC D hC hD=>by cases aj.inj hC xa4;cases aj.inj hD xa12;exact xs4_12,⟨Cc,xa5,mg_of X G xa5,xe5⟩,⟨Cd,xa6,mg_of X G xa6,xe6⟩,⟨oJ,xa7,mg_of X G xa7,xe7⟩,λC D hC hD=>by cases aj.inj hC xa7;cases aj.inj hD xa3;exact xs7_3,λC D hC hD=>by cases aj.inj hC xa7;cases aj.inj hD xa4;exact xs7_4,λC D hC hD=>by cases aj.inj hC xa7;cases aj.inj hD xa5;exact xs7_5,λC D hC hD=>by cases aj.inj hC xa7;cases aj.inj hD xa6;exact xs7_6,λC D hC hD=>by cases aj.inj hC xa7;cases aj.inj hD xa7;exact xs7_7,λC D hC hD=>by cases aj.inj hC xa7;cases aj.inj hD xa12;exact xs7_12,⟨Dt,xa8,mg_of X G xa8,xe8⟩,⟨mw,xa9,mg_of X G xa9,xe9⟩,λC D hC hD=>by cases aj.inj hC xa9;cases aj.inj hD xa3;exact xs9_3,λC D hC hD=>by cases aj.inj hC xa9;cases aj.inj hD xa4;exact xs9_4,λC D hC hD=>by cases aj.inj hC xa9;cases aj.inj hD xa5;exact xs9_5,λC D hC hD=>by cases aj.inj hC xa9;cases aj.inj hD xa6;exact xs9_6,λC D hC hD=>by cases aj.inj hC xa9;cases aj.inj hD xa7;exact xs9_7,λC D hC hD=>by cases aj.inj hC xa9;cases aj.inj hD xa8;exact xs9_8,λC D hC hD=>by cases aj.inj hC xa9;cases aj.inj hD xa9;exact xs9_9,λC D hC hD=>by cases aj.inj hC xa9;cases aj.inj hD xa12;exact xs9_12,⟨fj,xa10,mg_of X G xa10,xe10⟩,λC D hC hD=>by cases aj.inj hC xa10;cases aj.inj hD xa3;exact xs10_3,λC D hC hD=>by cases aj.inj hC xa10;cases aj.inj hD xa4;exact xs10_4,λC D hC hD=>by cases aj.inj hC xa10;cases aj.inj hD xa5;exact xs10_5,λC D hC hD=>by cases aj.inj hC xa10;cases aj.inj hD xa6;exact xs10_6,λC D hC hD=>by cases aj.inj hC xa10;cases aj.inj hD xa7;exact xs10_7,λC D hC hD=>by cases aj.inj hC xa10;cases aj.inj hD xa8;exact xs10_8,λC D hC hD=>by cases aj.inj hC xa10;cases aj.inj hD xa9;exact xs10_9,λC D hC hD=>by cases aj.inj hC xa10;cases aj.inj hD xa10;exact xs10_10,λC D hC hD=>by cases aj.inj hC xa10;cases aj.inj hD xa12;exact xs10_12,⟨fk,xa11,mg_of X G xa11,xe11⟩,λC D hC hD=>by cases aj.inj hC xa11;cases aj.inj hD xa3;exact xs11_3,λC D hC hD=>by cases aj.inj hC xa11;cases aj.inj hD xa4;exact xs11_4,λC D hC hD=>by cases aj.inj hC xa11;cases aj.inj hD xa5;exact xs11_5,λC D hC hD=>by cases aj.inj hC xa11;cases aj.inj hD xa6;exact xs11_6,λC D hC hD=>by cases aj.inj hC xa11;cases aj.inj hD xa7;exact xs11_7,λC D hC hD=>by cases aj.inj hC xa11;cases aj.inj hD xa8;exact xs11_8,λC D hC hD=>by cases aj.inj hC xa11;cases aj.inj hD xa9;exact xs11_9,λC D hC hD=>by cases aj.inj hC xa11;cases aj.inj hD xa10;exact xs11_10,λC D hC hD=>by cases aj.inj hC xa11;cases aj.inj hD xa11;exact xs11_11,λC D hC hD=>by cases aj.inj hC xa11;cases aj.inj hD xa12;exact xs11_12,⟨jF,xa12,mg_of X G xa12,xe12⟩,aH ▸ ⟨opg_Sheet,ohd_Sheet,opo_Sheet,osa_Sheet⟩,aH ▸ on_Sheet_standing,aH ▸ on_Sheet_struck_so_far,aH ▸ on_Sheet_panel,aH ▸ on_Sheet_card_by_judge,aH ▸ on_Sheet_taken_so_far,aH ▸ on_Sheet_sealed⟩;have Q2:=Cp (st:=CS) l89 c89 k89;have b89:=Q2.binds (ps:=["places","couples"]) λ_ _ _ _ _ _=>onS λ_=>onS λ_=>on0 rfl;have GB:=Cp (st:=oj) l100 c100 k100;have Aca:=GB.binds (ps:=["_law_script"]) λ_ _ _ _ _ _=>onS λ_=>on0 rfl;refine⟨LK,fnOf "law" "law" (qf oj) (wP oj) (zf oj) .none Az AA AB AE tS AD,λs v=>.of_eq rfl,λbase _ _ B=>?_⟩;have C0:=ke l.prog w base aH a0 λF=>Yx F T;have C1:=ke l.prog w base aH a1 λF=>Yy F T;have C2:=CI l.prog w base aH a2 λF=>Yz F T;have C3:=CI l.prog w base aH a3 λF=>YA F T;have C4:=ke l.prog w base aH a4 λF=>YB F T;have C5:=ke l.prog w base aH a5 λF=>YC F T;have C6:=ke l.prog w base aH a6 λF=>YD F T;have C7:=ke l.prog w base aH a7 λF=>YE F T;have C8:=zS l.prog w base X G a8 λF=>YF F T;have C9:=zS l.prog w base X G a9 λF=>YG F T;have C10:=zS l.prog w base X G a10 λF=>YH F T;have Du:=zS l.prog w base X G a11 λF=>YI F T;have C12:=zS l.prog w base X G a12 λF=>YK F T;have C13:=zS l.prog w base X G a13 λF=>YL F T;have C14:=zS l.prog w base X G a14 λF=>YO F T;have C15:=zS l.prog w base X G a15 λF=>kJ F T;have C16:=zS l.prog w base X G a16 λF=>YR F T;have C17:=nD l.prog w base X G a17 λF=>oq F T;have C18:=zS l.prog w base X G a18 λF=>YS F T;have Vp:=zS l.prog w base X G a19 λF=>YT F T;have C20:=zS l.prog w base X G a20 λF=>YU F T;have C21:=zS l.prog w base X G a21 λF=>ot F T;have C22:=zS l.prog w base X G a22 λF=>YV F T;have C23:=zS l.prog w base X G a23 λF=>YW F T;have Q3:=zS l.prog w base X G a24 λF=>YX F T;have Vq:=zS l.prog w base X G a25 λF=>YY F T;have C26:=zS l.prog w base X G a26 λF=>YZ F T;have Vr:=zS l.prog w base X G a27 λF=>Y0 F T;have C28:=zS l.prog w base X G a28 λF=>Y1 F T;have Vs:=zS l.prog w base X G a29 λF=>Y2 F T;have Vt:=zS l.prog w base X G a30 λF=>ou F T;have C31:=zS l.prog w base X G a31 λF=>Y3 F T;have C32:=zS l.prog w base X G a32 λF=>kL F T;have C33:=zS l.prog w base X G a33 λF=>Y4 F T;have C34:=zS l.prog w base X G a34 λF=>Y5 F T;have C35:=zS l.prog w base X G a35 λF=>Y6 F T;have Q4:=zS l.prog w base X G a36 λF=>Y7 F T;have C37:=zS l.prog w base X G a37 λF=>Y8 F T;have C38:=CI l.prog w base aH a38 λF=>Zb F T C14 C2 C3;have C39:=CI l.prog w base aH a39 λF=>Zd F T C16 C7 C2;have C40:=CI l.prog w base aH a40 λF=>Zg F T C2;have Dv:=CI l.prog w base aH a41 λF=>Zh F T C3;have C42:=zS l.prog w base X G a42 λF=>Zi F T Q4 C8 C9;have C43:=zS l.prog w base X G a43 λF=>Zo F T Q4 Du C12;have Q5:=zS l.prog w base X G a44 λF=>Zr F T C8 Du;have Q6:=zS l.prog w base X G a45 λF=>Zs F T C15;have Kc:=zS l.prog w base X G a46 λF=>kN F T Vp;have Q7:=zS l.prog w base X G a47 λF=>Zu F T Vp;have Q8:=zS l.prog w base X G a48 λF=>Zv F T C18;have Dw:=nD l.prog w base X G a49 λF=>Zx F T C7;have C50:=zS l.prog w base X G a50 λF=>Zy F T C21;have C51:=zS l.prog w base X G a51 λF=>ZC F T C22 Q3 Vq;have C52:=zS l.prog w base X G a52 λF=>ZE F T C23 Q3;have Vu:=zS l.prog w base X G a53 λF=>ZG F T Vs;have C54:=zS l.prog w base X G a54 λF=>ZH F T C32;have GC:=zS l.prog w base X G a55 λF=>ZL F T Q4 C37;have Dy:=ke l.prog w base aH a56 λF=>ZN F T C7 Dv;have C57:=zS l.prog w base X G a57 λF=>ZQ F T Vt C54;have C58:=zS l.prog w base X G a58 λF=>ZS F T C42 Du;have C59:=zS l.prog w base X G a59 λF=>ZV F T GC;have C60:=zS l.prog w base X G a60 λF=>kP F T GC C43;have C61:=zS l.prog w base X G a61 λF=>ZX F T GC Q5 C13;have C62:=zS l.prog w base X G a62 λF=>ZZ F T Kc Q7;have Vv:=zS l.prog w base X G a63 λF=>Z0 F T Kc Q7 Q8;have Vw:=zS l.prog w base X G a64 λF=>Z2 F T C7 Dv;have C65:=zS l.prog w base X G a65 λF=>Z3 F T C50;have C66:=zS l.prog w base X G a66 λF=>Z5 F T C52 Q3 Vq;have C67:=zS l.prog w base X G a67 λF=>Z7 F T Vu;have C68:=Mj l.prog w base aH X G oa_Sheet omk_Sheet okc_Sheet a68 λF=>Z8 F T C51 C66;have C69:=zS l.prog w base X G a69 λF=>zkc F T Vs Vu C31 C67 C4 C5 C6 C7 Dy Dv C0 C1;have C70:=zS l.prog w base X G a70 λF=>zil F T C59;have C71:=zS l.prog w base X G a71 λF=>zin F T GC Du Q5 C61;have C72:=zS l.prog w base X G a72 λF=>zmw F T Kc Q7 Q8 Vv;have C73:=zS l.prog w base X G a73 λF=>zjT F T Kc Q8 Vv;have C74:=zS l.prog w base X G a74 λF=>zis F T C20 C65;have C75:=zS l.prog w base X G a75 λF=>zmq F T Q6 C62 C4 Dy;have C76:=zS l.prog w base X G a76 λF=>zge F T Du C70;have C77:=zS l.prog w base X G a77 λF=>zja F T C72;have C78:=zS l.prog w base X G a78 λF=>zm1 F T C74;have C79:=zS l.prog w base X G a79 λF=>zlv F T C68 C38;have C80:=zS l.prog w base X G a80 λF=>zlI F T GC Du Q5 C58 C76;have GD:=zS l.prog w base X G a81 λF=>zlF F T Q6 C77;have Q9:=nD l.prog w base X G a82 λF=>oF F T GD Dw C4 Dy;have C83:=nD l.prog w base X G a83 λF=>zmr F T GD Dw Vw C4 Dv;have C84:=nD l.prog w base X G a84 λF=>zm4 F T C17 GD C4 C7 Dv;have Vx:=zS l.prog w base X G a85 λF=>zk3 F T GD;have C86:=nD l.prog w base X G a86 λF=>oG F T Dw Vx C4 Dy;have C87:=nD l.prog w base X G a87 λF=>zkU F T Q9 C75 C4;have C88:=nD l.prog w base X G a88 λF=>zlQ F T C86 Dw Vx Vw C4 C7;have Vy:aK l.prog w K mg base 11 "by_place" ["places","couples"] (Gn K):=aK.of Q2 (zmc Q2 T L89 B Q9) (mg_of X G a89) b89;have Vz:=zS l.prog w base X G a90 λF=>zjP F T GD Vy;have VA:=zS l.prog w base X G a91 λF=>ziX F T Vy Q9 Vr C4;have C92:=zS l.prog w base X G a92 λF=>ziP F T Q6 Vz C73;have C93:=nD l.prog w base X G a93 λF=>kR F T Vz Dw C4 Dy;have C94:=nD l.prog w base X G a94 λF=>zlk F T C84 VA;have C95:=nD l.prog w base X G a95 λF=>zmN F T C92 Dw C4 Dy;have C96:=nD l.prog w base X G a96 λF=>zlb F T C93 C95 C83 C88 C87 C26 Vr VA C94 C28 C4 Dv;have C97:=nD l.prog w base X G a97 λF=>zhy F T C96;have C98:=zS l.prog w base X G a98 λF=>oH F T C78 C97;have C99:=zS l.prog w base X G a99 λF=>zlf F T C98;exact B8 GB T Vt C33 C34 C35 C57 C79 C69 C10 C80 C60 C71 C99 C39 C40
theorem walk{q:Program}{loose:List Str}{XP:(Str->Option Value)->Heap->Prop}{YP:World->Heap->Prop}{d:DefRec}{K:Params->Frag}(hn:l.most=some 63)(Eg:d.params.defaults=[])
 (hY:∀(w:World)(h:Heap),YP w h->(K w.params).In h)
 (kb:∃dd,(PyProof.Rows.recsOf q).find? (λe=>e.name==("by_place":Str))=some dd)
 (F:∀(w:World)(mg:Str->Option Value)(fa:Addr)(h:Heap),(K w.params).In h->h.Ns mainGlobals mg->mg d.name=some (.ref fa) ->
   vB (K w.params) "by_place"/\∃fd:FuncData,(∀(s:Shared)(u:Value),BindsTo s fd ⟨[u],[]⟩ [("_law_script",u)])/\∀base:Heap,(K w.params).In base->base.Ns mainGlobals mg->vA mg base->ar l.prog w (K w.params) mg base aX 19 fa fd ["_law_script"] (Gu (K w.params))) :
 PySem.W.WalkO q loose XP YP l.row.toRowW d [] (λf vs=>PySem.call f vs) :=
 L2.rR (n:=63) (k:=19) (x:= "_law_script") (y:= "by_place") (CX:=λ_=>aX) (sp:=λw=>Gu (K w.params)) hn (by decide) Eg ⟨rfl,by decide,by decide⟩ kb hY F (λ_ _ a ns hl hT hS=>⟨a,ns,rfl,hS,hl,hT,λ_=>rfl⟩) λ_ _ _ _ _ z=>z
end
end Pp
structure PySem.W.Fast:Prop where(tw6039398418390072449 tw10791853556860678040 tw2993661618865204849 tw16346175375565930526 tw4135037867061013485 tw16640149973670570325 tw14005625193781854781 tw12816042491659568142 tw14096166766101164913 tw13565750254781147209 tw11803593070810427654 tw2110839443100926257 tw2615212883424850102 tw4372680623471224400 tw7313878973886277087 tw16317944395791470958 tw11614703251548468124 tw12824968167085580042 tw1830769267935833615 tw16279296196405195552 tw14620619566681084440 tw15249777296799662546 tw10358143285379878106 tw8109368786933782110 tw12474928308961556232 tw9684733097985113714 tw10553267177679788607 tw11291151237300075553 tw8002351768404367164 tw13464934678942273408 tw651895602216259130 tw8761659672651532290 tw540169607199095437 tw5138859790929205475 tw12984168187228122803 tw7712678070213450339 tw10386850960938899010 tw3350041866277355932 tw5144318472817868214 tw9870655812510620291 tw4164211894507247462 tw6572127945646592301 tw12475097232303662125 tw4242611619386703757 tw14969443920440335927 tw8793229134904209620 tw5856617387583569185 tw9063271069417599661 tw9725618655351724867 tw11122314381491729973 tw12181129921450237303 tw204305500779707619 tw15722000430350440713 tw1595630398150941216 tw12900541004488723041 tw15817207618241904534 tw14122402522288551906 tw7006972480239559501 tw3485637808206558690 tw14686477426235530632 tw4668395770069161965 tw18348766275647780890 tw16997731212272414729 tw16534760658415973371 tw18229198956243900075 tw11585826461796192567 tw10258664980822329977 tw6195480772916055782 tw15137600742819833502 tw17341700364458500880 tw4228560163088281407 tw10649118136267246888 tw16759554437087048380 tw8755032055244478279 tw16137761762310150425 tw11975794940445451723 tw6447483260012535544 tw8398528937782587915 tw16869114524714290299 tw13845741768116829648 tw15194853139723836192 tw18399878171762607966 tw17904816983153540548 tw5836315467458497143 tw14086781880765452260 tw15862913866907376161 tw96911036794059341 tw2052336796895582239 tw2960564039132178763 tw2132108361162830451 tw10502896881441121323 tw5069808640029245126 tw11971458661733039884 tw17249014553701670731 tw4023702692220301651 tw14539110734500053713 tw1905534641327136059 tw4703916664866451315 tw16685252176858014352 tw2447092377600027588 tw17418750726015969281 tw13385695486206613854 tw14065684568011234947 tw14535078187671373967 tw10784341495006706898 tw7001775851353234143 tw10931227112999157592 tw10583462687492778092 tw8819008816767637025 tw6150011396557728915 tw12655121548422147415 tw16805435152016725380 tw7002884770738931379 tw13823583671790321158 tw1822764603328675930 tw8634196364354694063 tw2998106643104124170 tw14459137035982897352 tw12263476162794948171 tw4530198303393231412 tw15593694669846207125 tw15879356573833448885 tw7764945288212022356 tw1174722975239064075 tw923560458852448324 tw11417411612153805212 tw15729173368341767222 tw12543158813629819066 tw10661090644867304116 tw17480124235436048955 tw6553016973589932180 tw11876757407337300134 tw1344327227978592894 tw10682213004490900402 tw2874147895749724126 tw16172261771521401910 tw13788206066662738895 tw3625828182280966197 tw17678872396008721468 tw4555289230198679564 tw4058357211855242071 tw2756020629306990922 tw9733355392984964639 tw11214066121326467299 tw6237211717723986250 tw2674121564288545334 tw5400798902791641380 tw17184439671489123037 tw13723758116821198230 tw3098702171391203583 tw2946220447502302047 tw12372484740681546189 tw16827191618151593445 tw7512656566001915585 tw14014983033435642443 tw8198112006695980861 tw14426055218230471105 tw18164344358510184925 tw4926542126833110904 tw21312182139188902 tw5961504037840883232 tw7412663442265009669 tw14823210171069746232 tw13896182353770019392 tw731242497835572855 tw4272094184379635991 tw8273530739974844707 tw5900017432535621578 tw4427286673547941875 tw14388551544694708106 tw1535356734833405400 tw5796482671729574317 tw13299139773569141915 tw12522833130098509776 tw8502436240381324774 tw8189235500353177609 tw686010622558358456 tw6081498708907696491 tw16961852246233259035 tw240167785368981943 tw18199116974848108997 tw14659803821937229176 tw49845819495193295 tw17390053873255283256 tw1961874692483983292 tw13668340382063298396 tw9995092548262863736 tw18213371087803723159 tw5567235363604950590 tw5537602594332533838 tw7265408076706886984 tw10829879461839251967 tw15238381346352461136 tw1275131109626005573 tw9238341576155100700 tw16984122602784115291 tw17361168860432671038 tw10489404008267843163 tw4398849495698955598 tw11262204056717568695 tw14211117915073160173 tw15966441678992386543 tw15616828561262871144 tw17415923586908951230 tw6082356516600325028 tw4016657464279454476 tw13980687954708396489 tw7843220559076133527 tw15688376539017927785 tw11724621638139413097 tw11811545691529890107 tw6618234665336526373 tw12156808945007814317 tw1948548218661770730 tw11084932851836179656 tw14212552811431293819 tw3321661764445176092 tw7803611718213525942 tw11089733498353790509 tw16479416984609056523 tw11965702735474457554 tw13922421307953326660 tw15740571303142667350 tw5548507189760677601 tw4990739618624071859 tw8709401295909709202 tw13984518822729132 tw14742538182440547494 tw8612193560274675690 tw12568506977029498450 tw18312469896834325562 tw5931224644674890937 tw7097189815080542838 tw13963055575751696189 tw6826980931798373908 tw12764099152626113067 tw15721983392510374782 tw17009364190059817667 tw8409613046973500853 tw6503702275665992727 tw15927144847451045805 tw6024071890107696596 tw3498935630775508058 tw12390298430935160606 tw9479560482718522849 tw17938582377573175412 tw14329486627812030135 tw3594406269394775713 tw15213679423307510764 tw3211674226207720092 tw1240115062471882333 tw4911463859436375558 tw9369087718997542637 tw9547615671586737665 tw6316581450804681377 tw9788547194531804263 tw2632650590048508396 tw8646008316731716990 tw7756397874554505687 tw16620928754294372838 tw564552015392457620 tw15389396595869592781 tw17971362650048003493 tw6235232504898097448 tw10203132841015085492 tw16585931887030946676 tw16506703681650010380 tw11905091125071937581 tw7948411670060894148 tw10853061770854182594 tw11937215927497833468 tw8379756678578526037 tw14535206120667552204 tw11923923520229627647 tw10933355865462780530 tw7832273966293616559 tw2002188426179414341 tw4274025916574293133 tw1036096417530437181 tw6000281849017767284 tw13712338750536080926 tw5891562786157492180 tw15956114519252628199 tw9417867024176573416 tw3376470180244069740 tw5518306787977288135 tw12828465546361976240 tw10879080726381344606 tw552795812724099398 tw16631092980937114638 tw13825536217146286294 tw18057572634785736331 tw18430993302465009195 tw2134031662889741566 tw16491907383443907174 tw9502671926218007159 tw17674680323892569782 tw1601474122915263618 tw12346794245235429173 tw9543660150744694146 tw16654412249634378063 tw6337691814241242523 tw15792785706267516584 tw2929330334818246084 tw2989520394420904155 tw14518998554220071717 tw13974729344179514628 tw8206498997804256234 tw10885434360934885586 tw5584672438092990114 tw12079985809565283815 tw16174128814772362538 tw11424343666188731853 tw15809306211910191403 tw5143992040810188957 tw2980221703114143893 tw2040165098504035370 tw10489973064546050584 tw16683454018586384391 tw17267982547454048923 tw10819563462719094518 tw12190743395233965309 tw7048851151727541389 tw6892650787585482301 tw1203806197475887449 tw2676441224046280952 tw3217159505496497443 tw10165563578283506632 tw16682458509724715825 tw18139766095988782254 tw12624224423873773513 tw15098973283123242756 tw11195355722799857608 tw1315439946159026141 tw17471155691659155212 tw13311846007998622147 tw15857252690418355435 tw15410696668858744788 tw11187341311588200971 tw17803626223234503885 tw15097499776902148545 tw1447107028388927257 tw9228879588634317446 tw9886441413015160205 tw10840461669145679418 tw7027318237671335477 tw17776590856921612651 tw11710463100923817034 tw3816667725763983954 tw2981239092583093889 tw8288827070691853657 tw11817032490975954640 tw15766698264362549733 tw5846358109063238383 tw8884768461214281946 tw14706531804906864154 tw1430592543660884153 tw10846827372695193293 tw14742246094024390578 tw13586834380489939113 tw9066378638501570242 tw12930581075609366001 tw8195747887598477164 tw9262021582955557161 tw18275047450614655927 tw17728207730727699645 tw9934767703973081305 tw14353694938559923661 tw3810268394187367642 tw17401710974204480622 tw17759120058114921616 tw12216999855983993578 tw3915394394984475810 tw15034300541107462301 tw12496674509835325800 tw5994132213714028213 tw584884290751686406 tw4612582138998708933 tw3140648570443185560 tw4153989819912048531 tw12055433222621215835 tw13302893367137947390 tw15389977520322287250 tw6151969971075229270 tw11844146136818506232 tw5584861445261298854 tw15186242445484172045 tw3727446320284697581 tw1994868605390533277 tw1096320429095912634 tw14220050202344964132 tw11482372205397169579 tw6724876661958996312 tw12684303110590516141 tw2310310049573748082 tw10421699144508578359 tw10062371787046288363 tw1179349897332185480 tw18033158849100549375 tw14669172370998280749 tw13846239136856426745 tw4968301555575979304 tw13086073776650854052 tw5537406855255299390 tw11871821497945987948 tw12731077873214919946 tw17957187581160317251 tw15941581051395664141 tw6726950422314230476 tw7875839183570494502 tw15852909613730482772 tw13115058925651175934 tw14042000631901534873 tw4891657875664678998 tw15566641051841954717 tw10673106871644500778 tw12840909980050887971 tw14342777510988630200 tw4209918416109216162 tw10835957929842358395 tw9019120052395806290 tw2602623690988124575 tw4237483105414457850 tw16341731156418088473 tw2825464235251950964 tw12627496920349858520 tw15816491874526304380 tw2524702313605492370 tw16336060089144917790 tw4414849533865491023 tw5993827894080200107 tw1021405026082456041 tw10874145448268227004 tw1528598890368599347 tw7698398806879790196 tw6531680557114831647 tw16270897088517407322 tw17410156098315148353 tw620899094218557938 tw10280398305540256937 tw13285596950344939592 tw7730175557371862158 tw11294401818656944923 tw2370333935185481479 tw4826062059655417695 tw10067083376354428050 tw13550941298142359306 tw3960229557739595255 tw6287757019091026229 tw8644664845310911151 tw13803923693857778678 tw16247150282970526298 tw13187273480179992554 tw18252828165128005457 tw5607602762312599424 tw1493969158840278989 tw7191816828097767336 tw562351699581668619 tw471224721118500378 tw13054081156174683826 tw8676782156436840171 tw6898022751978398932 tw3412888801038800010 tw11475469800445987598 tw13294280682824208807 tw14233413284419472152 tw10862288181139152481 tw6441085453063364159 tw168284630801159887 tw3631673193905775087 tw7854161195650237461 tw10557111469606161325 tw7941189992304714020 tw12134297140554832936 tw13681633252372765426 tw7291569785245616703 tw14306062022031641861 tw13831729787762445014 tw8842531386457202737 tw16537154915466354504 tw1221609490317399699 tw9015381395662031525 tw2827282356289162502 tw1541944436424895443 tw13871762522947480552 tw3914633502167243164 tw2284160484474241347 tw4051566719527797682 tw7489512828880605784 tw11435589127646973813:True)
open PySem PySem.W PyProof.Rows
set_option maxRecDepth 100000 in
set_option maxHeartbeats 0 in
theorem PySem.Challenge.cw_panelplace_k34_desk_questions_holds : PySem.Challenge.rw_panelplace_k34_desk_questions.Holds := by
 w_on;o_law;k_head;(case hw=>w_witness2)
 k_fill
 refine Pp.walk (l:=PySem.Challenge.rw_panelplace_k34_desk_questions) rfl rfl (λw h Y=>PySem.W.km_in_of Y) ⟨_,rfl⟩ ?F
 case F =>
  intro w mg fa h KX G hmg
  refine' Pp.all_mk KX G hmg ?oa_Sheet ?a0 ?a1 ?a2 ?a3 ?a4 ?a5 ?a6 ?a7 ?a8 ?a9 ?a10 ?a11 ?a12 ?a13 ?a14 ?a15 ?a16 ?a17 ?a18 ?a19 ?a20 ?a21 ?a22 ?a23 ?a24 ?a25 ?a26 ?a27 ?a28 ?a29 ?a30 ?a31 ?a32 ?a33 ?a34 ?a35 ?a36 ?a37 ?a38 ?a39 ?a40 ?a41 ?a42 ?a43 ?a44 ?a45 ?a46 ?a47 ?a48 ?a49 ?a50 ?a51 ?a52 ?a53 ?a54 ?a55 ?a56 ?a57 ?a58 ?a59 ?a60 ?a61 ?a62 ?a63 ?a64 ?a65 ?a66 ?a67 ?a68 ?a69 ?a70 ?a71 ?a72 ?a73 ?a74 ?a75 ?a76 ?a77 ?a78 ?a79 ?a80 ?a81 ?a82 ?a83 ?a84 ?a85 ?a86 ?a87 ?a88 ?a89 ?l89 ?c89 ?k89 ?qe ?qk ?qv ?qh ?qn ?a90 ?a91 ?a92 ?a93 ?a94 ?a95 ?a96 ?a97 ?a98 ?a99 ?a100 ?l100 ?c100 ?k100 ?z0 ?z1 ?z2 ?z3 ?z4 ?z5 ?z6 ?z7 ?z8 ?z9 ?z10 ?z11 ?z12 ?z13 ?y0 ?yl0 ?yt0 ?yz0 ?yv0 ?y1 ?yl1 ?yt1 ?yz1 ?yv1 ?y2 ?yl2 ?yt2 ?yz2 ?yv2 ?y3 ?y4 ?y5 ?y6 ?y7 ?y8 ?xa1 ?xa2 ?xa3 ?xa4 ?xa5 ?xa6 ?xa7 ?xa8 ?xa9 ?xa10 ?xa11 ?xa12 ?xe1 ?xe2 ?xe3 ?xe4 ?xs4_3 ?xs4_4 ?xs4_12 ?xe5 ?xe6 ?xe7 ?xs7_3 ?xs7_4 ?xs7_5 ?xs7_6 ?xs7_7 ?xs7_12 ?xe8 ?xe9 ?xs9_3 ?xs9_4 ?xs9_5 ?xs9_6 ?xs9_7 ?xs9_8 ?xs9_9 ?xs9_12 ?xe10 ?xs10_3 ?xs10_4 ?xs10_5 ?xs10_6 ?xs10_7 ?xs10_8 ?xs10_9 ?xs10_10 ?xs10_12 ?xe11 ?xs11_3 ?xs11_4 ?xs11_5 ?xs11_6 ?xs11_7 ?xs11_8 ?xs11_9 ?xs11_10 ?xs11_11 ?xs11_12 ?xe12 ?opg_Sheet ?ohd_Sheet ?opo_Sheet ?osa_Sheet ?omk_Sheet ?okc_Sheet ?on_Sheet_standing ?on_Sheet_struck_so_far ?on_Sheet_panel ?on_Sheet_card_by_judge ?on_Sheet_taken_so_far ?on_Sheet_sealed
  case oa_Sheet=>k_is
  (case a0|a1|a2|a4|a5|a6|a7|a40|a56=>exact L2.dm (by k_is) (by k_is) (by k_is) (by k_is) (by k_is) (λ_ _ _ _ _ _=>L2.onS λ_=>L2.on0 rfl))
  (case a3|a39|a41=>exact L2.dm (by k_is) (by k_is) (by k_is) (by k_is) (by k_is) (λ_ _ _ _ _ _=>L2.onS λ_=>L2.onS λ_=>L2.on0 rfl))
  (case a8|a10|a12|a14|a15|a16|a17|a19|a24|a30|a31|a32|a34|a35|a36|a37|a44|a45|a46|a47|a49|a53|a55|a59|a62|a63|a64|a67|a72|a73|a74|a77|a81|a83|a85|a87|a90|a91|a92|a98=>exact L2.df (by k_is) (by k_is) (by k_is) (by k_is) (λ_ _ _ _ _ _=>L2.onS λ_=>L2.onS λ_=>L2.on0 rfl))
  (case a9|a13|a42|a54|a58|a60|a70|a75|a76|a79|a80|a84|a94|a99=>exact L2.df (by k_is) (by k_is) (by k_is) (by k_is) (λ_ _ _ _ _ _=>L2.onS λ_=>L2.onS λ_=>L2.onS λ_=>L2.on0 rfl))
  (case a11|a18|a20|a21|a22|a23|a25|a26|a27|a28|a29|a48|a50|a51|a52|a65|a66|a78|a82|a86|a88|a93|a95=>exact L2.df (by k_is) (by k_is) (by k_is) (by k_is) (λ_ _ _ _ _ _=>L2.onS λ_=>L2.on0 rfl))
  (case a33=>exact L2.df (by k_is) (by k_is) (by k_is) (by k_is) (λ_ _ _ _ _ _=>L2.onS λ_=>L2.onS λ_=>L2.onS λ_=>L2.onS λ_=>L2.onS λ_=>L2.on0 rfl))
  (case a38|a68=>exact L2.dm (by k_is) (by k_is) (by k_is) (by k_is) (by k_is) (λ_ _ _ _ _ _=>L2.onS λ_=>L2.onS λ_=>L2.onS λ_=>L2.on0 rfl))
  (case a43|a61|a71|a96|a97=>exact L2.df (by k_is) (by k_is) (by k_is) (by k_is) (λ_ _ _ _ _ _=>L2.onS λ_=>L2.onS λ_=>L2.onS λ_=>L2.onS λ_=>L2.on0 rfl))
  (case a57=>exact L2.df (by k_is) (by k_is) (by k_is) (by k_is) (λ_ _ _ _ _ _=>L2.onS λ_=>L2.onS λ_=>L2.onS λ_=>L2.onS λ_=>L2.onS λ_=>L2.onS λ_=>L2.on0 rfl))
  (case a69=>exact L2.df (by k_is) (by k_is) (by k_is) (by k_is) (λ_ _ _ _ _ _=>L2.onS λ_=>L2.onS λ_=>L2.onS λ_=>L2.onS λ_=>L2.onS λ_=>L2.onS λ_=>L2.onS λ_=>L2.on0 rfl))
  (case a89|l89|c89|k89=>k_is)
  (case qe=>exact rfl)
  case qk=>k_is
  (case qv=>exact rfl)
  (case qh|qn=>kernel_rfl)
  (case a100|l100|c100|k100|z0|z1|z2|z3|z4|z5|z6|z7|z8|z9|z10|z11|z12|z13|y0|yl0=>k_is)
  (case yt0=>exact rfl)
  (case yz0=>decide)
  (case yv0=>exact .cons ⟨_,rfl⟩ (.cons ⟨_,rfl⟩ (.cons ⟨_,rfl⟩ (.cons ⟨_,rfl⟩ (.cons ⟨_,rfl⟩ (.nil))))))
  (case y1|yl1=>k_is)
  (case yt1=>exact rfl)
  (case yz1=>decide)
  (case yv1=>exact .cons ⟨_,rfl⟩ (.cons ⟨_,rfl⟩ (.cons ⟨_,rfl⟩ (.cons ⟨_,rfl⟩ (.nil)))))
  (case y2|yl2=>k_is)
  (case yt2=>exact rfl)
  (case yz2=>decide)
  (case yv2=>exact .cons ⟨_,rfl⟩ (.cons ⟨_,rfl⟩ (.cons ⟨_,rfl⟩ (.nil))))
  (case y3|y4|y5|y6|y7|y8|xa1|xa2|xa3|xa4|xa5|xa6|xa7|xa8|xa9|xa10|xa11|xa12=>k_is)
  (case xe1|xe2|xe3|xe4|xs4_3|xs4_4|xs4_12|xe5|xe6|xe7|xs7_3|xs7_4|xs7_5|xs7_6|xs7_7|xs7_12|xe8|xe9|xs9_3|xs9_4|xs9_5|xs9_6|xs9_7|xs9_8|xs9_9|xs9_12|xe10|xs10_3|xs10_4|xs10_5|xs10_6|xs10_7|xs10_8|xs10_9|xs10_10|xs10_12|xe11|xs11_3|xs11_4|xs11_5|xs11_6|xs11_7|xs11_8|xs11_9|xs11_10|xs11_11|xs11_12|xe12=>kernel_rfl)
  (case opg_Sheet|ohd_Sheet|opo_Sheet|osa_Sheet|omk_Sheet|okc_Sheet|on_Sheet_standing|on_Sheet_struck_so_far|on_Sheet_panel|on_Sheet_card_by_judge|on_Sheet_taken_so_far|on_Sheet_sealed=>k_is)
import PyProof.Rows.All
import Wide.All
import OpenK.AllK
import Wide.FinOn
import Lean
import PyProof.EqAt
import PyProof.EqKinds
import PyProof.TupleCall
import PyProof.TupleOfGen
import PyProof.ListRange
import PyProof.Rows.ZipGen
import KE.KRevIter
import PyProof.NeKinds
import PyProof.CompUse
import KE.KDictSum
import PyProof.Rows.SortWalk
import PyProof.AttrMissHeap
import KE.KDictOf
import PyProof.StationsW
import PyProof.ExcClass2
import PyProof.ExcBaseAll.ValueError
import OpenK.KOwn
import PyProof.RulesAs
import PyProof.Rows.Catch
import PyProof.ExcAttrAll.ValueError
import KE.KIsAll
import PyProof.NsDelKeeps
import KE.KLam
import KE.KTupSum
import KE.KSortTup
import PyProof.SeqI3
import PyProof.MinMaxWalk
import PyProof.WalkInts
import PyProof.Rows.CallKwBuiltin
import KE.KRevSl
import PyProof.EnumStmt
import PyProof.EnumMake
import PySem.Challenge.RW_boxballs_k97_whole_many_blocks_and_far_r
set_option maxHeartbeats 4000000
set_option maxRecDepth 100000
set_option Elab.async false
set_option linter.unusedVariables false
set_option linter.all false
open PySem PySem.Spec PyProof.Rows
open Int (neg_neg zero_add)
open _root_.Int renaming emod_lt_of_pos->V9,emod_nonneg->Tp,toNat_natCast->WA
open Nat (le_succ min_eq_right mul_le_mul succ_pos zero_min)
open _root_.Nat renaming lt_irrefl->Xr,lt_succ_of_lt->Yw,lt_succ_self->WI,min_eq_left->W9,ne_of_gt->Vw,ne_of_lt->Zs,zero_le->Yp
open PySem.F (args_tuple_add_2 entry_tuple_add slot_dict_pop slot_tuple_add)
open PySem.F renaming plainAttrs_list->Zu,slot_list_extend->WL,type_list_extend->WM
open PySem.Str renaming ofString->oS
open PySem.W (CodeHd Looks callWith_K callWith_of cellsFrom_some codeHdIn codeHd_of_K codeIn instObj isNs_of_in kia_tup kitAny kitx_bool kitx_dict kitx_int kitx_list kitx_none kitx_str kitx_tuple kla_fn kla_obj km_tabs_of lookIn looks_findIn looks_subIn methodObj mroIn nsOkIn plainGet specialIn subIn tabObj tailIn tail_of_in)
open PySem.W renaming findIn->X7,keepIn->Um,kia_one->Wu,kitOne->YK,mg_none_of->YN,mg_of->UO
open _root_.Array renaming length_toList->Wz
open Bool (not_not)
open _root_.Bool renaming and_eq_true->Vu,eq_false_iff->YJ,false_eq_true->Yd
open List (all_cons all_map any_cons any_map count_cons drop_length drop_zero ext_getElem? flatMap_map flatMap_nil foldl_append getElem_inj getElem_map map_drop map_nil map_take nodup_nil of_mem_zip sum_cons sum_nil take_append take_nil take_succ take_zero)
open _root_.List renaming all_eq_true->X1,any_eq_true->Vv,append_nil->YV,concat_eq_append->Yf,drop_eq_nil_of_le->VZ,eq_nil_or_concat->Yg,filterMap_cons->WY,filter_append->Xz,filter_congr->Xh,filter_cons->Yq,filter_cons_of_neg->Xi,filter_cons_of_pos->YM,find?_cons->Ul,flatMap_append->XS,flatMap_cons->Xj,flatMap_singleton->V8,flatten_cons->Xk,forall_mem_cons->YL,getD_eq_getElem?_getD->Z4,getElem?_append_left->ZL,getElem?_append_right->ZU,getElem?_drop->XA,getElem?_eq_getElem->Z1,getElem?_eq_none->Zd,getElem?_map->ZQ,getElem?_range->Xq,getElem_mem->XI,getElem_of_mem->X0,getLast?_concat->Wt,length_append->Z6,length_cons->ZM,length_drop->Yz,length_eq_zero_iff->Zc,length_filter_le->Yh,length_map->Z2,length_nil->Wk,length_pos_iff->Y9,length_range->YY,length_replicate->XY,length_reverse->WZ,length_singleton->ZN,length_take->Za,lookup_cons->YW,map_append->ZB,map_congr_left->Y4,map_cons->Y3,map_map->Y5,mem_append->Zi,mem_append_left->Y1,mem_append_right->ZO,mem_cons->ZV,mem_cons_of_mem->ZT,mem_cons_self->ZW,mem_filter->Yt,mem_map->YC,mem_of_getElem?->Zh,mem_range->Ys,mem_singleton->ZD,nil_append->XT,nodup_append->WJ,nodup_cons->W8,not_mem_nil->ZC,pairwise_append->YD,pairwise_cons->Zt,pairwise_lt_range->V5,pairwise_map->WK,pairwise_singleton->YO,range_succ->XU,range_succ_eq_map->Yu,replicate->Yi,size_toArray->ZF,take_length->W7,take_of_length_le->X5
open Option (getD_none isSome_map)
open _root_.Option renaming map_eq_some_iff->Xd
open PySem.Calls (spliced_cons spliced_nil)
open PySem.Calls renaming evalArgs_plain->Uk
open PySem.Heap renaming get?_push_at->V7,get?_push_of_some->Z8,get?_push_size->Zv,get?_update_of_ne->ZK,get?_update_other->V6,get?_update_self->Yy,lt_size->ZA,size_after_update->W3,size_push->XJ
local macro_rules | `(tactic| omega) => `(tactic| lia)
namespace L2
abbrev XL:=Sum Int Str
def keyIs:XL->Value->Bool
 | .inl k,v=>Value.isInt k v
 | .inr x,v=>Value.isStrOf x v
def keyH (w:World):XL->Int
 | .inl k=>hashInt k
 | .inr x=>hashStr w x
theorem X3:∀{k:XL} {v:Value},keyIs k v=true->(∃i t,k=Sum.inl i/\v=Value.int i t)\/(∃x t,k=Sum.inr x/\v=Value.str x t)
 | .inl i,v,h=>by
   obtain⟨t,e⟩:=Value.isInt_shape (k:=i) (v:=v) h
   exact .inl ⟨i,t,rfl,e⟩
 | .inr x,v,h=>by
   obtain⟨t,e⟩:=Value.isStrOf_shape (x:=x) (v:=v) h
   exact .inr ⟨x,t,rfl,e⟩
theorem keyIs_int (i:Int)(t:Tok):keyIs (.inl i) (.int i t)=true:=by simp[keyIs,Value.isInt]
theorem keyIs_str (x:Str)(t:Tok):keyIs (.inr x) (.str x t)=true:=by simp[keyIs,Value.isStrOf]
theorem key_ll (a b:Int):decide ((Sum.inl a:XL)=Sum.inl b)=(a==b):=by
 by_cases e:a=b
 ·subst e;simp
 ·have h:¬(Sum.inl a:XL)=Sum.inl b:=fun q=>e (Sum.inl.inj q)
  rw[decide_eq_false h]
  exact(beq_eq_false_iff_ne.mpr e).symm
theorem key_rr (a b:Str):decide ((Sum.inr a:XL)=Sum.inr b)=decide (a=b):=by
 by_cases e:a=b
 ·subst e;simp
 ·have h:¬(Sum.inr a:XL)=Sum.inr b:=fun q=>e (Sum.inr.inj q)
  rw[decide_eq_false h,decide_eq_false e]
theorem key_lr (a:Int)(b:Str):decide ((Sum.inl a:XL)=Sum.inr b)=false:=decide_eq_false (fun q=>nomatch q)
theorem key_rl (a:Str)(b:Int):decide ((Sum.inr a:XL)=Sum.inl b)=false:=decide_eq_false (fun q=>nomatch q)
def YH (prog:Program)(w:World):PySem.KeyKind prog w XL where
 is:=keyIs
 hash:=keyH w
 inj:=fun v a b ha hb=>by
  rcases X3 ha with⟨i,t,rfl,rfl⟩ | ⟨x,t,rfl,rfl⟩
  ·rcases X3 hb with⟨j,u,rfl,e⟩ | ⟨y,u,rfl,e⟩
   ·injection e with e1 _;rw[e1]
   ·exact nomatch e
  ·rcases X3 hb with⟨j,u,rfl,e⟩ | ⟨y,u,rfl,e⟩
   ·exact nomatch e
   ·injection e with e1 _;rw[e1]
 byValue:=fun k v h=>by
   rcases X3 h with⟨i,t,rfl,rfl⟩ | ⟨x,t,rfl,rfl⟩<;>rfl
 pyHash:=fun hv h=>by
  rcases X3 hv with⟨i,t,rfl,rfl⟩ | ⟨x,t,rfl,rfl⟩
  ·exact wpAny_pyHash_int h
  ·exact wpAny_pyHash_str h
 eqBool:=fun hu hv h=>by
  rcases X3 hu with⟨i,t,rfl,rfl⟩ | ⟨x,t,rfl,rfl⟩
  ·rcases X3 hv with⟨j,u,rfl,rfl⟩ | ⟨y,u,rfl,rfl⟩
   ·rw[key_ll]at h;exact wpAny_eqBool_int h
   ·rw[key_lr]at h;exact SeqAt.EqAt.int_str i t y u _ _ _ _ h
  ·rcases X3 hv with⟨j,u,rfl,rfl⟩ | ⟨y,u,rfl,rfl⟩
   ·rw[key_rl]at h;exact SeqAt.EqAt.str_int x t j u _ _ _ _ h
   ·rw[key_rr]at h;exact wpAny_eqBool_str h
 «strs»:=fun k x t v h=>by
  rcases X3 h with⟨i,u,rfl,e⟩ | ⟨y,u,rfl,e⟩
  ·exact nomatch e
  ·injection e with e1 _
   subst e1
   cases v<;>rfl
theorem mixKind_int (prog:Program)(w:World)(i:Int)(t:Tok):(YH prog w).is (.inl i) (.int i t)=true:=keyIs_int i t
theorem mixKind_str (prog:Program)(w:World)(x:Str)(t:Tok):(YH prog w).is (.inr x) (.str x t)=true:=keyIs_str x t
inductive V where
 |non | bl (b:Bool) | int (i:Int) | str (x:Str) | byt (b:Array UInt8) | flt (b:UInt64) | ref (a:Addr) | ty (n:String)
 deriving DecidableEq
def Zb:V->Value->Prop
 | .non,u=>u=Value.none
 | .bl b,u=>u=Value.bool b
 | .int i,u=>∃t,u=Value.int i t
 | .str x,u=>∃t,u=Value.str x t
 | .byt b,u=>∃t,u=Value.bytes b t
 | .flt b,u=>∃t,u=Value.float b t
 | .ref a,u=>u=Value.ref a
 | .ty n,u=>u=Value.type n
abbrev Y7:List V->List Value->Prop:=Paired Zb
theorem Y7.length {xs:List V}{us:List Value}(r:Y7 xs us):xs.length=us.length:=Paired.length r
theorem Y7.get:∀{xs:List V} {us:List Value} {i:Nat} {x:V},Y7 xs us->xs[i]?=some x->∃u,us[i]?=some u/\Zb x u
 |_,_,_,_,.nil,e=>by simp at e
 |_,_,0,_,.cons r _,e=>by simp at e;subst e;exact⟨_,rfl,r⟩
 |_,_,i+1,x,.cons _ t,e=>by
  obtain⟨u,h1,h2⟩:=Y7.get (i:=i) (x:=x) t (by simpa using e)
  exact⟨u,by simpa using h1,h2⟩
theorem Y7.set {x:V}{u:Value}(r:Zb x u):∀{xs:List V} {us:List Value} (i:Nat),Y7 xs us->Y7 (xs.set i x) (us.set i u)
 |_,_,_,.nil=>.nil
 |_,_,0,.cons _ t=>.cons r t
 |_,_,i+1,.cons q t=>.cons q (Y7.set r i t)
theorem Y7.append:∀{xs ys:List V} {us ws:List Value},Y7 xs us->Y7 ys ws->Y7 (xs++ys) (us++ws)
 |_,_,_,_,.nil,s=>s
 |_,_,_,_,.cons r t,s=>.cons r (Y7.append t s)
theorem Y7.take:∀{xs:List V} {us:List Value} (n:Nat),Y7 xs us->Y7 (xs.take n) (us.take n)
 |_,_,0,_=>.nil
 |_,_,_+1,.nil=>.nil
 |_,_,n+1,.cons r t=>.cons r (Y7.take n t)
theorem Y7.drop:∀{xs:List V} {us:List Value} (n:Nat),Y7 xs us->Y7 (xs.drop n) (us.drop n)
 |_,_,0,r=>r
 |_,_,_+1,.nil=>.nil
 |_,_,n+1,.cons _ t=>Y7.drop n t
theorem Y7.none_of:∀{xs:List V} {us:List Value} {i:Nat},Y7 xs us->xs[i]?=none->us[i]?=none:=fun{xs us i} r e=>by
 have h1:=r.length
 have h2:xs.length<=i:=List.getElem?_eq_none_iff.mp e
 exact List.getElem?_eq_none_iff.mpr (by omega)
def RelO:Option V->Option Value->Prop
 |some v,some u=>Zb v u
 |none,none=>True
 |_,_=>False
def KV {κ:Type}:List (κ×V)->List (κ×Value)->Prop:=Paired fun(p:κ×V) (q:κ×Value)=>p.1=q.1/\Zb p.2 q.2
def kV:XL->V
 | .inl i=>.int i
 | .inr x=>.str x
inductive HO where
 |lst (xs:List V)
 |tup (xs:List V)
 |dK (kvs:List (XL×V)) | dT (kvs:List (List XL×V))
 |set (S:Int->Bool) (n:Nat)
 |ins (C dx:Addr) (fs:List (Str×V))
 |own (x:Addr)
 |xd (fs:List (Str×V))
 |met (f x:Addr)
 |rng (lo hi:Int)
 |frz (o:Obj) (u:HO)
 |tbl (ps:Array Value)
 |ext (φ:Heap->Prop)
abbrev Hp:=Addr->Option HO
def upd (H:Hp)(a:Addr)(o:HO):Hp:=fun b=>if b=a then some o else H b
theorem Z5 {H:Hp}{a:Addr}{o:HO}:upd H a o a=some o:=by unfold upd;rw[if_pos rfl]
theorem ZS {H:Hp}{a b:Addr}{o:HO}(h:b≠a):upd H a o b=H b:=by unfold upd;rw[if_neg h]
theorem Wc {H:Hp}{a b:Addr}{o u:HO}(h:H a=some o)(h':H b=some u)(d:o≠u):a≠b:=by
 intro e;subst e;rw[h]at h';exact d (Option.some.inj h')
theorem ZP {H:Hp}{a b:Addr}{o:HO}(h:H a=some o)(h':H b=none):a≠b:=by
 intro e;subst e;rw[h]at h';cases h'
section
variable (P:Program)(w:World)
def YG (H:Hp)(h:Heap)(a:Addr):HO->Prop
 | .lst xs=>xs.length<=sizeLine/\∃(its:List Value) (n:Nat),Y7 xs its/\h.get? a=some {cls:=.type "list",data:=.seq its.toArray n}
 | .tup xs=>xs.length<=sizeLine/\∃its:List Value,Y7 xs its/\IsTup h a its.toArray
 | .dK kvs=>kvs.length<=sizeLine/\(a==sysModules)=false/\∃vs,KV kvs vs/\h.DictOf (YH P w) a vs
 | .dT kvs=>kvs.length<=sizeLine/\(a==sysModules)=false/\∃xs:List (List XL×Addr×Value),
  Paired (fun(p:List XL×V) (q:List XL×Addr×Value)=>p.1=q.1/\H q.2.1=some (.tup (p.1.map kV))/\Zb p.2 q.2.2) kvs xs/\
  ∃o es ep,h.get? a=some o/\o.ExactDict/\o.data=.dict es ep/\es.toList=xs.map (entryOfKey (tupleKind (YH P w)))/\(xs.map (·.1)).Nodup
 | .set S n=>h.SetOf (intKind P w) a S n
 | .ins C dx fs=>H dx=some (.own a)/\fs.length<=1000/\dx≠a/\h.get? a=some (instObj C dx)/\
  ∃mA,h.Ns1 dx mA/\(∀f,RelO (fs.lookup f) (mA f))/\PySem.Within mA (fs.map (·.1))
 | .own _=>∃o,h.get? a=some o
 | .xd fs=>∃mA,h.Ns1 a mA/\∀f,RelO (fs.lookup f) (mA f)
 | .rng lo hi=>∃t u v,h.get? a=some {cls:=.type "range",data:=.fields #[.int lo t,.int hi u,.int 1 v]}
 | .frz o u=>h.get? a=some o/\YG H h a u
 | .tbl ps=>h.get? a=some {cls:=.none,data:=.fields ps}
 | .met f x=>h.get? a=some (methodObj (.ref f) (.ref x))
 | .ext φ=>φ h/\(∃o,h.get? a=some o)/\∀h1 h2:Heap,φ h1->(∀o,h1.get? a=some o->h2.get? a=some o)->φ h2
def VC (H:Hp)(h:Heap):Prop:=∀a o,H a=some o->YG P w H h a o
end
section
variable {P:Program}{w:World}{H H':Hp}{h h':Heap}{a:Addr}{o:HO}
theorem YG.lt (x:YG P w H h a o):a<h.objs.size:=by
 cases o with
 |lst xs=>obtain⟨_,_,_,_,e⟩:=x;exact ZA e
 |tup xs=>obtain⟨_,_,_,p⟩:=x;exact p.lt
 |dK kvs=>obtain⟨_,_,_,_,o,_,_,e,_⟩:=x;exact ZA e
 |dT kvs=>obtain⟨_,_,_,_,o,_,_,e,_⟩:=x;exact ZA e
 |set S n=>obtain⟨o,_,_,_,e,_⟩:=x;exact ZA e
 |ins C dx fs=>obtain⟨_,_,_,e,_⟩:=x;exact ZA e
 |own y=>obtain⟨_,e⟩:=x;exact ZA e
 |xd fs=>obtain⟨_,⟨_,_,_,e,_⟩,_⟩:=x;exact ZA e
 |rng lo hi=>obtain⟨_,_,_,e⟩:=x;exact ZA e
 |frz ob u=>obtain⟨e,_⟩:=x;exact ZA e
 |tbl ps=>exact ZA (show h.get? a=some _ from x)
 |met f y=>exact ZA (show h.get? a=some _ from x)
 |ext φ=>obtain⟨_,⟨_,e⟩,_⟩:=x;exact ZA e
theorem Paired.mapP {α β:Type}{F G:α->β->Prop}:∀{l₁:List α} {l₂:List β},Paired F l₁ l₂->(∀a b,F a b->G a b)->Paired G l₁ l₂
 |_,_,.nil,_=>.nil
 |_,_,.cons r t,f=>.cons (f _ _ r) (Paired.mapP t f)
theorem YG.stay (x:YG P w H h a o)(k:∀b u,(b=a\/H b=some (.own a))->h.get? b=some u->h'.get? b=some u)(ho:∀b,H b=some (.own a)->H' b=some (.own a))(ht:∀b xs,H b=some (.tup xs)->H' b=some (.tup xs)):YG P w H' h' a o:=by
 induction o with
 |lst xs=>obtain⟨z,its,n,r,e⟩:=x;exact⟨z,its,n,r,k _ _ (.inl rfl) e⟩
 |tup xs=>obtain⟨z,its,r,ob,e,c⟩:=x;exact⟨z,its,r,ob,k _ _ (.inl rfl) e,c⟩
 |dK kvs=>obtain⟨z,y,vs,r,ob,es,ep,e,c⟩:=x;exact⟨z,y,vs,r,ob,es,ep,k _ _ (.inl rfl) e,c⟩
 |dT kvs=>
  obtain⟨z,y,xs,r,ob,es,ep,e,c⟩:=x
  exact⟨z,y,xs,Paired.mapP r fun p q z=>⟨z.1,ht _ _ z.2.1,z.2.2⟩,ob,es,ep,k _ _ (.inl rfl) e,c⟩
 |set S n=>obtain⟨ob,es,ep,t,e,c⟩:=x;exact⟨ob,es,ep,t,k _ _ (.inl rfl) e,c⟩
 |ins C dx fs=>
  obtain⟨d,z,ne,e,mA,⟨od,es,ep,e2,c⟩,r⟩:=x
  exact⟨ho _ d,z,ne,k _ _ (.inl rfl) e,mA,⟨od,es,ep,k _ _ (.inr d) e2,c⟩,r⟩
 |own y=>obtain⟨ob,e⟩:=x;exact⟨ob,k _ _ (.inl rfl) e⟩
 |xd fs=>obtain⟨mA,⟨od,es,ep,e,c⟩,r⟩:=x;exact⟨mA,⟨od,es,ep,k _ _ (.inl rfl) e,c⟩,r⟩
 |rng lo hi=>obtain⟨t,u,v,e⟩:=x;exact⟨t,u,v,k _ _ (.inl rfl) e⟩
 |frz ob u ih=>obtain⟨e,q⟩:=x;exact⟨k _ _ (.inl rfl) e,ih q⟩
 |tbl ps=>
  have e:h.get? a=some {cls:=.none,data:=.fields ps}:=x
  show h'.get? a=some {cls:=.none,data:=.fields ps}
  exact k a _ (.inl rfl) e
 |met f y=>
  have e:h.get? a=some (methodObj (.ref f) (.ref y)):=x
  show h'.get? a=some (methodObj (.ref f) (.ref y))
  exact k a _ (.inl rfl) e
 |ext φ=>obtain⟨p,⟨o,e⟩,st⟩:=x;exact⟨st _ _ p fun o q=>k _ _ (.inl rfl) q,⟨o,k _ _ (.inl rfl) e⟩,st⟩
theorem VC.lt (x:VC P w H h)(e:H a=some o):a<h.objs.size:=(x a o e).lt
theorem VC.fresh (x:VC P w H h)(e:h.objs.size<=a):H a=none:=by
 cases q:H a with
 |none=>rfl
 |some u=>exact absurd (Nat.lt_of_lt_of_le (x.lt q) e) (Xr _)
theorem VC.kept (x:VC P w H h)(k:∀b u,h.get? b=some u->h'.get? b=some u):VC P w H h':=fun a o e=>
 (x a o e).stay (fun b u _ q=>k b u q) (fun _ q=>q) fun _ _ q=>q
theorem VC.laid (x:VC P w H h)(k:∀b u,h.get? b=some u->h'.get? b=some u)(hp:h.objs.size<=a)(new:YG P w (upd H a o) h' a o):VC P w (upd H a o) h':=fun b u e=>by
 have hn:=x.fresh hp
 by_cases hb:b=a
 ·subst hb;rw[Z5]at e;cases e;exact new
 ·rw[ZS hb]at e
  exact(x b u e).stay (fun c v _ q=>k c v q) (fun c q=>by rw[ZS (ZP q hn)];exact q) fun c xs q=>by rw[ZS (ZP q hn)];exact q
end
def Rd (H:Hp)(a:Addr)(u:HO):Prop:=H a=some u\/∃o,H a=some (.frz o u)
theorem Rd.ok {P:Program}{w:World}{H:Hp}{h:Heap}{a:Addr}{u:HO}(r:Rd H a u)(x:VC P w H h):YG P w H h a u:=by
 rcases r with r | ⟨o,r⟩
 ·exact x a u r
 ·obtain⟨_,q⟩:=x a _ r
  exact q
def Mut:Option HO->Prop
 |some (.lst _)=>True
 |some (.dK _)=>True
 |some (.dT _)=>True
 |some (.set _ _)=>True
 |some (.ins _ _ _)=>True
 |some (.ext _)=>True
 |_=>False
section
variable {P:Program}{w:World}{H:Hp}{h h':Heap}{x e:Addr}{o':HO}
theorem VC.write (ok:VC P w H h)(mu:Mut (H x))(he:e=x\/H e=some (.own x))(k:∀b u,b≠e->h.get? b=some u->h'.get? b=some u)(heo:∃u,h'.get? e=some u)(new:YG P w (upd H x o') h' x o'):VC P w (upd H x o') h':=fun b u q=>by
 have nown:∀c y,H c=some (.own y)->c≠x:=fun c y r z=>by subst z;rw[r]at mu;exact mu
 have ntup:∀c xs,H c=some (.tup xs)->c≠x:=fun c xs r z=>by subst z;rw[r]at mu;exact mu
 by_cases hb:b=x
 ·subst hb;rw[Z5]at q;cases q;exact new
 ·rw[ZS hb]at q
  by_cases hbe:b=e
  ·have q':H b=some (.own x):=by
    rcases he with z | z
    ·exact absurd (hbe.trans z) hb
    ·rw[hbe];exact z
   rw[q]at q';cases q'
   obtain⟨v,hv⟩:=heo
   exact⟨v,by rw[hbe];exact hv⟩
  ·refine(ok b u q).stay (fun c v hc r=>k c v ?_ r) (fun c r=>by rw[ZS (nown c b r)];exact r) fun c xs r=>by rw[ZS (ntup c xs r)];exact r
   rcases hc with rfl | hc
   ·exact hbe
   ·rintro rfl
    rcases he with z | z
    ·exact nown c b hc z
    ·rw[hc]at z;cases z;exact hb rfl
end
structure Un (fs ex:List Addr)(H H':Hp)(h h':Heap):Prop where
 keep:∀b o,h.get? b=some o->H b=none->b∉fs->b∉ex->h'.get? b=some o
 slot:∀b o,h.get? b=some o->H b=none->b∈fs->b∉ex->∃sl,h'.get? b=some {o with slots:=sl}
 free:∀b o,h.get? b=some o->H b=none->b∉ex->H' b=none
 there:∀b o,h.get? b=some o->b∉ex->∃o',h'.get? b=some o'
 tups:∀b xs,H b=some (.tup xs)->H' b=some (.tup xs)
 frzs:∀b o u,H b=some (.frz o u)->H' b=some (.frz o u)
 tbls:∀b ps,H b=some (.tbl ps)->∃more,H' b=some (.tbl (ps++more))
section
variable {fs fs' ex ex':List Addr}{H H1 H2:Hp}{h h1 h2 h':Heap}{a x e:Addr}{o:HO}
theorem Un.any (u:Un fs ex H H1 h h1){b:Addr}{ob:Obj}(q:h.get? b=some ob)(n:H b=none)(hx:b∉ex):∃sl,h1.get? b=some {ob with slots:=sl}:=by
 by_cases hb:b∈fs
 ·exact u.slot b ob q n hb hx
 ·exact⟨ob.slots,u.keep b ob q n hb hx⟩
theorem Un.kept (k:∀b u,h.get? b=some u->h'.get? b=some u):Un fs ex H H h h':=
 ⟨fun b ob q _ _ _=>k b ob q,fun b ob q _ _ _=>⟨ob.slots,k b ob q⟩,fun _ _ _ n _=>n,fun b ob q _=>⟨ob,k b ob q⟩,fun _ _ q=>q,fun _ _ _ q=>q,fun _ ps q=>⟨#[],by rw[q];simp⟩⟩
theorem Un.refl:Un fs ex H H h h:=Un.kept fun _ _ q=>q
theorem Un.laid (k:∀b u,h.get? b=some u->h'.get? b=some u)(hp:h.objs.size<=a)(hn:H a=none):Un fs ex H (upd H a o) h h' where
 keep:=fun b u q _ _ _=>k b u q
 slot:=fun b u q _ _ _=>⟨u.slots,k b u q⟩
 free:=fun b u q n _=>by rw[ZS (Zs (Nat.lt_of_lt_of_le (ZA q) hp))];exact n
 there:=fun b u q _=>⟨u,k b u q⟩
 tups:=fun b xs q=>by rw[ZS (ZP q hn)];exact q
 frzs:=fun b u xs q=>by rw[ZS (ZP q hn)];exact q
 tbls:=fun b ps q=>⟨#[],by rw[ZS (ZP q hn),q];simp⟩
theorem Un.write (mu:Mut (H x))(he:e=x\/H e=some (.own x))(k:∀b u,b≠e->h.get? b=some u->h'.get? b=some u)(heo:∃u,h'.get? e=some u):Un fs ex H (upd H x o) h h':=by
 have hx:∀b,H b=none->b≠x:=fun b n z=>by subst z;rw[n]at mu;exact mu
 have hb:∀b,H b=none->b≠e:=fun b n z=>by
  subst z
  rcases he with r | r
  ·exact hx b n r
  ·rw[n]at r;cases r
 have hm:∀b u,H b=some u->¬Mut (some u)->b≠x:=fun b u q nm z=>by subst z;rw[q]at mu;exact nm mu
 refine⟨fun b u q n _ _=>k b u (hb b n) q,fun b u q n _ _=>⟨u.slots,k b u (hb b n) q⟩,fun b u q n _=>by rw[ZS (hx b n)];exact n,fun b u q _=>?_,
  fun b xs q=>by rw[ZS (hm b _ q fun z=>z)];exact q,fun b u xs q=>by rw[ZS (hm b _ q fun z=>z)];exact q,fun b ps q=>⟨#[],by rw[ZS (hm b _ q fun z=>z),q];simp⟩⟩
 by_cases hbe:b=e
 ·subst hbe;exact heo
 ·exact⟨u,k b u hbe q⟩
end
def trk (h:Heap)(H:Hp):List Addr:=(List.range h.objs.size).filter fun a=>(H a).isSome
def allNews (g h:Heap)(L:Addr):List (Addr×Obj):=(List.range h.objs.size).filterMap fun a=>if a=L\/(g.get? a).isSome=true then none else(h.get? a).map fun o=>(a,o)
def rest (g h:Heap)(L d:Addr):List (Addr×Obj):=(allNews g h L).filter fun p=>decide (p.1≠d)
structure Mod (K:W.Frag)(mg:Str->Option Value)(base:Heap):Prop where
 kin:K.In base
 glob:base.Ns mainGlobals mg
 blt:∃mb,base.Ns builtinsNs mb/\∀x:Str,x≠"__name__"->mb x=bootBuiltins x
 nolimit:base.NoLimit
structure Cx where
 prog:Program
 w:World
 K:W.Frag
 mg:Str->Option Value
 base:Heap
 A:Around
 N:List Str
 s₀:Shared
 H₀:Hp
 env:Env
 outer:List Env
 stack:List Env
 ex:List Addr
 fn:Str->Bool
 calm:Bool
 pn:List (Addr×Obj)
 xe:Value->Shared->Prop
def frs (l:List Env):List Addr:=l.filterMap (·.frame)
abbrev Cx.fs (X:Cx):List Addr:=frs X.outer
def Vis (sc:Scope)(x:Str):Prop:=sc.names.lookup x=some .local\/sc.names.lookup x=some .cell\/sc.names.lookup x=some .free
def Loc (sc:Scope)(x:Str):Prop:=sc.names.lookup x=some .local\/sc.names.lookup x=some .cell
def Look (env:Env)(h:Heap)(m:Str->Option Value)(x:Str)(u:Value):Prop:=
 (env.kindOf x=some .local/\m x=some u)\/((env.kindOf x=some .cell\/env.kindOf x=some .free)/\∃c,env.cells.lookup x=some c/\h.IsCell c (some u))
structure Cx.Ok (X:Cx):Prop where
 mod:Mod X.K X.mg X.base
 kind:X.env.scope.kind=.function
 glob:X.env.globals=mainGlobals
 blt:X.env.builtins=builtinsNs
 above:X.s₀.heap.objs.size<=X.env.locals
 inj:∀x y c,X.env.cells.lookup x=some c->X.env.cells.lookup y=some c->x=y
 has:∀x,(X.env.kindOf x=some .cell\/X.env.kindOf x=some .free)->∃c,X.env.cells.lookup x=some c
 cab:∀x c,X.fn x=true->X.env.cells.lookup x=some c->X.s₀.heap.objs.size<=c
 hd:X.calm=true->X.A.handled=none
 frames:X.A.frames=some X.stack
 stk:X.stack=X.outer\/(X.stack=X.env::X.outer/\X.env.frame=some X.env.locals)
 exf:∀b∈X.ex,b≠X.env.locals/\∀x c,X.env.cells.lookup x=some c->c≠b
 bs:∀b o,X.base.get? b=some o->X.s₀.heap.get? b=some o/\X.H₀ b=none
 bsz:X.base.objs.size<=X.s₀.heap.objs.size
 noex:∀b o,X.base.get? b=some o->b∉X.ex
 exfs:∀b∈X.ex,b∉X.fs
 funs:X.s₀.heap.FunFrames X.base X.outer
 frf:∀b∈X.fs,X.H₀ b=none
structure Zq (X:Cx)(pins:List (Addr×Obj))(σ:List (Option V))(H:Hp)(s:Shared):Prop where
 ok:X.Ok
 os:s.os=X.s₀.os
 bare:AllBare s.gens
 base:Un X.fs X.ex X.H₀ H X.s₀.heap s.heap
 loc:∃m,s.heap.Ns X.env.locals m/\∀(i:Nat) (x:Str) (v:V),X.N[i]?=some x->σ[i]?=some (some v)->Vis X.env.scope x->∃u,Zb v u/\Look X.env s.heap m x u
 cell:∀x c,X.env.cells.lookup x=some c->∃v,s.heap.IsCell c v
 free:H X.env.locals=none
 freeC:∀x c,X.env.cells.lookup x=some c->H c=none
 pin:∀p∈X.pn++pins,s.heap.get? p.1=some p.2/\H p.1=none/\p.1≠X.env.locals/\p.1∉X.fs/\∀v,p.2.data≠.cell v
 hok:VC X.prog X.w H s.heap
 len:σ.length=X.N.length
section
variable {X:Cx}{pins:List (Addr×Obj)}{σ:List (Option V)}{H H':Hp}{s:Shared}{h':Heap}
theorem Cx.Ok.nofr (ok:X.Ok){b:Addr}{o:Obj}(e:X.base.get? b=some o):b∉X.fs:=fun hb=>by
 have:=(ok.funs.mem hb).1
 rw[e]at this;cases this
theorem Zq.bs (I:Zq X pins σ H s):∀b o,X.base.get? b=some o->s.heap.get? b=some o/\H b=none:=fun b o e=>
 ⟨I.base.keep b o (I.ok.bs b o e).1 (I.ok.bs b o e).2 (I.ok.nofr e) (I.ok.noex b o e),I.base.free b o (I.ok.bs b o e).1 (I.ok.bs b o e).2 (I.ok.noex b o e)⟩
theorem Zq.bk (I:Zq X pins σ H s):∀b o,X.base.get? b=some o->s.heap.get? b=some o:=fun b o e=>(I.bs b o e).1
theorem Zq.mod (I:Zq X pins σ H s):Mod X.K X.mg X.base:=I.ok.mod
theorem Zq.kIn (I:Zq X pins σ H s):X.K.In s.heap:=I.ok.mod.kin.keeps I.bk
theorem Zq.lt (I:Zq X pins σ H s):X.env.locals<s.heap.objs.size:=let⟨_,hn,_⟩:=I.loc;hn.lt
theorem Zq.sz (I:Zq X pins σ H s):X.s₀.heap.objs.size<=s.heap.objs.size:=Nat.le_trans I.ok.above (Nat.le_of_lt I.lt)
theorem Zq.nofs (I:Zq X pins σ H s){a:Addr}(h:s.heap.objs.size<=a):a∉X.fs:=fun hb=>by
 obtain⟨_,o,ho,_⟩:=I.ok.funs.mem hb
 exact absurd (Nat.lt_of_lt_of_le (ZA ho) (Nat.le_trans I.sz h)) (Xr _)
theorem Zq.cne (I:Zq X pins σ H s):∀x c,X.env.cells.lookup x=some c->c≠X.env.locals:=fun x c e z=>by
 obtain⟨v,o,ho,hd⟩:=I.cell x c e
 obtain⟨m,⟨o',es,ep,ho',hd',_⟩,_⟩:=I.loc
 rw[z,ho']at ho;cases ho;rw[hd']at hd;cases hd
theorem Zq.funs (I:Zq X pins σ H s):s.heap.FunFrames X.base X.outer:=by
 have all:∀(l:List Env),(∀b∈frs l,b∈X.fs)->X.s₀.heap.FunFrames X.base l->s.heap.FunFrames X.base l:=by
  intro l
  induction l with
  |nil=>intro _ _;trivial
  |cons env r ih=>
   intro hs hl
   obtain⟨hk,⟨L,o,hf,hn,ho,hd⟩,hr⟩:=hl
   have hL:L∈X.fs:=hs L (by unfold frs;rw[WY,hf];exact ZW)
   obtain⟨sl,e⟩:=I.base.slot L o ho (I.ok.frf L hL) hL fun z=>I.ok.exfs L z hL
   exact⟨hk,⟨L,_,hf,hn,e,hd⟩,ih (fun b hb=>hs b (by unfold frs;rw[WY,hf];exact ZT _ hb)) hr⟩
 exact all X.outer (fun _ hb=>hb) I.ok.funs
theorem Zq.stack (I:Zq X pins σ H s):s.heap.FunFrames X.base X.stack:=by
 rcases I.ok.stk with e | ⟨e,hf⟩
 ·rw[e];exact I.funs
 ·rw[e]
  obtain⟨m,hn,_⟩:=I.loc
  refine .cons (by rw[I.ok.kind];decide) hf hn ?_ I.funs
  exact Heap.get?_none_of_le (Nat.le_trans I.ok.bsz I.ok.above)
theorem Zq.stkSub (I:Zq X pins σ H s):∀b∈frs X.stack,b∈X.env.locals::X.fs:=fun b hb=>by
 rcases I.ok.stk with e | ⟨e,hf⟩
 ·rw[e]at hb;exact ZT _ hb
 ·rw[e]at hb
  unfold frs at hb
  rw[WY,hf]at hb
  exact hb
theorem Zq.stkFree (I:Zq X pins σ H s):∀b∈frs X.stack,H b=none:=fun b hb=>by
 rcases ZV.mp (I.stkSub b hb) with e | hb
 ·rw[e];exact I.free
 ·obtain⟨_,o,ho,_⟩:=I.ok.funs.mem hb
  exact I.base.free b o ho (I.ok.frf b hb) fun z=>I.ok.exfs b z hb
theorem Zq.step {g':Array GenState}{t':Nat}{d':Drawn}{ch:List Addr}(I:Zq X pins σ H s)(hch:∀b∈ch,(b∈X.ex\/X.s₀.heap.objs.size<=b)/\b≠X.env.locals/\(∀x c,X.env.cells.lookup x=some c->c≠b)/\∀p∈X.pn++pins,p.1≠b)(keep:∀b o,b≠X.env.locals->b∉X.fs->b∉ch->s.heap.get? b=some o->H b=none->h'.get? b=some o)(slot:∀b o,b≠X.env.locals->b∈X.fs->b∉ch->s.heap.get? b=some o->H b=none->∃sl,h'.get? b=some {o with slots:=sl})(free:∀b o,b∉ch->s.heap.get? b=some o->H b=none->H' b=none)(there:∀b o,b∉ch->s.heap.get? b=some o->∃o',h'.get? b=some o')(tups:∀b xs,H b=some (.tup xs)->H' b=some (.tup xs))(frzs:∀b o u,H b=some (.frz o u)->H' b=some (.frz o u))(tbls:∀b ps,H b=some (.tbl ps)->∃more,H' b=some (.tbl (ps++more)))(ns:∀m,s.heap.Ns X.env.locals m->h'.Ns X.env.locals m)(hok:VC X.prog X.w H' h')(hg:AllBare g') :
 Zq X pins σ H' {s with heap:=h',gens:=g',drawn:=d',toks:=t'}:=by
 have neL:∀b o,X.s₀.heap.get? b=some o->b≠X.env.locals:=fun b o e=>Zs (Nat.lt_of_lt_of_le (ZA e) I.ok.above)
 have neC:∀b o,X.s₀.heap.get? b=some o->b∉X.ex->b∉ch:=fun b o e hx hb=>by
  rcases(hch b hb).1 with z | z
  ·exact hx z
  ·exact absurd (Nat.lt_of_lt_of_le (ZA e) z) (Xr _)
 have cellK:∀x c,X.env.cells.lookup x=some c->∀v,s.heap.IsCell c v->h'.IsCell c v:=fun x c e v ⟨o,ho,hd⟩=>by
  have nch:c∉ch:=fun z=>(hch c z).2.2.1 x c e rfl
  by_cases hc:c∈X.fs
  ·obtain⟨sl,q⟩:=slot c o (I.cne x c e) hc nch ho (I.freeC x c e)
   exact⟨_,q,hd⟩
  ·exact⟨o,keep c o (I.cne x c e) hc nch ho (I.freeC x c e),hd⟩
 refine⟨I.ok,I.os,hg,⟨fun b o e n hb hx=>?_,fun b o e n hb hx=>?_,fun b o e n hx=>?_,fun b o e hx=>?_,fun b xs e=>tups b xs (I.base.tups b xs e),fun b o xs e=>frzs b o xs (I.base.frzs b o xs e),fun b ps e=>?_⟩,?_,fun x c e=>?_,?_,fun x c e=>?_,fun p hp=>?_,hok,I.len⟩
 ·exact keep b o (neL b o e) hb (neC b o e hx) (I.base.keep b o e n hb hx) (I.base.free b o e n hx)
 ·obtain⟨sl,e1⟩:=I.base.slot b o e n hb hx
  obtain⟨sl',e2⟩:=slot b _ (neL b o e) hb (neC b o e hx) e1 (I.base.free b o e n hx)
  exact⟨sl',e2⟩
 ·obtain⟨o',e1⟩:=I.base.there b o e hx
  exact free b o' (neC b o e hx) e1 (I.base.free b o e n hx)
 ·obtain⟨o',e1⟩:=I.base.there b o e hx
  exact there b o' (neC b o e hx) e1
 ·obtain⟨m1,e1⟩:=I.base.tbls b ps e
  obtain⟨m2,e2⟩:=tbls b _ e1
  exact⟨m1++m2,by rw[e2,Array.append_assoc]⟩
 ·obtain⟨m,hn,hl⟩:=I.loc
  refine⟨m,ns m hn,fun i x v e1 e2 e3=>?_⟩
  obtain⟨u,r,l⟩:=hl i x v e1 e2 e3
  refine⟨u,r,?_⟩
  rcases l with l | ⟨k,c,e,z⟩
  ·exact .inl l
  ·exact .inr ⟨k,c,e,cellK x c e _ z⟩
 ·obtain⟨v,z⟩:=I.cell x c e
  exact⟨v,cellK x c e v z⟩
 ·obtain⟨m,⟨o,_,_,ho,_⟩,_⟩:=I.loc
  exact free _ o (fun z=>(hch _ z).2.1 rfl) ho I.free
 ·obtain⟨v,o,ho,hd⟩:=I.cell x c e
  exact free c o (fun z=>(hch c z).2.2.1 x c e rfl) ho (I.freeC x c e)
 ·obtain⟨e,n,ne,nf,d⟩:=I.pin p hp
  have nch:p.1∉ch:=fun z=>(hch p.1 z).2.2.2 p hp rfl
  exact⟨keep p.1 p.2 ne nf nch e n,free p.1 p.2 nch e n,ne,nf,d⟩
theorem Zq.un {t':Nat}(I:Zq X pins σ H s)(u:Un X.fs [] H H' s.heap h')(hok:VC X.prog X.w H' h'):Zq X pins σ H' {s with heap:=h',toks:=t'}:=by
 obtain⟨m,⟨o,es,ep,ho,r⟩,_⟩:=id I.loc
 obtain⟨sl,hL⟩:=u.any ho I.free (by simp)
 exact I.step (g':=s.gens) (d':=s.drawn) (ch:=[]) (fun _ z=>nomatch z) (fun b o _ hb _ e n=>u.keep b o e n hb (by simp)) (fun b o _ hb _ e n=>u.slot b o e n hb (by simp)) (fun b o _ e n=>u.free b o e n (by simp)) (fun b o _ e=>u.there b o e (by simp)) u.tups u.frzs u.tbls (fun m' hm=>by
  obtain⟨o',es',ep',ho',r'⟩:=hm
  rw[ho]at ho';cases ho'
  exact⟨_,es',ep',hL,r'⟩) hok I.bare
theorem Zq.call {g':Array GenState}{t':Nat}{d':Drawn}{ch:List Addr}(I:Zq X pins σ H s)(u:Un (frs X.stack) ch H H' s.heap h')(hok:VC X.prog X.w H' h')(hg:AllBare g')(hch:∀b∈ch,(b∈X.ex\/X.s₀.heap.objs.size<=b)/\b≠X.env.locals/\(∀x c,X.env.cells.lookup x=some c->c≠b)/\∀p∈X.pn++pins,p.1≠b) :
 Zq X pins σ H' {s with heap:=h',gens:=g',drawn:=d',toks:=t'}:=by
 obtain⟨m,⟨o,es,ep,ho,r⟩,_⟩:=id I.loc
 obtain⟨sl,hL⟩:=u.any ho I.free fun z=>(hch _ z).2.1 rfl
 exact I.step (ch:=ch) hch (fun b o hL hb hc e n=>u.keep b o e n (fun z=>(ZV.mp (I.stkSub b z)).elim hL hb) hc) (fun b o _ _ hc e n=>u.any e n hc) (fun b o hc e n=>u.free b o e n hc) (fun b o hc e=>u.there b o e hc) u.tups u.frzs u.tbls (fun m' hm=>by
  obtain⟨o',es',ep',ho',r'⟩:=hm
  rw[ho]at ho';cases ho'
  exact⟨_,es',ep',hL,r'⟩) hok hg
theorem Zq.turned {t':Nat}{it:Addr}(I:Zq X pins σ H s)(k:∀b o,b≠it->s.heap.get? b=some o->h'.get? b=some o)(hn:H it=none)(hL:it≠X.env.locals)(h1:it∈X.ex\/X.s₀.heap.objs.size<=it)(h2:∀x c,X.env.cells.lookup x=some c->c≠it)(h3:∀p∈X.pn++pins,p.1≠it):Zq X pins σ H {s with heap:=h',toks:=t'}:=by
 have nit:∀b u,H b=some u->b≠it:=fun b u e z=>by rw[z,hn]at e;cases e
 refine I.step (g':=s.gens) (d':=s.drawn) (ch:=[it]) (fun b hb=>?_) (fun b o _ _ hc e _=>k b o (fun z=>hc (by simp[z])) e) (fun b o _ _ hc e _=>⟨o.slots,k b o (fun z=>hc (by simp[z])) e⟩) (fun _ _ _ _ n=>n)
  (fun b o hc e=>⟨o,k b o (fun z=>hc (by simp[z])) e⟩) (fun _ _ e=>e) (fun _ _ _ e=>e) (fun b ps e=>⟨#[],by rw[e];simp⟩) (fun m hm=>?_) (fun b u e=>?_) I.bare
 ·have e:b=it:=by simpa using hb
  subst e
  exact⟨h1,hL,h2,h3⟩
 ·obtain⟨o,es,ep,ho,r⟩:=hm
  exact⟨o,es,ep,k _ o (Ne.symm hL) ho,r⟩
 ·refine(I.hok b u e).stay (fun c v hc q=>k c v ?_ q) (fun _ q=>q) fun _ _ q=>q
  rcases hc with z | z
  ·rw[z];exact nit b u e
  ·exact nit c _ z
theorem Zq.tok (I:Zq X pins σ H s)(t:Nat):Zq X pins σ H {s with toks:=t}:=I.un (h':=s.heap) (t':=t) Un.refl I.hok
theorem Zq.kept {t':Nat}(I:Zq X pins σ H s)(k:∀b u,s.heap.get? b=some u->h'.get? b=some u):Zq X pins σ H {s with heap:=h',toks:=t'}:=I.un (Un.kept k) (I.hok.kept k)
theorem Zq.laid {a:Addr}{o:HO}{t':Nat}(I:Zq X pins σ H s)(k:∀b u,s.heap.get? b=some u->h'.get? b=some u)(hp:s.heap.objs.size<=a)(new:YG X.prog X.w (upd H a o) h' a o) :
 Zq X pins σ (upd H a o) {s with heap:=h',toks:=t'}:=I.un (Un.laid k hp (I.hok.fresh hp)) (I.hok.laid k hp new)
theorem Zq.write {x e:Addr}{o:HO}{t':Nat}(I:Zq X pins σ H s)(mu:Mut (H x))(he:e=x\/H e=some (.own x))(k:∀b u,b≠e->s.heap.get? b=some u->h'.get? b=some u)(heo:∃u,h'.get? e=some u)(new:YG X.prog X.w (upd H x o) h' x o):Zq X pins σ (upd H x o) {s with heap:=h',toks:=t'}:=I.un (Un.write mu he k heo) (I.hok.write mu he k heo new)
theorem Zq.pins_of {pins':List (Addr×Obj)}(I:Zq X pins σ H s)(h:∀p∈pins',s.heap.get? p.1=some p.2/\H p.1=none/\p.1≠X.env.locals/\p.1∉X.fs/\∀v,p.2.data≠.cell v):Zq X pins' σ H s:=
 ⟨I.ok,I.os,I.bare,I.base,I.loc,I.cell,I.free,I.freeC,fun p hp=>(Zi.mp hp).elim (fun z=>I.pin p (Y1 _ z)) (h p),I.hok,I.len⟩
theorem nodup_ix {N:List Str}(hN:N.Nodup){i j:Nat}{x:Str}(a:N[i]?=some x)(b:N[j]?=some x):i=j:=by
 obtain⟨h1,e1⟩:=List.getElem?_eq_some_iff.mp a
 obtain⟨h2,e2⟩:=List.getElem?_eq_some_iff.mp b
 exact(getElem_inj hN).mp (e1.trans e2.symm)
theorem Tm {M:Model}{A:Around}{E:Value->Shared->Prop}{i:Nat}{x:Str}{v:V}{u:Value}{Q:Unit->Shared->Prop}(I:Zq X pins σ H s)(hN:X.N.Nodup)(hi:X.N[i]?=some x)(hx:Loc X.env.scope x)(r:Zb v u)(h:∀s',Zq X pins (σ.set i (some v)) H s'->(∃a,Heap.SameBut a s.heap s'.heap/\(a=X.env.locals\/X.env.cells.lookup x=some a))->Q () s')(hf:X.fn x=true\/X.env.scope.names.lookup x=some .local:=by first | exact .inl rfl | exact .inr rfl | assumption):wpAny M A (storeName X.env x u) Q E s:=by
 obtain⟨m,hn,hl⟩:=id I.loc
 have hcls:(X.env.scope.kind==.class||(X.env.scope.kind==.module&&X.env.locals !=X.env.globals))=false:=by rw[I.ok.kind];rfl
 have hiσ:i<σ.length:=by rw[I.len];exact(List.getElem?_eq_some_iff.mp hi).1
 have cne:=I.cne
 have tracked:∀{a:Addr} {h':Heap},(∃o,s.heap.get? a=some o/\H a=none)->Heap.SameBut a s.heap h'->VC X.prog X.w H h':=fun{a h'} ha hs b ob e=>by
  obtain⟨_,_,hfree⟩:=ha
  refine(I.hok b ob e).stay (fun c w' hc q=>(hs.2 c ?_).trans q) (fun _ q=>q) fun _ _ q=>q
  rintro rfl
  rcases hc with rfl | hc
  ·rw[hfree]at e;cases e
  ·rw[hfree]at hc;cases hc
 rcases hx with hk | hk
 ·refine wpAny_storeName_local hk hn (fun h' hn' hs=>?_) hcls
  obtain⟨oL,_,_,hoL,_⟩:=id hn
  refine h _ ⟨I.ok,I.os,I.bare,⟨fun b o e n hb hx=>?_,fun b o e n hb hx=>?_,I.base.free,fun b o e hx=>?_,I.base.tups,I.base.frzs,I.base.tbls⟩,⟨_,hn',fun j y v' e1 e2 e3=>?_⟩,fun y c e=>?_,I.free,I.freeC,fun p hp=>?_,tracked ⟨oL,hoL,I.free⟩ hs,by simpa using I.len⟩ ⟨_,hs,.inl rfl⟩
  ·exact(hs.2 b (Zs (Nat.lt_of_lt_of_le (ZA e) I.ok.above))).trans (I.base.keep b o e n hb hx)
  ·obtain⟨sl,e1⟩:=I.base.slot b o e n hb hx
   exact⟨sl,(hs.2 b (Zs (Nat.lt_of_lt_of_le (ZA e) I.ok.above))).trans e1⟩
  ·obtain⟨o',e1⟩:=I.base.there b o e hx
   exact⟨o',(hs.2 b (Zs (Nat.lt_of_lt_of_le (ZA e) I.ok.above))).trans e1⟩
  ·by_cases hj:j=i
   ·subst hj
    rw[hi]at e1;cases e1
    rw[List.getElem?_set_self hiσ]at e2
    cases e2
    exact⟨u,r,.inl ⟨hk,by simp⟩⟩
   ·rw[List.getElem?_set_ne (Ne.symm hj)]at e2
    obtain⟨u',r',q⟩:=hl j y v' e1 e2 e3
    refine⟨u',r',?_⟩
    rcases q with⟨k,e⟩ | ⟨k,c,e,z⟩
    ·refine .inl ⟨k,?_⟩
     have:y≠x:=fun e=>hj (nodup_ix hN e1 (e▸hi))
     simp[this,e]
    ·exact .inr ⟨k,c,e,z.sameBut hs (cne y c e)⟩
  ·obtain⟨w',z⟩:=I.cell y c e
   exact⟨w',z.sameBut hs (cne y c e)⟩
  ·obtain⟨e,n,ne,nf,d⟩:=I.pin p hp
   exact⟨(hs.2 p.1 ne).trans e,n,ne,nf,d⟩
 ·have hfn:X.fn x=true:=by
   rcases hf with z | z
   ·exact z
   ·rw[z]at hk;cases hk
  obtain⟨c,hc⟩:=I.ok.has x (.inl hk)
  obtain⟨w',z⟩:=I.cell x c hc
  refine wpAny_storeName_cell I.ok.kind hk hc z (fun h' hc' hs=>?_)
  obtain⟨oc,hoc,hocd⟩:=id z
  refine h {s with heap:=h'} ⟨I.ok,I.os,I.bare,⟨fun b o e n hb hx=>?_,fun b o e n hb hx=>?_,I.base.free,fun b o e hx=>?_,I.base.tups,I.base.frzs,I.base.tbls⟩,⟨m,hn.sameBut hs (Ne.symm (cne x c hc)),fun j y v' e1 e2 e3=>?_⟩,fun y c' e=>?_,I.free,I.freeC,fun p hp=>?_,tracked ⟨oc,hoc,I.freeC x c hc⟩ hs,by simpa using I.len⟩ ⟨c,hs,.inr hc⟩
  ·exact(hs.2 b (Zs (Nat.lt_of_lt_of_le (ZA e) (I.ok.cab x c hfn hc)))).trans (I.base.keep b o e n hb hx)
  ·obtain⟨sl,e1⟩:=I.base.slot b o e n hb hx
   exact⟨sl,(hs.2 b (Zs (Nat.lt_of_lt_of_le (ZA e) (I.ok.cab x c hfn hc)))).trans e1⟩
  ·obtain⟨o',e1⟩:=I.base.there b o e hx
   exact⟨o',(hs.2 b (Zs (Nat.lt_of_lt_of_le (ZA e) (I.ok.cab x c hfn hc)))).trans e1⟩
  ·by_cases hj:j=i
   ·subst hj
    rw[hi]at e1;cases e1
    rw[List.getElem?_set_self hiσ]at e2
    cases e2
    exact⟨u,r,.inr ⟨.inl hk,c,hc,hc'⟩⟩
   ·rw[List.getElem?_set_ne (Ne.symm hj)]at e2
    obtain⟨u',r',q⟩:=hl j y v' e1 e2 e3
    refine⟨u',r',?_⟩
    rcases q with q | ⟨k,c',e,z'⟩
    ·exact .inl q
    ·refine .inr ⟨k,c',e,z'.sameBut hs ?_⟩
     rintro rfl
     exact hj (nodup_ix hN e1 (I.ok.inj _ _ _ e hc▸hi))
  ·by_cases hcc:c'=c
   ·subst hcc;exact⟨_,hc'⟩
   ·obtain⟨w2,z2⟩:=I.cell y c' e
    exact⟨w2,z2.sameBut hs hcc⟩
  ·obtain⟨e,n,ne,nf,d⟩:=I.pin p hp
   refine⟨(hs.2 p.1 ?_).trans e,n,ne,nf,d⟩
   intro q
   rw[q,hoc]at e
   have q':oc=p.2:=Option.some.inj e
   exact d w' (by rw[<-q'];exact hocd)
theorem Vs {M:Model}{A:Around}{E:Value->Shared->Prop}{i:Nat}{x:Str}{v:V}{u:Value}{Q:Unit->Shared->Prop}(I:Zq X pins σ H s)(hN:X.N.Nodup)(hi:X.N[i]?=some x)(hx:Loc X.env.scope x)(r:Zb v u)(h:∀s',Zq X pins (σ.set i (some v)) H s'->Q () s')(hf:X.fn x=true\/X.env.scope.names.lookup x=some .local:=by first | exact .inl rfl | exact .inr rfl | assumption):wpAny M A (storeName X.env x u) Q E s:=
 Tm I hN hi hx r (fun s' I' _=>h s' I') hf
theorem Zq.call' {s':Shared}{ch:List Addr}(I:Zq X pins σ H s)(ho:s'.os=s.os)(u:Un (frs X.stack) ch H H' s.heap s'.heap)(hok:VC X.prog X.w H' s'.heap)(hg:AllBare s'.gens)(hch:∀b∈ch,(b∈X.ex\/X.s₀.heap.objs.size<=b)/\b≠X.env.locals/\(∀x c,X.env.cells.lookup x=some c->c≠b)/\∀p∈X.pn++pins,p.1≠b):Zq X pins σ H' s':=by
 obtain⟨h',g',d',t',o'⟩:=s'
 have e:o'=s.os:=ho
 subst e
 exact I.call (g':=g') (t':=t') (d':=d') u hok hg hch
end
abbrev XK:=Value->Option Addr->Hp->Prop
abbrev St:=List (Option V)
abbrev VK:=V->Hp->Prop
abbrev TE:=St->Hp->VK->Prop
abbrev TT:=St->Hp->(Bool->Hp->Prop)->Prop
abbrev TA:=St->Hp->(List V->Hp->Prop)->Prop
structure Ends where
 nx:St->Hp->Prop
 rt:VK
 bk:St->Hp->Prop:=fun _ _=>False
 ct:St->Hp->Prop:=fun _ _=>False
abbrev TS:=Ends->St->Hp->Prop
def EP (X:Cx)(pins:List (Addr×Obj))(σ:St)(Q:VK)(u:Value)(s':Shared):Prop:=∃v H',Zq X pins σ H' s'/\Zb v u/\Q v H'
def TP (X:Cx)(pins:List (Addr×Obj))(σ:St)(Q:Bool->Hp->Prop)(b:Bool)(s':Shared):Prop:=∃H',Zq X pins σ H' s'/\Q b H'
def AP (X:Cx)(pins:List (Addr×Obj))(σ:St)(Q:List V->Hp->Prop)(us:List Value)(s':Shared):Prop:=∃vs H',Zq X pins σ H' s'/\Y7 vs us/\Q vs H'
def SP (X:Cx)(pins:List (Addr×Obj))(D:Ends)(f:Flow)(s':Shared):Prop:=
 match f with
 | .next=>∃σ' H',Zq X pins σ' H' s'/\D.nx σ' H'
 | .brk=>∃σ' H',Zq X pins σ' H' s'/\D.bk σ' H'
 | .cont=>∃σ' H',Zq X pins σ' H' s'/\D.ct σ' H'
 | .ret u=>∃v σ' H',Zq X pins σ' H' s'/\Zb v u/\D.rt v H'
def PE (X:Cx)(e:Expr)(t:TE):Prop:=
 ∀(pins:List (Addr×Obj)) (s:Shared) (σ:St) (H:Hp) (Q:VK),Zq X pins σ H s->t σ H Q->wpAny (model X.prog X.w) X.A (eval e X.env) (EP X pins σ Q) X.xe s
def PT (X:Cx)(e:Expr)(t:TT):Prop:=
 ∀(pins:List (Addr×Obj)) (s:Shared) (σ:St) (H:Hp) (Q:Bool->Hp->Prop),Zq X pins σ H s->t σ H Q->wpAny (model X.prog X.w) X.A (isTrue e X.env (eval e X.env)) (TP X pins σ Q) X.xe s
def PW (X:Cx)(e:Expr)(t:TT):Prop:=
 ∀(whole:Sem Value) (pins:List (Addr×Obj)) (s:Shared) (σ:St) (H:Hp) (Q:Bool->Hp->Prop),Zq X pins σ H s->t σ H Q->wpAny (model X.prog X.w) X.A (isTrue e X.env whole) (TP X pins σ Q) X.xe s
theorem PW.pt {X:Cx}{e:Expr}{t:TT}(h:PW X e t):PT X e t:=h _
def PA (X:Cx)(es:List Expr)(t:TA):Prop:=
 ∀(pos:Pos) (pins:List (Addr×Obj)) (s:Shared) (σ:St) (H:Hp) (Q:List V->Hp->Prop),Zq X pins σ H s->t σ H Q->wpAny (model X.prog X.w) X.A (spliced (backTo pos (starEach es X.env))) (AP X pins σ Q) X.xe s
def PS (X:Cx)(st:Stmt)(t:TS):Prop:=
 ∀(pins:List (Addr×Obj)) (s:Shared) (σ:St) (H:Hp) (D:Ends),Zq X pins σ H s->t D σ H->wpAny (model X.prog X.w) X.A (exec st X.env) (SP X pins D) X.xe s
def PSs (X:Cx)(st:List Stmt)(t:TS):Prop:=
 ∀(pins:List (Addr×Obj)) (s:Shared) (σ:St) (H:Hp) (D:Ends),Zq X pins σ H s->t D σ H->wpAny (model X.prog X.w) X.A (execs st X.env) (SP X pins D) X.xe s
theorem thn {α:Type}{t:Sem α}{Q Q':α->Shared->Prop}{M:Model}{A:Around}{E:Value->Shared->Prop}{s:Shared}(h:wpAny M A t Q E s)(hQ:∀a s,Q a s->Q' a s):wpAny M A t Q' E s:=wpAny_mono h hQ fun _ _ x=>x
section
variable {X:Cx}
def tVar (i:Nat):TE:=fun σ H Q=>∃v,σ[i]?=some (some v)/\Q v H
def tC (v:V):TE:=fun _ H Q=>Q v H
theorem pe_var {i:Nat}{x:Str}{pos:Pos}(hN:X.N[i]?=some x)(hv:Vis X.env.scope x)(hd:(x==("__debug__" : Str))=false:=by decide)(hcd:(x==("__classdict__" : Str))=false:=by decide):PE X (.Name x pos) (tVar i):=by
 intro pins s σ H Q I h
 obtain⟨v,e,h⟩:=h
 obtain⟨m,hn,hl⟩:=I.loc
 obtain⟨u,r,l⟩:=hl i x v hN e hv
 have fin:EP X pins σ Q u s:=⟨v,H,I,r,h⟩
 rcases l with⟨hk,hm⟩ | ⟨hk,c,hc,hcell⟩
 ·exact wpAny_Name (wpAny_loadName_local I.ok.kind hk hn hm fin) hd
 ·rcases hk with hk | hk
  ·exact wpAny_Name (wpAny_loadName_cell I.ok.kind hk hc hcell fin) hd
  ·exact wpAny_Name (wpAny_loadName_free I.ok.kind hk hc hcell fin hcd) hd
theorem ZZ {i j pos}:PE X (.Constant (.int i) j pos) (tC (.int i)):=fun _ _ _ H _ I h=>wpAny_Constant_int ⟨.int i,H,I.tok _,⟨_,rfl⟩,h⟩
theorem Yk {b j pos}:PE X (.Constant (.bool b) j pos) (tC (.bl b)):=fun _ _ _ H _ I h=>Constant_bool ⟨.bl b,H,I,rfl,h⟩
theorem pe_non {j pos}:PE X (.Constant .none j pos) (tC .non):=fun _ _ _ H _ I h=>Constant_none ⟨.non,H,I,rfl,h⟩
theorem S0 {x j pos}:PE X (.Constant (.str x) j pos) (tC (.str x)):=fun _ _ _ H _ I h=>Calls.Constant_str ⟨.str x,H,I.tok _,⟨_,rfl⟩,h⟩
def Gl (X:Cx)(x:Str):Prop:=X.env.kindOf x=some .globalImplicit
theorem UU {E:Value->Shared->Prop}{pins:List (Addr×Obj)}{s:Shared}{σ:St}{H:Hp}{x:Str}{u:Value}{pos:Pos}{Q:Value->Shared->Prop}(I:Zq X pins σ H s)(hg:Gl X x)(hm:X.mg x=some u)(h:Q u s)(hd:(x==("__debug__" : Str))=false:=by decide):wpAny (model X.prog X.w) X.A (eval (.Name x pos) X.env) Q E s:=
 Calls.Name_function_global I.ok.kind hg (Calls.loadGlobal_global (by rw[I.ok.glob];exact I.mod.glob.keeps I.bk) hm h) hd
theorem Wm {E:Value->Shared->Prop}{pins:List (Addr×Obj)}{s:Shared}{σ:St}{H:Hp}{x:Str}{u:Value}{pos:Pos}{Q:Value->Shared->Prop}(I:Zq X pins σ H s)(hg:Gl X x)(hm:X.mg x=none)(hv:bootBuiltins x=some u)(h:Q u s)(hn:x≠"__name__":=by decide)(hd:(x==("__debug__" : Str))=false:=by decide):wpAny (model X.prog X.w) X.A (eval (.Name x pos) X.env) Q E s:=by
 obtain⟨mb,h1,h2⟩:=I.mod.blt
 exact Calls.Name_function_global I.ok.kind hg (Calls.loadGlobal_builtin (by rw[I.ok.glob];exact I.mod.glob.keeps I.bk) hm (by rw[I.ok.blt];exact h1.keeps I.bk) ((h2 x hn).trans hv) h) hd
theorem pe_glob {x:Str}{v:V}{u:Value}{pos:Pos}(hg:Gl X x)(hm:X.mg x=some u)(r:Zb v u)(hd:(x==("__debug__" : Str))=false:=by decide):PE X (.Name x pos) (tC v):=
 fun _ _ _ H _ I h=>UU I hg hm ⟨v,H,I,r,h⟩ hd
theorem pe_bltn {x:Str}{v:V}{u:Value}{pos:Pos}(hg:Gl X x)(hm:X.mg x=none)(hv:bootBuiltins x=some u)(r:Zb v u)(hn:x≠"__name__":=by decide)(hd:(x==("__debug__" : Str))=false:=by decide):PE X (.Name x pos) (tC v):=
 fun _ _ _ H _ I h=>Wm I hg hm hv ⟨v,H,I,r,h⟩ hn hd
variable {a b:Expr}{ta tb:TE}{pos:Pos}
def PC (X:Cx)(op:CmpOp)(a b:Expr)(t:TE):Prop:=
 ∀(pins:List (Addr×Obj)) (s:Shared) (σ:St) (H:Hp) (Q:VK),Zq X pins σ H s->t σ H Q->
  wpAny (model X.prog X.w) X.A (eval a X.env) (fun v s₁=>wpAny (model X.prog X.w) X.A (eval b X.env) (fun u s₂=>wpAny (model X.prog X.w) X.A (compareOp op v u) (EP X pins σ Q) X.xe s₂) X.xe s₁) X.xe s
def tB (t:TE):TT:=fun σ H Q=>t σ H fun x H1=>∃c,x=.bl c/\Q c H1
theorem pt_cmp {op:CmpOp}{t:TE}(h:PC X op a b t)(h1:behindInMarks op b=false:=by first | exact nobehind _ (by decide) (by decide) | rfl):PT X (.Compare a [op] [b] pos) (tB t):=by
 intro pins s σ H Q I hw
 refine wpAny_isTrue_Compare1 (thn (h pins s σ H _ I hw) fun v s1 h1=>thn h1 fun u s2 h2=>thn h2 fun c s3 ⟨x,H1,I1,r1,q1⟩=>?_) h1
 obtain⟨d,rfl,q⟩:=q1
 cases r1
 exact wpAny_truthy_bool ⟨H1,I1,q⟩
variable {tA tB':TT}{rest:List Expr}
def tAnd (t u:TT):TT:=fun σ H Q=>t σ H fun c H1=>if c=true then u σ H1 Q else Q false H1
def tOr (t u:TT):TT:=fun σ H Q=>t σ H fun c H1=>if c=true then Q true H1 else u σ H1 Q
def tNot (t:TT):TT:=fun σ H Q=>t σ H fun c H1=>Q (!c) H1
theorem pw_and1 (ha:PT X a tA):PW X (.BoolOp .And [a] pos) tA:=by
 intro wh pins s σ H Q I h
 refine isTrue_and (thn (ha pins s σ H Q I h) fun c s1 e=>?_)
 cases c with
 |true=>exact isTrue_and_nil e
 |false=>exact e
theorem Xu (ha:PT X a tA):PW X (.BoolOp .Or [a] pos) tA:=by
 intro wh pins s σ H Q I h
 refine isTrue_or (thn (ha pins s σ H Q I h) fun c s1 e=>?_)
 cases c with
 |false=>exact isTrue_or_nil e
 |true=>exact e
theorem pw_and (ha:PT X a tA)(hb:PW X (.BoolOp .And (b::rest) pos) tB'):PW X (.BoolOp .And (a::b::rest) pos) (tAnd tA tB'):=by
 intro wh pins s σ H Q I h
 refine isTrue_and (thn (ha pins s σ H _ I h) fun c s1 ⟨H1,I1,q1⟩=>?_)
 cases c with
 |true=>exact hb wh pins s1 σ H1 Q I1 q1
 |false=>exact⟨H1,I1,q1⟩
theorem WR (ha:PT X a tA)(hb:PW X (.BoolOp .Or (b::rest) pos) tB'):PW X (.BoolOp .Or (a::b::rest) pos) (tOr tA tB'):=by
 intro wh pins s σ H Q I h
 refine isTrue_or (thn (ha pins s σ H _ I h) fun c s1 ⟨H1,I1,q1⟩=>?_)
 cases c with
 |true=>exact⟨H1,I1,q1⟩
 |false=>exact hb wh pins s1 σ H1 Q I1 q1
theorem Yx (ha:PT X a tA):PT X (.UnaryOp .Not a pos) (tNot tA):=by
 intro pins s σ H Q I h
 exact isTrue_not (ha pins s σ H (fun c H1=>Q (!c) H1) I h)
def tAndV (ta tb:TE):TE:=fun σ H Q=>ta σ H fun x H1=>∃c,x=.bl c/\if c=true then tb σ H1 Q else Q (.bl false) H1
theorem pe_one {op}{t:TE}(h:PE X a t):PE X (.BoolOp op [a] pos) t:=fun pins s σ H Q I hw=>BoolOp_one (h pins s σ H Q I hw)
theorem pe_and (ha:PE X a ta)(hb:PE X (.BoolOp .And (b::rest) pos) tb):PE X (.BoolOp .And (a::b::rest) pos) (tAndV ta tb):=by
 intro pins s σ H Q I h
 refine BoolOp_and (thn (ha pins s σ H _ I h) fun v s1 ⟨x,H1,I1,r1,q1⟩=>?_)
 obtain⟨c,rfl,q1⟩:=q1
 cases r1
 refine wpAny_truthy_bool ?_
 cases c with
 |true=>exact hb pins s1 σ H1 Q I1 q1
 |false=>exact⟨.bl false,H1,I1,rfl,q1⟩
def tIf (t:TT)(ta tb:TE):TE:=fun σ H Q=>t σ H fun c H1=>if c=true then ta σ H1 Q else tb σ H1 Q
theorem TQ {c:Expr}(hc:PT X c tA)(ha:PE X a ta)(hb:PE X b tb):PE X (.IfExp c a b pos) (tIf tA ta tb):=by
 intro pins s σ H Q I h
 refine wpAny_IfExp (thn (hc pins s σ H _ I h) fun d s1 ⟨H1,I1,q1⟩=>?_)
 cases d with
 |true=>exact ha pins s1 σ H1 Q I1 q1
 |false=>exact hb pins s1 σ H1 Q I1 q1
end
def Zp (K:W.Frag)(H:Hp)(a:Addr)(xs:List V):Prop:=
 Rd H a (.lst xs)\/
  ∃(o:Obj) (its:Array Value) (n:Nat),K.lookup a=some o/\o.cls=.type "list"/\o.dict=none/\o.data=.seq its n/\its.size<=sizeLine/\Y7 xs its.toList
def Y0 (K:W.Frag)(H:Hp)(a:Addr)(xs:List V):Prop:=
 Rd H a (.tup xs)\/
  ∃(o:Obj) (its:Array Value) (n:Nat),K.lookup a=some o/\o.cls=.type "tuple"/\o.data=.seq its n/\its.size<=sizeLine/\Y7 xs its.toList
def absV:Value->Option V
 | .none=>some .non
 | .bool b=>some (.bl b)
 | .int i _=>some (.int i)
 | .str x _=>some (.str x)
 | .bytes b _=>some (.byt b)
 | .float b _=>some (.flt b)
 | .ref a=>some (.ref a)
 | .type n=>some (.ty n)
 |_=>none
theorem Zb.abs {x:V}{u:Value}(r:Zb x u):absV u=some x:=by
 cases x with
 |non=>cases r;rfl
 |bl _=>cases r;rfl
 |int _=>obtain⟨t,rfl⟩:=r;rfl
 |str _=>obtain⟨t,rfl⟩:=r;rfl
 |byt _=>obtain⟨t,rfl⟩:=r;rfl
 |flt _=>obtain⟨t,rfl⟩:=r;rfl
 |ref _=>cases r;rfl
 |ty _=>cases r;rfl
theorem Zb.inj {x y:V}{u:Value}(r:Zb x u)(q:Zb y u):x=y:=Option.some.inj (r.abs.symm.trans q.abs)
theorem Y7.inj:∀{xs ys:List V} {us:List Value},Y7 xs us->Y7 ys us->xs=ys
 |_,_,_,.nil,.nil=>rfl
 |_,_,_,.cons r t,.cons r' t'=>by rw[r.inj r',Y7.inj t t']
section
variable {X:Cx}{pins:List (Addr×Obj)}{σ:St}{H:Hp}{s:Shared}{a:Addr}{xs ys:List V}
theorem Zp.of {K:W.Frag}(h:H a=some (.lst xs)):Zp K H a xs:=.inl (.inl h)
theorem Y0.of {K:W.Frag}(h:H a=some (.tup xs)):Y0 K H a xs:=.inl (.inl h)
theorem Zq.list (I:Zq X pins σ H s)(h:Zp X.K H a xs):∃its:List Value,Y7 xs its/\PlainL s.heap a its.toArray/\xs.length<=sizeLine:=by
 rcases h with h | ⟨o,its,n,hk,hc,hd,hs,hz,r⟩
 ·obtain⟨z,its,n,r,e⟩:=h.ok I.hok
  exact⟨its,r,⟨_,n,e,rfl,rfl,rfl⟩,z⟩
 ·refine⟨its.toList,r,⟨o,n,I.kIn a o hk,hc,hd,by simpa using hs⟩,?_⟩
  have e:=r.length
  simp only[Wz]at e
  omega
theorem Zq.tuple (I:Zq X pins σ H s)(h:Y0 X.K H a xs):∃its:List Value,Y7 xs its/\IsTup s.heap a its.toArray/\xs.length<=sizeLine:=by
 rcases h with h | ⟨o,its,n,hk,hc,hs,hz,r⟩
 ·obtain⟨z,its,r,p⟩:=h.ok I.hok
  exact⟨its,r,p,z⟩
 ·refine⟨its.toList,r,⟨o,I.kIn a o hk,hc,n,by simpa using hs⟩,?_⟩
  have e:=r.length
  simp only[Wz]at e
  omega
theorem Zq.list_inj (I:Zq X pins σ H s)(h:Zp X.K H a xs)(h':Zp X.K H a ys):xs=ys:=by
 obtain⟨its,r,⟨o,n,e,_,_,d⟩,_⟩:=I.list h
 obtain⟨its',r',⟨o',n',e',_,_,d'⟩,_⟩:=I.list h'
 rw[e]at e';cases e'
 rw[d]at d'
 injection d' with d1 _
 have:its=its':=by simpa using congrArg Array.toList d1
 subst this
 exact r.inj r'
theorem Zq.tuple_inj (I:Zq X pins σ H s)(h:Y0 X.K H a xs)(h':Y0 X.K H a ys):xs=ys:=by
 obtain⟨its,r,⟨o,e,_,n,d⟩,_⟩:=I.tuple h
 obtain⟨its',r',⟨o',e',_,n',d'⟩,_⟩:=I.tuple h'
 rw[e]at e';cases e'
 rw[d]at d'
 injection d' with d1 _
 have:its=its':=by simpa using congrArg Array.toList d1
 subst this
 exact r.inj r'
end
abbrev Cx.wish (X:Cx)(E:Value->Shared->Prop):Cx:={X with xe:=E}
abbrev Cx.nox (X:Cx):Cx:=X.wish fun _ _=>False
theorem Cx.Ok.wish {X:Cx}(ok:X.Ok)(E:Value->Shared->Prop):(X.wish E).Ok:=
 ⟨ok.mod,ok.kind,ok.glob,ok.blt,ok.above,ok.inj,ok.has,ok.cab,ok.hd,ok.frames,ok.stk,ok.exf,ok.bs,ok.bsz,ok.noex,ok.exfs,ok.funs,ok.frf⟩
theorem Cx.Ok.unwish {X:Cx}{E:Value->Shared->Prop}(ok:(X.wish E).Ok):X.Ok:=
 ⟨ok.mod,ok.kind,ok.glob,ok.blt,ok.above,ok.inj,ok.has,ok.cab,ok.hd,ok.frames,ok.stk,ok.exf,ok.bs,ok.bsz,ok.noex,ok.exfs,ok.funs,ok.frf⟩
section
variable {X:Cx}{pins:List (Addr×Obj)}{σ:St}{H:Hp}{s:Shared}{E:Value->Shared->Prop}
theorem Zq.wish (I:Zq X pins σ H s)(E:Value->Shared->Prop):Zq (X.wish E) pins σ H s:=⟨I.ok.wish E,I.os,I.bare,I.base,I.loc,I.cell,I.free,I.freeC,I.pin,I.hok,I.len⟩
theorem Zq.unwish (I:Zq (X.wish E) pins σ H s):Zq X pins σ H s:=⟨I.ok.unwish,I.os,I.bare,I.base,I.loc,I.cell,I.free,I.freeC,I.pin,I.hok,I.len⟩
theorem SP.unwish {D:Ends}{f:Flow}{s':Shared}(h:SP (X.wish E) pins D f s'):SP X pins D f s':=by
 cases f with
 |next=>obtain⟨σ',H',I,q⟩:=h;exact⟨σ',H',I.unwish,q⟩
 |brk=>obtain⟨σ',H',I,q⟩:=h;exact⟨σ',H',I.unwish,q⟩
 |cont=>obtain⟨σ',H',I,q⟩:=h;exact⟨σ',H',I.unwish,q⟩
 |ret u=>obtain⟨v,σ',H',I,r,q⟩:=h;exact⟨v,σ',H',I.unwish,r,q⟩
theorem PSs.nox {st:List Stmt}{t:TS}(h:PSs X.nox st t):PSs X st t:=fun pins s σ H D I hw=>
 wpAny_mono (h pins s σ H D (I.wish _) hw) (fun _ _ q=>q.unwish) fun _ _ z=>False.elim z
end
section
variable {X:Cx}{st:Stmt}{rest:List Stmt}{t u:TS}{e:Expr}{te:TE}{pos:Pos}
def tNext:TS:=fun D σ H=>D.nx σ H
def tSeq (t u:TS):TS:=fun D σ H=>t {D with nx:=u D} σ H
theorem Zg:PSs X [] tNext:=fun _ _ σ H _ I h=>wpAny_execs_nil ⟨σ,H,I,h⟩
theorem Z7 (h1:PS X st t)(h2:PSs X rest u):PSs X (st::rest) (tSeq t u):=by
 intro pins s σ H D I h
 refine wpAny_execs_cons (thn (h1 pins s σ H {D with nx:=u D} I h) fun f s1 q=>?_)
 cases f with
 |next=>
  obtain⟨σ',H',I',q⟩:=q
  exact h2 pins s1 σ' H' D I' q
 |ret v=>exact q
 |brk=>exact q
 |cont=>exact q
theorem ZX (h1:PS X st t):PSs X [st] t:=by
 intro pins s σ H D I h
 refine wpAny_execs_cons (thn (h1 pins s σ H D I h) fun f s1 q=>?_)
 cases f with
 |next=>exact wpAny_execs_nil q
 |ret v=>exact q
 |brk=>exact q
 |cont=>exact q
theorem Zq.quiet {pins:List (Addr×Obj)}{σ:St}{H:Hp}{s:Shared}(I:Zq X pins σ H s):interactive X.env=false:=by simp[interactive,I.ok.kind]
def tDrop (te:TE):TS:=fun D σ H=>te σ H fun _ H1=>D.nx σ H1
theorem YQ (he:PE X e te)(hs:swapsWith e none pos.line X.env=pure false:=by rfl):PS X (.Expr e pos) (tDrop te):=by
 intro pins s σ H D I h
 exact wpAny_Expr_any (thn (he pins s σ H _ I h) fun v s1 ⟨x,H1,I1,r1,q1⟩=>⟨σ,H1,I1,q1⟩) I.quiet hs
def tRet (te:TE):TS:=fun D σ H=>te σ H D.rt
theorem ZE (he:PE X e te):PS X (.Return (some e) pos) (tRet te):=by
 intro pins s σ H D I h
 exact wpAny_Return_some (thn (he pins s σ H _ I h) fun v s1 ⟨x,H1,I1,r1,q1⟩=>⟨x,σ,H1,I1,r1,q1⟩)
def tRetN:TS:=fun D _ H=>D.rt .non H
theorem ps_retN:PS X (.Return none pos) tRetN:=fun _ _ σ H _ I h=>wpAny_Return_none ⟨.non,σ,H,I,rfl,h⟩
def tIfS (c:TT)(t u:TS):TS:=fun D σ H=>c σ H fun b H1=>if b=true then t D σ H1 else u D σ H1
theorem YX {c:Expr}{a b:List Stmt}{tc:TT}(hc:PT X c tc)(ha:PSs X a t)(hb:PSs X b u):PS X (.If c a b pos) (tIfS tc t u):=by
 intro pins s σ H D I h
 refine wpAny_If (thn (hc pins s σ H _ I h) fun d s1 ⟨H1,I1,q1⟩=>?_)
 cases d with
 |true=>exact ha pins s1 σ H1 D I1 q1
 |false=>exact hb pins s1 σ H1 D I1 q1
def tNever:TS:=fun _ _ _=>False
theorem ps_never:PS X st tNever:=fun _ _ _ _ _ _ h=>h.elim
theorem pss_never {sts:List Stmt}:PSs X sts tNever:=fun _ _ _ _ _ _ h=>h.elim
end
abbrev TG:=V->St->Hp->(St->Hp->Prop)->Prop
abbrev TGs:=List V->St->Hp->(St->Hp->Prop)->Prop
def PG (X:Cx)(target:Expr)(t:TG):Prop:=
 ∀(pins:List (Addr×Obj)) (s:Shared) (σ:St) (H:Hp) (v:V) (u:Value) (Q:St->Hp->Prop),Zq X pins σ H s->Zb v u->t v σ H Q->
  wpAny (model X.prog X.w) X.A (assign target X.env u) (fun _ s'=>∃σ' H',Zq X pins σ' H' s'/\Q σ' H') X.xe s
def PGs (X:Cx)(ts:List Expr)(t:TGs):Prop:=
 ∀(pins:List (Addr×Obj)) (s:Shared) (σ:St) (H:Hp) (vs:List V) (us:List Value) (Q:St->Hp->Prop),Zq X pins σ H s->Y7 vs us->t vs σ H Q->
  wpAny (model X.prog X.w) X.A (assignInOrder ((assignEach ts X.env).map (·.2)) us) (fun _ s'=>∃σ' H',Zq X pins σ' H' s'/\Q σ' H') X.xe s
abbrev TSet:=V->V->V->Hp->(Hp->Prop)->Prop
def PSet (X:Cx)(t:TSet):Prop:=
 ∀(pins:List (Addr×Obj)) (s:Shared) (σ:St) (H:Hp) (o i v:V) (ov iv u:Value) (Q:Hp->Prop),Zq X pins σ H s->Zb o ov->Zb i iv->Zb v u->t o i v H Q->
  wpAny (model X.prog X.w) X.A (setItem ov iv u) (fun _ s'=>∃H',Zq X pins σ H' s'/\Q H') X.xe s
abbrev TIp:=V->V->Hp->VK->Prop
def PIp (X:Cx)(op:Operator)(t:TIp):Prop:=
 ∀(pins:List (Addr×Obj)) (s:Shared) (σ:St) (H:Hp) (x y:V) (v u:Value) (Q:VK),Zq X pins σ H s->Zb x v->Zb y u->t x y H Q->
  wpAny (model X.prog X.w) X.A (inplaceOp op v u) (EP X pins σ Q) X.xe s
section
variable {X:Cx}{pos:Pos}
def Wa (i:Nat):TG:=fun v σ H Q=>Q (σ.set i (some v)) H
theorem Zl {i:Nat}{x:Str}(hN:X.N.Nodup)(hi:X.N[i]?=some x)(hx:Loc X.env.scope x)(hf:X.fn x=true\/X.env.scope.names.lookup x=some .local:=by first | exact .inl rfl | exact .inr rfl | assumption):PG X (.Name x pos) (Wa i):=by
 intro pins s σ H v u Q I r h
 exact wpAny_assign_Name (Vs I hN hi hx r (fun s' I'=>⟨_,H,I',h⟩) hf)
def gNil:TGs:=fun vs σ H Q=>vs=[]/\Q σ H
def gCons (t:TG)(u:TGs):TGs:=fun vs σ H Q=>∃v r,vs=v::r/\t v σ H fun σ' H'=>u r σ' H' Q
theorem X9:PGs X [] gNil:=by
 intro pins s σ H vs us Q I r h
 obtain⟨e,h⟩:=h
 subst e
 cases r
 exact assignInOrder_nil ⟨σ,H,I,h⟩
theorem Ze {e:Expr}{es:List Expr}{t:TG}{u:TGs}(h1:PG X e t)(h2:PGs X es u)(hs:(assignEach (e::es) X.env).map (·.2)=assign e X.env::(assignEach es X.env).map (·.2):=by rfl):PGs X (e::es) (gCons t u):=by
 intro pins s σ H vs us Q I r h
 obtain⟨v,vr,e1,h⟩:=h
 subst e1
 cases r with
 |cons r rr=>
  rw[hs]
  refine assignInOrder_cons (thn (h1 pins s σ H _ _ _ I r h) fun _ s1 ⟨σ1,H1,I1,q1⟩=>?_)
  exact h2 pins s1 σ1 H1 _ _ Q I1 rr q1
def gTup (K:W.Frag)(n:Nat)(t:TGs):TG:=fun v σ H Q=>∃a xs,v=.ref a/\Y0 K H a xs/\xs.length=n/\t xs σ H Q
theorem Xt {es:List Expr}{k:Nat}{t:TGs}{n:Nat}(hc:X.calm=true)(h:PGs X es t)(hn:(assignEach es X.env).length=n:=by rfl)(hst:(assignEach es X.env).findIdx? (·.1)=none:=by rfl):PG X (.Tuple es k pos) (gTup X.K n t):=by
 intro pins s σ H v u Q I r hw
 obtain⟨a,xs,e1,hq,hl,hw⟩:=hw
 subst e1
 cases r
 obtain⟨its,rv,ht,hz⟩:=I.tuple hq
 refine assign_Tuple_tuple (I.ok.hd hc) ht (by simp[hn,<-hl,rv.length]) hst fun h' hx=>?_
 have I1:Zq X pins σ H {s with heap:=h'}:=I.kept (t':=s.toks) fun b o e=>hx b o (Zs (ZA e)) e
 exact h pins _ σ H xs _ Q I1 (by simpa using rv) hw
def gSub (to ti:TE)(t:TSet):TG:=fun v σ H Q=>to σ H fun o H1=>ti σ H1 fun i H2=>t o i v H2 fun H3=>Q σ H3
theorem pg_sub {o i:Expr}{to ti:TE}{t:TSet}(ho:PE X o to)(hi:PE X i ti)(hs:PSet X t)(ha:∀v,assign (.Subscript o i pos) X.env v=(do
  let ov <-holding [v] (eval o X.env)
  let iv <-holding [v,ov] (eval i X.env)
  standAt pos
  holding [v,ov,iv] (setItem ov iv v)
  release [v,ov,iv] []):=by intro _;rfl):PG X (.Subscript o i pos) (gSub to ti t):=by
 intro pins s σ H v u Q I r h
 rw[ha]
 refine wpAny_bind (wpAny_holding (thn (ho pins s σ H _ I h) fun ov s1 ⟨x,H1,I1,r1,q1⟩=>?_))
 refine wpAny_bind (wpAny_holding (thn (hi pins s1 σ H1 _ I1 q1) fun iv s2 ⟨y,H2,I2,r2,q2⟩=>?_))
 refine wpAny_bind (wpAny_standAt (wpAny_bind (wpAny_holding (thn (hs pins s2 σ H2 x y v ov iv u _ I2 r1 r2 r q2) fun _ s3 ⟨H3,I3,q3⟩=>?_))))
 exact wpAny_release ⟨σ,H3,I3,q3⟩
def tAsg (te:TE)(g:TG):TS:=fun D σ H=>te σ H fun x H1=>g x σ H1 D.nx
theorem Vg {tg e:Expr}{te:TE}{g:TG}(he:PE X e te)(hg:PG X tg g)(hs:swapsWithSole [tg] e pos.line X.env=pure false:=by rfl)(hw:swappedStores [tg] e X.env=pure none:=by rfl)(h1:(assignEach [tg] X.env).map (·.2)=[assign tg X.env]:=by rfl):PS X (.Assign [tg] e pos) (tAsg te g):=by
 intro pins s σ H D I h
 refine wpAny_Assign_stores (thn (he pins s σ H _ I h) fun v s1 ⟨x,H1,I1,r1,q1⟩=>?_) hs hw
 rw[h1]
 exact thn (hg pins s1 σ H1 x v _ I1 r1 q1) fun _ s2 q=>q
theorem ZH {i:Nat}{x:Str}{e:Expr}{te:TE}{pos':Pos}(hN:X.N.Nodup)(hi:X.N[i]?=some x)(hx:Loc X.env.scope x)(he:PE X e te)(hs:swapsWith e (some (.Name x pos')) pos.line X.env=pure false:=by rfl)(hf:X.fn x=true\/X.env.scope.names.lookup x=some .local:=by first | exact .inl rfl | exact .inr rfl | assumption) :
 PS X (.Assign [.Name x pos'] e pos) (tAsg te (Wa i)):=by
 intro pins s σ H D I h
 refine wpAny_Assign_Name (thn (he pins s σ H _ I h) fun v s1 ⟨y,H1,I1,r1,q1⟩=>?_) hs
 exact Vs I1 hN hi hx r1 (fun s2 I2=>⟨_,H1,I2,q1⟩) hf
def tPar (i j:Nat)(ta:TA):TS:=fun D σ H=>ta σ H fun vs H1=>∃v w,vs=[v,w]/\D.nx ((σ.set i (some v)).set j (some w)) H1
theorem ps_par {i j:Nat}{x y:Str}{a b:Expr}{ta:TA}{px py pt:Pos}{kt k2 pt2}(hc:X.calm=true)(hN:X.N.Nodup)(hi:X.N[i]?=some x)(hj:X.N[j]?=some y)(hij:i≠j)(hx:X.env.scope.names.lookup x=some .local)(hy:X.env.scope.names.lookup y=some .local)(ha:PA X [a,b] ta)(hw:swappedStores [.Tuple [.Name x px,.Name y py] kt pt] (.Tuple [a,b] k2 pt2) X.env=pure (some [x,y]))(hs:swapsWithSole [.Tuple [.Name x px,.Name y py] kt pt] (.Tuple [a,b] k2 pt2) pos.line X.env=pure false:=by rfl) :
 PS X (.Assign [.Tuple [.Name x px,.Name y py] kt pt] (.Tuple [a,b] k2 pt2) pos) (tPar i j ta):=by
 intro pins s σ H D I h
 rw[exec_Assign_arm]
 refine wpAny_bind (wpAny_standAt ?_)
 rw[hs]
 refine wpAny_bind (wpAny_pure ?_)
 rw[if_neg (by decide)]
 refine wpAny_bind (Tuple_ (thn (ha _ pins s σ H _ I h) fun us s1 ⟨vs,H1,I1,r1,q1⟩=>?_))
 obtain⟨v,w,e1,q1⟩:=q1
 subst e1
 obtain⟨u1,u2,rfl,rv,rw'⟩:∃u1 u2,us=[u1,u2]/\Zb v u1/\Zb w u2:=by
  cases r1 with
  |cons p q=>
   cases q with
   |cons p' q'=>
    cases q'
    exact⟨_,_,rfl,p,p'⟩
 refine wpAny_newObj_type ?_ (by show 2<=sizeLine;decide)
 have I2:Zq X pins σ H1 {s1 with heap:=s1.heap.push {cls:=.type "tuple",data:=.seq [u1,u2].toArray}}:=I1.kept (t':=s1.toks) fun b o e=>Z8 _ e
 rw[hw]
 refine wpAny_bind (wpAny_pure ?_)
 show wpAny (model X.prog X.w) X.A (do rule "assign.swapped-stores";let items <-unpackItems (.ref s1.heap.objs.size) 2 none;assignInOrder [fun v=>bindName X.env y v,fun v=>bindName X.env x v] items.reverse;pure Flow.next) _ _ _
 refine wpAny_bind (wpAny_rule (wpAny_bind (unpackItems_tuple (items:=#[u1,u2]) (I.ok.hd hc) (IsTup.new s1.heap _) fun h' hx'=>?_)))
 have I3:=I2.kept (h':=h') (t':=s1.toks) fun b o e=>hx' b o (Zs (ZA e)) e
 show wpAny _ _ (assignInOrder [fun v=>bindName X.env y v,fun v=>bindName X.env x v] [u2,u1] >>= fun _=>pure Flow.next) _ _ _
 refine wpAny_bind (assignInOrder_cons (wpAny_bindName (Vs I3 hN hj (.inl hy) rw' (fun s2 I4=>?_) (.inr hy))))
 refine assignInOrder_cons (wpAny_bindName (Vs I4 hN hi (.inl hx) rv (fun s3 I5=>assignInOrder_nil (wpAny_pure ?_)) (.inr hx)))
 rw[List.set_comm _ _ (Ne.symm hij)]at I5
 exact⟨_,H1,I5,q1⟩
def tAug (i:Nat)(te:TE)(ti:TIp):TS:=fun D σ H=>∃x,σ[i]?=some (some x)/\te σ H fun y H1=>ti x y H1 fun z H2=>D.nx (σ.set i (some z)) H2
theorem Ta {i:Nat}{x:Str}{e:Expr}{te:TE}{op:Operator}{ti:TIp}{pos':Pos}(hN:X.N.Nodup)(hi:X.N[i]?=some x)(hx:Loc X.env.scope x)(he:PE X e te)(ho:PIp X op ti)(hf:X.fn x=true\/X.env.scope.names.lookup x=some .local:=by first | exact .inl rfl | exact .inr rfl | assumption) :
 PS X (.AugAssign (.Name x pos') op e pos) (tAug i te ti):=by
 intro pins s σ H D I h
 obtain⟨v,e1,h⟩:=h
 obtain⟨m,hn,hl⟩:=I.loc
 have vis:Vis X.env.scope x:=by rcases hx with k | k;exact .inl k;exact .inr (.inl k)
 obtain⟨u,r,l⟩:=hl i x v hi e1 vis
 refine wpAny_AugAssign_Name ?_
 have go:wpAny (model X.prog X.w) X.A (eval e X.env) (fun w s₂=>wpAny (model X.prog X.w) X.A (inplaceOp op u w) (fun r s₃=>wpAny (model X.prog X.w) X.A (storeName X.env x r) (fun _=>SP X pins D .next) X.xe s₃) X.xe s₂) X.xe s:=by
  refine thn (he pins s σ H _ I h) fun w s1 ⟨y,H1,I1,r1,q1⟩=>?_
  refine thn (ho pins s1 σ H1 v y u w _ I1 r r1 q1) fun z s2 ⟨zv,H2,I2,r2,q2⟩=>?_
  exact Vs I2 hN hi hx r2 (fun s3 I3=>⟨_,H2,I3,q2⟩) hf
 rcases l with⟨hk,hm⟩ | ⟨hk,c,hc,hcell⟩
 ·exact wpAny_loadName_local I.ok.kind hk hn hm go
 ·rcases hk with hk | hk
  ·exact wpAny_loadName_cell I.ok.kind hk hc hcell go
  ·rcases hx with k | k
   ·have:X.env.scope.names.lookup x=some .free:=hk
    rw[k]at this;cases this
   ·have:X.env.scope.names.lookup x=some .free:=hk
    rw[k]at this;cases this
def ipI (f:Int->Int->Int):TIp:=fun x y H Q=>∃i j,x=.int i/\y=.int j/\Q (.int (f i j)) H
theorem ip_add:PIp X .Add (ipI fun i j=>i+j):=by
 intro pins s σ H x y v u Q I r1 r2 h
 obtain⟨i,j,e1,e2,q⟩:=h
 subst e1;subst e2
 obtain⟨t,rfl⟩:=r1
 obtain⟨t',rfl⟩:=r2
 exact iadd_int ⟨.int _,H,I.tok _,⟨_,rfl⟩,q⟩
theorem ip_sub:PIp X .Sub (ipI fun i j=>i - j):=by
 intro pins s σ H x y v u Q I r1 r2 h
 obtain⟨i,j,e1,e2,q⟩:=h
 subst e1;subst e2
 obtain⟨t,rfl⟩:=r1
 obtain⟨t',rfl⟩:=r2
 exact isub_int ⟨.int _,H,I.tok _,⟨_,rfl⟩,q⟩
end
section
variable {X:Cx}{pos:Pos}
def tWhile (c:TT)(tb:TS):TS:=fun D σ H=>∃W:Nat->St->Hp->Prop,(∃m,W m σ H)/\∀m σ H,W m σ H->
 c σ H fun b H1=>if b=true then ∃N:St->Hp->Prop,(∀σ' H',N σ' H'->∃m',m'<m/\W m' σ' H')/\tb {D with nx:=N,ct:=N,bk:=D.nx} σ H1 else D.nx σ H1
theorem WQ {c:Expr}{body:List Stmt}{tc:TT}{tb:TS}(hp:PassesOwn (model X.prog X.w) X.A X.env X.xe)(hc:PT X c tc)(hb:PSs X body tb):PS X (.While c body [] pos) (tWhile tc tb):=by
 intro pins s σ H D I h
 obtain⟨W,⟨m0,w0⟩,turn⟩:=h
 refine wpAny_While (codeAny_whileLoop (fun n s'=>∃σ' H',Zq X pins σ' H' s'/\W n σ' H') ?_ m0 ⟨σ,H,I,w0⟩)
 rintro n s1 ⟨σ1,H1,I1,w1⟩
 refine wpAny_passesOwn hp (thn (hc pins s1 σ1 H1 _ I1 (turn n σ1 H1 w1)) fun b s2 ⟨H2,I2,q2⟩=>?_)
 cases b with
 |true=>
  obtain⟨N,hN,q2⟩:=q2
  rw[if_pos rfl]
  refine wpAny_passesOwn hp (thn (hb pins s2 σ1 H2 _ I2 q2) fun f s3 q3=>?_)
  cases f with
  |next=>
   obtain⟨σ3,H3,I3,n3⟩:=q3
   obtain⟨m',hm,w3⟩:=hN σ3 H3 n3
   exact⟨m',hm,σ3,H3,I3,w3⟩
  |cont=>
   obtain⟨σ3,H3,I3,n3⟩:=q3
   obtain⟨m',hm,w3⟩:=hN σ3 H3 n3
   exact⟨m',hm,σ3,H3,I3,w3⟩
  |brk=>exact q3
  |ret v=>exact q3
 |false=>
  rw[if_neg Bool.false_ne_true]
  exact wpAny_execs_nil ⟨σ1,H2,I2,q2⟩
end
structure It where
 go:Nat->Hp->Prop
 yld:Nat->Hp->V->Hp->Prop
 stop:Nat->Hp->Prop
def SC (X:Cx)(pins:List (Addr×Obj))(H:Hp)(b:Addr):Prop:=
 H b=none/\b≠X.env.locals/\b∉X.fs/\(b∈X.ex\/X.s₀.heap.objs.size<=b)/\(∀x c,X.env.cells.lookup x=some c->c≠b)/\∀p∈X.pn++pins,p.1≠b
theorem Zq.fpOk {X:Cx}{pins:List (Addr×Obj)}{σ:St}{H H':Hp}{s:Shared}{b:Addr}(I:Zq X pins σ H s)(hb:s.heap.objs.size<=b)(hn:H' b=none):SC X pins H' b:=by
 refine⟨hn,Vw (Nat.lt_of_lt_of_le I.lt hb),I.nofs hb,.inr (Nat.le_trans I.sz hb),fun x c e z=>?_,fun p hp z=>?_⟩
 ·obtain⟨v,q⟩:=I.cell x c e
  exact absurd (Nat.lt_of_lt_of_le q.lt (by rw[z];exact hb)) (Xr _)
 ·exact absurd (Nat.lt_of_lt_of_le (ZA (I.pin p hp).1) (by rw[z];exact hb)) (Xr _)
structure Turn (P:Program)(w:World)(K:W.Frag)(tg:Expr)(J:It)(fp:List Addr)(it:Addr)(tn:Nat->Heap->Prop):Prop where
 mem:it∈fp
 obj:∀i h,tn i h->∀b∈fp,∃o,h.get? b=some o/\∀v,o.data≠.cell v
 keep:∀i h h',tn i h->(∀b∈fp,∀o,h.get? b=some o->h'.get? b=some o)->tn i h'
 item:∀(X:Cx),X.prog=P->X.w=w->X.K=K->X.calm=true->∀(i:Nat) (pins:List (Addr×Obj)) (s:Shared) (σ:St) (H:Hp) (E:Value->Shared->Prop),Zq X pins σ H s->(∀b∈fp,SC X pins H b)->tn i s.heap->J.go i H->
  wpAny (model P w) X.A (pyNext (.ref it)) (fun r s1=>∃u,r=some u/\
   wpAny (model P w) X.A (letOwnedTupleGo tg (.ref it) u) (fun _ s2=>∃x H',Zq X pins σ H' s2/\Zb x u/\J.yld i H x H'/\tn (i+1) s2.heap/\∀b∈fp,H' b=none) E s1) E s
 done:∀(X:Cx),X.prog=P->X.w=w->X.K=K->X.calm=true->∀(i:Nat) (pins:List (Addr×Obj)) (s:Shared) (σ:St) (H:Hp) (E:Value->Shared->Prop),Zq X pins σ H s->(∀b∈fp,SC X pins H b)->tn i s.heap->J.stop i H->
   wpAny (model P w) X.A (pyNext (.ref it)) (fun r s1=>r=none/\Zq X pins σ H s1) E s
 self:∀(A:Around) (i:Nat) (s:Shared) (Q:Value->Shared->Prop) (E:Value->Shared->Prop),tn i s.heap->Q (.ref it) s->wpAny (model P w) A (pyIter (.ref it)) Q E s
abbrev TI:=St->Hp->(It->Hp->Prop)->Prop
def PIE (X:Cx)(pins:List (Addr×Obj))(σ:St)(tg:Expr)(R:It->Hp->Prop)(itv:Value)(s2:Shared):Prop:=
 ∃(it:Addr) (fp:List Addr) (tn:Nat->Heap->Prop) (J:It) (H':Hp),itv=.ref it/\Zq X pins σ H' s2/\Turn X.prog X.w X.K tg J fp it tn/\tn 0 s2.heap/\(∀b∈fp,SC X pins H' b)/\R J H'
def PI (X:Cx)(tg iter:Expr)(wi:TI):Prop:=
 ∀(pins:List (Addr×Obj)) (s:Shared) (σ:St) (H:Hp) (R:It->Hp->Prop),Zq X pins σ H s->wi σ H R->
  wpAny (model X.prog X.w) X.A (eval iter X.env) (fun v s1=>wpAny (model X.prog X.w) X.A (pyIter v) (PIE X pins σ tg R) X.xe s1) X.xe s
theorem go_of {M:Model}{A:Around}{E:Value->Shared->Prop}{s:Shared}{tg:Expr}{it:Addr}{u:Value}{o:Obj}{n:String}{vs:Array Value}{Q:Unit->Shared->Prop}(ho:s.heap.get? it=some o)(hc:o.cls=.type n)(hd:o.data=.fields vs)(hn:["enumerate","zip","dict_itemiterator","dict_reverseitemiterator","odict_iterator","itertools.zip_longest","itertools.pairwise"].contains n=false)(hQ:Q () s):wpAny M A (letOwnedTupleGo tg (.ref it) u) Q E s:=by
 unfold letOwnedTupleGo
 cases tg<;>first
  |exact wpAny_pure hQ
  |(cases u<;>first
   |exact wpAny_pure hQ
   |(refine wpAny_bind (wpAny_load ho ?_)
     rw[hc,hd]
     show wpAny M A (if(["enumerate","zip","dict_itemiterator","dict_reverseitemiterator","odict_iterator","itertools.zip_longest","itertools.pairwise"].contains n&&vs[0]?==some (rawInt _))=true then _ else _) Q E s
     rw[if_neg (by intro h;rw[hn,Bool.false_and]at h;cases h)]
     exact wpAny_pure hQ))
def Itl (K:W.Frag)(a:Addr):It:=
 ⟨fun i H=>∃xs x,Zp K H a xs/\xs[i]?=some x,fun i H x H'=>H'=H/\∀xs,Zp K H a xs->xs[i]?=some x,fun i H=>∃xs,Zp K H a xs/\xs.length<=i⟩
def Itt (K:W.Frag)(a:Addr):It:=
 ⟨fun i H=>∃xs x,Y0 K H a xs/\xs[i]?=some x,fun i H x H'=>H'=H/\∀xs,Y0 K H a xs->xs[i]?=some x,fun i H=>∃xs,Y0 K H a xs/\xs.length<=i⟩
def Itr (lo:Int)(n:Nat):It:=⟨fun i _=>i<n,fun i H x H'=>H'=H/\x=.int (lo+i),fun i _=>n<=i⟩
theorem turn_list {P:Program}{w:World}{K:W.Frag}{tg:Expr}(a it:Addr):Turn P w K tg (Itl K a) [it] it (fun i h=>h.IsListIter it a i) where
 mem:=by simp
 obj:=fun i h st b hb=>by
  have e:b=it:=by simpa using hb
  subst e
  obtain⟨o,e,c,d⟩:=st
  exact⟨o,e,fun v z=>by rw[d]at z;cases z⟩
 keep:=fun i h h' st k=>st.at fun o e=>k it (by simp) o e
 item:=by
  intro X hP hw hK hc i pins s σ H E I hf st hg
  subst hP hw hK
  obtain⟨xs,x,hq,hx⟩:=hg
  obtain⟨its,rv,p,hz⟩:=I.list hq
  obtain⟨u,hu,ru⟩:=rv.get hx
  obtain⟨f0,f1,f2,f3,f4,f5⟩:=hf it (by simp)
  refine wpAny_pyNext_list_item st p.isList (x:=u) (by simpa using hu) fun h' st' sb=>?_
  have I1:Zq X pins σ H {s with heap:=h'}:=I.turned (t':=s.toks) (fun b o hb e=>(sb.2 b hb).trans e) f0 f1 f3 f4 f5
  obtain⟨o,e,c,d⟩:=id st'
  exact⟨u,rfl,go_of (s:={s with heap:=h'}) e c d (by decide) ⟨x,H,I1,ru,⟨rfl,fun ys hy=>by rw[I.list_inj hy hq];exact hx⟩,st',fun b hb=>(hf b hb).1⟩⟩
 done:=by
   intro X hP hw hK hc i pins s σ H E I hf st hg
   subst hP hw hK
   obtain⟨xs,hq,hx⟩:=hg
   obtain⟨its,rv,p,hz⟩:=I.list hq
   obtain⟨f0,f1,f2,f3,f4,f5⟩:=hf it (by simp)
   have hl:=rv.length
   exact wpAny_pyNext_list_end (I.ok.hd hc) st p.isList (by simp;omega) fun h' eb=>⟨rfl,I.turned (t':=s.toks) (fun b o hb e=>eb b o hb e) f0 f1 f3 f4 f5⟩
 self:=fun _ _ _ _ _ st h=>wpAny_pyIter_listiter st h
theorem turn_tuple {P:Program}{w:World}{K:W.Frag}{tg:Expr}(a it:Addr):Turn P w K tg (Itt K a) [it] it (fun i h=>h.IsTupleIter it a i) where
 mem:=by simp
 obj:=fun i h st b hb=>by
  have e:b=it:=by simpa using hb
  subst e
  obtain⟨o,e,c,d⟩:=st
  exact⟨o,e,fun v z=>by rw[d]at z;cases z⟩
 keep:=fun i h h' st k=>st.at fun o e=>k it (by simp) o e
 item:=by
  intro X hP hw hK hc i pins s σ H E I hf st hg
  subst hP hw hK
  obtain⟨xs,x,hq,hx⟩:=hg
  obtain⟨its,rv,p,hz⟩:=I.tuple hq
  obtain⟨u,hu,ru⟩:=rv.get hx
  obtain⟨f0,f1,f2,f3,f4,f5⟩:=hf it (by simp)
  refine wpAny_pyNext_tuple_item st (show s.heap.IsTuple a its.toArray from p) (x:=u) (by simpa using hu) fun h' st' sb=>?_
  have I1:Zq X pins σ H {s with heap:=h'}:=I.turned (t':=s.toks) (fun b o hb e=>(sb.2 b hb).trans e) f0 f1 f3 f4 f5
  obtain⟨o,e,c,d⟩:=id st'
  exact⟨u,rfl,go_of (s:={s with heap:=h'}) e c d (by decide) ⟨x,H,I1,ru,⟨rfl,fun ys hy=>by rw[I.tuple_inj hy hq];exact hx⟩,st',fun b hb=>(hf b hb).1⟩⟩
 done:=by
   intro X hP hw hK hc i pins s σ H E I hf st hg
   subst hP hw hK
   obtain⟨xs,hq,hx⟩:=hg
   obtain⟨its,rv,p,hz⟩:=I.tuple hq
   obtain⟨f0,f1,f2,f3,f4,f5⟩:=hf it (by simp)
   have hl:=rv.length
   exact wpAny_pyNext_tuple_end (I.ok.hd hc) st (show s.heap.IsTuple a its.toArray from p) (by simp;omega) fun h' eb=>⟨rfl,I.turned (t':=s.toks) (fun b o hb e=>eb b o hb e) f0 f1 f3 f4 f5⟩
 self:=fun _ _ _ _ _ st h=>wpAny_pyIter_tupleiter st h
theorem turn_range {P:Program}{w:World}{K:W.Frag}{tg:Expr}(it:Addr)(lo:Int)(n:Nat):Turn P w K tg (Itr lo n) [it] it (fun i h=>IsRangeIter h it (lo+(i:Nat)*1) ((n:Int) - (i:Nat)) 1) where
 mem:=by simp
 obj:=fun i h st b hb=>by
  have e:b=it:=by simpa using hb
  subst e
  exact⟨_,st,fun v z=>by
   have z':Data.fields _=Data.cell v:=z
   cases z'⟩
 keep:=fun i h h' st k=>k it (by simp) _ st
 item:=by
  intro X hP hw hK hc i pins s σ H E I hf st hg
  subst hP hw hK
  obtain⟨f0,f1,f2,f3,f4,f5⟩:=hf it (by simp)
  have W:=Walks.range (prog:=X.prog) (w:=X.w) (I.ok.hd hc) it lo 1 n
  refine W.item i s _ _ hg st fun v h' tk hv st' kk=>?_
  obtain⟨t,rfl⟩:=hv
  have I1:Zq X pins σ H {s with heap:=h',toks:=tk}:=I.turned (fun b o hb e=>kk b o (by simpa using hb) e) f0 f1 f3 f4 f5
  refine⟨_,rfl,go_of (s:={s with heap:=h',toks:=tk}) (n:="range_iterator") st' rfl rfl (by decide) ⟨.int (lo+i),H,I1,⟨t,?_⟩,⟨rfl,rfl⟩,st',fun b hb=>(hf b hb).1⟩⟩
  rw[Int.mul_one]
 done:=by
   intro X hP hw hK hc i pins s σ H E I hf st hg
   subst hP hw hK
   obtain⟨f0,f1,f2,f3,f4,f5⟩:=hf it (by simp)
   exact wpAny_pyNext_range_end (I.ok.hd hc) st (by have:n<=i:=hg;omega) fun h' eb=>⟨rfl,I.turned (t':=s.toks) (fun b o hb e=>eb b o hb e) f0 f1 f3 f4 f5⟩
 self:=fun _ _ _ _ _ st h=>wpAny_pyIter_rangeiter st h
section
variable {X:Cx}{tg:Expr}
def iList (K:W.Frag)(tl:TE):TI:=fun σ H R=>tl σ H fun x H1=>∃a,x=.ref a/\(∃xs,Zp K H1 a xs)/\R (Itl K a) H1
def iTup (K:W.Frag)(tl:TE):TI:=fun σ H R=>tl σ H fun x H1=>∃a,x=.ref a/\(∃xs,Y0 K H1 a xs)/\R (Itt K a) H1
theorem XN {l:Expr}{tl:TE}(hl:PE X l tl):PI X tg l (iList X.K tl):=by
 intro pins s σ H R I h
 refine thn (hl pins s σ H _ I h) fun v s1 ⟨x,H1,I1,r1,q1⟩=>?_
 obtain⟨a,e,⟨xs,hq⟩,q⟩:=q1
 subst e
 cases r1
 obtain⟨its,rv,p,hz⟩:=I1.list hq
 refine wpAny_pyIter_list p.isList ?_
 refine⟨s1.heap.objs.size,[s1.heap.objs.size],_,_,H1,rfl,I1.kept (t':=s1.toks) fun b o e=>Z8 _ e,turn_list a _,⟨_,Zv _ rfl,rfl,rfl⟩,fun b hb=>?_,q⟩
 have e:b=s1.heap.objs.size:=by simpa using hb
 subst e
 exact I1.fpOk (Nat.le_refl _) (I1.hok.fresh (Nat.le_refl _))
theorem X6 {l:Expr}{tl:TE}(hl:PE X l tl):PI X tg l (iTup X.K tl):=by
 intro pins s σ H R I h
 refine thn (hl pins s σ H _ I h) fun v s1 ⟨x,H1,I1,r1,q1⟩=>?_
 obtain⟨a,e,⟨xs,hq⟩,q⟩:=q1
 subst e
 cases r1
 obtain⟨its,rv,p,hz⟩:=I1.tuple hq
 refine wpAny_pyIter_tuple (show s1.heap.IsTuple a its.toArray from p) ?_
 refine⟨s1.heap.objs.size,[s1.heap.objs.size],_,_,H1,rfl,I1.kept (t':=s1.toks) fun b o e=>Z8 _ e,turn_tuple a _,⟨_,Zv _ rfl,rfl,rfl⟩,fun b hb=>?_,q⟩
 have e:b=s1.heap.objs.size:=by simpa using hb
 subst e
 exact I1.fpOk (Nat.le_refl _) (I1.hok.fresh (Nat.le_refl _))
theorem range_it {pins:List (Addr×Obj)}{σ:St}{H:Hp}{s:Shared}{R:It->Hp->Prop}{E:Value->Shared->Prop}{lo hi:Int}{t u v:Tok}{tk:Nat}(I:Zq X pins σ H s)(h1:-(2^62)<=lo)(h2:lo<2^62)(h3:-(2^62)<=hi)(h4:hi<2^62)(q:R (Itr lo (hi - lo).toNat) H):wpAny (model X.prog X.w) X.A (pyIter (.ref s.heap.objs.size)) (PIE X pins σ tg R) E {s with heap:=s.heap.push {cls:=.type "range",data:=.fields #[.int lo t,.int hi u,.int 1 v]},toks:=tk}:=by
 refine wpAny_pyIter_range (IsRange.new ..) (small_one h1 h2 h3 h4) ?_
 have I1:Zq X pins σ H {s with heap:=s.heap.push {cls:=.type "range",data:=.fields #[.int lo t,.int hi u,.int 1 v]},toks:=tk}:=I.kept fun b o e=>Z8 _ e
 refine⟨(s.heap.push {cls:=.type "range",data:=.fields #[.int lo t,.int hi u,.int 1 v]}).objs.size,[(s.heap.push {cls:=.type "range",data:=.fields #[.int lo t,.int hi u,.int 1 v]}).objs.size],_,_,H,rfl,
  I1.kept (t':=tk) fun b o e=>Z8 _ e,turn_range _ lo (hi - lo).toNat,?_,fun b hb=>?_,q⟩
 ·have e1:lo+((0:Nat):Int)*1=lo:=by simp
  have e2:(((hi - lo).toNat:Nat):Int) - ((0:Nat):Int)=Builtin.Range.rangeSize lo hi 1:=by rw[rangeSize_one];split<;>omega
  show IsRangeIter _ _ (lo+((0:Nat):Int)*1) ((((hi - lo).toNat:Nat):Int) - ((0:Nat):Int)) 1
  rw[e1,e2]
  exact Zv _ rfl
 ·have e:b=(s.heap.push {cls:=.type "range",data:=.fields #[.int lo t,.int hi u,.int 1 v]}).objs.size:=by simpa using hb
  subst e
  exact I1.fpOk (Nat.le_refl _) (I1.hok.fresh (Nat.le_refl _))
def iRng1 (ta:TA):TI:=fun σ H R=>ta σ H fun vs H1=>∃j:Int,vs=[.int j]/\-(2^62)<=j/\j<2^62/\R (Itr 0 j.toNat) H1
def iRng2 (ta:TA):TI:=fun σ H R=>ta σ H fun vs H1=>∃i j:Int,vs=[.int i,.int j]/\(-(2^62)<=i/\i<2^62/\-(2^62)<=j/\j<2^62)/\R (Itr i (j - i).toNat) H1
theorem XQ {a:Expr}{ta:TA}{p pos:Pos}(hg:Gl X "range")(hm:X.mg "range" = none)(ha:PA X [a] ta)(hs:starEach [a] X.env=[(false,eval a X.env)]:=by rfl):PI X tg (.Call (.Name "range" p) [a] [] pos) (iRng1 ta):=by
 intro pins s σ H R I h
 refine Call_ (Wm I hg hm boot_range (callWith_type1 (thn (ha pos pins s σ H _ I h) fun us s1 ⟨vs,H1,I1,r1,q1⟩=>?_) hs rfl))
 obtain⟨j,e,q1,q2,q⟩:=q1
 subst e
 cases r1 with
 |cons r rr=>
  cases rr
  obtain⟨t,rfl⟩:=r
  exact call_range_1 (range_it I1 (by omega) (by omega) q1 q2 (by simpa using q))
theorem UZ {a b:Expr}{ta:TA}{p pos:Pos}(hg:Gl X "range")(hm:X.mg "range" = none)(ha:PA X [a,b] ta)(hs:starEach [a,b] X.env=[(false,eval a X.env),(false,eval b X.env)]:=by rfl)(hs2:starEach [b] X.env=[(false,eval b X.env)]:=by rfl) :
 PI X tg (.Call (.Name "range" p) [a,b] [] pos) (iRng2 ta):=by
 intro pins s σ H R I h
 refine Call_ (Wm I hg hm boot_range (callWith_type1 (thn (ha pos pins s σ H _ I h) fun us s1 ⟨vs,H1,I1,r1,q1⟩=>?_) (by rw[hs,hs2]) (by rw[hs2];rfl)))
 obtain⟨i,j,e,⟨q1,q2,q3,q4⟩,q⟩:=q1
 subst e
 cases r1 with
 |cons r rr=>
  cases rr with
  |cons r' rr=>
   cases rr
   obtain⟨t,rfl⟩:=r
   obtain⟨t',rfl⟩:=r'
   exact call_range_2 (range_it I1 q1 q2 q3 q4 q)
def tFor (wi:TI)(g:TG)(tb:TS):TS:=fun D σ H=>wi σ H fun J H1=>∃W:Nat->Nat->St->Hp->Prop,(∃m,W 0 m σ H1)/\∀i m σ H,W i m σ H->
 (J.stop i H/\D.nx σ H)\/(J.go i H/\∃N:St->Hp->Prop,(∀σ' H',N σ' H'->∃m',m'<m/\W (i+1) m' σ' H')/\∀x H',J.yld i H x H'->g x σ H' fun σ2 H2=>tb {D with nx:=N,ct:=N,bk:=D.nx} σ2 H2)
def Uy (fp:List Addr)(h:Heap):List (Addr×Obj):=fp.filterMap fun b=>(h.get? b).map fun o=>(b,o)
theorem Yv {fp:List Addr}{h:Heap}{b:Addr}{o:Obj}(hb:b∈fp)(e:h.get? b=some o):(b,o)∈Uy fp h:=List.mem_filterMap.mpr ⟨b,hb,by rw[e];rfl⟩
theorem of_pinsAt {fp:List Addr}{h:Heap}{p:Addr×Obj}(hp:p∈Uy fp h):p.1∈fp/\h.get? p.1=some p.2:=by
 obtain⟨b,hb,e⟩:=List.mem_filterMap.mp hp
 cases q:h.get? b with
 |none=>rw[q]at e;cases e
 |some o=>
  rw[q]at e
  have e':(b,o)=p:=Option.some.inj e
  subst e'
  exact⟨hb,q⟩
theorem Zq.pinned {pins:List (Addr×Obj)}{σ:St}{H:Hp}{s:Shared}{fp:List Addr}(I:Zq X pins σ H s)(hf:∀b∈fp,SC X pins H b)(ho:∀b∈fp,∃o,s.heap.get? b=some o/\∀v,o.data≠.cell v):Zq X (pins++Uy fp s.heap) σ H s:=
 I.pins_of fun p hp=>(Zi.mp hp).elim (fun z=>I.pin p (ZO _ z)) fun z=>by
  obtain⟨hb,e⟩:=of_pinsAt z
  obtain⟨f0,f1,f2,_⟩:=hf p.1 hb
  obtain⟨o,e',d⟩:=ho p.1 hb
  rw[e]at e';cases e'
  exact⟨e,f0,f1,f2,d⟩
theorem Zq.unpinned {pins pl:List (Addr×Obj)}{σ:St}{H:Hp}{s:Shared}(I:Zq X (pins++pl) σ H s):Zq X pins σ H s:=I.pins_of fun p hp=>I.pin p (ZO _ (Y1 _ hp))
theorem XV {iter:Expr}{body:List Stmt}{wi:TI}{g:TG}{tb:TS}{pos:Pos}(hp:PassesOwn (model X.prog X.w) X.A X.env X.xe)(hc:X.calm=true)(hi:PI X tg iter wi)(hg:PG X tg g)(hb:PSs X body tb)(hs:∀x,foldedSetIterable iter X.env x=pure x:=by intro _;rfl):PS X (.For tg iter body [] pos) (tFor wi g tb):=by
 intro pins s σ H D I h
 refine wpAny_For (thn (hi pins s σ H _ I h) fun v s1 h1=>thn h1 fun itv s2 h2=>?_) hs
 obtain⟨it,fp,tn,J,H2,e,I2,T,st2,f2,W,⟨m0,w0⟩,turn⟩:=h2
 subst e
 -- what stays true of the iterator's objects through the loop
 have stat:∀{H':Hp},(∀b∈fp,H' b=none)->∀b∈fp,SC X pins H' b:=fun hn b hb=>⟨hn b hb,(f2 b hb).2⟩
 refine codeAny_forLoop_any (fun n s'=>∃i σ' H',Zq X pins σ' H' s'/\tn i s'.heap/\(∀b∈fp,H' b=none)/\W i n σ' H') ?_ m0 ⟨0,σ,H2,I2,st2,fun b hb=>(f2 b hb).1,w0⟩
 rintro n s3 ⟨i,σ3,H3,I3,st3,fr3,w3⟩
 rcases turn i n σ3 H3 w3 with⟨stop,qn⟩ | ⟨go,N,hN,step⟩
 ·refine wpAny_passesOwn hp (thn (T.done X rfl rfl rfl hc i pins s3 σ3 H3 X.xe I3 (stat fr3) st3 stop) fun r s4 ⟨hr,I4⟩=>?_)
  subst hr
  exact wpAny_execs_nil ⟨σ3,H3,I4,qn⟩
 ·refine wpAny_passesOwn hp (thn (T.item X rfl rfl rfl hc i pins s3 σ3 H3 X.xe I3 (stat fr3) st3 go) fun r s4 ⟨u,hr,h4⟩=>?_)
  subst hr
  refine wpAny_passesOwn hp (thn h4 fun _ s5 ⟨x,H5,I5,r5,y5,st5,fr5⟩=>?_)
  have I5':=I5.pinned (stat fr5) (T.obj _ _ st5)
  refine wpAny_passesOwn hp (thn (hg _ s5 σ3 H5 x u _ I5' r5 (step x H5 y5)) fun _ s6 ⟨σ6,H6,I6,q6⟩=>?_)
  refine wpAny_passesOwn hp (thn (hb _ s6 σ6 H6 _ I6 q6) fun f s7 q7=>?_)
  have again:∀{σ7:St} {H7:Hp},Zq X (pins++Uy fp s5.heap) σ7 H7 s7->N σ7 H7->∃m,m<n/\∃i σ' H',Zq X pins σ' H' s7/\tn i s7.heap/\(∀b∈fp,H' b=none)/\W i m σ' H':=fun{σ7 H7} I7 n7=>by
   obtain⟨m',hm,w7⟩:=hN σ7 H7 n7
   refine⟨m',hm,i+1,σ7,H7,I7.unpinned,T.keep _ _ _ st5 fun b hb o e=>(I7.pin (b,o) (ZO _ (ZO _ (Yv hb e)))).1,fun b hb=>?_,w7⟩
   obtain⟨o,e,d⟩:=T.obj _ _ st5 b hb
   exact(I7.pin (b,o) (ZO _ (ZO _ (Yv hb e)))).2.1
  cases f with
  |next=>obtain⟨σ7,H7,I7,n7⟩:=q7;exact again I7 n7
  |cont=>obtain⟨σ7,H7,I7,n7⟩:=q7;exact again I7 n7
  |brk=>obtain⟨σ7,H7,I7,q7⟩:=q7;exact⟨σ7,H7,I7.unpinned,q7⟩
  |ret v=>obtain⟨x7,σ7,H7,I7,r7,q7⟩:=q7;exact⟨x7,σ7,H7,I7.unpinned,r7,q7⟩
end
theorem for_list {K:W.Frag}{a:Addr}{xs:List V}{g:TG}{tb:TS}{D:Ends}{σ:St}{H:Hp}(Pv:Nat->St->Hp->Prop)(h0:Pv 0 σ H)(hl:∀i σ H,i<=xs.length->Pv i σ H->Zp K H a xs)(hs:∀i x σ H,xs[i]?=some x->Pv i σ H->g x σ H fun σ2 H2=>tb {D with nx:=Pv (i+1),ct:=Pv (i+1),bk:=D.nx} σ2 H2)(hd:∀σ H,Pv xs.length σ H->D.nx σ H) :
 ∃W:Nat->Nat->St->Hp->Prop,(∃m,W 0 m σ H)/\∀i m σ H,W i m σ H->
  ((Itl K a).stop i H/\D.nx σ H)\/((Itl K a).go i H/\∃N:St->Hp->Prop,(∀σ' H',N σ' H'->∃m',m'<m/\W (i+1) m' σ' H')/\∀x H',(Itl K a).yld i H x H'->g x σ H' fun σ2 H2=>tb {D with nx:=N,ct:=N,bk:=D.nx} σ2 H2):=by
 refine⟨fun i m σ H=>m=xs.length - i/\i<=xs.length/\Pv i σ H,⟨xs.length,by simp,Yp _,h0⟩,?_⟩
 rintro i m σ H ⟨rfl,hi,p⟩
 have q:=hl i σ H hi p
 by_cases hlt:i<xs.length
 ·refine .inr ⟨⟨xs,xs[i],q,by simp[hlt]⟩,Pv (i+1),fun σ' H' p'=>⟨xs.length - (i+1),by omega,rfl,hlt,p'⟩,fun x H' y=>?_⟩
  obtain⟨e,y⟩:=y
  subst e
  exact hs i x σ _ (y xs q) p
 ·have e:i=xs.length:=by omega
  subst e
  exact .inl ⟨⟨xs,q,Nat.le_refl _⟩,hd σ H p⟩
theorem Tx {K:W.Frag}{a:Addr}{xs:List V}{g:TG}{tb:TS}{D:Ends}{σ:St}{H:Hp}(Pv:Nat->St->Hp->Prop)(h0:Pv 0 σ H)(hl:∀i σ H,i<=xs.length->Pv i σ H->Y0 K H a xs)(hs:∀i x σ H,xs[i]?=some x->Pv i σ H->g x σ H fun σ2 H2=>tb {D with nx:=Pv (i+1),ct:=Pv (i+1),bk:=D.nx} σ2 H2)(hd:∀σ H,Pv xs.length σ H->D.nx σ H) :
 ∃W:Nat->Nat->St->Hp->Prop,(∃m,W 0 m σ H)/\∀i m σ H,W i m σ H->
  ((Itt K a).stop i H/\D.nx σ H)\/((Itt K a).go i H/\∃N:St->Hp->Prop,(∀σ' H',N σ' H'->∃m',m'<m/\W (i+1) m' σ' H')/\∀x H',(Itt K a).yld i H x H'->g x σ H' fun σ2 H2=>tb {D with nx:=N,ct:=N,bk:=D.nx} σ2 H2):=by
 refine⟨fun i m σ H=>m=xs.length - i/\i<=xs.length/\Pv i σ H,⟨xs.length,by simp,Yp _,h0⟩,?_⟩
 rintro i m σ H ⟨rfl,hi,p⟩
 have q:=hl i σ H hi p
 by_cases hlt:i<xs.length
 ·refine .inr ⟨⟨xs,xs[i],q,by simp[hlt]⟩,Pv (i+1),fun σ' H' p'=>⟨xs.length - (i+1),by omega,rfl,hlt,p'⟩,fun x H' y=>?_⟩
  obtain⟨e,y⟩:=y
  subst e
  exact hs i x σ _ (y xs q) p
 ·have e:i=xs.length:=by omega
  subst e
  exact .inl ⟨⟨xs,q,Nat.le_refl _⟩,hd σ H p⟩
theorem Xw {lo:Int}{n:Nat}{g:TG}{tb:TS}{D:Ends}{σ:St}{H:Hp}(Pv:Nat->St->Hp->Prop)(h0:Pv 0 σ H)(hs:∀i σ H,i<n->Pv i σ H->g (.int (lo+i)) σ H fun σ2 H2=>tb {D with nx:=Pv (i+1),ct:=Pv (i+1),bk:=D.nx} σ2 H2)(hd:∀σ H,Pv n σ H->D.nx σ H) :
 ∃W:Nat->Nat->St->Hp->Prop,(∃m,W 0 m σ H)/\∀i m σ H,W i m σ H->
  ((Itr lo n).stop i H/\D.nx σ H)\/((Itr lo n).go i H/\∃N:St->Hp->Prop,(∀σ' H',N σ' H'->∃m',m'<m/\W (i+1) m' σ' H')/\∀x H',(Itr lo n).yld i H x H'->g x σ H' fun σ2 H2=>tb {D with nx:=N,ct:=N,bk:=D.nx} σ2 H2):=by
 refine⟨fun i m σ H=>m=n - i/\i<=n/\Pv i σ H,⟨n,by simp,Yp _,h0⟩,?_⟩
 rintro i m σ H ⟨rfl,hi,p⟩
 by_cases hlt:i<n
 ·refine .inr ⟨hlt,Pv (i+1),fun σ' H' p'=>⟨n - (i+1),by omega,rfl,hlt,p'⟩,fun x H' y=>?_⟩
  obtain⟨e,y⟩:=y
  subst e y
  exact hs i σ _ hlt p
 ·have e:i=n:=by omega
  subst e
  exact .inl ⟨Nat.le_refl _,hd σ H p⟩
theorem WU {c:TT}{tb:TS}{D:Ends}{σ:St}{H:Hp}(Pv:St->Hp->Prop)(μ:St->Hp->Nat)(h0:Pv σ H)(hs:∀σ H,Pv σ H->c σ H fun b H1=>if b=true then tb {D with nx:=fun σ' H'=>Pv σ' H'/\μ σ' H'<μ σ H,ct:=fun σ' H'=>Pv σ' H'/\μ σ' H'<μ σ H,bk:=D.nx} σ H1 else D.nx σ H1)(mono:∀σ H Q Q',(∀b H1,Q b H1->Q' b H1)->c σ H Q->c σ H Q'):tWhile c tb D σ H:=by
 refine⟨fun m σ H=>m=μ σ H/\Pv σ H,⟨_,rfl,h0⟩,?_⟩
 rintro m σ H ⟨rfl,p⟩
 refine mono σ H _ _ (fun b H1 q=>?_) (hs σ H p)
 cases b with
 |true=>exact⟨_,fun σ' H' ⟨p',l⟩=>⟨_,l,rfl,p'⟩,q⟩
 |false=>exact q
abbrev R2:=V->V->Hp->VK->Prop
def Uo (X:Cx)(f:Value->Value->Sem Value)(r:R2):Prop:=
 ∀(pins:List (Addr×Obj)) (s:Shared) (σ:St) (H:Hp) (x y:V) (v u:Value) (Q:VK),Zq X pins σ H s->Zb x v->Zb y u->r x y H Q->
  wpAny (model X.prog X.w) X.A (f v u) (EP X pins σ Q) X.xe s
def UnR (X:Cx)(f:Value->Sem Value)(r:V->Hp->VK->Prop):Prop:=
 ∀(pins:List (Addr×Obj)) (s:Shared) (σ:St) (H:Hp) (x:V) (v:Value) (Q:VK),Zq X pins σ H s->Zb x v->r x H Q->
  wpAny (model X.prog X.w) X.A (f v) (EP X pins σ Q) X.xe s
def XC (X:Cx)(f:Value)(r:List V->Hp->VK->Prop):Prop:=
 ∀(pins:List (Addr×Obj)) (s:Shared) (σ:St) (H:Hp) (xs:List V) (us:List Value) (Q:VK),Zq X pins σ H s->Y7 xs us->r xs H Q->
  wpAny (model X.prog X.w) X.A (call f us) (EP X pins σ Q) X.xe s
def TruR (X:Cx)(r:V->Hp->(Bool->Hp->Prop)->Prop):Prop:=
 ∀(pins:List (Addr×Obj)) (s:Shared) (σ:St) (H:Hp) (x:V) (v:Value) (Q:Bool->Hp->Prop),Zq X pins σ H s->Zb x v->r x H Q->
  wpAny (model X.prog X.w) X.A (truthy v) (TP X pins σ Q) X.xe s
def tOp (r:R2)(ta tb:TE):TE:=fun σ H Q=>ta σ H fun x H1=>tb σ H1 fun y H2=>r x y H2 Q
def tUn (r:V->Hp->VK->Prop)(ta:TE):TE:=fun σ H Q=>ta σ H fun x H1=>r x H1 Q
def rI (C:Int->Int->Prop)(g:Int->Int->V):R2:=fun x y H Q=>∃i j,x=.int i/\y=.int j/\C i j/\Q (g i j) H
def rI0 (g:Int->Int->V):R2:=fun x y H Q=>∃i j,x=.int i/\y=.int j/\Q (g i j) H
def rU (g:Int->V):V->Hp->VK->Prop:=fun x H Q=>∃i,x=.int i/\Q (g i) H
section
variable {X:Cx}{a b c:Expr}{ta tb tc:TE}{pos:Pos}
theorem binT (ha:PE X a ta)(hb:PE X b tb){pins:List (Addr×Obj)}{s:Shared}{σ:St}{H:Hp}{R:V->V->Hp->Prop}(I:Zq X pins σ H s)(h:ta σ H fun x H1=>tb σ H1 fun y H2=>R x y H2){Q:Value->Shared->Prop}{f:Value->Value->Sem Value}(hf:∀v u s2 x y H2,Zq X pins σ H2 s2->Zb x v->Zb y u->R x y H2->wpAny (model X.prog X.w) X.A (f v u) Q X.xe s2) :
 wpAny (model X.prog X.w) X.A (eval a X.env) (fun v s₁=>wpAny (model X.prog X.w) X.A (eval b X.env) (fun u s₂=>wpAny (model X.prog X.w) X.A (f v u) Q X.xe s₂) X.xe s₁) X.xe s:=by
 refine thn (ha pins s σ H _ I h) fun v s1 ⟨x,H1,I1,r1,q1⟩=>?_
 refine thn (hb pins s1 σ H1 _ I1 q1) fun u s2 ⟨y,H2,I2,r2,q2⟩=>?_
 exact hf v u s2 x y H2 I2 r1 r2 q2
theorem ZG {op:Operator}{r:R2}(ho:Uo X (binaryOp op) r)(ha:PE X a ta)(hb:PE X b tb):PE X (.BinOp a op b pos) (tOp r ta tb):=by
 intro pins s σ H Q I h
 exact wpAny_BinOp (binT ha hb I h fun v u s2 x y H2 I2 rx ry q=>ho pins s2 σ H2 x y v u Q I2 rx ry q)
theorem XG {op:UnaryOp}{r:V->Hp->VK->Prop}(ho:UnR X (unaryOp op) r)(ha:PE X a ta):PE X (.UnaryOp op a pos) (tUn r ta):=by
 intro pins s σ H Q I h
 exact UnaryOp_ (thn (ha pins s σ H _ I h) fun v s1 ⟨x,H1,I1,r1,q1⟩=>ho pins s1 σ H1 x v Q I1 r1 q1)
theorem opI {f:Value->Value->Sem Value}{C:Int->Int->Prop}{g:Int->Int->Int}(rule:∀(i j:Int) (t u:Tok) (s:Shared) (Q:Value->Shared->Prop) (E:Value->Shared->Prop),C i j->Q (.int (g i j) s.toks) {s with toks:=s.toks+1}->wpAny (model X.prog X.w) X.A (f (.int i t) (.int j u)) Q E s) :
 Uo X f (rI C fun i j=>.int (g i j)):=by
 intro pins s σ H x y v u Q I rx ry h
 obtain⟨i,j,rfl,rfl,hc,q⟩:=h
 obtain⟨t,rfl⟩:=rx
 obtain⟨t',rfl⟩:=ry
 exact rule i j t t' s _ _ hc ⟨.int (g i j),H,I.tok _,⟨_,rfl⟩,q⟩
theorem opI0 {f:Value->Value->Sem Value}{g:Int->Int->Int}(rule:∀(i j:Int) (t u:Tok) (s:Shared) (Q:Value->Shared->Prop) (E:Value->Shared->Prop),Q (.int (g i j) s.toks) {s with toks:=s.toks+1}->wpAny (model X.prog X.w) X.A (f (.int i t) (.int j u)) Q E s) :
 Uo X f (rI0 fun i j=>.int (g i j)):=by
 intro pins s σ H x y v u Q I rx ry h
 obtain⟨i,j,rfl,rfl,q⟩:=h
 obtain⟨t,rfl⟩:=rx
 obtain⟨t',rfl⟩:=ry
 exact rule i j t t' s _ _ ⟨.int (g i j),H,I.tok _,⟨_,rfl⟩,q⟩
theorem opB0 {f:Value->Value->Sem Value}{g:Int->Int->Bool}(rule:∀(i j:Int) (t u:Tok) (s:Shared) (Q:Value->Shared->Prop) (E:Value->Shared->Prop),Q (.bool (g i j)) s->wpAny (model X.prog X.w) X.A (f (.int i t) (.int j u)) Q E s) :
 Uo X f (rI0 fun i j=>.bl (g i j)):=by
 intro pins s σ H x y v u Q I rx ry h
 obtain⟨i,j,rfl,rfl,q⟩:=h
 obtain⟨t,rfl⟩:=rx
 obtain⟨t',rfl⟩:=ry
 exact rule i j t t' s _ _ ⟨.bl (g i j),H,I,rfl,q⟩
def CDiv (i j:Int):Prop:=0<j/\j<1073741824
def CPow (i j:Int):Prop:=0<=j/\j<=1000000/\i.natAbs<2^64
def CMul (i j:Int):Prop:=(-(2^64)<i/\i<2^64)\/(-(2^64)<j/\j<2^64)
theorem CMul.ok {i j:Int}(h:CMul i j):IntMulOk i j:=by
 rcases h with⟨h1,h2⟩ | ⟨h1,h2⟩
 ·exact .of_left (intBits_le_64 h1 h2)
 ·exact .of_right (intBits_le_64 h1 h2)
theorem Zn:Uo X (binaryOp .Add) (rI0 fun i j=>.int (i+j)):=opI0 fun _ _ _ _ _ _ _ q=>add_int q
theorem Yb:Uo X (binaryOp .Sub) (rI0 fun i j=>.int (i - j)):=opI0 fun _ _ _ _ _ _ _ q=>sub_int q
theorem Uw:Uo X (binaryOp .Mult) (rI CMul fun i j=>.int (i*j)):=opI fun _ _ _ _ _ _ _ hc q=>mul_int q hc.ok
theorem op_fdiv:Uo X (binaryOp .FloorDiv) (rI CDiv fun i j=>.int (i / j)):=opI fun i j _ _ _ _ _ hc q=>by
 have h1:(0:Int)<j:=hc.1
 have h2:j<1073741824:=hc.2
 exact floordiv_int (by omega) (by rw[Int.fdiv_eq_ediv_of_nonneg i (by omega)];exact q) (.inl (PyProof.noPylong_small (by omega)))
theorem Uv:Uo X (binaryOp .Mod) (rI (fun _ j=>0<j) fun i j=>.int (i % j)):=opI fun i j _ _ _ _ _ hc q=>by
 have h1:(0:Int)<j:=hc
 exact mod_int' (by omega) (by rw[Int.fmod_eq_emod_of_nonneg i (by omega)];exact q)
theorem SZ:Uo X (binaryOp .Pow) (rI CPow fun i j=>.int (i^j.toNat)):=opI fun _ _ _ _ _ _ _ hc q=>pow_int_small hc.1 hc.2.1 hc.2.2 q
theorem unI {f:Value->Sem Value}{g:Int->Int}(rule:∀(i:Int) (t:Tok) (s:Shared) (Q:Value->Shared->Prop) (E:Value->Shared->Prop),Q (.int (g i) s.toks) {s with toks:=s.toks+1}->wpAny (model X.prog X.w) X.A (f (.int i t)) Q E s) :
 UnR X f (rU fun i=>.int (g i)):=by
 intro pins s σ H x v Q I rx h
 obtain⟨i,rfl,q⟩:=h
 obtain⟨t,rfl⟩:=rx
 exact rule i t s _ _ ⟨.int (g i),H,I.tok _,⟨_,rfl⟩,q⟩
theorem Yn:UnR X (unaryOp .USub) (rU fun i=>.int (-i)):=unI fun _ _ _ _ _ q=>neg_int q
end
def scal:V->V->Bool
 | .non,.non=>true | .non,.int _=>true | .int _,.non=>true | .non,.bl _=>true | .bl _,.non=>true | .non,.str _=>true | .str _,.non=>true
 | .int _,.int _=>true | .bl _,.bl _=>true | .str _,.str _=>true | .byt _,.byt _=>true
 | .int _,.str _=>true | .str _,.int _=>true | .bl _,.str _=>true | .str _,.bl _=>true
 |_,_=>false
def rEq:R2:=fun x y H Q=>scal x y=true/\Q (.bl (decide (x=y))) H
def rNe:R2:=fun x y H Q=>scal x y=true/\Q (.bl (!decide (x=y))) H
theorem dec_int {i j:Int}:decide (V.int i=V.int j)=(i==j):=by
 rw[Bool.eq_iff_iff]
 simp
theorem dec_bl {i j:Bool}:decide (V.bl i=V.bl j)=(i==j):=by
 rw[Bool.eq_iff_iff]
 simp
theorem dec_str {i j:Str}:decide (V.str i=V.str j)=(i==j):=by
 rw[Bool.eq_iff_iff]
 simp
theorem dec_byt {i j:Array UInt8}:decide (V.byt i=V.byt j)=(i.toList==j.toList):=by
 rw[Bool.eq_iff_iff]
 cases i
 cases j
 simp
section
variable {X:Cx}{a b c:Expr}{ta tb tc:TE}{pos:Pos}
theorem YS {pins:List (Addr×Obj)}{σ:St}{H:Hp}{s:Shared}{Q:VK}{k k':Bool}(I:Zq X pins σ H s)(q:Q (.bl k) H)(e:k=k'):EP X pins σ Q (.bool k') s:=by
 subst e
 exact⟨.bl k,H,I,rfl,q⟩
theorem Vd:Uo X (compareOp .Eq) rEq:=by
 intro pins s σ H x y v u Q I rx ry h
 obtain⟨hs,q⟩:=h
 cases x with
 |non=>
  cases rx
  cases y with
  |non=>cases ry;exact PySem.EqNone.eq_none_none (YS I q (by simp))
  |bl j=>cases ry;exact PySem.EqNone.eq_none_bool (YS I q (by simp))
  |int j=>obtain⟨t',rfl⟩:=ry;exact PySem.EqNone.eq_none_int (YS I q (by simp))
  |str j=>obtain⟨t',rfl⟩:=ry;exact PySem.EqNone.eq_none_str (YS I q (by simp))
  |_=>exact absurd (show false=true from hs) Bool.false_ne_true
 |bl i=>
  cases rx
  cases y with
  |non=>cases ry;exact PySem.EqNone.eq_bool_none (YS I q (by simp))
  |bl j=>cases ry;exact eq_bool (YS I q dec_bl)
  |str j=>obtain⟨t',rfl⟩:=ry;exact PySem.EqMixed.eq_bool_str (YS I q (by simp))
  |_=>exact absurd (show false=true from hs) Bool.false_ne_true
 |int i=>
  obtain⟨t,rfl⟩:=rx
  cases y with
  |non=>cases ry;exact PySem.EqNone.eq_int_none (YS I q (by simp))
  |int j=>obtain⟨t',rfl⟩:=ry;exact eq_int (YS I q dec_int)
  |str j=>obtain⟨t',rfl⟩:=ry;exact PySem.EqMixed.eq_int_str (YS I q (by simp))
  |_=>exact absurd (show false=true from hs) Bool.false_ne_true
 |str i=>
  obtain⟨t,rfl⟩:=rx
  cases y with
  |non=>cases ry;exact PySem.EqNone.eq_str_none (YS I q (by simp))
  |bl j=>cases ry;exact PySem.EqMixed.eq_str_bool (YS I q (by simp))
  |int j=>obtain⟨t',rfl⟩:=ry;exact PySem.EqMixed.eq_str_int (YS I q (by simp))
  |str j=>obtain⟨t',rfl⟩:=ry;exact eq_str (YS I q dec_str)
  |_=>exact absurd (show false=true from hs) Bool.false_ne_true
 |byt i=>
  obtain⟨t,rfl⟩:=rx
  cases y with
  |byt j=>obtain⟨t',rfl⟩:=ry;exact PySem.W.eq_bytes (YS I q dec_byt)
  |_=>exact absurd (show false=true from hs) Bool.false_ne_true
 |_=>cases y<;>exact absurd (show false=true from hs) Bool.false_ne_true
theorem op_ne:Uo X (compareOp .NotEq) rNe:=by
 intro pins s σ H x y v u Q I rx ry h
 obtain⟨hs,q⟩:=h
 cases x with
 |non=>
  cases rx
  cases y with
  |non=>cases ry;exact PySem.EqNone.ne_none_none (YS I q (by simp))
  |bl j=>cases ry;exact PySem.EqNone.ne_none_bool (YS I q (by simp))
  |int j=>obtain⟨t',rfl⟩:=ry;exact PySem.EqNone.ne_none_int (YS I q (by simp))
  |str j=>obtain⟨t',rfl⟩:=ry;exact PySem.EqNone.ne_none_str (YS I q (by simp))
  |_=>exact absurd (show false=true from hs) Bool.false_ne_true
 |bl i=>
  cases rx
  cases y with
  |non=>cases ry;exact PySem.EqNone.ne_bool_none (YS I q (by simp))
  |bl j=>cases ry;exact ne_bool (YS I q (congrArg not dec_bl))
  |str j=>obtain⟨t',rfl⟩:=ry;exact PySem.EqMixed.ne_bool_str (YS I q (by simp))
  |_=>exact absurd (show false=true from hs) Bool.false_ne_true
 |int i=>
  obtain⟨t,rfl⟩:=rx
  cases y with
  |non=>cases ry;exact PySem.EqNone.ne_int_none (YS I q (by simp))
  |int j=>obtain⟨t',rfl⟩:=ry;exact ne_int (YS I q (congrArg not dec_int))
  |str j=>obtain⟨t',rfl⟩:=ry;exact PySem.EqMixed.ne_int_str (YS I q (by simp))
  |_=>exact absurd (show false=true from hs) Bool.false_ne_true
 |str i=>
  obtain⟨t,rfl⟩:=rx
  cases y with
  |non=>cases ry;exact PySem.EqNone.ne_str_none (YS I q (by simp))
  |bl j=>cases ry;exact PySem.EqMixed.ne_str_bool (YS I q (by simp))
  |int j=>obtain⟨t',rfl⟩:=ry;exact PySem.EqMixed.ne_str_int (YS I q (by simp))
  |str j=>obtain⟨t',rfl⟩:=ry;exact ne_str (YS I q (congrArg not dec_str))
  |_=>exact absurd (show false=true from hs) Bool.false_ne_true
 |byt i=>
  obtain⟨t,rfl⟩:=rx
  cases y with
  |byt j=>obtain⟨t',rfl⟩:=ry;exact PySem.W.ne_bytes (YS I q (congrArg not dec_byt))
  |_=>exact absurd (show false=true from hs) Bool.false_ne_true
 |_=>cases y<;>exact absurd (show false=true from hs) Bool.false_ne_true
theorem Vz:Uo X (compareOp .Lt) (rI0 fun i j=>.bl (decide (i<j))):=opB0 fun _ _ _ _ _ _ _ q=>lt_int q
theorem op_le:Uo X (compareOp .LtE) (rI0 fun i j=>.bl (decide (i<=j))):=opB0 fun _ _ _ _ _ _ _ q=>le_int q
theorem op_gt:Uo X (compareOp .Gt) (rI0 fun i j=>.bl (decide (j<i))):=opB0 fun _ _ _ _ _ _ _ q=>gt_int q
theorem op_ge:Uo X (compareOp .GtE) (rI0 fun i j=>.bl (decide (j<=i))):=opB0 fun _ _ _ _ _ _ _ q=>ge_int q
theorem op_isN:Uo X (compareOp .Is) (fun x y H Q=>y=.non/\Q (.bl (decide (x=.non))) H):=by
 intro pins s σ H x y v u Q I rx ry h
 obtain⟨rfl,q⟩:=h
 cases ry
 refine is_none_gen (YS I q ?_)
 cases x<;>first
  |(cases rx;rfl)
  |(obtain⟨t,rfl⟩:=rx;rfl)
theorem Zf (b:Expr){op:CmpOp}(h:op≠.In:=by decide)(h2:op≠.NotIn:=by decide):behindInMarks op b=false:=by
 have e1:(op==CmpOp.In)=false:=by cases op<;>first | rfl | exact absurd rfl h
 have e2:(op==CmpOp.NotIn)=false:=by cases op<;>first | rfl | exact absurd rfl h2
 cases b<;>simp[behindInMarks,e1,e2]
theorem WD {op:CmpOp}{r:R2}(ho:Uo X (compareOp op) r)(ha:PE X a ta)(hb:PE X b tb)(hm:behindInMarks op b=false):PE X (.Compare a [op] [b] pos) (tOp r ta tb):=by
 intro pins s σ H Q I h
 exact wpAny_Compare1 (binT ha hb I h fun v u s2 x y H2 I2 rx ry q=>ho pins s2 σ H2 x y v u Q I2 rx ry q) hm
def tTest (t:TE):TT:=fun σ H Q=>t σ H fun x H'=>∃k,x=.bl k/\Q k H'
theorem Zr {op:CmpOp}{r:R2}(ho:Uo X (compareOp op) r)(ha:PE X a ta)(hb:PE X b tb)(hm:behindInMarks op b=false):PT X (.Compare a [op] [b] pos) (tTest (tOp r ta tb)):=by
 intro pins s σ H Q I h
 refine wpAny_isTrue_Compare1 (thn (ha pins s σ H _ I h) fun v s1 ⟨x,H1,I1,r1,q1⟩=>thn (hb pins s1 σ H1 _ I1 q1) fun u s2 ⟨y,H2,I2,r2,q2⟩=>
  thn (ho pins s2 σ H2 x y v u _ I2 r1 r2 q2) fun c s3 ⟨z,H3,I3,r3,k,e,q3⟩=>?_) hm
 subst e
 cases r3
 exact wpAny_truthy_bool ⟨H3,I3,q3⟩
def tChain (r r':R2)(ta tb tc:TE):TE:=fun σ H Q=>ta σ H fun x H1=>tb σ H1 fun y H2=>r x y H2 fun z H3=>∃k,z=.bl k/\
 (if k=true then tc σ H3 fun w' H4=>r' y w' H4 Q else Q (.bl false) H3)
theorem pe_chain {op op':CmpOp}{r r':R2}(ho:Uo X (compareOp op) r)(ho':Uo X (compareOp op') r')(ha:PE X a ta)(hb:PE X b tb)(hc:PE X c tc)(hm:lastMarks [op,op'] [b,c]=false:=by with_unfolding_all rfl):PE X (.Compare a [op,op'] [b,c] pos) (tChain r r' ta tb tc):=by
 intro pins s σ H Q I h
 refine Compare_chain (thn (ha pins s σ H _ I h) fun v s1 ⟨x,H1,I1,r1,q1⟩=>chain_link (thn (hb pins s1 σ H1 _ I1 q1) fun u s2 ⟨y,H2,I2,r2,q2⟩=>
  thn (ho pins s2 σ H2 x y v u _ I2 r1 r2 q2) fun d s3 ⟨z,H3,I3,r3,k,e,q3⟩=>?_)) hm
 subst e
 cases r3
 refine wpAny_truthy_bool ?_
 cases k with
 |false=>exact ite_ff ⟨.bl false,H3,I3,rfl,q3⟩
 |true=>exact ite_tt (chain_last (thn (hc pins s3 σ H3 _ I3 q3) fun w' s4 ⟨z',H4,I4,r4,q4⟩=>ho' pins s4 σ H4 y z' u w' Q I4 r2 r4 q4))
def TruV (K:W.Frag)(x:V)(H:Hp)(k:Bool):Prop:=
 match x with
 | .non=>k=false
 | .bl b=>k=b
 | .int i=>k=(i !=0)
 | .str y=>y.length<=sizeLine/\k=((y.length:Int) !=0)
 | .byt y=>y.size<=sizeLine/\k=((y.size:Int) !=0)
 | .ref p=>(∃xs,Zp K H p xs/\k=!xs.isEmpty)\/(∃xs,Y0 K H p xs/\k=!xs.isEmpty)\/∃kvs,H p=some (.dK kvs)/\k=!kvs.isEmpty
 |_=>False
theorem isEmpty_kv {κ:Type}{kvs:List (κ×V)}{vs:List (κ×Value)}(r:KV kvs vs):(!vs.isEmpty)=!kvs.isEmpty:=by
 cases r<;>rfl
theorem isEmpty_of {xs:List V}{its:List Value}(r:Y7 xs its):(!its.toArray.isEmpty)=!xs.isEmpty:=by
 cases r<;>simp
theorem Uu:(sizeLine:Nat)<2^63:=by rw[sizeLine_eq];decide
theorem tru_ok:TruR X (fun x H Q=>∃k,TruV X.K x H k/\Q k H):=by
 intro pins s σ H x v Q I rx h
 obtain⟨k,e,q⟩:=h
 have hl:=Uu
 have hs:sizeLine=16777216:=sizeLine_eq
 cases x with
 |non=>
  cases rx
  have e':k=false:=e
  subst e'
  exact truthy_none ⟨H,I,q⟩
 |bl b=>
  cases rx
  have e':k=b:=e
  subst e'
  exact wpAny_truthy_bool ⟨H,I,q⟩
 |int i=>
  obtain⟨t,rfl⟩:=rx
  have e':k=(i !=0):=e
  subst e'
  exact PySem.P.truthy_int ⟨H,I,q⟩
 |str y=>
  obtain⟨t,rfl⟩:=rx
  obtain⟨hy,e'⟩:y.length<=sizeLine/\k=((y.length:Int) !=0):=e
  subst e'
  exact PySem.P.truthy_str (by omega) ⟨H,I.tok _,q⟩
 |byt y=>
  obtain⟨t,rfl⟩:=rx
  obtain⟨hy,e'⟩:y.size<=sizeLine/\k=((y.size:Int) !=0):=e
  subst e'
  exact PySem.W.truthy_bytes (by omega) ⟨H,I.tok _,q⟩
 |ref p=>
  cases rx
  have e':(∃xs,Zp X.K H p xs/\k=!xs.isEmpty)\/(∃xs,Y0 X.K H p xs/\k=!xs.isEmpty)\/∃kvs,H p=some (.dK kvs)/\k=!kvs.isEmpty:=e
  rcases e' with⟨xs,hx,e'⟩ | ⟨xs,hx,e'⟩ | ⟨kvs,hx,e'⟩
  ·subst e'
   obtain⟨its,r,pl,hz⟩:=I.list hx
   have hlen:=r.length
   exact wpAny_truthy_list pl.isList (by simp only[ZF];omega) ⟨H,I.tok _,by rw[isEmpty_of r];exact q⟩
  ·subst e'
   obtain⟨its,r,pl,hz⟩:=I.tuple hx
   have hlen:=r.length
   exact truthy_tuple pl (by simp only[ZF];omega) ⟨H,I.tok _,by rw[isEmpty_of r];exact q⟩
  ·subst e'
   obtain⟨hz,hS,vs,r,m⟩:kvs.length<=sizeLine/\(p==sysModules)=false/\∃vs,KV kvs vs/\s.heap.DictOf (YH X.prog X.w) p vs:=I.hok p _ hx
   have hlen:kvs.length=vs.length:=Paired.length r
   exact wpAny_truthy_dict hS m (by omega) ⟨H,I.tok _,by rw[isEmpty_kv r];exact q⟩
 |_=>exact(show False from e).elim
theorem Zo (ha:PE X a ta)(he:∀whole,isTrue a X.env whole=(do let v <-whole;standAt a.pos;holding [v] (truthy v))) :
 PT X a (fun σ H Q=>ta σ H fun x H'=>∃k,TruV X.K x H' k/\Q k H'):=by
 intro pins s σ H Q I h
 exact isTrue_plain (thn (ha pins s σ H _ I h) fun v s1 ⟨x,H1,I1,r1,q1⟩=>tru_ok pins s1 σ H1 x v Q I1 r1 q1) (he _)
theorem Wr {x:V}{us:List Value}(r:Y7 [x] us):∃u,us=[u]/\Zb x u:=by
 cases r with
 |cons r1 r2=>cases r2;exact⟨_,rfl,r1⟩
theorem UN {x y:V}{us:List Value}(r:Y7 [x,y] us):∃u w',us=[u,w']/\Zb x u/\Zb y w':=by
 cases r with
 |cons r1 r2=>
  cases r2 with
  |cons r3 r4=>cases r4;exact⟨_,_,rfl,r1,r3⟩
theorem UR (hc:X.calm=true):XC X (.builtin "max") (fun xs H Q=>∃i j,xs=[.int i,.int j]/\Q (.int (if j>i then j else i)) H):=by
 intro pins s σ H xs us Q I r h
 obtain⟨i,j,rfl,q⟩:=h
 obtain⟨u,w',rfl,⟨t,rfl⟩,⟨t',rfl⟩⟩:=UN r
 refine max_two_ints (I.ok.hd hc) fun h' tk k=>⟨_,H,I.kept k,?_,q⟩
 by_cases hj:j>i
 ·rw[if_pos hj,if_pos hj];exact⟨_,rfl⟩
 ·rw[if_neg hj,if_neg hj];exact⟨_,rfl⟩
theorem SI (hc:X.calm=true):XC X (.builtin "min") (fun xs H Q=>∃i j,xs=[.int i,.int j]/\Q (.int (if j<i then j else i)) H):=by
 intro pins s σ H xs us Q I r h
 obtain⟨i,j,rfl,q⟩:=h
 obtain⟨u,w',rfl,⟨t,rfl⟩,⟨t',rfl⟩⟩:=UN r
 refine min_two_ints (I.ok.hd hc) fun h' tk k=>⟨_,H,I.kept k,?_,q⟩
 by_cases hj:j<i
 ·rw[if_pos hj,if_pos hj];exact⟨_,rfl⟩
 ·rw[if_neg hj,if_neg hj];exact⟨_,rfl⟩
theorem call_int1:XC X (.type "int") (fun xs H Q=>(∃i,xs=[.int i]/\Q (.int i) H)\/∃k,xs=[.bl k]/\Q (.int (if k then 1 else 0)) H):=by
 intro pins s σ H xs us Q I r h
 rcases h with⟨i,rfl,q⟩ | ⟨k,rfl,q⟩
 ·obtain⟨u,rfl,t,rfl⟩:=Wr r
  exact call_int_int ⟨.int i,H,I,⟨_,rfl⟩,q⟩
 ·obtain⟨u,rfl,r1⟩:=Wr r
  cases r1
  exact call_int_bool ⟨.int (if k then 1 else 0),H,I.tok _,⟨_,rfl⟩,q⟩
end
structure ObjM (h:Heap)(x dx C:Addr)(mA:Str->Option Value):Prop where
 obj:h.get? x=some (instObj C dx)
 ns:h.Ns1 dx mA
 ne:dx≠x
theorem lookIn_ns {h:Heap}{dx:Addr}{mA:Str->Option Value}(n:h.Ns1 dx mA):∃od,h.get? dx=some od/\∀name,lookIn name od=some (mA name):=by
 obtain⟨o,es,ep,ho,hd,hk,_,hm⟩:=n
 refine⟨o,ho,fun name=>?_⟩
 have e:=hm name
 unfold nsFind findBy at e
 rw[<-Array.find?_toList]at e
 unfold lookIn
 rw[hd]
 dsimp only
 split
 ·rename_i y q
  rw[q]at e
  exact congrArg some e
 ·rename_i q
  rw[q]at e
  have a:es.toList.any (·.refKey)=false:=by
   rw[List.any_eq_false]
   intro y hy
   obtain⟨z,t,hkey⟩:=hk y (Array.mem_toList_iff.mp hy)
   simp[DictEntry.refKey,hkey]
  have a':¬es.toList.any (·.refKey)=true:=by rw[a];exact Bool.false_ne_true
  rw[if_neg a']
  exact congrArg some e
theorem ObjM.look {h:Heap}{x dx C:Addr}{mA:Str->Option Value}(I:ObjM h x dx C mA):∃od,PySem.W.InstAt h x (instObj C dx) C (some od)/\∀name,lookIn name od=some (mA name):=
 let⟨od,ho,hl⟩:=lookIn_ns I.ns
 ⟨od,⟨I.obj,rfl,rfl,ho⟩,hl⟩
section
variable {prog:Program}{w:World}{A:Around}{E:Value->Shared->Prop}{s:Shared}{K:W.Frag}{x dx C f:Addr}{mA:Str->Option Value}{name:Str}{v:Value}
end
theorem RelO.some_of {v:V}{o:Option Value}(r:RelO (some v) o):∃u,o=some u/\Zb v u:=by
 cases o with
 |none=>exact(show False from r).elim
 |some u=>exact⟨u,rfl,r⟩
section
variable {P:Program}{w:World}{H H':Hp}{h h':Heap}{a C dx:Addr}{fs fs':List (Str×V)}
theorem ins_get (hok:VC P w H h)(e:H a=some (.ins C dx fs)):∃mA,ObjM h a dx C mA/\(∀f,RelO (fs.lookup f) (mA f))/\PySem.Within mA (fs.map (·.1))/\fs.length<=1000/\H dx=some (.own a):=by
 obtain⟨d,z,ne,ob,mA,n,r,q⟩:=(show YG P w H h a (.ins C dx fs) from hok a _ e)
 exact⟨mA,⟨ob,n,ne⟩,r,q,z,d⟩
end
structure Cls (K:W.Frag)(C:Addr):Prop where
 pg:plainGet K C Str.empty=true
 hd:PySem.W.hasDictIn K C=true
 po:PySem.W.plainOver K C=true
 sa:X7 K (.ref C) "__setattr__" = some (some (.builtin "object.__setattr__"))
theorem Cls.get {K:W.Frag}{C:Addr}(c:Cls K C)(f:Str):plainGet K C f=true:=c.pg
structure Con (K:W.Frag)(C:Addr)(f:Str)(v:V)(u:Value):Prop where
 at_:X7 K (.ref C) f=some (some u)
 rel:Zb v u
 get:specialIn K u "__get__" = some none
 cp:PySem.W.copiedNames.contains f=false
structure Meth (K:W.Frag)(C:Addr)(m:Str)(f:Addr):Prop where
 at_:X7 K (.ref C) m=some (some (.ref f))
 fn:PySem.W.isFn K (.ref f)=true
 kp:Um K (.ref f)=true
section
variable {X:Cx}{pins:List (Addr×Obj)}{σ:St}{H:Hp}{s:Shared}{a C dx:Addr}{fs:List (Str×V)}{f:Str}{v:V}{A:Around}{E:Value->Shared->Prop}
end
section
variable {X:Cx}{o e value:Expr}{f:Str}{pos pos' tpos:Pos}{ta tv:TE}
end
section
variable {X:Cx}{pins:List (Addr×Obj)}{σ:St}{H:Hp}{s:Shared}{A:Around}{E:Value->Shared->Prop}{Q:Value->Shared->Prop}{c:Value}{b:Bool}
inductive SF (K:W.Frag)(H:Hp):V->Value->Prop where
 |non:SF K H .non (.type "NoneType")
 |bl (x:Bool):SF K H (.bl x) (.type "bool")
 |int (i:Int):SF K H (.int i) (.type "int")
 |str (x:Str):SF K H (.str x) (.type "str")
 |flt (x:UInt64):SF K H (.flt x) (.type "float")
 |lst {a:Addr} {xs:List V} (e:H a=some (.lst xs)):SF K H (.ref a) (.type "list")
 |frz {a:Addr} {o:Obj} {xs:List V} (e:H a=some (.frz o (.lst xs))):SF K H (.ref a) (.type "list")
 |tup {a:Addr} {xs:List V} (e:H a=some (.tup xs)):SF K H (.ref a) (.type "tuple")
 |dK {a:Addr} {kvs:List (XL×V)} (e:H a=some (.dK kvs)):SF K H (.ref a) (.type "dict")
 |dT {a:Addr} {kvs:List (List XL×V)} (e:H a=some (.dT kvs)):SF K H (.ref a) (.type "dict")
 |ins {a C dx:Addr} {fs:List (Str×V)} (e:H a=some (.ins C dx fs)) (cl:Cls K C) (ha:X7 K (.ref C) "__class__" = some (some (.builtin "object.__class__")))
  (hn:specialIn K (.builtin "object.__class__") "__get__" = some (some (.builtin "getset_descriptor.__get__"))) (htk:PySem.W.takesIn K (.builtin "object.__class__")=some true)
  (hm:mroIn K C (.type "object")=some true):SF K H (.ref a) (.ref C)
theorem isinst_ok {x:V}{u t:Value}(I:Zq X pins σ H s)(rx:Zb x u)(ty:SF X.K H x t)(e:YK X.K t c=some b)(h:∀tk,Q (.bool b) {s with toks:=tk}) :
 wpAny (model X.prog X.w) A (call (.builtin "isinstance") [u,c]) Q E s:=by
 cases ty with
 |non=>cases(show u=Value.none from rx);exact Wu kitx_none I.kIn True.intro e (fun z=>nomatch z) h
 |bl y=>cases(show u=Value.bool y from rx);exact Wu kitx_bool I.kIn True.intro e (fun z=>nomatch z) h
 |int i=>obtain⟨t,q⟩:=(show ∃t,u=Value.int i t from rx);cases q;exact Wu kitx_int I.kIn True.intro e (fun z=>nomatch z) h
 |str y=>obtain⟨t,q⟩:=(show ∃t,u=Value.str y t from rx);cases q;exact Wu kitx_str I.kIn True.intro e (fun z=>nomatch z) h
 |flt y=>obtain⟨t,q⟩:=(show ∃t,u=Value.float y t from rx);cases q;exact Wu PySem.W.kitx_float I.kIn True.intro e (fun z=>nomatch z) h
 | @lst a xs ea=>
   cases(show u=Value.ref a from rx)
   obtain⟨_,_,n,_,h1⟩:=(show YG X.prog X.w H s.heap a (.lst xs) from I.hok a _ ea)
   exact Wu kitx_list I.kIn ⟨_,h1,rfl⟩ e (fun z=>nomatch z) h
 | @frz a ob xs ea=>
   cases(show u=Value.ref a from rx)
   obtain⟨_,_,_,n,_,h1⟩:=(show YG X.prog X.w H s.heap a (.frz ob (.lst xs)) from I.hok a _ ea)
   exact Wu kitx_list I.kIn ⟨_,h1,rfl⟩ e (fun z=>nomatch z) h
 | @tup a xs ea=>
   cases(show u=Value.ref a from rx)
   obtain⟨_,_,_,p⟩:=(show YG X.prog X.w H s.heap a (.tup xs) from I.hok a _ ea)
   obtain⟨o,h1,h2,_⟩:=p
   exact Wu kitx_tuple I.kIn ⟨o,h1,h2⟩ e (fun z=>nomatch z) h
 | @dK a kvs ea=>
   cases(show u=Value.ref a from rx)
   obtain⟨_,_,vs,_,p⟩:=(show YG X.prog X.w H s.heap a (.dK kvs) from I.hok a _ ea)
   obtain⟨o,es,ep,h1,h2,_⟩:=p
   exact Wu kitx_dict I.kIn ⟨o,h1,h2.1⟩ e (fun z=>nomatch z) h
 | @dT a kvs ea=>
   cases(show u=Value.ref a from rx)
   obtain⟨_,_,xs,_,o,es,ep,h1,h2,_⟩:=(show YG X.prog X.w H s.heap a (.dT kvs) from I.hok a _ ea)
   exact Wu kitx_dict I.kIn ⟨o,h1,h2.1⟩ e (fun z=>nomatch z) h
 | @ins a C dx fs ea cl ha hn htk hm=>
   cases(show u=Value.ref a from rx)
   obtain⟨mA,O,_⟩:=ins_get I.hok ea
   obtain⟨od,J,_⟩:=O.look
   exact Wu (PySem.W.kitx_own (cl.get _) cl.hd ha hn htk hm) I.kIn J e (fun z=>nomatch z) h
end
structure Xv (k:Nat)(A:Around):Prop where
 hd:A.handled=none
 dp:A.depth+3*k+5<recursionLimit
 un:A.units+16*k+200<cLine
theorem Xv.mono {j k:Nat}{A:Around}(r:Xv k A)(h:j<=k):Xv j A:=⟨r.hd,by have:=r.dp;omega,by have:=r.un;omega⟩
theorem Xv.deeper {k:Nat}{A:Around}(r:Xv (k+1) A)(env:Env):Xv k (A.deeper env):=
 ⟨r.hd,by have:=r.dp;show A.depth+1+3*k+5<_;omega,by have:=r.un;show A.units+3+16*k+200<_;omega⟩
theorem Xv.depth {k:Nat}{A:Around}(r:Xv k A):A.depth<recursionLimit:=by have:=r.dp;omega
theorem Xv.units {k:Nat}{A:Around}(r:Xv k A):A.units+64<cLine:=by have:=r.un;omega
theorem Xv.units0 {k:Nat}{A:Around}(r:Xv k A):A.units<cLine:=by have:=r.un;omega
def tNil:TA:=fun _ H Q=>Q [] H
def tCons (ta:TE)(tr:TA):TA:=fun σ H Q=>ta σ H fun x H1=>tr σ H1 fun xs H2=>Q (x::xs) H2
section
variable {X:Cx}{e:Expr}{es:List Expr}{te:TE}{t:TA}{pos:Pos}
theorem Z3:PA X [] tNil:=fun _ _ _ _ H Q I h=>spliced_nil ⟨[],H,I,.nil,h⟩
theorem Z0 (ha:PE X e te)(hr:PA X es t)(hs:starEach (e::es) X.env=(false,eval e X.env)::starEach es X.env:=by rfl):PA X (e::es) (tCons te t):=by
 intro pos pins s σ H Q I h
 rw[hs]
 show wpAny _ _ (spliced ((false,eval e X.env)::backTo pos (starEach es X.env))) _ _ s
 refine spliced_cons (thn (ha pins s σ H _ I h) fun u s1 ⟨x,H1,I1,r1,q1⟩=>?_)
 exact thn (hr pos pins s1 σ H1 _ I1 q1) fun us s2 ⟨xs,H2,I2,r2,q2⟩=>⟨x::xs,H2,I2,.cons r1 r2,q2⟩
def tTup (t:TA):TE:=fun σ H Q=>t σ H fun xs H1=>xs.length<=sizeLine/\∀p,H1 p=none->Q (.ref p) (upd H1 p (.tup xs))
def tLst (t:TA):TE:=fun σ H Q=>t σ H fun xs H1=>xs.length<=sizeLine/\∀p,H1 p=none->Q (.ref p) (upd H1 p (.lst xs))
theorem Yc {x1}(h:PA X es t):PE X (.Tuple es x1 pos) (tTup t):=by
 intro pins s σ H Q I hq
 refine wpAny_Tuple_spliced (thn (h pos pins s σ H _ I hq) fun us s1 ⟨xs,H1,I1,r,z,q⟩=>⟨by rw[<-r.length];exact z,?_⟩)
 have hf:H1 s1.heap.objs.size=none:=I1.hok.fresh (Nat.le_refl _)
 refine⟨.ref s1.heap.objs.size,upd H1 s1.heap.objs.size (.tup xs),I1.laid (t':=s1.toks) (fun b u e=>Z8 _ e) (Nat.le_refl _) ?_,rfl,q _ hf⟩
 exact⟨z,us,r,⟨_,Zv _ rfl,rfl,_,rfl⟩⟩
theorem Y2 (h:PA X es t):PE X (.List es pos) (tLst t):=by
 intro pins s σ H Q I hq
 refine wpAny_List_spliced (thn (h pos pins s σ H _ I hq) fun us s1 ⟨xs,H1,I1,r,z,q⟩=>⟨by rw[<-r.length];exact z,?_⟩)
 have hf:H1 s1.heap.objs.size=none:=I1.hok.fresh (Nat.le_refl _)
 refine⟨.ref s1.heap.objs.size,upd H1 s1.heap.objs.size (.lst xs),I1.laid (t':=s1.toks) (fun b u e=>Z8 _ e) (Nat.le_refl _) ?_,rfl,q _ hf⟩
 exact⟨z,us,0,r,Zv _ rfl⟩
end
abbrev Sp:=List V->Hp->VK->XK->Prop
abbrev CXT:=List Env->Hp->Shared->XK->Value->Shared->Prop
structure Env0 (P:Program)(w:World)(K:W.Frag)(mg:Str->Option Value)(base:Heap)(A:Around)(outer:List Env)(s:Shared)(H:Hp):Prop where
 frames:A.frames=some outer
 mod:Mod K mg base
 bs:∀b o,base.get? b=some o->s.heap.get? b=some o/\H b=none
 bsz:base.objs.size<=s.heap.objs.size
 funs:s.heap.FunFrames base outer
 frf:∀b∈frs outer,H b=none
 hok:VC P w H s.heap
 bare:AllBare s.gens
def CE (outer:List Env)(P:Program)(w:World)(H:Hp)(s:Shared)(Q:VK)(u:Value)(s':Shared):Prop:=
 ∃v H',s'.os=s.os/\AllBare s'.gens/\Un (frs outer) [] H H' s.heap s'.heap/\VC P w H' s'.heap/\Zb v u/\Q v H'
def CR (CX:CXT)(outer:List Env)(P:Program)(w:World)(H:Hp)(s:Shared)(Q:VK)(E:XK)(r:Result)(s':Shared):Prop:=
 match r with
 | .ok (.ret u)=>CE outer P w H s Q u s'
 | .ok _=>False
 | .error e=>CX outer H s E e s'
structure Y6 (P:Program)(w:World)(K:W.Frag)(mg:Str->Option Value)(base:Heap)(CX:CXT)(k:Nat)(f:Addr)(fd:FuncData)(ps:List Str)(sp:Sp):Prop where
 len:∀vs H Q E,sp vs H Q E->vs.length=ps.length
 run:∀(A:Around) (outer:List Env) (s:Shared) (H:Hp) (args:Args) (us:List Value) (vs:List V) (Q:VK) (E:XK),Xv k A->Env0 P w K mg base A outer s H->BindsTo s fd args (ps.zip us)->Y7 vs us->sp vs H Q E->
  codeAny (model P w) A (.call (.ref f) args) (CR CX outer P w H s Q E) s
section
variable {X:Cx}{pins:List (Addr×Obj)}{σ:St}{H:Hp}{s s':Shared}
theorem Zq.env0 (I:Zq X pins σ H s):Env0 X.prog X.w X.K X.mg X.base X.A X.stack s H:=
 ⟨I.ok.frames,I.ok.mod,I.bs,Nat.le_trans I.ok.bsz I.sz,I.stack,I.stkFree,I.hok,I.bare⟩
theorem Zq.after {Q:VK}{u:Value}(I:Zq X pins σ H s)(h:CE X.stack X.prog X.w H s Q u s'):EP X pins σ Q u s':=by
 obtain⟨v,H',os,bare,un,hok,r,q⟩:=h
 obtain⟨hh,g,d,t,os'⟩:=s'
 obtain rfl:os'=s.os:=os
 exact⟨v,H',I.call (h':=hh) (g':=g) (d':=d) (t':=t) (ch:=[]) un hok bare (fun b z=>absurd z (by simp)),r,q⟩
end
def tCall (sp:Sp)(dvs:List V)(E:XK)(t:TA):TE:=fun σ H Q=>t σ H fun vs H1=>sp (vs++dvs) H1 Q E
def UF (K:W.Frag)(fd:FuncData)(ps:List Str)(ds:List Value):Prop:=
 ∀(s:Shared) (us:List Value),K.In s.heap->(us++ds).length=ps.length->BindsTo s fd ⟨us,[]⟩ (ps.zip (us++ds))
theorem UF.all {K:W.Frag}{fd:FuncData}{ps:List Str}(h:∀us:List Value,us.length=ps.length->bindArgs fd ⟨us,[]⟩=pure (ps.zip us)):UF K fd ps []:=fun s us _ hl=>by
 rw[YV]at hl ⊢
 exact .of_eq (h us hl)
def Passes (CX:CXT)(X:Cx)(E:XK):Prop:=∀(pins:List (Addr×Obj)) (σ:St) (H:Hp) (s:Shared) (e:Value) (s':Shared),Zq X pins σ H s->CX X.stack H s E e s'->X.xe e s'
section
variable {X:Cx}{CX:CXT}{k:Nat}{f C:Addr}{fd:FuncData}{ps:List Str}{sp:Sp}{dvs:List V}{ds:List Value}{E:XK}{x m:Str}{p pos apos:Pos}{e o:Expr}{es:List Expr}{ta:TE}{t:TA}
theorem run_fn {pins:List (Addr×Obj)}{σ:St}{H:Hp}{s:Shared}{Q:VK}{us:List Value}{vs:List V}(F:Y6 X.prog X.w X.K X.mg X.base CX k f fd ps sp)(hr:Xv k X.A)(hb:UF X.K fd ps ds)(hd:Y7 dvs ds)(hx:Passes CX X E)(I:Zq X pins σ H s)(r:Y7 vs us)(h:sp (vs++dvs) H Q E):wpAny (model X.prog X.w) X.A (call (.ref f) us) (EP X pins σ Q) X.xe s:=by
 have r2:Y7 (vs++dvs) (us++ds):=r.append hd
 have hl:(us++ds).length=ps.length:=by rw[<-r2.length];exact F.len _ _ _ _ h
 refine wpAny_call (codeAny_mono (F.run X.A X.stack s H ⟨us,[]⟩ (us++ds) (vs++dvs) Q E hr I.env0 (hb s us I.kIn hl) r2 h) fun r s' hq=>?_)
 cases r with
 |error e=>exact hx pins σ H s e s' I hq
 |ok fl=>
  cases fl with
  |ret u=>exact I.after hq
  |next=>exact False.elim hq
  |brk=>exact False.elim hq
  |cont=>exact False.elim hq
theorem pe_call (F:Y6 X.prog X.w X.K X.mg X.base CX k f fd ps sp)(hr:Xv k X.A)(hg:Gl X x)(hm:X.mg x=some (.ref f))(hk:Um X.K (.ref f)=true)(hb:UF X.K fd ps ds)(hd:Y7 dvs ds)(hx:Passes CX X E)(ha:PA X (e::es) t)(hdb:(x==("__debug__" : Str))=false:=by decide)(he:starEach (e::es) X.env=(false,eval e X.env)::starEach es X.env:=by rfl)(hpl:(backTo pos (starEach es X.env)).any (·.1)=false:=by rfl) :
 PE X (.Call (.Name x p) (e::es) [] pos) (tCall sp dvs E t):=by
 intro pins s σ H Q I h
 refine wpAny_Call_Name_kw (UU I hg hm ?_ hdb)
 refine callWith_K (h₀:=X.base) I.ok.mod.kin hk (thn (ha pos pins s σ H _ I h) fun us s1 ⟨vs,H1,I1,r,q⟩=>⟨I1.kIn,?_⟩) he hpl
 exact run_fn F hr hb hd hx I1 r q
structure Mk (K:W.Frag)(C f:Addr):Prop where
 makes:PySem.W.makesIn K C=true
 init:X7 K (.ref C) "__init__" = some (some (.ref f))
 fn:PySem.W.isFn K (.ref f)=true
 kp:Um K (.ref C)=true
end
section
variable {X:Cx}{CX:CXT}{k:Nat}{f C:Addr}{fd:FuncData}{ps ks:List Str}{sp:Sp}{E:XK}{x m:Str}{p pos apos kpos:Pos}{e o:Expr}{es:List Expr}{kws:List Keyword}{te ta:TE}{t tk:TA}{nm:Option Str}
structure KBinds (K:W.Frag)(fd:FuncData)(ps ks:List Str)(g:List Value->List Value->List Value)(gV:List V->List V->List V):Prop where
 to:∀(s:Shared) (us ws:List Value),K.In s.heap->(g us ws).length=ps.length->BindsTo s fd ⟨us,ks.zip ws⟩ (ps.zip (g us ws))
 rel:∀{vs:List V} {us:List Value} {zs:List V} {ws:List Value},Y7 vs us->Y7 zs ws->Y7 (gV vs zs) (g us ws)
variable {g:List Value->List Value->List Value}{gV:List V->List V->List V}
end
structure Zw (N P:List Str)(sc:Scope):Prop where
 kind:sc.kind=.function
 co:sc.isCoroutine=false
 gen:sc.isGenerator=false
 nd:N.Nodup
 pre:N.take P.length=P
 par:∀x∈P,sc.names.lookup x=some .local\/sc.names.lookup x=some .cell
 nofree:∀y∈sc.names,y.2≠.free
theorem bindL_out {kindOf:Str->Option NameKind}{x:Str}:∀{binds:List (Str×Value)} {m:Str->Option Value},(∀v,(x,v)∉binds)->bindL kindOf binds m x=m x
 |[],_,_=>rfl
 |(n,v)::r,m,h=>by
  unfold bindL
  rw[bindL_out fun w hw=>h w (ZT _ hw)]
  split
  ·have:x≠n:=by rintro rfl;exact h v ZW
   simp[this]
  ·rfl
theorem bindC_out {kindOf:Str->Option NameKind}{x:Str}:∀{binds:List (Str×Value)} {m:Str->Option Value},(∀v,(x,v)∉binds)->bindC kindOf binds m x=m x
 |[],_,_=>rfl
 |(n,v)::r,m,h=>by
  unfold bindC
  rw[bindC_out fun w hw=>h w (ZT _ hw)]
  split
  ·rfl
  ·have:x≠n:=by rintro rfl;exact h v ZW
   simp[this]
theorem bindL_get {kindOf:Str->Option NameKind}{x:Str}{v:Value}:∀{P:List Str} {vs:List Value} {i:Nat} {m:Str->Option Value},P.Nodup->P[i]?=some x->vs[i]?=some v->kindOf x=some .local->
 bindL kindOf (P.zip vs) m x=some v
 |[],_,_,_,_,h,_,_=>by simp at h
 |_::_,[],_,_,_,_,h,_=>by simp at h
 |p::P,w::vs,0,m,nd,h1,h2,hk=>by
  simp at h1 h2;subst h1;subst h2
  show bindL kindOf ((p,w)::P.zip vs) m p=_
  unfold bindL
  rw[bindL_out fun v hv=>(W8.mp nd).1 (of_mem_zip hv).1,if_pos hk]
  simp
 |p::P,w::vs,i+1,m,nd,h1,h2,hk=>by
  show bindL kindOf ((p,w)::P.zip vs) m x=_
  unfold bindL
  exact bindL_get (i:=i) (W8.mp nd).2 (by simpa using h1) (by simpa using h2) hk
theorem bindC_get {kindOf:Str->Option NameKind}{x:Str}{v:Value}:∀{P:List Str} {vs:List Value} {i:Nat} {m:Str->Option Value},P.Nodup->P[i]?=some x->vs[i]?=some v->kindOf x≠some .local->
 bindC kindOf (P.zip vs) m x=some v
 |[],_,_,_,_,h,_,_=>by simp at h
 |_::_,[],_,_,_,_,h,_=>by simp at h
 |p::P,w::vs,0,m,nd,h1,h2,hk=>by
  simp at h1 h2;subst h1;subst h2
  show bindC kindOf ((p,w)::P.zip vs) m p=_
  unfold bindC
  rw[bindC_out fun v hv=>(W8.mp nd).1 (of_mem_zip hv).1,if_neg hk]
  simp
 |p::P,w::vs,i+1,m,nd,h1,h2,hk=>by
  show bindC kindOf ((p,w)::P.zip vs) m x=_
  unfold bindC
  exact bindC_get (i:=i) (W8.mp nd).2 (by simpa using h1) (by simpa using h2) hk
def start (N:List Str)(vs:List V):St:=vs.map some++Yi (N.length - vs.length) none
def cxOf (CX:CXT)(P:Program)(w:World)(K:W.Frag)(mg:Str->Option Value)(base:Heap)(N:List Str)(qual:Str)(scope:Scope)(f:Addr)(cd:Value)(A:Around)(outer:List Env)(s:Shared)(H:Hp)(E:XK):Cx where
 prog:=P
 w:=w
 K:=K
 mg:=mg
 base:=base
 A:=A.deeper (envOfC qual scope s.heap.objs.size f cd)
 N:=N
 s₀:=s
 H₀:=H
 env:=envOfC qual scope s.heap.objs.size f cd
 outer:=outer
 stack:=envOfC qual scope s.heap.objs.size f cd::outer
 ex:=[]
 calm:=true
 fn:=fun _=>true
 pn:=[]
 xe:=fun e s'=>wpAny (model P w) (A.deeper (envOfC qual scope s.heap.objs.size f cd)) (leaving (envOfC qual scope s.heap.objs.size f cd) e) (fun _ s''=>CX outer H s E e s'') (fun e' s''=>CX outer H s E e' s'') s'
theorem cell_has {sc:Scope}{n:Nat}{x:Str}(h:sc.names.lookup x=some .cell):∃c,(cellsFrom n sc.names []).lookup x=some c:=by
 have q:=cellsFrom_some sc.names n [] (.inl h)
 exact Option.isSome_iff_exists.mp q
theorem inv_start {CX:CXT}{P:Program}{w:World}{K:W.Frag}{mg:Str->Option Value}{base:Heap}{N ps:List Str}{qual:Str}{scope:Scope}{f:Addr}{cd:Value}{A:Around}{outer:List Env}{s s1:Shared}{H:Hp}{E:XK}{us:List Value}{vs:List V}(S:Zw N ps scope)(hd:A.handled=none)(e0:Env0 P w K mg base A outer s H)(hl:vs.length=ps.length)(r:Y7 vs us)(x:InCallC s s.heap.objs.size (bindL (envOfC qual scope s.heap.objs.size f cd).kindOf (ps.zip us) fun _=>none) (cellsFrom (s.heap.objs.size+1) scope.names []) (bindC (envOfC qual scope s.heap.objs.size f cd).kindOf (ps.zip us) fun _=>none) s1) :
 Zq (cxOf CX P w K mg base N qual scope f cd A outer s H E) [] (start N vs) H s1:=by
 have hpl:ps.length<=N.length:=by have:=congrArg List.length S.pre;rw[Za]at this;omega
 obtain⟨h1,tk,rfl,hk⟩:=x.done
 have noA:∀b:Addr,b∉(cxOf CX P w K mg base N qual scope f cd A outer s H E).ex:=fun b z=>absurd (show b∈([]:List Addr) from z) (by simp)
 refine⟨⟨e0.mod,S.kind,rfl,rfl,Nat.le_refl _,fun y z c h1 h2=>?_,fun y hy=>?_,fun y c _ h=>?_,fun _=>hd,Around.frames_deeper e0.frames,.inr ⟨rfl,rfl⟩,fun b z=>absurd z (noA b),e0.bs,e0.bsz,fun b _ _=>noA b,fun b z=>absurd z (noA b),e0.funs,e0.frf⟩,
  rfl,e0.bare,Un.kept hk,⟨_,x.toInCall.ns,fun i y v h1 h2 h3=>?_⟩,fun y c h=>⟨_,x.cell y c h⟩,e0.hok.fresh (Nat.le_refl _),fun y c h=>?_,fun p hp=>absurd (show p∈([]:List (Addr×Obj)) from hp) (by simp),e0.hok.kept hk,?_⟩
 ·exact name_of_addr x.apart (PySem.mem_of_lookup h1) (PySem.mem_of_lookup h2)
 ·have hy:scope.names.lookup y=some .cell\/scope.names.lookup y=some .free:=hy
  rcases hy with hy | hy
  ·exact cell_has hy
  ·exact absurd rfl (S.nofree _ (PySem.mem_of_lookup hy))
 ·exact Nat.le_of_lt (x.above y c (PySem.mem_of_lookup h))
 ·have hi:i<vs.length:=by
   unfold start at h2
   by_cases hi:i<vs.length
   ·exact hi
   ·rw[ZU (by simpa using hi)]at h2
    rw[List.getElem?_replicate]at h2
    split at h2<;>cases h2
  have ha:vs[i]?=some v:=by
   unfold start at h2
   rw[ZL (by simpa using hi),ZQ]at h2
   cases e:vs[i]? with
   |none=>rw[e]at h2;cases h2
   |some a=>rw[e]at h2;cases h2;rfl
  obtain⟨u,hu,rv⟩:=r.get ha
  have hp:ps[i]?=some y:=by
   rw[<-S.pre,List.getElem?_take_of_lt (by omega)];exact h1
  have ndP:ps.Nodup:=by rw[<-S.pre];exact S.nd.sublist (List.take_sublist _ _)
  refine⟨u,rv,?_⟩
  rcases S.par y (Zh hp) with k | k
  ·exact .inl ⟨k,bindL_get ndP hp hu k⟩
  ·obtain⟨c,e⟩:=cell_has (n:=s.heap.objs.size+1) k
   refine .inr ⟨.inl k,c,e,?_⟩
   have q:=x.cell y c e
   rw[bindC_get ndP hp hu (by show scope.names.lookup y≠_;rw[k];decide)]at q
   exact q
 ·exact e0.hok.fresh (Nat.le_of_lt (x.above y c (PySem.mem_of_lookup h)))
 ·unfold start
  show _=N.length
  rw[Z6,Z2,XY]
  omega
theorem fn_of {CX:CXT}{P:Program}{w:World}{K:W.Frag}{mg:Str->Option Value}{base:Heap}{k:Nat}{f:Addr}{name qual:Str}{params:Arguments}{body:List Stmt}{scope:Scope}{dV kV doc pm cdv ct oc:Value}{an od:Option Addr}{osl:Array (Option Value)}{N ps:List Str}{sp:Sp}(lk:K.lookup f=some ⟨oc,od,.func (PySem.W.fnOf name qual params body scope dV kV doc pm an cdv ct),osl⟩)(hcd:codeIn K cdv qual=true)(S:Zw N ps scope)(len:∀vs H Q E,sp vs H Q E->vs.length=ps.length)(hbody:∀(A:Around) (outer:List Env) (s:Shared) (H:Hp) (vs:List V) (Q:VK) (E:XK),Xv k (A.deeper (envOfC qual scope s.heap.objs.size f cdv))->sp vs H Q E->
  ∃t,PSs (cxOf CX P w K mg base N qual scope f cdv A outer s H E) body t/\t {nx:=fun _ H'=>Q .non H',rt:=Q} (start N vs) H) :
 Y6 P w K mg base CX (k+1) f (PySem.W.fnOf name qual params body scope dV kV doc pm an cdv ct) ps sp:=by
 refine⟨len,fun A outer s H args us vs Q E hr e0 hb r hsp=>?_⟩
 have hl:=len _ _ _ _ hsp
 have KX:K.In s.heap:=e0.mod.kin.keeps fun b o e=>(e0.bs b o e).1
 have lim:s.heap.NoLimit:=e0.mod.nolimit.keeps fun b o e=>(e0.bs b o e).1
 have hkind:∀y∈ps.zip us,scope.names.lookup y.1=some .local\/(scope.names.lookup y.1=some .cell/\((cellsFrom (s.heap.objs.size+1) scope.names []).lookup y.1).isSome=true):=fun⟨n,v⟩ hy=>by
  rcases S.par n (of_mem_zip hy).1 with q | q
  ·exact .inl q
  ·exact .inr ⟨q,cellsFrom_some _ _ _ (.inl q)⟩
 refine codeAny_call_function hr.depth (KX _ _ lk) rfl S.co S.gen rfl (PySem.W.codeRec_of KX hcd) (hb _ _ _ _ ?_)
 refine wpAny_newFunctionEnv_cells S.kind hkind fun env he s1 x=>?_
 subst he
 refine⟨lim.keeps x.toInCall.keep,codeAny_func ?_⟩
 obtain⟨t,ht,hq⟩:=hbody A outer s H vs Q E (hr.deeper _) hsp
 have I:Zq (cxOf CX P w K mg base N qual scope f cdv A outer s H E) [] (start N vs) H s1:=inv_start S hr.hd e0 hl r x
 refine wpAny_mono (ht [] s1 (start N vs) H _ I hq) (fun fl s' hs=>?_) fun e s' hs=>hs
 have fin:∀{σ':St} {H':Hp} {v:V} {u:Value},Zq (cxOf CX P w K mg base N qual scope f cdv A outer s H E) [] σ' H' s'->Zb v u->Q v H'->CE outer P w H s Q u s':=
  fun{σ' H' v u} J rv q=>⟨v,H',J.os,J.bare,J.base,J.hok,rv,q⟩
 cases fl with
 |ret u=>
  obtain⟨v,σ',H',J,rv,q⟩:=hs
  exact fin J rv q
 |next=>
  obtain⟨σ',H',J,q⟩:=hs
  exact fin (v:=V.non) (u:=Value.none) J rfl q
 |brk=>
  obtain⟨_,_,_,q⟩:=hs
  exact False.elim q
 |cont=>
  obtain⟨_,_,_,q⟩:=hs
  exact False.elim q
section
variable {X:Cx}{x:Str}{p pos:Pos}{e:Expr}{es:List Expr}{t:TA}{id T:String}{r:List V->Hp->VK->Prop}
def tCB (r:List V->Hp->VK->Prop)(t:TA):TE:=fun σ H Q=>t σ H fun vs H1=>r vs H1 Q
theorem ZJ (hc:XC X (.builtin id) r)(hg:Gl X x)(hm:X.mg x=none)(hv:bootBuiltins x=some (.builtin id))(ha:PA X (e::es) t)(hn:x≠"__name__":=by decide)(hdb:(x==("__debug__" : Str))=false:=by decide)(he:starEach (e::es) X.env=(false,eval e X.env)::starEach es X.env:=by rfl)(hpl:(backTo pos (starEach es X.env)).any (·.1)=false:=by rfl):PE X (.Call (.Name x p) (e::es) [] pos) (tCB r t):=by
 intro pins s σ H Q I h
 refine wpAny_Call_Name_kw (Wm I hg hm hv ?_ hn hdb)
 exact callWith_builtin1 (thn (ha pos pins s σ H _ I h) fun us s1 ⟨vs,H1,I1,r1,q1⟩=>hc pins s1 σ H1 vs us Q I1 r1 q1) he hpl
theorem Zy (hc:XC X (.type T) r)(hg:Gl X x)(hm:X.mg x=none)(hv:bootBuiltins x=some (.type T))(ha:PA X (e::es) t)(hn:x≠"__name__":=by decide)(hdb:(x==("__debug__" : Str))=false:=by decide)(he:starEach (e::es) X.env=(false,eval e X.env)::starEach es X.env:=by rfl)(hpl:(backTo pos (starEach es X.env)).any (·.1)=false:=by rfl):PE X (.Call (.Name x p) (e::es) [] pos) (tCB r t):=by
 intro pins s σ H Q I h
 refine wpAny_Call_Name_kw (Wm I hg hm hv ?_ hn hdb)
 exact callWith_type1 (thn (ha pos pins s σ H _ I h) fun us s1 ⟨vs,H1,I1,r1,q1⟩=>hc pins s1 σ H1 vs us Q I1 r1 q1) he hpl
end
end L2
namespace HT
open PySem PyProof.Rows
section
open PySem.SeqAt
open PySem.AutoSeq1 (wpAny_loadPart')
open PySem.MeetsSeq PySem.MeetsSeq2 PySem.MeetsSeq3
end
section
variable {prog:Program}{w:World}{A:Around}{E:Value->Shared->Prop}{s:Shared}
theorem cat_tup {t b:Addr}{vs ws:List Value}{Q:Value->Shared->Prop}(ht:IsTup s.heap t vs.toArray)(hb:IsTup s.heap b ws.toArray)(hv:vs≠[])(h1:ws=[]->Q (.ref t) s)(h2:ws≠[]->Q (.ref s.heap.objs.size) {s with heap:=s.heap.push {cls:=.type "tuple",data:=.seq (vs++ws).toArray}})(hsz:vs.length+ws.length<=sizeLine):wpAny (model prog w) A (binaryOp .Add (.ref t) (.ref b)) Q E s:=by
 obtain⟨⟨cls,dd,data,sl⟩,ho,hc,n,hd⟩:=id ht
 obtain⟨⟨cls2,dd2,data2,sl2⟩,ho2,hc2,n2,hd2⟩:=id hb
 simp only at hc hd hc2 hd2
 subst hc hd hc2 hd2
 have e:vs.toArray++ws.toArray=(vs++ws).toArray:=by simp
 by_cases hw:ws=[]
 ·exact concat_meets ⟨_,ho,rfl⟩ ⟨_,ho2,rfl⟩ noFill_tuple_add seq_tuple_add slot_tuple_add entry_tuple_add (args_tuple_add_2 _ _)
   (tuple_addW1 t b vs.toArray ws.toArray n n2 dd dd2 sl sl2 (by simpa using hv) (by simp[hw])) ⟨ho,ho2,h1 hw⟩
 ·refine concat_meets ⟨_,ho,rfl⟩ ⟨_,ho2,rfl⟩ noFill_tuple_add seq_tuple_add slot_tuple_add entry_tuple_add (args_tuple_add_2 _ _)
   (tuple_addW2 t b vs.toArray ws.toArray n n2 dd dd2 sl sl2 (by simpa using hv) (by simpa using hw) (by rw[ZF,ZF];exact hsz)) ⟨ho,ho2,?_⟩
  rw[e]
  exact h2 hw
def sIx (n d:Nat):Option Int->Nat
 |none=>d
 |some v=>if v<0 then(v+(n:Int)).toNat else min v.toNat n
theorem sIx_none (n d:Nat):sIx n d none=d:=rfl
theorem sIx_nat (n d k:Nat):sIx n d (some (k:Int))=min k n:=by
 show(if(k:Int)<0 then((k:Int)+(n:Int)).toNat else min (k:Int).toNat n)=min k n
 rw[if_neg (by omega),WA]
theorem sIx_le (n d:Nat)(hd:d<=n)(o:Option Int):sIx n d o<=n:=by
 cases o with
 |none=>exact hd
 |some v=>
  show(if v<0 then(v+(n:Int)).toNat else min v.toNat n)<=n
  by_cases hv:v<0
  ·rw[if_pos hv];omega
  ·rw[if_neg hv];exact Nat.min_le_right _ _
theorem clip_eq (v:Int)(n d:Nat):(if v<0 then max (v+(n:Int)) 0 else min v (n:Int))=((sIx n d (some v):Nat):Int):=by
 show(if v<0 then max (v+(n:Int)) 0 else min v (n:Int))=(((if v<0 then(v+(n:Int)).toNat else min v.toNat n):Nat):Int)
 by_cases hv:v<0
 ·simp only[if_pos hv];omega
 ·simp only[if_neg hv];omega
theorem adjust_gen (lo hi:Option Int)(n:Nat):Builtin.Slice.sliceAdjust lo hi 1 (n:Int)=(((sIx n 0 lo:Nat):Int),((sIx n n hi:Nat):Int)):=by
 have h1:¬((1:Int)<0):=by omega
 unfold Builtin.Slice.sliceAdjust
 simp only[h1,if_false]
 refine Prod.ext ?_ ?_
 ·cases lo with
  |none=>rfl
  |some v=>exact clip_eq v n 0
 ·cases hi with
  |none=>rfl
  |some v=>exact clip_eq v n n
theorem places_gen (i j:Nat):Builtin.Slice.slicePlaces (i:Int) (j:Int) 1=j - i:=by
 unfold Builtin.Slice.slicePlaces
 have h1:(1:Int)>0:=by omega
 simp only[h1,if_true,Int.ediv_one]
 split<;>omega
theorem slicePart_ {v:Value}{o:Option Int}{Q:Option Int->Shared->Prop}(p:IsPart v o)(h:Q o s):wpAny (model prog w) A (Builtin.Slice.slicePartIndex v) Q E s:=by
 cases p with
 |none=>exact slicePart_none h
 |int i t=>exact slicePart_int h
theorem sliceApplied_gen {sl:Addr}{vl vu:Value}{lo hi:Option Int}{n:Nat}{Q:Int×Int×Nat->Shared->Prop}(hs:s.heap.IsSliceOf sl vl vu .none)(pl:IsPart vl lo)(pu:IsPart vu hi)(h:Q (((sIx n 0 lo:Nat):Int),1,sIx n n hi - sIx n 0 lo) s):wpAny (model prog w) A (Builtin.Slice.sliceApplied (.ref sl) (pure (n:Int))) Q E s:=by
 obtain⟨os,hos,hcs,hds⟩:=id hs
 unfold Builtin.Slice.sliceApplied Builtin.Slice.sliceFields
 refine wpAny_bind (wpAny_bind (wpAny_field hos hds (x:=vl) rfl (wpAny_bind (wpAny_field hos hds (x:=vu) rfl (wpAny_bind (wpAny_field hos hds (x:=.none) rfl (wpAny_pure ?_)))))))
 refine wpAny_bind (slicePart_none ?_)
 show wpAny _ _ (if((1:Int)==0)=true then _ else _) _ _ s
 rw[if_neg (by decide)]
 refine wpAny_bind (slicePart_ pl (wpAny_bind (slicePart_ pu (wpAny_bind (wpAny_pure ?_)))))
 show wpAny _ _ (match Builtin.Slice.sliceAdjust lo hi 1 (n:Int) with | (lo,hi)=>pure (lo,(1:Int),Builtin.Slice.slicePlaces lo hi 1)) _ _ s
 rw[adjust_gen lo hi n]
 show wpAny _ _ (pure (((sIx n 0 lo:Nat):Int),(1:Int),Builtin.Slice.slicePlaces ((sIx n 0 lo:Nat):Int) ((sIx n n hi:Nat):Int) 1)) _ _ s
 rw[places_gen]
 exact wpAny_pure h
theorem pick_gen (xs:Array Value)(i k:Nat):((List.range k).filterMap fun(m:Nat)=>xs[((i:Int)+(m:Int)*1).toNat]?).toArray=((xs.toList.drop i).take k).toArray:=by
 have e:(fun(m:Nat)=>xs[((i:Int)+(m:Int)*1).toNat]?)=fun m=>xs[i+m]?:=by
  funext m
  have:((i:Int)+(m:Int)*1).toNat=i+m:=by omega
  rw[this]
 rw[e]
 have:=pick_run xs i k
 rw[List.filterMap_map]at this
 have e2:((fun x=>xs[x]?)∘fun x=>i+x)=fun m=>xs[i+m]?:=rfl
 rw[e2]at this
 rw[this]
theorem getItem_tuple_cut {t sl:Addr}{items:Array Value}{vl vu:Value}{lo hi:Option Int}{Q:Value->Shared->Prop}(ht:IsTup s.heap t items)(hs:s.heap.IsSliceOf sl vl vu .none)(pl:IsPart vl lo)(pu:IsPart vu hi)(hw:¬(sIx items.size 0 lo=0/\sIx items.size items.size hi=items.size))(h:Q (.ref s.heap.objs.size) {s with heap:=s.heap.push {cls:=.type "tuple",data:=.seq ((items.toList.drop (sIx items.size 0 lo)).take (sIx items.size items.size hi - sIx items.size 0 lo)).toArray}})(hsz:items.size<=sizeLine):wpAny (model prog w) A (getItem (.ref t) (.ref sl)) Q E s:=by
 have htake:sizeOk (.seq ((items.toList.drop (sIx items.size 0 lo)).take (sIx items.size items.size hi - sIx items.size 0 lo)).toArray):=by
  show((items.toList.drop (sIx items.size 0 lo)).take (sIx items.size items.size hi - sIx items.size 0 lo)).toArray.size<=sizeLine
  rw[ZF,Za,Yz,Wz]
  omega
 have hj:sIx items.size items.size hi<=items.size:=sIx_le _ _ (Nat.le_refl _) hi
 obtain⟨os,hos,hcs,hds⟩:=id hs
 have hTs:s.TypeIs (.ref sl) "slice":=⟨os,hos,hcs⟩
 unfold getItem
 try with_reducible refine wpAny_holding ?_
 first | refine wpAny_bind (wpAny_pure ?_) | skip
 refine wpAny_bind (wpAny_sequenceKey ht.typeIs (by decide) ?_)
 refine wpAny_bind (wpAny_callSpecial?_slot (name:=oS "__getitem__") ht.typeIs slot_tuple_getitem
  (wpAny_call_entry slot_tuple_getitem ht.typeIs entry_tuple_getitem ?_ (args_tuple_getitem _ _)))
 show wpAny _ _ (Builtin.Tuple.tupleItemsOf (.ref t) >>= _) _ _ s
 refine wpAny_bind (tupleItemsOf_ ht ?_)
 refine wpAny_bind (wpAny_typeOf hTs ?_)
 rw[if_pos (by decide)]
 refine wpAny_bind (sliceApplied_gen hs pl pu ?_)
 have hno:¬((((sIx items.size 0 lo:Nat):Int)==0&&(1:Int)==1&&(sIx items.size items.size hi - sIx items.size 0 lo)==items.size)=true):=by
  intro q
  rw[Vu,Vu]at q
  have q1:((sIx items.size 0 lo:Nat):Int)=0:=eq_of_beq q.1.1
  have q2:sIx items.size items.size hi - sIx items.size 0 lo=items.size:=eq_of_beq q.2
  exact hw ⟨by omega,by omega⟩
 show wpAny _ _ (if(((sIx items.size 0 lo:Nat):Int)==0&&(1:Int)==1&&(sIx items.size items.size hi - sIx items.size 0 lo)==items.size)=true then _ else _) _ _ s
 rw[if_neg hno,pick_gen]
 first
  |exact wpAny_bind (m:=Builtin.Tuple.tupleExact _) (wpAny_newObj_type (wpAny_pure ⟨_,rfl,wpAny_pure h⟩) htake)
  |exact wpAny_bind (m:=Builtin.Tuple.tupleExact _) (wpAny_newObj_type (wpAny_bind (wpAny_pure (wpAny_pure ⟨_,rfl,wpAny_pure h⟩))) htake)
  |exact wpAny_bind (wpAny_bind (m:=Builtin.Tuple.tupleExact _) (wpAny_newObj_type (wpAny_pure (wpAny_pure ⟨_,rfl,wpAny_pure h⟩)) htake))
  |exact wpAny_bind (wpAny_bind (m:=Builtin.Tuple.tupleExact _) (wpAny_newObj_type (wpAny_pure ⟨_,rfl,wpAny_pure h⟩) htake))
end
end HT
namespace L2
abbrev TO:=St->Hp->(Option Int->Hp->Prop)->Prop
def PO (X:Cx)(e:Option Expr)(t:TO):Prop:=
 ∀(pins:List (Addr×Obj)) (s:Shared) (σ:St) (H:Hp) (Q:Option Int->Hp->Prop),Zq X pins σ H s->t σ H Q->
  wpAny (model X.prog X.w) X.A (evalPart e X.env) (fun u s'=>∃o H',Zq X pins σ H' s'/\IsPart u o/\Q o H') X.xe s
def tNoPart:TO:=fun _ H Q=>Q none H
def tPart (t:TE):TO:=fun σ H Q=>t σ H fun x H1=>∃i,x=.int i/\Q (some i) H1
theorem intsAre_of {ns:List Int}:∀{us:List Value},Y7 (ns.map V.int) us->IntsAre us ns:=by
 induction ns with
 |nil=>intro us r;rw[map_nil]at r;cases r;exact .nil
 |cons n ns ih=>
  intro us r
  rw[Y3]at r
  cases r with
  |cons r1 r2=>
   obtain⟨t,e⟩:=r1
   subst e
   exact .cons n t (ih r2)
section
variable {X:Cx}{e:Expr}{te:TE}{lo hi:Option Expr}{tl th:TO}{pos p2:Pos}
theorem XO:PO X none tNoPart:=by
 intro pins s σ H Q I h
 rw[evalPart_none]
 exact wpAny_pure ⟨none,H,I,.none,h⟩
theorem X8 (h:PE X e te):PO X (some e) (tPart te):=by
 intro pins s σ H Q I hw
 rw[evalPart_some]
 refine thn (h pins s σ H _ I hw) fun u s1 ⟨x,H1,I1,r1,q1⟩=>?_
 obtain⟨i,rfl,q⟩:=q1
 obtain⟨t,rfl⟩:=r1
 exact⟨some i,H1,I1,.int i t,q⟩
def SlR (X:Cx)(r:V->Option Int->Option Int->Hp->VK->Prop):Prop:=
 ∀(pins:List (Addr×Obj)) (s:Shared) (σ:St) (H:Hp) (x:V) (v vl vu:Value) (lo hi:Option Int) (sl:Addr) (Q:VK),Zq X pins σ H s->Zb x v->s.heap.IsSliceOf sl vl vu .none->IsPart vl lo->IsPart vu hi->r x lo hi H Q->
  ∃T id,typeLookup (.type T) "__getitem__" = pure (some (.builtin id))/\s.TypeIs v T/\wpAny (model X.prog X.w) X.A (getItem v (.ref sl)) (EP X pins σ Q) X.xe s
def tSl (r:V->Option Int->Option Int->Hp->VK->Prop)(te:TE)(tl th:TO):TE:=fun σ H Q=>te σ H fun x H1=>tl σ H1 fun l H2=>th σ H2 fun u H3=>r x l u H3 Q
theorem Ym {r:V->Option Int->Option Int->Hp->VK->Prop}(hr:SlR X r)(he:PE X e te)(hl:PO X lo tl)(hu:PO X hi th):PE X (.Subscript e (.Slice lo hi none p2) pos) (tSl r te tl th):=by
 intro pins s σ H Q I h
 refine Subscript_ (thn (he pins s σ H _ I h) fun v s1 ⟨x,H1,I1,r1,q1⟩=>?_)
 refine wpAny_Slice (thn (hl pins s1 σ H1 _ I1 q1) fun vl s2 ⟨l,H2,I2,pl,q2⟩=>thn (hu pins s2 σ H2 _ I2 q2) fun vu s3 ⟨u,H3,I3,pu,q3⟩=>?_)
 rw[evalPart_none]
 refine wpAny_pure ?_
 have I4:Zq X pins σ H3 {s3 with heap:=s3.heap.push {cls:=.type "slice",data:=.fields #[vl,vu,.none]}}:=I3.kept (t':=s3.toks) fun b ob q=>Z8 _ q
 obtain⟨T,id,hT,ht,hg⟩:=hr pins {s3 with heap:=s3.heap.push {cls:=.type "slice",data:=.fields #[vl,vu,.none]}} σ H3 x v vl vu l u s3.heap.objs.size Q I4 r1 (Heap.IsSliceOf.new ..) pl pu q3
 show wpAny (model X.prog X.w) X.A (subscriptTail e (.Slice lo hi none p2) v (.ref s3.heap.objs.size)) (EP X pins σ Q) X.xe {s3 with heap:=s3.heap.push {cls:=.type "slice",data:=.fields #[vl,vu,.none]}}
 exact tail_any (ops:=[.ref s3.heap.objs.size,v]) ht hT hg (by with_unfolding_all rfl)
def cutV (xs:List V)(lo hi:Option Int):List V:=(xs.drop (HT.sIx xs.length 0 lo)).take (HT.sIx xs.length xs.length hi - HT.sIx xs.length 0 lo)
theorem V1 (xs:List V)(lo hi:Option Int):(cutV xs lo hi).length<=xs.length:=by
 unfold cutV
 rw[Za,Yz]
 omega
def rSlT (K:W.Frag):V->Option Int->Option Int->Hp->VK->Prop:=fun x lo hi H Q=>∃a xs,x=.ref a/\Y0 K H a xs/\
 ¬(HT.sIx xs.length 0 lo=0/\HT.sIx xs.length xs.length hi=xs.length)/\∀p,H p=none->Q (.ref p) (upd H p (.tup (cutV xs lo hi)))
theorem sl_tup:SlR X (rSlT X.K):=by
 intro pins s σ H x v vl vu lo hi sl Q I rx hs pl pu h
 obtain⟨a,xs,rfl,hx,hw,q⟩:=h
 cases rx
 obtain⟨its,r,ht,hz⟩:=I.tuple hx
 have hlen:its.toArray.size=xs.length:=by rw[ZF];exact r.length.symm
 refine⟨"tuple",_,slot_tuple_getitem.lookup,ht.typeIs,?_⟩
 refine HT.getItem_tuple_cut ht hs pl pu (by rw[hlen];exact hw) ?_ (by rw[hlen];exact hz)
 rw[hlen]
 refine⟨.ref s.heap.objs.size,_,I.laid (t':=s.toks) (o:=.tup (cutV xs lo hi)) (fun b ob q=>Z8 _ q) (Nat.le_refl _) ?_,rfl,q _ (I.hok.fresh (Nat.le_refl _))⟩
 exact⟨Nat.le_trans (V1 xs lo hi) hz,_,(r.drop (HT.sIx xs.length 0 lo)).take (HT.sIx xs.length xs.length hi - HT.sIx xs.length 0 lo),IsTup.new _ _⟩
end
def ixN (n:Nat)(i:Int):Option Nat:=if 0<=i then(if i<n then some i.toNat else none) else if -(n:Int)<=i then some (i+n).toNat else none
def atI {α:Type}(xs:List α)(i:Int):Option α:=(ixN xs.length i).bind fun j=>xs[j]?
theorem ixN_seq {n:Nat}{i:Int}{j:Nat}(h:ixN n i=some j):seqIndex? i n=some j/\j<n/\-(n:Int)<=i/\i<n:=by
 unfold ixN at h
 by_cases h0:0<=i
 ·rw[if_pos h0]at h
  by_cases h1:i<n
  ·rw[if_pos h1]at h
   have e:i.toNat=j:=Option.some.inj h
   exact⟨by rw[seqIndex_of h0 h1,e],by omega,by omega,h1⟩
  ·rw[if_neg h1]at h;cases h
 ·rw[if_neg h0]at h
  by_cases h1:-(n:Int)<=i
  ·rw[if_pos h1]at h
   have e:(i+n).toNat=j:=Option.some.inj h
   exact⟨by rw[seqIndex_neg (by omega) h1,e],by omega,h1,by omega⟩
  ·rw[if_neg h1]at h;cases h
theorem atI_get {α:Type}{xs:List α}{i:Int}{v:α}(h:atI xs i=some v):∃j,seqIndex? i xs.length=some j/\xs[j]?=some v/\j<xs.length/\-(xs.length:Int)<=i/\i<xs.length:=by
 unfold atI at h
 cases e:ixN xs.length i with
 |none=>rw[e]at h;cases h
 |some j=>
  rw[e]at h
  obtain⟨h1,h2,h3,h4⟩:=ixN_seq e
  exact⟨j,h1,h,h2,h3,h4⟩
theorem Zj {α:Type}{xs:List α}{j:Nat}{v:α}(h:xs[j]?=some v):atI xs (j:Int)=some v:=by
 have hj:j<xs.length:=(List.getElem?_eq_some_iff.mp h).1
 have e:ixN xs.length (j:Int)=some j:=by
  unfold ixN
  rw[if_pos (by omega),if_pos (by omega)];simp
 unfold atI;rw[e];exact h
theorem atI_last {α:Type}(xs:List α)(v:α):atI (xs++[v]) (-1)=some v:=by
 have hl:(xs++[v]).length=xs.length+1:=by simp
 have e:ixN (xs++[v]).length (-1)=some xs.length:=by
  unfold ixN
  rw[hl,if_neg (by decide),if_pos (by omega)]
  congr 1
  omega
 unfold atI
 rw[e]
 show(xs++[v])[xs.length]?=some v
 simp
def PlainIx (b:Expr):Prop:=∀o i,subscripted b false o i=operate [o,i] (getItem o i)
def IxR (X:Cx)(r:R2):Prop:=
 ∀(value slice:Expr) (pins:List (Addr×Obj)) (s:Shared) (σ:St) (H:Hp) (x y:V) (v u:Value) (Q:VK),Zq X pins σ H s->Zb x v->Zb y u->r x y H Q->
  subscripted slice false v u=operate [v,u] (getItem v u)->wpAny (model X.prog X.w) X.A (subscriptTail value slice v u) (EP X pins σ Q) X.xe s
def MtR (X:Cx)(id:String)(r:V->List V->Hp->VK->Prop):Prop:=
 ∀(pins:List (Addr×Obj)) (s:Shared) (σ:St) (H:Hp) (x:V) (xs:List V) (v:Value) (us:List Value) (Q:VK),Zq X pins σ H s->Zb x v->Y7 xs us->r x xs H Q->
  wpAny (model X.prog X.w) X.A (call (.builtin id) (v::us)) (EP X pins σ Q) X.xe s
section
variable {X:Cx}{a b:Expr}{ta tb:TE}{pos:Pos}
theorem Zm {r:R2}(hr:IxR X r)(ha:PE X a ta)(hb:PE X b tb)(hs:PlainIx b):PE X (.Subscript a b pos) (tOp r ta tb):=by
 intro pins s σ H Q I h
 exact Subscript_ (binT ha hb I h fun v u s2 x y H2 I2 rx ry q=>hr a b pins s2 σ H2 x y v u Q I2 rx ry q (hs _ _))
def rIxL (K:W.Frag):R2:=fun x y H Q=>∃p xs i v,x=.ref p/\y=.int i/\Zp K H p xs/\atI xs i=some v/\Q v H
def rIxT (K:W.Frag):R2:=fun x y H Q=>∃p xs i v,x=.ref p/\y=.int i/\Y0 K H p xs/\atI xs i=some v/\Q v H
theorem Zk:IxR X (rIxL X.K):=by
 intro value slice pins s σ H x y v u Q I rx ry h hs
 obtain⟨p,xs,i,z,rfl,rfl,hq,he,q⟩:=h
 cases rx
 obtain⟨t,rfl⟩:=ry
 obtain⟨its,r,pl,hz⟩:=I.list hq
 obtain⟨j,h1,h2,h3,h4,h5⟩:=atI_get he
 obtain⟨w,ew,rw'⟩:=r.get h2
 have hl:=r.length
 have hn:=Uu
 have fin:EP X pins σ Q w s:=⟨z,H,I,rw',q⟩
 by_cases h0:0<=i
 ·have hj:i.toNat=j:=by
   rw[seqIndex_of h0 h5]at h1
   exact Option.some.inj h1
  exact item_listR pl.isList h0 (by omega) (by rw[hj];simpa using ew) fin hs
 ·have hj:(i+(its.toArray.size:Int)).toNat=j:=by
   rw[seqIndex_neg (by omega) h4]at h1
   rw[ZF,<-hl]
   exact Option.some.inj h1
  exact subscriptTail_builtinR (x:=w) pl.isList.typeIs slot_list_getitem.lookup
   (wpAny_getItem_list_neg (Q:=fun r s'=>r=w/\EP X pins σ Q r s') pl.isList (by omega) (by rw[ZF]<;>omega) (by omega) (by rw[hj];simpa using ew) ⟨rfl,fin⟩) hs
theorem YT:IxR X (rIxT X.K):=by
 intro value slice pins s σ H x y v u Q I rx ry h hs
 obtain⟨p,xs,i,z,rfl,rfl,hq,he,q⟩:=h
 cases rx
 obtain⟨t,rfl⟩:=ry
 obtain⟨its,r,pl,hz⟩:=I.tuple hq
 obtain⟨j,h1,h2,h3,h4,h5⟩:=atI_get he
 obtain⟨w,ew,rw'⟩:=r.get h2
 have hl:=r.length
 have hn:=Uu
 have fin:EP X pins σ Q w s:=⟨z,H,I,rw',q⟩
 exact subscriptTail_builtinR (x:=w) pl.typeIs slot_tuple_getitem.lookup
  (getItem_tuple (j:=j) (Q:=fun r s'=>r=w/\EP X pins σ Q r s') pl (by omega) (by omega) (by rw[ZF,<-hl];exact h1) (by simpa using ew) ⟨rfl,fin⟩) hs
theorem mapSeq_set (its:List Value)(n j:Nat)(u:Value):Obj.mapSeq (·.setIfInBounds j u) {cls:=.type "list",data:=.seq its.toArray n}={cls:=.type "list",data:=.seq (its.set j u).toArray n}:=by
 simp[Obj.mapSeq]
theorem Zq.lst {pins:List (Addr×Obj)}{σ:St}{H:Hp}{s:Shared}{p:Addr}{xs:List V}(I:Zq X pins σ H s)(h:H p=some (.lst xs)) :
 ∃(its:List Value) (n:Nat),Y7 xs its/\s.heap.get? p=some {cls:=.type "list",data:=.seq its.toArray n}/\xs.length<=sizeLine:=by
 obtain⟨z,its,n,r,e⟩:=I.hok p _ h
 exact⟨its,n,r,e,z⟩
theorem Zq.lstUpd {pins:List (Addr×Obj)}{σ:St}{H:Hp}{s:Shared}{p:Addr}{xs ys:List V}{its its':List Value}{n n':Nat}{f:Obj->Obj}(I:Zq X pins σ H s)(h:H p=some (.lst xs))(ho:s.heap.get? p=some {cls:=.type "list",data:=.seq its.toArray n})(hf:f {cls:=.type "list",data:=.seq its.toArray n}={cls:=.type "list",data:=.seq its'.toArray n'})(r:Y7 ys its')(hz:ys.length<=sizeLine)(t:Nat) :
 Zq X pins σ (upd H p (.lst ys)) {s with heap:=s.heap.update p f,toks:=t}:=by
 have e:(s.heap.update p f).get? p=some {cls:=.type "list",data:=.seq its'.toArray n'}:=by
  rw[Yy f ho (by rw[hf]<;>rfl),hf]
 refine I.write (x:=p) (e:=p) (by rw[h];trivial) (.inl rfl) (fun b u hb q=>(V6 _ _ (Ne.symm hb)).trans q) ⟨_,e⟩ ?_
 exact⟨hz,its',n',r,e⟩
def rSetL:V->V->V->Hp->(Hp->Prop)->Prop:=fun o i v H Q=>∃p xs k j,o=.ref p/\i=.int k/\H p=some (.lst xs)/\ixN xs.length k=some j/\Q (upd H p (.lst (xs.set j v)))
theorem Uf:PSet X rSetL:=by
 intro pins s σ H o i v ov iv u Q I ro ri rv h
 obtain⟨p,xs,k,j,rfl,rfl,hp,hj,q⟩:=h
 cases ro
 obtain⟨t,rfl⟩:=ri
 obtain⟨its,n,r,ho,hz⟩:=I.lst hp
 obtain⟨h1,h2,h3,h4⟩:=ixN_seq hj
 have hl:=r.length
 have hn:=Uu
 have I':Zq X pins σ (upd H p (.lst (xs.set j v))) {s with heap:=s.heap.update p (Obj.mapSeq (·.setIfInBounds j u))}:=
  I.lstUpd hp ho (mapSeq_set its n j u) (r.set rv j) (by rw[List.length_set];exact hz) s.toks
 by_cases h0:0<=k
 ·have hk:k.toNat=j:=by
   rw[seqIndex_of h0 h4]at h1
   exact Option.some.inj h1
  exact PySem.W.ki_setAt ho h0 (by omega) (by rw[ZF,<-hl];exact h4) (by rw[hk];exact⟨_,I',q⟩)
 ·have hk:(k+(its.toArray.size:Int)).toNat=j:=by
   rw[seqIndex_neg (by omega) h3]at h1
   rw[ZF,<-hl]
   exact Option.some.inj h1
  exact PySem.W.ki_setBack ho (by omega) (by rw[ZF,<-hl];exact h3) (by omega) (by rw[hk];exact⟨_,I',q⟩)
theorem slice_bounds (lo hi:Option Int)(n:Nat):(sliceBounds lo hi none n).1=((HT.sIx n 0 lo:Nat):Int)/\(sliceBounds lo hi none n).2.1=((HT.sIx n n hi:Nat):Int)/\(sliceBounds lo hi none n).2.2=1:=by
 refine⟨?_,?_,rfl⟩
 ·cases lo with
  |none=>simp[sliceBounds,HT.sIx]
  |some i=>
   simp only[sliceBounds,HT.sIx,getD_none,show(1:Int)>0 by decide,if_true]
   by_cases h:i<0
   ·simp only[h,if_true]<;>omega
   ·simp only[h,if_false]<;>omega
 ·cases hi with
  |none=>simp[sliceBounds,HT.sIx]
  |some i=>
   simp only[sliceBounds,HT.sIx,getD_none,show(1:Int)>0 by decide,if_true]
   by_cases h:i<0
   ·simp only[h,if_true]<;>omega
   ·simp only[h,if_false]<;>omega
theorem slicePick_cut (its:List Value)(lo hi:Option Int):slicePick its.toArray lo hi none=((its.drop (HT.sIx its.length 0 lo)).take (HT.sIx its.length its.length hi - HT.sIx its.length 0 lo)).toArray:=by
 obtain⟨h1,h2,h3⟩:=slice_bounds lo hi its.toArray.size
 unfold slicePick
 rw[h1,h2,h3]
 simp only[sliceRange_one,pick_run,ZF]<;>rfl
def rSlL (K:W.Frag):V->Option Int->Option Int->Hp->VK->Prop:=fun x lo hi H Q=>∃a xs,x=.ref a/\Zp K H a xs/\∀p,H p=none->Q (.ref p) (upd H p (.lst (cutV xs lo hi)))
theorem Xc:SlR X (rSlL X.K):=by
 intro pins s σ H x v vl vu lo hi sl Q I rx hs pl pu h
 obtain⟨a,xs,rfl,hx,q⟩:=h
 cases rx
 obtain⟨its,r,ht,hz⟩:=I.list hx
 have hlen:=r.length
 refine⟨"list",_,slot_list_getitem.lookup,ht.isList.typeIs,?_⟩
 refine wpAny_getItem_list_slice ht.isList hs pl pu .none (by simp) ?_ (by rw[ZF]<;>omega)
 rw[slicePick_cut,<-hlen]
 refine⟨.ref s.heap.objs.size,_,I.laid (t':=s.toks) (o:=.lst (cutV xs lo hi)) (fun b ob q=>Z8 _ q) (Nat.le_refl _) ?_,rfl,q _ (I.hok.fresh (Nat.le_refl _))⟩
 exact⟨Nat.le_trans (V1 xs lo hi) hz,_,0,(r.drop (HT.sIx xs.length 0 lo)).take (HT.sIx xs.length xs.length hi - HT.sIx xs.length 0 lo),Zv _ rfl⟩
def UG:V->Bool
 | .non=>true
 | .bl _=>true
 | .int _=>true
 | .str _=>true
 |_=>false
def eqV:V->V->Bool
 | .non,.non=>true
 | .bl a,.bl b=>a==b
 | .bl a,.int b=>(if a then 1 else 0)==b
 | .int a,.bl b=>a==(if b then 1 else 0)
 | .int a,.int b=>a==b
 | .str a,.str b=>a==b
 |_,_=>false
theorem eqAt_V {A:Around}{s:Shared}{y x:V}{u v:Value}(ry:Zb y u)(rx:Zb x v)(fy:UG y=true)(fx:UG x=true):SeqAt.EqAt A s u v (eqV y x):=by
 cases y with
 |non=>
  cases ry
  cases x with
  |non=>cases rx;exact SeqAt.EqAt.same _
  |bl b=>cases rx;exact SeqAt.EqAt.none_bool b
  |int b=>obtain⟨t,rfl⟩:=rx;exact SeqAt.EqAt.none_int b t
  |str b=>obtain⟨t,rfl⟩:=rx;exact SeqAt.EqAt.none_str b t
  |_=>exact absurd (show false=true from fx) Bool.false_ne_true
 |bl a=>
  cases ry
  cases x with
  |non=>cases rx;exact SeqAt.EqAt.bool_none a
  |bl b=>cases rx;exact SeqAt.EqAt.bool_bool a b
  |int b=>obtain⟨t,rfl⟩:=rx;exact SeqAt.EqAt.bool_int a b t
  |str b=>obtain⟨t,rfl⟩:=rx;exact SeqAt.EqAt.bool_str a b t
  |_=>exact absurd (show false=true from fx) Bool.false_ne_true
 |int a=>
  obtain⟨t',rfl⟩:=ry
  cases x with
  |non=>cases rx;exact SeqAt.EqAt.int_none a t'
  |bl b=>cases rx;exact SeqAt.EqAt.int_bool a t' b
  |int b=>obtain⟨t,rfl⟩:=rx;exact SeqAt.EqAt.int_int a t' b t
  |str b=>obtain⟨t,rfl⟩:=rx;exact SeqAt.EqAt.int_str a t' b t
  |_=>exact absurd (show false=true from fx) Bool.false_ne_true
 |str a=>
  obtain⟨t',rfl⟩:=ry
  cases x with
  |non=>cases rx;exact SeqAt.EqAt.str_none a t'
  |bl b=>cases rx;exact SeqAt.EqAt.str_bool a t' b
  |int b=>obtain⟨t,rfl⟩:=rx;exact SeqAt.EqAt.str_int a t' b t
  |str b=>obtain⟨t,rfl⟩:=rx;exact SeqAt.EqAt.str_str a t' b t
  |_=>exact absurd (show false=true from fx) Bool.false_ne_true
 |_=>exact absurd (show false=true from fy) Bool.false_ne_true
def eqU (x:V)(u:Value):Bool:=match u with
 | .none=>eqV .non x
 | .bool b=>eqV (.bl b) x
 | .int i _=>eqV (.int i) x
 | .str z _=>eqV (.str z) x
 |_=>false
theorem eqU_of {x y:V}{u:Value}(r:Zb y u)(f:UG y=true):eqU x u=eqV y x:=by
 cases y with
 |non=>cases r;rfl
 |bl b=>cases r;rfl
 |int i=>obtain⟨t,rfl⟩:=r;rfl
 |str z=>obtain⟨t,rfl⟩:=r;rfl
 |_=>exact absurd (show false=true from f) Bool.false_ne_true
theorem Tq {x:V}:∀{xs:List V} {us:List Value},Y7 xs us->xs.all UG=true->us.any (eqU x)=xs.any fun y=>eqV y x
 |_,_,.nil,_=>rfl
 |y::xs,u::us,.cons r t,f=>by
  rw[all_cons,Vu]at f
  rw[any_cons,any_cons,eqU_of r f.1,Tq t f.2]
theorem Vc {A:Around}{s:Shared}{x:V}{v:Value}(rx:Zb x v)(fx:UG x=true):∀{xs:List V} {us:List Value},Y7 xs us->xs.all UG=true->∀u∈us,SeqAt.EqAt A s u v (eqU x u)
 |_,_,.nil,_=>fun u hu=>by cases hu
 |y::xs,u::us,.cons r t,f=>fun u' hu=>by
  rw[all_cons,Vu]at f
  rcases ZV.mp hu with rfl | hu
  ·rw[eqU_of r f.1];exact eqAt_V r rx f.1 fx
  ·exact Vc rx fx t f.2 u' hu
def inV (x:V)(xs:List V):Bool:=xs.any fun y=>eqV y x
def rIn (K:W.Frag)(neg:Bool):R2:=fun x y H Q=>∃p xs,y=.ref p/\(Zp K H p xs\/Y0 K H p xs)/\UG x=true/\xs.all UG=true/\Q (.bl (if neg then !inV x xs else inV x xs)) H
theorem op_in_seq:Uo X (compareOp .In) (rIn X.K false):=by
 intro pins s σ H x y v u Q I rx ry h
 obtain⟨p,xs,rfl,hq,fx,fs,q⟩:=h
 cases ry
 rcases hq with hq | hq
 ·obtain⟨its,r,pl,hz⟩:=I.list hq
  refine SeqAt.in_listAt (eqU x) pl.isList (fun w hw=>Vc rx fx r fs w (by simpa using hw)) ⟨.bl _,H,I,rfl,?_⟩
  rw[show its.toArray.any (eqU x)=its.any (eqU x) by simp,Tq r fs]
  exact q
 ·obtain⟨its,r,pl,hz⟩:=I.tuple hq
  refine SeqAt.in_tupleAt (eqU x) pl (fun w hw=>Vc rx fx r fs w (by simpa using hw)) ⟨.bl _,H,I,rfl,?_⟩
  rw[show its.toArray.any (eqU x)=its.any (eqU x) by simp,Tq r fs]
  exact q
theorem op_notIn_seq:Uo X (compareOp .NotIn) (rIn X.K true):=by
 intro pins s σ H x y v u Q I rx ry h
 obtain⟨p,xs,rfl,hq,fx,fs,q⟩:=h
 cases ry
 rcases hq with hq | hq
 ·obtain⟨its,r,pl,hz⟩:=I.list hq
  refine SeqAt.notIn_listAt (eqU x) pl.isList (fun w hw=>Vc rx fx r fs w (by simpa using hw)) ⟨.bl _,H,I,rfl,?_⟩
  rw[show its.toArray.any (eqU x)=its.any (eqU x) by simp,Tq r fs]
  exact q
 ·obtain⟨its,r,pl,hz⟩:=I.tuple hq
  refine SeqAt.notIn_tupleAt (eqU x) pl (fun w hw=>Vc rx fx r fs w (by simpa using hw)) ⟨.bl _,H,I,rfl,?_⟩
  rw[show its.toArray.any (eqU x)=its.any (eqU x) by simp,Tq r fs]
  exact q
theorem Zx:XC X (.builtin "len") (fun xs H Q=>∃p ys,xs=[.ref p]/\(Zp X.K H p ys\/Y0 X.K H p ys)/\Q (.int ys.length) H):=by
 intro pins s σ H xs us Q I r h
 obtain⟨p,ys,rfl,hq,q⟩:=h
 obtain⟨u,rfl,rx⟩:=Wr r
 cases rx
 have hn:=Uu
 rcases hq with hq | hq
 ·obtain⟨its,r',pl,hz⟩:=I.list hq
  have hlen:=r'.length
  exact Calls.call_len_list pl.isList (by simp only[ZF]<;>omega) ⟨.int ys.length,H,I.tok _,⟨s.toks+1,by rw[ZF,hlen]⟩,q⟩
 ·obtain⟨its,r',pl,hz⟩:=I.tuple hq
  have hlen:=r'.length
  exact len_tuple pl (by simp only[ZF]<;>omega) ⟨.int ys.length,H,I.tok _,⟨s.toks+1,by rw[ZF,hlen]⟩,q⟩
theorem Zz:XC X (.type "tuple") (fun xs H Q=>∃p ys,xs=[.ref p]/\((Zp X.K H p ys/\∀l,H l=none->Q (.ref l) (upd H l (.tup ys)))\/(Y0 X.K H p ys/\Q (.ref p) H))):=by
 intro pins s σ H xs us Q I r h
 obtain⟨p,ys,rfl,h⟩:=h
 obtain⟨u,rfl,rx⟩:=Wr r
 cases rx
 rcases h with⟨hq,q⟩ | ⟨hq,q⟩
 ·obtain⟨its,r',pl,hz⟩:=I.list hq
  have hlen:=r'.length
  refine call_tuple_list pl.isList (fun h' kp=>?_) (by simp only[ZF]<;>omega)
  have I1:Zq X pins σ H {s with heap:=h'}:=I.kept (t':=s.toks) kp
  have I2:Zq X pins σ (upd H h'.objs.size (.tup ys)) {s with heap:=h'.push {cls:=.type "tuple",data:=.seq its.toArray}}:=
   I1.laid (t':=s.toks) (fun b o e=>Z8 _ e) (Nat.le_refl _) (show YG X.prog X.w _ _ _ (.tup ys) from⟨hz,its,r',IsTup.new _ _⟩)
  exact⟨.ref h'.objs.size,_,I2,rfl,q _ (I1.hok.fresh (Nat.le_refl _))⟩
 ·obtain⟨its,r',pl,hz⟩:=I.tuple hq
  exact call_tuple_same pl ⟨.ref p,H,I,rfl,q⟩
def tyV (K:W.Frag)(T:String)(x:V)(H:Hp):Prop:=match x with
 | .str _=>T="str"
 | .int _=>T="int"
 | .ref p=>(T="list"/\∃xs,Zp K H p xs)\/(T="tuple"/\∃o,K.lookup p=some o/\o.cls=.type "tuple"/\o.dict=none)\/
  (T="dict"/\((∃kvs,H p=some (.dK kvs))\/∃kvs,H p=some (.dT kvs)))\/(T="set"/\∃S n,H p=some (.set S n))
 |_=>False
theorem tyV_is {pins:List (Addr×Obj)}{σ:St}{H:Hp}{s:Shared}{T:String}{x:V}{v:Value}(I:Zq X pins σ H s)(r:Zb x v)(ty:tyV X.K T x H) :
 s.TypeIs v T/\∀a,v=.ref a->∃ob,s.heap.get? a=some ob/\ob.dict=none:=by
 cases x with
 |str z=>
  obtain⟨t,rfl⟩:=r
  cases(show T="str" from ty)
  exact⟨typeIs_str s z t,fun _ e=>nomatch e⟩
 |int i=>
  obtain⟨t,rfl⟩:=r
  cases(show T="int" from ty)
  exact⟨typeIs_int s i t,fun _ e=>nomatch e⟩
 |ref p=>
  cases r
  rcases ty with⟨rfl,xs,hq⟩ | ⟨rfl,o,hk,hc,hd⟩ | ⟨rfl,hk⟩ | ⟨rfl,S,n,hk⟩
  ·obtain⟨its,_,pl,_⟩:=I.list hq
   refine⟨pl.isList.typeIs,fun a e=>?_⟩
   cases e
   obtain⟨o,n,e,c,hd,_⟩:=pl
   exact⟨o,e,hd⟩
  ·refine⟨⟨o,I.kIn p o hk,hc⟩,fun a e=>?_⟩
   cases e
   exact⟨o,I.kIn _ o hk,hd⟩
  ·have z:∃o,s.heap.get? p=some o/\o.ExactDict:=by
    rcases hk with⟨kvs,hk⟩ | ⟨kvs,hk⟩
    ·obtain⟨_,_,_,_,o,_,_,e,ex,_⟩:=I.hok p _ hk
     exact⟨o,e,ex⟩
    ·obtain⟨_,_,_,_,o,_,_,e,ex,_⟩:=I.hok p _ hk
     exact⟨o,e,ex⟩
   obtain⟨o,e,ex⟩:=z
   refine⟨⟨o,e,ex.1⟩,fun a e2=>?_⟩
   cases e2
   exact⟨o,e,ex.2.1⟩
  ·obtain⟨o,_,_,_,e,ex,_⟩:=I.hok p _ hk
   refine⟨⟨o,e,ex.1⟩,fun a e2=>?_⟩
   cases e2
   exact⟨o,e,ex.2.1⟩
 |_=>exact False.elim ty
def tBM (K:W.Frag)(T:String)(r:V->List V->Hp->VK->Prop)(to:TE)(t:TA):TE:=fun σ H Q=>to σ H fun x H1=>tyV K T x H1/\t σ H1 fun xs H2=>r x xs H2 Q
variable {o e:Expr}{es:List Expr}{to:TE}{t:TA}{name:Str}{apos cpos:Pos}{T id:String}{r:V->List V->Hp->VK->Prop}
theorem XF (pa:PlainAttrs T)(slot:Slot T name id)(hty:typeOf (.builtin id)=pure (.type "method_descriptor"))(hm:MtR X id r)(ho:PE X o to)(ha:PA X (e::es) t)(hbase:attributeBase o name X.env (eval o X.env)=eval o X.env:=by rfl)(hfew:((backTo cpos (starEach (e::es) X.env)).all (fun x=>!x.1)&&(backToKw cpos (keywordEach [] X.env)).all (fun x=>x.1.isSome)
  &&decide ((e::es).length+([]:List Keyword).length+(if([]:List Keyword).isEmpty then 0 else 1)<30))=true:=by rfl)(hline:(apos.endLine==cpos.line)=true:=by rfl)(hs:starEach (e::es) X.env=(false,eval e X.env)::starEach es X.env:=by rfl)(hplain:(backTo cpos (starEach es X.env)).any (·.1)=false:=by rfl) :
 PE X (.Call (.Attribute o name apos) (e::es) [] cpos) (tBM X.K T r to t):=by
 intro pins s σ H Q I h
 refine wpAny_Call_method_late hbase hfew hline rfl (thn (ho pins s σ H _ I h) fun v s1 ⟨x,H1,I1,r1,ty,q1⟩=>?_)
 obtain⟨h1,h2⟩:=tyV_is I1 r1 ty
 refine⟨T,id,pa,slot,hty,h1,h2,?_⟩
 have hA:=ha cpos pins s1 σ H1 _ I1 q1
 rw[hs]at hA ⊢
 refine Calls.callWith_builtin (by show(false||(backTo cpos (starEach es X.env)).any (·.1))=false;rw[hplain]<;>rfl) (Uk ?_)
 exact thn hA fun us s2 ⟨vs,H2,I2,r2,q2⟩=>hm pins s2 σ H2 x vs v us Q I2 r1 r2 q2
end
def MtM (X:Cx)(id:String)(r:V->List V->Hp->VK->Prop):Prop:=
 ∀(pins:List (Addr×Obj)) (s:Shared) (σ:St) (H:Hp) (x:V) (xs:List V) (v:Value) (us:List Value) (Q:VK),Zq X pins σ H s->Zb x v->Y7 xs us->r x xs H Q->
  wpAny (model X.prog X.w) X.A (call (.builtin id) (v::us)) (EP X pins σ Q) X.xe s
theorem Y7.one:∀{x:V} {us:List Value},Y7 [x] us->∃u,us=[u]/\Zb x u
 |_,_,.cons r .nil=>⟨_,rfl,r⟩
theorem Y7.reverse {xs:List V}{us:List Value}(h:Y7 xs us):Y7 xs.reverse us.reverse:=by
 induction h with
 |nil=>exact .nil
 |cons r t ih=>rw[List.reverse_cons,List.reverse_cons];exact Y7.append ih (.cons r .nil)
section
variable {X:Cx}{pins:List (Addr×Obj)}{σ:St}{H:Hp}{s:Shared}{l b:Addr}{xs ys zs:List V}
theorem Zq.lset {its its':List Value}{n:Nat}{f:Array Value->Array Value}{t':Nat}(I:Zq X pins σ H s)(hH:H l=some (.lst xs))(e:s.heap.get? l=some {cls:=.type "list",data:=.seq its.toArray n})(hf:f its.toArray=its'.toArray)(hv:Y7 ys its')(hz:ys.length<=sizeLine) :
 Zq X pins σ (upd H l (.lst ys)) {s with heap:=s.heap.update l (Obj.mapSeq f),toks:=t'}:=by
 have q:=PySem.IsL.update e f
 rw[hf]at q
 refine I.write (x:=l) (e:=l) (by rw[hH];exact trivial) (.inl rfl) (fun b' u hb hu=>(V6 s.heap (Obj.mapSeq f) (Ne.symm hb)).trans hu) ⟨_,q⟩ ?_
 exact⟨hz,its',_,hv,q⟩
theorem Zq.lnew {its:List Value}{t':Nat}(I:Zq X pins σ H s)(hv:Y7 ys its)(hz:ys.length<=sizeLine) :
 Zq X pins σ (upd H s.heap.objs.size (.lst ys)) {s with heap:=s.heap.push {cls:=.type "list",data:=.seq its.toArray},toks:=t'}:=
 I.laid (fun _ _ q=>Z8 _ q) (Nat.le_refl _) ⟨hz,its,0,hv,Zv _ rfl⟩
theorem Zq.fresh (I:Zq X pins σ H s):H s.heap.objs.size=none:=I.hok.fresh (Nat.le_refl _)
theorem Zq.lstM (I:Zq X pins σ H s)(hH:H l=some (.lst xs)):xs.length<=sizeLine/\∃(its:List Value) (n:Nat),Y7 xs its/\xs.length=its.length/\s.heap.get? l=some {cls:=.type "list",data:=.seq its.toArray n}:=by
 obtain⟨z,its,n,r,e⟩:=I.hok l _ hH
 exact⟨z,its,n,r,r.length,e⟩
theorem notLongL {n:Nat}(h:n<=sizeLine):Builtin.List.listTooLong n=false:=by
 unfold Builtin.List.listTooLong
 exact decide_eq_false (by omega)
end
section
variable {X:Cx}
def rAppend:V->List V->Hp->VK->Prop:=fun x vs H Q=>∃l xs y,x=.ref l/\vs=[y]/\H l=some (.lst xs)/\xs.length<sizeLine/\Q .non (upd H l (.lst (xs++[y])))
theorem Y8:MtM X "list.append" rAppend:=by
 intro pins s σ H x vs v us Q I rx rv h
 obtain⟨l,xs,y,rfl,rfl,hH,hz,q⟩:=h
 cases rx
 obtain⟨u,rfl,ru⟩:=rv.one
 obtain⟨z,its,n,r,hl,e⟩:=I.lstM hH
 refine call_meets F.slot_list_append ⟨_,e,rfl⟩ F.entry_list_append (F.args_list_append_2 _ _) (PySem.list_append l its.toArray n u (by rw[ZF];omega)) ⟨e,?_⟩
 refine⟨.non,_,I.lset (its':=its++[u]) hH e (by simp) (r.append (.cons ru .nil)) ?_,rfl,q⟩
 rw[Z6,ZN]
 omega
def rExtend:V->List V->Hp->VK->Prop:=fun x vs H Q=>∃l b xs zs,x=.ref l/\vs=[.ref b]/\H l=some (.lst xs)/\H b=some (.lst zs)/\xs.length+zs.length<=sizeLine/\Q .non (upd H l (.lst (xs++zs)))
theorem VQ:MtM X "list.extend" rExtend:=by
 intro pins s σ H x vs v us Q I rx rv h
 obtain⟨l,b,xs,zs,rfl,rfl,hH,hB,hz,q⟩:=h
 cases rx
 obtain⟨u,rfl,ru⟩:=rv.one
 cases ru
 obtain⟨z,its,n,r,hl,e⟩:=I.lstM hH
 obtain⟨z2,its2,n2,r2,hl2,e2⟩:=I.lstM hB
 have hsz:its.toArray.size+its2.toArray.size<=sizeLine:=by rw[ZF,ZF];omega
 have hlong:¬(!its.toArray.isEmpty&&Builtin.List.listTooLong (its.toArray.size+its2.toArray.size))=true:=by
  rw[notLongL hsz,Bool.and_false]
  exact Bool.false_ne_true
 refine call_meets F.slot_list_extend ⟨_,e,rfl⟩ F.entry_list_extend (F.args_list_extend_2 _ _)
  (AutoSeq1.list_extend_list_list_0 l its.toArray n b its2.toArray n2 hlong (by rw[ZF];omega) (by omega)) ⟨e,e2,?_⟩
 refine⟨.non,_,I.lset (its':=its++its2) hH e (by simp) (r.append r2) ?_,rfl,q⟩
 rw[Z6]
 omega
def rCat:R2:=fun x y H Q=>∃l b xs zs,x=.ref l/\y=.ref b/\H l=some (.lst xs)/\H b=some (.lst zs)/\xs.length+zs.length<=sizeLine/\∀p,H p=none->Q (.ref p) (upd H p (.lst (xs++zs)))
theorem Wo:Uo X (binaryOp .Add) rCat:=by
 intro pins s σ H x y v u Q I rx ry h
 obtain⟨l,b,xs,zs,rfl,rfl,hH,hB,hz,q⟩:=h
 cases rx
 cases ry
 obtain⟨z,its,n,r,hl,e⟩:=I.lstM hH
 obtain⟨z2,its2,n2,r2,hl2,e2⟩:=I.lstM hB
 refine PySem.P.add_list e e2 ?_ (by rw[ZF,ZF];omega)
 have ea:its.toArray++its2.toArray=(its++its2).toArray:=by simp
 rw[ea]
 exact⟨.ref _,_,I.lnew (t':=s.toks) (r.append r2) (by rw[Z6];omega),rfl,q _ I.fresh⟩
end
section
variable {prog:Program}{w:World}{A:Around}{E:Value->Shared->Prop}{s:Shared}
end
section
variable {X:Cx}
end
end L2
namespace Att
open PySem PySem.W PySem.Calls PyProof.Rows
theorem ints_of_wellAll {P:Params}{h:Heap}:∀(ns:List Int) (vs:List Value),WellAll P h vs (ns.map WData.int)->IntsAre vs ns:=by
 intro ns
 induction ns with
 |nil=>
  intro vs w
  rw[map_nil]at w
  cases w
  exact .nil
 |cons n ns ih=>
  intro vs w
  rw[Y3]at w
  cases w with
  |cons a b=>
   cases a
   exact .cons _ _ (ih _ b)
theorem script_of {l:OpenLaw}{n:Nat}(hn:l.most=some n){P:Params}{h:Heap}{args:List WData}{vals:List Value}(hpre:l.row.toRowW.claim.pre args=true)(hwl:WellAll P h vals args) :
 ∃a vs ns,vals=[Value.ref a]/\args=[WData.list (ns.map WData.int)]/\h.get? a=some {cls:=.type "list",data:=.seq vs.toArray}/\IntsAre vs ns/\ns.length<=n:=by
 have hsh:WShape.hasAll [] args [.list .int]=true:=(pre_splitW hpre).1
 have hc:l.pre.holds [] {args:=args}=true:=(pre_splitW hpre).2
 obtain⟨d,r,rfl,h1,h2⟩:=hasAllW_cons hsh
 obtain rfl:=hasAllW_nil h2
 obtain⟨xs,rfl,h3⟩:=hasW_list h1
 obtain⟨ns,rfl⟩:=items_int h3
 have hlen:ns.length<=n:=by
  unfold OpenLaw.pre at hc
  have h4:(WTm.not (.lt (.lit (.int (n:Int))) (.len (.arg 0)))).holds [] {args:=[.list (ns.map .int)]}=true:=by
   have h4:=(holds_andW hc).1
   rw[hn]at h4
   exact h4
  have h5:=condW_of h4 (w_not (w_lt w_lit (w_len_list (w_arg rfl))))
  rw[Z2]at h5
  refine Nat.le_of_not_lt fun q=>?_
  have q':(n:Int)<((ns.length:Nat):Int):=by omega
  first
   |(rw[decide_eq_true q']at h5;exact absurd h5 (by decide))
   |(simp at h5;omega)
 cases hwl with
 |cons w1 w2=>
  cases w2
  cases w1 with
  |list ho hall=>exact⟨_,_,ns,rfl,rfl,ho,ints_of_wellAll ns _ hall,hlen⟩
theorem post_true (l:OpenLaw)(args:List WData):l.row.toRowW.claim.post args (.bool true) args=true:=
 postW_of (r:=l.row.toRowW) (X:=(true==true))
  (show WShape.has [] (.bool true) .bool=true by first | rfl | decide | simp[WShape.has,WShape.arms,WShape.armsAll])
  (show(WTm.eq .res (.lit (.bool true))).value [] {args:=args,res:=some (.bool true),after:=args}=some (.bool (true==true)) from w_eq_bool (w_res rfl) w_lit) rfl
theorem attach_call {l:OpenLaw}{n:Nat}{q:Program}{loose:List Str}{XP:(Str->Option Value)->Heap->Prop}{YP:World->Heap->Prop}{d:DefRec}(hn:l.most=some n)(hdf:d.params.defaults=[])(call:∀(w:World) (s₀ s₁:Shared) (mg mb:Str->Option Value) (fa:Addr) (o:Obj) (pm cd doc:Value) (a:Addr) (vs:List Value) (ns:List Int),
  Ground q loose [] XP w s₀ mg mb s₁.heap->YP w s₁.heap->
  s₁.heap.get? fa=some o->o.data=.func (docDef d.name d.params d.body d.scope pm cd doc)->s₁.heap.CodeRec cd d.name->mg d.name=some (.ref fa)->
  s₁.heap.get? a=some {cls:=.type "list",data:=.seq vs.toArray}->IntsAre vs ns->ns.length<=n->s₁.gens=#[]->
  codeAny (model l.prog w) callerA (.call (.ref fa) ⟨[.ref a],[]⟩) (fun r s'=>r=.ok (.ret (.bool true))/\OldK s₁.heap s'.heap/\s'.os=s₁.os/\AllBare s'.gens) s₁) :
 WalkO q loose XP YP l.row.toRowW d [] (fun f vs=>PySem.call f vs):=by
 intro w s₀ s₁ mg mb G Y fa o pm cd doc dV kV ho hd hcd hD hmg hg args vals as hpre hlay hrd hwl hlo
 obtain rfl:dV=.none:=Dflts.none hD hdf
 obtain rfl:kV=.none:=Dflts.noKw hD
 obtain⟨a,vs,ns,rfl,rfl,hobj,hints,hlen⟩:=script_of hn hpre hwl
 refine enter_call (codeAny_mono (call w s₀ s₁ mg mb fa o pm cd doc a vs ns G Y ho (fd_plain hd) hcd hmg hobj hints hlen hg) fun r s' hq=>?_)
 obtain⟨rfl,h2,h3,h4⟩:=hq
 exact⟨.inl ⟨.bool true,.bool true,[],rfl,fun _=>rfl,.bool true,post_true l _,fun _=>⟨List.Pairwise.nil,fun _ hm=>(nomatch hm)⟩⟩,h2,h3,h4⟩
section
variable {prog:Program}{w:World}{A:Around}{E:Value->Shared->Prop}{s:Shared}{K:Frag}
end
end Att
namespace L2
theorem U1:∀{vs:List Value} {ns:List Int},IntsAre vs ns->Y7 (ns.map V.int) vs
 |_,_,.nil=>.nil
 |_,_,.cons n t h=>.cons ⟨t,rfl⟩ (U1 h)
def W1 (s:Stmt):Arguments:=match s with
 | .FunctionDef _ a _ _ _ _ _ _ _ _=>a
 |_=>{posonlyargs:=[],args:=[],vararg:=none,kwonlyargs:=[],kw_defaults:=[],kwarg:=none,defaults:=[]}
def XM (s:Stmt):List Stmt:=match s with
 | .FunctionDef _ _ b _ _ _ _ _ _ _=>b
 |_=>[]
def ZY (s:Stmt):Scope:=match s with
 | .FunctionDef _ _ _ _ _ _ sc _ _ _=>sc
 |_=>{kind:=.function,names:=[],isGenerator:=false,isCoroutine:=false}
abbrev XB:CXT:=fun _ _ _ _ _ _=>False
abbrev E0:XK:=fun _ _ _=>False
theorem pass0 {X:Cx}:Passes XB X E0:=fun _ _ _ _ _ _ _ h=>h.elim
structure XH (K:W.Frag)(x qual:Str)(st:Stmt)(f:Addr)(fd:FuncData):Prop where
 ex:∃(oc:Value) (od:Option Addr) (kV doc pm:Value) (an:Option Addr) (cdv ct:Value) (osl:Array (Option Value)),
  fd=PySem.W.fnOf x qual (W1 st) (XM st) (ZY st) .none kV doc pm an cdv ct/\K.lookup f=some ⟨oc,od,.func fd,osl⟩/\codeIn K cdv qual=true
 kp:Um K (.ref f)=true
section
variable {P:Program}{w:World}{K:W.Frag}{mg:Str->Option Value}{base:Heap}
theorem XH.ok {x qual:Str}{st:Stmt}{f:Addr}{fd:FuncData}{N ps:List Str}{k:Nat}{sp:Sp}(F:XH K x qual st f fd)(S:Zw N ps (ZY st))(len:∀vs H Q E,sp vs H Q E->vs.length=ps.length)(hbody:∀(cdv:Value) (A:Around) (outer:List Env) (s:Shared) (H:Hp) (vs:List V) (Q:VK) (E:XK),Xv k (A.deeper (envOfC qual (ZY st) s.heap.objs.size f cdv))->sp vs H Q E->
  ∃t,PSs (cxOf XB P w K mg base N qual (ZY st) f cdv A outer s H E).nox (XM st) t/\t {nx:=fun _ H'=>Q .non H',rt:=Q} (start N vs) H):Y6 P w K mg base XB (k+1) f fd ps sp:=by
 obtain⟨oc,od,kV,doc,pm,an,cdv,ct,osl,rfl,lk,hcd⟩:=F.ex
 refine fn_of lk hcd S len fun A outer s H vs Q E hr hsp=>?_
 obtain⟨t,h,q⟩:=hbody cdv A outer s H vs Q E hr hsp
 exact⟨t,h.nox,q⟩
theorem XH.binds {x qual:Str}{st:Stmt}{f:Addr}{fd:FuncData}{ps:List Str}(F:XH K x qual st f fd)(h:∀(kV doc pm:Value) (an:Option Addr) (cdv ct:Value) (us:List Value),us.length=ps.length->bindArgs (PySem.W.fnOf x qual (W1 st) (XM st) (ZY st) .none kV doc pm an cdv ct) ⟨us,[]⟩=pure (ps.zip us)):UF K fd ps []:=by
 obtain⟨oc,od,kV,doc,pm,an,cdv,ct,osl,rfl,lk,hcd⟩:=F.ex
 exact .all (h kV doc pm an cdv ct)
theorem fun_mk {x qual:Str}{st:Stmt}{f:Addr}{oc:Value}{od an:Option Addr}{osl:Array (Option Value)}{kV doc pm cdv ct:Value}(l:K.lookup f=some ⟨oc,od,.func (PySem.W.fnOf x qual (W1 st) (XM st) (ZY st) .none kV doc pm an cdv ct),osl⟩)(c:codeIn K cdv qual=true)(k:Um K (.ref f)=true):XH K x qual st f (PySem.W.fnOf x qual (W1 st) (XM st) (ZY st) .none kV doc pm an cdv ct):=⟨⟨oc,od,kV,doc,pm,an,cdv,ct,osl,rfl,l,c⟩,k⟩
end
section
variable {X:Cx}
theorem pv (i:Nat){x:Str}{pos:Pos}(hN:X.N[i]?=some x:=by rfl)(hv:Vis X.env.scope x:=by first | exact Or.inl rfl | exact Or.inr (Or.inl rfl) | exact Or.inr (Or.inr rfl))(hd:(x==("__debug__" : Str))=false:=by decide)(hcd:(x==("__classdict__" : Str))=false:=by decide):PE X (.Name x pos) (tVar i):=pe_var hN hv hd hcd
end
theorem iteF {A B:Prop}(h:B):if false=true then A else B:=by
 rw[if_neg Bool.false_ne_true]
 exact h
theorem iteT {A B:Prop}(h:A):if true=true then A else B:=by
 rw[if_pos rfl]
 exact h
theorem ite2 {c A B:Prop}[Decidable c](h1:c->A)(h2:¬c->B):if c then A else B:=by
 by_cases h:c
 ·rw[if_pos h]
  exact h1 h
 ·rw[if_neg h]
  exact h2 h
theorem iteNS {c A B:Prop}[Decidable c](hc:c)(h:B):if(!decide c)=true then A else B:=by
 rw[decide_eq_true hc]
 exact iteF h
def ZR (H H':Hp):Prop:=∀b o,H b=some o->H' b=some o
theorem ZR.refl (H:Hp):ZR H H:=fun _ _ h=>h
theorem ZR.trans {H H1 H2:Hp}(a:ZR H H1)(b:ZR H1 H2):ZR H H2:=fun c o h=>b c o (a c o h)
theorem ZR.free {H H':Hp}(e:ZR H H'){l:Addr}(h:H' l=Option.none):H l=Option.none:=by
 cases q:H l with
 |none=>rfl
 |some o=>
  rw[e l o q]at h
  cases h
theorem UA {env:Env}:∀{ns:List (Str×NameKind)} {x:Str},ns.lookup x=some .free->
 (ns.map fun(n,k)=>if(k==NameKind.free&&env.scope.kind==.function&&env.kindOf n==some .cell) then(n,NameKind.cell) else(n,k)).lookup x=some .cell\/
 (ns.map fun(n,k)=>if(k==NameKind.free&&env.scope.kind==.function&&env.kindOf n==some .cell) then(n,NameKind.cell) else(n,k)).lookup x=some .free
 |[],_,h=>by simp at h
 |(n,k)::r,x,h=>by
  rw[Y3]
  by_cases e:(x==n)=true
  ·rw[YW,e]at h
   have hk:k=.free:=by simpa using h
   subst hk
   by_cases q:(NameKind.free==NameKind.free&&env.scope.kind==.function&&env.kindOf n==some .cell)=true
   ·left;dsimp only;rw[if_pos q,YW,e]
   ·right;dsimp only;rw[if_neg q,YW,e]
  ·have e':(x==n)=false:=by simpa using e
   rw[YW,e']at h
   have ih:=UA (env:=env) h
   dsimp only
   split<;>(rw[YW,e'];exact ih)
theorem Uz {env:Env}:∀{ns:List (Str×NameKind)} {x:Str} {k:NameKind},(∀y∈ns,y.2≠.cell)->(k=.cell\/k=.free)->
 (ns.map fun(n,k)=>if(k==NameKind.free&&env.scope.kind==.function&&env.kindOf n==some .cell) then(n,NameKind.cell) else(n,k)).lookup x=some k->(x,NameKind.free)∈ns
 |[],_,_,_,_,h=>by simp at h
 |(n,k')::r,x,k,nc,hk,h=>by
  rw[Y3]at h
  have ih:=Uz (env:=env) (ns:=r) (x:=x) (k:=k) (fun y hy=>nc y (ZT _ hy)) hk
  by_cases e:(x==n)=true
  ·have ex:x=n:=by simpa using e
   subst ex
   by_cases q:(k'==NameKind.free&&env.scope.kind==.function&&env.kindOf x==some .cell)=true
   ·have:k'=.free:=by
     cases k'<;>first | rfl | (simp at q)
    subst this
    exact ZW
   ·dsimp only at h
    rw[if_neg q,YW,e]at h
    have:k'=k:=by simpa using h
    subst this
    rcases hk with z | z
    ·exact absurd z (nc (x,k') ZW)
    ·subst z;exact ZW
  ·have e':(x==n)=false:=by simpa using e
   refine ZT _ (ih ?_)
   dsimp only at h
   split at h<;>(rw[YW,e']at h;exact h)
theorem SJ {env:Env}:∀(ns:List (Str×NameKind)) (acc:List (Str×Addr)),(∀y∈ns,y.2=.free->∃c,env.cells.lookup y.1=some c)->
 (∀x c,acc.lookup x=some c->env.cells.lookup x=some c)->
 ∃cl:List (Str×Addr),(forIn ns acc fun x r=>(match x with | (name,kind)=>if(kind==NameKind.free)=true then do let c <-cellOf env name;pure (ForInStep.yield ((name,c)::r)) else pure (ForInStep.yield r):Sem (ForInStep (List (Str×Addr)))):Sem (List (Str×Addr)))=pure cl/\
  (∀x c,cl.lookup x=some c->env.cells.lookup x=some c)/\(∀x,(x,NameKind.free)∈ns->∃c,cl.lookup x=some c)/\∀x c,acc.lookup x=some c->∃c',cl.lookup x=some c'
 |[],acc,_,hacc=>⟨acc,rfl,hacc,fun _ h=>absurd h (by simp),fun x c h=>⟨c,h⟩⟩
 |(n,k)::r,acc,hfr,hacc=>by
  by_cases q:(k==NameKind.free)=true
  ·have hk:k=.free:=by cases k<;>first | rfl | (simp at q)
   subst hk
   obtain⟨c,hc⟩:=hfr (n,.free) ZW rfl
   have hof:cellOf env n=pure c:=by unfold cellOf;rw[hc]
   obtain⟨cl,h1,h2,h3,h4⟩:=SJ (env:=env) r ((n,c)::acc) (fun y hy=>hfr y (ZT _ hy)) (fun x c' h=>by
    by_cases e:(x==n)=true
    ·have ex:x=n:=by simpa using e
     subst ex
     rw[YW,e]at h
     have:c=c':=by simpa using h
     rw[<-this];exact hc
    ·have e':(x==n)=false:=by simpa using e
     rw[YW,e']at h
     exact hacc x c' h)
   refine⟨cl,?_,h2,fun x hx=>?_,fun x c' h=>?_⟩
   ·rw[List.forIn_cons]
    dsimp only
    rw[if_pos q,hof]
    exact h1
   ·rcases ZV.mp hx with e | e
    ·cases e
     exact h4 n c (by simp)
    ·exact h3 x e
   ·by_cases e:(x==n)=true
    ·have ex:x=n:=by simpa using e
     subst ex
     exact h4 x c (by simp)
    ·have e':(x==n)=false:=by simpa using e
     exact h4 x c' (by rw[YW,e'];exact h)
  ·obtain⟨cl,h1,h2,h3,h4⟩:=SJ (env:=env) r acc (fun y hy=>hfr y (ZT _ hy)) hacc
   refine⟨cl,?_,h2,fun x hx=>?_,h4⟩
   ·rw[List.forIn_cons]
    dsimp only
    rw[if_neg q]
    exact h1
   ·rcases ZV.mp hx with e | e
    ·cases e
     exact absurd rfl q
    ·exact h3 x e
theorem Tt {env:Env}{scope:Scope}(hfr:∀y∈scope.names,y.2=.free->∃c,env.cells.lookup y.1=some c) :
 ∃cl:List (Str×Addr),closureFor scope env=pure cl/\(∀x c,cl.lookup x=some c->env.cells.lookup x=some c)/\∀x,(x,NameKind.free)∈scope.names->∃c,cl.lookup x=some c:=by
 obtain⟨cl,h1,h2,h3,_⟩:=SJ (env:=env) scope.names [] hfr (fun x c h=>by simp at h)
 refine⟨cl,?_,h2,h3⟩
 unfold closureFor
 dsimp only
 rw[h1]
 rfl
def inner (nt:Nat)(js:List Nat)(σ:St):St:=Yi nt none++js.map fun j=>(σ[j]?).join
def blk (X:Cx)(N:List Str)(scope:Scope)(cl:List (Str×Addr))(C:Addr)(s:Shared)(H:Hp)(fp:List Addr):Cx:=
 {X with N:=N,s₀:=s,H₀:=H,env:=compEnvC scope cl C X.env,outer:=X.stack,ex:=fp,fn:=fun _=>false,pn:=[],xe:=fun _ _=>False}
structure Blk (sc:Scope)(N0:List Str)(N:List Str)(nt:Nat)(js:List Nat)(scope:Scope):Prop where
 kind:scope.kind=.function
 loc:∀y∈scope.names,y.2=.local->scope.names.lookup y.1=some .local
 nocell:∀y∈scope.names,y.2≠.cell
 cap:∀y∈scope.names,y.2=.free->sc.names.lookup y.1=some .cell\/sc.names.lookup y.1=some .free
 len:N.length=nt+js.length
 out:N.drop nt=js.map fun j=>N0.getD j ""
 js:∀j∈js,j<N0.length
 fr:∀x∈N.drop nt,scope.names.lookup x=some .free
 nd:N.Nodup
theorem SR {nt:Nat}{js:List Nat}{σ:St}{i:Nat}{v:V}(h:(inner nt js σ)[i]?=some (some v)):∃k j,i=nt+k/\js[k]?=some j/\σ[j]?=some (some v):=by
 unfold inner at h
 by_cases hi:i<nt
 ·rw[ZL (by simpa using hi),List.getElem?_replicate,if_pos hi]at h
  cases h
 ·rw[ZU (by simpa using hi),XY,ZQ]at h
  cases e:js[i - nt]? with
  |none=>rw[e]at h;cases h
  |some j=>
   rw[e]at h
   refine⟨i - nt,j,by omega,e,?_⟩
   have h':(σ[j]?).join=some v:=by simpa using h
   cases e2:σ[j]? with
   |none=>rw[e2]at h';cases h'
   |some o=>rw[e2]at h';cases o with
    |none=>cases h'
    |some w=>have:w=v:=by simpa using h'
             rw[this]
section
variable {X:Cx}{pins:List (Addr×Obj)}{σ:St}{H:Hp}{s:Shared}{N:List Str}{nt:Nat}{js:List Nat}{scope:Scope}{cl:List (Str×Addr)}{fp:List Addr}
theorem SH {h':Heap}{tk:Nat}(I:Zq X pins σ H s)(B:Blk X.env.scope X.N N nt js scope)(c1:∀x c,cl.lookup x=some c->X.env.cells.lookup x=some c)(c2:∀x,(x,NameKind.free)∈scope.names->∃c,cl.lookup x=some c)(hf:∀b∈fp,SC X pins H b)(hlt:∀b∈fp,b<s.heap.objs.size)(kp:∀b o,s.heap.get? b=some o->h'.get? b=some o)(hC:h'.Ns (s.heap.objs.size+1) fun _=>none)(hD:h'.get? s.heap.objs.size=some {cls:=.type "list",data:=.seq ([]:List Value).toArray 0}) :
 Zq (blk X N scope cl (s.heap.objs.size+1) s H fp) [] (inner nt js σ) (upd H s.heap.objs.size (.lst [])) {s with heap:=h',toks:=tk}:=by
 have hfr:∀a,s.heap.objs.size<=a->H a=none:=fun a ha=>I.hok.fresh ha
 have cold:∀x c,X.env.cells.lookup x=some c->c<s.heap.objs.size:=fun x c e=>by
  obtain⟨v,q⟩:=I.cell x c e
  exact q.lt
 refine⟨⟨I.ok.mod,B.kind,I.ok.glob,I.ok.blt,le_succ _,fun x y c a b=>I.ok.inj x y c (c1 x c a) (c1 y c b),fun x hx=>?_,fun x c z _=>absurd z Bool.false_ne_true,I.ok.hd,I.ok.frames,.inl rfl,fun b hb=>?_,I.bs,Nat.le_trans I.ok.bsz I.sz,fun b o e hb=>?_,fun b hb z=>?_,I.stack,I.stkFree⟩,
  rfl,I.bare,Un.laid kp (Nat.le_refl _) (hfr _ (Nat.le_refl _)),⟨_,hC,fun i x v h1 h2 h3=>?_⟩,fun x c e=>?_,?_,fun x c e=>?_,fun p hp=>absurd (show p∈([]:List (Addr×Obj)) from hp) (by simp),I.hok.laid kp (Nat.le_refl _) ⟨Yp _,[],0,.nil,hD⟩,?_⟩
 ·have:(x,NameKind.free)∈scope.names:=hx.elim (fun z=>Uz B.nocell (.inl rfl) z) fun z=>Uz B.nocell (.inr rfl) z
  exact c2 x this
 ·refine⟨Zs (Yw (hlt b hb)),fun x c e=>(hf b hb).2.2.2.2.1 x c (c1 x c e)⟩
 ·rcases(hf b hb).2.2.2.1 with z | z
  ·exact I.ok.noex b o e z
  ·exact absurd (Nat.lt_of_lt_of_le (ZA (I.ok.bs b o e).1) z) (Xr _)
 ·rcases ZV.mp (I.stkSub b z) with q | q
  ·exact(hf b hb).2.1 q
  ·exact(hf b hb).2.2.1 q
 ·obtain⟨k,j,rfl,hk,hv⟩:=SR h2
  have hkl:k<js.length:=(List.getElem?_eq_some_iff.mp hk).1
  have h1':(N.drop nt)[k]?=some x:=by rw[XA];exact h1
  have hxm:x∈N.drop nt:=Zh h1'
  have hfree:scope.names.lookup x=some .free:=B.fr x hxm
  have hj:X.N[j]?=some x:=by
   rw[B.out,ZQ,hk]at h1'
   have hjl:j<X.N.length:=B.js j (Zh hk)
   rw[Z1 hjl]
   have e:X.N.getD j "" = x:=by simpa using h1'
   rw[<-e]
   simp[Z4,Z1 hjl]
  have hcap:=B.cap _ (PySem.mem_of_lookup hfree) rfl
  obtain⟨m,hn,hl⟩:=I.loc
  obtain⟨u,ru,lk⟩:=hl j x v hj hv (hcap.elim (fun z=>.inr (.inl z)) fun z=>.inr (.inr z))
  refine⟨u,ru,.inr ⟨UA hfree,?_⟩⟩
  rcases lk with⟨z,_⟩ | ⟨_,c,e,q⟩
  ·exact absurd (show X.env.scope.names.lookup x=some .local from z) (by rcases hcap with y | y<;>(rw[y];decide))
  ·obtain⟨c',e'⟩:=c2 x (PySem.mem_of_lookup hfree)
   have ec:=c1 x c' e'
   rw[e]at ec
   cases ec
   obtain⟨o,ho,hd⟩:=q
   exact⟨c,e',o,kp c o ho,hd⟩
 ·obtain⟨v,o,ho,hd⟩:=I.cell x c (c1 x c e)
  exact⟨v,o,kp c o ho,hd⟩
 ·show upd H _ _ (s.heap.objs.size+1)=none
  rw[ZS (Vw (WI _))]
  exact hfr _ (le_succ _)
 ·show upd H _ _ c=none
  rw[ZS (Zs (cold x c (c1 x c e)))]
  exact I.freeC x c (c1 x c e)
 ·show(inner nt js σ).length=N.length
  unfold inner
  rw[Z6,XY,Z2,B.len]
end
def PTs (X:Cx)(ifs:List Expr)(t:TT):Prop:=
 ∀(pins:List (Addr×Obj)) (s:Shared) (σ:St) (H:Hp) (Q:Bool->Hp->Prop),Zq X pins σ H s->t σ H Q->
  wpAny (model X.prog X.w) X.A (forIn ifs true fun c r=>if r=true then do let ok <-isTrue c X.env (eval c X.env);pure (ForInStep.yield ok) else pure (ForInStep.yield r)) (TP X pins σ Q) X.xe s
def tYes:TT:=fun _ H Q=>Q true H
theorem YI {X:Cx}:PTs X [] tYes:=fun _ _ _ H _ I h=>wpAny_tests_nil ⟨H,I,h⟩
theorem XW {X:Cx}{c:Expr}{t:TT}(h:PT X c t):PTs X [c] t:=fun pins s σ H Q I q=>wpAny_tests_one (h pins s σ H Q I q)
section
variable {prog:Program}{w:World}{A:Around}{s:Shared}{R:Result->Shared->Prop}
theorem Uq {elt tg iter:Expr}{ifs:List Expr}{scope:Scope}{pos:Pos}{it acc:Value}{env:Env}(J:Nat->Shared->Prop)(turn:∀n s,J n s->wpAny (model prog w) A (pyNext it) (fun r s1=>match r with
  |none=>R (.ok .next) s1
  |some v=>wpAny (model prog w) A (letOwnedTupleGo tg it v) (fun _ s2=>wpAny (model prog w) A (assign tg env v) (fun _ s3=>
   wpAny (model prog w) A (forIn ifs true fun c r=>if r=true then do let ok <-isTrue c env (eval c env);pure (ForInStep.yield ok) else pure (ForInStep.yield r)) (fun ok s4=>
    if ok=true then wpAny (model prog w) A (eval elt env) (fun x s5=>wpAny (model prog w) A (call (.builtin "list.append") [acc,x]) (fun _ s6=>∃m,m<n/\J m s6) (fun _ _=>False) s5) (fun _ _=>False) s4
    else ∃m,m<n/\J m s4) (fun _ _=>False) s3) (fun _ _=>False) s2) (fun _ _=>False) s1) (fun _ _=>False) s)(n:Nat)(h:J n s):codeAny (model prog w) A (.compLoop (.ListComp elt [⟨tg,iter,ifs,0⟩] scope pos) 0 it acc env) R s:=by
 refine codeAny_loop rfl J (fun k s' hJ=>?_) n h
 show wpAny _ A ((compTurn (.ListComp elt [⟨tg,iter,ifs,0⟩] scope pos) 0 it acc env).onRaise (fun x=>do noteFrame x env;theTreesLotGoes x)) _ _ s'
 refine wpAny_noted ?_
 rw[compTurn_list]
 refine wpAny_bind (wpAny_standAt (wpAny_bind (wpAny_mono (turn k s' hJ) (fun r s1 q1=>?_) fun _ _ z=>z.elim)))
 cases r with
 |none=>exact wpAny_pure q1
 |some v=>
  refine wpAny_bind (wpAny_mono q1 (fun _ s2 q2=>wpAny_bind (wpAny_mono q2 (fun _ s3 q3=>wpAny_bind (wpAny_mono q3 (fun ok s4 q4=>?_) fun _ _ z=>z.elim)) fun _ _ z=>z.elim)) fun _ _ z=>z.elim)
  cases ok with
  |false=>exact wpAny_pure ⟨rfl,q4⟩
  |true=>exact wpAny_bind (wpAny_bind (wpAny_mono q4 (fun x s5 q5=>wpAny_bind (wpAny_mono q5 (fun _ s6 q6=>wpAny_pure (wpAny_pure ⟨rfl,q6⟩)) fun _ _ z=>z.elim)) fun _ _ z=>z.elim))
end
def cmpW (J:It)(g:TG)(tt:TT)(te:TE)(Q:VK)(D:Addr)(σ0:St)(H1:Hp):Prop:=∃W:Nat->Nat->St->Hp->Prop,(∃m,W 0 m σ0 (upd H1 D (.lst [])))/\
 ∀i m σ' H',W i m σ' H'->(J.stop i H'/\Q (.ref D) H')\/(J.go i H'/\∀x H2,J.yld i H' x H2->g x σ' H2 fun σ3 H3=>tt σ3 H3 fun ok H4=>
  if ok=true then te σ3 H4 fun y H5=>∃ys,H5 D=some (.lst ys)/\ys.length<sizeLine/\∃m',m'<m/\W (i+1) m' σ3 (upd H5 D (.lst (ys++[y]))) else ∃m',m'<m/\W (i+1) m' σ3 H4)
def SB (nt:Nat)(js:List Nat)(wi:TI)(g:TG)(tt:TT)(te:TE):TE:=fun σ H Q=>wi σ H fun J H1=>∀D,H1 D=none->cmpW J g tt te Q D (inner nt js σ) H1
theorem pe_comp {X:Cx}{elt tg iter:Expr}{ifs:List Expr}{scope:Scope}{pos:Pos}{N:List Str}{nt:Nat}{js:List Nat}{sc:Scope}{N0:List Str}{wi:TI}{g:TG}{tt:TT}{te:TE}(hc:X.calm=true)(hsc:X.env.scope=sc)(hN:X.N=N0)(B:Blk sc N0 N nt js scope)(hi:PI X tg iter wi)(hg:∀cl C s H fp,PG (blk X N scope cl C s H fp) tg g)(ht:∀cl C s H fp,PTs (blk X N scope cl C s H fp) ifs tt)(he:∀cl C s H fp,PE (blk X N scope cl C s H fp) elt te)(hs:∀x,foldedSetIterable iter X.env x=pure x:=by intro _;rfl):PE X (.ListComp elt [⟨tg,iter,ifs,0⟩] scope pos) (SB nt js wi g tt te):=by
 subst hsc hN
 intro pins s σ H Q I h
 obtain⟨cl,hcl,c1,c2⟩:=Tt (env:=X.env) (scope:=scope) fun y hy hk=>I.ok.has y.1 (B.cap y hy hk)
 rw[eval_ListComp]
 refine wpAny_comprehension_free (use:=none) rfl hs hcl B.kind B.loc (thn (hi pins s σ H _ I h) fun v s1 q1=>thn q1 fun itv s2 q2=>?_)
 obtain⟨it,fp,tn,J,H2,e,I2,T,st2,f2,q2⟩:=q2
 subst e
 obtain⟨W,⟨m0,w0⟩,turn⟩:=q2 s2.heap.objs.size (I2.hok.fresh (Nat.le_refl _))
 have hlt:∀b∈fp,b<s2.heap.objs.size:=fun b hb=>by
  obtain⟨o,eo,_⟩:=T.obj _ _ st2 b hb
  exact ZA eo
 refine wpAny_newObj_type (wpAny_newFunctionEnv B.nocell (by intro y hy;simp at hy) (fun h1 hns hsb=>?_) B.kind)
 dsimp only at hns hsb ⊢
 have hsz:(s2.heap.push {cls:=.type "list",dict:=none,data:=.seq ([]:List Value).toArray}).objs.size=s2.heap.objs.size+1:=by rw[XJ]
 have old:∀b o,s2.heap.get? b=some o->h1.get? b=some o:=fun b o eb=>hsb.extBut b o (by rw[hsz];exact Zs (Yw (ZA eb))) (Z8 _ (Z8 _ eb))
 have hD:h1.get? s2.heap.objs.size=some {cls:=.type "list",data:=.seq ([]:List Value).toArray 0}:=hsb.extBut _ _ (by rw[hsz];exact Zs (WI _)) (Z8 _ (Zv _ rfl))
 rw[hsz]at hns
 have I3:=SH (cl:=cl) (fp:=fp) (tk:=s2.toks+([]:List (Str×Value)).length) I2 B c1 c2 f2 hlt old (show h1.Ns (s2.heap.objs.size+1) fun _=>none from hns) hD
 have stat:∀{H':Hp},(∀b∈fp,H' b=none)->∀b∈fp,SC (blk X N scope cl (s2.heap.objs.size+1) s2 H2 fp) [] H' b:=fun{H'} hn b hb=>
  ⟨hn b hb,Zs (Yw (hlt b hb)),fun z=>(ZV.mp (I2.stkSub b z)).elim (f2 b hb).2.1 (f2 b hb).2.2.1,.inl hb,fun x c ec=>(f2 b hb).2.2.2.2.1 x c (c1 x c ec),fun p hp=>absurd (show p∈([]:List (Addr×Obj)) from hp) (by simp)⟩
 have fin:∀{i:Nat} {σ':St} {H':Hp} {s':Shared},Zq (blk X N scope cl (s2.heap.objs.size+1) s2 H2 fp) [] σ' H' s'->Q (.ref s2.heap.objs.size) H'->
  compPost (model X.prog X.w) X.A X.xe none (EP X pins σ Q) (.ref s2.heap.objs.size) (s2.heap.objs.size+1) (.ok .next) s':=fun{i σ' H' s'} Ib q=>by
  obtain⟨m,hn,_⟩:=id Ib.loc
  refine⟨m,hn,fun h'' hs''=>?_⟩
  have I4:Zq X pins σ H' s':=I2.call' Ib.os Ib.base Ib.hok Ib.bare fun b hb=>⟨(f2 b hb).2.2.2.1,(f2 b hb).2.1,(f2 b hb).2.2.2.2.1,(f2 b hb).2.2.2.2.2⟩
  obtain⟨g0,g1,g2,g3,g4,g5⟩:=I2.fpOk (H':=H') (le_succ _) Ib.free
  exact⟨.ref s2.heap.objs.size,H',I4.turned (t':=s'.toks) (fun b o hb eb=>hs''.extBut b o hb eb) g0 g1 g3 g4 g5,rfl,q⟩
 have loop:codeAny (model X.prog X.w) X.A (.compLoop (.ListComp elt [⟨tg,iter,ifs,0⟩] scope pos) 0 (.ref it) (.ref s2.heap.objs.size) (compEnvC scope cl (s2.heap.objs.size+1) X.env))
  (compPost (model X.prog X.w) X.A X.xe none (EP X pins σ Q) (.ref s2.heap.objs.size) (s2.heap.objs.size+1)) {s2 with heap:=h1,toks:=s2.toks+([]:List (Str×Value)).length}:=by
  refine Uq (fun n s'=>∃i σ' H',Zq (blk X N scope cl (s2.heap.objs.size+1) s2 H2 fp) [] σ' H' s'/\tn i s'.heap/\(∀b∈fp,H' b=none)/\W i n σ' H') ?_ m0
   ⟨0,_,_,I3,T.keep _ _ _ st2 fun b _ o eb=>old b o eb,fun b hb=>?_,w0⟩
  ·rintro n s3 ⟨i,σ3,H3,J3,st3,fr3,w3⟩
   rcases turn i n σ3 H3 w3 with⟨stop,qn⟩ | ⟨go,step⟩
   ·refine thn (T.done (blk X N scope cl (s2.heap.objs.size+1) s2 H2 fp) rfl rfl rfl hc i [] s3 σ3 H3 _ J3 (stat fr3) st3 stop) fun r s4 ⟨hr,I4⟩=>?_
    subst hr
    exact fin (i:=i) I4 qn
   ·refine thn (T.item (blk X N scope cl (s2.heap.objs.size+1) s2 H2 fp) rfl rfl rfl hc i [] s3 σ3 H3 _ J3 (stat fr3) st3 go) fun r s4 ⟨u,hr,h4⟩=>?_
    subst hr
    refine thn h4 fun _ s5 ⟨x,H5,I5,r5,y5,st5,fr5⟩=>?_
    have I5':=I5.pinned (stat fr5) (T.obj _ _ st5)
    refine thn (hg _ _ _ _ _ _ s5 σ3 H5 x u _ I5' r5 (step x H5 y5)) fun _ s6 ⟨σ6,H6,I6,q6⟩=>?_
    have again:∀{σ7:St} {H7:Hp} {s7:Shared} {k:Nat},Zq (blk X N scope cl (s2.heap.objs.size+1) s2 H2 fp) ([]++Uy fp s5.heap) σ7 H7 s7->k<n->W (i+1) k σ7 H7->
     ∃k,k<n/\∃i σ' H',Zq (blk X N scope cl (s2.heap.objs.size+1) s2 H2 fp) [] σ' H' s7/\tn i s7.heap/\(∀b∈fp,H' b=none)/\W i k σ' H':=fun{σ7 H7 s7 k} I7 hk w7=>by
     refine⟨k,hk,i+1,σ7,H7,I7.unpinned,T.keep _ _ _ st5 fun b hb o eb=>(I7.pin (b,o) (ZO _ (ZO _ (Yv hb eb)))).1,fun b hb=>?_,w7⟩
     obtain⟨o,eb,_⟩:=T.obj _ _ st5 b hb
     exact(I7.pin (b,o) (ZO _ (ZO _ (Yv hb eb)))).2.1
    refine thn (ht _ _ _ _ _ _ s6 σ6 H6 _ I6 q6) fun ok s7 ⟨H7,I7,q7⟩=>?_
    cases ok with
    |false=>
     rw[if_neg Bool.false_ne_true]at q7 ⊢
     obtain⟨k,hk,w7⟩:=q7
     exact again I7 hk w7
    |true=>
     rw[if_pos rfl]at q7 ⊢
     refine thn (he _ _ _ _ _ _ s7 σ6 H7 _ I7 q7) fun y s8 ⟨v8,H8,I8,r8,ys,e8,z8,k,hk,w8⟩=>?_
     refine thn (Y8 _ s8 σ6 H8 (.ref s2.heap.objs.size) [v8] _ [y] (fun _ H9=>W (i+1) k σ6 H9) I8 rfl (.cons r8 .nil) ⟨_,ys,v8,rfl,rfl,e8,z8,w8⟩) fun _ s9 ⟨_,H9,I9,_,w9⟩=>?_
     exact again I9 hk w9
  ·show upd H2 _ _ b=none
   rw[ZS (Zs (hlt b hb))]
   exact(f2 b hb).1
 rw[hsz]
 exact codeAny_compStart_list loop (T.self _ 0 _ _ _ (T.keep _ _ _ st2 fun b _ o eb=>old b o eb) loop)
section
variable {X:Cx}
theorem same_bl {x:V}{v:Value}(r:Zb x v)(k:Bool):(v==Value.bool k)=decide (x=.bl k)/\plainIs v (.bool k)=true:=by
 cases x with
 |non=>cases(show v=Value.none from r);exact⟨by cases k<;>rfl,rfl⟩
 |bl b=>cases(show v=Value.bool b from r);exact⟨by cases b<;>cases k<;>rfl,rfl⟩
 |int i=>obtain⟨t,rfl⟩:=(show ∃t,v=Value.int i t from r);exact⟨rfl,rfl⟩
 |str i=>obtain⟨t,rfl⟩:=(show ∃t,v=Value.str i t from r);exact⟨rfl,rfl⟩
 |byt i=>obtain⟨t,rfl⟩:=(show ∃t,v=Value.bytes i t from r);exact⟨rfl,rfl⟩
 |flt i=>obtain⟨t,rfl⟩:=(show ∃t,v=Value.float i t from r);exact⟨rfl,rfl⟩
 |ref a=>cases(show v=Value.ref a from r);exact⟨rfl,rfl⟩
 |ty n=>cases(show v=Value.type n from r);exact⟨rfl,rfl⟩
theorem TL:Uo X (compareOp .IsNot) (fun x y H Q=>∃k,y=.bl k/\Q (.bl (!decide (x=.bl k))) H):=by
 intro pins s σ H x y v u Q I rx ry h
 obtain⟨k,rfl,q⟩:=h
 cases(show u=Value.bool k from ry)
 exact wpAny_isNot_plain (same_bl rx k).2 (YS I q (by rw[(same_bl rx k).1]))
inductive Kn (H:Hp):V->String->Prop where
 |non:Kn H .non "NoneType"
 |bl (b:Bool):Kn H (.bl b) "bool"
 |int (i:Int):Kn H (.int i) "int"
 |str (x:Str):Kn H (.str x) "str"
 |lst {a:Addr} {xs:List V} (e:H a=some (.lst xs)):Kn H (.ref a) "list"
 |tup {a:Addr} {xs:List V} (e:H a=some (.tup xs)):Kn H (.ref a) "tuple"
 |dK {a:Addr} {kvs:List (XL×V)} (e:H a=some (.dK kvs)):Kn H (.ref a) "dict"
theorem Kn.ty {K:W.Frag}{H:Hp}{v:V}{T:String}(h:Kn H v T):SF K H v (.type T):=by
 cases h with
 |non=>exact .non
 |bl b=>exact .bl b
 |int i=>exact .int i
 |str x=>exact .str x
 |lst e=>exact .lst e
 |tup e=>exact .tup e
 |dK e=>exact .dK e
def subT (T U:String):Bool:=T==U||(T=="bool"&&U=="int")
theorem kit_int {K:W.Frag}{H:Hp}{v:V}{T:String}(h:Kn H v T):YK K (.type T) (.type "int")=some (subT T "int"):=by
 cases h<;>rfl
theorem kit_bool {K:W.Frag}{H:Hp}{v:V}{T:String}(h:Kn H v T):YK K (.type T) (.type "bool")=some (subT T "bool"):=by
 cases h<;>rfl
theorem kit_tuple {K:W.Frag}{H:Hp}{v:V}{T:String}(h:Kn H v T):YK K (.type T) (.type "tuple")=some (subT T "tuple"):=by
 cases h<;>rfl
theorem kit_list {K:W.Frag}{H:Hp}{v:V}{T:String}(h:Kn H v T):YK K (.type T) (.type "list")=some (subT T "list"):=by
 cases h<;>rfl
theorem XD:XC X (.builtin "isinstance") (fun xs H Q=>∃x T U,xs=[x,.ty U]/\Kn H x T/\(U="int"\/U="bool"\/U="tuple"\/U="list")/\Q (.bl (subT T U)) H):=by
 intro pins s σ H xs us Q I r h
 obtain⟨x,T,U,rfl,hk,hU,q⟩:=h
 obtain⟨u,c,rfl,rx,rc⟩:=UN r
 cases(show c=Value.type U from rc)
 refine isinst_ok I rx hk.ty (b:=subT T U) ?_ fun tk=>⟨.bl (subT T U),H,I.tok tk,rfl,q⟩
 rcases hU with rfl | rfl | rfl | rfl
 ·exact kit_int hk
 ·exact kit_bool hk
 ·exact kit_tuple hk
 ·exact kit_list hk
theorem UP (hc:X.calm=true):XC X (.builtin "all") (fun xs H Q=>∃(p:Addr) (bs:List Bool),xs=[.ref p]/\Zp X.K H p (bs.map V.bl)/\Q (.bl (bs.all id)) H):=by
 intro pins s σ H xs us Q I r h
 obtain⟨p,bs,rfl,hq,q⟩:=h
 obtain⟨u,rfl,rx⟩:=Wr r
 cases(show u=Value.ref p from rx)
 obtain⟨its,r',pl,hz⟩:=I.list hq
 have hsz:its.length=bs.length:=by have:=r'.length;rw[Z2]at this;exact this.symm
 refine call_all_walk (wpAny_pyIter_list pl.isList ?_)
 have hne:p≠s.heap.objs.size:=by
  obtain⟨o,ho,_⟩:=pl.isList
  exact Zs (ZA ho)
 refine⟨_,_,_,its.toArray.size,_,_,fun i=>bs.getD i true,rfl,Walks.list (A:=X.A.in1) (show X.A.in1.handled=none from I.ok.hd hc) s.heap.objs.size p hne its.toArray,⟨⟨_,Zv _ rfl,rfl,rfl⟩,pl.isList.push _⟩,?_,?_⟩
 ·intro i v s' Q' E' hP hQ
  have hv:its[i]?=some v:=by simpa using hP
  have hi:i<its.length:=(List.getElem?_eq_some_iff.mp hv).1
  have hb:(bs.map V.bl)[i]?=some (V.bl (bs.getD i true)):=by
   rw[ZQ,Z1 (by omega)]
   simp[Z4,Z1 (show i<bs.length by omega)]
  obtain⟨w',hw,rw'⟩:=r'.get hb
  rw[hv]at hw
  cases hw
  cases(show v=Value.bool _ from rw')
  exact wpAny_truthy_bool hQ
 ·intro h' tk hk
  have e:(List.range its.toArray.size).all (fun i=>bs.getD i true)=bs.all id:=by
   rw[ZF,hsz]
   rw[Bool.eq_iff_iff,X1,X1]
   constructor
   ·intro h1 x hx
    obtain⟨i,hi,rfl⟩:=X0 hx
    have:=h1 i (Ys.mpr hi)
    rw[Z4,Z1 hi]at this
    exact this
   ·intro h1 i hi
    have hi':=Ys.mp hi
    rw[Z4,Z1 hi']
    exact h1 _ (XI hi')
  rw[e]
  refine⟨.bl (bs.all id),H,I.kept (t':=tk) fun b o eb=>hk b o (fun z=>?_) (Z8 _ eb),rfl,q⟩
  have:b=s.heap.objs.size:=by simpa using z
  exact absurd (ZA eb) (by rw[this];exact Xr _)
def rCatA (K:W.Frag):R2:=fun x y H Q=>∃a b xs ys,x=.ref a/\y=.ref b/\H a=some (.tup xs)/\H b=some (.tup ys)/\xs.length+ys.length<=sizeLine/\
 ∀p H',ZR H H'->H' p=some (.tup (xs++ys))->Q (.ref p) H'
theorem Z9 {H:Hp}{p:Addr}(h:H p=none)(o:HO):ZR H (upd H p o):=fun b u q=>by rw[ZS (ZP q h)];exact q
theorem TK:Uo X (binaryOp .Add) (rCatA X.K):=by
 intro pins s σ H x y v u Q I rx ry h
 obtain⟨a,b,xs,ys,rfl,rfl,ha,hb,hz,q⟩:=h
 cases(show v=Value.ref a from rx)
 cases(show u=Value.ref b from ry)
 obtain⟨its,r1,t1,z1⟩:=I.tuple (Y0.of ha)
 obtain⟨jts,r2,t2,z2⟩:=I.tuple (Y0.of hb)
 have l1:=r1.length
 have l2:=r2.length
 by_cases hx:its=[]
 ·subst hx
  have ex:xs=[]:=Zc.mp l1
  subst ex
  obtain⟨⟨cls,dd,data,sl⟩,ho,hc,n,hd⟩:=id t1
  obtain⟨⟨cls2,dd2,data2,sl2⟩,ho2,hc2,n2,hd2⟩:=id t2
  simp only at hc hd hc2 hd2
  subst hc hd hc2 hd2
  exact concat_meets ⟨_,ho,rfl⟩ ⟨_,ho2,rfl⟩ noFill_tuple_add seq_tuple_add slot_tuple_add entry_tuple_add (args_tuple_add_2 _ _)
   (tuple_addW0 a b ([]:List Value).toArray jts.toArray n n2 dd dd2 sl sl2 rfl) ⟨ho,ho2,⟨.ref b,H,I,rfl,q b H (ZR.refl H) hb⟩⟩
 ·refine HT.cat_tup t1 t2 hx (fun e=>?_) (fun e=>?_) (by omega)
  ·subst e
   have ey:ys=[]:=Zc.mp l2
   subst ey
   exact⟨.ref a,H,I,rfl,q a H (ZR.refl H) (by rw[YV];exact ha)⟩
  ·have fr:=I.hok.fresh (Nat.le_refl s.heap.objs.size)
   refine⟨.ref s.heap.objs.size,_,I.laid (t':=s.toks) (o:=.tup (xs++ys)) (fun b ob q=>Z8 _ q) (Nat.le_refl _) ?_,rfl,q _ _ (Z9 fr _) Z5⟩
   exact⟨by rw[Z6];exact hz,_,r1.append r2,IsTup.new _ _⟩
def rSlA:V->Option Int->Option Int->Hp->VK->Prop:=fun x lo hi H Q=>∃a xs,x=.ref a/\H a=some (.tup xs)/\∀p H',ZR H H'->H' p=some (.tup (cutV xs lo hi))->Q (.ref p) H'
end
section
variable {prog:Program}{w:World}{A:Around}{E:Value->Shared->Prop}{s:Shared}
theorem tup_at {t:Addr}{items:Array Value}{k:Value}{Q:Value->Shared->Prop}(ht:IsTup s.heap t items)(h:wpAny (model prog w) A.in1 (Builtin.«tuple.__getitem__» ⟨[.ref t,k],[]⟩) (fun fin s'=>∃v,fin=.done (.ret v)/\Q v s') E s):wpAny (model prog w) A (getItem (.ref t) k) Q E s:=by
 have sl:=slot_tuple_getitem
 unfold getItem
 wp_walk using wpAny_sequenceKey ht.typeIs (by decide),wpAny_callSpecial?_slot (name:=oS "__getitem__") ht.typeIs sl (wpAny_call_entry sl ht.typeIs entry_tuple_getitem (wpAny_mono h (fun fin s' ⟨v,e,q⟩=>⟨v,e,wpAny_pure q⟩) fun _ _ e=>e) (args_tuple_getitem _ _))
theorem cut_whole {t sl:Addr}{items:Array Value}{vl vu:Value}{lo hi:Option Int}{Q:Value->Shared->Prop}(ht:IsTup s.heap t items)(hs:s.heap.IsSliceOf sl vl vu .none)(pl:IsPart vl lo)(pu:IsPart vu hi)(hw:HT.sIx items.size 0 lo=0/\HT.sIx items.size items.size hi=items.size)(h:Q (.ref t) s):wpAny (model prog w) A (getItem (.ref t) (.ref sl)) Q E s:=by
 have f1:s.TypeIs (.ref sl) "slice":=let⟨o,ho,hc,_⟩:=hs;⟨o,ho,hc⟩
 have f2:=ht.typeIs
 refine tup_at ht ?_
 wp_walk using tupleItemsOf_ ht,HT.sliceApplied_gen hs pl pu
 exact⟨_,rfl,h⟩
theorem rev_places (n:Nat):Builtin.Slice.sliceAdjust none none (-1) (n:Int)=((n:Int) - 1,-1)/\Builtin.Slice.slicePlaces ((n:Int) - 1) (-1) (-1)=n:=by
 refine⟨rfl,?_⟩
 unfold Builtin.Slice.slicePlaces
 rw[if_neg (by decide)]
 by_cases h:(n:Int) - 1>-1
 ·rw[if_pos h]
  have:((n:Int) - 1 - -1 - 1) / (- -1)=(n:Int) - 1:=by
   rw[show(- -1:Int)=1 by decide,Int.ediv_one];omega
  rw[this];omega
 ·rw[if_neg h];omega
theorem fm_congr {α β:Type}{f g:α->Option β}:∀{l:List α},(∀x∈l,f x=g x)->l.filterMap f=l.filterMap g
 |[],_=>rfl
 |x::r,h=>by
  rw[WY,WY,h x ZW,fm_congr (l:=r) fun y hy=>h y (ZT _ hy)]
theorem rev_pick (xs:List Value):((List.range xs.length).filterMap fun(m:Nat)=>xs.toArray[(((xs.length:Int) - 1)+(m:Int)*(-1)).toNat]?)=xs.reverse:=by
 apply ext_getElem?
 intro i
 have e:((List.range xs.length).filterMap fun(m:Nat)=>xs.toArray[(((xs.length:Int) - 1)+(m:Int)*(-1)).toNat]?)=(List.range xs.length).filterMap fun(m:Nat)=>xs[xs.length - 1 - m]?:=by
  apply fm_congr
  intro m hm
  have hm':=Ys.mp hm
  rw[List.getElem?_toArray]
  congr 1
  omega
 rw[e]
 have e2:((List.range xs.length).filterMap fun(m:Nat)=>xs[xs.length - 1 - m]?)=(List.range xs.length).map fun m=>xs.getD (xs.length - 1 - m) Value.none:=by
  rw[<-List.filterMap_eq_map]
  apply fm_congr
  intro m hm
  have hm':=Ys.mp hm
  show xs[xs.length - 1 - m]?=some (xs.getD (xs.length - 1 - m) Value.none)
  rw[Z4,Z1 (by omega)]
  rfl
 rw[e2,ZQ]
 by_cases hi:i<xs.length
 ·rw[Xq hi,List.getElem?_reverse hi]
  show some (xs.getD (xs.length - 1 - i) Value.none)=_
  rw[Z4,Z1 (by omega)]
  rfl
 ·rw[Zd (by simpa using hi),Zd (by simpa using hi)]
  rfl
theorem cut_rev {t sl:Addr}{its:List Value}{tk:Tok}{Q:Value->Shared->Prop}(ht:IsTup s.heap t its.toArray)(hs:s.heap.IsSliceOf sl .none .none (.int (-1) tk))(h:Q (.ref s.heap.objs.size) {s with heap:=s.heap.push {cls:=.type "tuple",data:=.seq its.reverse.toArray}})(hsz:its.length<=sizeLine):wpAny (model prog w) A (getItem (.ref t) (.ref sl)) Q E s:=by
 refine tup_at ht ?_
 obtain⟨hp,g,d,tk0,os⟩:=s
 obtain⟨⟨c,dc,dt,so⟩,hos,hcs,hds⟩:=id hs
 simp only at hcs hds
 subst hcs hds
 simp only at hos
 have fits:sizeOk (.seq its.reverse.toArray):=by
  show its.reverse.toArray.size<=sizeLine
  rw[ZF,WZ];exact hsz
 have f1:typeLookup (.type "int") (oS "__index__")=pure (some (.builtin "int.__index__")):=PySem.F.slot_int_index.lookup
 have all:(List.range (Builtin.Slice.slicePlaces (Builtin.Slice.sliceAdjust none none ((some (-1)).getD 1) its.toArray.size).1 (Builtin.Slice.sliceAdjust none none ((some (-1)).getD 1) its.toArray.size).2 ((some (-1)).getD 1))).filterMap
  (fun(k:Nat)=>its.toArray[((Builtin.Slice.sliceAdjust none none ((some (-1)).getD 1) its.toArray.size).1+(k:Int)*(some (-1)).getD 1).toNat]?)=its.reverse:=by
  show(List.range (Builtin.Slice.slicePlaces ((its.toArray.size:Int) - 1) (-1) (-1))).filterMap (fun(k:Nat)=>its.toArray[((its.toArray.size:Int) - 1+(k:Int)*(-1)).toNat]?)=_
  rw[(rev_places _).2,ZF]
  exact rev_pick its
 wp_walk using tupleItemsOf_ ht
 rw[all,if_neg (Nat.not_lt.mpr fits)]
 wp_walk
 exact⟨_,rfl,h⟩
end
section
variable {X:Cx}
theorem sl_tupA:SlR X rSlA:=by
 intro pins s σ H x v vl vu lo hi sl Q I rx hs pl pu h
 obtain⟨a,xs,rfl,hx,q⟩:=h
 cases(show v=Value.ref a from rx)
 by_cases hw:HT.sIx xs.length 0 lo=0/\HT.sIx xs.length xs.length hi=xs.length
 ·obtain⟨its,r,ht,hz⟩:=I.tuple (Y0.of hx)
  have hlen:its.toArray.size=xs.length:=by rw[ZF];exact r.length.symm
  refine⟨"tuple",_,slot_tuple_getitem.lookup,ht.typeIs,cut_whole ht hs pl pu (by rw[hlen];exact hw) ⟨.ref a,H,I,rfl,q a H (ZR.refl H) ?_⟩⟩
  rw[hx]
  unfold cutV
  rw[hw.1,hw.2,drop_zero,Nat.sub_zero,W7]
 ·exact sl_tup (X:=X) pins s σ H (.ref a) _ vl vu lo hi sl Q I rfl hs pl pu ⟨a,xs,rfl,Y0.of hx,hw,fun p hp=>q p _ (Z9 hp _) Z5⟩
def tRev (te:TE):TE:=fun σ H Q=>te σ H fun x H1=>∃a xs,x=.ref a/\H1 a=some (.tup xs)/\∀p,H1 p=none->Q (.ref p) (upd H1 p (.tup xs.reverse))
theorem pe_rev {e:Expr}{te:TE}{k:Nat}{p1 p2 p3 pos:Pos}(he:PE X e te):PE X (.Subscript e (.Slice none none (some (.UnaryOp .USub (.Constant (.int 1) k p1) p2)) p3) pos) (tRev te):=by
 intro pins s σ H Q I h
 refine Subscript_ (thn (he pins s σ H _ I h) fun v s1 ⟨x,H1,I1,r1,q1⟩=>?_)
 obtain⟨a,xs,rfl,hx,q⟩:=q1
 cases(show v=Value.ref a from r1)
 refine wpAny_Slice ?_
 rw[evalPart_none]
 refine wpAny_pure (wpAny_pure ?_)
 rw[evalPart_some]
 refine thn (XG Yn ZZ pins s1 σ H1 (fun w H2=>H2=H1/\w=.int (-1)) I1 ⟨1,rfl,rfl,rfl⟩) fun u s2 ⟨y,H2,I2,r2,e2,e3⟩=>?_
 subst e2 e3
 obtain⟨tk,rfl⟩:=(show ∃t,u=Value.int (-1) t from r2)
 have I3:Zq X pins σ H2 {s2 with heap:=s2.heap.push {cls:=.type "slice",data:=.fields #[.none,.none,.int (-1) tk]}}:=I2.kept (t':=s2.toks) fun b ob q=>Z8 _ q
 obtain⟨its,r,ht,hz⟩:=I3.tuple (Y0.of hx)
 have hlen:=r.length
 refine tail_any (ops:=[.ref a,.ref s2.heap.objs.size]) ht.typeIs slot_tuple_getitem.lookup (cut_rev ht (Heap.IsSliceOf.new ..) ?_ (by omega)) (by with_unfolding_all rfl)
 refine⟨.ref _,_,I3.laid (t':=s2.toks) (o:=.tup xs.reverse) (fun b ob q=>Z8 _ q) (Nat.le_refl _) ?_,rfl,q _ (I3.hok.fresh (Nat.le_refl _))⟩
 exact⟨by rw[WZ];exact hz,_,r.reverse,IsTup.new _ _⟩
end
structure Nx (P:Program)(w:World)(i l:Addr)(pl:Nat->Heap->Prop)(vs:Array Value):Prop where
 ne:l≠i
 there:∀k h,pl k h->(∃o,h.get? i=some o/\(∃c,o.cls=.type c/\(c="list_iterator"\/c="tuple_iterator"))/\∃f,o.data=.fields f)/\∃o,h.get? l=some o/\(o.cls=.type "list"\/o.cls=.type "tuple")
 keep:∀k h h',pl k h->(∀o,h.get? i=some o->h'.get? i=some o)->(∀o,h.get? l=some o->h'.get? l=some o)->pl k h'
 item:∀(A:Around) k (s:Shared) (Q:Value->Shared->Prop) (E:Value->Shared->Prop) x,pl k s.heap->vs[k]?=some x->(∀h',pl (k+1) h'->Heap.SameBut i s.heap h'->Q x {s with heap:=h'})->
  wpAny (model P w) A (Builtin.SmallTypes.nextOf (.ref i)) Q E s
 done:∀(A:Around) k (s:Shared) (Q:Value->Shared->Prop) (E:Value->Shared->Prop),A.handled=none->pl k s.heap->vs[k]?=none->
   (∀h' e,Heap.ExtBut i s.heap h'->(∃o,h'.get? e=some o/\o.cls=.type "StopIteration")->E (.ref e) {s with heap:=h'})->wpAny (model P w) A (Builtin.SmallTypes.nextOf (.ref i)) Q E s
theorem nx_list {P:Program}{w:World}{i l:Addr}(vs:Array Value)(hne:l≠i):Nx P w i l (fun k h=>h.IsListIter i l k/\h.IsList l vs) vs where
 ne:=hne
 there:=fun k h ⟨⟨o,e,c,d⟩,⟨o',e',c',_⟩⟩=>⟨⟨o,e,⟨_,c,.inl rfl⟩,_,d⟩,o',e',.inl c'⟩
 keep:=fun k h h' ⟨a,b⟩ e1 e2=>⟨a.at e1,b.at e2⟩
 item:=fun A k s Q E x ⟨a,b⟩ hx q=>wpAny_nextOf_list_item a b hx fun h' a' sb=>q h' ⟨a',b.extBut sb.extBut hne⟩ sb
 done:=fun A k s Q E hh ⟨a,b⟩ hx q=>wpAny_nextOf_list_end hh a b hx q
theorem tn_item (it t:Addr)(i:Nat)(dc:Option Addr)(sl:Array (Option Value))(items:Array Value)(x:Value)(hx:items[i]?=some x) :
 Meets (Builtin.«tuple_iterator.__next__» ⟨[.ref it],[]⟩) (fun _ R s=>s.heap.get? it=some ⟨.type "tuple_iterator",dc,.fields #[.ref t,.int i 0],sl⟩/\s.heap.IsTuple t items/\
  ∀h',h'.IsTupleIter it t (i+1)->Heap.SameBut it s.heap h'->R (.ok (.ret x)) {s with heap:=h'}):=
 .of_wp fun prog w A R s h=>by
  obtain⟨hp,g,d,tk,os⟩:=s
  obtain⟨h1,⟨⟨c,dc2,dt,sl2⟩,h2,hc,n,hd⟩,h⟩:=h
  simp only at hc hd
  subst hc hd
  simp only at h1 h2
  wp_walk
  rw[WA,hx]
  wp_walk
  exact⟨_,rfl,h _ ⟨_,Yy _ h1 rfl,rfl,rfl⟩ (.update ..)⟩
theorem tn_end (it t:Addr)(i:Nat)(dc:Option Addr)(sl:Array (Option Value))(items:Array Value)(hx:items[i]?=none) :
 Meets (Builtin.«tuple_iterator.__next__» ⟨[.ref it],[]⟩) (fun A R s=>A.handled=none/\s.heap.get? it=some ⟨.type "tuple_iterator",dc,.fields #[.ref t,.int i 0],sl⟩/\s.heap.IsTuple t items/\
  ∀h' e,Heap.ExtBut it s.heap h'->(∃o,h'.get? e=some o/\o.cls=.type "StopIteration")->R (.error (.ref e)) {s with heap:=h'}):=
 .of_wp fun prog w A R s h=>by
  obtain⟨hp,g,d,tk,os⟩:=s
  obtain⟨hh,h1,⟨⟨c,dc2,dt,sl2⟩,h2,hc,n,hd⟩,h⟩:=h
  simp only at hc hd
  subst hc hd
  simp only at h1 h2
  wp_walk
  rw[WA,hx]
  wp_walk
  exact wpAny_raiseNew_none hh (h _ _ (fun b o n e=>by repeat (first | exact ZK _ (Ne.symm n) e | refine Z8 _ ?_)) ⟨_,Zv _ rfl,rfl⟩)
theorem nx_tup {P:Program}{w:World}{i l:Addr}(vs:Array Value)(hne:l≠i):Nx P w i l (fun k h=>h.IsTupleIter i l k/\h.IsTuple l vs) vs where
 ne:=hne
 there:=fun k h ⟨⟨o,e,c,d⟩,⟨o',e',c',_⟩⟩=>⟨⟨o,e,⟨_,c,.inr rfl⟩,_,d⟩,o',e',.inr c'⟩
 keep:=fun k h h' ⟨a,b⟩ e1 e2=>⟨a.at e1,b.at e2⟩
 item:=fun A k s Q E x ⟨a,b⟩ hx q=>by
  obtain⟨⟨c,dc,dt,sl⟩,e,hc,hd⟩:=a
  simp only at hc hd
  subst hc hd
  have hT:s.TypeIs (.ref i) "tuple_iterator":=⟨_,e,rfl⟩
  exact wpAny_bind (wpAny_callSpecial?_slot (name:=oS "__next__") hT F.slot_tuple_iterator_next (call_meets F.slot_tuple_iterator_next hT F.entry_tuple_iterator_next (F.args_tuple_iterator_next_1 _)
   (tn_item i l k dc sl vs x hx) ⟨e,b,fun h' a' sb=>wpAny_pure (q h' ⟨a',b.extBut sb.extBut hne⟩ sb)⟩))
 done:=fun A k s Q E hh ⟨a,b⟩ hx q=>by
   obtain⟨⟨c,dc,dt,sl⟩,e,hc,hd⟩:=a
   simp only at hc hd
   subst hc hd
   have hT:s.TypeIs (.ref i) "tuple_iterator":=⟨_,e,rfl⟩
   exact wpAny_bind (wpAny_callSpecial?_slot (name:=oS "__next__") hT F.slot_tuple_iterator_next (call_meets F.slot_tuple_iterator_next hT F.entry_tuple_iterator_next (F.args_tuple_iterator_next_1 _)
    (tn_end i l k dc sl vs hx) ⟨hh,e,b,q⟩))
section
variable {P:Program}{w:World}{A:Around}{E:Value->Shared->Prop}{s:Shared}{z TI TO i j l m:Addr}{p1 p2:Nat->Heap->Prop}{xs ys:Array Value}{k:Nat}
theorem zip_item {x y a b:Value}{Q:Option Value->Shared->Prop}(nd:[z,TI,TO,i,j].Nodup)(c1:l∉[z,TI,TO,i,j])(c2:m∉[z,TI,TO,i,j])(N1:Nx P w i l p1 xs)(N2:Nx P w j m p2 ys)(hz:IsZip s.heap z TI TO .none)(hTI:IsPair s.heap TI (.ref i) (.ref j))(hTO:IsPair s.heap TO a b)(q1:p1 k s.heap)(q2:p2 k s.heap)(hx:xs[k]?=some x)(hy:ys[k]?=some y)(hQ:∀h',IsZip h' z TI TO (rawInt s.heap.objs.size)->IsPair h' TO x y->p1 (k+1) h'->p2 (k+1) h'->IsPair h' s.heap.objs.size x y->h'.objs.size=s.heap.objs.size+1->
  (∀c o,c≠z->c≠TO->c≠i->c≠j->s.heap.get? c=some o->h'.get? c=some o)->Q (some (.ref s.heap.objs.size)) {s with heap:=h'}) :
 wpAny (model P w) A (pyNext (.ref z)) Q E s:=by
 simp only[W8,ZV,ZC,or_false,not_or,not_false_eq_true,and_true,nodup_nil]at nd c1 c2
 have hT:s.TypeIs (.ref z) "zip":=⟨_,hz,rfl⟩
 unfold pyNext
 refine wpAny_bind (wpAny_attempt (wpAny_callSpecial?_slot (name:=oS "__next__") hT F.slot_zip_next (wpAny_call_entry F.slot_zip_next hT F.entry_zip_next ?_ (F.args_zip_next_1 _))))
 obtain⟨hp,g,d,tk,os⟩:=s
 wp_walk using wpAny_onRaise,N1.item _ k _ _ _ x
 ·exact N1.keep _ _ _ q1 (fun o e=>ZK _ nd.1.2.2.1 e) fun o e=>ZK _ (Ne.symm c1.1) e
 ·exact hx
 intro g2 r2 s2
 have t2:IsPair g2 TO a b:=s2.extBut _ _ nd.2.2.1.1 (ZK _ nd.1.2.1 hTO)
 wp_walk using wpAny_onRaise,N2.item _ k _ _ _ y
 ·exact N2.keep _ _ _ q2 (fun o e=>ZK _ nd.2.2.1.2 (s2.extBut _ _ (Ne.symm nd.2.2.2) (ZK _ nd.1.2.2.2 e)))
   fun o e=>ZK _ (Ne.symm c2.2.2.1) (s2.extBut _ _ c2.2.2.2.1 (ZK _ (Ne.symm c2.1) e))
 ·exact hy
 intro g4 r4 s4
 have t4:=s4.extBut _ _ nd.2.2.1.2 (Yy (Obj.mapSeq fun q=>q.setIfInBounds 0 x) t2 rfl)
 have nz:TO≠z:=Ne.symm nd.1.2.1
 have z4:=s4.extBut _ _ nd.1.2.2.2 (ZK (Obj.mapSeq fun q=>q.setIfInBounds 0 x) nz (s2.extBut _ _ nd.1.2.2.1 (Yy (Obj.mapFields fun q=>q.setIfInBounds 0 Value.ellipsis) hz rfl)))
 wp_walk
 refine⟨_,rfl,wpAny_pure ?_⟩
 have sz:(g4.update TO (Obj.mapSeq fun q=>q.setIfInBounds (0+1) y)).objs.size=hp.objs.size:=by
  rw[W3,s4.1]
  show(g2.update TO _).objs.size=_
  rw[W3,s2.1]
  exact W3 ..
 rw[sz]
 have zl:z<hp.objs.size:=ZA hz
 have last:∀{G:Heap} {c:Addr} {o:Obj} {f1 f2:Obj->Obj},c≠z->G.get? c=some o->((G.update z f1).update z f2).get? c=some o:=fun n e=>ZK _ (Ne.symm n) (ZK _ (Ne.symm n) e)
 have mid:∀{c:Addr} {o:Obj} {T:Obj},c≠TO->g4.get? c=some o->((g4.update TO (Obj.mapSeq fun q=>q.setIfInBounds (0+1) y)).push T).get? c=some o:=fun n e=>Z8 _ (ZK _ (Ne.symm n) e)
 refine hQ _ (Yy _ (Yy _ (mid (Ne.symm nz) z4) rfl) rfl) (last nz (Z8 _ (Yy _ t4 rfl)))
  (N1.keep _ _ _ r2 (fun o e=>last (Ne.symm nd.1.2.2.1) (mid (Ne.symm nd.2.2.1.1) (s4.extBut _ _ nd.2.2.2 (ZK _ nd.2.2.1.1 e))))
   fun o e=>last c1.1 (mid c1.2.2.1 (s4.extBut _ _ c1.2.2.2.2 (ZK _ (Ne.symm c1.2.2.1) e))))
  (N2.keep _ _ _ r4 (fun o e=>last (Ne.symm nd.1.2.2.2) (mid (Ne.symm nd.2.2.1.2) e)) fun o e=>last c2.1 (mid c2.2.2.1 e))
  (last (Vw zl) (V7 sz.symm rfl)) ?_ fun c o n1 n2 n3 n4 e=>last n1 (mid n2 (s4.extBut _ _ n4 (ZK _ (Ne.symm n2) (s2.extBut _ _ n3 (ZK _ (Ne.symm n1) e)))))
 rw[W3,W3,XJ,sz]
theorem zip_done {a b:Value}{Q:Option Value->Shared->Prop}(hh:A.handled=none)(nd:[z,TI,TO,i,j].Nodup)(c1:l∉[z,TI,TO,i,j])(c2:m∉[z,TI,TO,i,j])(N1:Nx P w i l p1 xs)(N2:Nx P w j m p2 ys)(hz:IsZip s.heap z TI TO .none)(hTI:IsPair s.heap TI (.ref i) (.ref j))(hTO:IsPair s.heap TO a b)(q1:p1 k s.heap)(q2:p2 k s.heap)(hend:xs[k]?=none\/ys[k]?=none)(hQ:∀h',(∀c o,c≠z->c≠TO->c≠i->c≠j->s.heap.get? c=some o->h'.get? c=some o)->Q none {s with heap:=h'}):wpAny (model P w) A (pyNext (.ref z)) Q E s:=by
 simp only[W8,ZV,ZC,or_false,not_or,not_false_eq_true,and_true,nodup_nil]at nd c1 c2
 have hT:s.TypeIs (.ref z) "zip":=⟨_,hz,rfl⟩
 have stop:∀(G:Heap) (e:Addr) (o:Obj),G.get? z=some ⟨.type "zip",none,.fields #[.ellipsis,.bool false,.bool false,.ref TI,.ref TO],#[]⟩->G.get? e=some o->o.cls=.type "StopIteration"->
  (∀c o,c≠z->c≠TO->c≠i->c≠j->s.heap.get? c=some o->G.get? c=some o)->
  wpAny (model P w) A.in1 (setField (.ref z) 0 .none) (fun _ s''=>wpAny (model P w) A (do if(<-isInstance (.ref e) (.type "StopIteration"))=true then pure none else throw (.ref e)) Q E s'') (fun e' s''=>wpAny (model P w) A (do if(<-isInstance e' (.type "StopIteration"))=true then pure none else throw e') Q E s'') {s with heap:=G}:=fun G e o g1 g2 hc kp=>by
  have ne:z≠e:=fun q=>by subst q;rw[g1]at g2;cases g2;exact absurd (show Value.type "zip" = Value.type "StopIteration" from hc) (by decide)
  have g3:=ZK (Obj.mapFields fun q=>q.setIfInBounds 0 Value.none) ne g2
  obtain⟨hp,gs,d,tk,os⟩:=s
  have ht:Shared.TypeIs ⟨G.update z (Obj.mapFields fun q=>q.setIfInBounds 0 Value.none),gs,d,tk,os⟩ (.ref e) "StopIteration":=⟨o,g3,hc⟩
  have sub:=isSubtype_stop
  wp_walk
  exact hQ _ fun c o n1 n2 n3 n4 q=>ZK _ (Ne.symm n1) (kp c o n1 n2 n3 n4 q)
 unfold pyNext
 refine wpAny_bind (wpAny_attempt (wpAny_callSpecial?_slot (name:=oS "__next__") hT F.slot_zip_next (wpAny_call_entry F.slot_zip_next hT F.entry_zip_next ?_ (F.args_zip_next_1 _))))
 have z1:=Yy (Obj.mapFields fun q=>q.setIfInBounds 0 Value.ellipsis) hz rfl
 obtain⟨hp,g,d,tk,os⟩:=s
 have f1:p1 k (hp.update z (Obj.mapFields fun q=>q.setIfInBounds 0 Value.ellipsis)):=N1.keep _ _ _ q1 (fun o e=>ZK _ nd.1.2.2.1 e) fun o e=>ZK _ (Ne.symm c1.1) e
 cases hx:xs[k]? with
 |none=>
  wp_walk using wpAny_onRaise,N1.done _ k
  ·exact hh
  ·exact f1
  ·exact hx
  intro g2 e s2 he
  obtain⟨o,ho,hc⟩:=he
  exact stop g2 e o (s2 _ _ nd.1.2.2.1 z1) ho hc fun c o n1 n2 n3 n4 q=>s2 _ _ n3 (ZK _ (Ne.symm n1) q)
 |some x=>
  have hy:ys[k]?=none:=hend.resolve_left (by rw[hx];exact nofun)
  wp_walk using wpAny_onRaise,N1.item _ k _ _ _ x
  ·exact f1
  ·exact hx
  intro g2 r2 s2
  have t2:IsPair g2 TO a b:=s2.extBut _ _ nd.2.2.1.1 (ZK _ nd.1.2.1 hTO)
  wp_walk using wpAny_onRaise,N2.done _ k
  ·exact hh
  ·exact N2.keep _ _ _ q2 (fun o e=>ZK _ nd.2.2.1.2 (s2.extBut _ _ (Ne.symm nd.2.2.2) (ZK _ nd.1.2.2.2 e)))
    fun o e=>ZK _ (Ne.symm c2.2.2.1) (s2.extBut _ _ c2.2.2.2.1 (ZK _ (Ne.symm c2.1) e))
  ·exact hy
  intro g4 e s4 he
  obtain⟨o,ho,hc⟩:=he
  exact stop g4 e o (s4 _ _ nd.1.2.2.2 (ZK _ (Ne.symm nd.1.2.1) (s2.extBut _ _ nd.1.2.2.1 z1))) ho hc
   fun c o n1 n2 n3 n4 q=>s4 _ _ n4 (ZK _ (Ne.symm n2) (s2.extBut _ _ n3 (ZK _ (Ne.symm n1) q)))
end
section
variable {prog:Program}{w:World}{A:Around}{E:Value->Shared->Prop}{s:Shared}{r:Addr}{a b c:Int}{t u v:Tok}{n:Nat}
theorem collect_by {x:Value}{P:Array Value->Prop}{Q:List Value->Shared->Prop}(ext:∀R:Result->Shared->Prop,(∀h' tk us k,(∀b o,s.heap.get? b=some o->h'.get? b=some o)->h'.get? s.heap.objs.size=some ⟨.type "list",none,.seq us k,#[]⟩->P us->R (.ok (.ret (.ref s.heap.objs.size))) {s with heap:=h',toks:=tk})->
  codeAny (model prog w) A (.builtin "list.__iadd__" ⟨[.ref s.heap.objs.size,x],[]⟩) R {s with heap:=s.heap.push ⟨.type "list",none,.seq #[] 0,#[]⟩})(hQ:∀h' tk us,(∀b o,s.heap.get? b=some o->h'.get? b=some o)->P us->Q us.toList {s with heap:=h',toks:=tk}):wpAny (model prog w) A (collect x) Q E s:=by
 obtain⟨hp,g,d,tk,os⟩:=s
 have e1:=F.entry_proto_collect
 refine wpAny_bind (wpAny_runValue (codeAny_builtin e1 (Around.under_plainId F.plain_proto_collect _▸?_)))
 wp_walk
 refine⟨plainId_quiet F.plain_list_iadd _,ext _ fun h' tk' us k kp at0 p=>?_⟩
 have q:=hQ h' tk' us kp p
 wp_walk
 exact q
theorem collect_rng {Q:List Value->Shared->Prop}(hh:A.handled=none)(hr:IsRange s.heap r a b c t u v)(hsm:Builtin.Range.small a b c=true)(hn:Builtin.Range.rangeSize a b c=n)(hl:n<=2^24)(hQ:∀h' tk acc,(∀b o,s.heap.get? b=some o->h'.get? b=some o)->ItemsOf (fun i v=>∃t,v=.int (a+i*c) t) acc n->Q acc.toList {s with heap:=h',toks:=tk}):wpAny (model prog w) A (collect (.ref r)) Q E s:=
 collect_by (P:=fun us=>ItemsOf (fun i v=>∃t,v=.int (a+i*c) t) us n) (fun R hR=>codeAny_builtin F.entry_list_iadd (Around.under_plainId F.plain_list_iadd _▸
  wpAny_extend_range hh (Z8 _ hr) hsm hn hl _ _ 0 (Zv _ rfl) fun h' tk us k kp at0 its=>hR h' tk us k (fun b o e=>kp b o (Zs (ZA e)) (Z8 _ e)) at0 its)) hQ
theorem tr_new (r:Addr)(a b c:Int)(t u v:Tok)(n:Nat)(hsm:Builtin.Range.small a b c=true)(hn:Builtin.Range.rangeSize a b c=n)(hl:n<=sizeLine) :
 Meets (Builtin.«tuple.__new__» ⟨[.type "tuple",.ref r],[]⟩) (fun A R s=>A.handled=none/\IsRange s.heap r a b c t u v/\
  ∀(h':Heap) (tk:Nat) (acc:Array Value),(∀b o,s.heap.get? b=some o->h'.get? b=some o)->ItemsOf (fun i v=>∃t,v=.int (a+i*c) t) acc n->R (.ok (.ret (.ref h'.objs.size))) {s with heap:=h'.push {cls:=.type "tuple",data:=.seq acc},toks:=tk}):=
 .of_wp fun prog w A R s h=>by
  obtain⟨hp,g,d,tk,os⟩:=s
  obtain⟨hh,hr,h⟩:=h
  have k1:=sub_tuple_self
  have k2:=init_tuple_lookup
  have k3:=madeHere_tuple
  have k4:Shared.TypeIs ⟨hp,g,d,tk,os⟩ (.ref r) "range":=⟨_,hr,rfl⟩
  wp_walk using wpAny_typeOf k4,collect_rng (A:=A.in1) hh hr hsm hn (by rw[sizeLine_eq]at hl;exact hl)
  intro h' tk' acc kp its
  have fit:acc.toList.toArray.size<=sizeLine:=by simp only[Array.toArray_toList];rw[its.1];exact hl
  have back:acc.toList.toArray=acc:=by simp
  refine wpAny_bind (wpAny_pure (wpAny_bind (wpAny_newObj_type (data:=.seq acc.toList.toArray) ?_ fit)))
  rw[back]
  exact wpAny_pure ⟨_,rfl,h h' tk' acc kp its⟩
theorem tuple_rng {Q:Value->Shared->Prop}(hh:A.handled=none)(hr:IsRange s.heap r a b c t u v)(hsm:Builtin.Range.small a b c=true)(hn:Builtin.Range.rangeSize a b c=n)(hl:n<=sizeLine)(hQ:∀(h':Heap) tk acc,(∀b o,s.heap.get? b=some o->h'.get? b=some o)->ItemsOf (fun i v=>∃t,v=.int (a+i*c) t) acc n->Q (.ref h'.objs.size) {s with heap:=h'.push {cls:=.type "tuple",data:=.seq acc},toks:=tk}) :
 wpAny (model prog w) A (call (.type "tuple") [.ref r]) Q E s:=
 callType_new F.called_tuple (by decide) (F.typeCall_tuple_1 _) (F.newCall_tuple_1 _) (fun obj=>F.args_object_init_2 obj _) F.entry_tuple_new (tr_new r a b c t u v n hsm hn hl)
  ⟨hh,hr,fun h' tk acc kp its=>⟨⟨_,Zv _ rfl,rfl⟩,hQ h' tk acc kp its⟩⟩
end
def ups (lo:Int)(n:Nat):List Int:=(List.range n).map fun(k:Nat)=>lo+(k:Int)
theorem Yo (lo:Int)(n:Nat):(ups lo n).length=n:=by unfold ups;rw[Z2,YY]
theorem vals_items {lo:Int}{n:Nat}{acc:Array Value}(h:ItemsOf (fun i v=>∃t,v=Value.int (lo+i*1) t) acc n):Y7 ((ups lo n).map V.int) acc.toList:=by
 have:∀(us:List Value) (ns:List Int),us.length=ns.length->(∀(j:Nat) (u:Value),us[j]?=some u->∃t,∃i,ns[j]?=some i/\u=Value.int i t)->Y7 (ns.map V.int) us:=by
  intro us
  induction us with
  |nil=>intro ns hl _;cases ns with
   |nil=>exact .nil
   |cons=>cases hl
  |cons x r ih=>
   intro ns hl hh
   cases ns with
   |nil=>cases hl
   |cons n ns=>
    obtain⟨t,i,e1,e2⟩:=hh 0 x rfl
    have:n=i:=by simpa using e1
    subst this
    exact .cons ⟨t,e2⟩ (ih ns (by simpa using hl) fun j u hj=>hh (j+1) u (by simpa using hj))
 refine this _ _ (by rw[Yo,Wz];exact h.1) fun j u hj=>?_
 have hj':acc[j]?=some u:=by simpa using hj
 obtain⟨t,e⟩:=h.2 j u hj'
 have hjn:j<n:=by rw[<-h.1];exact(Array.getElem?_eq_some_iff.mp hj').1
 refine⟨t,lo+(j:Int),?_,by rw[e,Int.mul_one]⟩
 unfold ups
 rw[ZQ,Xq hjn]
 rfl
section
variable {X:Cx}
theorem Ww:XC X (.type "range") (fun xs H Q=>∃i j:Int,xs=[.int i,.int j]/\∀p,H p=none->Q (.ref p) (upd H p (.rng i j))):=by
 intro pins s σ H xs us Q I r h
 obtain⟨i,j,rfl,q⟩:=h
 obtain⟨u,u',rfl,r1,r2⟩:=UN r
 obtain⟨t,rfl⟩:=(show ∃t,u=Value.int i t from r1)
 obtain⟨t',rfl⟩:=(show ∃t,u'=Value.int j t from r2)
 refine call_range_2 ⟨.ref s.heap.objs.size,_,I.laid (a:=s.heap.objs.size) (o:=.rng i j) (fun b ob q=>Z8 _ q) (Nat.le_refl _) ⟨_,_,_,Zv _ rfl⟩,rfl,q _ (I.hok.fresh (Nat.le_refl _))⟩
theorem call_tuple_rng (hc:X.calm=true):XC X (.type "tuple") (fun xs H Q=>∃p i j,xs=[.ref p]/\H p=some (.rng i j)/\(-(2^62)<=i/\i<2^62/\-(2^62)<=j/\j<2^62)/\(j - i).toNat<=sizeLine/\
 ∀l,H l=none->Q (.ref l) (upd H l (.tup ((ups i (j - i).toNat).map V.int)))):=by
 intro pins s σ H xs us Q I r h
 obtain⟨p,i,j,rfl,hp,⟨b1,b2,b3,b4⟩,hz,q⟩:=h
 obtain⟨u,rfl,rx⟩:=Wr r
 cases(show u=Value.ref p from rx)
 obtain⟨t1,t2,t3,ho⟩:=(show YG X.prog X.w H s.heap p (.rng i j) from I.hok p _ hp)
 refine tuple_rng (I.ok.hd hc) ho (small_one b1 b2 b3 b4) (n:=(j - i).toNat) (by rw[rangeSize_one];split<;>omega) hz fun h' tk acc hk hacc=>?_
 have I1:Zq X pins σ H {s with heap:=h',toks:=tk}:=I.kept hk
 refine⟨.ref h'.objs.size,_,I1.laid (t':=tk) (o:=.tup ((ups i (j - i).toNat).map V.int)) (fun b ob q=>Z8 _ q) (Nat.le_refl _) ?_,rfl,q _ (I1.hok.fresh (Nat.le_refl _))⟩
 refine⟨by rw[Z2,Yo];exact hz,acc.toList,vals_items hacc,?_⟩
 have e:acc.toList.toArray=acc:=by simp
 rw[e]
 exact IsTup.new _ _
theorem Xm (hc:X.calm=true):XC X (.type "list") (fun xs H Q=>∃p i j,xs=[.ref p]/\H p=some (.rng i j)/\(-(2^62)<=i/\i<2^62/\-(2^62)<=j/\j<2^62)/\(j - i).toNat<=sizeLine/\
 ∀l,H l=none->Q (.ref l) (upd H l (.lst ((ups i (j - i).toNat).map V.int)))):=by
 intro pins s σ H xs us Q I r h
 obtain⟨p,i,j,rfl,hp,⟨b1,b2,b3,b4⟩,hz,q⟩:=h
 obtain⟨u,rfl,rx⟩:=Wr r
 cases(show u=Value.ref p from rx)
 obtain⟨t1,t2,t3,ho⟩:=(show YG X.prog X.w H s.heap p (.rng i j) from I.hok p _ hp)
 refine call_list_range (I.ok.hd hc) ho (small_one b1 b2 b3 b4) (n:=(j - i).toNat) (by rw[rangeSize_one];split<;>omega) (by rw[sizeLine_eq]at hz;exact hz) fun h' tk acc c' hk hS hacc=>?_
 refine⟨.ref s.heap.objs.size,_,I.laid (a:=s.heap.objs.size) (t':=tk) (o:=.lst ((ups i (j - i).toNat).map V.int)) hk (Nat.le_refl _) ?_,rfl,q _ (I.hok.fresh (Nat.le_refl _))⟩
 refine⟨by rw[Z2,Yo];exact hz,acc.toList,c',vals_items hacc,?_⟩
 have e:acc.toList.toArray=acc:=by simp
 rw[e]
 exact hS
end
def SD (t:Bool)(i l:Addr)(k:Nat)(h:Heap):Prop:=match t with
 |true=>h.IsTupleIter i l k
 |false=>h.IsListIter i l k
def SqK (t:Bool)(K:W.Frag)(H:Hp)(l:Addr)(xs:List V):Prop:=match t with
 |true=>Y0 K H l xs
 |false=>Zp K H l xs
theorem SD.at {t:Bool}{i l:Addr}{k:Nat}{h h':Heap}(x:SD t i l k h)(e:∀o,h.get? i=some o->h'.get? i=some o):SD t i l k h':=by
 cases t
 ·exact Heap.IsListIter.at x e
 ·exact Heap.IsTupleIter.at x e
theorem SD.obj {t:Bool}{i l:Addr}{k:Nat}{h:Heap}(x:SD t i l k h):∃o f c,h.get? i=some o/\o.data=.fields f/\o.cls=.type c/\(c="list_iterator"\/c="tuple_iterator"):=by
 cases t
 ·obtain⟨o,e,c,d⟩:=(show h.IsListIter i l k from x)
  exact⟨o,_,_,e,d,c,.inl rfl⟩
 ·obtain⟨o,e,c,d⟩:=(show h.IsTupleIter i l k from x)
  exact⟨o,_,_,e,d,c,.inr rfl⟩
section
variable {X:Cx}{pins:List (Addr×Obj)}{σ:St}{H:Hp}{s:Shared}
theorem Zq.sqk {t:Bool}{l:Addr}{xs:List V}(I:Zq X pins σ H s)(h:SqK t X.K H l xs):∃its:List Value,Y7 xs its/\(∃o,s.heap.get? l=some o/\(o.cls=.type "list"\/o.cls=.type "tuple"))/\
 ∀(i:Addr),l≠i->∃pl:Nat->Heap->Prop,Nx X.prog X.w i l pl its.toArray/\(∀k,SD t i l k s.heap->pl k s.heap)/\(∀k h',pl k h'->SD t i l k h'):=by
 cases t
 ·obtain⟨its,r,p,hz⟩:=I.list (show Zp X.K H l xs from h)
  obtain⟨o,ho,hc,n,hd⟩:=id p.isList
  exact⟨its,r,⟨o,ho,.inl hc⟩,fun i ne=>⟨_,nx_list its.toArray ne,fun k z=>⟨z,p.isList⟩,fun k h' z=>z.1⟩⟩
 ·obtain⟨its,r,p,hz⟩:=I.tuple (show Y0 X.K H l xs from h)
  obtain⟨o,ho,hc,n,hd⟩:=id p
  exact⟨its,r,⟨o,ho,.inr hc⟩,fun i ne=>⟨_,nx_tup its.toArray ne,fun k z=>⟨z,p⟩,fun k h' z=>z.1⟩⟩
theorem Zq.sqk_inj {t:Bool}{l:Addr}{xs ys:List V}(I:Zq X pins σ H s)(h:SqK t X.K H l xs)(h':SqK t X.K H l ys):xs=ys:=by
 cases t
 ·exact I.list_inj h h'
 ·exact I.tuple_inj h h'
end
def Itz (t:Bool)(K:W.Frag)(l m:Addr):It where
 go:=fun i H=>∃xs ys x y,SqK t K H l xs/\SqK t K H m ys/\xs[i]?=some x/\ys[i]?=some y
 yld:=fun i H v H'=>∃p x y,v=.ref p/\H p=none/\H'=upd H p (.tup [x,y])/\(∀xs,SqK t K H l xs->xs[i]?=some x)/\∀ys,SqK t K H m ys->ys[i]?=some y
 stop:=fun i H=>∃xs ys,SqK t K H l xs/\SqK t K H m ys/\(xs[i]?=none\/ys[i]?=none)
theorem turn_zip {P:Program}{w:World}{K:W.Frag}{es:List Expr}{k0:Nat}{pos:Pos}{t:Bool}{z TI TO i j l m:Addr}(a1:TI≠z)(a2:TO≠z)(a3:i≠z)(a4:j≠z)(a5:TI≠TO)(a6:TI≠i)(a7:TI≠j)(a8:TO≠i)(a9:TO≠j)(b1:i≠j)(c1:l∉[z,TI,TO,i,j])(c2:m∉[z,TI,TO,i,j]) :
 Turn P w K (.Tuple es k0 pos) (Itz t K l m) [z,TI,TO,i,j] z (fun k h=>IsZip h z TI TO .none/\IsPair h TI (.ref i) (.ref j)/\(∃a b,IsPair h TO a b)/\SD t i l k h/\SD t j m k h) where
 mem:=by simp
 obj:=fun k h ⟨hz,h1,⟨a,b,h2⟩,h3,h4⟩ c hc=>by
  obtain⟨o1,f1,_,e1,d1,_⟩:=h3.obj
  obtain⟨o2,f2,_,e2,d2,_⟩:=h4.obj
  simp only[ZV,ZC,or_false]at hc
  rcases hc with rfl | rfl | rfl | rfl | rfl
  ·exact⟨_,hz,fun v q=>by cases q⟩
  ·exact⟨_,h1,fun v q=>by cases q⟩
  ·exact⟨_,h2,fun v q=>by cases q⟩
  ·exact⟨_,e1,fun v q=>by rw[d1]at q;cases q⟩
  ·exact⟨_,e2,fun v q=>by rw[d2]at q;cases q⟩
 keep:=fun k h h' ⟨hz,h1,⟨a,b,h2⟩,h3,h4⟩ kp=>⟨kp z (by simp) _ hz,kp TI (by simp) _ h1,⟨a,b,kp TO (by simp) _ h2⟩,h3.at fun o e=>kp i (by simp) o e,h4.at fun o e=>kp j (by simp) o e⟩
 item:=by
  intro X hP hw hK hc k pins s σ H E I hf st hg
  subst hP hw hK
  obtain⟨xs,ys,x,y,hl,hm,hx,hy⟩:=hg
  obtain⟨hz,h1,⟨a,b,h2⟩,h3,h4⟩:=st
  have cl:=c1
  have cm:=c2
  simp only[ZV,ZC,or_false,not_or]at c1 c2
  obtain⟨its,r1,_,n1⟩:=I.sqk hl
  obtain⟨jts,r2,_,n2⟩:=I.sqk hm
  obtain⟨p1,N1,u1,v1⟩:=n1 i c1.2.2.2.1
  obtain⟨p2,N2,u2,v2⟩:=n2 j c2.2.2.2.2
  obtain⟨u,hu,ru⟩:=r1.get hx
  obtain⟨u',hu',ru'⟩:=r2.get hy
  have D:[z,TI,TO,i,j].Nodup:=by simp[a1,a2,a3,a4,a5,a6,a7,a8,a9,b1,Ne.symm a1,Ne.symm a2,Ne.symm a3,Ne.symm a4]
  refine zip_item D cl cm N1 N2 hz h1 h2 (u1 k h3) (u2 k h4) (x:=u) (y:=u') (by simpa using hu) (by simpa using hu') fun h' z1 z2 z3 z4 z5 z6 kp=>?_
  refine⟨_,rfl,wpAny_letOwnedTupleGo_zip z1 fun h'' y1 sb=>?_⟩
  have fz:H s.heap.objs.size=none:=I.hok.fresh (Nat.le_refl _)
  have zlt:z<s.heap.objs.size:=ZA hz
  have mine:∀c∈[z,TI,TO,i,j],c≠s.heap.objs.size:=fun c hc'=>by
   obtain⟨o1,f1,_,e1,d1,_⟩:=h3.obj
   obtain⟨o2,f2,_,e2,d2,_⟩:=h4.obj
   simp only[ZV,ZC,or_false]at hc'
   rcases hc' with rfl | rfl | rfl | rfl | rfl
   ·exact Zs (ZA hz)
   ·exact Zs (ZA h1)
   ·exact Zs (ZA h2)
   ·exact Zs (ZA e1)
   ·exact Zs (ZA e2)
  have kp2:∀c o,c∉[z,TI,TO,i,j]->s.heap.get? c=some o->h''.get? c=some o:=fun c o hc' e=>by
   simp only[ZV,ZC,or_false,not_or]at hc'
   exact sb.extBut _ _ hc'.1 (kp c o hc'.1 hc'.2.2.1 hc'.2.2.2.1 hc'.2.2.2.2 e)
  have tp:h''.get? s.heap.objs.size=some {cls:=.type "tuple",data:=.seq #[u,u']}:=sb.extBut _ _ (mine z (by simp)).symm z5
  have notH:∀c∈[z,TI,TO,i,j],H c=none:=fun c hc'=>(hf c hc').1
  have I1:Zq X pins σ (upd H s.heap.objs.size (.tup [x,y])) {s with heap:=h''}:=by
   have un:Un X.fs [z,TI,TO,i,j] H (upd H s.heap.objs.size (.tup [x,y])) s.heap h'':=
    ⟨fun c o e n nf hx=>kp2 c o hx e,fun c o e n nf hx=>⟨o.slots,kp2 c o hx e⟩,fun c o e n hx=>by rw[ZS (Zs (ZA e))];exact n,
     fun c o e hx=>⟨o,kp2 c o hx e⟩,fun c xs e=>by rw[ZS (ZP e fz)];exact e,fun c o xs e=>by rw[ZS (ZP e fz)];exact e,fun c ps e=>⟨#[],by rw[ZS (ZP e fz),e];simp⟩⟩
   have hok:VC X.prog X.w (upd H s.heap.objs.size (.tup [x,y])) h'':=fun c o e=>by
    by_cases hcs:c=s.heap.objs.size
    ·subst hcs
     rw[Z5]at e
     cases e
     exact⟨by show 2<=sizeLine;decide,[u,u'],.cons ru (.cons ru' .nil),⟨_,tp,rfl,_,rfl⟩⟩
    ·rw[ZS hcs]at e
     refine(I.hok c o e).stay (fun d w' hd q=>kp2 d w' (fun zz=>?_) q) (fun d q=>?_) fun d w' q=>?_
     ·have hn:=notH d zz
      rcases hd with rfl | hd
      ·rw[hn]at e;cases e
      ·rw[hn]at hd;cases hd
     ·rw[ZS (ZP q fz)];exact q
     ·rw[ZS (ZP q fz)];exact q
   have hch:∀b∈[z,TI,TO,i,j],(b∈X.ex\/X.s₀.heap.objs.size<=b)/\b≠X.env.locals/\(∀x c,X.env.cells.lookup x=some c->c≠b)/\∀p∈X.pn++pins,p.1≠b:=fun b hb=>⟨(hf b hb).2.2.2.1,(hf b hb).2.1,(hf b hb).2.2.2.2.1,(hf b hb).2.2.2.2.2⟩
   refine I.step (g':=s.gens) (d':=s.drawn) (t':=s.toks) (ch:=[z,TI,TO,i,j]) hch (fun c o _ _ hc' e _=>kp2 c o hc' e) (fun c o _ _ hc' e _=>⟨o.slots,kp2 c o hc' e⟩) (fun c o hc' e n=>un.free c o e n hc') (fun c o hc' e=>un.there c o e hc') un.tups un.frzs un.tbls (fun m' hm'=>?_) hok I.bare
   obtain⟨o,es',ep,ho,r⟩:=hm'
   exact⟨o,es',ep,kp2 _ o (fun zz=>(hf _ zz).2.1 rfl) ho,r⟩
  refine⟨.ref s.heap.objs.size,_,I1,rfl,⟨s.heap.objs.size,x,y,rfl,fz,rfl,fun xs' q=>by rw[I.sqk_inj q hl];exact hx,fun ys' q=>by rw[I.sqk_inj q hm];exact hy⟩,?_,fun c hc'=>?_⟩
  ·have up:∀c o,c≠z->h'.get? c=some o->h''.get? c=some o:=fun c o hc' e=>sb.extBut _ _ hc' e
   exact⟨y1,up _ _ a1 (kp _ _ a1 a5 a6 a7 h1),⟨_,_,up _ _ a2 z2⟩,(v1 _ _ z3).at fun o e=>up _ o a3 e,(v2 _ _ z4).at fun o e=>up _ o a4 e⟩
  ·rw[ZS (mine c hc')]
   exact notH c hc'
 done:=by
   intro X hP hw hK hc k pins s σ H E I hf st hg
   subst hP hw hK
   obtain⟨xs,ys,hl,hm,hend⟩:=hg
   obtain⟨hz,h1,⟨a,b,h2⟩,h3,h4⟩:=st
   have cl:=c1
   have cm:=c2
   simp only[ZV,ZC,or_false,not_or]at c1 c2
   obtain⟨its,r1,_,n1⟩:=I.sqk hl
   obtain⟨jts,r2,_,n2⟩:=I.sqk hm
   obtain⟨p1,N1,u1,v1⟩:=n1 i c1.2.2.2.1
   obtain⟨p2,N2,u2,v2⟩:=n2 j c2.2.2.2.2
   have D:[z,TI,TO,i,j].Nodup:=by simp[a1,a2,a3,a4,a5,a6,a7,a8,a9,b1,Ne.symm a1,Ne.symm a2,Ne.symm a3,Ne.symm a4]
   refine zip_done (I.ok.hd hc) D cl cm N1 N2 hz h1 h2 (u1 k h3) (u2 k h4) (hend.elim (fun q=>.inl (by simpa using r1.none_of q)) fun q=>.inr (by simpa using r2.none_of q)) fun h' kp=>⟨rfl,?_⟩
   have kp2:∀c o,c∉[z,TI,TO,i,j]->s.heap.get? c=some o->h'.get? c=some o:=fun c o hc' e=>by
    simp only[ZV,ZC,or_false,not_or]at hc'
    exact kp c o hc'.1 hc'.2.2.1 hc'.2.2.2.1 hc'.2.2.2.2 e
   have hch:∀b∈[z,TI,TO,i,j],(b∈X.ex\/X.s₀.heap.objs.size<=b)/\b≠X.env.locals/\(∀x c,X.env.cells.lookup x=some c->c≠b)/\∀p∈X.pn++pins,p.1≠b:=fun b hb=>⟨(hf b hb).2.2.2.1,(hf b hb).2.1,(hf b hb).2.2.2.2.1,(hf b hb).2.2.2.2.2⟩
   refine I.step (g':=s.gens) (d':=s.drawn) (t':=s.toks) (ch:=[z,TI,TO,i,j]) hch (fun c o _ _ hc' e _=>kp2 c o hc' e) (fun c o _ _ hc' e _=>⟨o.slots,kp2 c o hc' e⟩) (fun _ _ _ _ n=>n) (fun c o hc' e=>⟨o,kp2 c o hc' e⟩) (fun _ _ e=>e) (fun _ _ _ e=>e) (fun b ps e=>⟨#[],by rw[e];simp⟩) (fun m' hm'=>?_) (fun c o e=>?_) I.bare
   ·obtain⟨o,es',ep,ho,r⟩:=hm'
    exact⟨o,es',ep,kp2 _ o (fun zz=>(hf _ zz).2.1 rfl) ho,r⟩
   ·refine(I.hok c o e).stay (fun d w' hd q=>kp2 d w' (fun zz=>?_) q) (fun _ q=>q) fun _ _ q=>q
    have hn:=(hf d zz).1
    rcases hd with rfl | hd
    ·rw[hn]at e;cases e
    ·rw[hn]at hd;cases hd
 self:=fun A k s Q E st h=>wpAny_pyIter_zip st.1 h
theorem tz_new (l m:Addr)(xs ys:Array Value):Meets (Builtin.«zip.__new__» ⟨[.type "zip",.ref l,.ref m],[]⟩) (fun _ R s=>s.heap.IsTuple l xs/\s.heap.IsTuple m ys/\
 ∀h':Heap,IsZip h' (s.heap.objs.size+4) (s.heap.objs.size+2) (s.heap.objs.size+3) .none->IsPair h' (s.heap.objs.size+2) (.ref s.heap.objs.size) (.ref (s.heap.objs.size+1))->
  IsPair h' (s.heap.objs.size+3) .none .none->h'.IsTupleIter s.heap.objs.size l 0->h'.IsTupleIter (s.heap.objs.size+1) m 0->(∀c o,s.heap.get? c=some o->h'.get? c=some o)->
  R (.ok (.ret (.ref (s.heap.objs.size+4)))) {s with heap:=h'}):=
 .of_wp fun prog w A R s h=>by
  obtain⟨hp,g,d,tk,os⟩:=s
  obtain⟨h1,h2,h⟩:=h
  have hsub:=sub_zip
  wp_walk using wpAny_pyIter_tuple h1,wpAny_pyIter_tuple (Heap.IsTuple.push h2 _)
  simp only[XJ]
  refine⟨_,rfl,h _ (V7 (by simp only[XJ]) rfl) ?_ ?_ ?_ ?_ fun c o x=>?_⟩
  ·exact Z8 _ (Z8 _ (V7 (by simp only[XJ]) rfl))
  ·exact Z8 _ (V7 (by simp only[XJ]) rfl)
  ·exact⟨_,Z8 _ (Z8 _ (Z8 _ (Z8 _ (Zv _ rfl)))),rfl,rfl⟩
  ·exact⟨_,Z8 _ (Z8 _ (Z8 _ (V7 (by simp only[XJ]) rfl))),rfl,rfl⟩
  repeat (first | exact x | refine Z8 _ ?_)
section
variable {prog:Program}{w:World}{A:Around}{E:Value->Shared->Prop}{s:Shared}
theorem zip_tups {l m:Addr}{xs ys:Array Value}{Q:Value->Shared->Prop}(h1:s.heap.IsTuple l xs)(h2:s.heap.IsTuple m ys)(h:∀h',IsZip h' (s.heap.objs.size+4) (s.heap.objs.size+2) (s.heap.objs.size+3) .none->IsPair h' (s.heap.objs.size+2) (.ref s.heap.objs.size) (.ref (s.heap.objs.size+1))->
  IsPair h' (s.heap.objs.size+3) .none .none->h'.IsTupleIter s.heap.objs.size l 0->h'.IsTupleIter (s.heap.objs.size+1) m 0->
  (∀c o,s.heap.get? c=some o->h'.get? c=some o)->Q (.ref (s.heap.objs.size+4)) {s with heap:=h'}) :
 wpAny (model prog w) A (call (.type "zip") [.ref l,.ref m]) Q E s:=
 callType_new F.called_zip (by decide) (F.typeCall_zip_2 _ _) (F.newCall_zip_2 _ _) (fun obj=>F.args_object_init_3 obj _ _) F.entry_zip_new (tz_new l m xs ys)
  ⟨h1,h2,fun h' z p1 p2 i1 i2 kp=>⟨⟨_,z,rfl⟩,h h' z p1 p2 i1 i2 kp⟩⟩
end
theorem YZ (n:Nat){a b:Nat}(h:a≠b):n+a≠n+b:=fun z=>h (Nat.add_left_cancel z)
theorem VJ {n c:Nat}(h:c<n)(z:c=n+4\/c=n+2\/c=n+3\/c=n\/c=n+1):False:=by omega
theorem fresh5 {n c:Nat}(z:c=n+4\/c=n+2\/c=n+3\/c=n\/c=n+1):n<=c:=by omega
section
variable {X:Cx}
def iZip (t:Bool)(K:W.Frag)(ta:TA):TI:=fun σ H R=>ta σ H fun vs H1=>∃l m xs ys,vs=[.ref l,.ref m]/\SqK t K H1 l xs/\SqK t K H1 m ys/\R (Itz t K l m) H1
theorem pi_zip (t:Bool){es:List Expr}{k0:Nat}{tp:Pos}{a b:Expr}{ta:TA}{p pos:Pos}(hg:Gl X "zip")(hm:X.mg "zip" = none)(ha:PA X [a,b] ta)(hs:starEach [a,b] X.env=[(false,eval a X.env),(false,eval b X.env)]:=by rfl)(hs2:starEach [b] X.env=[(false,eval b X.env)]:=by rfl) :
 PI X (.Tuple es k0 tp) (.Call (.Name "zip" p) [a,b] [] pos) (iZip t X.K ta):=by
 intro pins s σ H R I h
 refine Call_ (Wm I hg hm boot_zip (callWith_type1 (thn (ha pos pins s σ H _ I h) fun us s1 ⟨vs,H1,I1,r1,q1⟩=>?_) (by rw[hs,hs2]) (by rw[hs2];rfl)))
 obtain⟨l,m,xs,ys,e,hl,hm',q⟩:=q1
 subst e
 obtain⟨u,u',rfl,ru,ru'⟩:=UN r1
 cases(show u=Value.ref l from ru)
 cases(show u'=Value.ref m from ru')
 obtain⟨its,_,⟨ol,eol,_⟩,_⟩:=I1.sqk hl
 obtain⟨jts,_,⟨om,eom,_⟩,_⟩:=I1.sqk hm'
 have ll:l<s1.heap.objs.size:=ZA eol
 have lm:m<s1.heap.objs.size:=ZA eom
 have fin:∀h':Heap,IsZip h' (s1.heap.objs.size+4) (s1.heap.objs.size+2) (s1.heap.objs.size+3) .none->IsPair h' (s1.heap.objs.size+2) (.ref s1.heap.objs.size) (.ref (s1.heap.objs.size+1))->
  IsPair h' (s1.heap.objs.size+3) .none .none->SD t s1.heap.objs.size l 0 h'->SD t (s1.heap.objs.size+1) m 0 h'->(∀c o,s1.heap.get? c=some o->h'.get? c=some o)->
  wpAny (model X.prog X.w) X.A (pyIter (.ref (s1.heap.objs.size+4))) (PIE X pins σ (.Tuple es k0 tp) R) X.xe {s1 with heap:=h'}:=fun h' z1 z2 z3 z4 z5 kp=>by
  have I2:Zq X pins σ H1 {s1 with heap:=h'}:=I1.kept (t':=s1.toks) kp
  refine wpAny_pyIter_zip z1 ⟨s1.heap.objs.size+4,[s1.heap.objs.size+4,s1.heap.objs.size+2,s1.heap.objs.size+3,s1.heap.objs.size,s1.heap.objs.size+1],_,_,H1,rfl,I2,
   turn_zip (t:=t) (l:=l) (m:=m) (YZ _ (a:=2) (b:=4) (by decide)) (YZ _ (a:=3) (b:=4) (by decide)) (YZ _ (a:=0) (b:=4) (by decide)) (YZ _ (a:=1) (b:=4) (by decide)) (YZ _ (a:=2) (b:=3) (by decide)) (YZ _ (a:=2) (b:=0) (by decide)) (YZ _ (a:=2) (b:=1) (by decide)) (YZ _ (a:=3) (b:=0) (by decide)) (YZ _ (a:=3) (b:=1) (by decide)) (YZ _ (a:=0) (b:=1) (by decide)) (fun z=>?_) (fun z=>?_),⟨z1,z2,⟨_,_,z3⟩,z4,z5⟩,fun c hc=>?_,q⟩
  ·simp only[ZV,ZC,or_false]at z;exact VJ ll z
  ·simp only[ZV,ZC,or_false]at z;exact VJ lm z
  ·have hcs:s1.heap.objs.size<=c:=by simp only[ZV,ZC,or_false]at hc;exact fresh5 hc
   exact I1.fpOk hcs (I1.hok.fresh hcs)
 cases t
 ·obtain⟨its,_,pl,_⟩:=I1.list (show Zp X.K H1 l xs from hl)
  obtain⟨jts,_,pm,_⟩:=I1.list (show Zp X.K H1 m ys from hm')
  exact call_zip_2 pl.isList pm.isList fun h' z1 z2 z3 z4 z5 _ kp=>fin h' z1 z2 z3 z4 z5 kp
 ·obtain⟨its,_,pl,_⟩:=I1.tuple (show Y0 X.K H1 l xs from hl)
  obtain⟨jts,_,pm,_⟩:=I1.tuple (show Y0 X.K H1 m ys from hm')
  exact zip_tups pl pm fun h' z1 z2 z3 z4 z5 kp=>fin h' z1 z2 z3 z4 z5 kp
end
def YR (P:Program)(w:World)(K:W.Frag)(mg:Str->Option Value)(base:Heap)(k:Nat)(x:Str)(ps:List Str)(sp:Sp):Prop:=
 ∃(f:Addr) (fd:FuncData),Y6 P w K mg base XB k f fd ps sp/\mg x=some (.ref f)/\Um K (.ref f)=true/\UF K fd ps []
section
variable {X:Cx}{k k':Nat}{x:Str}{ps:List Str}{sp:Sp}{e:Expr}{es:List Expr}{t:TA}{p pos:Pos}
theorem ZI (h:YR X.prog X.w X.K X.mg X.base k x ps sp)(hr:Xv k' X.A)(ha:PA X (e::es) t)(hg:Gl X x:=by rfl)(hk:k<=k':=by decide)(hdb:(x==("__debug__" : Str))=false:=by decide)(he:starEach (e::es) X.env=(false,eval e X.env)::starEach es X.env:=by rfl)(hpl:(backTo pos (starEach es X.env)).any (·.1)=false:=by rfl):PE X (.Call (.Name x p) (e::es) [] pos) (tCall sp [] E0 t):=by
 obtain⟨f,fd,F,m,kp,b⟩:=h
 exact pe_call F (hr.mono hk) hg m kp b .nil pass0 ha hdb he hpl
theorem Yl {v:V}(h:∃u,X.mg x=some u/\Zb v u)(hg:Gl X x:=by rfl)(hd:(x==("__debug__" : Str))=false:=by decide):PE X (.Name x pos) (tC v):=by
 obtain⟨u,m,r⟩:=h
 exact pe_glob hg m r hd
theorem Wd {T:String}(hm:X.mg x=none)(hv:bootBuiltins x=some (.type T))(hg:Gl X x:=by rfl)(hn:x≠"__name__":=by decide)(hd:(x==("__debug__" : Str))=false:=by decide):PE X (.Name x pos) (tC (.ty T)):=pe_bltn hg hm hv rfl hn hd
end
structure Nb (mg:Str->Option Value):Prop where
 len:mg "len" = none
 isi:mg "isinstance" = none
 bool:mg "bool" = none
 int:mg "int" = none
 tuple:mg "tuple" = none
 list:mg "list" = none
 range:mg "range" = none
 zip:mg "zip" = none
 all:mg "all" = none
 max:mg "max" = none
 min:mg "min" = none
theorem ZR.upd_free {H1 H5:Hp}{D:Addr}(s:ZR H1 H5)(hD:H1 D=none)(o:HO):ZR H1 (upd H5 D o):=fun b u q=>by rw[ZS (ZP q hD)];exact s b u q
theorem X4 {J:It}{g:TG}{te:TE}{Q:VK}{D:Addr}{H1:Hp}{σ0:St}(n:Nat)(hn:n<=sizeLine)(f:Nat->V)(Sg:St->Prop)(itm:Nat->Hp->V->Prop)(hD:H1 D=none)(s0:Sg σ0)(items:∀i H,ZR H1 H->(i<n->J.go i H/\∀x H2,J.yld i H x H2->ZR H H2/\itm i H2 x)/\(n<=i->J.stop i H))(step:∀i x σ' H,i<n->ZR H1 H->itm i H x->Sg σ'->∀R:St->V->Hp->Prop,(∀σ3 y H5,Sg σ3->ZR H H5->y=f i->R σ3 y H5)->g x σ' H fun σ3 H3=>te σ3 H3 (R σ3))(fin:∀H',ZR H1 H'->H' D=some (.lst ((List.range n).map f))->Q (.ref D) H') :
 cmpW J g tYes te Q D σ0 H1:=by
 refine⟨fun i m σ H=>m=n - i/\i<=n/\Sg σ/\ZR H1 H/\H D=some (.lst ((List.range i).map f)),⟨n,by omega,Yp _,s0,(ZR.refl H1).upd_free hD _,Z5⟩,?_⟩
 rintro i m σ H ⟨rfl,hi,hs,sm,hd⟩
 by_cases hlt:i<n
 ·obtain⟨go,yl⟩:=(items i H sm).1 hlt
  refine .inr ⟨go,fun x H2 y=>?_⟩
  obtain⟨s2,im⟩:=yl x H2 y
  have e:(fun(σ3:St) (H3:Hp)=>tYes σ3 H3 fun ok H4=>
   if ok=true then te σ3 H4 fun y H5=>∃ys,H5 D=some (.lst ys)/\ys.length<sizeLine/\∃m',m'<n - i/\(m'=n - (i+1)/\i+1<=n/\Sg σ3/\ZR H1 (upd H5 D (.lst (ys++[y])))/\upd H5 D (.lst (ys++[y])) D=some (.lst ((List.range (i+1)).map f)))
   else ∃m',m'<n - i/\(m'=n - (i+1)/\i+1<=n/\Sg σ3/\ZR H1 H4/\H4 D=some (.lst ((List.range (i+1)).map f)))) =
   fun σ3 H3=>te σ3 H3 fun y H5=>∃ys,H5 D=some (.lst ys)/\ys.length<sizeLine/\∃m',m'<n - i/\(m'=n - (i+1)/\i+1<=n/\Sg σ3/\ZR H1 (upd H5 D (.lst (ys++[y])))/\upd H5 D (.lst (ys++[y])) D=some (.lst ((List.range (i+1)).map f))):=by
   funext σ3 H3
   unfold tYes
   dsimp only
   rw[if_pos rfl]
  rw[e]
  refine step i x σ H2 hlt (sm.trans s2) im hs _ fun σ3 y H5 g3 s5 ey=>?_
  refine⟨_,s5 _ _ (s2 _ _ hd),by rw[Z2,YY];omega,n - (i+1),by omega,rfl,by omega,g3,(sm.trans (s2.trans s5)).upd_free hD _,?_⟩
  rw[Z5,ey,XU,ZB]
  rfl
 ·have e:i=n:=by omega
  subst e
  exact .inl ⟨(items i H sm).2 (Nat.le_refl _),fin H sm hd⟩
theorem YB {K:W.Frag}{a:Addr}{xs:List V}{H1:Hp}(h:H1 a=some (.tup xs))(i:Nat)(H:Hp)(s:ZR H1 H) :
 (i<xs.length->(Itt K a).go i H/\∀x H2,(Itt K a).yld i H x H2->ZR H H2/\xs[i]?=some x)/\(xs.length<=i->(Itt K a).stop i H):=by
 have q:Y0 K H a xs:=Y0.of (s _ _ h)
 refine⟨fun hi=>⟨⟨xs,xs[i],q,Z1 hi⟩,fun x H2 ⟨e,y⟩=>?_⟩,fun hi=>⟨xs,q,hi⟩⟩
 subst e
 exact⟨ZR.refl _,y xs q⟩
theorem YA {K:W.Frag}{a:Addr}{xs:List V}{H1:Hp}(h:H1 a=some (.lst xs))(i:Nat)(H:Hp)(s:ZR H1 H) :
 (i<xs.length->(Itl K a).go i H/\∀x H2,(Itl K a).yld i H x H2->ZR H H2/\xs[i]?=some x)/\(xs.length<=i->(Itl K a).stop i H):=by
 have q:Zp K H a xs:=Zp.of (s _ _ h)
 refine⟨fun hi=>⟨⟨xs,xs[i],q,Z1 hi⟩,fun x H2 ⟨e,y⟩=>?_⟩,fun hi=>⟨xs,q,hi⟩⟩
 subst e
 exact⟨ZR.refl _,y xs q⟩
theorem items_zip {K:W.Frag}{a b:Addr}{xs ys:List V}{H1:Hp}(h:H1 a=some (.tup xs))(h':H1 b=some (.tup ys))(i:Nat)(H:Hp)(s:ZR H1 H) :
 (i<min xs.length ys.length->(Itz true K a b).go i H/\∀v H2,(Itz true K a b).yld i H v H2->ZR H H2/\∃p x y,v=.ref p/\H2 p=some (.tup [x,y])/\xs[i]?=some x/\ys[i]?=some y)/\(min xs.length ys.length<=i->(Itz true K a b).stop i H):=by
 have q:SqK true K H a xs:=Y0.of (s _ _ h)
 have q':SqK true K H b ys:=Y0.of (s _ _ h')
 refine⟨fun hi=>⟨⟨xs,ys,xs[i]'(by omega),ys[i]'(by omega),q,q',Z1 (by omega),Z1 (by omega)⟩,fun v H2 ⟨p,x,y,e1,e2,e3,e4,e5⟩=>?_⟩,fun hi=>⟨xs,ys,q,q',?_⟩⟩
 ·subst e3
  exact⟨Z9 e2 _,p,x,y,e1,Z5,e4 xs q,e5 ys q'⟩
 ·by_cases hx:xs.length<=i
  ·exact .inl (Zd hx)
  ·exact .inr (Zd (by omega))
section
variable {X:Cx}{elt iter:Expr}{ifs:List Expr}{scope:Scope}{pos:Pos}{N:List Str}{js:List Nat}{sc:Scope}{N0:List Str}{wi:TI}{tt:TT}{te:TE}{x y:Str}{px py tp:Pos}{k:Nat}
theorem Ye {cl:List (Str×Addr)}{C:Addr}{s:Shared}{H:Hp}{fp:List Addr}(h:scope.names.lookup x=some .local):(blk X N scope cl C s H fp).env.scope.names.lookup x=some .local:=lookup_relabel_local h
theorem YU (hc:X.calm=true)(hsc:X.env.scope=sc)(hN:X.N=N0)(B:Blk sc N0 (x::N) 1 js scope)(hx:scope.names.lookup x=some .local)(hi:PI X (.Name x px) iter wi)(ht:∀cl C s H fp,PTs (blk X (x::N) scope cl C s H fp) ifs tt)(he:∀cl C s H fp,PE (blk X (x::N) scope cl C s H fp) elt te)(hs:∀x,foldedSetIterable iter X.env x=pure x:=by intro _;rfl):PE X (.ListComp elt [⟨.Name x px,iter,ifs,0⟩] scope pos) (SB 1 js wi (Wa 0) tt te):=
 pe_comp hc hsc hN B hi (fun cl C s H fp=>Zl (i:=0) B.nd rfl (.inl (Ye hx)) (.inr (Ye hx))) ht he hs
theorem Vf (hc:X.calm=true)(hsc:X.env.scope=sc)(hN:X.N=N0)(B:Blk sc N0 (x::y::N) 2 js scope)(hx:scope.names.lookup x=some .local)(hy:scope.names.lookup y=some .local)(hi:PI X (.Tuple [.Name x px,.Name y py] k tp) iter wi)(ht:∀cl C s H fp,PTs (blk X (x::y::N) scope cl C s H fp) ifs tt)(he:∀cl C s H fp,PE (blk X (x::y::N) scope cl C s H fp) elt te)(hs:∀x,foldedSetIterable iter X.env x=pure x:=by intro _;rfl):PE X (.ListComp elt [⟨.Tuple [.Name x px,.Name y py] k tp,iter,ifs,0⟩] scope pos) (SB 2 js wi (gTup X.K 2 (gCons (Wa 0) (gCons (Wa 1) gNil))) tt te):=
 pe_comp hc hsc hN B hi (fun cl C s H fp=>Xt (X:=blk X (x::y::N) scope cl C s H fp) hc (Ze (Zl (i:=0) B.nd rfl (.inl (Ye hx)) (.inr (Ye hx))) (Ze (Zl (i:=1) B.nd rfl (.inl (Ye hy)) (.inr (Ye hy))) X9))) ht he hs
end
structure SA (X:Cx)(es:List Expr)(t:TA):Prop where
 get:PA X es t
structure SE (X:Cx)(e:Expr)(t:TE):Prop where
 get:PE X e t
section
variable {X:Cx}{e:Expr}{es:List Expr}{te:TE}{t:TA}{pos:Pos}
end
theorem lookup_by {T:String}{n:Str}{r:Option Value}(h:fastLookup T n=some r):typeLookup (.type T) n=pure r:=by rw[typeLookup_type,builtinLookup_eq_fast,h]
theorem slot_by {T id owner n:String}{mro:List Value}(found:fastLookup T (oS n)=some (some (.builtin id)))(above:fastBuiltinMro T=some mro)(mine:mro.contains (.type owner)=true)(named:splitId id=some (owner,n)/\withoutEnding? id "#opaque" = none/\withoutEnding? id "#data" = none/\plainId id=true)(kind:(Manifest.find? owner).bind (·.attrs.lookup n)=some .slot\/(Manifest.find? owner).bind (·.attrs.lookup n)=some .method):Slot T (oS n) id:=
 .of (lookup_by found) named.1 named.2.1 named.2.2.1 kind (by rw[isSubtype_type,above];exact congrArg pure mine) named.2.2.2
theorem rv_init:Slot "reversed" (oS "__init__") "object.__init__":=slot_by (mro:=[.type "reversed",.type "object"]) (owner:="object") (by kernel_rfl) (by kernel_rfl) (by kernel_rfl) (by decide +kernel) (.inl (by decide +kernel))
theorem rv_iter:Slot "reversed" (oS "__iter__") "reversed.__iter__":=slot_by (mro:=[.type "reversed",.type "object"]) (owner:="reversed") (by kernel_rfl) (by kernel_rfl) (by kernel_rfl) (by decide +kernel) (.inl (by decide +kernel))
theorem TY:Slot "reversed" (oS "__next__") "reversed.__next__":=slot_by (mro:=[.type "reversed",.type "object"]) (owner:="reversed") (by kernel_rfl) (by kernel_rfl) (by kernel_rfl) (by decide +kernel) (.inl (by decide +kernel))
theorem rv_called:TypeCalled "reversed" "reversed.__new__" "object.__init__":=
 {(by constructor<;>first | exact⟨_,_,F.mro_reversed⟩ | exact F.made_reversed | exact rv_init | decide +kernel | (rw[isSubtype_type];kernel_rfl):TypeCalled "reversed" "reversed.__new__" "object.__init__") with}
theorem rv_entry_iter:entryFor table "reversed.__iter__" = some Builtin.«dict_keyiterator.__iter__»:=
 entryFor_alias (id':="dict_keyiterator.__iter__") (by kernel_rfl) (by first | rfl | decide +kernel) (by decide +kernel) (by kernel_rfl)
theorem UK:entryFor table "reversed.__next__" = some Builtin.«reversed.__next__»:=entryFor_of_tree (by kernel_rfl)
theorem args_by {id:String}{v:List Value}{n o:List Char}{rows:List (String×Manifest.Signature)}(cut:((id.toList.map fun c=>if c.isAlphanum||c=='_'||c=='.' then c else '_').reverse.span (· !='.'))=(n,'.'::o))(own:Manifest.owners.lookup (String.ofList o.reverse)=some rows)(ok:∀sg,Manifest.signature? id=rows.lookup (String.ofList n.reverse)->sg=rows.lookup (String.ofList n.reverse)->argsOk id ⟨v,[]⟩):argsOk id ⟨v,[]⟩:=
 ok _ (signature?_of cut own) rfl
theorem TX (a:Value):argsOk "reversed.__next__" ⟨[a],[]⟩:=
 args_by (n:="__txen__".toList) (o:="desrever".toList) (rows:=Manifest.sig_reversed) (by kernel_rfl) (by kernel_rfl) fun _ e _=>by unfold argsOk;rw[e];kernel_rfl
theorem rv_args_iter (a:Value):argsOk "reversed.__iter__" ⟨[a],[]⟩:=
 args_by (n:="__reti__".toList) (o:="desrever".toList) (rows:=Manifest.sig_reversed) (by kernel_rfl) (by kernel_rfl) fun _ e _=>by unfold argsOk;rw[e];kernel_rfl
theorem rv_init_args (a b:Value):argsOk "object.__init__" ⟨[a,b],[]⟩:=F.args_object_init_2 a b
theorem tup_norev:typeLookup (.type "tuple") "__reversed__" = pure none:=lookup_by (by kernel_rfl)
theorem tup_notdict:isSubtype (.type "tuple") (.type "dict")=pure false:=by rw[isSubtype_type];exact congrArg pure (show _=false from by kernel_rfl)
abbrev IsRv (h:Heap)(z t:Addr)(i:Int):Prop:=h.get? z=some {cls:=.type "reversed",dict:=none,data:=.fields #[.ref t,rawInt i],slots:=#[]}
theorem rv_new (t:Addr)(xs:Array Value)(hz:(xs.size:Int)<2^63):Meets (Builtin.«reversed.__new__» ⟨[.type "reversed",.ref t],[]⟩) (fun _ R s=>IsTup s.heap t xs/\
 R (.ok (.ret (.ref s.heap.objs.size))) {s with heap:=s.heap.push {cls:=.type "reversed",data:=.fields #[.ref t,rawInt ((xs.size:Int) - 1)]},toks:=s.toks+1+1}):=
 .of_wp fun prog w A R s h=>by
  obtain⟨hp,g,d,tk,os⟩:=s
  obtain⟨h1,h⟩:=h
  have hT:Shared.TypeIs ⟨hp,g,d,tk,os⟩ (.ref t) "tuple":=h1.typeIs
  have hsub:=F.sub_reversed_self
  have hnr:=tup_norev
  have k1:Heap.IsTuple (Shared.heap ⟨hp,g,d,tk,os⟩) t xs:=h1
  have hnd:=tup_notdict
  have hgi:typeLookup (.type "tuple") "__getitem__" = pure (some (.builtin "tuple.__getitem__")):=slot_tuple_getitem.lookup
  wp_walk using len_tuple h1 hz
  exact⟨_,rfl,h⟩
section
variable {prog:Program}{w:World}{A:Around}{E:Value->Shared->Prop}
theorem rv_item {z t:Addr}{i:Nat}{xs:Array Value}{x:Value}{Q:Value->Shared->Prop}{s:Shared}(hz:IsRv s.heap z t (i:Int))(ht:IsTup s.heap t xs)(hl:(xs.size:Int)<2^63)(hx:xs[i]?=some x)(q:∀h' tk,IsRv h' z t ((i:Int) - 1)->Heap.SameBut z s.heap h'->Q x {s with heap:=h',toks:=tk}) :
 wpAny (model prog w) A (Builtin.«reversed.__next__» ⟨[.ref z],[]⟩) (fun fin s'=>∃v,fin=.done (.ret v)/\Q v s') E s:=by
 obtain⟨hp,g,d,tk,os⟩:=s
 have f1:typeLookup (.type "tuple") "__getitem__" = pure (some (.builtin "tuple.__getitem__")):=slot_tuple_getitem.lookup
 have lt:i<xs.size:=(Array.getElem?_eq_some_iff.mp hx).1
 have neg:¬(i:Int)<0:=by omega
 obtain⟨⟨c,dc,dt,sl⟩,ho,hc,n,hd⟩:=id ht
 simp only at hc hd
 subst hc hd
 simp only at ho
 have lo:-(2^63)<=(i:Int):=by omega
 have ht':IsTup hp t xs:=ht
 have hi:(i:Int)<2^63:=by omega
 have at_:seqIndex? (i:Int) xs.size=some i:=by unfold seqIndex?;simp;omega
 have gi:∀{Q:Value->Shared->Prop} {E:Value->Shared->Prop},Q x ⟨hp,g,d,tk+1,os⟩->wpAny (model prog w) A (getItem (#[Value.ref t,rawInt (i:Int)][0]'(Nat.zero_lt_succ 1)) (.int i tk)) Q E ⟨hp,g,d,tk+1,os⟩:=fun r=>by
  show wpAny (model prog w) A (getItem (.ref t) (.int i tk)) _ _ _
  refine getItem_tuple (items:=xs) (j:=i) (x:=x) ?_ lo ?_ ?_ ?_ ?_
  ·exact ht
  ·exact hi
  ·exact at_
  ·exact hx
  ·exact r
 wp_walk using gi
 exact⟨_,rfl,q _ _ (Yy _ hz rfl) (.update ..)⟩
theorem rv_end {z t:Addr}{i:Int}{Q:PySem.Fin->Shared->Prop}{s:Shared}(hh:A.handled=none)(hz:IsRv s.heap z t i)(hi:i<0)(hE:∀h' e,(∀c o,c≠z->s.heap.get? c=some o->h'.get? c=some o)->(∃o,h'.get? e=some o/\o.cls=.type "StopIteration")->E (.ref e) {s with heap:=h'}) :
 wpAny (model prog w) A (Builtin.«reversed.__next__» ⟨[.ref z],[]⟩) Q E s:=by
 obtain⟨hp,g,d,tk,os⟩:=s
 wp_walk
 exact wpAny_raiseNew_none hh (hE _ _ (fun c o n e=>by repeat (first | exact e | refine ZK _ (Ne.symm n) ?_ | refine Z8 _ ?_)) ⟨_,Zv _ rfl,rfl⟩)
theorem rv_pyNext {z t:Addr}{i:Nat}{xs:Array Value}{x:Value}{Q:Option Value->Shared->Prop}{s:Shared}(hz:IsRv s.heap z t (i:Int))(ht:IsTup s.heap t xs)(hl:(xs.size:Int)<2^63)(hx:xs[i]?=some x)(q:∀h' tk,IsRv h' z t ((i:Int) - 1)->Heap.SameBut z s.heap h'->Q (some x) {s with heap:=h',toks:=tk}):wpAny (model prog w) A (pyNext (.ref z)) Q E s:=by
 have hT:s.TypeIs (.ref z) "reversed":=⟨_,hz,rfl⟩
 unfold pyNext
 exact wpAny_bind (wpAny_attempt (wpAny_callSpecial?_slot (name:=oS "__next__") hT TY
  (wpAny_call_entry TY hT UK (rv_item hz ht hl hx fun h' tk a1 a2=>wpAny_pure (q h' tk a1 a2)) (TX _))))
theorem rv_pyEnd {z t:Addr}{i:Int}{Q:Option Value->Shared->Prop}{s:Shared}(hh:A.handled=none)(hz:IsRv s.heap z t i)(hi:i<0)(q:∀h',(∀c o,c≠z->s.heap.get? c=some o->h'.get? c=some o)->Q none {s with heap:=h'}):wpAny (model prog w) A (pyNext (.ref z)) Q E s:=by
 have hT:s.TypeIs (.ref z) "reversed":=⟨_,hz,rfl⟩
 unfold pyNext
 refine wpAny_bind (wpAny_attempt (wpAny_callSpecial?_slot (name:=oS "__next__") hT TY
  (wpAny_call_entry TY hT UK (rv_end hh hz hi fun h' e hk he=>?_) (TX _))))
 obtain⟨o,ho,hc⟩:=he
 refine wpAny_bind (wpAny_isInstance (T:="StopIteration") (b:=true) ⟨o,ho,hc⟩ isSubtype_stop ?_)
 exact wpAny_pure (q _ hk)
theorem rv_pyIter {z t:Addr}{i:Int}{Q:Value->Shared->Prop}{s:Shared}(hz:IsRv s.heap z t i)(h:Q (.ref z) s):wpAny (model prog w) A (pyIter (.ref z)) Q E s:=by
 have hT:s.TypeIs (.ref z) "reversed":=⟨_,hz,rfl⟩
 refine wpAny_pyIter_slot hT rv_iter (wpAny_call_entry rv_iter hT rv_entry_iter ?_ (rv_args_iter _))
 show wpAny _ _ (ret (.ref z)) _ _ s
 exact wpAny_pure ⟨_,rfl,"reversed",_,hT,TY.lookup,h⟩
theorem rv_call {t:Addr}{xs:Array Value}{Q:Value->Shared->Prop}{s:Shared}(ht:IsTup s.heap t xs)(hl:(xs.size:Int)<2^63)(h:Q (.ref s.heap.objs.size) {s with heap:=s.heap.push {cls:=.type "reversed",data:=.fields #[.ref t,rawInt ((xs.size:Int) - 1)]},toks:=s.toks+1+1}) :
 wpAny (model prog w) A (call (.type "reversed") [.ref t]) Q E s:=by
 refine callType_new rv_called (by decide) (F.typeCall_reversed_1 _) (F.newCall_reversed_1 _) (fun obj=>rv_init_args obj _) F.entry_reversed_new (rv_new t xs hl) ⟨ht,?_⟩
 exact⟨⟨_,Zv _ rfl,rfl⟩,h⟩
end
def Itv (K:W.Frag)(a:Addr)(n:Nat):It where
 go:=fun i H=>∃xs x,Y0 K H a xs/\xs.length=n/\xs.reverse[i]?=some x
 yld:=fun i H x H'=>H'=H/\∀xs,Y0 K H a xs->xs.length=n->xs.reverse[i]?=some x
 stop:=fun i H=>n<=i
theorem turn_rev {P:Program}{w:World}{K:W.Frag}{tg:Expr}(a it:Addr)(n:Nat):Turn P w K tg (Itv K a n) [it] it (fun i h=>IsRv h it a ((n:Int) - 1 - (i:Int))) where
 mem:=by simp
 obj:=fun i h st b hb=>by
  have e:b=it:=by simpa using hb
  subst e
  exact⟨_,st,fun v z=>by
   have z':Data.fields _=Data.cell v:=z
   cases z'⟩
 keep:=fun i h h' st k=>k it (by simp) _ st
 item:=by
  intro X hP hw hK hc i pins s σ H E I hf st hg
  subst hP hw hK
  obtain⟨xs,x,hq,hn,hx⟩:=hg
  obtain⟨its,rv,p,hz⟩:=I.tuple hq
  have hlen:=rv.length
  have hl63:=Uu
  have hi:i<xs.length:=by
   have:=(List.getElem?_eq_some_iff.mp hx).1
   simpa using this
  rw[List.getElem?_reverse hi]at hx
  obtain⟨u,hu,ru⟩:=rv.get hx
  obtain⟨f0,f1,f2,f3,f4,f5⟩:=hf it (by simp)
  have ei:(n:Int) - 1 - (i:Int)=((xs.length - 1 - i:Nat):Int):=by omega
  have st2:IsRv s.heap it a ((xs.length - 1 - i:Nat):Int):=by rw[<-ei];exact st
  refine rv_pyNext st2 (show IsTup s.heap a its.toArray from p) (by simp only[ZF];omega) (x:=u) (by simpa using hu) fun h' tk st' sb=>?_
  have I1:Zq X pins σ H {s with heap:=h',toks:=tk}:=I.turned (t':=tk) (fun b o hb e=>(sb.2 b hb).trans e) f0 f1 f3 f4 f5
  refine⟨u,rfl,go_of (s:={s with heap:=h',toks:=tk}) (n:="reversed") st' rfl rfl (by decide) ⟨x,H,I1,ru,⟨rfl,fun ys hy _=>by rw[I.tuple_inj hy hq,List.getElem?_reverse hi];exact hx⟩,?_,fun b hb=>(hf b hb).1⟩⟩
  have e2:(n:Int) - 1 - ((i+1:Nat):Int)=((xs.length - 1 - i:Nat):Int) - 1:=by omega
  rw[e2]
  exact st'
 done:=by
   intro X hP hw hK hc i pins s σ H E I hf st hg
   subst hP hw hK
   obtain⟨f0,f1,f2,f3,f4,f5⟩:=hf it (by simp)
   exact rv_pyEnd (I.ok.hd hc) st (by have:n<=i:=hg;omega) fun h' eb=>⟨rfl,I.turned (t':=s.toks) (fun b o hb e=>eb b o hb e) f0 f1 f3 f4 f5⟩
 self:=fun _ _ _ _ _ st h=>rv_pyIter st h
section
variable {X:Cx}{tg:Expr}
def iRev (K:W.Frag)(ta:TA):TI:=fun σ H R=>ta σ H fun vs H1=>∃a xs,vs=[.ref a]/\Y0 K H1 a xs/\R (Itv K a xs.length) H1
theorem pi_rev {a:Expr}{ta:TA}{p pos:Pos}(hg:Gl X "reversed")(hm:X.mg "reversed" = none)(ha:PA X [a] ta)(hs:starEach [a] X.env=[(false,eval a X.env)]:=by rfl) :
 PI X tg (.Call (.Name "reversed" p) [a] [] pos) (iRev X.K ta):=by
 intro pins s σ H R I h
 refine Call_ (Wm I hg hm boot_reversed (callWith_type1 (thn (ha pos pins s σ H _ I h) fun us s1 ⟨vs,H1,I1,r1,q1⟩=>?_) (by rw[hs];rfl) (by rfl)))
 obtain⟨t,xs,e,hl,q⟩:=q1
 subst e
 obtain⟨u,rfl,ru⟩:=Wr r1
 cases(show u=Value.ref t from ru)
 obtain⟨its,rv,p,hz⟩:=I1.tuple hl
 have hlen:=rv.length
 have hl63:=Uu
 refine rv_call (show IsTup s1.heap t its.toArray from p) (by simp only[ZF];omega) ?_
 have I2:Zq X pins σ H1 {s1 with heap:=s1.heap.push {cls:=.type "reversed",data:=.fields #[.ref t,rawInt ((its.toArray.size:Int) - 1)]},toks:=s1.toks+1+1}:=I1.kept fun b o e=>Z8 _ e
 have e0:IsRv (s1.heap.push {cls:=.type "reversed",data:=.fields #[.ref t,rawInt ((its.toArray.size:Int) - 1)]}) s1.heap.objs.size t ((its.toArray.size:Int) - 1):=Zv _ rfl
 refine rv_pyIter e0 ⟨s1.heap.objs.size,[s1.heap.objs.size],_,_,H1,rfl,I2,turn_rev t _ xs.length,?_,fun b hb=>?_,q⟩
 ·have e3:((xs.length:Nat):Int) - 1 - ((0:Nat):Int)=(its.toArray.size:Int) - 1:=by simp only[ZF];omega
  rw[e3]
  exact e0
 ·have e:b=s1.heap.objs.size:=by simpa using hb
  subst e
  exact I1.fpOk (Nat.le_refl _) (I1.hok.fresh (Nat.le_refl _))
end
theorem vals_of:∀(us:List Value) (ns:List Int),us.length=ns.length->(∀(j:Nat) (u:Value),us[j]?=some u->∃t,∃i,ns[j]?=some i/\u=Value.int i t)->Y7 (ns.map V.int) us
 |[],[],_,_=>.nil
 |x::r,n::ns,hl,hh=>by
  obtain⟨t,i,e1,e2⟩:=hh 0 x rfl
  have e1':n=i:=by simpa using e1
  subst e1' e2
  exact .cons ⟨t,rfl⟩ (vals_of r ns (by simpa using hl) fun j u h=>hh (j+1) u h)
theorem all_same (ns ms:List Int):((List.range (min ns.length ms.length)).all (fun j=>ns.getD j 0==ms.getD j 0)&&(ns.length==ms.length))=decide (ns=ms):=by
 rw[Bool.eq_iff_iff,Vu,X1,decide_eq_true_eq,beq_iff_eq]
 constructor
 ·rintro⟨h1,h2⟩
  apply List.ext_getElem h2
  intro i a b
  have:=h1 i (Ys.mpr (by omega))
  rw[beq_iff_eq,Z4,Z4,Z1 a,Z1 b]at this
  exact this
 ·rintro rfl
  exact⟨fun i _=>by rw[beq_iff_eq],rfl⟩
theorem of_rcne' {prog:Program}{w:World}{A:Around}{E:Value->Shared->Prop}{s:Shared}{a b:Value}{k:Bool}{Q:Value->Shared->Prop}(h:SeqAt.RcNeAt A s a b k)(hq:Q (.bool k) s):wpAny (model prog w) A (compareOp .NotEq a b) Q E s:=h prog w E Q hq
section
variable {X:Cx}
theorem UT {n:Int}{u:Value}(r:Zb (.int n) u):∃t,u=.int n t:=r
theorem ints_eqAt {A:Around}{s:Shared}{ns ms:List Int}{its its2:List Value}(r1:Y7 (ns.map V.int) its)(r2:Y7 (ms.map V.int) its2)(j:Nat)(h1:j<its.toArray.size)(h2:j<its2.toArray.size) :
 SeqAt.EqAt A s its.toArray[j] its2.toArray[j] (ns.getD j 0==ms.getD j 0):=by
 have l1:=r1.length
 have l2:=r2.length
 rw[Z2]at l1 l2
 simp only[ZF]at h1 h2
 have e1:(ns.map V.int)[j]?=some (.int ns[j]):=by rw[ZQ,Z1 (by omega)];rfl
 have e2:(ms.map V.int)[j]?=some (.int ms[j]):=by rw[ZQ,Z1 (by omega)];rfl
 obtain⟨u,hu,ru⟩:=r1.get e1
 obtain⟨v,hv,rv⟩:=r2.get e2
 obtain⟨t,rfl⟩:=UT ru
 obtain⟨t',rfl⟩:=UT rv
 have a1:its.toArray[j]=.int ns[j] t:=by
  have:=(List.getElem?_eq_some_iff.mp hu).2
  simpa using this
 have a2:its2.toArray[j]=.int ms[j] t':=by
  have:=(List.getElem?_eq_some_iff.mp hv).2
  simpa using this
 rw[a1,a2,Z4,Z4,Z1 (by omega),Z1 (by omega)]
 exact SeqAt.EqAt.int_int _ _ _ _
def rEqT (K:W.Frag):R2:=fun x y H Q=>∃(a b:Addr) (ns ms:List Int),x=.ref a/\y=.ref b/\Y0 K H a (ns.map V.int)/\Y0 K H b (ms.map V.int)/\Q (.bl (decide (ns=ms))) H
def rNeT (K:W.Frag):R2:=fun x y H Q=>∃(a b:Addr) (ns ms:List Int),x=.ref a/\y=.ref b/\Y0 K H a (ns.map V.int)/\Y0 K H b (ms.map V.int)/\Q (.bl (!decide (ns=ms))) H
theorem op_eqT (hu:X.A.units<cLine):Uo X (compareOp .Eq) (rEqT X.K):=by
 intro pins s σ H x y v u Q I rx ry h
 obtain⟨a,b,ns,ms,rfl,rfl,ha,hb,q⟩:=h
 cases rx
 cases ry
 obtain⟨its,r1,p1,_⟩:=I.tuple ha
 obtain⟨its2,r2,p2,_⟩:=I.tuple hb
 have l1:=r1.length
 have l2:=r2.length
 rw[Z2]at l1 l2
 refine SeqAt.eq_tupleAt (show s.heap.IsTuple a its.toArray from p1) (show s.heap.IsTuple b its2.toArray from p2) hu (ints_eqAt r1 r2) ?_
 simp only[ZF]
 rw[<-l1,<-l2,all_same]
 exact⟨.bl (decide (ns=ms)),H,I,rfl,q⟩
theorem op_neT (hu:X.A.units<cLine):Uo X (compareOp .NotEq) (rNeT X.K):=by
 intro pins s σ H x y v u Q I rx ry h
 obtain⟨a,b,ns,ms,rfl,rfl,ha,hb,q⟩:=h
 cases rx
 cases ry
 obtain⟨its,r1,p1,_⟩:=I.tuple ha
 obtain⟨its2,r2,p2,_⟩:=I.tuple hb
 have l1:=r1.length
 have l2:=r2.length
 rw[Z2]at l1 l2
 refine of_rcne' (SeqAt.RcNeAt.tuples (show s.heap.IsTuple a its.toArray from p1) (show s.heap.IsTuple b its2.toArray from p2) hu (ints_eqAt r1 r2)) ?_
 simp only[ZF]
 rw[<-l1,<-l2,all_same]
 exact⟨.bl (!decide (ns=ms)),H,I,rfl,q⟩
def Tw (n:Nat):List Int:=(List.range n).map fun(i:Nat)=>(n:Int) - 1 - (i:Int)
def tDown (ta:TA):TE:=fun σ H Q=>ta σ H fun vs H1=>∃n:Nat,vs=[.int ((n:Int) - 1),.int (-1),.int (-1)]/\n<=1000/\∀p,H1 p=none->Q (.ref p) (upd H1 p (.lst ((Tw n).map V.int)))
theorem pe_down {a b c:Expr}{ta:TA}{p1 p2 p3 p4:Pos}(hg:Gl X "list")(hm:X.mg "list" = none)(hg':Gl X "range")(hm':X.mg "range" = none)(hc:X.calm=true)(ha:PA X [a,b,c] ta)(hs:starEach [a,b,c] X.env=[(false,eval a X.env),(false,eval b X.env),(false,eval c X.env)]:=by rfl)(hs2:starEach [b,c] X.env=[(false,eval b X.env),(false,eval c X.env)]:=by rfl)(hs3:starEach [.Call (.Name "range" p2) [a,b,c] [] p3] X.env=[(false,eval (.Call (.Name "range" p2) [a,b,c] [] p3) X.env)]:=by rfl) :
 PE X (.Call (.Name "list" p1) [.Call (.Name "range" p2) [a,b,c] [] p3] [] p4) (tDown ta):=by
 intro pins s σ H Q I h
 refine Call_ (Wm I hg hm boot_list (callWith_type1 ?_ (by rw[hs3];rfl) (by rfl)))
 show wpAny _ _ (spliced ((false,eval (.Call (.Name "range" p2) [a,b,c] [] p3) X.env)::[])) _ _ s
 refine spliced_cons ?_
 refine Call_ (Wm I hg' hm' boot_range (callWith_type1 (thn (ha p3 pins s σ H _ I h) fun us s1 ⟨vs,H1,I1,r1,q1⟩=>?_) (by rw[hs,hs2]) (by rw[hs2];rfl)))
 obtain⟨n,e,hn,q⟩:=q1
 subst e
 obtain⟨u1,u2,u3,rfl,ra,rb,rc⟩:∃u1 u2 u3,us=[u1,u2,u3]/\Zb (.int ((n:Int) - 1)) u1/\Zb (.int (-1)) u2/\Zb (.int (-1)) u3:=by
  cases r1 with
  |cons x r=>cases r with
   |cons y r=>cases r with
    |cons z r=>cases r;exact⟨_,_,_,rfl,x,y,z⟩
 obtain⟨t1,rfl⟩:=UT ra
 obtain⟨t2,rfl⟩:=UT rb
 obtain⟨t3,rfl⟩:=UT rc
 refine call_range_3 (by decide) ?_ (Or.inl (PyProof.noPylong_small (by omega)))
 refine spliced_nil ?_
 have I2:Zq X pins σ H1 {s1 with heap:=s1.heap.push {cls:=.type "range",data:=.fields #[.int ((n:Int) - 1) t1,.int (-1) t2,.int (-1) t3]},toks:=s1.toks}:=I1.kept fun b o e=>Z8 _ e
 have hr:IsRange (s1.heap.push {cls:=.type "range",data:=.fields #[.int ((n:Int) - 1) t1,.int (-1) t2,.int (-1) t3]}) s1.heap.objs.size ((n:Int) - 1) (-1) (-1) t1 t2 t3:=IsRange.new ..
 refine call_list_range (s:={s1 with heap:=s1.heap.push {cls:=.type "range",data:=.fields #[.int ((n:Int) - 1) t1,.int (-1) t2,.int (-1) t3]},toks:=s1.toks}) (n:=n) (I.ok.hd hc) hr ?_ ?_ (by omega) fun h' tk acc c' hk hS hacc=>?_
 ·exact PySem.W.small_down (by omega) (by omega) (by omega) (by omega)
 ·rw[PySem.W.rangeSize_downNat];omega
 ·refine⟨.ref _,_,I2.laid (t':=tk) (o:=.lst ((Tw n).map V.int)) hk (Nat.le_refl _) ?_,rfl,q _ (I2.hok.fresh (Nat.le_refl _))⟩
  have ld:(Tw n).length=n:=by unfold Tw;rw[Z2,YY]
  refine⟨by rw[Z2,ld,sizeLine_eq];omega,acc.toList,c',?_,?_⟩
  ·refine vals_of _ _ (by rw[ld,Wz];exact hacc.1) fun j u hj=>?_
   have hj':acc[j]?=some u:=by simpa using hj
   obtain⟨t,e⟩:=hacc.2 j u hj'
   have hjn:j<n:=by rw[<-hacc.1];exact(Array.getElem?_eq_some_iff.mp hj').1
   refine⟨t,(n:Int) - 1 - (j:Int),?_,by rw[e];congr 1;omega⟩
   unfold Tw
   rw[ZQ,Xq hjn]
   rfl
  ·have e:acc.toList.toArray=acc:=by simp
   rw[e]
   exact hS
end
def tSetC (i:Nat)(te:TE):TS:=fun D σ H=>te σ H fun v H1=>D.nx (σ.set i (some v)) H1
theorem ps_comp {X:Cx}{elt tg iter:Expr}{ifs:List Expr}{scope:Scope}{pos pos' spos:Pos}{N:List Str}{nt:Nat}{js:List Nat}{sc:Scope}{N0:List Str}{wi:TI}{g:TG}{tt:TT}{te:TE}{ii:Nat}{nm:Str}(hNd:X.N.Nodup)(hii:X.N[ii]?=some nm)(hloc:Loc X.env.scope nm)(hc:X.calm=true)(hsc:X.env.scope=sc)(hN:X.N=N0)(B:Blk sc N0 N nt js scope)(hi:PI X tg iter wi)(hg:∀cl C s H fp,PG (blk X N scope cl C s H fp) tg g)(ht:∀cl C s H fp,PTs (blk X N scope cl C s H fp) ifs tt)(he:∀cl C s H fp,PE (blk X N scope cl C s H fp) elt te)(hsw:swapsWith (.ListComp elt [⟨tg,iter,ifs,0⟩] scope pos) (some (.Name nm pos')) spos.line X.env=pure true:=by rfl)(hf:X.fn nm=true\/X.env.scope.names.lookup nm=some .local:=by first | exact .inl rfl | exact .inr rfl | assumption)(hs:∀x,foldedSetIterable iter X.env x=pure x:=by intro _;rfl):PS X (.Assign [.Name nm pos'] (.ListComp elt [⟨tg,iter,ifs,0⟩] scope pos) spos) (tSetC ii (SB nt js wi g tt te)):=by
 subst hsc hN
 intro pins s σ H D I h
 obtain⟨cl,hcl,c1,c2⟩:=Tt (env:=X.env) (scope:=scope) fun y hy hk=>I.ok.has y.1 (B.cap y hy hk)
 rw[PySem.exec_Assign_Name_used _ _ _ _ hsw]
 refine wpAny_bind (wpAny_standAt (wpAny_bind ?_))
 show wpAny _ _ (comprehension _ scope X.env _ _ _ _ (some (assign (.Name nm pos') X.env)) >>= _) _ _ _
 refine wpAny_bind (thn (Q:=fun _ s'=>∃σ' H',Zq X pins σ' H' s'/\D.nx σ' H') ?_ fun _ s9 q9=>wpAny_pure (wpAny_pure q9))
 refine wpAny_comprehension_free (use:=some (assign (.Name nm pos') X.env)) rfl hs hcl B.kind B.loc (thn (hi pins s σ H _ I h) fun v s1 q1=>thn q1 fun itv s2 q2=>?_)
 obtain⟨it,fp,tn,J,H2,e,I2,T,st2,f2,q2⟩:=q2
 subst e
 obtain⟨W,⟨m0,w0⟩,turn⟩:=q2 s2.heap.objs.size (I2.hok.fresh (Nat.le_refl _))
 have hlt:∀b∈fp,b<s2.heap.objs.size:=fun b hb=>by
  obtain⟨o,eo,_⟩:=T.obj _ _ st2 b hb
  exact ZA eo
 refine wpAny_newObj_type (wpAny_newFunctionEnv B.nocell (by intro y hy;simp at hy) (fun h1 hns hsb=>?_) B.kind)
 dsimp only at hns hsb ⊢
 have hsz:(s2.heap.push {cls:=.type "list",dict:=none,data:=.seq ([]:List Value).toArray}).objs.size=s2.heap.objs.size+1:=by rw[XJ]
 have old:∀b o,s2.heap.get? b=some o->h1.get? b=some o:=fun b o eb=>hsb.extBut b o (by rw[hsz];exact Zs (Yw (ZA eb))) (Z8 _ (Z8 _ eb))
 have hD:h1.get? s2.heap.objs.size=some {cls:=.type "list",data:=.seq ([]:List Value).toArray 0}:=hsb.extBut _ _ (by rw[hsz];exact Zs (WI _)) (Z8 _ (Zv _ rfl))
 rw[hsz]at hns
 have I3:=SH (cl:=cl) (fp:=fp) (tk:=s2.toks+([]:List (Str×Value)).length) I2 B c1 c2 f2 hlt old (show h1.Ns (s2.heap.objs.size+1) fun _=>none from hns) hD
 have stat:∀{H':Hp},(∀b∈fp,H' b=none)->∀b∈fp,SC (blk X N scope cl (s2.heap.objs.size+1) s2 H2 fp) [] H' b:=fun{H'} hn b hb=>
  ⟨hn b hb,Zs (Yw (hlt b hb)),fun z=>(ZV.mp (I2.stkSub b z)).elim (f2 b hb).2.1 (f2 b hb).2.2.1,.inl hb,fun x c ec=>(f2 b hb).2.2.2.2.1 x c (c1 x c ec),fun p hp=>absurd (show p∈([]:List (Addr×Obj)) from hp) (by simp)⟩
 have fin:∀{i:Nat} {σ':St} {H':Hp} {s':Shared},Zq (blk X N scope cl (s2.heap.objs.size+1) s2 H2 fp) [] σ' H' s'->D.nx (σ.set ii (some (.ref s2.heap.objs.size))) H'->
  compPost (model X.prog X.w) X.A X.xe (some (assign (.Name nm pos') X.env)) (fun _ s'=>∃σ' H',Zq X pins σ' H' s'/\D.nx σ' H') (.ref s2.heap.objs.size) (s2.heap.objs.size+1) (.ok .next) s':=fun{i σ' H' s'} Ib q=>by
  obtain⟨m,hn,_⟩:=id Ib.loc
  have I4:Zq X pins σ H' s':=I2.call' Ib.os Ib.base Ib.hok Ib.bare fun b hb=>⟨(f2 b hb).2.2.2.1,(f2 b hb).2.1,(f2 b hb).2.2.2.2.1,(f2 b hb).2.2.2.2.2⟩
  obtain⟨g0,g1,g2,g3,g4,g5⟩:=I2.fpOk (H':=H') (le_succ _) Ib.free
  show wpAny _ _ (assign (.Name nm pos') X.env (.ref s2.heap.objs.size)) _ _ _
  refine wpAny_bind (wpAny_standAt (wpAny_bindName (Tm I4 hNd hii hloc (v:=.ref s2.heap.objs.size) rfl (fun s5 I5 ⟨a,sb,ha⟩=>?_) hf)))
  have na:s2.heap.objs.size+1≠a:=by
   rcases ha with rfl | ha
   ·exact g1
   ·exact fun z=>g4 _ _ ha z.symm
  refine⟨m,hn.sameBut sb na,fun h'' hs''=>?_⟩
  exact⟨_,H',I5.turned (t':=s5.toks) (fun b o hb eb=>hs''.extBut b o hb eb) g0 g1 g3 g4 g5,q⟩
 have loop:codeAny (model X.prog X.w) X.A (.compLoop (.ListComp elt [⟨tg,iter,ifs,0⟩] scope pos) 0 (.ref it) (.ref s2.heap.objs.size) (compEnvC scope cl (s2.heap.objs.size+1) X.env))
  (compPost (model X.prog X.w) X.A X.xe (some (assign (.Name nm pos') X.env)) (fun _ s'=>∃σ' H',Zq X pins σ' H' s'/\D.nx σ' H') (.ref s2.heap.objs.size) (s2.heap.objs.size+1)) {s2 with heap:=h1,toks:=s2.toks+([]:List (Str×Value)).length}:=by
  refine Uq (fun n s'=>∃i σ' H',Zq (blk X N scope cl (s2.heap.objs.size+1) s2 H2 fp) [] σ' H' s'/\tn i s'.heap/\(∀b∈fp,H' b=none)/\W i n σ' H') ?_ m0
   ⟨0,_,_,I3,T.keep _ _ _ st2 fun b _ o eb=>old b o eb,fun b hb=>?_,w0⟩
  ·rintro n s3 ⟨i,σ3,H3,J3,st3,fr3,w3⟩
   rcases turn i n σ3 H3 w3 with⟨stop,qn⟩ | ⟨go,step⟩
   ·refine thn (T.done (blk X N scope cl (s2.heap.objs.size+1) s2 H2 fp) rfl rfl rfl hc i [] s3 σ3 H3 _ J3 (stat fr3) st3 stop) fun r s4 ⟨hr,I4⟩=>?_
    subst hr
    exact fin (i:=i) I4 qn
   ·refine thn (T.item (blk X N scope cl (s2.heap.objs.size+1) s2 H2 fp) rfl rfl rfl hc i [] s3 σ3 H3 _ J3 (stat fr3) st3 go) fun r s4 ⟨u,hr,h4⟩=>?_
    subst hr
    refine thn h4 fun _ s5 ⟨x,H5,I5,r5,y5,st5,fr5⟩=>?_
    have I5':=I5.pinned (stat fr5) (T.obj _ _ st5)
    refine thn (hg _ _ _ _ _ _ s5 σ3 H5 x u _ I5' r5 (step x H5 y5)) fun _ s6 ⟨σ6,H6,I6,q6⟩=>?_
    have again:∀{σ7:St} {H7:Hp} {s7:Shared} {k:Nat},Zq (blk X N scope cl (s2.heap.objs.size+1) s2 H2 fp) ([]++Uy fp s5.heap) σ7 H7 s7->k<n->W (i+1) k σ7 H7->
     ∃k,k<n/\∃i σ' H',Zq (blk X N scope cl (s2.heap.objs.size+1) s2 H2 fp) [] σ' H' s7/\tn i s7.heap/\(∀b∈fp,H' b=none)/\W i k σ' H':=fun{σ7 H7 s7 k} I7 hk w7=>by
     refine⟨k,hk,i+1,σ7,H7,I7.unpinned,T.keep _ _ _ st5 fun b hb o eb=>(I7.pin (b,o) (ZO _ (ZO _ (Yv hb eb)))).1,fun b hb=>?_,w7⟩
     obtain⟨o,eb,_⟩:=T.obj _ _ st5 b hb
     exact(I7.pin (b,o) (ZO _ (ZO _ (Yv hb eb)))).2.1
    refine thn (ht _ _ _ _ _ _ s6 σ6 H6 _ I6 q6) fun ok s7 ⟨H7,I7,q7⟩=>?_
    cases ok with
    |false=>
     rw[if_neg Bool.false_ne_true]at q7 ⊢
     obtain⟨k,hk,w7⟩:=q7
     exact again I7 hk w7
    |true=>
     rw[if_pos rfl]at q7 ⊢
     refine thn (he _ _ _ _ _ _ s7 σ6 H7 _ I7 q7) fun y s8 ⟨v8,H8,I8,r8,ys,e8,z8,k,hk,w8⟩=>?_
     refine thn (Y8 _ s8 σ6 H8 (.ref s2.heap.objs.size) [v8] _ [y] (fun _ H9=>W (i+1) k σ6 H9) I8 rfl (.cons r8 .nil) ⟨_,ys,v8,rfl,rfl,e8,z8,w8⟩) fun _ s9 ⟨_,H9,I9,_,w9⟩=>?_
     exact again I9 hk w9
  ·show upd H2 _ _ b=none
   rw[ZS (Zs (hlt b hb))]
   exact(f2 b hb).1
 rw[hsz]
 exact codeAny_compStart_list loop (T.self _ 0 _ _ _ (T.keep _ _ _ st2 fun b _ o eb=>old b o eb) loop)
theorem We (n:Nat)(keep:Nat->Bool):(List.range (n+1)).filter keep=(List.range n).filter keep++(if keep n=true then [n] else []):=by
 rw[XU,Xz]
 congr 1
 cases h:keep n<;>simp[h]
theorem Yr {J:It}{g:TG}{tt:TT}{te:TE}{Q:VK}{D:Addr}{H1:Hp}{σ0:St}(n:Nat)(hn:n<=sizeLine)(keep:Nat->Bool)(f:Nat->V)(Sg:St->Prop)(itm:Nat->Hp->V->Prop)(hD:H1 D=none)(s0:Sg σ0)(items:∀i H,ZR H1 H->(i<n->J.go i H/\∀x H2,J.yld i H x H2->ZR H H2/\itm i H2 x)/\(n<=i->J.stop i H))(step:∀i x σ' H,i<n->ZR H1 H->itm i H x->Sg σ'->∀(R:St->V->Hp->Prop) (S:St->Hp->Prop),(keep i=true->∀σ3 y H5,Sg σ3->ZR H H5->y=f i->R σ3 y H5)->(keep i=false->∀σ3 H4,Sg σ3->ZR H H4->S σ3 H4)->
  g x σ' H fun σ3 H3=>tt σ3 H3 fun ok H4=>if ok=true then te σ3 H4 (R σ3) else S σ3 H4)(fin:∀H',ZR H1 H'->H' D=some (.lst (((List.range n).filter keep).map f))->Q (.ref D) H') :
 cmpW J g tt te Q D σ0 H1:=by
 refine⟨fun i m σ H=>m=n - i/\i<=n/\Sg σ/\ZR H1 H/\H D=some (.lst (((List.range i).filter keep).map f)),⟨n,by omega,Yp _,s0,(ZR.refl H1).upd_free hD _,Z5⟩,?_⟩
 rintro i m σ H ⟨rfl,hi,hs,sm,hd⟩
 by_cases hlt:i<n
 ·obtain⟨go,yl⟩:=(items i H sm).1 hlt
  refine .inr ⟨go,fun x H2 y=>?_⟩
  obtain⟨s2,im⟩:=yl x H2 y
  refine step i x σ H2 hlt (sm.trans s2) im hs _ _ (fun kp σ3 y H5 g3 s5 ey=>?_) (fun kp σ3 H4 g3 s4=>?_)
  ·have ll:(((List.range i).filter keep).map f).length<=i:=by
    rw[Z2]
    exact Nat.le_trans (Yh _ _) (by rw[YY];exact Nat.le_refl _)
   refine⟨_,s5 _ _ (s2 _ _ hd),by omega,n - (i+1),by omega,rfl,by omega,g3,(sm.trans (s2.trans s5)).upd_free hD _,?_⟩
   rw[Z5,ey,We,if_pos kp,ZB]
   rfl
  ·refine⟨n - (i+1),by omega,rfl,by omega,g3,sm.trans (s2.trans s4),?_⟩
   rw[s4 _ _ (s2 _ _ hd),We,if_neg (by rw[kp];exact Bool.false_ne_true),YV]
 ·have e:i=n:=by omega
  subst e
  exact .inl ⟨(items i H sm).2 (Nat.le_refl _),fin H sm hd⟩
theorem Wy {H1:Hp}(lo:Int)(n:Nat)(i:Nat)(H:Hp)(s:ZR H1 H) :
 (i<n->(Itr lo n).go i H/\∀x H2,(Itr lo n).yld i H x H2->ZR H H2/\x=.int (lo+(i:Int)))/\(n<=i->(Itr lo n).stop i H):=by
 refine⟨fun hi=>⟨hi,fun x H2 ⟨e,y⟩=>?_⟩,fun hi=>hi⟩
 subst e
 exact⟨ZR.refl _,y⟩
theorem items_rev {K:W.Frag}{a:Addr}{xs:List V}{H1:Hp}(h:H1 a=some (.tup xs))(i:Nat)(H:Hp)(s:ZR H1 H) :
 (i<xs.length->(Itv K a xs.length).go i H/\∀x H2,(Itv K a xs.length).yld i H x H2->ZR H H2/\xs.reverse[i]?=some x)/\(xs.length<=i->(Itv K a xs.length).stop i H):=by
 have q:Y0 K H a xs:=Y0.of (s _ _ h)
 refine⟨fun hi=>⟨⟨xs,xs.reverse[i]'(by simpa using hi),q,rfl,Z1 _⟩,fun x H2 ⟨e,y⟩=>?_⟩,fun hi=>hi⟩
 subst e
 exact⟨ZR.refl _,y xs q rfl⟩
end L2
namespace BB
def stp (z L:Nat)(b:Bool):Nat×Bool:=
 if b then(if L<z then(L+1,false) else(L,true)) else(if 0<L then(L - 1,true) else(0,false))
def out (z:Nat):Nat->List Bool->List Bool
 |_,[]=>[]
 |L,b::r=>(stp z L b).2::out z (stp z L b).1 r
def fin (z:Nat):Nat->List Bool->Nat
 |L,[]=>L
 |L,b::r=>fin z (stp z L b).1 r
theorem fin_append (z:Nat):∀(L:Nat) (x y:List Bool),fin z L (x++y)=fin z (fin z L x) y
 |_,[],_=>rfl
 |L,b::r,y=>fin_append z _ r y
theorem out_length (z:Nat):∀(L:Nat) (bs:List Bool),(out z L bs).length=bs.length
 |_,[]=>rfl
 |L,b::r=>by
  show(out z _ r).length+1=r.length+1
  rw[out_length z _ r]
theorem SK {z:Nat}:∀{L:Nat} {bs:List Bool},(out z L bs).count true+fin z L bs=L+bs.count true
 |L,[]=>by simp[out,fin]
 |L,b::r=>by
  have ih:=SK (z:=z) (L:=(stp z L b).1) (bs:=r)
  have e1:out z L (b::r)=(stp z L b).2::out z (stp z L b).1 r:=rfl
  have e2:fin z L (b::r)=fin z (stp z L b).1 r:=rfl
  rw[e1,e2,count_cons,count_cons]
  have k:(stp z L b).1+(if(stp z L b).2==true then 1 else 0)=L+(if b==true then 1 else 0):=by
   unfold stp
   cases b
   ·simp only[Yd,if_false]
    split<;>simp<;>omega
   ·simp only[if_true]
    split<;>simp
  omega
def places:Int->List Bool->List Int
 |_,[]=>[]
 |lo,b::r=>(if b=true then [lo] else [])++places (lo+1) r
theorem UH:∀(lo:Int) (x y:List Bool),places lo (x++y)=places lo x++places (lo+(x.length:Int)) y
 |lo,[],y=>by show places lo y=places (lo+((0:Nat):Int)) y;congr 1;omega
 |lo,b::r,y=>by
  show _++places (lo+1) (r++y)=(_++places (lo+1) r)++places (lo+((r.length+1:Nat):Int)) y
  rw[UH (lo+1) r y,List.append_assoc]
  congr 3
  omega
theorem WV:∀(lo:Int) (bs:List Bool),(places lo bs).length=bs.count true
 |_,[]=>rfl
 |lo,b::r=>by
  show(_++places (lo+1) r).length=_
  rw[Z6,WV (lo+1) r,count_cons]
  cases b<;>simp<;>omega
theorem U9:∀{lo:Int} {bs:List Bool} {p:Int},p∈places lo bs->lo<=p/\p<lo+(bs.length:Int)
 |lo,[],p,h=>by cases h
 |lo,b::r,p,h=>by
  rcases Zi.mp (show p∈(if b=true then [lo] else [])++places (lo+1) r from h) with h | h
  ·cases b
   ·cases h
   ·have:p=lo:=by simpa using h
    subst this
    simp only[ZM]
    omega
  ·have:=U9 h
   simp only[ZM]
   omega
theorem places_up:∀(lo:Int) (bs:List Bool),(places lo bs).Pairwise (· < ·)
 |_,[]=>.nil
 |lo,b::r=>by
  refine YD.mpr ⟨by cases b<;>simp,places_up (lo+1) r,fun x hx y hy=>?_⟩
  have:=U9 hy
  cases b
  ·cases hx
  ·have:x=lo:=by simpa using hx
   omega
def mir (row:List Int):List Int:=row.reverse.map fun p=>-p
theorem mir_length (row:List Int):(mir row).length=row.length:=by unfold mir;rw[Z2,WZ]
theorem mir_up {row:List Int}(h:row.Pairwise (· < ·)):(mir row).Pairwise (· < ·):=by
 unfold mir
 rw[WK,List.pairwise_reverse]
 exact h.imp fun{a b} z=>by omega
def row (lo:Int)(n:Nat):List Int:=(List.range n).map fun(k:Nat)=>lo+(k:Int)
theorem row_zero (lo:Int):row lo 0=[]:=rfl
theorem TW (lo:Int)(n:Nat):row lo (n+1)=lo::row (lo+1) n:=by
 unfold row
 rw[Yu,Y3,Y5]
 congr 1
 ·show lo+((0:Nat):Int)=lo
  omega
 ·refine Y4 fun k _=>?_
  show lo+((k+1:Nat):Int)=lo+1+(k:Int)
  omega
def sp (z:Nat):Nat->Int->List Int->List Int
 |L,box,[]=>row box L
 |L,box,p::r=>row box (min L (p - box).toNat)++
  (if L - min L (p - box).toNat<z then sp z (L - min L (p - box).toNat+1) (p+1) r else p::sp z (L - min L (p - box).toNat) (p+1) r)
theorem sp_gap {z L:Nat}{lo:Int}{rw_:List Int}(h:∀p∈rw_,lo+1<=p):sp z L lo rw_=if 0<L then lo::sp z (L - 1) (lo+1) rw_ else sp z 0 (lo+1) rw_:=by
 cases rw_ with
 |nil=>
  show row lo L=if 0<L then lo::row (lo+1) (L - 1) else row (lo+1) 0
  cases L with
  |zero=>rfl
  |succ L=>rw[if_pos (succ_pos L),TW];rfl
 |cons p r=>
  have hp:=h p (ZW ..)
  cases L with
  |zero=>
   rw[if_neg (by omega)]
   unfold sp
   rw[zero_min,zero_min]
   rfl
  |succ L=>
   rw[if_pos (succ_pos L)]
   have e:min (L+1) (p - lo).toNat=min L (p - (lo+1)).toNat+1:=by omega
   unfold sp
   rw[e,TW,show L+1 - 1=L from rfl,show L+1 - (min L (p - (lo+1)).toNat+1)=L - min L (p - (lo+1)).toNat by omega]
   rfl
theorem VY (z:Nat):∀(L:Nat) (lo:Int) (bs:List Bool),sp z L lo (places lo bs)=places lo (out z L bs)++row (lo+(bs.length:Int)) (fin z L bs)
 |L,lo,[]=>by
  show row lo L=[]++row (lo+((0:Nat):Int)) L
  rw[XT]
  congr 1
  omega
 |L,lo,false::r=>by
  have e:places lo (false::r)=places (lo+1) r:=rfl
  rw[e,sp_gap fun p hp=>(U9 hp).1]
  have el:lo+1+(r.length:Int)=lo+((false::r).length:Int):=by simp only[ZM];omega
  by_cases c:0<L
  ·rw[if_pos c,VY z (L - 1) (lo+1) r,el]
   have e1:stp z L false=(L - 1,true):=by unfold stp;simp only[Yd,if_false,if_pos c]
   show _=((if(stp z L false).2=true then [lo] else [])++places (lo+1) (out z (stp z L false).1 r))++row _ (fin z (stp z L false).1 r)
   rw[e1]
   rfl
  ·rw[if_neg c,VY z 0 (lo+1) r,el]
   have e1:stp z L false=(0,false):=by unfold stp;simp only[Yd,if_false,if_neg c]
   show _=((if(stp z L false).2=true then [lo] else [])++places (lo+1) (out z (stp z L false).1 r))++row _ (fin z (stp z L false).1 r)
   rw[e1]
   rfl
 |L,lo,true::r=>by
  have e:places lo (true::r)=lo::places (lo+1) r:=rfl
  have el:lo+1+(r.length:Int)=lo+((true::r).length:Int):=by simp only[ZM];omega
  rw[e]
  unfold sp
  have em:min L (lo - lo).toNat=0:=by rw[Int.sub_self];exact Nat.min_zero L
  rw[em,row_zero,XT,Nat.sub_zero]
  by_cases c:L<z
  ·rw[if_pos c,VY z (L+1) (lo+1) r,el]
   have e1:stp z L true=(L+1,false):=by unfold stp;simp only[if_true,if_pos c]
   show _=((if(stp z L true).2=true then [lo] else [])++places (lo+1) (out z (stp z L true).1 r))++row _ (fin z (stp z L true).1 r)
   rw[e1]
   rfl
  ·rw[if_neg c,VY z L (lo+1) r,el]
   have e1:stp z L true=(L,true):=by unfold stp;simp only[if_true,if_neg c]
   show _=((if(stp z L true).2=true then [lo] else [])++places (lo+1) (out z (stp z L true).1 r))++row _ (fin z (stp z L true).1 r)
   rw[e1]
   rfl
theorem sp_free {z:Nat}{box box':Int}:∀{r:List Int},sp z 0 box r=sp z 0 box' r
 |[]=>rfl
 |p::r=>by
  unfold sp
  rw[zero_min,zero_min]
  rfl
def step (z:Nat)(r:List Int):List Int:=sp z 0 (r.headD 0) r
theorem step_places {z:Nat}{lo:Int}{bs:List Bool}(h:fin z 0 bs=0):step z (places lo bs)=places lo (out z 0 bs):=by
 unfold step
 rw[sp_free (box':=lo),VY,h,row_zero,YV]
theorem cells:∀(n:Nat) (lo:Int) (r:List Int),r.Pairwise (· < ·)->(∀p∈r,lo<=p/\p<lo+(n:Int))->∃bs:List Bool,bs.length=n/\places lo bs=r
 |0,lo,r,_,h=>by
  cases r with
  |nil=>exact⟨[],rfl,rfl⟩
  |cons p r=>have:=h p (ZW ..);omega
 |n+1,lo,r,up,h=>by
  cases r with
  |nil=>
   obtain⟨bs,e1,e2⟩:=cells n (lo+1) [] .nil (fun p hp=>by cases hp)
   exact⟨false::bs,by rw[ZM,e1],e2⟩
  |cons p r=>
   obtain⟨u1,u2⟩:=Zt.mp up
   have hp:=h p (ZW ..)
   by_cases c:p=lo
   ·subst c
    obtain⟨bs,e1,e2⟩:=cells n (p+1) r u2 fun q hq=>by
     have:=u1 q hq
     have:=h q (ZT _ hq)
     omega
    refine⟨true::bs,by rw[ZM,e1],?_⟩
    show [p]++places (p+1) bs=_
    rw[e2]
    rfl
   ·obtain⟨bs,e1,e2⟩:=cells n (lo+1) (p::r) up fun q hq=>by
     have:=h q hq
     rcases ZV.mp hq with rfl | hq'
     ·omega
     ·have:=u1 q hq'
      omega
    exact⟨false::bs,by rw[ZM,e1],e2⟩
theorem fin_falses (z:Nat):∀(k L:Nat),fin z L (Yi k false)=L - k
 |0,L=>rfl
 |k+1,L=>by
  show fin z (stp z L false).1 (Yi k false)=_
  rw[fin_falses z k]
  unfold stp
  simp only[Yd,if_false]
  split<;>simp only<;>omega
theorem UI:∀(k:Nat) (lo:Int),places lo (Yi k false)=[]
 |0,_=>rfl
 |k+1,lo=>UI k (lo+1)
theorem window (z:Nat){A B:Int}{r:List Int}(up:r.Pairwise (· < ·))(h:∀p∈r,A<=p/\p<=B):∃bs:List Bool,places A bs=r/\fin z 0 bs=0/\bs.count true=r.length/\(r≠[]->A+(bs.length:Int)<=B+1+(r.length:Int)):=by
 obtain⟨bs,e1,e2⟩:=cells (B+1 - A).toNat A r up fun p hp=>by have:=h p hp;omega
 have hc:bs.count true=r.length:=by rw[<-WV A bs,e2]
 have hf:fin z 0 bs<=r.length:=by have:=SK (z:=z) (L:=0) (bs:=bs);omega
 refine⟨bs++Yi (fin z 0 bs) false,?_,?_,?_,fun ne=>?_⟩
 ·rw[UH,UI,YV,e2]
 ·rw[fin_append,fin_falses,Nat.sub_self]
 ·rw[List.count_append,hc]
  have:(Yi (fin z 0 bs) false).count true=0:=by simp[List.count_replicate]
  omega
 ·cases r with
  |nil=>exact absurd rfl ne
  |cons p r=>
   have:=h p (ZW ..)
   rw[Z6,XY,e1]
   omega
structure Rw (r:List Int)(k:Nat)(A B:Int):Prop where
 up:r.Pairwise (· < ·)
 len:r.length=k
 bd:∀p∈r,A<=p/\p<=B
theorem Rw.mono {r:List Int}{k:Nat}{A B A' B':Int}(h:Rw r k A B)(ha:A'<=A)(hb:B<=B'):Rw r k A' B':=⟨h.up,h.len,fun p hp=>by have:=h.bd p hp;omega⟩
theorem Rw.mir {r:List Int}{k:Nat}{A B:Int}(h:Rw r k A B):Rw (mir r) k (-B) (-A):=⟨mir_up h.up,by rw[mir_length,h.len],fun p hp=>by
 obtain⟨q,hq,rfl⟩:=YC.mp hp
 have:=h.bd q (List.mem_reverse.mp hq)
 omega⟩
theorem Rw.step {r:List Int}{k:Nat}{A B:Int}(z:Nat)(h:Rw r k A B):Rw (step z r) k A (B+(k:Int)):=by
 obtain⟨bs,e1,e2,e3,e4⟩:=window z h.up h.bd
 have hc:=SK (z:=z) (L:=0) (bs:=bs)
 rw[<-e1,step_places e2]
 refine⟨places_up _ _,by rw[WV];have:=h.len;omega,fun p hp=>?_⟩
 have:=U9 hp
 rw[out_length]at this
 have ne:r≠[]:=fun w=>by
  have:(places A (out z 0 bs)).length=0:=by rw[WV];rw[w]at e3;simp only[Wk]at e3;omega
  rw[Zc]at this
  rw[this]at hp
  cases hp
 have:=e4 ne
 have:=h.len
 omega
def unstep (z:Nat)(r:List Int):List Int:=mir (step z (mir r))
theorem Rw.unstep {r:List Int}{k:Nat}{A B:Int}(z:Nat)(h:Rw r k A B):Rw (unstep z r) k (A - (k:Int)) B:=by
 have:=(h.mir.step z).mir
 rw[neg_neg,show -(-A+(k:Int))=A - (k:Int) by omega]at this
 exact this
def it (f:List Int->List Int):Nat->List Int->List Int
 |0,r=>r
 |n+1,r=>f (it f n r)
theorem Rw.its {z:Nat}{r:List Int}{k:Nat}{A B:Int}(h:Rw r k A B):∀n:Nat,Rw (it (BB.step z) n r) k A (B+(n:Int)*(k:Int))
 |0=>by
  show Rw r k A (B+((0:Nat):Int)*(k:Int))
  rw[show((0:Nat):Int)*(k:Int)=0 by simp,Int.add_zero]
  exact h
 |n+1=>by
  have:=(h.its (z:=z) n).step z
  rw[show B+((n+1:Nat):Int)*(k:Int)=B+(n:Int)*(k:Int)+(k:Int) by rw[Int.natCast_add,Int.add_mul];omega]
  exact this
theorem Rw.itu {z:Nat}{r:List Int}{k:Nat}{A B:Int}(h:Rw r k A B):∀n:Nat,Rw (it (BB.unstep z) n r) k (A - (n:Int)*(k:Int)) B
 |0=>by
  show Rw r k (A - ((0:Nat):Int)*(k:Int)) B
  rw[show((0:Nat):Int)*(k:Int)=0 by simp,Int.sub_zero]
  exact h
 |n+1=>by
  have:=(h.itu (z:=z) n).unstep z
  rw[show A - ((n+1:Nat):Int)*(k:Int)=A - (n:Int)*(k:Int) - (k:Int) by rw[Int.natCast_add,Int.add_mul];omega]
  exact this
def ld (L:Nat)(b:Bool):Nat:=if b then L+1 else L - 1
def lds:Nat->List Bool->List Nat
 |_,[]=>[]
 |L,b::r=>ld L b::lds (ld L b) r
def lst:Nat->List Bool->Nat
 |L,[]=>L
 |L,b::r=>lst (ld L b) r
theorem Wn:∀(L:Nat) (bs:List Bool),(lds L bs).length=bs.length
 |_,[]=>rfl
 |L,b::r=>by
  show(lds _ r).length+1=r.length+1
  rw[Wn]
theorem VF:∀(L:Nat) (x y:List Bool),lds L (x++y)=lds L x++lds (lst L x) y
 |_,[],_=>rfl
 |L,b::r,y=>by
  show _::lds _ (r++y)=_::(lds _ r++_)
  rw[VF _ r y]
  rfl
theorem lds_falses:∀(L:Nat),lds L (Yi L false)=(List.range L).map fun i=>L - 1 - i
 |0=>rfl
 |L+1=>by
  show ld (L+1) false::lds (ld (L+1) false) (Yi L false)=_
  have e:ld (L+1) false=L:=rfl
  rw[e,lds_falses L,Yu,Y3,Y5]
  congr 1
  refine Y4 fun i _=>?_
  show L - 1 - i=L+1 - 1 - (i+1)
  omega
end BB
namespace L2
structure Nb2 (mg:Str->Option Value):Prop extends Nb mg where
 rev:mg "reversed" = none
 abs:mg "abs" = none
section
variable {X:Cx}{elt iter:Expr}{ifs:List Expr}{scope:Scope}{pos pos' spos:Pos}{N:List Str}{js:List Nat}{sc:Scope}{N0:List Str}{wi:TI}{tt:TT}{te:TE}{x nm:Str}{px:Pos}{ii:Nat}
theorem VR (hNd:X.N.Nodup)(hii:X.N[ii]?=some nm)(hloc:Loc X.env.scope nm)(hc:X.calm=true)(hsc:X.env.scope=sc)(hN:X.N=N0)(B:Blk sc N0 (x::N) 1 js scope)(hx:scope.names.lookup x=some .local)(hi:PI X (.Name x px) iter wi)(ht:∀cl C s H fp,PTs (blk X (x::N) scope cl C s H fp) ifs tt)(he:∀cl C s H fp,PE (blk X (x::N) scope cl C s H fp) elt te)(hsw:swapsWith (.ListComp elt [⟨.Name x px,iter,ifs,0⟩] scope pos) (some (.Name nm pos')) spos.line X.env=pure true:=by rfl)(hf:X.fn nm=true\/X.env.scope.names.lookup nm=some .local:=by first | exact .inl rfl | exact .inr rfl | assumption)(hs:∀x,foldedSetIterable iter X.env x=pure x:=by intro _;rfl):PS X (.Assign [.Name nm pos'] (.ListComp elt [⟨.Name x px,iter,ifs,0⟩] scope pos) spos) (tSetC ii (SB 1 js wi (Wa 0) tt te)):=
 ps_comp hNd hii hloc hc hsc hN B hi (fun cl C s H fp=>Zl (i:=0) B.nd rfl (.inl (Ye hx)) (.inr (Ye hx))) ht he hsw hf hs
end
section
variable {κ:Type}[DecidableEq κ]
def valV (kvs:List (κ×V))(k:κ):Option V:=(kvs.find? fun kv=>decide (kv.1=k)).map (·.2)
def putK (kvs:List (κ×V))(k:κ)(v:V):List (κ×V):=
 if(kvs.any fun kv=>decide (kv.1=k))=true then kvs.map (fun kv=>if kv.1=k then(kv.1,v) else kv) else kvs++[(k,v)]
def V0 (kvs:List (κ×V))(k:κ):List (κ×V):=kvs.filter fun kv=>decide (kv.1≠k)
theorem valV_pos {p:κ×V}{r:List (κ×V)}{k:κ}(e:p.1=k):valV (p::r) k=some p.2:=by simp[valV,Ul,e]
theorem valV_neg {p:κ×V}{r:List (κ×V)}{k:κ}(e:¬p.1=k):valV (p::r) k=valV r k:=by simp[valV,Ul,e]
theorem Ui (k:κ):∀kvs:List (κ×V),(kvs.any fun kv=>decide (kv.1=k))=(valV kvs k).isSome
 |[]=>rfl
 |p::r=>by
  rw[any_cons]
  by_cases e:p.1=k
  ·simp only[valV_pos e,decide_eq_true e,Bool.true_or,Option.isSome_some]
  ·rw[valV_neg e,decide_eq_false e,Bool.false_or];exact Ui k r
theorem Sv (kvs:List (κ×V))(k:κ)(v:V):(putK kvs k v).length<=kvs.length+1:=by
 unfold putK
 split
 ·rw[Z2];omega
 ·rw[Z6,ZM,Wk];omega
theorem RelO.isSome_eq {o:Option V}{u:Option Value}(r:RelO o u):o.isSome=u.isSome:=by
 cases o with
 |none=>cases u with
  |none=>rfl
  |some _=>exact(show False from r).elim
 |some _=>cases u with
  |none=>exact(show False from r).elim
  |some _=>rfl
theorem KV.val {kvs:List (κ×V)}{vs:List (κ×Value)}(r:KV kvs vs)(k:κ):RelO (valV kvs k) (valueAt vs k):=by
 unfold KV at r
 induction r with
 |nil=>exact True.intro
 | @cons p q ps qs h t ih=>
   obtain⟨h1,h2⟩:=h
   by_cases e:p.1=k
   ·have e':q.1=k:=h1.symm.trans e
    have b:valueAt (q::qs) k=some q.2:=by simp[valueAt,Ul,e']
    rw[valV_pos e,b];exact h2
   ·have e':¬q.1=k:=fun z=>e (h1.trans z)
    have b:valueAt (q::qs) k=valueAt qs k:=by simp[valueAt,Ul,e']
    rw[valV_neg e,b];exact ih
theorem KV.any {kvs:List (κ×V)}{vs:List (κ×Value)}(r:KV kvs vs)(k:κ):(kvs.any fun kv=>decide (kv.1=k))=vs.any fun kv=>decide (kv.1=k):=by
 unfold KV at r
 induction r with
 |nil=>rfl
 |cons h t ih=>rw[any_cons,any_cons,ih,h.1]
theorem KV.repl {kvs:List (κ×V)}{vs:List (κ×Value)}(r:KV kvs vs)(k:κ){y:V}{u:Value}(ry:Zb y u) :
 KV (kvs.map fun kv=>if kv.1=k then(kv.1,y) else kv) (vs.map fun kv=>if kv.1=k then(kv.1,u) else kv):=by
 unfold KV at r ⊢
 induction r with
 |nil=>exact .nil
 | @cons p q ps qs h t ih=>
   rw[Y3,Y3]
   refine .cons ?_ ih
   obtain⟨h1,h2⟩:=h
   by_cases e:p.1=k
   ·rw[if_pos e,if_pos (h1.symm.trans e)];exact⟨h1,ry⟩
   ·rw[if_neg e,if_neg (fun z=>e (h1.trans z))];exact⟨h1,h2⟩
theorem KV.put {kvs:List (κ×V)}{vs:List (κ×Value)}(r:KV kvs vs)(k:κ){y:V}{u:Value}(ry:Zb y u):KV (putK kvs k y) (stored vs k u):=by
 unfold putK stored
 rw[r.any k]
 by_cases e:(vs.any fun kv=>decide (kv.1=k))=true
 ·rw[if_pos e,if_pos e];exact r.repl k ry
 ·rw[if_neg e,if_neg e];exact Paired.snoc r ⟨rfl,ry⟩
theorem KV.drop {kvs:List (κ×V)}{vs:List (κ×Value)}(r:KV kvs vs)(k:κ):KV (V0 kvs k) (without vs k):=by
 unfold KV at r ⊢
 unfold V0 without
 induction r with
 |nil=>exact .nil
 | @cons p q ps qs h t ih=>
   obtain⟨h1,h2⟩:=h
   rw[Yq,Yq]
   by_cases e:p.1=k
   ·have a:¬decide (p.1≠k)=true:=by simp[e]
    have b:¬decide (q.1≠k)=true:=by simp[h1.symm.trans e]
    rw[if_neg a,if_neg b];exact ih
   ·have e':¬q.1=k:=fun z=>e (h1.trans z)
    have a:decide (p.1≠k)=true:=by simp[e]
    have b:decide (q.1≠k)=true:=by simp[e']
    rw[if_pos a,if_pos b];exact .cons ⟨h1,h2⟩ ih
theorem KV.keys {kvs:List (κ×V)}{vs:List (κ×Value)}(r:KV kvs vs):kvs.map (·.1)=vs.map (·.1):=by
 unfold KV at r
 induction r with
 |nil=>rfl
 |cons h t ih=>rw[Y3,Y3,ih,h.1]
theorem KV.length {kvs:List (κ×V)}{vs:List (κ×Value)}(r:KV kvs vs):kvs.length=vs.length:=Paired.length r
theorem dropK_le (kvs:List (κ×V))(k:κ):(V0 kvs k).length<=kvs.length:=Yh _ _
end
theorem kV_is {P:Program}{w:World}{k:XL}{u:Value}(r:Zb (kV k) u):(YH P w).is k u=true:=by
 cases k with
 |inl i=>obtain⟨t,e⟩:=(show ∃t,u=Value.int i t from r);subst e;exact mixKind_int P w i t
 |inr x=>obtain⟨t,e⟩:=(show ∃t,u=Value.str x t from r);subst e;exact mixKind_str P w x t
theorem items_are {P:Program}{w:World}:∀{ks:List XL} {us:List Value},Y7 (ks.map kV) us->ItemsAre (YH P w) ks us
 |[],_,r=>by rw[map_nil]at r;cases r;exact .nil
 |k::ks,_,r=>by
  rw[Y3]at r
  cases r with
  |cons h t=>exact .cons (kV_is h) (items_are t)
abbrev KT (H:Hp):List (List XL×V)->List (List XL×Addr×Value)->Prop:=Paired fun p q=>p.1=q.1/\H q.2.1=some (.tup (p.1.map kV))/\Zb p.2 q.2.2
theorem KT.val {H:Hp}{kvs:List (List XL×V)}{xs:List (List XL×Addr×Value)}(r:KT H kvs xs)(k:List XL):RelO (valV kvs k) ((atKey xs k).map (·.2)):=by
 induction r with
 |nil=>exact True.intro
 | @cons p q ps qs h t ih=>
   obtain⟨h1,_,h2⟩:=h
   by_cases e:p.1=k
   ·have e':q.1=k:=h1.symm.trans e
    have b:atKey (q::qs) k=some q.2:=by simp[atKey,Ul,e']
    rw[valV_pos e,b];exact h2
   ·have e':¬q.1=k:=fun z=>e (h1.trans z)
    have b:atKey (q::qs) k=atKey qs k:=by simp[atKey,Ul,e']
    rw[valV_neg e,b];exact ih
theorem KT.repl {H:Hp}{kvs:List (List XL×V)}{xs:List (List XL×Addr×Value)}(r:KT H kvs xs)(k:List XL){y:V}{u:Value}(ry:Zb y u) :
 KT H (kvs.map fun kv=>if kv.1=k then(kv.1,y) else kv) (xs.map (putAt k u)):=by
 induction r with
 |nil=>exact .nil
 | @cons p q ps qs h t ih=>
   rw[Y3,Y3]
   refine .cons ?_ ih
   obtain⟨h1,h2,h3⟩:=h
   unfold putAt
   by_cases e:p.1=k
   ·rw[if_pos e,if_pos (h1.symm.trans e)];exact⟨h1,h2,ry⟩
   ·rw[if_neg e,if_neg (fun z=>e (h1.trans z))];exact⟨h1,h2,h3⟩
theorem KT.put {H:Hp}{kvs:List (List XL×V)}{xs:List (List XL×Addr×Value)}(r:KT H kvs xs)(k:List XL){b:Addr}{y:V}{u:Value}(hb:H b=some (.tup (k.map kV)))(ry:Zb y u) :
 KT H (putK kvs k y) (storedH xs k b u):=by
 have e:(kvs.any fun kv=>decide (kv.1=k))=(atKey xs k).isSome:=by
  rw[Ui,(r.val k).isSome_eq,isSome_map]
 unfold putK storedH
 rw[e]
 by_cases q:(atKey xs k).isSome=true
 ·rw[if_pos q,if_pos q];exact r.repl k ry
 ·rw[if_neg q,if_neg q];exact Paired.snoc r ⟨rfl,hb,ry⟩
theorem KT.keeps {H H':Hp}{kvs:List (List XL×V)}{xs:List (List XL×Addr×Value)}(r:KT H kvs xs)(ht:∀b ys,H b=some (.tup ys)->H' b=some (.tup ys)):KT H' kvs xs:=
 Paired.mapP r fun _ _ z=>⟨z.1,ht _ _ z.2.1,z.2.2⟩
section
variable {P:Program}{w:World}{H:Hp}{h:Heap}{a:Addr}
theorem rd_of {u:HO}(ok:VC P w H h)(e:Rd H a u):YG P w H h a u:=e.ok ok
theorem dk_rd {kvs:List (XL×V)}(ok:VC P w H h)(e:Rd H a (.dK kvs)):kvs.length<=sizeLine/\(a==sysModules)=false/\∃vs,KV kvs vs/\h.DictOf (YH P w) a vs:=
 show YG P w H h a (.dK kvs) from rd_of ok e
theorem dk_of {kvs:List (XL×V)}(ok:VC P w H h)(e:H a=some (.dK kvs)):kvs.length<=sizeLine/\(a==sysModules)=false/\∃vs,KV kvs vs/\h.DictOf (YH P w) a vs:=dk_rd ok (.inl e)
theorem key_of {ks:List XL}(ok:VC P w H h)(e:H a=some (.tup (ks.map kV))):(tupleKind (YH P w)).is h ks a:=by
 obtain⟨_,its,r,o,h1,h2,n,h3⟩:=(show YG P w H h a (.tup (ks.map kV)) from ok a _ e)
 exact⟨o,its.toArray,n,h1,h2,h3,by simpa using items_are r⟩
theorem dt_rd {kvs:List (List XL×V)}(ok:VC P w H h)(e:Rd H a (.dT kvs)):kvs.length<=sizeLine/\(a==sysModules)=false/\
 ∃xs,KT H kvs xs/\h.DictOfH (tupleKind (YH P w)) a xs:=by
 obtain⟨z,y,xs,r,o,es,ep,h1,h2,h3,h4,h5⟩:=(show YG P w H h a (.dT kvs) from rd_of ok e)
 refine⟨z,y,xs,r,o,es,ep,h1,h2,h3,h4,fun x hx=>?_,h5⟩
 have all:∀{l:List (List XL×V)} {m:List (List XL×Addr×Value)},KT H l m->∀x∈m,(tupleKind (YH P w)).is h x.1 x.2.1:=by
  intro l m q
  induction q with
  |nil=>intro x hx;exact nomatch hx
  | @cons p q ps qs hq t ih=>
    intro x hx
    rcases ZV.mp hx with e | hx
    ·subst e
     exact key_of ok (by rw[<-hq.1];exact hq.2.1)
    ·exact ih x hx
 exact all r x hx
theorem dt_of {kvs:List (List XL×V)}(ok:VC P w H h)(e:H a=some (.dT kvs)):kvs.length<=sizeLine/\(a==sysModules)=false/\
 ∃xs,KT H kvs xs/\h.DictOfH (tupleKind (YH P w)) a xs:=dt_rd ok (.inl e)
end
def DGet (H:Hp)(a:Addr)(y:V)(r:Option V):Prop:=
 (∃kvs k,Rd H a (.dK kvs)/\y=kV k/\r=valV kvs k)\/∃kvs k b,Rd H a (.dT kvs)/\y=.ref b/\H b=some (.tup (k.map kV))/\r=valV kvs k
def DPut (H:Hp)(a:Addr)(y v:V)(H':Hp):Prop:=
 (∃kvs k,H a=some (.dK kvs)/\y=kV k/\kvs.length<sizeLine/\H'=upd H a (.dK (putK kvs k v)))\/
 ∃kvs k b,H a=some (.dT kvs)/\y=.ref b/\H b=some (.tup (k.map kV))/\kvs.length<sizeLine/\H'=upd H a (.dT (putK kvs k v))
theorem DGet.k {H:Hp}{a:Addr}{kvs:List (XL×V)}{k:XL}(e:H a=some (.dK kvs)):DGet H a (kV k) (valV kvs k):=.inl ⟨kvs,k,.inl e,rfl,rfl⟩
theorem DPut.k {H:Hp}{a:Addr}{kvs:List (XL×V)}{k:XL}{v:V}(e:H a=some (.dK kvs))(hl:kvs.length<sizeLine):DPut H a (kV k) v (upd H a (.dK (putK kvs k v))):=.inl ⟨kvs,k,e,rfl,hl,rfl⟩
section
variable {X:Cx}{pins:List (Addr×Obj)}{σ:St}{H:Hp}{s:Shared}{a:Addr}{y v:V}{u r:Value}{o:Option V}{A:Around}{E:Value->Shared->Prop}
theorem d_in {Q:Value->Shared->Prop}(hu:A.units+1<cLine)(I:Zq X pins σ H s)(g:DGet H a y o)(ry:Zb y u)(h:∀s',Zq X pins σ H s'->Q (.bool o.isSome) s') :
 wpAny (model X.prog X.w) A (compareOp .In u (.ref a)) Q E s:=by
 rcases g with⟨kvs,k,e,ey,l⟩ | ⟨kvs,k,b,e,ey,eb,l⟩
 ·subst ey
  obtain⟨z,hd,vs,rel,dd⟩:=dk_rd I.hok e
  refine wpAny_in_of (kV_is ry) hd dd.mapOf ?_
  rw[<-(rel.val k).isSome_eq,<-l]
  exact h _ (I.tok _)
 ·subst ey
  cases(show u=Value.ref b from ry)
  obtain⟨z,hd,xs,rel,dd⟩:=dt_rd I.hok e
  refine wpAny_in_heap (tupleKind_room_in1 hu) (key_of I.hok eb) hd dd ?_
  have q:=(rel.val k).isSome_eq
  rw[isSome_map]at q
  rw[<-q,<-l]
  exact h _ (I.tok _)
theorem d_write {h':Heap}{t':Nat}{ob:HO}(I:Zq X pins σ H s)(mu:Mut (H a))(hs:Heap.SameBut a s.heap h')(he:∃q,h'.get? a=some q)(new:YG X.prog X.w (upd H a ob) h' a ob) :
 Zq X pins σ (upd H a ob) {s with heap:=h',toks:=t'}:=
 I.write (x:=a) (e:=a) mu (.inl rfl) (fun b q hb z=>(hs.2 b hb).trans z) he new
theorem dk_new {P:Program}{w:World}{H':Hp}{h':Heap}{kvs:List (XL×V)}{vs:List (XL×Value)}(z:kvs.length<=sizeLine)(hd:(a==sysModules)=false)(rel:KV kvs vs)(dd:h'.DictOf (YH P w) a vs) :
 YG P w H' h' a (.dK kvs):=⟨z,hd,vs,rel,dd⟩
theorem d_setItem {H':Hp}{Q:Unit->Shared->Prop}(hu:A.units+1<cLine)(I:Zq X pins σ H s)(g:DPut H a y v H')(ry:Zb y u)(rv:Zb v r)(h:∀s',Zq X pins σ H' s'->Q () s') :
 wpAny (model X.prog X.w) A (setItem (.ref a) u r) Q E s:=by
 rcases g with⟨kvs,k,e,ey,l,eH⟩ | ⟨kvs,k,b,e,ey,eb,l,eH⟩
 ·subst ey eH
  obtain⟨z,hd,vs,rel,dd⟩:=dk_of I.hok e
  have hz:vs.length<=sizeLine:=by rw[<-rel.length];exact z
  have hl:(putK kvs k v).length<=sizeLine:=by have:=Sv kvs k v;omega
  refine wpAny_setItem_pairs (hsz:=hz) (kV_is ry) dd fun h' dd' hs=>h _ ?_
  have he:∃q,h'.get? a=some q:=let⟨q,_,_,hq,_⟩:=dd';⟨q,hq⟩
  exact d_write I (by rw[e];exact True.intro) hs he (dk_new hl hd (rel.put k rv) dd')
 ·subst ey eH
  cases(show u=Value.ref b from ry)
  obtain⟨z,hd,xs,rel,dd⟩:=dt_of I.hok e
  have hz:xs.length<=sizeLine:=by rw[<-Paired.length rel];exact z
  have hl:(putK kvs k v).length<=sizeLine:=by have:=Sv kvs k v;omega
  refine wpAny_setItem_heap (hsz:=hz) (tupleKind_room_in1 hu) (key_of I.hok eb) dd fun h' dd' hs=>h _ ?_
  obtain⟨q,es,ep,hq,h2,h3,h4,_,h5⟩:=dd'
  refine d_write I (by rw[e];exact True.intro) hs ⟨q,hq⟩ ⟨hl,hd,_,(rel.put k eb rv).keeps fun c ys ec=>?_,q,es,ep,hq,h2,h3,h4,h5⟩
  rw[ZS (Wc ec e (fun z=>nomatch z))]
  exact ec
end
section
variable {X:Cx}{pins:List (Addr×Obj)}{σ:St}{H:Hp}{s:Shared}{a:Addr}{kvs:List (XL×V)}{k:XL}{u:Value}{A:Around}{E:Value->Shared->Prop}
theorem d_pop {v:V}{more:List Value}{Q:Value->Shared->Prop}(I:Zq X pins σ H s)(e:H a=some (.dK kvs))(ry:Zb (kV k) u)(l:valV kvs k=some v)(hm:more=[]\/∃x,more=[x])(h:∀w' s',Zq X pins σ (upd H a (.dK (V0 kvs k))) s'->Zb v w'->Q w' s'):wpAny (model X.prog X.w) A (call (.builtin "dict.pop") (.ref a::u::more)) Q E s:=by
 obtain⟨z,hd,vs,rel,dd⟩:=dk_of I.hok e
 obtain⟨w',hw,rw'⟩:=RelO.some_of (v:=v) (o:=valueAt vs k) (by rw[<-l];exact rel.val k)
 have hp:(keyPart u).isSome=true:=by
  cases k with
  |inl i=>obtain⟨t,q⟩:=(show ∃t,u=Value.int i t from ry);subst q;rfl
  |inr x=>obtain⟨t,q⟩:=(show ∃t,u=Value.str x t from ry);subst q;rfl
 have ha:argsOk "dict.pop" ⟨.ref a::u::more,[]⟩:=by
  rcases hm with q | ⟨x,q⟩
  ·subst q;exact PySem.F.args_dict_pop_2 _ _
  ·subst q;exact PySem.F.args_dict_pop_3 _ _ _
 refine call_meetsIn slot_dict_pop dd.typeIs PySem.F.entry_dict_pop ha (meets_dict_pop_there (YH X.prog X.w) a (kV_is ry) more hm hp)
  ⟨vs,w',dd,by rw[<-rel.length];exact z,hw,fun h' dd' hs=>h w' _ ?_ rw'⟩
 have he:∃q,h'.get? a=some q:=let⟨q,_,_,hq,_⟩:=dd';⟨q,hq⟩
 exact d_write I (by rw[e];exact True.intro) hs he (dk_new (Nat.le_trans (dropK_le kvs k) z) hd (rel.drop k) dd')
end
def tDIn (ty td:TE):TE:=fun σ H Q=>ty σ H fun y H1=>td σ H1 fun x H2=>∃a o,x=.ref a/\DGet H2 a y o/\Q (.bl o.isSome) H2
def sDPut (td ty tv:TE):TS:=fun D σ H=>tv σ H fun v H1=>td σ H1 fun x H2=>ty σ H2 fun y H3=>∃a H4,x=.ref a/\DPut H3 a y v H4/\D.nx σ H4
section
variable {X:Cx}{o i e value:Expr}{pos pos' tpos:Pos}{td ty tv:TE}
theorem pc_din (hu:X.A.units+1<cLine)(hi:PE X i ty)(ho:PE X o td):PC X .In i o (tDIn ty td):=by
 intro pins s σ H Q I h
 refine thn (hi pins s σ H _ I h) fun iv s1 ⟨y,H1,I1,ry,q1⟩=>thn (ho pins s1 σ H1 _ I1 q1) fun u s2 ⟨x,H2,I2,rx,a,ov,ex,g,q2⟩=>?_
 subst ex
 obtain rfl:u=Value.ref a:=rx
 exact d_in hu I2 g ry fun s3 I3=>⟨.bl ov.isSome,H2,I3,rfl,q2⟩
theorem ps_dput (hu:X.A.units+1<cLine)(ho:PE X o td)(hi:PE X i ty)(hv:PE X value tv)(hs:swapsWith value (some (.Subscript o i pos')) pos.line X.env=pure false) :
 PS X (.Assign [.Subscript o i pos'] value pos) (sDPut td ty tv):=by
 intro pins s σ H D I h
 refine wpAny_Assign_Subscript (thn (hv pins s σ H _ I h) fun r s1 ⟨v,H1,I1,rv,q1⟩=>thn (ho pins s1 σ H1 _ I1 q1) fun u s2 ⟨x,H2,I2,rx,q2⟩=>thn (hi pins s2 σ H2 _ I2 q2) fun iv s3 ⟨y,H3,I3,ry,a,H4,ex,g,q3⟩=>?_) hs
 subst ex
 obtain rfl:u=Value.ref a:=rx
 exact d_setItem hu I3 g ry rv fun s4 I4=>⟨σ,H4,I4,q3⟩
end
section
variable {X:Cx}{pos:Pos}
end
structure M1 (X:Cx)(o:Expr)(m:Str)(apos:Pos)(e:Expr)(cpos:Pos):Prop where
 base:attributeBase o m X.env (eval o X.env)=eval o X.env
 few:((backTo cpos (starEach [e] X.env)).all (fun x=>!x.1)&&(backToKw cpos (keywordEach [] X.env)).all (fun x=>x.1.isSome)
  &&decide (([e]:List Expr).length+([]:List Keyword).length+(if([]:List Keyword).isEmpty then 0 else 1)<30))=true
 line:(apos.endLine==cpos.line)=true
 trees:backTo cpos (starEach [e] X.env)=[(false,eval e X.env)]
structure M2 (X:Cx)(o:Expr)(m:Str)(apos:Pos)(e f:Expr)(cpos:Pos):Prop where
 base:attributeBase o m X.env (eval o X.env)=eval o X.env
 few:((backTo cpos (starEach [e,f] X.env)).all (fun x=>!x.1)&&(backToKw cpos (keywordEach [] X.env)).all (fun x=>x.1.isSome)
  &&decide (([e,f]:List Expr).length+([]:List Keyword).length+(if([]:List Keyword).isEmpty then 0 else 1)<30))=true
 line:(apos.endLine==cpos.line)=true
 trees:backTo cpos (starEach [e,f] X.env)=[(false,eval e X.env),(false,eval f X.env)]
def IsD (H:Hp)(a:Addr):Prop:=(∃kvs,Rd H a (.dK kvs))\/∃kvs,Rd H a (.dT kvs)
theorem isD_at {X:Cx}{pins:List (Addr×Obj)}{σ:St}{H:Hp}{s:Shared}{a:Addr}(I:Zq X pins σ H s)(d:IsD H a) :
 s.TypeIs (.ref a) "dict"/\(∀b,Value.ref a=.ref b->∃ob,s.heap.get? b=some ob/\ob.dict=none)/\(a==sysModules)=false:=by
 rcases d with⟨kvs,e⟩ | ⟨kvs,e⟩
 ·obtain⟨_,hd,vs,_,dd⟩:=dk_rd I.hok e
  refine⟨dd.typeIs,fun b q=>?_,hd⟩
  cases q
  obtain⟨ob,_,_,h1,h2,_⟩:=dd
  exact⟨ob,h1,h2.2.1⟩
 ·obtain⟨_,hd,xs,_,dd⟩:=dt_rd I.hok e
  refine⟨dd.typeIs,fun b q=>?_,hd⟩
  cases q
  obtain⟨ob,_,_,h1,h2,_⟩:=dd
  exact⟨ob,h1,h2.2.1⟩
section
variable {X:Cx}{pins:List (Addr×Obj)}{σ:St}{H:Hp}{s:Shared}{a:Addr}{y d:V}{u r:Value}{o:Option V}{A:Around}{E:Value->Shared->Prop}
end
def tDPop1 (td ty:TE):TE:=fun σ H Q=>td σ H fun x H1=>∃a,x=.ref a/\IsD H1 a/\ty σ H1 fun y H2=>∃kvs k v,H2 a=some (.dK kvs)/\y=kV k/\valV kvs k=some v/\Q v (upd H2 a (.dK (V0 kvs k)))
section
variable {X:Cx}{o e f:Expr}{apos cpos:Pos}{td ty tx:TE}
theorem pe_dpop1 (ho:PE X o td)(he:PE X e ty)(m:M1 X o "pop" apos e cpos):PE X (.Call (.Attribute o "pop" apos) [e] [] cpos) (tDPop1 td ty):=by
 intro pins s σ H Q I h
 refine wpAny_Call_method m.base m.few m.line PySem.F.plainAttrs_dict slot_dict_pop PySem.F.type_dict_pop (thn (ho pins s σ H _ I h) fun u s1 ⟨x,H1,I1,rx,a,ex,d,q1⟩=>?_)
 subst ex
 obtain rfl:u=Value.ref a:=rx
 obtain⟨t1,t2,_⟩:=isD_at I1 d
 refine⟨t1,t2,?_⟩
 rw[m.trees]
 refine Calls.callWith_builtin rfl (Uk (spliced_cons (thn (he pins s1 σ H1 _ I1 q1) fun iv s2 ⟨y,H2,I2,ry,kvs,k,v,ea,ey,l,q2⟩=>spliced_nil ?_)))
 subst ey
 exact d_pop I2 ea ry l (.inl rfl) fun w' s3 I3 rw'=>⟨v,_,I3,rw',q2⟩
end
section
variable {X:Cx}{pins:List (Addr×Obj)}{σ:St}{H:Hp}{s:Shared}{a:Addr}{kvs:List (XL×V)}{A:Around}{E:Value->Shared->Prop}
end
section
variable {X:Cx}{pins:List (Addr×Obj)}{σ:St}{H:Hp}{s:Shared}{a:Addr}{y:V}{u:Value}{A:Around}{E:Value->Shared->Prop}
end
section
variable {κ:Type}[DecidableEq κ]
theorem valV_not {kvs:List (κ×V)}{k:κ}(h:valV kvs k=none):¬k∈kvs.map (·.1):=by
 intro m
 obtain⟨p,hp,e⟩:=YC.mp m
 have q:(kvs.any fun kv=>decide (kv.1=k))=true:=Vv.mpr ⟨p,hp,decide_eq_true e⟩
 rw[Ui,h]at q
 exact absurd q (by simp)
theorem valV_in {kvs:List (κ×V)}{k:κ}{v:V}(h:valV kvs k=some v):k∈kvs.map (·.1):=by
 have q:(kvs.any fun kv=>decide (kv.1=k))=true:=by
  rw[Ui,h]
  all_goals rfl
 obtain⟨p,hp,e⟩:=Vv.mp q
 exact YC.mpr ⟨p,hp,of_decide_eq_true e⟩
theorem nd_snoc:∀{l:List κ} {k:κ},l.Nodup->¬k∈l->(l++[k]).Nodup
 |[],k,_,_=>by simp
 |a::r,k,h,hk=>by
  obtain⟨h1,h2⟩:=W8.mp h
  show(a::(r++[k])).Nodup
  refine W8.mpr ⟨fun m=>?_,nd_snoc h2 fun m=>hk (ZV.mpr (Or.inr m))⟩
  rcases Zi.mp m with q | q
  ·exact h1 q
  ·exact hk (ZV.mpr (Or.inl (ZD.mp q).symm))
theorem dropK_pos {p:κ×V}{r:List (κ×V)}{k:κ}(e:p.1=k):V0 (p::r) k=V0 r k:=by
 unfold V0
 rw[Yq,if_neg (by simp[e])]
theorem SL {p:κ×V}{r:List (κ×V)}{k:κ}(e:¬p.1=k):V0 (p::r) k=p::V0 r k:=by
 unfold V0
 rw[Yq,if_pos (by simp[e])]
theorem dropK_no:∀{kvs:List (κ×V)} {k:κ},¬k∈kvs.map (·.1)->V0 kvs k=kvs
 |[],_,_=>rfl
 |p::r,k,h=>by
  have h':¬k∈r.map (·.1):=fun m=>by
   obtain⟨q,hq,e⟩:=YC.mp m
   exact h (YC.mpr ⟨q,ZV.mpr (Or.inr hq),e⟩)
  rw[SL fun e=>h (YC.mpr ⟨p,ZV.mpr (Or.inl rfl),e⟩),dropK_no h']
theorem dropK_len:∀{kvs:List (κ×V)} {k:κ},(kvs.map (·.1)).Nodup->k∈kvs.map (·.1)->(V0 kvs k).length+1=kvs.length
 |[],_,_,m=>by simp at m
 |p::r,k,h,m=>by
  have h:(p.1::r.map (·.1)).Nodup:=h
  have m:k=p.1\/k∈r.map (·.1):=ZV.mp m
  obtain⟨h1,h2⟩:=W8.mp h
  by_cases e:p.1=k
  ·subst e
   rw[dropK_pos rfl,dropK_no h1]
   all_goals rfl
  ·have m':k∈r.map (·.1):=m.resolve_left fun z=>e z.symm
   have q:=dropK_len h2 m'
   rw[SL e,ZM,ZM]
   omega
end
section
variable {X:Cx}
def rSortD:List V->Hp->VK->Prop:=fun xs H Q=>∃(a:Addr) (ks:List Int) (kvs:List (XL×V)),xs=[.ref a]/\H a=some (.dK kvs)/\kvs.map (·.1)=ks.map Sum.inl/\ks.length<64/\
 ∀(ns:List Int) (l:Addr),ns.Perm ks->ns.Pairwise (·<=·)->H l=none->Q (.ref l) (upd H l (.lst (ns.map V.int)))
theorem call_sortD (hc:X.calm=true):XC X (.builtin "sorted") rSortD:=by
 intro pins s σ H xs us Q I r h
 obtain⟨a,ks,kvs,rfl,ha,hk,h64,q⟩:=h
 obtain⟨u,rfl,rx⟩:=Wr r
 cases(show u=Value.ref a from rx)
 obtain⟨hz,hS,vs,rkv,m⟩:kvs.length<=sizeLine/\(a==sysModules)=false/\∃vs,KV kvs vs/\s.heap.DictOf (YH X.prog X.w) a vs:=I.hok a _ ha
 obtain⟨ep,da⟩:=m.dictAt
 have hlen:kvs.length=vs.length:=KV.length rkv
 refine Calls.call_function_entry kind_sorted plain_sorted entry_sorted (args_sorted1 _) ?_
 unfold Builtin.«sorted»
 refine wpAny_bind (m:=checkCount "sorted" 1 1 _) (wpAny_pure ?_)
 refine wpAny_bind (PySem.W.kdu_collect (A:=X.A.in1) (PySem.W.kdl_dict (kvs:=vs) (ep:=ep) hS) (I.ok.hd hc) da (by omega) fun h' tk acc hk' hacc=>?_)
 have I0:Zq X pins σ H {s with heap:=h',toks:=tk}:=I.kept hk'
 have hl:acc.toList.length=vs.length:=by rw[Wz];exact hacc.1
 have kk:vs.map (·.1)=ks.map Sum.inl:=by rw[<-KV.keys rkv];exact hk
 have lk:vs.length=ks.length:=by have:=congrArg List.length kk;rw[Z2,Z2]at this;exact this
 have hI:IntsAre acc.toList ks:=by
  refine intsAre_of (vals_of _ _ (by rw[hl];exact lk) fun j u hj=>?_)
  obtain⟨k,x,e1,e2⟩:=hacc.2 j u (by rw[<-Array.getElem?_toList];exact hj)
  have e3:(vs.map (·.1))[j]?=some k:=by rw[ZQ,e1];rfl
  rw[kk,ZQ]at e3
  cases e4:ks[j]? with
  |none=>rw[e4]at e3;cases e3
  |some i=>
   rw[e4]at e3
   have e5:k=Sum.inl i:=by injection e3 with e3;exact e3.symm
   subst e5
   obtain⟨t,e6⟩:=Value.isInt_shape (k:=i) (v:=u) e2
   exact⟨t,i,rfl,e6⟩
 refine wpAny_bind (wpAny_newList ?_ (by rw[hl,<-hlen];exact hz))
 have hoL:(h'.push (seqObj "list" acc.toList.toArray 0)).get? h'.objs.size=some (seqObj "list" acc.toList.toArray 0):=Zv _ rfl
 refine wpAny_bind (wpAny_holding (wpAny_call_entry slot_list_sort ⟨_,hoL,rfl⟩ entry_list_sort (list_sort_tree (s:={s with heap:=h'.push (seqObj "list" acc.toList.toArray 0),toks:=tk}) hoL hI (by rw[hl,lk];exact h64) fun out ns' a1 a2 a3=>⟨_,rfl,?_⟩) (args_list_sort _)))
 obtain⟨e,he⟩:=sortedHeap_at (out:=out) hoL
 have old:∀b o,h'.get? b=some o->(sortedHeap (h'.push (seqObj "list" acc.toList.toArray 0)) h'.objs.size acc.toList out).get? b=some o:=fun b o eb=>by
  have lt:=ZA eb
  rw[sortedHeap_old (h:=h'.push (seqObj "list" acc.toList.toArray 0)) (b:=b) (Zs lt) (by rw[XJ];exact Yw lt)]
  exact Z8 _ eb
 refine wpAny_pure ⟨_,rfl,.ref h'.objs.size,_,I0.laid (a:=h'.objs.size) (t':=tk) (o:=.lst (ns'.map V.int)) old (Nat.le_refl _) ?_,rfl,q ns' _ a2 a3 (I0.hok.fresh (Nat.le_refl _))⟩
 refine⟨by rw[Z2,a2.length_eq,sizeLine_eq];omega,out.toList,e,U1 a1,?_⟩
 have e9:out.toList.toArray=out:=by simp
 rw[e9]
 exact he
end
section
variable {X:Cx}{pins:List (Addr×Obj)}{σ:St}{H:Hp}{s:Shared}{A:Around}{E:Value->Shared->Prop}{Q:Value->Shared->Prop}
def seqT (T:String):Bool:=T=="list"||T=="tuple"
theorem isi_many {x:V}{u:Value}{T:String}{p:Addr}{its:List Value}{b:Bool}(I:Zq X pins σ H s)(rx:Zb x u)(hk:Kn H x T)(hp:IsTup s.heap p its.toArray)(e:kitAny X.K (.type T) its=some b)(h:∀tk,Q (.bool b) {s with toks:=tk}):wpAny (model X.prog X.w) A (call (.builtin "isinstance") [u,.ref p]) Q E s:=by
 obtain⟨⟨c,dd,da,sl⟩,ho,hc,n,hd⟩:=hp
 simp only at hc hd
 subst hc hd
 cases hk with
 |non=>cases(show u=Value.none from rx);exact kia_tup kitx_none I.kIn True.intro ho e (fun z=>nomatch z) h
 |bl y=>cases(show u=Value.bool y from rx);exact kia_tup kitx_bool I.kIn True.intro ho e (fun z=>nomatch z) h
 |int i=>obtain⟨t,q⟩:=(show ∃t,u=Value.int i t from rx);cases q;exact kia_tup kitx_int I.kIn True.intro ho e (fun z=>nomatch z) h
 |str y=>obtain⟨t,q⟩:=(show ∃t,u=Value.str y t from rx);cases q;exact kia_tup kitx_str I.kIn True.intro ho e (fun z=>nomatch z) h
 | @lst a xs ea=>
   cases(show u=Value.ref a from rx)
   obtain⟨_,_,n,_,h1⟩:=(show YG X.prog X.w H s.heap a (.lst xs) from I.hok a _ ea)
   exact kia_tup kitx_list I.kIn ⟨_,h1,rfl⟩ ho e (fun z=>nomatch z) h
 | @tup a xs ea=>
   cases(show u=Value.ref a from rx)
   obtain⟨_,_,_,o,h1,hc,_⟩:=(show YG X.prog X.w H s.heap a (.tup xs) from I.hok a _ ea)
   exact kia_tup kitx_tuple I.kIn ⟨o,h1,hc⟩ ho e (fun z=>nomatch z) h
 | @dK a kvs ea=>
   cases(show u=Value.ref a from rx)
   obtain⟨_,_,_,_,m⟩:=(show YG X.prog X.w H s.heap a (.dK kvs) from I.hok a _ ea)
   exact kia_tup kitx_dict I.kIn m.typeIs ho e (fun z=>nomatch z) h
theorem any_seq {K:W.Frag}{H:Hp}{x:V}{T:String}(h:Kn H x T):kitAny K (.type T) [.type "list",.type "tuple"]=some (seqT T)/\kitAny K (.type T) [.type "tuple",.type "list"]=some (seqT T):=by
 cases h<;>exact⟨rfl,rfl⟩
end
section
variable {X:Cx}
theorem call_isiT:XC X (.builtin "isinstance") (fun xs H Q=>∃x T p,xs=[x,.ref p]/\Kn H x T/\(H p=some (.tup [.ty "list",.ty "tuple"])\/H p=some (.tup [.ty "tuple",.ty "list"]))/\Q (.bl (seqT T)) H):=by
 intro pins s σ H xs us Q I r h
 obtain⟨x,T,p,rfl,hk,hp,q⟩:=h
 obtain⟨u,c,rfl,rx,rc⟩:=UN r
 cases(show c=Value.ref p from rc)
 have two:∀(U W:String),H p=some (.tup [.ty U,.ty W])->IsTup s.heap p [Value.type U,Value.type W].toArray:=fun U W e=>by
  obtain⟨_,its,rv,ht⟩:=(show YG X.prog X.w H s.heap p (.tup [.ty U,.ty W]) from I.hok p _ e)
  obtain⟨a,b,rfl,ra,rb⟩:=UN rv
  cases(show a=Value.type U from ra)
  cases(show b=Value.type W from rb)
  exact ht
 rcases hp with hp | hp
 ·exact isi_many I rx hk (two _ _ hp) (any_seq hk).1 fun tk=>⟨.bl (seqT T),H,I.tok tk,rfl,q⟩
 ·exact isi_many I rx hk (two _ _ hp) (any_seq hk).2 fun tk=>⟨.bl (seqT T),H,I.tok tk,rfl,q⟩
def iZipE (K:W.Frag)(ta:TA):TI:=fun σ H R=>ta σ H fun vs H1=>∃t l m xs ys,vs=[.ref l,.ref m]/\SqK t K H1 l xs/\SqK t K H1 m ys/\R (Itz t K l m) H1
theorem pi_zipE {es:List Expr}{k0:Nat}{tp:Pos}{a b:Expr}{ta:TA}{p pos:Pos}(hg:Gl X "zip")(hm:X.mg "zip" = none)(ha:PA X [a,b] ta)(hs:starEach [a,b] X.env=[(false,eval a X.env),(false,eval b X.env)]:=by rfl)(hs2:starEach [b] X.env=[(false,eval b X.env)]:=by rfl) :
 PI X (.Tuple es k0 tp) (.Call (.Name "zip" p) [a,b] [] pos) (iZipE X.K ta):=by
 intro pins s σ H R I h
 refine Call_ (Wm I hg hm boot_zip (callWith_type1 (thn (ha pos pins s σ H _ I h) fun us s1 ⟨vs,H1,I1,r1,q1⟩=>?_) (by rw[hs,hs2]) (by rw[hs2];rfl)))
 obtain⟨t,l,m,xs,ys,e,hl,hm',q⟩:=q1
 subst e
 obtain⟨u,u',rfl,ru,ru'⟩:=UN r1
 cases(show u=Value.ref l from ru)
 cases(show u'=Value.ref m from ru')
 obtain⟨its,_,⟨ol,eol,_⟩,_⟩:=I1.sqk hl
 obtain⟨jts,_,⟨om,eom,_⟩,_⟩:=I1.sqk hm'
 have ll:l<s1.heap.objs.size:=ZA eol
 have lm:m<s1.heap.objs.size:=ZA eom
 have fin:∀h':Heap,IsZip h' (s1.heap.objs.size+4) (s1.heap.objs.size+2) (s1.heap.objs.size+3) .none->IsPair h' (s1.heap.objs.size+2) (.ref s1.heap.objs.size) (.ref (s1.heap.objs.size+1))->
  IsPair h' (s1.heap.objs.size+3) .none .none->SD t s1.heap.objs.size l 0 h'->SD t (s1.heap.objs.size+1) m 0 h'->(∀c o,s1.heap.get? c=some o->h'.get? c=some o)->
  wpAny (model X.prog X.w) X.A (pyIter (.ref (s1.heap.objs.size+4))) (PIE X pins σ (.Tuple es k0 tp) R) X.xe {s1 with heap:=h'}:=fun h' z1 z2 z3 z4 z5 kp=>by
  have I2:Zq X pins σ H1 {s1 with heap:=h'}:=I1.kept (t':=s1.toks) kp
  refine wpAny_pyIter_zip z1 ⟨s1.heap.objs.size+4,[s1.heap.objs.size+4,s1.heap.objs.size+2,s1.heap.objs.size+3,s1.heap.objs.size,s1.heap.objs.size+1],_,_,H1,rfl,I2,
   turn_zip (t:=t) (l:=l) (m:=m) (YZ _ (a:=2) (b:=4) (by decide)) (YZ _ (a:=3) (b:=4) (by decide)) (YZ _ (a:=0) (b:=4) (by decide)) (YZ _ (a:=1) (b:=4) (by decide)) (YZ _ (a:=2) (b:=3) (by decide)) (YZ _ (a:=2) (b:=0) (by decide)) (YZ _ (a:=2) (b:=1) (by decide)) (YZ _ (a:=3) (b:=0) (by decide)) (YZ _ (a:=3) (b:=1) (by decide)) (YZ _ (a:=0) (b:=1) (by decide)) (fun z=>?_) (fun z=>?_),⟨z1,z2,⟨_,_,z3⟩,z4,z5⟩,fun c hc=>?_,q⟩
  ·simp only[ZV,ZC,or_false]at z;exact VJ ll z
  ·simp only[ZV,ZC,or_false]at z;exact VJ lm z
  ·have hcs:s1.heap.objs.size<=c:=by simp only[ZV,ZC,or_false]at hc;exact fresh5 hc
   exact I1.fpOk hcs (I1.hok.fresh hcs)
 cases t
 ·obtain⟨its,_,pl,_⟩:=I1.list (show Zp X.K H1 l xs from hl)
  obtain⟨jts,_,pm,_⟩:=I1.list (show Zp X.K H1 m ys from hm')
  exact call_zip_2 pl.isList pm.isList fun h' z1 z2 z3 z4 z5 _ kp=>fin h' z1 z2 z3 z4 z5 kp
 ·obtain⟨its,_,pl,_⟩:=I1.tuple (show Y0 X.K H1 l xs from hl)
  obtain⟨jts,_,pm,_⟩:=I1.tuple (show Y0 X.K H1 m ys from hm')
  exact zip_tups pl pm fun h' z1 z2 z3 z4 z5 kp=>fin h' z1 z2 z3 z4 z5 kp
theorem Us {K:W.Frag}{a b:Addr}{xs ys:List V}{H1:Hp}(h:H1 a=some (.lst xs))(h':H1 b=some (.lst ys))(i:Nat)(H:Hp)(s:ZR H1 H) :
 (i<min xs.length ys.length->(Itz false K a b).go i H/\∀v H2,(Itz false K a b).yld i H v H2->ZR H H2/\∃p x y,v=.ref p/\H2 p=some (.tup [x,y])/\xs[i]?=some x/\ys[i]?=some y)/\(min xs.length ys.length<=i->(Itz false K a b).stop i H):=by
 have q:SqK false K H a xs:=Zp.of (s _ _ h)
 have q':SqK false K H b ys:=Zp.of (s _ _ h')
 refine⟨fun hi=>⟨⟨xs,ys,xs[i]'(by omega),ys[i]'(by omega),q,q',Z1 (by omega),Z1 (by omega)⟩,fun v H2 ⟨p,x,y,e1,e2,e3,e4,e5⟩=>?_⟩,fun hi=>⟨xs,ys,q,q',?_⟩⟩
 ·subst e3
  exact⟨Z9 e2 _,p,x,y,e1,Z5,e4 xs q,e5 ys q'⟩
 ·by_cases hx:xs.length<=i
  ·exact .inl (Zd hx)
  ·exact .inr (Zd (by omega))
def Sm (H:Hp):Nat->V->V->Prop
 |0,x,y=>(x=y/\((∃i,x=.int i)\/(∃b,x=.bl b)\/(∃z,x=.str z)\/x=.non))
 |n+1,x,y=>(x=y/\((∃i,x=.int i)\/(∃b,x=.bl b)\/(∃z,x=.str z)\/x=.non))\/
  ∃(a b:Addr) (xs ys:List V),x=.ref a/\y=.ref b/\((H a=some (.tup xs)/\H b=some (.tup ys))\/(H a=some (.lst xs)/\H b=some (.lst ys)))/\xs.length=ys.length/\xs.length<=1000/\
   ∀(i:Nat) (u v:V),xs[i]?=some u->ys[i]?=some v->Sm H n u v
theorem Sm.same {H H':Hp}(s:ZR H H'):∀{n:Nat} {x y:V},Sm H n x y->Sm H' n x y
 |0,_,_,h=>h
 |n+1,x,y,h=>by
  rcases h with h | ⟨a,b,xs,ys,e1,e2,e3,e4,e5,e6⟩
  ·exact .inl h
  ·refine .inr ⟨a,b,xs,ys,e1,e2,?_,e4,e5,fun i u v hu hv=>(e6 i u v hu hv).same s⟩
   rcases e3 with⟨p,q⟩ | ⟨p,q⟩
   ·exact .inl ⟨s _ _ p,s _ _ q⟩
   ·exact .inr ⟨s _ _ p,s _ _ q⟩
end
theorem keys_none:typeLookup (.type "list") "keys" = pure none:=by rw[typeLookup_type,builtinLookup_eq_fast];kernel_rfl
theorem no_keys {prog:Program}{w:World}{A:Around}{E:Value->Shared->Prop}{s:Shared}{a:Addr}{xs:Array Value}{n:Nat}{sl:Array (Option Value)}{Q:Option Value->Shared->Prop}(hx:s.heap.get? a=some {cls:=.type "list",dict:=none,data:=.seq xs n,slots:=sl})(hA:A.handled=none)(q:∀h' tk,(∀b o,s.heap.get? b=some o->h'.get? b=some o)->Q none {s with heap:=h',toks:=tk}):wpAny (model prog w) A (getAttr? (.ref a) "keys") Q E s:=by
 obtain⟨hp,g,d,tk,os⟩:=s
 have look:=F.slot_list_getattribute.lookup
 have bound:=F.slot_list_getattribute.bind (.ref a)
 have plain:=am_list_getattr_none
 have under:=sub_AttributeError
 simp only at hx
 have ask:∀{R:Value->Shared->Prop} {F:Value->Shared->Prop},(∀(h':Heap) (tk':Nat) (e:Addr),Heap.NewAttrErr hp h' e (.ref a) "keys"->F (.ref e) ⟨h',g,d,tk',os⟩)->
  wpAny (model prog w) A (call (.builtin "list.__getattribute__") ([.ref a]++[.str (oS "keys") tk])) R F ⟨hp,g,d,tk+1,os⟩:=fun f=>
  call_meets F.slot_list_getattribute ⟨_,hx,rfl⟩ am_entry_list_getattribute (F.args_list_getattribute_2 _ _) (meets_getattribute_miss_list a xs n sl "keys" _ keys_none (by decide)) ⟨hx,hA,fun h' tk' e made=>f h' tk' e made⟩
 wp_walk using ask
 intro h' tk' e made
 obtain⟨t',u',he⟩:=made.there
 have kept:=q h' tk' made.keeps
 wp_walk
 exact kept
theorem dl_entry:entryFor table "dict.update.loop" = some Builtin.«dict.update.loop»:=entryFor_of_tree (by kernel_rfl)
theorem Tv:plainId "dict.update.loop" = true:=by decide +kernel
section
variable {prog:Program}{w:World}{A:Around}{R:Result->Shared->Prop}
structure DL (prog:Program)(w:World)(l it d:Addr)(vs:List Value)(kvs:List (XL×Value))(i:Nat)(h:Heap):Prop where
 po:h.IsListIter it l i
 ls:h.IsList l vs.toArray
 dt:h.DictOf (YH prog w) d (kvs.take i)
 pr:∀(j:Nat) (v:Value),vs[j]?=some v->∃(p:Addr) (k:XL) (key x:Value),v=Value.ref p/\IsTup h p #[key,x]/\kvs[j]?=some (k,x)/\(YH prog w).is k key=true
theorem cls_ne {h:Heap}{a b:Addr}{o o':Obj}{T U:String}(e:h.get? a=some o)(e':h.get? b=some o')(c:o.cls=.type T)(c':o'.cls=.type U)(n:T≠U):a≠b:=fun z=>by
 rw[z,e']at e
 cases e
 rw[c]at c'
 injection c' with z
 exact n z
theorem DL.ne {l it d:Addr}{vs:List Value}{kvs:List (XL×Value)}{i:Nat}{h:Heap}(D:DL prog w l it d vs kvs i h):d≠it:=by
 obtain⟨o,es,ep,ho,⟨hc,_⟩,_⟩:=D.dt
 obtain⟨o',ho',hc',_⟩:=D.po
 exact cls_ne ho ho' hc hc' (by decide)
theorem DL.tupAt {l it d:Addr}{vs:List Value}{kvs:List (XL×Value)}{i:Nat}{h h':Heap}{p:Addr}{xs:Array Value}(D:DL prog w l it d vs kvs i h)(sb:Heap.SameBut it h h')(t:IsTup h p xs):IsTup h' p xs:=by
 obtain⟨o,ho,hc,r⟩:=t
 obtain⟨o',ho',hc',_⟩:=D.po
 exact⟨o,sb.extBut _ _ (cls_ne ho ho' hc hc' (by decide)) ho,hc,r⟩
theorem tup_past {d:Addr}{h h':Heap}{p:Addr}{xs:Array Value}{kvs:List (XL×Value)}(D:h.DictOf (YH prog w) d kvs)(sb:Heap.SameBut d h h')(t:IsTup h p xs):IsTup h' p xs:=by
 obtain⟨o,ho,hc,r⟩:=t
 obtain⟨o',es,ep,ho',⟨hc',_⟩,_⟩:=D
 exact⟨o,sb.extBut _ _ (cls_ne ho ho' hc hc' (by decide)) ho,hc,r⟩
theorem DL.dictAt {l it d:Addr}{vs:List Value}{kvs:List (XL×Value)}{i:Nat}{h h':Heap}(D:DL prog w l it d vs kvs i h)(sb:Heap.SameBut it h h'):h'.DictOf (YH prog w) d (kvs.take i):=by
 have ne:=D.ne
 obtain⟨o,es,ep,ho,r⟩:=D.dt
 exact⟨o,es,ep,sb.extBut _ _ ne ho,r⟩
theorem stored_next {kvs:List (XL×Value)}{i:Nat}{k:XL}{x:Value}(nd:(kvs.map (·.1)).Nodup)(e:kvs[i]?=some (k,x)):stored (kvs.take i) k x=kvs.take (i+1):=by
 unfold stored
 have hi:i<kvs.length:=(List.getElem?_eq_some_iff.mp e).1
 have ge:kvs[i]=(k,x):=(List.getElem?_eq_some_iff.mp e).2
 rw[if_neg,take_succ,e]
 ·rfl
 ·intro z
  obtain⟨kv,hm,hk⟩:=Vv.mp z
  have hk':kv.1=k:=of_decide_eq_true hk
  obtain⟨j,hj,ej⟩:=X0 hm
  rw[Za]at hj
  rw[List.getElem_take]at ej
  have:=(List.pairwise_iff_getElem.mp nd) j i (by rw[Z2];omega) (by rw[Z2];exact hi) (by omega)
  apply this
  rw[getElem_map,getElem_map,ej,ge]
  exact hk'
theorem dloop (hh:A.handled=none)(l it d:Addr)(vs:List Value)(kvs:List (XL×Value))(hl:vs.length=kvs.length)(few:kvs.length<=sizeLine)(nd:(kvs.map (·.1)).Nodup)(s0:Heap)(s00:Shared)(q:∀h' tk,h'.DictOf (YH prog w) d kvs->(∀b o,b≠d->b≠it->s0.get? b=some o->h'.get? b=some o)->R (.ok (.ret .none)) {s00 with heap:=h',toks:=tk}) :
 ∀(n i:Nat) (s:Shared),i+n=vs.length->(∀h tk,{s with heap:=h,toks:=tk}={s00 with heap:=h,toks:=tk})->DL prog w l it d vs kvs i s.heap->(∀b o,b≠d->b≠it->s0.get? b=some o->s.heap.get? b=some o)->
  codeAny (model prog w) A (.builtin "dict.update.loop" ⟨[.ref d,.ref it,rawInt i,.none],[]⟩) R s
 |0,i,s,e,es,D,kp=>by
  have ne:=D.ne
  refine codeAny_builtin dl_entry ?_
  rw[Around.under_plainId Tv _]
  show wpAny _ A.in1 (pyNext (.ref it) >>= _) _ _ _
  have hi:i=vs.length:=by omega
  refine wpAny_bind (wpAny_pyNext_list_end hh D.po D.ls (by simp;omega) fun h' eb=>?_)
  show wpAny _ _ (Builtin.Dict.addKeywords d [] >>= _) _ _ _
  refine wpAny_bind (wpAny_pure (wpAny_pure ?_))
  show R (.ok (.ret .none)) {s with heap:=h',toks:=s.toks}
  rw[es]
  refine q h' s.toks ?_ fun b o n1 n2 hb=>eb b o n2 (kp b o n1 n2 hb)
  obtain⟨o,es,ep,ho,rest⟩:=D.dt
  rw[X5 (by omega)]at rest
  exact⟨o,es,ep,eb d o ne ho,rest⟩
 |n+1,i,s,e,es,D,kp=>by
  have ne:=D.ne
  refine codeAny_builtin dl_entry ?_
  rw[Around.under_plainId Tv _]
  show wpAny _ A.in1 (pyNext (.ref it) >>= _) _ _ _
  have hi:i<vs.length:=by omega
  have hv:vs[i]?=some vs[i]:=Z1 hi
  refine wpAny_bind (wpAny_pyNext_list_item D.po D.ls (x:=vs[i]) (by simp) fun h' st' sb=>?_)
  obtain⟨p,k,key,x,ev,tp,ek,hk⟩:=D.pr i vs[i] hv
  rw[ev]
  show wpAny _ _ (holding [Value.ref p] _ >>= _) _ _ _
  refine wpAny_bind (wpAny_holding (wpAny_bind (wpAny_tryCatch ?_)))
  have tp':IsTup h' p #[key,x]:=D.tupAt sb tp
  have dt':=D.dictAt sb
  unfold Builtin.Dict.pairItems
  refine wpAny_bind (wpAny_typeOf (T:="tuple") tp'.typeIs ?_)
  rw[if_pos (by rfl)]
  obtain⟨o,ho,hc,m,hd⟩:=id tp'
  refine wpAny_bind (wpAny_seqItems ho hd (wpAny_pure ?_))
  show wpAny _ _ (holding [key,x] (dictSet d key x)) _ _ _
  refine wpAny_holding (wpAny_dictSet_pairs hk dt' (fun h2 dt2 sb2=>?_) (by rw[Za];omega))
  rw[stored_next nd ek]at dt2
  refine wpAny_pure ⟨plainId_quiet Tv _,?_⟩
  have nx:DL prog w l it d vs kvs (i+1) h2:=by
   obtain⟨ol,hol,hcl,rl⟩:=id D.ls
   obtain⟨oi,hoi,hci,_⟩:=id D.po
   obtain⟨od,_,_,hod,⟨hcd,_⟩,_⟩:=id D.dt
   have l1:l≠it:=cls_ne hol hoi hcl hci (by decide)
   have l2:l≠d:=cls_ne hol hod hcl hcd (by decide)
   refine⟨st'.extBut sb2.extBut (Ne.symm ne),⟨ol,sb2.extBut _ _ l2 (sb.extBut _ _ l1 hol),hcl,rl⟩,dt2,fun j v hj=>?_⟩
   obtain⟨p',k',key',x',e1,e2,e3,e4⟩:=D.pr j v hj
   exact⟨p',k',key',x',e1,tup_past dt' sb2 (D.tupAt sb e2),e3,e4⟩
  have:=dloop hh l it d vs kvs hl few nd s0 s00 q n (i+1) {s with heap:=h2,toks:=s.toks+1} (by omega) (fun h tk=>es h tk) nx (fun b o n1 n2 hb=>sb2.extBut _ _ n1 (sb.extBut _ _ n2 (kp b o n1 n2 hb)))
  rw[show((i+1:Nat):Int)=(i:Int)+1 by omega]at this
  exact this
end
section
variable {prog:Program}{w:World}{A:Around}{s:Shared}{R:Result->Shared->Prop}
theorem di_list {d l:Addr}{xs:Array Value}{n:Nat}(hA:A.handled=none)(hd:s.TypeIs (.ref d) "dict")(hl:s.heap.get? l=some {cls:=.type "list",dict:=none,data:=.seq xs n,slots:=#[]})(next:∀(h1:Heap) (tk:Nat),(∀b o,s.heap.get? b=some o->h1.get? b=some o)->
  codeAny (model prog w) A (.builtin "dict.update.loop" ⟨[.ref d,.ref h1.objs.size,rawInt (0:Nat),.none],[]⟩) R {s with heap:=h1.push {cls:=.type "list_iterator",data:=.fields #[.ref l,.int 0 0]},toks:=tk}) :
 wpAny (model prog w) A.in1 (Builtin.«dict.__init__» ⟨[.ref d,.ref l],[]⟩) (fun fin s'=>match fin with | .done f=>R (.ok f) s' | .again c'=>c'.quiet=true/\codeAny (model prog w) A c' R s') (fun e s'=>R (.error e) s') s:=by
 have hT:s.TypeIs (.ref l) "list":=⟨_,hl,rfl⟩
 wp_walk using wpAny_notOrdered_dict hd,no_keys (A:=A.in1) hl hA
 intro h1 tk kp
 have hl1:h1.IsList l xs:=⟨_,kp _ _ hl,rfl,n,rfl⟩
 have go:=next h1 tk kp
 wp_walk using wpAny_pyIter_list hl1
 exact⟨plainId_quiet Tv _,go⟩
end
section
variable {X:Cx}
theorem pairs_of {pins:List (Addr×Obj)}{σ:St}{H:Hp}{s:Shared}(I:Zq X pins σ H s):∀(ps:List V) (its:List Value) (kvs:List (Int×V)),Y7 ps its->ps.length=kvs.length->
 (∀(j:Nat) (v:V),ps[j]?=some v->∃(p:Addr) (k:Int) (x:V),v=.ref p/\H p=some (.tup [.int k,x])/\kvs[j]?=some (k,x))->
 ∃kvs':List (XL×Value),KV (kvs.map fun kv=>((Sum.inl kv.1:XL),kv.2)) kvs'/\∀(j:Nat) (v:Value),its[j]?=some v->∃(p:Addr) (k:XL) (key x:Value),v=Value.ref p/\IsTup s.heap p #[key,x]/\kvs'[j]?=some (k,x)/\(YH X.prog X.w).is k key=true
 |[],its,kvs,rv,hl,_=>by
  cases rv
  cases kvs with
  |nil=>exact⟨[],.nil,fun j v h=>by cases h⟩
  |cons _ _=>cases hl
 |v::ps,its,kvs,rv,hl,hp=>by
  cases rv with
  | @cons _ u _ us r0 r1=>
    cases kvs with
    |nil=>cases hl
    |cons kv kvs=>
     obtain⟨kvs',a1,a2⟩:=pairs_of I ps us kvs r1 (by simpa using hl) fun j v h=>hp (j+1) v h
     obtain⟨p,k,x,rfl,ht,ek⟩:=hp 0 v rfl
     have ek':kv=(k,x):=by simpa using ek
     subst ek'
     obtain⟨_,its2,rv2,tp⟩:=(show YG X.prog X.w H s.heap p (.tup [.int k,x]) from I.hok p _ ht)
     obtain⟨key,x',rfl,rk,rx⟩:=UN rv2
     cases(show u=Value.ref p from r0)
     refine⟨(Sum.inl k,x')::kvs',.cons ⟨rfl,rx⟩ a1,fun j v h=>?_⟩
     cases j with
     |zero=>
      have:v=Value.ref p:=by simpa using h.symm
      exact⟨p,Sum.inl k,key,x',this,tp,rfl,kV_is (k:=Sum.inl k) rk⟩
     |succ j=>exact a2 j v h
def rDictP:List V->Hp->VK->Prop:=fun xs H Q=>∃(l:Addr) (ps:List V) (kvs:List (Int×V)),xs=[.ref l]/\H l=some (.lst ps)/\ps.length=kvs.length/\(kvs.map (·.1)).Nodup/\
 (∀(j:Nat) (v:V),ps[j]?=some v->∃(p:Addr) (k:Int) (x:V),v=.ref p/\H p=some (.tup [.int k,x])/\kvs[j]?=some (k,x))/\
 ∀d,H d=none->Q (.ref d) (upd H d (.dK (kvs.map fun kv=>(Sum.inl kv.1,kv.2))))
theorem call_dictP (hc:X.calm=true):XC X (.type "dict") rDictP:=by
 intro pins s σ H xs us Q I r h
 obtain⟨l,ps,kvs,rfl,hl,hlen,nd,hp,q⟩:=h
 obtain⟨u,rfl,rx⟩:=Wr r
 cases(show u=Value.ref l from rx)
 obtain⟨hz,its,n,rv,hls⟩:=(show YG X.prog X.w H s.heap l (.lst ps) from I.hok l _ hl)
 have ilen:ps.length=its.length:=rv.length
 obtain⟨kvs',kv,l4⟩:=pairs_of I ps its kvs rv hlen hp
 have l1:kvs'.length=kvs.length:=by have:=KV.length kv;rw[Z2]at this;exact this.symm
 have l2:kvs'.map (·.1)=kvs.map (fun kv=>(Sum.inl kv.1:XL)):=by rw[<-KV.keys kv,Y5];rfl
 have hnew:(s.heap.push {cls:=.type "dict",data:=.dict #[]}).DictOf (YH X.prog X.w) s.heap.objs.size []:=Heap.DictOf.new s.heap
 have hls':(s.heap.push {cls:=.type "dict",data:=.dict #[]}).get? l=some {cls:=.type "list",dict:=none,data:=.seq its.toArray n,slots:=#[]}:=Z8 _ hls
 refine callType_codes F.kt_called_dict (F.kt_typeCall_dict_1 _) F.entry_dict_init (kt_code_dict_new (Q₁:=fun v z=>v=.ref s.heap.objs.size/\z={s with heap:=s.heap.push {cls:=.type "dict",data:=.dict #[]}}) _ ⟨rfl,rfl⟩)
  fun v z ⟨ev,ez⟩=>ev▸ez▸⟨hnew.typeIs,F.args_dict_init_2 _ _,di_list (I.ok.hd hc) hnew.typeIs hls' fun h1 tk1 kp1=>?_⟩
 have hll:its.length=kvs'.length:=by omega
 have old:∀b o,s.heap.get? b=some o->(h1.push {cls:=.type "list_iterator",data:=.fields #[.ref l,.int 0 0]}).get? b=some o:=fun b o e=>Z8 _ (kp1 _ _ (Z8 _ e))
 have nd':(kvs'.map (·.1)).Nodup:=by
  rw[l2,show kvs.map (fun kv=>(Sum.inl kv.1:XL))=(kvs.map (·.1)).map Sum.inl by rw[Y5];rfl]
  exact WK.mpr (nd.imp fun{a b} z w=>z (Sum.inl.inj w))
 have big:s.heap.objs.size≠h1.objs.size:=by
  obtain⟨o,es,ep,ho,_⟩:=id hnew
  exact Zs (ZA (kp1 _ _ ho))
 refine dloop (A:=X.A.in1) (I.ok.hd hc) l h1.objs.size s.heap.objs.size its kvs' hll (by rw[l1,<-hlen];exact hz) nd' s.heap s (fun h' tk hd' kp=>?_) its.length 0 _ (by omega) (fun h tk=>rfl) ⟨⟨_,Zv _ rfl,rfl,rfl⟩,⟨_,Z8 _ (kp1 _ _ hls'),rfl,n,rfl⟩,?_,fun j v hj=>?_⟩ (fun b o _ _ hb=>old b o hb)
 ·refine⟨rfl,.ref s.heap.objs.size,_,I.laid (a:=s.heap.objs.size) (t':=tk) (o:=.dK (kvs.map fun kv=>(Sum.inl kv.1,kv.2))) (fun b o e=>?_) (Nat.le_refl _) ?_,rfl,q _ (I.hok.fresh (Nat.le_refl _))⟩
  ·have lt:=ZA e
   have lt1:=ZA (kp1 _ _ (Z8 _ e))
   exact kp b o (Zs lt) (Zs lt1) e
  ·have bigS:sysModules<s.heap.objs.size:=Nat.lt_trans (by decide) (I.mod.glob.keeps I.bk).lt
   refine⟨by rw[Z2,<-hlen];exact hz,beq_eq_false_iff_ne.mpr (Ne.symm (Zs bigS)),kvs',?_,hd'⟩
   exact kv
 ·obtain⟨o,es,ep,ho,rest⟩:=id hnew
  exact⟨o,es,ep,Z8 _ (kp1 _ _ ho),rest⟩
 ·obtain⟨p,k,key,x,e1,⟨o,ho,r⟩,e3,e4⟩:=l4 j v hj
  exact⟨p,k,key,x,e1,⟨o,old _ _ ho,r⟩,e3,e4⟩
end
end L2
namespace BB
def nx:Int->List Int->Int
 |x,[]=>x
 |x,q::R=>if q<x then nx x R else if q=x then nx (x+1) R else x
theorem nx_past {x q:Int}{R:List Int}(h:q<x):nx x (q::R)=nx x R:=by
 show(if q<x then nx x R else _)=_
 rw[if_pos h]
theorem TD:∀(R:List Int) (x:Int),x<=nx x R
 |[],x=>Int.le_refl x
 |q::R,x=>by
  unfold nx
  split
  ·exact TD R x
  ·split
   ·have:=TD R (x+1);omega
   ·exact Int.le_refl x
theorem nx_not:∀(R:List Int) (x:Int),R.Pairwise (· < ·)->nx x R∉R
 |[],_,_=>by simp
 |q::R,x,up=>by
  obtain⟨u1,u2⟩:=Zt.mp up
  unfold nx
  split
  ·intro z
   rcases ZV.mp z with z | z
   ·have:=TD R x;omega
   ·exact nx_not R x u2 z
  ·split
   ·intro z
    rcases ZV.mp z with z | z
    ·have:=TD R (x+1);omega
    ·exact nx_not R (x+1) u2 z
   ·intro z
    rcases ZV.mp z with z | z
    ·omega
    ·have:=u1 x z;omega
theorem nx_mid:∀(R:List Int) (x y:Int),x<=y->y<nx x R->y∈R
 |[],x,y,h1,h2=>by unfold nx at h2;omega
 |q::R,x,y,h1,h2=>by
  unfold nx at h2
  split at h2
  ·exact ZT _ (nx_mid R x y h1 h2)
  ·split at h2
   ·by_cases e:y=q
    ·rw[e];exact ZW ..
    ·exact ZT _ (nx_mid R (x+1) y (by omega) h2)
   ·omega
def emp:Nat->Int->List Int->List Int
 |0,_,_=>[]
 |n+1,b,R=>nx b R::emp n (nx b R+1) R
def gy:Nat->Int->List Int->Int
 |0,b,R=>nx b R
 |n+1,b,R=>gy n (nx b R+1) R
theorem emp_gy:∀(n:Nat) (b:Int) (R:List Int),emp (n+1) b R=emp n b R++[gy n b R]
 |0,_,_=>rfl
 |n+1,b,R=>by
  show nx b R::emp (n+1) (nx b R+1) R=nx b R::(emp n (nx b R+1) R++[gy n (nx b R+1) R])
  rw[emp_gy n]
theorem gy_ge:∀(n:Nat) (b:Int) (R:List Int),b<=gy n b R
 |0,b,R=>TD R b
 |n+1,b,R=>by
  have:=gy_ge n (nx b R+1) R
  have:=TD R b
  show b<=gy n (nx b R+1) R
  omega
theorem gy_not:∀(n:Nat) (b:Int) (R:List Int),R.Pairwise (· < ·)->gy n b R∉R
 |0,b,R,up=>nx_not R b up
 |n+1,b,R,up=>gy_not n _ R up
theorem emp_lt:∀(n:Nat) (b:Int) (R:List Int) (x:Int),x∈emp n b R->b<=x/\x<gy n b R
 |0,_,_,x,h=>by cases h
 |n+1,b,R,x,h=>by
  have g:=gy_ge n (nx b R+1) R
  have e:=TD R b
  rcases ZV.mp (show x∈nx b R::emp n (nx b R+1) R from h) with rfl | h
  ·exact⟨e,show nx b R<gy n (nx b R+1) R by omega⟩
  ·have:=emp_lt n _ R x h
   exact⟨by omega,this.2⟩
theorem gy_mid:∀(n:Nat) (b:Int) (R:List Int) (z:Int),b<=z->z<gy n b R->z∈R\/z∈emp n b R
 |0,b,R,z,h1,h2=>.inl (nx_mid R b z h1 h2)
 |n+1,b,R,z,h1,h2=>by
  by_cases c:z<nx b R
  ·exact .inl (nx_mid R b z h1 c)
  ·by_cases d:z=nx b R
   ·exact .inr (by rw[d];exact ZW ..)
   ·rcases gy_mid n (nx b R+1) R z (by omega) h2 with h | h
    ·exact .inl h
    ·exact .inr (ZT _ h)
theorem emp_past {p:Int}{r:List Int}:∀(n:Nat) (z:Int),p<z->emp n z (p::r)=emp n z r
 |0,_,_=>rfl
 |n+1,z,h=>by
  show nx z (p::r)::emp n (nx z (p::r)+1) (p::r)=nx z r::emp n (nx z r+1) r
  rw[nx_past h,emp_past n _ (by have:=TD r z;omega)]
theorem emp_on {p:Int}{r:List Int}:∀(n:Nat),emp n p (p::r)=emp n (p+1) r
 |0=>rfl
 |n+1=>by
  have e:nx p (p::r)=nx (p+1) r:=by
   show(if p<p then nx p r else if p=p then nx (p+1) r else p)=_
   rw[if_neg (by omega),if_pos rfl]
  show nx p (p::r)::emp n (nx p (p::r)+1) (p::r)=nx (p+1) r::emp n (nx (p+1) r+1) r
  rw[e,emp_past n _ (by have:=TD r (p+1);omega)]
theorem emp_cut {p:Int}{r:List Int}:∀(L:Nat) (box:Int),box<=p->emp L box (p::r)=row box (min L (p - box).toNat)++emp (L - min L (p - box).toNat) (p+1) r
 |0,box,_=>by rw[zero_min];rfl
 |L+1,box,h=>by
  by_cases c:box=p
  ·subst c
   rw[Int.sub_self,show min (L+1) (0:Int).toNat=0 from Nat.min_zero _,row_zero,XT,Nat.sub_zero]
   exact emp_on (L+1)
  ·have e:nx box (p::r)=box:=by
    unfold nx
    rw[if_neg (by omega),if_neg (by omega)]
   show nx box (p::r)::emp L (nx box (p::r)+1) (p::r)=_
   rw[e,emp_cut L (box+1) (by omega)]
   have em:min (L+1) (p - box).toNat=min L (p - (box+1)).toNat+1:=by omega
   rw[em,TW,show L+1 - (min L (p - (box+1)).toNat+1)=L - min L (p - (box+1)).toNat by omega]
   rfl
theorem emp_nil:∀(L:Nat) (box:Int),emp L box []=row box L
 |0,_=>rfl
 |L+1,box=>by
  rw[TW]
  show box::emp L (box+1) []=_
  rw[emp_nil L]
theorem rise_ext:∀{x y:List Int},x.Pairwise (· < ·)->y.Pairwise (· < ·)->(∀a,a∈x↔a∈y)->x=y
 |[],[],_,_,_=>rfl
 |[],b::y,_,_,h=>absurd ((h b).mpr (ZW ..)) (by simp)
 |a::x,[],_,_,h=>absurd ((h a).mp (ZW ..)) (by simp)
 |a::x,b::y,hx,hy,h=>by
  obtain⟨x1,x2⟩:=Zt.mp hx
  obtain⟨y1,y2⟩:=Zt.mp hy
  have e:a=b:=by
   rcases ZV.mp ((h a).mp (ZW ..)) with z | z
   ·exact z
   ·rcases ZV.mp ((h b).mpr (ZW ..)) with w | w
    ·exact w.symm
    ·have:=y1 a z;have:=x1 b w;omega
  subst e
  congr 1
  refine rise_ext x2 y2 fun c=>⟨fun hc=>?_,fun hc=>?_⟩
  ·rcases ZV.mp ((h c).mp (ZT _ hc)) with z | z
   ·have:=x1 c hc;omega
   ·exact z
  ·rcases ZV.mp ((h c).mpr (ZT _ hc)) with z | z
   ·have:=y1 c hc;omega
   ·exact z
theorem mem_row {lo:Int}{n:Nat}{x:Int}(h:x∈row lo n):lo<=x/\x<lo+(n:Int):=by
 unfold row at h
 obtain⟨k,hk,rfl⟩:=YC.mp h
 have:=Ys.mp hk
 omega
structure At (z:Nat)(all R bh ks:List Int)(L:Nat)(box:Int):Prop where
 eq:bh++sp z L box R=step z all
 cnt:bh.length+L+R.length=z
 lo:∀x∈bh,x<box
 ge:∀x∈R,box<=x
 up:R.Pairwise (· < ·)
 mem:∀x,x∈ks↔x∈bh\/x∈emp L box R\/x∈R
theorem At.go {z:Nat}{all r bh ks ks':List Int}{L:Nat}{box p:Int}(h:At z all (p::r) bh ks L box)(hk:∀x,x∈ks'↔(x∈ks/\x≠p)\/x=gy (L - min L (p - box).toNat) (p+1) r) :
 ∃bh' L',At z all r bh' ks' L' (p+1):=by
 obtain⟨u1,u2⟩:=Zt.mp h.up
 have hb:=h.ge p (ZW ..)
 have hc:=h.cnt
 rw[ZM]at hc
 have lz:L - min L (p - box).toNat<z:=by omega
 have e:=h.eq
 unfold sp at e
 rw[if_pos lz,<-List.append_assoc]at e
 refine⟨bh++row box (min L (p - box).toNat),L - min L (p - box).toNat+1,e,?_,fun x hx=>?_,fun x hx=>?_,u2,fun x=>?_⟩
 ·rw[Z6,show(row box (min L (p - box).toNat)).length=min L (p - box).toNat by unfold row;rw[Z2,YY]]
  omega
 ·rcases Zi.mp hx with w | w
  ·have:=h.lo x w;omega
  ·have:=mem_row w;omega
 ·have:=u1 x hx;omega
 ·rw[hk x,h.mem x,emp_cut L box hb,emp_gy]
  have np:∀w,w∈bh++row box (min L (p - box).toNat)->w≠p:=fun w hw=>by
   rcases Zi.mp hw with v | v
   ·have:=h.lo w v;omega
   ·have:=mem_row v;omega
  have ne:∀w,w∈emp (L - min L (p - box).toNat) (p+1) r->w≠p:=fun w hw=>by have:=emp_lt _ _ _ _ hw;omega
  have nr:∀w,w∈r->w≠p:=fun w hw=>by have:=u1 w hw;omega
  simp only[Zi,ZV,ZD,ZC,or_false]
  constructor
  ·rintro(⟨h1 | (h1 | h1) | h1 | h1,h2⟩ | h1)
   ·exact .inl (.inl h1)
   ·exact .inl (.inr h1)
   ·exact .inr (.inl (.inl h1))
   ·exact absurd h1 h2
   ·exact .inr (.inr h1)
   ·exact .inr (.inl (.inr h1))
  ·rintro((h1 | h1) | (h1 | h1) | h1)
   ·exact .inl ⟨.inl h1,np x (Y1 _ h1)⟩
   ·exact .inl ⟨.inr (.inl (.inl h1)),np x (ZO _ h1)⟩
   ·exact .inl ⟨.inr (.inl (.inr h1)),ne x h1⟩
   ·exact .inr h1
   ·exact .inl ⟨.inr (.inr (.inr h1)),nr x h1⟩
theorem At.here {z:Nat}{all r bh ks:List Int}{L:Nat}{box p:Int}(h:At z all (p::r) bh ks L box)(x:Int)(hx:p+1<=x)(hx2:x<=gy (L - min L (p - box).toNat) (p+1) r) :
 x∈ks↔x<gy (L - min L (p - box).toNat) (p+1) r:=by
 obtain⟨u1,u2⟩:=Zt.mp h.up
 have hb:=h.ge p (ZW ..)
 rw[h.mem x,emp_cut L box hb]
 simp only[Zi,ZV]
 constructor
 ·rintro(h1 | (h1 | h1) | h1 | h1)
  ·have:=h.lo x h1;omega
  ·have:=mem_row h1;omega
  ·exact(emp_lt _ _ _ _ h1).2
  ·omega
  ·by_cases c:x=gy (L - min L (p - box).toNat) (p+1) r
   ·exact absurd (by rw[<-c];exact h1) (gy_not (L - min L (p - box).toNat) (p+1) r u2)
   ·omega
 ·intro h1
  rcases gy_mid _ _ _ _ hx h1 with w | w
  ·exact .inr (.inr (.inr w))
  ·exact .inr (.inl (.inr w))
theorem At.done {z:Nat}{all bh ks:List Int}{L:Nat}{box:Int}(h:At z all [] bh ks L box)(x:Int):x∈ks↔x∈step z all:=by
 rw[h.mem x,<-h.eq,emp_nil]
 show x∈bh\/x∈row box L\/x∈[]↔x∈bh++row box L
 rw[Zi]
 constructor
 ·rintro(h1 | h1 | h1)
  ·exact .inl h1
  ·exact .inr h1
  ·cases h1
 ·rintro(h1 | h1)
  ·exact .inl h1
  ·exact .inr (.inl h1)
theorem At.start {all ks:List Int}(up:all.Pairwise (· < ·))(hk:∀x,x∈ks↔x∈all):At all.length all all [] ks 0 (all.headD 0):=by
 refine⟨rfl,by simp,fun x hx=>(by cases hx),fun x hx=>?_,up,fun x=>?_⟩
 ·cases all with
  |nil=>cases hx
  |cons p r=>
   rcases ZV.mp hx with rfl | hx
   ·exact Int.le_refl _
   ·exact Int.le_of_lt ((Zt.mp up).1 x hx)
 ·rw[hk x]
  show x∈all↔x∈[]\/x∈[]\/x∈all
  simp
end BB
namespace L2
structure Nb3 (mg:Str->Option Value):Prop extends Nb2 mg where
 dict:mg "dict" = none
 sorted:mg "sorted" = none
theorem hu1 {k:Nat}{A:Around}(r:Xv k A):A.units+1<cLine:=by have:=r.units;omega
theorem Wx {J:It}{g:TG}{te:TE}{Q:VK}{D:Addr}{H1:Hp}{σ0:St}(n:Nat)(hn:n<=sizeLine)(f:Nat->List V)(Sg:St->Prop)(itm:Nat->Hp->V->Prop)(hD:H1 D=none)(s0:Sg σ0)(items:∀i H,ZR H1 H->(i<n->J.go i H/\∀x H2,J.yld i H x H2->ZR H H2/\itm i H2 x)/\(n<=i->J.stop i H))(step:∀i x σ' H,i<n->ZR H1 H->itm i H x->Sg σ'->∀R:St->V->Hp->Prop,(∀σ3 p H5,Sg σ3->ZR H H5->H5 p=some (.tup (f i))->R σ3 (.ref p) H5)->g x σ' H fun σ3 H3=>te σ3 H3 (R σ3))(fin:∀H' ys,ZR H1 H'->H' D=some (.lst ys)->ys.length=n->(∀(j:Nat) (y:V),ys[j]?=some y->∃p,y=.ref p/\H' p=some (.tup (f j)))->Q (.ref D) H') :
 cmpW J g tYes te Q D σ0 H1:=by
 refine⟨fun i m σ H=>m=n - i/\i<=n/\Sg σ/\ZR H1 H/\∃ys,H D=some (.lst ys)/\ys.length=i/\∀(j:Nat) (y:V),ys[j]?=some y->∃p,y=.ref p/\H p=some (.tup (f j)),⟨n,by omega,Yp _,s0,(ZR.refl H1).upd_free hD _,[],Z5,rfl,fun j y h=>by cases h⟩,?_⟩
 rintro i m σ H ⟨rfl,hi,hs,sm,ys,hd,hl,hy⟩
 by_cases hlt:i<n
 ·obtain⟨go,yl⟩:=(items i H sm).1 hlt
  refine .inr ⟨go,fun x H2 y=>?_⟩
  obtain⟨s2,im⟩:=yl x H2 y
  have key:=step i x σ H2 hlt (sm.trans s2) im hs (fun σ3 y H5=>∃ys,H5 D=some (.lst ys)/\ys.length<sizeLine/\∃m',m'<n - i/\(m'=n - (i+1)/\i+1<=n/\Sg σ3/\ZR H1 (upd H5 D (.lst (ys++[y])))/\∃zs,(upd H5 D (.lst (ys++[y]))) D=some (.lst zs)/\zs.length=i+1/\∀(j:Nat) (u:V),zs[j]?=some u->∃p,u=.ref p/\(upd H5 D (.lst (ys++[y]))) p=some (.tup (f j)))) fun σ3 p H5 g3 s5 ep=>by
   refine⟨ys,s5 _ _ (s2 _ _ hd),by omega,n - (i+1),by omega,rfl,by omega,g3,(sm.trans (s2.trans s5)).upd_free hD _,ys++[.ref p],Z5,by rw[Z6,ZN,hl],fun j u hu=>?_⟩
   have dd:=s5 _ _ (s2 _ _ hd)
   by_cases c:j<ys.length
   ·rw[ZL c]at hu
    obtain⟨p',e1,e2⟩:=hy j u hu
    have e3:=s5 _ _ (s2 _ _ e2)
    exact⟨p',e1,by rw[ZS (Wc e3 dd (by intro z;cases z))];exact e3⟩
   ·have ej:j=i:=by
     have:=(List.getElem?_eq_some_iff.mp hu).1
     rw[Z6,ZN]at this
     omega
    subst ej
    rw[ZU (by omega),hl,Nat.sub_self]at hu
    have eu:u=.ref p:=by simpa using hu.symm
    exact⟨p,eu,by rw[ZS (Wc ep dd (by intro z;cases z))];exact ep⟩
  have e:(fun(σ3:St) (H3:Hp)=>te σ3 H3 fun y H5=>∃ys,H5 D=some (.lst ys)/\ys.length<sizeLine/\∃m',m'<n - i/\(m'=n - (i+1)/\i+1<=n/\Sg σ3/\ZR H1 (upd H5 D (.lst (ys++[y])))/\∃zs,(upd H5 D (.lst (ys++[y]))) D=some (.lst zs)/\zs.length=i+1/\∀(j:Nat) (u:V),zs[j]?=some u->∃p,u=.ref p/\(upd H5 D (.lst (ys++[y]))) p=some (.tup (f j)))) =
   fun(σ3:St) (H3:Hp)=>tYes σ3 H3 fun ok H4=>if ok=true then te σ3 H4 fun y H5=>∃ys,H5 D=some (.lst ys)/\ys.length<sizeLine/\∃m',m'<n - i/\(m'=n - (i+1)/\i+1<=n/\Sg σ3/\ZR H1 (upd H5 D (.lst (ys++[y])))/\∃zs,(upd H5 D (.lst (ys++[y]))) D=some (.lst zs)/\zs.length=i+1/\∀(j:Nat) (u:V),zs[j]?=some u->∃p,u=.ref p/\(upd H5 D (.lst (ys++[y]))) p=some (.tup (f j)))
    else ∃m',m'<n - i/\(m'=n - (i+1)/\i+1<=n/\Sg σ3/\ZR H1 H4/\∃zs,H4 D=some (.lst zs)/\zs.length=i+1/\∀(j:Nat) (u:V),zs[j]?=some u->∃p,u=.ref p/\H4 p=some (.tup (f j))):=by
   funext σ3 H3
   unfold tYes
   dsimp only
   rw[if_pos rfl]
  rw[<-e]
  exact key
 ·have e:i=n:=by omega
  subst e
  exact .inl ⟨(items i H sm).2 (Nat.le_refl _),fin H ys sm hd hl hy⟩
abbrev KI (kvs:List (XL×V))(ks:List Int):Prop:=kvs.map (·.1)=ks.map Sum.inl
theorem ki_mem {kvs:List (XL×V)}{ks:List Int}(h:KI kvs ks)(x:Int):(valV kvs (Sum.inl x)).isSome=decide (x∈ks):=by
 cases e:valV kvs (Sum.inl x) with
 |none=>
  have:=valV_not e
  rw[h]at this
  rw[decide_eq_false fun z=>this (YC.mpr ⟨x,z,rfl⟩)]
  rfl
 |some v=>
  have:=valV_in e
  rw[h]at this
  obtain⟨y,hy,ey⟩:=YC.mp this
  have:y=x:=Sum.inl.inj ey
  rw[decide_eq_true (by rw[<-this];exact hy)]
  rfl
theorem ki_drop:∀{kvs:List (XL×V)} {ks:List Int},KI kvs ks->∀p:Int,KI (V0 kvs (Sum.inl p)) (ks.filter fun x=>decide (x≠p))
 |[],[],_,_=>rfl
 |[],_::_,h,_=>by cases h
 |_::_,[],h,_=>by cases h
 |kv::kvs,k::ks,h,p=>by
  have h1:kv.1=Sum.inl k:=(List.cons.inj h).1
  have h2:KI kvs ks:=(List.cons.inj h).2
  have ih:=ki_drop h2 p
  by_cases c:k=p
  ·rw[dropK_pos (by rw[h1,c]),Xi (by simpa using c)]
   exact ih
  ·rw[SL (by rw[h1];exact fun z=>c (Sum.inl.inj z)),YM (by simpa using c)]
   show kv.1::_=Sum.inl k::_
   rw[h1,ih]
theorem ki_put {kvs:List (XL×V)}{ks:List Int}{x:Int}{v:V}(h:KI kvs ks)(hx:x∉ks):KI (putK kvs (Sum.inl x) v) (ks++[x]):=by
 have no:¬(kvs.any fun kv=>decide (kv.1=(Sum.inl x:XL)))=true:=fun z=>by
  obtain⟨kv,hm,hk⟩:=Vv.mp z
  have:(Sum.inl x:XL)∈kvs.map (·.1):=YC.mpr ⟨kv,hm,of_decide_eq_true hk⟩
  rw[h]at this
  obtain⟨y,hy,ey⟩:=YC.mp this
  exact hx (by rw[<-Sum.inl.inj ey];exact hy)
 unfold putK KI
 rw[if_neg no,ZB,ZB,h]
 rfl
section
variable {X:Cx}
end
end L2
namespace BB
def tkn (z:Nat):Nat->Int->List Int->Nat
 |_,_,[]=>0
 |L,box,p::r=>if L - min L (p - box).toNat<z then tkn z (L - min L (p - box).toNat+1) (p+1) r+1 else tkn z (L - min L (p - box).toNat) (p+1) r
def taken (z:Nat)(r:List Int):Nat:=tkn z 0 (r.headD 0) r
structure By (z:Nat)(all R fo:List Int)(L t:Nat)(x:Int):Prop where
 eq:fo++sp z L x R=step z all
 tk:t+tkn z L x R=taken z all
 ge:L≠0->∀p∈R,x<=p
 up:R.Pairwise (· < ·)
 le:L<=z
end BB
namespace L2
section
variable {X:Cx}
def rNeNil (K:W.Frag):R2:=fun x y H Q=>∃(a b:Addr) (xs:List V),x=.ref a/\y=.ref b/\Zp K H a xs/\Zp K H b []/\Q (.bl (!xs.isEmpty)) H
theorem op_neNil (hu:X.A.units<cLine):Uo X (compareOp .NotEq) (rNeNil X.K):=by
 intro pins s σ H x y v u Q I rx ry h
 obtain⟨a,b,xs,rfl,rfl,ha,hb,q⟩:=h
 cases rx
 cases ry
 obtain⟨its,r1,p1,_⟩:=I.list ha
 obtain⟨its2,r2,p2,_⟩:=I.list hb
 cases r2
 cases r1 with
 |nil=>
  refine of_rcne' (SeqAt.RcNeAt.lists (e:=fun _=>true) p1.isList p2.isList rfl hu (fun j h1=>absurd h1 (by simp))) ?_
  exact⟨.bl false,H,I,rfl,q⟩
 |cons h t=>
  refine of_rcne' (SeqAt.RcNeAt.lists_lengths p1.isList p2.isList (by simp) hu) ?_
  exact⟨.bl true,H,I,rfl,q⟩
end
abbrev TJ:=Str->St->Hp->VK->Prop
def PJ (X:Cx)(es:List Expr)(t:TJ):Prop:=
 ∀(out:Str) (pins:List (Addr×Obj)) (s:Shared) (σ:St) (H:Hp) (Q:VK),Zq X pins σ H s->t out σ H Q->wpAny (model X.prog X.w) X.A (joinParts out (evalEach es X.env)) (EP X pins σ Q) X.xe s
section
variable {X:Cx}{e:Expr}{es:List Expr}{te:TE}{t:TJ}{pos:Pos}
def jNil:TJ:=fun out _ H Q=>out.length<=sizeLine/\Q (.str out) H
def jStr (y:Str)(t:TJ):TJ:=fun out σ H Q=>(out++y).length<=sizeLine/\t (out++y) σ H Q
def jInt (te:TE)(t:TJ):TJ:=fun out σ H Q=>te σ H fun x H1=>∃i:Int,x=.int i/\i.natAbs.log2<1920/\(out++(toString i:Str)).length<=sizeLine/\t (out++(toString i:Str)) σ H1 Q
theorem pj_nil:PJ X [] jNil:=by
 intro out pins s σ H Q I h
 obtain⟨hz,q⟩:=h
 exact joinParts_nil ⟨.str out,H,I.tok _,⟨_,rfl⟩,q⟩ hz
theorem pj_str {y:Str}{j:Nat}(hr:PJ X es t):PJ X (.Constant (.str y) j pos::es) (jStr y t):=by
 intro out pins s σ H Q I h
 obtain⟨hz,q⟩:=h
 show wpAny _ _ (joinParts out (eval (.Constant (.str y) j pos) X.env::evalEach es X.env)) _ _ _
 refine joinParts_cons (Calls.Constant_str ?_)
 exact⟨hz,hr (out++y) pins _ σ H Q (I.tok _) q⟩
theorem pj_int (he:PE X e te)(hr:PJ X es t):PJ X (.FormattedValue e (-1) none pos::es) (jInt te t):=by
 intro out pins s σ H Q I h
 show wpAny _ _ (joinParts out (eval (.FormattedValue e (-1) none pos) X.env::evalEach es X.env)) _ _ _
 refine joinParts_cons (FormattedValue_plain (thn (he pins s σ H _ I h) fun u s1 ⟨x,H1,I1,rx,i,ex,hd,hz,q⟩=>?_))
 subst ex
 obtain⟨tk,rfl⟩:=UT rx
 refine formatField_int_small hd ?_
 exact⟨hz,hr _ pins _ σ H1 Q (I1.tok _) q⟩
def tJoin (t:TJ):TE:=fun σ H Q=>t Str.empty σ H Q
theorem pe_fstr {e1 e2:Expr}(h:PJ X (e1::e2::es) t):PE X (.JoinedStr (e1::e2::es) pos) (tJoin t):=by
 intro pins s σ H Q I hq
 exact JoinedStr_many (h Str.empty pins s σ H Q I hq)
end
def Ya:List Addr->Heap->Heap
 |[],h=>h
 |a::S,h=>(Ya S h).update a fun o=>{o with data:=.freed}
theorem freed_get (h:Heap)(a:Addr):(h.update a fun o=>{o with data:=.freed}).get? a=none:=by
 obtain⟨objs,l⟩:=h
 show Heap.get? ⟨objs.modify a _,l⟩ a=none
 unfold Heap.get?
 simp only[Array.getElem?_modify,if_pos]
 cases objs[a]?<;>rfl
theorem VG:∀{S:List Addr} {h:Heap} {b:Addr},b∈S->(Ya S h).get? b=none
 |a::S,h,b,hb=>by
  by_cases e:a=b
  ·subst e;exact freed_get _ _
  ·show((Ya S h).update a _).get? b=none
   rw[V6 _ _ e]
   exact VG ((ZV.mp hb).resolve_left fun z=>e z.symm)
theorem XE:∀{S:List Addr} {h:Heap} {b:Addr},b∉S->(Ya S h).get? b=h.get? b
 |[],_,_,_=>rfl
 |a::S,h,b,hb=>by
  show((Ya S h).update a _).get? b=_
  rw[V6 _ _ fun z=>hb (by rw[z];exact ZW),XE fun z=>hb (ZT _ z)]
theorem UV {S:List Addr}{h:Heap}{b:Addr}{o:Obj}(e:(Ya S h).get? b=some o):b∉S/\h.get? b=some o:=by
 by_cases hb:b∈S
 ·rw[VG hb]at e;cases e
 ·exact⟨hb,(XE hb).symm.trans e⟩
theorem Ut (S:List Addr)(h:Heap):(Ya S h).StaysIn h:=fun _ _ e=>(UV e).2
theorem WP {S:List Addr}{h base:Heap}:∀{l:List Env},(∀b∈frs l,b∈S)->h.FunFrames base l->h.FunFrames (Ya S h) l
 |[],_,_=>trivial
 |env::r,hs,⟨hk,⟨L,o,hf,_,ho,hd⟩,hr⟩=>by
  have hm:∀b,b=L\/b∈frs r->b∈S:=fun b hb=>hs b (by unfold frs;rw[WY,hf];exact ZV.mpr hb)
  exact⟨hk,⟨L,o,hf,VG (hm L (.inl rfl)),ho,hd⟩,WP (fun b hb=>hm b (.inr hb)) hr⟩
def Trc (h:Heap)(e T:Addr)(cls:Value):Prop:=
 ∃oe vs oT ts a0,h.get? e=some oe/\oe.cls=cls/\vs[0]?=some a0/\oe.data=.fields vs/\vs[1]?=some (.ref T)/\T≠e/\h.get? T=some oT/\oT.data=.fields ts/\ts[3]?=some .none
structure Fly (P:Program)(w:World)(outer:List Env)(H:Hp)(s:Shared)(H':Hp)(e:Addr)(cls:Value)(s':Shared):Prop where
 os:s'.os=s.os
 bare:AllBare s'.gens
 un:Un (frs outer) [] H H' s.heap s'.heap
 hok:VC P w H' s'.heap
 new:s.heap.get? e=none
 free:H' e=none
 tr:∃T,Trc s'.heap e T cls/\s.heap.get? T=none/\H' T=none
def CXF (P:Program)(w:World):CXT:=fun outer H s E v s'=>∃e cls H',v=.ref e/\Fly P w outer H s H' e cls s'/\E cls (some e) H'
section
variable {P:Program}{w:World}{base:Heap}{env:Env}{outer:List Env}{L:Addr}
structure Gone (S:List Addr)(h h':Heap):Prop where
 keep:∀b o,b∉S->h.get? b=some o->h'.get? b=some o
 slot:h.UpToSlots h'
theorem Gone.hok {S:List Addr}{H:Hp}{h h':Heap}(g:Gone S h h')(hS:∀b∈S,H b=none)(x:VC P w H h):VC P w H h':=fun b u e=>by
 have ne:∀c u,H c=some u->c∉S:=fun c u q z=>by rw[hS c z]at q;cases q
 refine(x b u e).stay (fun c v hc q=>g.keep c v ?_ q) (fun _ q=>q) fun _ _ q=>q
 rcases hc with rfl | hc
 ·exact ne _ _ e
 ·exact ne _ _ hc
end
theorem YG.live {P:Program}{w:World}{H:Hp}{h:Heap}{a:Addr}{o:HO}(x:YG P w H h a o):∃u,h.get? a=some u:=by
 cases o with
 |lst xs=>exact let⟨_,_,_,_,e⟩:=x;⟨_,e⟩
 |tup xs=>exact let⟨_,_,_,_,e,_⟩:=x;⟨_,e⟩
 |dK kvs=>exact let⟨_,_,_,_,_,_,_,e,_⟩:=x;⟨_,e⟩
 |dT kvs=>exact let⟨_,_,_,_,_,_,_,e,_⟩:=x;⟨_,e⟩
 |set S n=>exact let⟨_,_,_,_,e,_⟩:=x;⟨_,e⟩
 |ins C dx fs=>exact let⟨_,_,_,e,_⟩:=x;⟨_,e⟩
 |own y=>exact x
 |xd fs=>exact let⟨_,⟨_,_,_,e,_⟩,_⟩:=x;⟨_,e⟩
 |rng lo hi=>exact let⟨_,_,_,e⟩:=x;⟨_,e⟩
 |frz ob u=>exact⟨_,x.1⟩
 |tbl ps=>exact⟨_,x⟩
 |met f y=>exact⟨_,x⟩
 |ext φ=>exact x.2.1
theorem VC.gone {P:Program}{w:World}{H:Hp}{h:Heap}{a:Addr}(x:VC P w H h)(e:h.get? a=none):H a=none:=by
 cases q:H a with
 |none=>rfl
 |some o=>
  obtain⟨u,z⟩:=(x a o q).live
  rw[e]at z;cases z
section
variable {X:Cx}{pins:List (Addr×Obj)}{σ:St}{H H':Hp}{s s':Shared}{e:Addr}{cls:Value}{Q:Unit->Shared->Prop}{E:Value->Shared->Prop}
structure Own (X:Cx):Prop where
 stk:X.stack=X.env::X.outer
 frm:X.env.frame=some X.env.locals
 ex:X.ex=[]
theorem Zq.flown (I:Zq X pins σ H s)(F:Fly X.prog X.w X.stack H s H' e cls s'):Zq X pins σ H' s':=by
 obtain⟨hh,g,d,t,os'⟩:=s'
 obtain rfl:os'=s.os:=F.os
 exact I.call (h':=hh) (g':=g) (d':=d) (t':=t) (ch:=[]) F.un F.hok F.bare fun b z=>absurd z (by simp)
theorem Gone.fly {S:List Addr}{h':Heap}{T:Addr}(O:Own X)(I:Zq X pins σ H' s')(g:Gone S s'.heap h')(sub:∀b∈S,(X.s₀.heap.get? b=none/\H' b=none)\/b∈frs X.stack)(ne:X.s₀.heap.get? e=none)(fe:H' e=none)(tr:Trc h' e T cls)(nT:X.s₀.heap.get? T=none)(fT:H' T=none):Fly X.prog X.w X.outer X.H₀ X.s₀ H' e cls {s' with heap:=h'}:=by
 have fr:∀b∈S,H' b=none:=fun b hb=>(sub b hb).elim (fun z=>z.2) (I.stkFree b)
 have base:=O.ex▸I.base
 have outS:∀b o,X.s₀.heap.get? b=some o->b∉X.fs->b∉S:=fun b o eb nb hb=>by
  rcases sub b hb with z | z
  ·rw[z.1]at eb;cases eb
  ·rcases ZV.mp (I.stkSub b z) with q | q
   ·exact absurd (Nat.lt_of_lt_of_le (ZA eb) I.ok.above) (by rw[q];exact Xr _)
   ·exact nb q
 have atF:∀b o,X.s₀.heap.get? b=some o->X.H₀ b=none->b∈X.fs->∃sl,h'.get? b=some {o with slots:=sl}:=fun b o eb n hb=>by
  obtain⟨sl,e1⟩:=base.slot b o eb n hb (by simp)
  obtain⟨_,o',eo,hd⟩:=I.ok.funs.mem hb
  rw[eb]at eo;cases eo
  obtain⟨sl',e2⟩:=g.slot b _ e1 hd
  exact⟨sl',e2⟩
 refine⟨I.os,I.bare,⟨fun b o eb n hb _=>g.keep b o (outS b o eb hb) (base.keep b o eb n hb (by simp)),fun b o eb n hb _=>atF b o eb n hb,base.free,fun b o eb _=>?_,base.tups,base.frzs,base.tbls⟩,g.hok fr I.hok,ne,fe,T,tr,nT,fT⟩
 by_cases hb:b∈X.fs
 ·obtain⟨sl,z⟩:=atF b o eb (I.ok.frf b hb) hb
  exact⟨_,z⟩
 ·obtain⟨o1,e1⟩:=base.there b o eb (by simp)
  exact⟨o1,g.keep b o1 (outS b o eb hb) e1⟩
theorem SV {h h':Heap}{base:Heap}{l:List Env}{T:Addr}{o:Obj}{ts:Array Value}(hl:h.FunFrames base l)(up:h.UpToSlots h')(e:h'.get? T=some o)(hd:o.data=.fields ts):T∉frs l:=fun hb=>by
 obtain⟨_,o',eo,nd⟩:=hl.mem hb
 obtain⟨sl,e2⟩:=up T o' eo nd
 rw[e]at e2
 cases e2
 exact nd ts hd
theorem fly_on (O:Own X)(I:Zq X pins σ H s)(F:Fly X.prog X.w X.stack H s H' e cls s')(q:∀h',Fly X.prog X.w X.outer X.H₀ X.s₀ H' e cls {s' with heap:=h'}->Q () {s' with heap:=h'}) :
 wpAny (model X.prog X.w) X.A (leaving X.env (.ref e)) Q E s':=by
 have J:=I.flown F
 obtain⟨T,⟨oe,vs,oT,ts,a0,he,hc,h0,hd,h1,ne,hT,hdT,h3⟩,nT,fT⟩:=F.tr
 have old:∀b,s.heap.get? b=none->X.s₀.heap.get? b=none:=fun b z=>by
  cases q:X.s₀.heap.get? b with
  |none=>rfl
  |some o=>
   obtain⟨o',e'⟩:=I.base.there b o q (by rw[O.ex];simp)
   rw[z]at e';cases e'
 have frames:s'.heap.FunFrames (Ya (e::T::frs X.stack) s'.heap) X.stack:=WP (fun b hb=>ZT _ (ZT _ hb)) J.stack
 have fl:Heap.FlyingW (Ya (e::T::frs X.stack) s'.heap) (X.env::X.outer) e cls a0 s'.heap:=
  ⟨Ut _ _,VG (by simp),O.stk▸frames,oe,vs,T,oT,ts,he,⟨hc,h0⟩,hd,h1,VG (by simp),ne,hT,hdT,h3⟩
 refine wpAny_leaves_onW (O.stk▸I.ok.frames) O.frm fl fun h' f' up=>q h' ?_
 obtain⟨st,_,_,oe',vs',T',oT',ts',he',⟨hc',h0'⟩,hd',h1',nb',ne',hT',hdT',h3'⟩:=f'
 have g:Gone (e::T::frs X.stack) s'.heap h':=⟨fun b o hb eb=>st b o ((XE hb).trans eb),up⟩
 have tw:T'=T\/s'.heap.get? T'=none:=by
  by_cases hm:T'∈e::T::frs X.stack
  ·rcases ZV.mp hm with z | z
   ·exact absurd z ne'
   ·rcases ZV.mp z with z | z
    ·exact .inl z
    ·exact absurd z (SV J.stack up hT' hdT')
  ·exact .inr ((XE hm).symm.trans nb')
 refine g.fly (T:=T') O J (fun b hb=>?_) (old e F.new) F.free ⟨oe',vs',oT',ts',a0,he',hc',h0',hd',h1',ne',hT',hdT',h3'⟩ ?_ ?_
 ·rcases ZV.mp hb with z | z
  ·exact .inl (z▸⟨old e F.new,F.free⟩)
  ·rcases ZV.mp z with z | z
   ·exact .inl (z▸⟨old T nT,fT⟩)
   ·exact .inr z
 ·rcases tw with z | z
  ·exact z▸old T nT
  ·cases q:X.s₀.heap.get? T' with
   |none=>rfl
   |some o=>
    obtain⟨o',e'⟩:=J.base.there T' o q (by rw[O.ex];simp)
    rw[z]at e';cases e'
 ·rcases tw with z | z
  ·exact z▸fT
  ·exact J.hok.gone z
theorem fly_off {args:List Value}{h1:Heap}(O:Own X)(I:Zq X pins σ H s)(M:Heap.MadeExcOf s.heap h1 e cls args)(q:∀h',Fly X.prog X.w X.outer X.H₀ X.s₀ H e cls {s with heap:=h'}->Q () {s with heap:=h'}) :
 wpAny (model X.prog X.w) X.A (leaving X.env (.ref e)) Q E {s with heap:=h1}:=by
 have old:∀b,s.heap.get? b=none->X.s₀.heap.get? b=none:=fun b z=>by
  cases q:X.s₀.heap.get? b with
  |none=>rfl
  |some o=>
   obtain⟨o',e'⟩:=I.base.there b o q (by rw[O.ex];simp)
   rw[z]at e';cases e'
 have frames:s.heap.FunFrames (Ya (frs X.stack) s.heap) X.stack:=WP (fun b hb=>hb) I.stack
 refine wpAny_leaves_madeW (s:={s with heap:=h1}) (h:=s.heap) (base:=Ya (frs X.stack) s.heap) (O.stk▸I.ok.frames) O.frm (Ut _ _) (O.stk▸frames) M fun h' t f' _ _ up1=>q h' ?_
 obtain⟨st,nb,_,oe',vs',T',oT',ts',he',⟨hc',h0'⟩,hd',h1',nb',ne',hT',hdT',h3'⟩:=f'
 have up:s.heap.UpToSlots h':=(Heap.UpToSlots.of_keeps M.keeps).trans up1
 have g:Gone (frs X.stack) s.heap h':=⟨fun b o hb eb=>st b o ((XE hb).trans eb),up⟩
 have tn:s.heap.get? T'=none:=(XE (SV I.stack up hT' hdT')).symm.trans nb'
 exact g.fly (T:=T') O I (fun b hb=>.inr hb) (old e M.new) (I.hok.gone M.new) ⟨oe',vs',oT',ts',_,he',hc',h0',hd',h1',ne',hT',hdT',h3'⟩ (old T' tn) (I.hok.gone tn)
end
abbrev mroV:List Value:=[.type "ValueError",.type "Exception",.type "BaseException",.type "object"]
structure Exc (K:W.Frag)(C:Addr)(bm:List Value):Prop where
 ob:∃(nm q:Str) (N:Addr) (bs:List Value) (hdct:Bool) (sn:List Str) (sub:List Value) (ab:Bool) (col:Option Bool) (dd:Option Addr) (k0 k1 k2 k3 k5:Option Value),
  K.lookup C=some (excClassObj nm q C N bs bm hdct sn sub ab col dd k0 k1 k2 k3 k5 "ValueError.__new__")/\nsOkIn K N=true/\PySem.W.nsIn K N "__init__" = some none
 tl:tailIn K mroV bm=true
 bb:bm.contains (.type "BaseException")=true
 vb:bm.contains (.type "ValueError")=true
section
variable {P:Program}{w:World}{K:W.Frag}{mg:Str->Option Value}{base:Heap}{N:List Str}{qual:Str}{scope:Scope}{f:Addr}{cd:Value}{A:Around}{outer:List Env}{s:Shared}{H:Hp}{E:XK}
theorem own_cx {CX:CXT}:Own (cxOf CX P w K mg base N qual scope f cd A outer s H E):=⟨rfl,rfl,rfl⟩
structure Lvs (X:Cx)(E:XK):Prop where
 own:Own X
 xe:∀e s',wpAny (model X.prog X.w) X.A (leaving X.env e) (fun _ s''=>CXF X.prog X.w X.outer X.H₀ X.s₀ E e s'') (fun e' s''=>CXF X.prog X.w X.outer X.H₀ X.s₀ E e' s'') s'->X.xe e s'
theorem lvs_cx:Lvs (cxOf (CXF P w) P w K mg base N qual scope f cd A outer s H E) E:=⟨own_cx,fun _ _ h=>h⟩
end
section
variable {X:Cx}{E E':XK}
theorem Lvs.pass (L:Lvs X E)(imp:∀c a H,E' c a H->E c a H):Passes (CXF X.prog X.w) X E':=by
 intro pins σ H s v s' I h
 obtain⟨e,cls,H',rfl,F,q⟩:=h
 exact L.xe _ _ (fly_on L.own I F fun h' F'=>⟨e,cls,H',rfl,F',imp _ _ _ q⟩)
def tRaise (E:XK)(C:Addr)(ta:TA):TS:=fun _ σ H=>ta σ H fun vs H1=>vs.length<=sizeLine/\∀e,H1 e=none->E (.ref C) (some e) H1
theorem ps_raise {C:Addr}{bm:List Value}{x:Str}{np cpos pos:Pos}{a:Expr}{es:List Expr}{ta:TA}(L:Lvs X E)(hc:X.calm=true)(hg:Gl X x)(hm:X.mg x=some (.ref C))(ex:Exc X.K C bm)(ha:PA X (a::es) ta)(he:starEach (a::es) X.env=(false,eval a X.env)::starEach es X.env:=by rfl)(hpl:(backTo cpos (starEach (a::es) X.env)).any (·.1)=false:=by rfl)(hd:(x==("__debug__" : Str))=false:=by decide) :
 PS X (.Raise (some (.Call (.Name x np) (a::es) [] cpos)) none pos) (tRaise E C ta):=by
 intro pins s σ H D I h
 obtain⟨⟨nm,q,N,bs,hdct,sn,sub,ab,col,dd,k0,k1,k2,k3,k5,lk,nok,nin⟩,tl,bb,vb⟩:=ex
 have KB:=I.ok.mod.kin
 have ns:X.base.Ns N (X.base.nsMap N):=.of_isNs (isNs_of_in KB nok)
 refine wpAny_Raise_call_subT (nm:=nm) (q:=q) (N:=N) (bs:=bs) (bm:=bm) (hdct:=hdct) (sn:=sn) (sub:=sub) (ab:=ab) (col:=col) (dd:=dd) (k0:=k0) (k1:=k1) (k2:=k2) (k3:=k3) (k5:=k5) (mN:=X.base.nsMap N)
  F.excBase_ValueError bb (I.ok.hd hc) hpl (PySem.W.nsMap_none_of_in KB nok nin) (UU I hg hm ⟨rfl,?_⟩ hd)
 have go:=ha cpos pins s σ H _ I h
 rw[he]at go ⊢
 refine Uk (thn go fun us s1 ⟨vs,H1,I1,r,hz,q1⟩=>?_)
 refine⟨rfl,by rw[<-r.length];exact hz,I1.kIn _ _ lk,ns.keeps I1.bk,tail_of_in I1.kIn tl,fun h' e M=>L.xe _ _ ?_⟩
 exact fly_off L.own I1 M fun h2 F=>⟨e,.ref C,H1,rfl,F,q1 e (I1.hok.gone M.new)⟩
end
section
variable {X:Cx}{pins:List (Addr×Obj)}{σ:St}{H H':Hp}{s s':Shared}{e T:Addr}{cls:Value}{S:List Addr}{h':Heap}
theorem Gone.on (I:Zq X pins σ H s)(F:Fly X.prog X.w X.stack H s H' e cls s')(g:Gone S s'.heap h')(sub:∀b∈S,(s.heap.get? b=none/\H' b=none)\/b∈frs X.stack)(tr:Trc h' e T cls)(nT:s.heap.get? T=none)(fT:H' T=none):Fly X.prog X.w X.stack H s H' e cls {s' with heap:=h'}:=by
 have J:=I.flown F
 have fr:∀b∈S,H' b=none:=fun b hb=>(sub b hb).elim (fun z=>z.2) (J.stkFree b)
 have outS:∀b o,s.heap.get? b=some o->b∉frs X.stack->b∉S:=fun b o eb nb hb=>by
  rcases sub b hb with z | z
  ·rw[z.1]at eb;cases eb
  ·exact nb z
 have atF:∀b o,s.heap.get? b=some o->H b=none->b∈frs X.stack->∃sl,h'.get? b=some {o with slots:=sl}:=fun b o eb n hb=>by
  obtain⟨sl,e1⟩:=F.un.slot b o eb n hb (by simp)
  obtain⟨_,o',eo,hd⟩:=I.stack.mem hb
  rw[eb]at eo;cases eo
  obtain⟨sl',e2⟩:=g.slot b _ e1 hd
  exact⟨sl',e2⟩
 refine⟨F.os,F.bare,⟨fun b o eb n hb _=>g.keep b o (outS b o eb hb) (F.un.keep b o eb n hb (by simp)),fun b o eb n hb _=>atF b o eb n hb,F.un.free,fun b o eb _=>?_,F.un.tups,F.un.frzs,F.un.tbls⟩,g.hok fr F.hok,F.new,F.free,T,tr,nT,fT⟩
 by_cases hb:b∈frs X.stack
 ·obtain⟨sl,z⟩:=atF b o eb (I.stkFree b hb) hb
  exact⟨_,z⟩
 ·obtain⟨o1,e1⟩:=F.un.there b o eb (by simp)
  exact⟨o1,g.keep b o1 (outS b o eb hb) e1⟩
theorem fly_base (I:Zq X pins σ H s)(F:Fly X.prog X.w X.stack H s H' e cls s'):∃(T:Addr) (a0:Value),Heap.FlyingW (Ya (e::T::frs X.stack) s'.heap) X.stack e cls a0 s'.heap/\
 ∀h',Heap.FlyingW (Ya (e::T::frs X.stack) s'.heap) X.stack e cls a0 h'->s'.heap.UpToSlots h'->Fly X.prog X.w X.stack H s H' e cls {s' with heap:=h'}:=by
 have J:=I.flown F
 obtain⟨T,⟨oe,vs,oT,ts,a0,he,hc,h0,hd,h1,ne,hT,hdT,h3⟩,nT,fT⟩:=F.tr
 refine⟨T,a0,⟨Ut _ _,VG (by simp),WP (fun b hb=>ZT _ (ZT _ hb)) J.stack,oe,vs,T,oT,ts,he,⟨hc,h0⟩,hd,h1,VG (by simp),ne,hT,hdT,h3⟩,fun h' f' up=>?_⟩
 obtain⟨st,_,_,oe',vs',T',oT',ts',he',⟨hc',h0'⟩,hd',h1',nb',ne',hT',hdT',h3'⟩:=f'
 have g:Gone (e::T::frs X.stack) s'.heap h':=⟨fun b o hb eb=>st b o ((XE hb).trans eb),up⟩
 have tw:T'=T\/s'.heap.get? T'=none:=by
  by_cases hm:T'∈e::T::frs X.stack
  ·rcases ZV.mp hm with z | z
   ·exact absurd z ne'
   ·rcases ZV.mp z with z | z
    ·exact .inl z
    ·exact absurd z (SV J.stack up hT' hdT')
  ·exact .inr ((XE hm).symm.trans nb')
 refine g.on (T:=T') I F (fun b hb=>?_) ⟨oe',vs',oT',ts',a0,he',hc',h0',hd',h1',ne',hT',hdT',h3'⟩ ?_ ?_
 ·rcases ZV.mp hb with z | z
  ·exact .inl (z▸⟨F.new,F.free⟩)
  ·rcases ZV.mp z with z | z
   ·exact .inl (z▸⟨nT,fT⟩)
   ·exact .inr z
 ·rcases tw with z | z
  ·exact z▸nT
  ·cases q:s.heap.get? T' with
   |none=>rfl
   |some o=>
    obtain⟨o',e'⟩:=F.un.there T' o q (by simp)
    rw[z]at e';cases e'
 ·rcases tw with z | z
  ·exact z▸fT
  ·exact J.hok.gone z
variable {A:Around}{M:Model}{E:Value->Shared->Prop}{Q:Unit->Shared->Prop}
theorem fly_seen (O:Own X)(I:Zq X pins σ H s)(F:Fly X.prog X.w X.stack H s H' e cls s')(hA:A.frames=some X.stack)(q:∀h',Fly X.prog X.w X.stack H s H' e cls {s' with heap:=h'}->Q () {s' with heap:=h'}) :
 wpAny M A (noteFrame (.ref e) X.env) (fun _ s2=>wpAny M A (setFlight (.ref e) none) Q E s2) E s':=by
 obtain⟨T,a0,fl,back⟩:=fly_base I F
 rw[O.stk]at fl hA
 refine wpAny_looks_onW hA O.frm fl fun h1 held up1=>wpAny_landsW (s:={s' with heap:=h1}) held fun h2 fl2 up2=>q h2 (back h2 ?_ (up1.trans up2))
 rw[O.stk]
 exact fl2
theorem fly_land (I:Zq X pins σ H s)(F:Fly X.prog X.w X.stack H s H' e cls s')(q:∀h',Fly X.prog X.w X.stack H s H' e cls {s' with heap:=h'}->Q () {s' with heap:=h'}) :
 wpAny M A (setFlight (.ref e) none) Q E s':=by
 obtain⟨T,a0,fl,back⟩:=fly_base I F
 exact lands_againW fl fun h2 fl2 up2=>q h2 (back h2 fl2 up2)
end
section
variable {M:Model}{A:Around}{E:Value->Shared->Prop}{h:Heap}{g:Array GenState}{d:Drawn}{t:Nat}{os:OsState}{e C C0:Addr}{oe:Obj}{Q:Bool->Shared->Prop}
variable {nm q:Str}{N:Addr}{bs bm:List Value}{hdct:Bool}{sn:List Str}{sub:List Value}{ab:Bool}{col:Option Bool}{dd:Option Addr}{k0 k1 k2 k3 k5:Option Value}{ni:String}
variable {nm' q':Str}{N':Addr}{bs' bm':List Value}{hdct':Bool}{sn':List Str}{sub':List Value}{ab':Bool}{col':Option Bool}{dd':Option Addr}{k0' k1' k2' k3' k5':Option Value}{ni':String}
theorem match_own (hC:h.get? C=some (excClassObj nm q C N bs bm hdct sn sub ab col dd k0 k1 k2 k3 k5 ni))(h0:h.get? C0=some (excClassObj nm' q' C0 N' bs' bm' hdct' sn' sub' ab' col' dd' k0' k1' k2' k3' k5' ni'))(hb:bm'.contains (.type "BaseException")=true)(he:h.get? e=some oe)(hcls:oe.cls=.ref C)(hin:(Value.ref C::bm).contains (.ref C0)=true)(hq:Q true ⟨h,g,d,t,os⟩) :
 wpAny M A (excMatches (.ref e) (.ref C0)) Q E ⟨h,g,d,t,os⟩:=by
 have hB:(Value.ref C0::bm').contains (.type "BaseException")=true:=by rw[List.contains_cons,hb,Bool.or_true]
 have f:=tc_notTuple
 obtain⟨c,dc,dt,sl⟩:=oe
 simp only at hcls
 subst hcls
 have s0:∀{Q:Bool->Shared->Prop} {E:Value->Shared->Prop},Q true ⟨h,g,d,t,os⟩->wpAny M A (isSubtype (.ref C0) (.type "BaseException")) Q E ⟨h,g,d,t,os⟩:=fun z=>wpAny_isSubtype_exc h0 (by rw[hB];exact z)
 have s1:∀{Q:Bool->Shared->Prop} {E:Value->Shared->Prop},Q true ⟨h,g,d,t,os⟩->wpAny M A (isSubtype (.ref C) (.ref C0)) Q E ⟨h,g,d,t,os⟩:=fun z=>wpAny_isSubtype_exc hC (by rw[hin];exact z)
 wp_walk using s0,s1
 exact hq
end
section
variable {prog:Program}{w:World}{A:Around}{E:Value->Shared->Prop}{K:W.Frag}{h:Heap}{g:Array GenState}{d:Drawn}{t:Nat}{os:OsState}{e C:Addr}{dc:Option Addr}{vs:Array Value}{sl:Array (Option Value)}
theorem exc_class {Q:Option Value->Shared->Prop}(X:K.In h)(he:h.get? e=some ⟨.ref C,dc,.fields vs,sl⟩)(l1:X7 K (.ref C) "__getattribute__" = some (some (.builtin "BaseException.__getattribute__")))(l2:X7 K (.ref C) "__class__" = some (some (.builtin "object.__class__")))(l3:X7 K (.ref C) "__getattr__" = some none)(l4:subIn K (.ref C) (.type "BaseException")=some true)(l5:subIn K (.ref C) (.type "object")=some true)(q:Q (some (.ref C)) ⟨h,g,d,t+1,os⟩):wpAny (model prog w) A (getAttr? (.ref e) "__class__") Q E ⟨h,g,d,t,os⟩:=by
 have L1:∀{A} {Q:Option Value->Shared->Prop} {E:Value->Shared->Prop} {t},Q (some (.builtin "BaseException.__getattribute__")) ⟨h,g,d,t,os⟩->wpAny (model prog w) A (typeLookup (.ref C) "__getattribute__") Q E ⟨h,g,d,t,os⟩:=fun z=>(looks_findIn X l1).at z
 have L2:∀{A} {Q:Option Value->Shared->Prop} {E:Value->Shared->Prop} {t},Q (some (.builtin "object.__class__")) ⟨h,g,d,t,os⟩->wpAny (model prog w) A (typeLookup (Obj.mk (.ref C) dc (.fields vs) sl).cls "__class__") Q E ⟨h,g,d,t,os⟩:=fun z=>(looks_findIn X l2).at z
 have L3:∀{A} {Q:Option Value->Shared->Prop} {E:Value->Shared->Prop} {t},Q none ⟨h,g,d,t,os⟩->wpAny (model prog w) A (typeLookup (Obj.mk (.ref C) dc (.fields vs) sl).cls "__getattr__") Q E ⟨h,g,d,t,os⟩:=fun z=>(looks_findIn X l3).at z
 have bnd:=F.attr_ValueError.ga.bind (.ref e)
 have L4:∀{A} {Q:Bool->Shared->Prop} {E:Value->Shared->Prop} {t},Q true ⟨h,g,d,t,os⟩->wpAny (model prog w) A (isSubtype (Obj.mk (.ref C) dc (.fields vs) sl).cls (.type "BaseException")) Q E ⟨h,g,d,t,os⟩:=fun z=>(looks_subIn X l4).at z
 wp_walk using L1,L3
 refine codeAny_call_builtin F.attr_ValueError.ga.plain F.entry_bexc_ga ?_
 have ar:=F.args_bexc_ga (.ref e) (.str (oS "__class__") t)
 unfold checkBuiltinCall
 rw[show builtinKind "BaseException.__getattribute__" = some .slot by decide +kernel,show splitId "BaseException.__getattribute__" = some ("BaseException","__getattribute__") by decide +kernel]
 have f5:=F.typeOf_object_class
 have f6:=F.slot_gs_get.lookup
 have f7:=F.slot_gs_set.lookup
 have f8:=F.owner_object_class
 have L5:∀{A} {Q:Bool->Shared->Prop} {E:Value->Shared->Prop} {t},Q true ⟨h,g,d,t,os⟩->wpAny (model prog w) A (isSubtype (Obj.mk (.ref C) dc (.fields vs) sl).cls (.type (".".intercalate ("object.__class__".cutAt '.').dropLast))) Q E ⟨h,g,d,t,os⟩:=fun z=>by
  rw[f8];exact(looks_subIn X l5).at z
 wp_walk using L4,L2
 refine codeAny_call_builtin F.slot_gs_get.plain F.entry_gs_get ?_
 refine F.slot_gs_get.check _ _ _ _ _ _ _ _ f5 (F.args_gs_get _ _ _) ?_
 wp_walk using L5
 refine⟨Code.quiet_builtin _ (by decide +kernel),?_⟩
 refine codeAny_builtin F.entry_object_class ?_
 wp_walk
 exact q
end
structure Vx (K:W.Frag)(C:Addr)(bm:List Value):Prop extends Exc K C bm where
 l1:X7 K (.ref C) "__getattribute__" = some (some (.builtin "BaseException.__getattribute__"))
 l2:X7 K (.ref C) "__class__" = some (some (.builtin "object.__class__"))
 l3:X7 K (.ref C) "__getattr__" = some none
 l4:subIn K (.ref C) (.type "BaseException")=some true
 l5:subIn K (.ref C) (.type "object")=some true
def IsExc (e C:Addr)(h:Heap):Prop:=∃dc vs sl,h.get? e=some ⟨.ref C,dc,.fields vs,sl⟩
abbrev Xe (e C:Addr):HO:=.ext (IsExc e C)
theorem excO_ok {P:Program}{w:World}{H:Hp}{h:Heap}{e C:Addr}(x:IsExc e C h):YG P w H h e (Xe e C):=by
 refine⟨x,?_,fun h1 h2 ⟨dc,vs,sl,z⟩ k=>⟨dc,vs,sl,k _ z⟩⟩
 obtain⟨dc,vs,sl,z⟩:=x
 exact⟨_,z⟩
theorem kitx_exc {K:W.Frag}{e C:Addr}{bm:List Value}(F:Vx K C bm):PySem.W.KitX K (.ref e) (.ref C) (IsExc e C):=by
 obtain⟨⟨⟨nm,q,N,bs,hdct,sn,sub,ab,col,dd,k0,k1,k2,k3,k5,lk,_,_⟩,_,_,_⟩,l1,l2,l3,l4,l5⟩:=F
 refine⟨fun M h X ⟨dc,vs,sl,z⟩ A Q E s k hq=>?_,fun M h X _ A Q E s k hq=>?_,fun h tp dd' its n sl X htp=>?_,fun{prog w A E Q s} X ⟨dc,vs,sl,z⟩ hq=>?_⟩
 ·obtain⟨hp,g,d,t,os⟩:=s
  have z':=k _ _ z
  wp_walk
  exact hq
 ·obtain⟨hp,g,d,t,os⟩:=s
  have z':=k _ _ (X _ _ lk)
  wp_walk
  exact hq
 ·refine YJ.mpr fun w=>?_
  have e:C=tp:=Value.ref.inj (beq_iff_eq.mp w)
  subst e
  have z:=congrArg Obj.cls (Option.some.inj ((X _ _ lk).symm.trans htp))
  exact absurd (show Value.type "type" = Value.type "tuple" from z) (by decide)
 ·obtain⟨hp,g,d,t,os⟩:=s
  exact exc_class X z l1 l2 l3 l4 l5 hq
section
variable {X:Cx}
theorem W6:XC X (.builtin "isinstance") (fun xs H Q=>∃e C bm y b,xs=[.ref e,y]/\H e=some (Xe e C)/\Vx X.K C bm/\((∃C0,y=.ref C0/\YK X.K (.ref C) (.ref C0)=some b)\/∃T,y=.ty T/\YK X.K (.ref C) (.type T)=some b)/\Q (.bl b) H):=by
 intro pins s σ H xs us Q I r h
 obtain⟨e,C,bm,y,b,rfl,he,F,hy,q⟩:=h
 obtain⟨u,c,rfl,rx,rc⟩:=UN r
 cases(show u=Value.ref e from rx)
 have ie:IsExc e C s.heap:=(show YG X.prog X.w H s.heap e (Xe e C) from I.hok e _ he).1
 rcases hy with⟨C0,rfl,k⟩ | ⟨T,rfl,k⟩
 ·cases(show c=Value.ref C0 from rc)
  exact Wu (kitx_exc F) I.kIn ie k (fun z=>nomatch z) fun tk=>⟨.bl b,H,I.tok tk,rfl,q⟩
 ·cases(show c=Value.type T from rc)
  exact Wu (kitx_exc F) I.kIn ie k (fun z=>nomatch z) fun tk=>⟨.bl b,H,I.tok tk,rfl,q⟩
end
theorem ns_one {h:Heap}{a:Addr}{m m2:Str->Option Value}{x:Str}(p:h.Ns a m)(q:h.Ns a m2):m x=m2 x:=by
 obtain⟨o,es,ep,ho,hd,_,hf⟩:=p
 obtain⟨o',es',ep',ho',hd',_,hf'⟩:=q
 rw[ho]at ho';cases ho'
 rw[hd]at hd';cases hd'
 rw[<-hf,<-hf']
abbrev Cx.held (X:Cx)(A:Around)(E:Value->Shared->Prop):Cx:={X with A:=A,calm:=false,xe:=E}
section
variable {X:Cx}{pins:List (Addr×Obj)}{σ:St}{H H':Hp}{s s':Shared}{e C:Addr}{cls:Value}{A:Around}{E:Value->Shared->Prop}
theorem Zq.held (I:Zq X pins σ H s)(hA:A.frames=some X.stack):Zq (X.held A E) pins σ H s:=
 ⟨⟨I.ok.mod,I.ok.kind,I.ok.glob,I.ok.blt,I.ok.above,I.ok.inj,I.ok.has,I.ok.cab,fun z=>absurd z Bool.false_ne_true,hA,I.ok.stk,I.ok.exf,I.ok.bs,I.ok.bsz,I.ok.noex,I.ok.exfs,I.ok.funs,I.ok.frf⟩,
   I.os,I.bare,I.base,I.loc,I.cell,I.free,I.freeC,I.pin,I.hok,I.len⟩
theorem Zq.unheld (I:Zq (X.held A E) pins σ H s)(ok:X.Ok):Zq X pins σ H s:=⟨ok,I.os,I.bare,I.base,I.loc,I.cell,I.free,I.freeC,I.pin,I.hok,I.len⟩
theorem Zq.caught (O:Own X)(I:Zq X pins σ H s)(F:Fly X.prog X.w X.stack H s H' e (.ref C) s'):Zq X pins σ (upd H' e (Xe e C)) s':=by
 have J:=I.flown F
 obtain⟨T,⟨oe,vs,oT,ts,a0,he,hc,h0,hd,h1,ne,hT,hdT,h3⟩,nT,fT⟩:=F.tr
 obtain⟨c,dc,dt,sl⟩:=oe
 simp only at hc hd
 subst hc hd
 have live:∀b o,s.heap.get? b=some o->b≠e:=fun b o z q=>by rw[q,F.new]at z;cases z
 have old:∀b o,X.s₀.heap.get? b=some o->b≠e:=fun b o z=>by
  obtain⟨o',z'⟩:=I.base.there b o z (by rw[O.ex];simp)
  exact live b o' z'
 have trk:∀b o,H' b=some o->b≠e:=fun b o z q=>by rw[q,F.free]at z;cases z
 refine⟨J.ok,J.os,J.bare,⟨J.base.keep,J.base.slot,fun b o z n hx=>?_,J.base.there,fun b xs z=>?_,fun b o u z=>?_,fun b ps z=>?_⟩,J.loc,J.cell,?_,fun x c z=>?_,fun p hp=>?_,fun b u z=>?_,J.len⟩
 ·rw[ZS (old b o z)];exact J.base.free b o z n hx
 ·have q:=J.base.tups b xs z
  rw[ZS (trk b _ q)];exact q
 ·have q:=J.base.frzs b o u z
  rw[ZS (trk b _ q)];exact q
 ·obtain⟨more,q⟩:=J.base.tbls b ps z
  exact⟨more,by rw[ZS (trk b _ q)];exact q⟩
 ·obtain⟨m,⟨o,_,_,ho,_⟩,_⟩:=I.loc
  rw[ZS (live _ o ho)];exact J.free
 ·obtain⟨v,o,ho,_⟩:=I.cell x c z
  rw[ZS (live _ o ho)];exact J.freeC x c z
 ·obtain⟨z,n,r⟩:=J.pin p hp
  obtain⟨z1,_⟩:=I.pin p hp
  exact⟨z,by rw[ZS (live _ _ z1)];exact n,r⟩
 ·by_cases q:b=e
  ·subst q
   rw[Z5]at z
   cases z
   exact excO_ok ⟨_,_,_,he⟩
  ·rw[ZS q]at z
   refine(J.hok b u z).stay (fun _ _ _ z=>z) (fun c z=>?_) fun c xs z=>?_
   ·rw[ZS (trk c _ z)];exact z
   ·rw[ZS (trk c _ z)];exact z
theorem Zq.gone {k:Nat}{n:Str}{h':Heap}{m:Str->Option Value}{v:Option Value}{t':Nat}(I:Zq X pins σ H s)(nd:X.N.Nodup)(hk:X.N[k]?=some n)(hm:s.heap.Ns X.env.locals m)(hn:h'.Ns X.env.locals fun y=>if y=n then v else m y)(sb:Heap.SameBut X.env.locals s.heap h'):Zq X pins (σ.set k none) H {s with heap:=h',toks:=t'}:=by
 have kp:∀b o,b≠X.env.locals->s.heap.get? b=some o->h'.get? b=some o:=fun b o hb z=>sb.extBut b o hb z
 have old:∀b o,X.s₀.heap.get? b=some o->b≠X.env.locals:=fun b o z=>Zs (Nat.lt_of_lt_of_le (ZA z) I.ok.above)
 have trk:∀b u,H b=some u->b≠X.env.locals:=fun b u z q=>by rw[q,I.free]at z;cases z
 have there:∀b o,s.heap.get? b=some o->∃o',h'.get? b=some o':=fun b o z=>by
  by_cases q:b=X.env.locals
  ·obtain⟨o',_,_,ho',_⟩:=hn
   exact⟨o',q▸ho'⟩
  ·exact⟨o,kp b o q z⟩
 refine⟨I.ok,I.os,I.bare,⟨fun b o z n hb hx=>kp b o (old b o z) (I.base.keep b o z n hb hx),fun b o z n hb hx=>?_,I.base.free,fun b o z hx=>?_,I.base.tups,I.base.frzs,I.base.tbls⟩,⟨_,hn,fun i x v' h1 h2 h3=>?_⟩,fun x c z=>?_,I.free,I.freeC,fun p hp=>?_,fun b u z=>?_,?_⟩
 ·obtain⟨sl,e1⟩:=I.base.slot b o z n hb hx
  exact⟨sl,kp b _ (old b o z) e1⟩
 ·obtain⟨o',e1⟩:=I.base.there b o z hx
  exact there b o' e1
 ·have ik:i≠k:=fun q=>by
   rw[q,List.getElem?_set_self']at h2
   cases z:σ[k]? with
   |none=>rw[z]at h2;cases h2
   |some _=>rw[z]at h2;cases h2
  rw[List.getElem?_set_ne (Ne.symm ik)]at h2
  have xn:x≠n:=fun q=>ik (nodup_ix nd (q▸h1) hk)
  obtain⟨m2,hm2,hl⟩:=I.loc
  obtain⟨u,ru,lk⟩:=hl i x v' h1 h2 h3
  refine⟨u,ru,?_⟩
  rcases lk with⟨a,b⟩ | ⟨a,c,b,o,ho,hd⟩
  ·refine .inl ⟨a,?_⟩
   show(if x=n then v else m x)=some u
   rw[if_neg xn,ns_one hm hm2]
   exact b
  ·exact .inr ⟨a,c,b,o,kp c o (I.cne x c b) ho,hd⟩
 ·obtain⟨v,o,ho,hd⟩:=I.cell x c z
  exact⟨v,o,kp c o (I.cne x c z) ho,hd⟩
 ·obtain⟨z,n,ne,r⟩:=I.pin p hp
  exact⟨kp _ _ ne z,n,ne,r⟩
 ·refine(I.hok b u z).stay (fun c w hc q=>kp c w ?_ q) (fun _ q=>q) fun _ _ q=>q
  rcases hc with q | q
  ·exact q▸trk b u z
  ·exact trk c _ q
 ·rw[List.length_set];exact I.len
end
abbrev TB:=St->Hp->(Hp->Prop)->XK->Prop
def PB (X:Cx)(body:List Stmt)(tb:TB):Prop:=∀(pins:List (Addr×Obj)) (s:Shared) (σ:St) (H:Hp) (Q:Hp->Prop) (E:XK),Zq X pins σ H s->tb σ H Q E->
 wpAny (model X.prog X.w) X.A (execs body X.env) (fun f s1=>f=.next/\∃H1,Zq X pins σ H1 s1/\Q H1) (fun v s1=>CXF X.prog X.w X.stack H s E v s1) s
def tTry (K:W.Frag)(C0:Addr)(k:Nat)(tb:TB)(ts:TS):TS:=fun D σ H=>tb σ H (fun H1=>D.nx σ H1) fun c ea H1=>∃C bm e,c=.ref C/\ea=some e/\Vx K C bm/\(Value.ref C::bm).contains (.ref C0)=true/\
 ts {nx:=fun σ' H'=>D.nx (σ'.set k none) H',rt:=fun _ _=>False} (σ.set k (some (.ref e))) (upd H1 e (Xe e C))
section
variable {X:Cx}{body suite:List Stmt}{b₀:Stmt}{tb:TB}{ts:TS}{x n:Str}{np hp pos:Pos}{C0:Addr}{bm0:List Value}{k:Nat}
theorem ps_try (O:Own X)(nd:X.N.Nodup)(hk:X.N[k]?=some n)(hkl:X.env.scope.names.lookup n=some .local)(hg:Gl X x)(hm:X.mg x=some (.ref C0))(e0:Exc X.K C0 bm0)(hb:PB X body tb)(hs:∀A E,PSs (X.held A E) (b₀::suite) ts)(hd:(x==("__debug__" : Str))=false:=by decide) :
 PS X (.Try body [.ExceptHandler (some (.Name x np)) (some n) (b₀::suite) hp] [] [] pos) (tTry X.K C0 k tb ts):=by
 intro pins s σ H D I h
 refine wpAny_Try_except (wpAny_mono (hb pins s σ H _ _ I h) (fun f s1 ⟨ef,H1,I1,q1⟩=>?_) fun v s1 hv=>?_)
 ·subst ef
  exact wpAny_pure ⟨σ,H1,I1,q1⟩
 ·obtain⟨e,cls,H1,rfl,F,C,bm,e',rfl,ee,ex,hin,q⟩:=hv
  cases ee
  refine fly_seen O I F I.ok.frames fun h1 F1=>?_
  have hA:(X.A.mark (some (.ref e))).frames=some X.stack:=I.ok.frames
  have J1:=I.flown F1
  refine wpAny_handleBy_cons (codeAny_handlers_test (Calls.Name_function_global I.ok.kind hg (Calls.loadGlobal_global (by rw[I.ok.glob];exact J1.mod.glob.keeps J1.bk) hm ?_) hd)) (by intro z;cases z)
  obtain⟨⟨nm,q',N,bs,hdct,sn,sub,ab,col,dd,k0,k1,k2,k3,k5,lk,_,_⟩,_,_,_⟩:=ex.toExc
  obtain⟨⟨nm',q'',N',bs',hdct',sn',sub',ab',col',dd',k0',k1',k2',k3',k5',lk',_,_⟩,_,bb',_⟩:=e0
  obtain⟨T,⟨oe,vs,oT,tts,a0,he,hcl,_⟩,_,_⟩:=F1.tr
  refine match_own (J1.kIn _ _ lk) (J1.kIn _ _ lk') bb' he hcl hin ?_
  refine codeAny_handlers_suite_as (fly_land I F1 fun h2 F2=>?_)
  have J2:=I.caught O F2
  refine Tm J2 nd hk (.inl hkl) (v:=.ref e) rfl (fun s3 I3 _=>?_) (.inr hkl)
  refine wpAny_mono (hs (X.A.mark (some (.ref e))) (fun _ _=>False) pins s3 _ _ _ (I3.held hA) q) (fun f s4 h4=>?_) fun _ _ z=>False.elim z
  cases f with
  |next=>
   obtain⟨σ',H4,I4,q4⟩:=h4
   have I5:=I4.unheld I.ok
   obtain⟨m,hm4,_⟩:=id I5.loc
   exact wpAny_nameGoes_keeps hkl hm4 (by rw[I.ok.kind];rfl) fun h' v hn sb=>⟨_,_,I5.gone nd hk hm4 hn sb,q4⟩
  |brk=>exact(let⟨_,_,_,z⟩:=h4;False.elim z)
  |cont=>exact(let⟨_,_,_,z⟩:=h4;False.elim z)
  |ret u=>exact(let⟨_,_,_,_,_,z⟩:=h4;False.elim z)
end
def Fz (a:Addr)(o:Obj):HO:=.frz o (.ext fun h=>h.get? a=some o)
theorem fz_ok {P:Program}{w:World}{H:Hp}{h:Heap}{a:Addr}{o:Obj}(e:h.get? a=some o):YG P w H h a (Fz a o):=⟨e,e,⟨_,e⟩,fun _ _ q k=>k _ q⟩
theorem fz_get {P:Program}{w:World}{H:Hp}{h:Heap}{a:Addr}{o:Obj}(x:VC P w H h)(e:H a=some (Fz a o)):h.get? a=some o:=(x a _ e).1
def Runs (P:Program)(w:World)(K:W.Frag)(mg:Str->Option Value)(base:Heap)(k:Nat)(f:Addr)(H:Hp)(Q:VK)(E:XK):Prop:=
 ∀(A:Around) (outer:List Env) (s:Shared),Xv k A->Env0 P w K mg base A outer s H->codeAny (model P w) A (.call (.ref f) ⟨[],[]⟩) (CR (CXF P w) outer P w H s Q E) s
def tbCall (X:Cx)(k i:Nat):TB:=fun σ H Q E=>∃f o fd,σ[i]?=some (some (.ref f))/\H f=some (Fz f o)/\o.data=.func fd/\Runs X.prog X.w X.K X.mg X.base k f H (fun _ H1=>Q H1) E
theorem keeps_F {M:Model}{f:Addr}{o:Obj}{fd:FuncData}(hd:o.data=.func fd)(h:Heap)(e:h.get? f=some o):∃k,(k=Keeper.frame\/k=Keeper.machine\/k=Keeper.boundFrame)/\Looks M h (keeperOf (.ref f)) k:=by
 obtain⟨c,dc,dt,sl⟩:=o
 simp only at hd
 subst hd
 exact⟨.frame,.inl rfl,(Looks.ld (part:=none) e).andThen .now⟩
theorem pb_call {X:Cx}{k i:Nat}{x:Str}{p cpos pos:Pos}(hr:Xv k X.A)(hN:X.N[i]?=some x)(hv:X.env.scope.names.lookup x=some .local)(hd:(x==("__debug__" : Str))=false:=by decide)(hs:swapsWith (.Call (.Name x p) [] [] cpos) none pos.line X.env=pure false:=by rfl):PB X [.Expr (.Call (.Name x p) [] [] cpos) pos] (tbCall X k i):=by
 intro pins s σ H Q E I h
 obtain⟨f,o,fd,e1,e2,e3,run⟩:=h
 obtain⟨m,hn,hl⟩:=id I.loc
 obtain⟨u,r,l⟩:=hl i x _ hN e1 (.inl hv)
 obtain rfl:u=.ref f:=r
 have hm:m x=some (.ref f):=by
  rcases l with⟨_,z⟩ | ⟨z,_⟩
  ·exact z
  ·have z:X.env.scope.names.lookup x=some .cell\/X.env.scope.names.lookup x=some .free:=z
   rw[hv]at z
   rcases z with z | z<;>cases z
 refine wpAny_execs_cons (wpAny_Expr_any (wpAny_Call_Name_kw (wpAny_Name (wpAny_loadName_local I.ok.kind hv hn hm ?_) hd)) I.quiet hs)
 refine callWith_of (P:=fun h=>h.get? f=some o) rfl (keeps_F e3) (evalArgs_nil3 ⟨fz_get I.hok e2,?_⟩)
 refine wpAny_call (codeAny_mono (run X.A X.stack s hr I.env0) fun rs s' hq=>?_)
 cases rs with
 |error e=>exact hq
 |ok fl=>
  cases fl with
  |ret u=>
   obtain⟨v,H1,I1,_,q⟩:=I.after hq
   exact wpAny_execs_nil ⟨rfl,H1,I1,q⟩
  |next=>exact False.elim hq
  |brk=>exact False.elim hq
  |cont=>exact False.elim hq
def Su (P:Program)(w:World)(K:W.Frag)(mg:Str->Option Value)(base:Heap)(N:List Str)(qual:Str)(scope:Scope)(cl:List (Str×Addr))(f:Addr)(cd:Value)(A:Around)(outer:List Env)(s:Shared)(H:Hp)(E:XK):Cx where
 prog:=P
 w:=w
 K:=K
 mg:=mg
 base:=base
 A:=A.deeper (PySem.W.envX qual scope s.heap.objs.size f cd cl)
 N:=N
 s₀:=s
 H₀:=H
 env:=PySem.W.envX qual scope s.heap.objs.size f cd cl
 outer:=outer
 stack:=PySem.W.envX qual scope s.heap.objs.size f cd cl::outer
 ex:=[]
 calm:=true
 fn:=fun _=>false
 pn:=[]
 xe:=fun e s'=>wpAny (model P w) (A.deeper (PySem.W.envX qual scope s.heap.objs.size f cd cl)) (leaving (PySem.W.envX qual scope s.heap.objs.size f cd cl) e) (fun _ s''=>CXF P w outer H s E e s'') (fun e' s''=>CXF P w outer H s E e' s'') s'
structure Cap (base:Heap)(scope:Scope)(cl:List (Str×Addr))(N:List Str)(σ:St):Prop where
 inj:∀x y c,cl.lookup x=some c->cl.lookup y=some c->x=y
 has:∀x,scope.names.lookup x=some .free->∃c,cl.lookup x=some c
 cell:∀x c,cl.lookup x=some c->∃v,base.IsCell c v
 val:∀(i:Nat) (x:Str) (v:V),N[i]?=some x->σ[i]?=some (some v)->scope.names.lookup x=some .free/\∃u c,Zb v u/\cl.lookup x=some c/\base.IsCell c (some u)
 len:σ.length=N.length
structure LamS (scope:Scope):Prop where
 kind:scope.kind=.function
 co:scope.isCoroutine=false
 gen:scope.isGenerator=false
 nocell:∀y∈scope.names,y.2≠.cell
section
variable {P:Program}{w:World}{K:W.Frag}{mg:Str->Option Value}{base:Heap}{N:List Str}{qual:Str}{scope:Scope}{cl:List (Str×Addr)}{f:Addr}{cd:Value}{A:Around}{outer:List Env}{s:Shared}{H:Hp}{E:XK}{σ:St}
theorem own_lam:Own (Su P w K mg base N qual scope cl f cd A outer s H E):=⟨rfl,rfl,rfl⟩
theorem lvs_lam:Lvs (Su P w K mg base N qual scope cl f cd A outer s H E) E:=⟨own_lam,fun _ _ h=>h⟩
theorem lam_start {h1:Heap}{tk:Nat}(S:LamS scope)(C:Cap base scope cl N σ)(hd:A.handled=none)(e0:Env0 P w K mg base A outer s H)(kp:∀b o,s.heap.get? b=some o->h1.get? b=some o)(hn:h1.Ns s.heap.objs.size fun _=>none) :
 Zq (Su P w K mg base N qual scope cl f cd A outer s H E) [] σ H {s with heap:=h1,toks:=tk}:=by
 have noA:∀b:Addr,b∉(Su P w K mg base N qual scope cl f cd A outer s H E).ex:=fun b z=>absurd (show b∈([]:List Addr) from z) (by simp)
 have bc:∀{c:Addr} {v:Option Value},base.IsCell c v->h1.IsCell c v/\H c=none:=fun{c v} ⟨o,ho,hd⟩=>⟨⟨o,kp _ _ (e0.bs c o ho).1,hd⟩,(e0.bs c o ho).2⟩
 refine⟨⟨e0.mod,S.kind,rfl,rfl,Nat.le_refl _,C.inj,fun y hy=>?_,fun y c z _=>absurd z Bool.false_ne_true,fun _=>hd,Around.frames_deeper e0.frames,.inr ⟨rfl,rfl⟩,fun b z=>absurd z (noA b),e0.bs,e0.bsz,fun b _ _=>noA b,fun b z=>absurd z (noA b),e0.funs,e0.frf⟩,
  rfl,e0.bare,Un.kept kp,⟨_,hn,fun i y v h1 h2 h3=>?_⟩,fun y c h=>?_,e0.hok.fresh (Nat.le_refl _),fun y c h=>?_,fun p hp=>absurd (show p∈([]:List (Addr×Obj)) from hp) (by simp),e0.hok.kept kp,C.len⟩
 ·have hy:scope.names.lookup y=some .cell\/scope.names.lookup y=some .free:=hy
  rcases hy with hy | hy
  ·exact absurd rfl (S.nocell _ (PySem.mem_of_lookup hy))
  ·exact C.has y hy
 ·obtain⟨fr,u,c,rv,hc,hcell⟩:=C.val i y v h1 h2
  exact⟨u,rv,.inr ⟨.inr fr,c,hc,(bc hcell).1⟩⟩
 ·obtain⟨v,hv⟩:=C.cell y c h
  exact⟨v,(bc hv).1⟩
 ·obtain⟨v,hv⟩:=C.cell y c h
  exact(bc hv).2
theorem runs_lam {k:Nat}{name:Str}{params:Arguments}{body:Expr}{pm ctv:Value}{c':Addr}{oc:Obj}{vs:Array Value}{t:Nat}{te:TE}{Q:VK}(hf:H f=some (Fz f (kla_obj name qual params body scope cl pm c' ctv)))(hc:H c'=some (Fz c' oc))(hv:oc.data=.fields vs)(hq:vs[1]?=some (.str qual t))(S:LamS scope)(C:Cap base scope cl N σ)(hb:bindArgs (kla_fn name qual params body scope cl pm (.ref c') ctv) ⟨[],[]⟩=pure [])(hbody:∀A outer s,Xv k (A.deeper (PySem.W.envX qual scope s.heap.objs.size f (.ref c') cl))->PE (Su P w K mg base N qual scope cl f (.ref c') A outer s H E) body te)(q:te σ H Q):Runs P w K mg base (k+1) f H Q E:=by
 intro A outer s hr e0
 refine PySem.W.kla_callFunE hr.depth (fz_get e0.hok hf) rfl S.co S.gen rfl ⟨c',oc,vs,t,rfl,fz_get e0.hok hc,hv,hq⟩ ?_
 rw[hb]
 refine wpAny_pure (wpAny_newFunctionEnv S.nocell (by intro y hy;simp at hy) (fun h1 hns hsb=>?_) S.kind)
 have kp:∀b o,s.heap.get? b=some o->h1.get? b=some o:=fun b o e=>hsb.extBut b o (Zs (ZA e)) (Z8 _ e)
 refine⟨(e0.mod.nolimit.keeps fun b o e=>(e0.bs b o e).1).keeps kp,?_⟩
 show codeAny _ _ (.expr body (PySem.W.envX qual scope s.heap.objs.size f (.ref c') cl)) _ _
 have I:=lam_start (P:=P) (w:=w) (K:=K) (mg:=mg) (N:=N) (qual:=qual) (f:=f) (cd:=.ref c') (E:=E) (tk:=s.toks+([]:List (Str×Value)).length) S C hr.hd e0 kp hns
 refine PySem.W.kla_codeExpr (wpAny_mono (hbody A outer s (hr.deeper _) [] _ σ H Q I q) (fun v s' ⟨x,H1,I1,r,q1⟩=>?_) fun e s' hs=>hs)
 exact⟨x,H1,I1.os,I1.bare,I1.base,I1.hok,r,q1⟩
end
theorem UE:∀l:List (Pos×Addr),TriplesOk (triples l)
 |[]=>trivial
 |(_,_)::r=>UE r
theorem among_some {pos:Pos}:∀{l:List (Pos×Addr)} {cv:Value},codeAmong pos (triples l)=some cv->∃x∈l,cv=.ref x.2
 |[],_,h=>by cases h
 |(p,c)::r,cv,h=>by
  simp only[triples,rawInt,codeAmong]at h
  split at h
  ·cases h
   exact⟨_,ZW,rfl⟩
  ·obtain⟨x,hx,e⟩:=among_some h
   exact⟨x,ZT _ hx,e⟩
def Wv (q:Str)(H:Hp)(T:Addr):Prop:=∃l:List (Pos×Addr),H T=some (.tbl (triples l).toArray)/\∀x∈l,∃oc vs t,H x.2=some (Fz x.2 oc)/\oc.data=.fields vs/\vs[1]?=some (.str q t)
theorem Wv.same {q:Str}{H H':Hp}{T:Addr}(x:Wv q H T)(s:ZR H H'):Wv q H' T:=
 let⟨l,e,h⟩:=x
 ⟨l,s _ _ e,fun y hy=>let⟨oc,vs,t,a,b⟩:=h y hy;⟨oc,vs,t,s _ _ a,b⟩⟩
theorem Wv.empty {q:Str}{H:Hp}{T:Addr}(e:H T=some (.tbl #[])):Wv q H T:=⟨[],e,fun _ h=>nomatch h⟩
abbrev lamQ (X:Cx):Str:=X.env.qual++"<lambda>"
structure LamAt (X:Cx)(T:Addr)(params:Arguments)(body:Expr)(scope:Scope)(H:Hp)(f:Addr)(H':Hp):Prop where
 new:H f=none
 grow:∀b u,b≠T->H b=some u->H' b=some u
 tab:Wv (lamQ X) H' T
 ob:∃cl pm c' ctv oc vs t,H' f=some (Fz f (kla_obj "<lambda>" (lamQ X) params body scope cl pm c' ctv))/\H' c'=some (Fz c' oc)/\oc.data=.fields vs/\vs[1]?=some (.str (lamQ X) t)/\
  (∀x c,cl.lookup x=some c->X.env.cells.lookup x=some c)/\∀x,(x,NameKind.free)∈scope.names->∃c,cl.lookup x=some c
def tLam (X:Cx)(T:Addr)(params:Arguments)(body:Expr)(scope:Scope):TE:=fun σ H Q=>Wv (lamQ X) H T/\∀f H',LamAt X T params body scope H f H'->Q (.ref f) H'
def VO (mg:Str->Option Value)(base:Heap):Prop:=∃bm o,mg "__builtins__" = some (.ref bm)/\bm≠builtinsNs/\bm≠mainGlobals/\base.get? bm=some o/\o.cls=.type "module"/\o.dict=some builtinsNs/\o.data=.plain
section
variable {X:Cx}{T c:Addr}{params:Arguments}{body:Expr}{scope:Scope}{pos:Pos}
theorem pe_lam (hcode:X.env.code=.ref c)(C:CodeHd X.base c T)(B:VO X.mg X.base)(hcap:∀y∈scope.names,y.2=.free->X.env.scope.names.lookup y.1=some .cell\/X.env.scope.names.lookup y.1=some .free)(hdef:defaultsOf params X.env=([],[]):=by rfl):PE X (.Lambda params body scope pos) (tLam X T params body scope):=by
 intro pins s σ H Q I ⟨⟨l,hT,hl⟩,h⟩
 obtain⟨cl,hcl,c1,c2⟩:=Tt (env:=X.env) (scope:=scope) fun y hy hk=>I.ok.has y.1 (hcap y hy hk)
 obtain⟨bm,ob,b1,b2,b3,b4,b5⟩:=B
 have notT:∀{b:Addr} {o:Obj},X.base.get? b=some o->b≠T:=fun{b o} e z=>by
  have:=(I.bs b o e).2
  rw[z,hT]at this;cases this
 have hgT:mainGlobals≠T:=by
  obtain⟨o,_,_,ho,_⟩:=I.ok.mod.glob
  exact notT ho
 have bl:s.heap.BuiltinsAt X.mg T:=⟨bm,ob,b1,b2,b3,notT b4,I.bk _ _ b4,b5⟩
 have hP:s.heap.get? T=some (tabObj (triples l).toArray):=I.hok T _ hT
 have glob:=I.ok.mod.glob.keeps I.bk
 refine PySem.W.kla_eval hdef ?_
 cases am:codeAmong pos (triples l) with
 |some cv=>
  obtain⟨x,hx,rfl⟩:=among_some am
  obtain⟨oc,vs,t,o1,o2,o3⟩:=hl x hx
  refine PySem.W.kla_makeFunctionHit hcl I.ok.glob glob hcode (C.keeps I.bk) hP (by simpa using UE l) (by simpa using am) bl fun ctv h' tk kp hs=>?_
  have fresh:H h'.objs.size=none:=I.hok.fresh hs
  have J:=I.laid (h':=h'.push (kla_obj "<lambda>" (lamQ X) params body scope cl ((X.mg "__name__").getD .none) x.2 ctv)) (t':=tk) (a:=h'.objs.size) (o:=Fz h'.objs.size (kla_obj "<lambda>" (lamQ X) params body scope cl ((X.mg "__name__").getD .none) x.2 ctv))
   (fun b u e=>Z8 _ (kp b u e)) hs (fz_ok (Zv _ rfl))
  have same:ZR H (upd H h'.objs.size (Fz h'.objs.size (kla_obj "<lambda>" (lamQ X) params body scope cl ((X.mg "__name__").getD .none) x.2 ctv))):=fun b u e=>by
   rw[ZS fun z=>by rw[z,fresh]at e;cases e];exact e
  exact⟨.ref h'.objs.size,_,J,rfl,h _ _ ⟨fresh,fun b u _ e=>same b u e,Wv.same ⟨l,hT,hl⟩ same,cl,_,x.2,ctv,oc,vs,t,Z5,same _ _ o1,o2,o3,c1,c2⟩⟩
 |none=>
  refine PySem.W.kla_makeFunction hcl I.ok.glob glob hcode (C.keeps I.bk) hP (by simpa using UE l) (by simpa using am) hgT bl fun c' ctv h' tk hx hge hlt hrec htb=>?_
  obtain⟨_,oc,vs,t,e2,hoc,hd,hv⟩:=hrec
  cases e2
  obtain⟨fo,hfo⟩:∃fo,fo=kla_obj "<lambda>" (lamQ X) params body scope cl ((X.mg "__name__").getD .none) c' ctv:=⟨_,rfl⟩
  have eT:(triples l).toArray++#[rawInt pos.line,rawInt pos.col,.ref c']=(triples (l++[(pos,c')])).toArray:=by rw[triples_append];simp
  rw[eT]at htb
  have lv:∀b u,H b=some u->b<s.heap.objs.size:=fun b u e=>(I.hok b u e).lt
  have hTs:T<s.heap.objs.size:=lv _ _ hT
  have cT:c'≠T:=Vw (Nat.lt_of_lt_of_le hTs hge)
  have hsf:s.heap.objs.size<=h'.objs.size:=Nat.le_trans hge (Nat.le_of_lt hlt)
  have fT:h'.objs.size≠T:=Vw (Nat.lt_of_lt_of_le hTs hsf)
  have cf:c'≠h'.objs.size:=Zs hlt
  obtain⟨H',hH'⟩:∃H',H'=upd (upd (upd H T (.tbl (triples (l++[(pos,c')])).toArray)) c' (Fz c' oc)) h'.objs.size (Fz h'.objs.size fo):=⟨_,rfl⟩
  have aF:H' h'.objs.size=some (Fz h'.objs.size fo):=by rw[hH',Z5]
  have aC:H' c'=some (Fz c' oc):=by rw[hH',ZS cf,Z5]
  have aT:H' T=some (.tbl (triples (l++[(pos,c')])).toArray):=by rw[hH',ZS fT.symm,ZS cT.symm,Z5]
  have aO:∀b,b<s.heap.objs.size->b≠T->H' b=H b:=fun b hb n=>by rw[hH',ZS (Zs (Nat.lt_of_lt_of_le hb hsf)),ZS (Zs (Nat.lt_of_lt_of_le hb hge)),ZS n]
  have grow:∀b u,b≠T->H b=some u->H' b=some u:=fun b u n e=>(aO b (lv b u e) n).trans e
  have old:∀b o,b≠T->s.heap.get? b=some o->(h'.push fo).get? b=some o:=fun b o n e=>Z8 _ (hx b o n e)
  have un:∀fs,Un fs [] H H' s.heap (h'.push fo):=fun fs=>by
   have nT:∀{b:Addr},H b=none->b≠T:=fun{b} n z=>by rw[z,hT]at n;cases n
   refine⟨fun b o e n _ _=>old b o (nT n) e,fun b o e n _ _=>⟨o.slots,old b o (nT n) e⟩,fun b o e n _=>(aO b (ZA e) (nT n)).trans n,fun b o e _=>?_,fun b xs e=>?_,fun b o u e=>?_,fun b ps e=>?_⟩
   ·by_cases z:b=T
    ·exact⟨_,z▸Z8 _ htb⟩
    ·exact⟨_,old b o z e⟩
   ·exact grow b _ (fun z=>by rw[z,hT]at e;cases e) e
   ·exact grow b _ (fun z=>by rw[z,hT]at e;cases e) e
   ·by_cases z:b=T
    ·subst z
     rw[hT]at e
     cases e
     exact⟨#[rawInt pos.line,rawInt pos.col,.ref c'],by rw[aT,eT]⟩
    ·exact⟨#[],by rw[grow b _ z e];simp⟩
  have hok:VC X.prog X.w H' (h'.push fo):=fun b u e=>by
   by_cases z1:b=h'.objs.size
   ·subst z1
    rw[aF]at e
    cases e
    exact fz_ok (Zv _ (by rw[hfo];rfl))
   ·by_cases z2:b=c'
    ·subst z2
     rw[aC]at e
     cases e
     exact fz_ok (Z8 _ hoc)
    ·by_cases z3:b=T
     ·subst z3
      rw[aT]at e
      cases e
      exact Z8 _ htb
     ·rw[hH',ZS z1,ZS z2,ZS z3]at e
      refine(I.hok b u e).stay (fun d v hd q=>old d v ?_ q) (fun d z=>grow d _ (fun q=>by rw[q,hT]at z;cases z) z) fun d xs z=>grow d _ (fun q=>by rw[q,hT]at z;cases z) z
      rcases hd with q | q
      ·rw[q];exact z3
      ·intro y
       rw[y,hT]at q;cases q
  have J:Zq X pins σ H' {s with heap:=h'.push fo,toks:=tk}:=I.un (un _) hok
  have tab:Wv (lamQ X) H' T:=⟨_,aT,fun x hx=>by
   rcases Zi.mp hx with hx | hx
   ·obtain⟨oc2,vs2,t2,o1,o2⟩:=hl x hx
    exact⟨oc2,vs2,t2,grow _ _ (fun q=>by rw[q,hT]at o1;cases o1) o1,o2⟩
   ·obtain rfl:x=(pos,c'):=by simpa using hx
    exact⟨oc,vs,t,aC,hd,hv⟩⟩
  rw[<-hfo]
  exact⟨.ref h'.objs.size,H',J,rfl,h _ _ ⟨I.hok.fresh hsf,grow,tab,cl,_,c',ctv,oc,vs,t,by rw[aF,hfo],aC,hd,hv,c1,c2⟩⟩
end
theorem ST:∀(S:List Addr) (h:Heap),(Ya S h).objs.size=h.objs.size
 |[],_=>rfl
 |a::S,h=>by
  show((Ya S h).update a _).objs.size=_
  rw[Heap.size_update,ST S h]
open Classical in
noncomputable def outOf (base:Heap)(cl:List (Str×Addr))(h:Heap):List Addr:=(List.range h.objs.size).filter fun a=>decide (base.get? a=none/\∀x,cl.lookup x≠some a)
noncomputable def WF (base:Heap)(cl:List (Str×Addr))(h:Heap):Heap:=Ya (outOf base cl h) h
section
variable {base h:Heap}{cl:List (Str×Addr)}{b:Addr}{o:Obj}
theorem base_out (hb:base.get? b=none)(hc:∀x,cl.lookup x≠some b)(hs:b<h.objs.size):b∈outOf base cl h:=
 Yt.mpr ⟨Ys.mpr hs,by simpa using⟨hb,hc⟩⟩
theorem base_some (e:(WF base cl h).get? b=some o):h.get? b=some o/\((∃u,base.get? b=some u)\/∃x,cl.lookup x=some b):=by
 obtain⟨n,e⟩:=UV e
 refine⟨e,?_⟩
 cases q:base.get? b with
 |some u=>exact .inl ⟨u,rfl⟩
 |none=>
  refine .inr ?_
  apply Classical.byContradiction
  intro z
  exact n (base_out q (fun x y=>z ⟨x,y⟩) (ZA e))
theorem base_in (e:h.get? b=some o)(hi:(∃u,base.get? b=some u)\/∃x,cl.lookup x=some b):(WF base cl h).get? b=some o:=by
 unfold WF
 rw[XE]
 ·exact e
 ·intro z
  have z:=(Yt.mp z).2
  have z:base.get? b=none/\∀x,cl.lookup x≠some b:=by simpa using z
  rcases hi with⟨u,q⟩ | ⟨x,q⟩
  ·rw[z.1]at q;cases q
  ·exact z.2 x q
end
section
variable {X:Cx}{pins:List (Addr×Obj)}{σ:St}{H:Hp}{s:Shared}{cl:List (Str×Addr)}{N:List Str}{js:List Nat}{scope:Scope}
theorem Zq.env1 (I:Zq X pins σ H s)(hfn:∀x,X.fn x=true)(c1:∀x c,cl.lookup x=some c->X.env.cells.lookup x=some c):Env0 X.prog X.w X.K X.mg (WF X.base cl s.heap) X.A X.stack s H:=by
 have sub:∀b o,X.base.get? b=some o->(WF X.base cl s.heap).get? b=some o:=fun b o e=>base_in (I.bk b o e) (.inl ⟨o,e⟩)
 obtain⟨mb,m1,m2⟩:=I.ok.mod.blt
 refine⟨I.ok.frames,⟨I.ok.mod.kin.keeps sub,I.ok.mod.glob.keeps sub,⟨mb,m1.keeps sub,m2⟩,I.ok.mod.nolimit.keeps sub⟩,fun b o e=>?_,by unfold WF;rw[ST];exact Nat.le_refl _,?_,I.stkFree,I.hok,I.bare⟩
 ·obtain⟨e1,z⟩:=base_some e
  refine⟨e1,?_⟩
  rcases z with⟨u,q⟩ | ⟨x,q⟩
  ·exact(I.bs b u q).2
  ·exact I.freeC x b (c1 x b q)
 ·refine WP (fun b hb=>?_) I.stack
  obtain⟨hn,o,ho,_⟩:=I.stack.mem hb
  refine base_out hn (fun x q=>?_) (ZA ho)
  rcases ZV.mp (I.stkSub b hb) with e | e
  ·exact I.cne x b (c1 x b q) e
  ·obtain⟨_,o',ho',_⟩:=I.ok.funs.mem e
   exact absurd (Nat.lt_of_lt_of_le (ZA ho') (I.ok.cab x b (hfn x) (c1 x b q))) (Xr _)
theorem Zq.cap (I:Zq X pins σ H s)(B:Blk X.env.scope X.N N 0 js scope)(c1:∀x c,cl.lookup x=some c->X.env.cells.lookup x=some c)(c2:∀x,(x,NameKind.free)∈scope.names->∃c,cl.lookup x=some c) :
 Cap (WF X.base cl s.heap) scope cl N (inner 0 js σ):=by
 have cell:∀{x:Str} {c:Addr} {v:Option Value},cl.lookup x=some c->s.heap.IsCell c v->(WF X.base cl s.heap).IsCell c v:=fun{x c v} e ⟨o,ho,hd⟩=>⟨o,base_in ho (.inr ⟨x,e⟩),hd⟩
 refine⟨fun x y c a b=>I.ok.inj x y c (c1 x c a) (c1 y c b),fun x hx=>c2 x (PySem.mem_of_lookup hx),fun x c e=>?_,fun i x v h1 h2=>?_,?_⟩
 ·obtain⟨v,hv⟩:=I.cell x c (c1 x c e)
  exact⟨v,cell e hv⟩
 ·obtain⟨k,j,rfl,hk,hv⟩:=SR h2
  have h1':(N.drop 0)[k]?=some x:=by rw[XA];exact h1
  have hxm:x∈N.drop 0:=Zh h1'
  have hfree:scope.names.lookup x=some .free:=B.fr x hxm
  have hj:X.N[j]?=some x:=by
   rw[B.out,ZQ,hk]at h1'
   have hjl:j<X.N.length:=B.js j (Zh hk)
   rw[Z1 hjl]
   have e:X.N.getD j "" = x:=by simpa using h1'
   rw[<-e]
   simp[Z4,Z1 hjl]
  have hcap:=B.cap _ (PySem.mem_of_lookup hfree) rfl
  obtain⟨m,hn,hl⟩:=I.loc
  obtain⟨u,ru,lk⟩:=hl j x v hj hv (hcap.elim (fun z=>.inr (.inl z)) fun z=>.inr (.inr z))
  refine⟨hfree,?_⟩
  rcases lk with⟨z,_⟩ | ⟨_,c,e,q⟩
  ·exact absurd (show X.env.scope.names.lookup x=some .local from z) (by rcases hcap with y | y<;>(rw[y];decide))
  ·obtain⟨c',e'⟩:=c2 x (PySem.mem_of_lookup hfree)
   have ec:=c1 x c' e'
   rw[e]at ec
   cases ec
   exact⟨u,c,ru,e',cell e' q⟩
 ·unfold inner
  rw[Z6,XY,Z2,B.len]
end
def spRef (P:Program)(w:World)(K:W.Frag)(mg:Str->Option Value)(base:Heap)(k:Nat)(R:VK->VK)(Ec:VK->XK):Sp:=fun vs H Q _=>
 ∃f o fd,vs=[.ref f]/\H f=some (Fz f o)/\o.data=.func fd/\Runs P w K mg base k f H (R Q) (Ec Q)
def tRef (X:Cx)(T:Addr)(params:Arguments)(body:Expr)(scope:Scope)(js:List Nat)(R:VK->VK)(Ec:VK->XK)(te:XK->TE):TE:=fun σ H Q=>Wv (lamQ X) H T/\∀f H',LamAt X T params body scope H f H'->te (Ec Q) (inner 0 js σ) H' (R Q)
section
variable {X:Cx}{T c r:Addr}{params:Arguments}{body:Expr}{scope:Scope}{x:Str}{p lpos pos:Pos}{k kr:Nat}{fd:FuncData}{px:Str}{R:VK->VK}{Ec:VK->XK}{te:XK->TE}{N:List Str}{js:List Nat}{qn:Str}
theorem pe_refuse (F:∀base,Y6 X.prog X.w X.K X.mg base XB kr r fd [px] (spRef X.prog X.w X.K X.mg base (k+1) R Ec))(hr:Xv kr X.A)(hg:Gl X x)(hm:X.mg x=some (.ref r))(hk:Um X.K (.ref r)=true)(hb:UF X.K fd [px] [])(hfn:∀x,X.fn x=true)(hcode:X.env.code=.ref c)(C:CodeHd X.base c T)(Bl:VO X.mg X.base)(S:LamS scope)(B:Blk X.env.scope X.N N 0 js scope)(hqn:lamQ X=qn)(hbody:∀(base:Heap) (E:XK) (cl:List (Str×Addr)) (f:Addr) (cd:Value) (A:Around) (outer:List Env) (s:Shared) (H:Hp),Xv k (A.deeper (PySem.W.envX qn scope s.heap.objs.size f cd cl))->
  PE (Su X.prog X.w X.K X.mg base N qn scope cl f cd A outer s H E) body (te E))(hbind:∀cl pm cd ctv,bindArgs (kla_fn "<lambda>" qn params body scope cl pm cd ctv) ⟨[],[]⟩=pure []:=by intros;rfl)(hdef:defaultsOf params X.env=([],[]):=by rfl)(hdb:(x==("__debug__" : Str))=false:=by decide):PE X (.Call (.Name x p) [.Lambda params body scope lpos] [] pos) (tRef X T params body scope js R Ec te):=by
 intro pins s σ H Q I h
 subst hqn
 refine wpAny_Call_Name_kw (UU I hg hm ?_ hdb)
 have ha:PA X [.Lambda params body scope lpos] (tCons (tLam X T params body scope) tNil):=Z0 (pe_lam hcode C Bl B.cap hdef) Z3 rfl
 refine callWith_K (h₀:=X.base) I.ok.mod.kin hk (thn (ha pos pins s σ H (fun vs H1=>∃f,vs=[.ref f]/\LamAt X T params body scope H f H1) I ⟨h.1,fun f H1 L=>⟨f,rfl,L⟩⟩) fun us s1 ⟨vs,H1,I1,r,f,ev,L⟩=>⟨I1.kIn,?_⟩) rfl rfl
 subst ev
 have q:=h.2 f H1 L
 obtain⟨cl,pm,c',ctv,oc,vs,t,a1,a2,a3,a4,c1,c2⟩:=L.ob
 have run:Runs X.prog X.w X.K X.mg (WF X.base cl s1.heap) (k+1) f H1 (R Q) (Ec Q):=
  runs_lam a1 a2 a3 a4 S (I1.cap B c1 c2) (hbind _ _ _ _) (fun A outer s hr=>hbody _ _ _ _ _ _ _ _ _ hr) q
 have hl:us.length=[px].length:=r.length.symm
 refine wpAny_call (codeAny_mono ((F (WF X.base cl s1.heap)).run X.A X.stack s1 H1 ⟨us,[]⟩ us [.ref f] Q E0 hr (I1.env1 hfn c1) (by simpa using hb s1 us I1.kIn (by simpa using hl)) r ⟨f,_,_,rfl,a1,rfl,run⟩) fun rs s' hq=>?_)
 cases rs with
 |error e=>exact False.elim hq
 |ok fl=>
  cases fl with
  |ret u=>exact I1.after hq
  |next=>exact False.elim hq
  |brk=>exact False.elim hq
  |cont=>exact False.elim hq
end
end L2
namespace L2
theorem eq_bools (a b:Bool):MeetsSeq.EqGives (.bool a) (.bool b) (a==b):=fun prog w A E s Q h=>SeqAt.EqAt.bool_bool (A:=A) (s:=s) a b prog w E Q h
section
variable {X:Cx}
theorem call_sumI (hc:X.calm=true):XC X (.builtin "sum") (fun xs H Q=>∃(p:Addr) (ns:List Int),xs=[.ref p]/\Zp X.K H p (ns.map V.int)/\Q (.int ns.sum) H):=by
 intro pins s σ H xs us Q I r h
 obtain⟨p,ns,rfl,hq,q⟩:=h
 obtain⟨u,rfl,rx⟩:=Wr r
 cases(show u=Value.ref p from rx)
 obtain⟨its,r',pl,hz⟩:=I.list hq
 have all:∀(l:List Int) (vs:List Value),Y7 (l.map V.int) vs->∃ps:List (Int×Tok),vs=ps.map (fun p=>Value.int p.1 p.2)/\ps.map (·.1)=l:=by
  intro l
  induction l with
  |nil=>intro vs v;cases v;exact⟨[],rfl,rfl⟩
  |cons n l ih=>
   intro vs v
   cases v with
   |cons a b=>
    obtain⟨t,rfl⟩:=a
    obtain⟨ps,rfl,e⟩:=ih _ b
    exact⟨(n,t)::ps,rfl,by rw[Y3,e]⟩
 obtain⟨ps,e1,e2⟩:=all ns its r'
 have hl:s.heap.IsList p (intItems ps.toArray):=by
  have z:=pl.isList
  rw[e1]at z
  have e3:(ps.map fun p=>Value.int p.1 p.2).toArray=intItems ps.toArray:=by unfold intItems;simp
  rw[e3]at z
  exact z
 refine sum_intListG (I.ok.hd hc) hl fun h' tk t' hk=>?_
 rw[preSum_eq,X5 (by simp)]
 have e4:ps.toArray.toList.map (·.1)=ns:=e2
 rw[e4]
 exact⟨.int ns.sum,H,I.kept hk,⟨_,rfl⟩,q⟩
def rIndexT:V->List V->Hp->VK->Prop:=fun x vs H Q=>∃(l:Addr) (bs:List Bool) (j:Nat),x=.ref l/\vs=[.bl true]/\H l=some (.lst (bs.map V.bl))/\bs[j]?=some true/\(∀i,i<j->bs[i]?=some false)/\Q (.int (j:Nat)) H
theorem mt_indexT:MtM X "list.index" rIndexT:=by
 intro pins s σ H x vs v us Q I rx rv h
 obtain⟨l,bs,j,rfl,rfl,hH,hj,hn,q⟩:=h
 cases rx
 obtain⟨u,rfl,ru⟩:=rv.one
 cases ru
 obtain⟨z,its,n,r,hl,e⟩:=I.lstM hH
 have at_:∀(i:Nat) (b:Bool),bs[i]?=some b->its[i]?=some (Value.bool b):=fun i b hb=>by
  obtain⟨w',hw,rw'⟩:=r.get (show(bs.map V.bl)[i]?=some (V.bl b) by rw[ZQ,hb];rfl)
  rw[hw,show w'=Value.bool b from rw']
 have back:∀y∈its.toArray,∃b,y=Value.bool b:=fun y hy=>by
  obtain⟨i,hi,rfl⟩:=X0 (List.mem_toArray.mp hy)
  have hb:i<bs.length:=by rw[<-hl,Z2]at hi;exact hi
  have:=at_ i bs[i] (Z1 hb)
  rw[Z1 hi]at this
  exact⟨_,Option.some.inj this⟩
 have hji:j<its.length:=(List.getElem?_eq_some_iff.mp (at_ j true hj)).1
 have hzz:its.length<=sizeLine:=hl▸z
 rw[sizeLine_eq]at hzz
 refine call_meets F.slot_list_index ⟨_,e,rfl⟩ F.entry_list_index (F.args_list_index_2 _ _)
  (MeetsSeq.list_index l its.toArray n (.bool true) (fun y=>y==.bool true) (fun y hy=>?_) j (by simpa using hji) (by omega) ?_ fun m hm hlt=>?_) ⟨e,?_⟩
 ·obtain⟨b,rfl⟩:=back y hy
  have:=eq_bools b true
  cases b<;>exact this
 ·have:=at_ j true hj
  rw[Z1 hji]at this
  have:=Option.some.inj this
  simp[this]
 ·have hm':m<its.length:=by simpa using hm
  have:=at_ m false (hn m hlt)
  rw[Z1 hm']at this
  have:=Option.some.inj this
  simp[this]
 ·exact⟨.int (j:Nat),H,I.tok _,⟨_,rfl⟩,q⟩
end
def HasE (P:Program)(w:World)(K:W.Frag)(mg:Str->Option Value)(base:Heap)(k:Nat)(x:Str)(ps:List Str)(sp:Sp):Prop:=
 ∃(f:Addr) (fd:FuncData),Y6 P w K mg base (CXF P w) k f fd ps sp/\mg x=some (.ref f)/\Um K (.ref f)=true/\UF K fd ps []
section
variable {X:Cx}{k k':Nat}{x:Str}{ps:List Str}{sp:Sp}{e:Expr}{es:List Expr}{t:TA}{p pos:Pos}{E:XK}
theorem pe_defE (h:HasE X.prog X.w X.K X.mg X.base k x ps sp)(L:Lvs X E)(hr:Xv k' X.A)(ha:PA X (e::es) t)(hg:Gl X x:=by rfl)(hk:k<=k':=by decide)(hdb:(x==("__debug__" : Str))=false:=by decide)(he:starEach (e::es) X.env=(false,eval e X.env)::starEach es X.env:=by rfl)(hpl:(backTo pos (starEach es X.env)).any (·.1)=false:=by rfl):PE X (.Call (.Name x p) (e::es) [] pos) (tCall sp [] E t):=by
 obtain⟨f,fd,F,m,kp,b⟩:=h
 exact pe_call F (hr.mono hk) hg m kp b .nil (L.pass fun _ _ _ z=>z) ha hdb he hpl
end
section
variable {P:Program}{w:World}{K:W.Frag}{mg:Str->Option Value}{base:Heap}
theorem XH.okE {x qual:Str}{st:Stmt}{f:Addr}{fd:FuncData}{N ps:List Str}{k:Nat}{sp:Sp}(F:XH K x qual st f fd)(S:Zw N ps (ZY st))(len:∀vs H Q E,sp vs H Q E->vs.length=ps.length)(hbody:∀(cdv:Value) (A:Around) (outer:List Env) (s:Shared) (H:Hp) (vs:List V) (Q:VK) (E:XK),Xv k (A.deeper (envOfC qual (ZY st) s.heap.objs.size f cdv))->sp vs H Q E->
  ∃t,PSs (cxOf (CXF P w) P w K mg base N qual (ZY st) f cdv A outer s H E) (XM st) t/\t {nx:=fun _ H'=>Q .non H',rt:=Q} (start N vs) H):Y6 P w K mg base (CXF P w) (k+1) f fd ps sp:=by
 obtain⟨oc,od,kV,doc,pm,an,cdv,ct,osl,rfl,lk,hcd⟩:=F.ex
 exact fn_of lk hcd S len fun A outer s H vs Q E hr hsp=>hbody cdv A outer s H vs Q E hr hsp
theorem XH.okC {x qual:Str}{st:Stmt}{f:Addr}{fd:FuncData}{N ps:List Str}{k:Nat}{sp:Sp}(F:XH K x qual st f fd)(S:Zw N ps (ZY st))(len:∀vs H Q E,sp vs H Q E->vs.length=ps.length)(hbody:∀(A:Around) (outer:List Env) (s:Shared) (H:Hp) (vs:List V) (Q:VK) (E:XK),Xv k (A.deeper (envOfC qual (ZY st) s.heap.objs.size f fd.code))->sp vs H Q E->
  ∃t,PSs (cxOf XB P w K mg base N qual (ZY st) f fd.code A outer s H E).nox (XM st) t/\t {nx:=fun _ H'=>Q .non H',rt:=Q} (start N vs) H):Y6 P w K mg base XB (k+1) f fd ps sp:=by
 obtain⟨oc,od,kV,doc,pm,an,cdv,ct,osl,rfl,lk,hcd⟩:=F.ex
 refine fn_of lk hcd S len fun A outer s H vs Q E hr hsp=>?_
 obtain⟨t,h,q⟩:=hbody A outer s H vs Q E hr hsp
 exact⟨t,h.nox,q⟩
end
def HasR (P:Program)(w:World)(K:W.Frag)(mg:Str->Option Value)(kr k:Nat)(x px:Str)(R:VK->VK)(Ec:VK->XK):Prop:=
 ∃(f:Addr) (fd:FuncData),(∀base,Y6 P w K mg base XB kr f fd [px] (spRef P w K mg base k R Ec))/\mg x=some (.ref f)/\Um K (.ref f)=true/\UF K fd [px] []
section
variable {X:Cx}{T c:Addr}{params:Arguments}{body:Expr}{scope sc:Scope}{x:Str}{p lpos pos:Pos}{k kr k':Nat}{px:Str}{R:VK->VK}{Ec:VK->XK}{te:XK->TE}{N N0:List Str}{js:List Nat}
theorem pe_lambda (h:HasR X.prog X.w X.K X.mg kr (k+1) x px R Ec)(hr:Xv k' X.A)(hcode:X.env.code=.ref c)(C:CodeHd X.base c T)(Bl:VO X.mg X.base)(hsc:X.env.scope=sc)(hN:X.N=N0)(S:LamS scope)(B:Blk sc N0 N 0 js scope)(hbody:∀(base:Heap) (E:XK) (cl:List (Str×Addr)) (f:Addr) (cd:Value) (A:Around) (outer:List Env) (s:Shared) (H:Hp),Xv k (A.deeper (PySem.W.envX (lamQ X) scope s.heap.objs.size f cd cl))->
  PE (Su X.prog X.w X.K X.mg base N (lamQ X) scope cl f cd A outer s H E) body (te E))(hfn:∀x,X.fn x=true:=by intro _;rfl)(hk:kr<=k':=by decide)(hg:Gl X x:=by rfl)(hbind:∀cl pm cd ctv,bindArgs (kla_fn "<lambda>" (lamQ X) params body scope cl pm cd ctv) ⟨[],[]⟩=pure []:=by intros;rfl)(hdef:defaultsOf params X.env=([],[]):=by rfl)(hdb:(x==("__debug__" : Str))=false:=by decide):PE X (.Call (.Name x p) [.Lambda params body scope lpos] [] pos) (tRef X T params body scope js R Ec te):=by
 subst hsc hN
 obtain⟨f,fd,F,m,kp,b⟩:=h
 exact pe_refuse F (hr.mono hk) hg m kp b hfn hcode C Bl S B rfl hbody hbind hdef hdb
end
theorem vals_marks:∀(l:List Int) (vs:List Value),Y7 (l.map V.int) vs->∃ps:List (Int×Tok),vs=ps.map (fun p=>Value.int p.1 p.2)/\ps.map (·.1)=l
 |[],vs,v=>by cases v;exact⟨[],rfl,rfl⟩
 |n::l,vs,v=>by
  cases v with
  |cons a b=>
   obtain⟨t,rfl⟩:=a
   obtain⟨ps,rfl,e⟩:=vals_marks l _ b
   exact⟨(n,t)::ps,rfl,by rw[Y3,e]⟩
section
variable {X:Cx}
theorem call_sumT (hc:X.calm=true):XC X (.builtin "sum") (fun xs H Q=>∃(p:Addr) (ns:List Int),xs=[.ref p]/\Y0 X.K H p (ns.map V.int)/\Q (.int ns.sum) H):=by
 intro pins s σ H xs us Q I r h
 obtain⟨p,ns,rfl,hq,q⟩:=h
 obtain⟨u,rfl,rx⟩:=Wr r
 cases(show u=Value.ref p from rx)
 obtain⟨its,r',pl,hz⟩:=I.tuple hq
 obtain⟨ps,e1,e2⟩:=vals_marks ns its r'
 have ht:s.heap.IsTuple p (intItems ps.toArray):=by
  have z:s.heap.IsTuple p its.toArray:=pl
  rw[e1]at z
  have e3:(ps.map fun p=>Value.int p.1 p.2).toArray=intItems ps.toArray:=by unfold intItems;simp
  rw[e3]at z
  exact z
 refine PySem.W.ktm_sumG (I.ok.hd hc) ht fun h' tk t' hk=>?_
 rw[preSum_eq,X5 (by simp)]
 have e4:ps.toArray.toList.map (·.1)=ns:=e2
 rw[e4]
 exact⟨.int ns.sum,H,I.kept hk,⟨_,rfl⟩,q⟩
end
theorem for_items {J:It}{g:TG}{tb:TS}{D:Ends}{σ:St}{H:Hp}(n:Nat)(itm:Nat->Hp->V->Prop)(Pv:Nat->St->Hp->Prop)(h0:Pv 0 σ H)(items:∀i σ H,i<=n->Pv i σ H->(i<n->J.go i H/\∀x H2,J.yld i H x H2->ZR H H2/\itm i H2 x)/\(n<=i->J.stop i H))(hs:∀i x σ H H2,i<n->Pv i σ H->ZR H H2->itm i H2 x->g x σ H2 fun σ2 H3=>tb {D with nx:=Pv (i+1),ct:=Pv (i+1),bk:=D.nx} σ2 H3)(hd:∀σ H,Pv n σ H->D.nx σ H) :
 ∃W:Nat->Nat->St->Hp->Prop,(∃m,W 0 m σ H)/\∀i m σ H,W i m σ H->
  (J.stop i H/\D.nx σ H)\/(J.go i H/\∃N:St->Hp->Prop,(∀σ' H',N σ' H'->∃m',m'<m/\W (i+1) m' σ' H')/\∀x H',J.yld i H x H'->g x σ H' fun σ2 H2=>tb {D with nx:=N,ct:=N,bk:=D.nx} σ2 H2):=by
 refine⟨fun i m σ H=>m+i=n/\Pv i σ H,⟨n,rfl,h0⟩,fun i m σ H hw=>?_⟩
 obtain⟨e,p⟩:=hw
 have it:=items i σ H (by omega) p
 cases m with
 |zero=>
  obtain rfl:i=n:=by omega
  exact .inl ⟨it.2 (Nat.le_refl _),hd σ H p⟩
 |succ m=>
  obtain⟨go,yl⟩:=it.1 (by omega)
  refine .inr ⟨go,Pv (i+1),fun σ' H' q=>⟨m,WI _,by omega,q⟩,fun x H' y=>?_⟩
  obtain⟨sm,im⟩:=yl x H' y
  exact hs i x σ H H' (by omega) p sm im
section
variable {elt tg iter tg' iter':Expr}{g0:Comprehension}{scope:Scope}{pos:Pos}{it acc:Value}{env:Env}
theorem turn_deep:compTurn (.ListComp elt [g0,⟨tg,iter,[],0⟩] scope pos) 1 it acc env=(standAt iter.pos >>= fun _=>pyNext it >>= fun r=>match r with
 |none=>pure (.done .next)
 |some v=>letOwnedTupleGo tg it v >>= fun _=>assign tg env v >>= fun _=>(eval elt env >>= fun x=>call (.builtin "list.append") [acc,x] >>= fun _=>pure ()) >>= fun _=>
  again (.compLoop (.ListComp elt [g0,⟨tg,iter,[],0⟩] scope pos) 1 it acc env)):=by rfl
theorem turn_out:compTurn (.ListComp elt [⟨tg,iter,[],0⟩,⟨tg',iter',[],0⟩] scope pos) 0 it acc env=(standAt iter.pos >>= fun _=>pyNext it >>= fun r=>match r with
 |none=>pure (.done .next)
 |some v=>letOwnedTupleGo tg it v >>= fun _=>assign tg env v >>= fun _=>
  eval iter' env >>= fun x=>standAt iter'.pos >>= fun _=>foldedSetIterable iter' env x >>= fun x=>holding [x] (pyIter x) >>= fun i=>
   runOwn (.compStart (.ListComp elt [⟨tg,iter,[],0⟩,⟨tg',iter',[],0⟩] scope pos) 1 i acc env) env >>= fun _=>
  again (.compLoop (.ListComp elt [⟨tg,iter,[],0⟩,⟨tg',iter',[],0⟩] scope pos) 0 it acc env)):=by rfl
end
section
variable {prog:Program}{w:World}{A:Around}{s:Shared}{R:Result->Shared->Prop}{elt tg iter tg' iter':Expr}{g0:Comprehension}{scope:Scope}{pos:Pos}{it acc:Value}{env:Env}
theorem deep_start (h0:codeAny (model prog w) A (.compLoop (.ListComp elt [g0,⟨tg,iter,[],0⟩] scope pos) 1 it acc env) R s)(h:wpAny (model prog w) A (pyIter it) (fun i s'=>codeAny (model prog w) A (.compLoop (.ListComp elt [g0,⟨tg,iter,[],0⟩] scope pos) 1 i acc env) R s') (fun _ _=>False) s) :
 codeAny (model prog w) A (.compStart (.ListComp elt [g0,⟨tg,iter,[],0⟩] scope pos) 1 it acc env) R s:=by
 have two:wpAny (model prog w) A (compStart (.ListComp elt [g0,⟨tg,iter,[],0⟩] scope pos) 1 it acc env) (fun f s'=>match f with | .done v=>R (.ok v) s' | .again c=>c.quiet=true/\codeAny (model prog w) A c R s') (fun _ _=>False) s:=by
  have e:compStart (.ListComp elt [g0,⟨tg,iter,[],0⟩] scope pos) 1 it acc env=(ask >>= fun a=>if a.params.followText "comprehension-iter-twice" = true then again (.compLoop (.ListComp elt [g0,⟨tg,iter,[],0⟩] scope pos) 1 it acc env) >>= pure
   else rule "comprehension.iter-twice" >>= fun _=>standAt iter.pos >>= fun _=>pyIter it >>= fun i=>again (.compLoop (.ListComp elt [g0,⟨tg,iter,[],0⟩] scope pos) 1 i acc env)):=by rfl
  rw[e]
  refine wpAny_bind (wpAny_askSetting ?_)
  split
  ·exact wpAny_bind (wpAny_pure (wpAny_pure ⟨rfl,h0⟩))
  ·exact wpAny_bind (wpAny_rule (wpAny_bind (wpAny_standAt (wpAny_bind (wpAny_mono h (fun _ _ q=>wpAny_pure ⟨rfl,q⟩) fun _ _ z=>z.elim)))))
 refine codeAny_of_tree ?_
 show wpAny _ _ ((compStart (.ListComp elt [g0,⟨tg,iter,[],0⟩] scope pos) 1 it acc env).onRaise (fun x=>do noteFrame x env;standAt theWindowsPlace)) _ _ s
 exact wpAny_notedAt (wpAny_mono two (fun f s' q=>q) fun _ _ z=>z.elim)
theorem deep_turns (J:Nat->Shared->Prop)(turn:∀n s,J n s->wpAny (model prog w) A (pyNext it) (fun r s1=>match r with
  |none=>R (.ok .next) s1
  |some v=>wpAny (model prog w) A (letOwnedTupleGo tg it v) (fun _ s2=>wpAny (model prog w) A (assign tg env v) (fun _ s3=>
   wpAny (model prog w) A (eval elt env) (fun x s5=>wpAny (model prog w) A (call (.builtin "list.append") [acc,x]) (fun _ s6=>∃m,m<n/\J m s6) (fun _ _=>False) s5) (fun _ _=>False) s3) (fun _ _=>False) s2) (fun _ _=>False) s1) (fun _ _=>False) s)(n:Nat)(h:J n s):codeAny (model prog w) A (.compLoop (.ListComp elt [g0,⟨tg,iter,[],0⟩] scope pos) 1 it acc env) R s:=by
 refine codeAny_loop rfl J (fun k s' hJ=>?_) n h
 show wpAny _ A ((compTurn (.ListComp elt [g0,⟨tg,iter,[],0⟩] scope pos) 1 it acc env).onRaise (fun x=>do noteFrame x env;theTreesLotGoes x)) _ _ s'
 refine wpAny_noted ?_
 rw[turn_deep]
 refine wpAny_bind (wpAny_standAt (wpAny_bind (wpAny_mono (turn k s' hJ) (fun r s1 q1=>?_) fun _ _ z=>z.elim)))
 cases r with
 |none=>exact wpAny_pure q1
 |some v=>
  exact wpAny_bind (wpAny_mono q1 (fun _ s2 q2=>wpAny_bind (wpAny_mono q2 (fun _ s3 q3=>wpAny_bind (wpAny_bind (wpAny_mono q3 (fun x s5 q5=>wpAny_bind (wpAny_mono q5 (fun _ s6 q6=>wpAny_pure (wpAny_pure ⟨rfl,q6⟩)) fun _ _ z=>z.elim)) fun _ _ z=>z.elim))) fun _ _ z=>z.elim)) fun _ _ z=>z.elim)
theorem out_turns (hs:∀x,foldedSetIterable iter' env x=pure x)(J:Nat->Shared->Prop)(turn:∀n s,J n s->wpAny (model prog w) A (pyNext it) (fun r s1=>match r with
  |none=>R (.ok .next) s1
  |some v=>wpAny (model prog w) A (letOwnedTupleGo tg it v) (fun _ s2=>wpAny (model prog w) A (assign tg env v) (fun _ s3=>
   wpAny (model prog w) A (eval iter' env) (fun x s4=>wpAny (model prog w) A (pyIter x) (fun i s5=>
    codeAny (model prog w) A (.compStart (.ListComp elt [⟨tg,iter,[],0⟩,⟨tg',iter',[],0⟩] scope pos) 1 i acc env) (fun r s6=>r=.ok .next/\∃m,m<n/\J m s6) s5) (fun _ _=>False) s4) (fun _ _=>False) s3) (fun _ _=>False) s2) (fun _ _=>False) s1) (fun _ _=>False) s)(n:Nat)(h:J n s):codeAny (model prog w) A (.compLoop (.ListComp elt [⟨tg,iter,[],0⟩,⟨tg',iter',[],0⟩] scope pos) 0 it acc env) R s:=by
 refine codeAny_loop rfl J (fun k s' hJ=>?_) n h
 show wpAny _ A ((compTurn (.ListComp elt [⟨tg,iter,[],0⟩,⟨tg',iter',[],0⟩] scope pos) 0 it acc env).onRaise (fun x=>do noteFrame x env;theTreesLotGoes x)) _ _ s'
 refine wpAny_noted ?_
 rw[turn_out]
 refine wpAny_bind (wpAny_standAt (wpAny_bind (wpAny_mono (turn k s' hJ) (fun r s1 q1=>?_) fun _ _ z=>z.elim)))
 cases r with
 |none=>exact wpAny_pure q1
 |some v=>
  refine wpAny_bind (wpAny_mono q1 (fun _ s2 q2=>wpAny_bind (wpAny_mono q2 (fun _ s3 q3=>wpAny_bind (wpAny_mono q3 (fun x s4 q4=>?_) fun _ _ z=>z.elim)) fun _ _ z=>z.elim)) fun _ _ z=>z.elim)
  refine wpAny_bind (wpAny_standAt (wpAny_bind (wpAny_of_eq (hs x) (wpAny_bind (wpAny_holding (wpAny_mono q4 (fun i s5 q5=>?_) fun _ _ z=>z.elim))))))
  refine wpAny_bind (wpAny_runOwn (codeAny_mono q5 fun r s6 q6=>?_))
  obtain⟨e,q6⟩:=q6
  subst e
  exact wpAny_pure ⟨rfl,q6⟩
end
def cmpD (J:It)(g:TG)(te:TE)(N:St->Hp->Prop)(D:Addr)(σ:St)(H:Hp):Prop:=∃W:Nat->Nat->St->Hp->Prop,(∃m,W 0 m σ H)/\
 ∀i m σ' H',W i m σ' H'->(J.stop i H'/\N σ' H')\/(J.go i H'/\∀x H2,J.yld i H' x H2->g x σ' H2 fun σ3 H3=>te σ3 H3 fun y H5=>
  ∃ys,H5 D=some (.lst ys)/\ys.length<sizeLine/\∃m',m'<m/\W (i+1) m' σ3 (upd H5 D (.lst (ys++[y]))))
def cmpO (J:It)(g:TG)(wi:TI)(g':TG)(te:TE)(Q:VK)(D:Addr)(σ0:St)(H1:Hp):Prop:=∃W:Nat->Nat->St->Hp->Prop,(∃m,W 0 m σ0 (upd H1 D (.lst [])))/\
 ∀i m σ' H',W i m σ' H'->(J.stop i H'/\Q (.ref D) H')\/(J.go i H'/\∀x H2,J.yld i H' x H2->g x σ' H2 fun σ3 H3=>wi σ3 H3 fun J' H4=>
  cmpD J' g' te (fun σ5 H5=>∃m',m'<m/\W (i+1) m' σ5 H5) D σ3 H4)
def tComp2 (nt:Nat)(js:List Nat)(wi:TI)(g:TG)(wi':TI)(g':TG)(te:TE):TE:=fun σ H Q=>wi σ H fun J H1=>∀D,H1 D=none->cmpO J g wi' g' te Q D (inner nt js σ) H1
theorem deep_code {Y:Cx}{elt tg iter:Expr}{g0:Comprehension}{scope:Scope}{pos:Pos}{wi:TI}{g:TG}{te:TE}{D:Addr}(hc:Y.calm=true)(hi:PI Y tg iter wi)(hg:PG Y tg g)(he:PE Y elt te)(hx:Y.xe=fun _ _=>False){pins:List (Addr×Obj)}{s:Shared}{σ:St}{H:Hp}{N:St->Hp->Prop}(I:Zq Y pins σ H s)(h:wi σ H fun J H1=>cmpD J g te N D σ H1) :
 wpAny (model Y.prog Y.w) Y.A (eval iter Y.env) (fun x s4=>wpAny (model Y.prog Y.w) Y.A (pyIter x) (fun i s5=>
  codeAny (model Y.prog Y.w) Y.A (.compStart (.ListComp elt [g0,⟨tg,iter,[],0⟩] scope pos) 1 i (.ref D) Y.env) (fun r s6=>r=.ok .next/\∃σ' H',Zq Y pins σ' H' s6/\N σ' H') s5) (fun _ _=>False) s4) (fun _ _=>False) s:=by
 have hi':=hi pins s σ H _ I h
 rw[hx]at hi'
 refine thn hi' fun v s1 q1=>thn q1 fun itv s2 q2=>?_
 obtain⟨it,fp,tn,J,H2,e,I2,T,st2,f2,W,⟨m0,w0⟩,turn⟩:=q2
 subst e
 have stat:∀{H':Hp},(∀b∈fp,H' b=none)->∀b∈fp,SC Y pins H' b:=fun hn b hb=>⟨hn b hb,(f2 b hb).2⟩
 have loop:codeAny (model Y.prog Y.w) Y.A (.compLoop (.ListComp elt [g0,⟨tg,iter,[],0⟩] scope pos) 1 (.ref it) (.ref D) Y.env) (fun r s6=>r=.ok .next/\∃σ' H',Zq Y pins σ' H' s6/\N σ' H') s2:=by
  refine deep_turns (fun n s'=>∃i σ' H',Zq Y pins σ' H' s'/\tn i s'.heap/\(∀b∈fp,H' b=none)/\W i n σ' H') ?_ m0 ⟨0,_,_,I2,st2,fun b hb=>(f2 b hb).1,w0⟩
  rintro n s3 ⟨i,σ3,H3,I3,st3,fr3,w3⟩
  rcases turn i n σ3 H3 w3 with⟨stop,qn⟩ | ⟨go,step⟩
  ·refine thn (T.done Y rfl rfl rfl hc i pins s3 σ3 H3 _ I3 (stat fr3) st3 stop) fun r s4 ⟨hr,I4⟩=>?_
   subst hr
   exact⟨rfl,σ3,H3,I4,qn⟩
  ·refine thn (T.item Y rfl rfl rfl hc i pins s3 σ3 H3 _ I3 (stat fr3) st3 go) fun r s4 ⟨u,hr,h4⟩=>?_
   subst hr
   refine thn h4 fun _ s5 ⟨x,H5,I5,r5,y5,st5,fr5⟩=>?_
   have I5':=I5.pinned (stat fr5) (T.obj _ _ st5)
   have hg':=hg _ s5 σ3 H5 x u _ I5' r5 (step x H5 y5)
   rw[hx]at hg'
   refine thn hg' fun _ s6 ⟨σ6,H6,I6,q6⟩=>?_
   have he':=he _ s6 σ6 H6 _ I6 q6
   rw[hx]at he'
   refine thn he' fun y s8 ⟨v8,H8,I8,r8,ys,e8,z8,k,hk,w8⟩=>?_
   have ha:=Y8 _ s8 σ6 H8 (.ref D) [v8] _ [y] (fun _ H9=>W (i+1) k σ6 H9) I8 rfl (.cons r8 .nil) ⟨_,ys,v8,rfl,rfl,e8,z8,w8⟩
   rw[hx]at ha
   refine thn ha fun _ s9 ⟨_,H9,I9,_,w9⟩=>?_
   refine⟨k,hk,i+1,σ6,H9,I9.unpinned,T.keep _ _ _ st5 fun b hb o eb=>(I9.pin (b,o) (ZO _ (ZO _ (Yv hb eb)))).1,fun b hb=>?_,w9⟩
   obtain⟨o,eb,_⟩:=T.obj _ _ st5 b hb
   exact(I9.pin (b,o) (ZO _ (ZO _ (Yv hb eb)))).2.1
 exact deep_start loop (T.self _ 0 _ _ _ st2 loop)
theorem pe_compO {X:Cx}{elt tg iter tg' iter':Expr}{scope:Scope}{pos:Pos}{N:List Str}{nt:Nat}{js:List Nat}{sc:Scope}{N0:List Str}{wi wi':TI}{g g':TG}{te:TE}(hc:X.calm=true)(hsc:X.env.scope=sc)(hN:X.N=N0)(B:Blk sc N0 N nt js scope)(hi:PI X tg iter wi)(hg:∀cl C s H fp,PG (blk X N scope cl C s H fp) tg g)(hi':∀cl C s H fp,PI (blk X N scope cl C s H fp) tg' iter' wi')(hg':∀cl C s H fp,PG (blk X N scope cl C s H fp) tg' g')(he:∀cl C s H fp,PE (blk X N scope cl C s H fp) elt te)(hs:∀x,foldedSetIterable iter X.env x=pure x:=by intro _;rfl)(hs':∀env x,foldedSetIterable iter' env x=pure x:=by intro _ _;rfl) :
 PE X (.ListComp elt [⟨tg,iter,[],0⟩,⟨tg',iter',[],0⟩] scope pos) (tComp2 nt js wi g wi' g' te):=by
 subst hsc hN
 intro pins s σ H Q I h
 obtain⟨cl,hcl,c1,c2⟩:=Tt (env:=X.env) (scope:=scope) fun y hy hk=>I.ok.has y.1 (B.cap y hy hk)
 rw[eval_ListComp]
 refine wpAny_comprehension_free (use:=none) rfl hs hcl B.kind B.loc (thn (hi pins s σ H _ I h) fun v s1 q1=>thn q1 fun itv s2 q2=>?_)
 obtain⟨it,fp,tn,J,H2,e,I2,T,st2,f2,q2⟩:=q2
 subst e
 obtain⟨W,⟨m0,w0⟩,turn⟩:=q2 s2.heap.objs.size (I2.hok.fresh (Nat.le_refl _))
 have hlt:∀b∈fp,b<s2.heap.objs.size:=fun b hb=>by
  obtain⟨o,eo,_⟩:=T.obj _ _ st2 b hb
  exact ZA eo
 refine wpAny_newObj_type (wpAny_newFunctionEnv B.nocell (by intro y hy;simp at hy) (fun h1 hns hsb=>?_) B.kind)
 dsimp only at hns hsb ⊢
 have hsz:(s2.heap.push {cls:=.type "list",dict:=none,data:=.seq ([]:List Value).toArray}).objs.size=s2.heap.objs.size+1:=by rw[XJ]
 have old:∀b o,s2.heap.get? b=some o->h1.get? b=some o:=fun b o eb=>hsb.extBut b o (by rw[hsz];exact Zs (Yw (ZA eb))) (Z8 _ (Z8 _ eb))
 have hD:h1.get? s2.heap.objs.size=some {cls:=.type "list",data:=.seq ([]:List Value).toArray 0}:=hsb.extBut _ _ (by rw[hsz];exact Zs (WI _)) (Z8 _ (Zv _ rfl))
 rw[hsz]at hns
 have I3:=SH (cl:=cl) (fp:=fp) (tk:=s2.toks+([]:List (Str×Value)).length) I2 B c1 c2 f2 hlt old (show h1.Ns (s2.heap.objs.size+1) fun _=>none from hns) hD
 have stat:∀{H':Hp},(∀b∈fp,H' b=none)->∀b∈fp,SC (blk X N scope cl (s2.heap.objs.size+1) s2 H2 fp) [] H' b:=fun{H'} hn b hb=>
  ⟨hn b hb,Zs (Yw (hlt b hb)),fun z=>(ZV.mp (I2.stkSub b z)).elim (f2 b hb).2.1 (f2 b hb).2.2.1,.inl hb,fun x c ec=>(f2 b hb).2.2.2.2.1 x c (c1 x c ec),fun p hp=>absurd (show p∈([]:List (Addr×Obj)) from hp) (by simp)⟩
 have fin:∀{σ':St} {H':Hp} {s':Shared},Zq (blk X N scope cl (s2.heap.objs.size+1) s2 H2 fp) [] σ' H' s'->Q (.ref s2.heap.objs.size) H'->
  compPost (model X.prog X.w) X.A X.xe none (EP X pins σ Q) (.ref s2.heap.objs.size) (s2.heap.objs.size+1) (.ok .next) s':=fun{σ' H' s'} Ib q=>by
  obtain⟨m,hn,_⟩:=id Ib.loc
  refine⟨m,hn,fun h'' hs''=>?_⟩
  have I4:Zq X pins σ H' s':=I2.call' Ib.os Ib.base Ib.hok Ib.bare fun b hb=>⟨(f2 b hb).2.2.2.1,(f2 b hb).2.1,(f2 b hb).2.2.2.2.1,(f2 b hb).2.2.2.2.2⟩
  obtain⟨g0,g1,g2,g3,g4,g5⟩:=I2.fpOk (H':=H') (le_succ _) Ib.free
  exact⟨.ref s2.heap.objs.size,H',I4.turned (t':=s'.toks) (fun b o hb eb=>hs''.extBut b o hb eb) g0 g1 g3 g4 g5,rfl,q⟩
 have loop:codeAny (model X.prog X.w) X.A (.compLoop (.ListComp elt [⟨tg,iter,[],0⟩,⟨tg',iter',[],0⟩] scope pos) 0 (.ref it) (.ref s2.heap.objs.size) (compEnvC scope cl (s2.heap.objs.size+1) X.env))
  (compPost (model X.prog X.w) X.A X.xe none (EP X pins σ Q) (.ref s2.heap.objs.size) (s2.heap.objs.size+1)) {s2 with heap:=h1,toks:=s2.toks+([]:List (Str×Value)).length}:=by
  refine out_turns (hs' _) (fun n s'=>∃i σ' H',Zq (blk X N scope cl (s2.heap.objs.size+1) s2 H2 fp) [] σ' H' s'/\tn i s'.heap/\(∀b∈fp,H' b=none)/\W i n σ' H') ?_ m0
   ⟨0,_,_,I3,T.keep _ _ _ st2 fun b _ o eb=>old b o eb,fun b hb=>?_,w0⟩
  ·rintro n s3 ⟨i,σ3,H3,J3,st3,fr3,w3⟩
   rcases turn i n σ3 H3 w3 with⟨stop,qn⟩ | ⟨go,step⟩
   ·refine thn (T.done (blk X N scope cl (s2.heap.objs.size+1) s2 H2 fp) rfl rfl rfl hc i [] s3 σ3 H3 _ J3 (stat fr3) st3 stop) fun r s4 ⟨hr,I4⟩=>?_
    subst hr
    exact fin I4 qn
   ·refine thn (T.item (blk X N scope cl (s2.heap.objs.size+1) s2 H2 fp) rfl rfl rfl hc i [] s3 σ3 H3 _ J3 (stat fr3) st3 go) fun r s4 ⟨u,hr,h4⟩=>?_
    subst hr
    refine thn h4 fun _ s5 ⟨x,H5,I5,r5,y5,st5,fr5⟩=>?_
    have I5':=I5.pinned (stat fr5) (T.obj _ _ st5)
    refine thn (hg _ _ _ _ _ _ s5 σ3 H5 x u _ I5' r5 (step x H5 y5)) fun _ s6 ⟨σ6,H6,I6,q6⟩=>?_
    refine thn (deep_code (Y:=blk X N scope cl (s2.heap.objs.size+1) s2 H2 fp) (g0:=⟨tg,iter,[],0⟩) (scope:=scope) (pos:=pos) hc (hi' _ _ _ _ _) (hg' _ _ _ _ _) (he _ _ _ _ _) rfl I6 q6) fun x4 s7 q7=>thn q7 fun i4 s8 q8=>codeAny_mono q8 fun r s9 ⟨hr,σ9,H9,I9,k,hk,w9⟩=>⟨hr,k,hk,i+1,σ9,H9,I9.unpinned,T.keep _ _ _ st5 fun b hb o eb=>(I9.pin (b,o) (ZO _ (ZO _ (Yv hb eb)))).1,fun b hb=>?_,w9⟩
    obtain⟨o,eb,_⟩:=T.obj _ _ st5 b hb
    exact(I9.pin (b,o) (ZO _ (ZO _ (Yv hb eb)))).2.1
  ·show upd H2 _ _ b=none
   rw[ZS (Zs (hlt b hb))]
   exact(f2 b hb).1
 rw[hsz]
 exact codeAny_compStart_list loop (T.self _ 0 _ _ _ (T.keep _ _ _ st2 fun b _ o eb=>old b o eb) loop)
def But (a:Addr)(H H':Hp):Prop:=∀c o,c≠a->H c=some o->H' c=some o
theorem But.refl (a:Addr)(H:Hp):But a H H:=fun _ _ _ h=>h
theorem But.trans {a:Addr}{H1 H2 H3:Hp}(x:But a H1 H2)(y:But a H2 H3):But a H1 H3:=fun c o n h=>y c o n (x c o n h)
theorem But.of {a:Addr}{H H':Hp}(s:ZR H H'):But a H H':=fun c o _ h=>s c o h
theorem But.upd {a:Addr}{H:Hp}(o:HO):But a H (upd H a o):=fun c u n h=>by rw[ZS n];exact h
section
variable {X:Cx}{elt iter iter':Expr}{scope:Scope}{pos:Pos}{N:List Str}{js:List Nat}{sc:Scope}{N0:List Str}{wi wi':TI}{te:TE}{x y z:Str}{px py pz tp:Pos}{k:Nat}
theorem pe_compO2 (hc:X.calm=true)(hsc:X.env.scope=sc)(hN:X.N=N0)(B:Blk sc N0 (x::y::z::N) 3 js scope)(hx:scope.names.lookup x=some .local)(hy:scope.names.lookup y=some .local)(hz:scope.names.lookup z=some .local)(hi:PI X (.Tuple [.Name x px,.Name y py] k tp) iter wi)(hi':∀cl C s H fp,PI (blk X (x::y::z::N) scope cl C s H fp) (.Name z pz) iter' wi')(he:∀cl C s H fp,PE (blk X (x::y::z::N) scope cl C s H fp) elt te)(hs:∀x,foldedSetIterable iter X.env x=pure x:=by intro _;rfl)(hs':∀env x,foldedSetIterable iter' env x=pure x:=by intro _ _;rfl) :
 PE X (.ListComp elt [⟨.Tuple [.Name x px,.Name y py] k tp,iter,[],0⟩,⟨.Name z pz,iter',[],0⟩] scope pos) (tComp2 3 js wi (gTup X.K 2 (gCons (Wa 0) (gCons (Wa 1) gNil))) wi' (Wa 2) te):=
 pe_compO hc hsc hN B hi (fun cl C s H fp=>Xt (X:=blk X (x::y::z::N) scope cl C s H fp) hc (Ze (Zl (i:=0) B.nd rfl (.inl (Ye hx)) (.inr (Ye hx))) (Ze (Zl (i:=1) B.nd rfl (.inl (Ye hy)) (.inr (Ye hy))) X9))) hi' (fun cl C s H fp=>Zl (i:=2) B.nd rfl (.inl (Ye hz)) (.inr (Ye hz))) he hs hs'
end
theorem deep_go {J:It}{g:TG}{te:TE}{N:St->Hp->Prop}{D:Addr}{H1:Hp}{σ0:St}(n:Nat)(f:Nat->V)(pre:List V)(Sg:St->Prop)(itm:Nat->Hp->V->Prop)(hd:H1 D=some (.lst pre))(hn:pre.length+n<=sizeLine)(s0:Sg σ0)(items:∀i H,But D H1 H->(i<n->J.go i H/\∀x H2,J.yld i H x H2->ZR H H2/\itm i H2 x)/\(n<=i->J.stop i H))(step:∀i x σ' H,i<n->But D H1 H->itm i H x->Sg σ'->∀R:St->V->Hp->Prop,(∀σ3 y H5,Sg σ3->ZR H H5->y=f i->R σ3 y H5)->g x σ' H fun σ3 H3=>te σ3 H3 (R σ3))(fin:∀σ' H',Sg σ'->But D H1 H'->H' D=some (.lst (pre++(List.range n).map f))->N σ' H'):cmpD J g te N D σ0 H1:=by
 refine⟨fun i m σ H=>m=n - i/\i<=n/\Sg σ/\But D H1 H/\H D=some (.lst (pre++(List.range i).map f)),⟨n,by omega,Yp _,s0,But.refl _ _,by simpa using hd⟩,?_⟩
 rintro i m σ H ⟨rfl,hi,hs,sm,hd'⟩
 by_cases hlt:i<n
 ·obtain⟨go,yl⟩:=(items i H sm).1 hlt
  refine .inr ⟨go,fun x H2 y=>?_⟩
  obtain⟨s2,im⟩:=yl x H2 y
  refine step i x σ H2 hlt (sm.trans (But.of s2)) im hs _ fun σ3 y H5 g3 s5 ey=>?_
  refine⟨_,s5 _ _ (s2 _ _ hd'),by rw[Z6,Z2,YY];omega,n - (i+1),by omega,rfl,by omega,g3,((sm.trans (But.of s2)).trans (But.of s5)).trans (But.upd _),?_⟩
  rw[Z5,ey,XU,ZB,List.append_assoc]
  rfl
 ·have e:i=n:=by omega
  subst e
  exact .inl ⟨(items i H sm).2 (Nat.le_refl _),fin σ H hs sm hd'⟩
theorem out_go {J:It}{g g':TG}{wi:TI}{te:TE}{Q:VK}{D:Addr}{H1:Hp}{σ0:St}(n:Nat)(f:Nat->List V)(Sg:St->Prop)(itm:Nat->Hp->V->Prop)(hn:∀i,i<=n->((List.range i).flatMap f).length<=sizeLine)(hD:H1 D=none)(s0:Sg σ0)(items:∀i H,ZR H1 H->(i<n->J.go i H/\∀x H2,J.yld i H x H2->ZR H H2/\itm i H2 x)/\(n<=i->J.stop i H))(step:∀i x σ' H pre,i<n->ZR H1 H->itm i H x->Sg σ'->H D=some (.lst pre)->pre.length+(f i).length<=sizeLine->∀N:St->Hp->Prop,(∀σ3 H5,Sg σ3->But D H H5->H5 D=some (.lst (pre++f i))->N σ3 H5)->g x σ' H fun σ3 H3=>wi σ3 H3 fun J' H4=>cmpD J' g' te N D σ3 H4)(fin:∀H',ZR H1 H'->H' D=some (.lst ((List.range n).flatMap f))->Q (.ref D) H'):cmpO J g wi g' te Q D σ0 H1:=by
 refine⟨fun i m σ H=>m=n - i/\i<=n/\Sg σ/\ZR H1 H/\H D=some (.lst ((List.range i).flatMap f)),⟨n,by omega,Yp _,s0,(ZR.refl H1).upd_free hD _,Z5⟩,?_⟩
 rintro i m σ H ⟨rfl,hi,hs,sm,hd⟩
 by_cases hlt:i<n
 ·obtain⟨go,yl⟩:=(items i H sm).1 hlt
  refine .inr ⟨go,fun x H2 y=>?_⟩
  obtain⟨s2,im⟩:=yl x H2 y
  have l:=hn (i+1) hlt
  rw[XU,XS,Z6,V8]at l
  refine step i x σ H2 _ hlt (sm.trans s2) im hs (s2 _ _ hd) l _ fun σ3 H5 g3 b5 h5=>?_
  refine⟨n - (i+1),by omega,rfl,by omega,g3,fun c u h=>b5 c u (ZP h hD) ((sm.trans s2) c u h),?_⟩
  rw[h5,XU,XS,V8]
 ·have e:i=n:=by omega
  subst e
  exact .inl ⟨(items i H sm).2 (Nat.le_refl _),fin H sm hd⟩
def Prs (H:Hp)(xs:List V)(bl:List (Int×Int)):Prop:=xs.length=bl.length/\∀(j:Nat) (b:Int×Int),bl[j]?=some b->∃p,xs[j]?=some (.ref p)/\H p=some (.tup [.int b.1,.int b.2])
section
variable {X:Cx}
end
theorem ps_calm {X:Cx}{st:Stmt}{t:TS}(h:PS X.nox st t):PS X st t:=fun pins s σ H D I hw=>
 wpAny_mono (h pins s σ H D (I.wish _) hw) (fun _ _ q=>SP.unwish q) (fun _ _=>False.elim)
open PySem PySem.W PyProof.Rows
structure Pm (n:Nat)(p:Array Nat):Prop where
 perm:p.toList.Perm (List.range n)
section
variable {n:Nat}{p:Array Nat}
end
def Up (key:Nat->Int)(p:Array Nat)(k:Nat):Prop:=∀j,1<=j->j<k->key (p.getD (j - 1) 0)<key (p.getD j 0)
section
variable {cmp:Nat->Nat->(Bool->Shared->Prop)->Shared->Prop}{key:Nat->Int}{J:Shared->Prop}{n:Nat}{s:Shared}
end
end L2
namespace L2
open PySem.W
section
variable {prog:Program}{w:World}{A:Around}{E:Value->Shared->Prop}{s:Shared}
end
end L2
namespace L2
open PySem.W
end L2
namespace L2
section
variable {X:Cx}
end
section
variable {X:Cx}
def rEqNil (K:W.Frag):R2:=fun x y H Q=>∃(a b:Addr) (xs:List V),x=.ref a/\y=.ref b/\Zp K H a xs/\Zp K H b []/\Q (.bl xs.isEmpty) H
theorem op_eqNil (hu:X.A.units<cLine):Uo X (compareOp .Eq) (rEqNil X.K):=by
 intro pins s σ H x y v u Q I rx ry h
 obtain⟨a,b,xs,rfl,rfl,ha,hb,q⟩:=h
 cases rx
 cases ry
 obtain⟨its,r1,p1,_⟩:=I.list ha
 obtain⟨its2,r2,p2,_⟩:=I.list hb
 cases r2
 cases r1 with
 |nil=>exact SeqAt.eq_listAt (e:=fun _=>true) p1.isList p2.isList rfl hu (fun j h1=>absurd h1 (by simp)) ⟨.bl true,H,I,rfl,q⟩
 |cons h t=>exact SeqAt.eq_list_lengthsAt p1.isList p2.isList (by simp) hu ⟨.bl false,H,I,rfl,q⟩
end
abbrev cell0:Obj:={cls:=.type "cell",data:=.cell none}
theorem Vh {env:Env}{t:Str}:∀{ns:List (Str×NameKind)} {x:Str} {k:NameKind},(∀y∈ns,y.2=.cell->y.1=t)->(k=.cell\/k=.free)->
 (ns.map fun(n,k)=>if(k==NameKind.free&&env.scope.kind==.function&&env.kindOf n==some .cell) then(n,NameKind.cell) else(n,k)).lookup x=some k->x=t\/(x,NameKind.free)∈ns
 |[],_,_,_,_,h=>by simp at h
 |(n,k')::r,x,k,nc,hk,h=>by
  rw[Y3]at h
  have ih:=Vh (env:=env) (t:=t) (ns:=r) (x:=x) (k:=k) (fun y hy=>nc y (ZT _ hy)) hk
  cases e:x==n with
  |true=>
   have ex:x=n:=by simpa using e
   subst ex
   cases k' with
   |free=>exact .inr ZW
   |cell=>exact .inl (nc (x,.cell) ZW rfl)
   |_=>
    dsimp only at h
    rw[if_neg (by simp),YW,e]at h
    rcases hk with z | z<;>(subst z;simp at h)
  |false=>
   dsimp only at h
   have h':(r.map fun(n,k)=>if(k==NameKind.free&&env.scope.kind==.function&&env.kindOf n==some .cell) then(n,NameKind.cell) else(n,k)).lookup x=some k:=by
    split at h<;>(rw[YW,e]at h;exact h)
   exact(ih h').elim .inl fun z=>.inr (ZT _ z)
def blk1 (X:Cx)(t:Str)(N:List Str)(scope:Scope)(cl:List (Str×Addr))(C:Addr)(s:Shared)(H:Hp)(fp:List Addr):Cx:={blk X N scope cl C s H fp with fn:=fun x=>x==t}
structure Blk1 (t:Str)(sc:Scope)(N0:List Str)(N:List Str)(nt:Nat)(js:List Nat)(scope:Scope):Prop where
 kind:scope.kind=.function
 loc:∀y∈scope.names,y.2=.local->scope.names.lookup y.1=some .local
 one:∀n cl,cellsFrom n scope.names cl=(t,n)::cl
 lay:∀h,pushCells h scope.names=h.push cell0
 only:∀y∈scope.names,y.2=.cell->y.1=t
 cap:∀y∈scope.names,y.2=.free->sc.names.lookup y.1=some .cell\/sc.names.lookup y.1=some .free
 nf:∀y∈scope.names,y.2=.free->y.1≠t
 len:N.length=nt+js.length
 out:N.drop nt=js.map fun j=>N0.getD j ""
 js:∀j∈js,j<N0.length
 fr:∀x∈N.drop nt,scope.names.lookup x=some .free
 nd:N.Nodup
section
variable {M:Model}{A:Around}{E:Value->Shared->Prop}{s:Shared}
theorem env_cell {scope:Scope}{gl:Addr}{cl:List (Str×Addr)}{qual:Str}{env:Env}{t:Str}{Q:Env->Shared->Prop}(one:∀n cl,cellsFrom n scope.names cl=(t,n)::cl)(lay:∀h,pushCells h scope.names=h.push cell0)(q:Q (newEnv scope s.heap.objs.size gl ((t,s.heap.objs.size+1)::cl) qual none .none (some env) builtinsNs) {s with heap:=(s.heap.push {cls:=.type "dict",data:=.dict #[]}).push cell0}) :
 wpAny M A (newFunctionEnv scope gl cl [] qual none .none (some env)) Q E s:=by
 unfold newFunctionEnv
 refine wpAny_bind (wpAny_alloc (wpAny_bind (wpAny_layCells _ (fun _ _ _=>rfl) scope.names cl _ _ ?_)))
 rw[one,lay]
 have e:(s.heap.push {cls:=.type "dict",data:=.dict #[]}).objs.size=s.heap.objs.size+1:=XJ ..
 rw[<-e]at q
 exact wpAny_bind (wpAny_pure (wpAny_pure q))
end
section
variable {X:Cx}{pins:List (Addr×Obj)}{σ:St}{H:Hp}{s:Shared}{t:Str}{N:List Str}{nt:Nat}{js:List Nat}{scope:Scope}{cl:List (Str×Addr)}{fp:List Addr}
theorem look_ne {t x:Str}{c:Addr}{cl:List (Str×Addr)}(h:x≠t):((t,c)::cl).lookup x=cl.lookup x:=by
 rw[YW,show(x==t)=false from beq_eq_false_iff_ne.mpr h]
theorem look_at {t:Str}{c:Addr}{cl:List (Str×Addr)}:((t,c)::cl).lookup t=some c:=by
 rw[YW,show(t==t)=true from beq_self_eq_true t]
theorem VH {t x:Str}{c c':Addr}{cl:List (Str×Addr)}(h:((t,c)::cl).lookup x=some c'):(x=t/\c'=c)\/(x≠t/\cl.lookup x=some c'):=by
 by_cases e:x=t
 ·subst e;rw[look_at]at h;cases h;exact .inl ⟨rfl,rfl⟩
 ·rw[look_ne e]at h;exact .inr ⟨e,h⟩
theorem blk1_start {h':Heap}{tk:Nat}(I:Zq X pins σ H s)(B:Blk1 t X.env.scope X.N N nt js scope)(c1:∀x c,cl.lookup x=some c->X.env.cells.lookup x=some c)(c2:∀x,(x,NameKind.free)∈scope.names->∃c,cl.lookup x=some c)(hf:∀b∈fp,SC X pins H b)(hlt:∀b∈fp,b<s.heap.objs.size)(kp:∀b o,s.heap.get? b=some o->h'.get? b=some o)(hC:h'.Ns (s.heap.objs.size+1) fun _=>none)(hc:h'.IsCell (s.heap.objs.size+2) none)(hD:h'.get? s.heap.objs.size=some {cls:=.type "list",data:=.seq ([]:List Value).toArray 0}) :
 Zq (blk1 X t N scope ((t,s.heap.objs.size+2)::cl) (s.heap.objs.size+1) s H fp) [] (inner nt js σ) (upd H s.heap.objs.size (.lst [])) {s with heap:=h',toks:=tk}:=by
 have hfr:∀a,s.heap.objs.size<=a->H a=none:=fun a ha=>I.hok.fresh ha
 have cold:∀x c,X.env.cells.lookup x=some c->c<s.heap.objs.size:=fun x c e=>by
  obtain⟨v,q⟩:=I.cell x c e
  exact q.lt
 have two:s.heap.objs.size<=s.heap.objs.size+2:=Nat.le_add_right _ 2
 have far:∀{x c},cl.lookup x=some c->c≠s.heap.objs.size+2:=fun{x c} e z=>by
  have q:=cold x c (c1 x c e)
  rw[z]at q
  exact absurd (Nat.lt_of_lt_of_le q two) (Xr _)
 have inj:∀x y c,((t,s.heap.objs.size+2)::cl).lookup x=some c->((t,s.heap.objs.size+2)::cl).lookup y=some c->x=y:=fun x y c a b=>by
  rcases VH a with⟨e1,e2⟩ | ⟨_,e2⟩<;>rcases VH b with⟨e3,e4⟩ | ⟨_,e4⟩
  ·rw[e1,e3]
  ·exact absurd e2 (far e4)
  ·exact absurd e4 (far e2)
  ·exact I.ok.inj x y c (c1 x c e2) (c1 y c e4)
 refine⟨⟨I.ok.mod,B.kind,I.ok.glob,I.ok.blt,le_succ _,inj,fun x hx=>?_,fun x c z e=>?_,I.ok.hd,I.ok.frames,.inl rfl,fun b hb=>?_,I.bs,Nat.le_trans I.ok.bsz I.sz,fun b o e hb=>?_,fun b hb z=>?_,I.stack,I.stkFree⟩,
  rfl,I.bare,Un.laid kp (Nat.le_refl _) (hfr _ (Nat.le_refl _)),⟨_,hC,fun i x v h1 h2 h3=>?_⟩,fun x c e=>?_,?_,fun x c e=>?_,fun p hp=>absurd (show p∈([]:List (Addr×Obj)) from hp) (by simp),I.hok.laid kp (Nat.le_refl _) ⟨Yp _,[],0,.nil,hD⟩,?_⟩
 ·have:x=t\/(x,NameKind.free)∈scope.names:=hx.elim (fun z=>Vh B.only (.inl rfl) z) fun z=>Vh B.only (.inr rfl) z
  rcases this with z | z
  ·rw[z];exact⟨s.heap.objs.size+2,look_at⟩
  ·obtain⟨c,e⟩:=c2 x z
   exact⟨c,(look_ne (B.nf _ z rfl)).trans e⟩
 ·have xt:x=t:=by simpa using(show(x==t)=true from z)
  rcases VH (show((t,s.heap.objs.size+2)::cl).lookup x=some c from e) with⟨_,e⟩ | ⟨ne,_⟩
  ·rw[e];exact two
  ·exact absurd xt ne
 ·refine⟨Zs (Yw (hlt b hb)),fun x c e=>?_⟩
  rcases VH e with⟨_,e⟩ | ⟨_,e⟩
  ·rw[e];exact Vw (Nat.lt_of_lt_of_le (hlt b hb) two)
  ·exact(hf b hb).2.2.2.2.1 x c (c1 x c e)
 ·rcases(hf b hb).2.2.2.1 with z | z
  ·exact I.ok.noex b o e z
  ·exact absurd (Nat.lt_of_lt_of_le (ZA (I.ok.bs b o e).1) z) (Xr _)
 ·rcases ZV.mp (I.stkSub b z) with q | q
  ·exact(hf b hb).2.1 q
  ·exact(hf b hb).2.2.1 q
 ·obtain⟨k,j,rfl,hk,hv⟩:=SR h2
  have h1':(N.drop nt)[k]?=some x:=by rw[XA];exact h1
  have hxm:x∈N.drop nt:=Zh h1'
  have hfree:scope.names.lookup x=some .free:=B.fr x hxm
  have hj:X.N[j]?=some x:=by
   rw[B.out,ZQ,hk]at h1'
   have hjl:j<X.N.length:=B.js j (Zh hk)
   rw[Z1 hjl]
   have e:X.N.getD j "" = x:=by simpa using h1'
   rw[<-e]
   simp[Z4,Z1 hjl]
  have hmem:=PySem.mem_of_lookup hfree
  have hcap:=B.cap _ hmem rfl
  obtain⟨m,hn,hl⟩:=I.loc
  obtain⟨u,ru,lk⟩:=hl j x v hj hv (hcap.elim (fun z=>.inr (.inl z)) fun z=>.inr (.inr z))
  refine⟨u,ru,.inr ⟨UA hfree,?_⟩⟩
  rcases lk with⟨z,_⟩ | ⟨_,c,e,q⟩
  ·exact absurd (show X.env.scope.names.lookup x=some .local from z) (by rcases hcap with y | y<;>(rw[y];decide))
  ·obtain⟨c',e'⟩:=c2 x hmem
   have ec:=c1 x c' e'
   rw[e]at ec
   cases ec
   obtain⟨o,ho,hd⟩:=q
   exact⟨c,(look_ne (B.nf _ hmem rfl)).trans e',o,kp c o ho,hd⟩
 ·rcases VH e with⟨_,e⟩ | ⟨_,e⟩
  ·exact⟨none,e▸hc⟩
  ·obtain⟨v,o,ho,hd⟩:=I.cell x c (c1 x c e)
   exact⟨v,o,kp c o ho,hd⟩
 ·show upd H _ _ (s.heap.objs.size+1)=none
  rw[ZS (Vw (WI _))]
  exact hfr _ (le_succ _)
 ·show upd H _ _ c=none
  rcases VH e with⟨_,e⟩ | ⟨_,e⟩
  ·rw[e,ZS (Vw (Yw (WI _)))]
   exact hfr _ two
  ·rw[ZS (Zs (cold x c (c1 x c e)))]
   exact I.freeC x c (c1 x c e)
 ·show(inner nt js σ).length=N.length
  unfold inner
  rw[Z6,XY,Z2,B.len]
end
theorem pe_compC {X:Cx}(t:Str){elt tg iter:Expr}{ifs:List Expr}{scope:Scope}{pos:Pos}{N:List Str}{nt:Nat}{js:List Nat}{sc:Scope}{N0:List Str}{wi:TI}{g:TG}{tt:TT}{te:TE}(hc:X.calm=true)(hsc:X.env.scope=sc)(hN:X.N=N0)(B:Blk1 t sc N0 N nt js scope)(hi:PI X tg iter wi)(hg:∀cl C s H fp,PG (blk1 X t N scope cl C s H fp) tg g)(ht:∀cl C s H fp,PTs (blk1 X t N scope cl C s H fp) ifs tt)(he:∀cl C s H fp,PE (blk1 X t N scope cl C s H fp) elt te)(hs:∀x,foldedSetIterable iter X.env x=pure x:=by intro _;rfl):PE X (.ListComp elt [⟨tg,iter,ifs,0⟩] scope pos) (SB nt js wi g tt te):=by
 subst hsc hN
 intro pins s σ H Q I h
 obtain⟨cl,hcl,c1,c2⟩:=Tt (env:=X.env) (scope:=scope) fun y hy hk=>I.ok.has y.1 (B.cap y hy hk)
 rw[eval_ListComp]
 refine wpAny_comprehension_free (use:=none) rfl hs hcl B.kind B.loc (thn (hi pins s σ H _ I h) fun v s1 q1=>thn q1 fun itv s2 q2=>?_)
 obtain⟨it,fp,tn,J,H2,e,I2,T,st2,f2,q2⟩:=q2
 subst e
 obtain⟨W,⟨m0,w0⟩,turn⟩:=q2 s2.heap.objs.size (I2.hok.fresh (Nat.le_refl _))
 have hlt:∀b∈fp,b<s2.heap.objs.size:=fun b hb=>by
  obtain⟨o,eo,_⟩:=T.obj _ _ st2 b hb
  exact ZA eo
 refine wpAny_newObj_type (env_cell B.one B.lay ?_)
 have hsz:(s2.heap.push {cls:=.type "list",dict:=none,data:=.seq ([]:List Value).toArray}).objs.size=s2.heap.objs.size+1:=by rw[XJ]
 dsimp only
 generalize hh1:((s2.heap.push {cls:=.type "list",dict:=none,data:=.seq ([]:List Value).toArray}).push {cls:=.type "dict",data:=.dict #[]}).push cell0=h1
 have old:∀b o,s2.heap.get? b=some o->h1.get? b=some o:=fun b o eb=>by rw[<-hh1];exact Z8 _ (Z8 _ (Z8 _ eb))
 have hD:h1.get? s2.heap.objs.size=some {cls:=.type "list",data:=.seq ([]:List Value).toArray 0}:=by rw[<-hh1];exact Z8 _ (Z8 _ (Zv _ rfl))
 have hns:h1.Ns (s2.heap.objs.size+1) fun _=>none:=by
  have e:=(Heap.Ns.new (s2.heap.push {cls:=.type "list",dict:=none,data:=.seq ([]:List Value).toArray}) (.type "dict")).keeps fun b o q=>Z8 cell0 q
  rw[hsz]at e
  rw[<-hh1]
  exact e
 have hcl1:h1.IsCell (s2.heap.objs.size+2) none:=by
  rw[<-hh1]
  exact⟨cell0,V7 (by rw[XJ,hsz]) rfl,rfl⟩
 rw[hsz]
 have I3:=blk1_start (cl:=cl) (fp:=fp) (tk:=s2.toks) I2 B c1 c2 f2 hlt old hns hcl1 hD
 have stat:∀{H':Hp},(∀b∈fp,H' b=none)->∀b∈fp,SC (blk1 X t N scope ((t,s2.heap.objs.size+2)::cl) (s2.heap.objs.size+1) s2 H2 fp) [] H' b:=fun{H'} hn b hb=>
  ⟨hn b hb,Zs (Yw (hlt b hb)),fun z=>(ZV.mp (I2.stkSub b z)).elim (f2 b hb).2.1 (f2 b hb).2.2.1,.inl hb,fun x c ec=>(VH ec).elim (fun z=>z.2▸Vw (Nat.lt_of_lt_of_le (hlt b hb) (Nat.le_add_right _ 2))) (fun z=>(f2 b hb).2.2.2.2.1 x c (c1 x c z.2)),fun p hp=>absurd (show p∈([]:List (Addr×Obj)) from hp) (by simp)⟩
 have fin:∀{i:Nat} {σ':St} {H':Hp} {s':Shared},Zq (blk1 X t N scope ((t,s2.heap.objs.size+2)::cl) (s2.heap.objs.size+1) s2 H2 fp) [] σ' H' s'->Q (.ref s2.heap.objs.size) H'->
  compPost (model X.prog X.w) X.A X.xe none (EP X pins σ Q) (.ref s2.heap.objs.size) (s2.heap.objs.size+1) (.ok .next) s':=fun{i σ' H' s'} Ib q=>by
  obtain⟨m,hn,_⟩:=id Ib.loc
  refine⟨m,hn,fun h'' hs''=>?_⟩
  have I4:Zq X pins σ H' s':=I2.call' Ib.os Ib.base Ib.hok Ib.bare fun b hb=>⟨(f2 b hb).2.2.2.1,(f2 b hb).2.1,(f2 b hb).2.2.2.2.1,(f2 b hb).2.2.2.2.2⟩
  obtain⟨g0,g1,g2,g3,g4,g5⟩:=I2.fpOk (H':=H') (le_succ _) Ib.free
  exact⟨.ref s2.heap.objs.size,H',I4.turned (t':=s'.toks) (fun b o hb eb=>hs''.extBut b o hb eb) g0 g1 g3 g4 g5,rfl,q⟩
 have loop:codeAny (model X.prog X.w) X.A (.compLoop (.ListComp elt [⟨tg,iter,ifs,0⟩] scope pos) 0 (.ref it) (.ref s2.heap.objs.size) (compEnvC scope ((t,s2.heap.objs.size+2)::cl) (s2.heap.objs.size+1) X.env))
  (compPost (model X.prog X.w) X.A X.xe none (EP X pins σ Q) (.ref s2.heap.objs.size) (s2.heap.objs.size+1)) {s2 with heap:=h1}:=by
  refine Uq (fun n s'=>∃i σ' H',Zq (blk1 X t N scope ((t,s2.heap.objs.size+2)::cl) (s2.heap.objs.size+1) s2 H2 fp) [] σ' H' s'/\tn i s'.heap/\(∀b∈fp,H' b=none)/\W i n σ' H') ?_ m0
   ⟨0,_,_,I3,T.keep _ _ _ st2 fun b _ o eb=>old b o eb,fun b hb=>?_,w0⟩
  ·rintro n s3 ⟨i,σ3,H3,J3,st3,fr3,w3⟩
   rcases turn i n σ3 H3 w3 with⟨stop,qn⟩ | ⟨go,step⟩
   ·refine thn (T.done (blk1 X t N scope ((t,s2.heap.objs.size+2)::cl) (s2.heap.objs.size+1) s2 H2 fp) rfl rfl rfl hc i [] s3 σ3 H3 _ J3 (stat fr3) st3 stop) fun r s4 ⟨hr,I4⟩=>?_
    subst hr
    exact fin (i:=i) I4 qn
   ·refine thn (T.item (blk1 X t N scope ((t,s2.heap.objs.size+2)::cl) (s2.heap.objs.size+1) s2 H2 fp) rfl rfl rfl hc i [] s3 σ3 H3 _ J3 (stat fr3) st3 go) fun r s4 ⟨u,hr,h4⟩=>?_
    subst hr
    refine thn h4 fun _ s5 ⟨x,H5,I5,r5,y5,st5,fr5⟩=>?_
    have I5':=I5.pinned (stat fr5) (T.obj _ _ st5)
    refine thn (hg _ _ _ _ _ _ s5 σ3 H5 x u _ I5' r5 (step x H5 y5)) fun _ s6 ⟨σ6,H6,I6,q6⟩=>?_
    have again:∀{σ7:St} {H7:Hp} {s7:Shared} {k:Nat},Zq (blk1 X t N scope ((t,s2.heap.objs.size+2)::cl) (s2.heap.objs.size+1) s2 H2 fp) ([]++Uy fp s5.heap) σ7 H7 s7->k<n->W (i+1) k σ7 H7->
     ∃k,k<n/\∃i σ' H',Zq (blk1 X t N scope ((t,s2.heap.objs.size+2)::cl) (s2.heap.objs.size+1) s2 H2 fp) [] σ' H' s7/\tn i s7.heap/\(∀b∈fp,H' b=none)/\W i k σ' H':=fun{σ7 H7 s7 k} I7 hk w7=>by
     refine⟨k,hk,i+1,σ7,H7,I7.unpinned,T.keep _ _ _ st5 fun b hb o eb=>(I7.pin (b,o) (ZO _ (ZO _ (Yv hb eb)))).1,fun b hb=>?_,w7⟩
     obtain⟨o,eb,_⟩:=T.obj _ _ st5 b hb
     exact(I7.pin (b,o) (ZO _ (ZO _ (Yv hb eb)))).2.1
    refine thn (ht _ _ _ _ _ _ s6 σ6 H6 _ I6 q6) fun ok s7 ⟨H7,I7,q7⟩=>?_
    cases ok with
    |false=>
     rw[if_neg Bool.false_ne_true]at q7 ⊢
     obtain⟨k,hk,w7⟩:=q7
     exact again I7 hk w7
    |true=>
     rw[if_pos rfl]at q7 ⊢
     refine thn (he _ _ _ _ _ _ s7 σ6 H7 _ I7 q7) fun y s8 ⟨v8,H8,I8,r8,ys,e8,z8,k,hk,w8⟩=>?_
     refine thn (Y8 _ s8 σ6 H8 (.ref s2.heap.objs.size) [v8] _ [y] (fun _ H9=>W (i+1) k σ6 H9) I8 rfl (.cons r8 .nil) ⟨_,ys,v8,rfl,rfl,e8,z8,w8⟩) fun _ s9 ⟨_,H9,I9,_,w9⟩=>?_
     exact again I9 hk w9
  ·show upd H2 _ _ b=none
   rw[ZS (Zs (hlt b hb))]
   exact(f2 b hb).1
 exact codeAny_compStart_list loop (T.self _ 0 _ _ _ (T.keep _ _ _ st2 fun b _ o eb=>old b o eb) loop)
section
variable {X:Cx}{elt iter:Expr}{ifs:List Expr}{scope:Scope}{pos:Pos}{N:List Str}{js:List Nat}{sc:Scope}{N0:List Str}{wi:TI}{tt:TT}{te:TE}{x:Str}{px:Pos}
theorem relab_cell {env:Env}:∀{ns:List (Str×NameKind)} {x:Str},ns.lookup x=some .cell->
 (ns.map fun(n,k)=>if(k==NameKind.free&&env.scope.kind==.function&&env.kindOf n==some .cell) then(n,NameKind.cell) else(n,k)).lookup x=some .cell
 |[],_,h=>by simp at h
 |(n,k)::r,x,h=>by
  rw[YW]at h
  rw[Y3]
  dsimp only
  cases e:x==n with
  |true=>
   rw[e]at h
   have:k=.cell:=by simpa using h
   subst this
   split<;>rw[YW,e]
  |false=>
   rw[e]at h
   split<;>(rw[YW,e];exact relab_cell h)
theorem blk1_cell {cl:List (Str×Addr)}{C:Addr}{s:Shared}{H:Hp}{fp:List Addr}{t:Str}(h:scope.names.lookup x=some .cell):(blk1 X t N scope cl C s H fp).env.scope.names.lookup x=some .cell:=relab_cell h
theorem UW (hc:X.calm=true)(hsc:X.env.scope=sc)(hN:X.N=N0)(B:Blk1 x sc N0 (x::N) 1 js scope)(hx:scope.names.lookup x=some .cell)(hi:PI X (.Name x px) iter wi)(ht:∀cl C s H fp,PTs (blk1 X x (x::N) scope cl C s H fp) ifs tt)(he:∀cl C s H fp,PE (blk1 X x (x::N) scope cl C s H fp) elt te)(hs:∀x,foldedSetIterable iter X.env x=pure x:=by intro _;rfl):PE X (.ListComp elt [⟨.Name x px,iter,ifs,0⟩] scope pos) (SB 1 js wi (Wa 0) tt te):=
 pe_compC x hc hsc hN B hi (fun cl C s H fp=>Zl (i:=0) B.nd rfl (.inr (blk1_cell hx)) (.inl (beq_self_eq_true x))) ht he hs
end
section
variable {X:Cx}{tg:Expr}
def rLenK (K:W.Frag):List V->Hp->VK->Prop:=fun xs H Q=>∃p ys,xs=[.ref p]/\(Zp K H p ys\/Y0 K H p ys)/\Q (.int ys.length) H
theorem UQ (K:W.Frag)(h:X.K=K):XC X (.builtin "len") (rLenK K):=by subst h;exact Zx
theorem W5 (K:W.Frag)(h:X.K=K):Uo X (compareOp .NotIn) (rIn K true):=by subst h;exact op_notIn_seq
theorem TU (K:W.Frag)(h:X.K=K){l:Expr}{tl:TE}(hl:PE X l tl):PI X tg l (iList K tl):=by subst h;exact XN hl
end
section
variable {X:Cx}{o e:Expr}{es:List Expr}{to:TE}{t:TA}{name:Str}{apos cpos:Pos}{T id:String}{r:V->List V->Hp->VK->Prop}
end
section
variable {X:Cx}{elt iter:Expr}{ifs:List Expr}{scope:Scope}{px py tp pos pos' spos:Pos}{k ii:Nat}{x y nm:Str}{N N0:List Str}{js:List Nat}{sc:Scope}{wi:TI}{tt:TT}{te:TE}
theorem ps_comp2 (hNd:X.N.Nodup)(hii:X.N[ii]?=some nm)(hloc:Loc X.env.scope nm)(hc:X.calm=true)(hsc:X.env.scope=sc)(hN:X.N=N0)(B:Blk sc N0 (x::y::N) 2 js scope)(hx:scope.names.lookup x=some .local)(hy:scope.names.lookup y=some .local)(hi:PI X (.Tuple [.Name x px,.Name y py] k tp) iter wi)(ht:∀cl C s H fp,PTs (blk X (x::y::N) scope cl C s H fp) ifs tt)(he:∀cl C s H fp,PE (blk X (x::y::N) scope cl C s H fp) elt te)(hsw:swapsWith (.ListComp elt [⟨.Tuple [.Name x px,.Name y py] k tp,iter,ifs,0⟩] scope pos) (some (.Name nm pos')) spos.line X.env=pure true:=by rfl)(hf:X.fn nm=true\/X.env.scope.names.lookup nm=some .local:=by first | exact .inl rfl | exact .inr rfl | assumption)(hs:∀x,foldedSetIterable iter X.env x=pure x:=by intro _;rfl):PS X (.Assign [.Name nm pos'] (.ListComp elt [⟨.Tuple [.Name x px,.Name y py] k tp,iter,ifs,0⟩] scope pos) spos) (tSetC ii (SB 2 js wi (gTup X.K 2 (gCons (Wa 0) (gCons (Wa 1) gNil))) tt te)):=
 ps_comp hNd hii hloc hc hsc hN B hi (fun cl C s H fp=>Xt (X:=blk X (x::y::N) scope cl C s H fp) hc (Ze (Zl (i:=0) B.nd rfl (.inl (Ye hx)) (.inr (Ye hx))) (Ze (Zl (i:=1) B.nd rfl (.inl (Ye hy)) (.inr (Ye hy))) X9))) ht he hsw hf hs
end
section
variable {X:Cx}
theorem ints_of:∀(l:List Int) (vs:List Value),Y7 (l.map V.int) vs->∃ps:List (Int×Tok),vs=ps.map (fun p=>Value.int p.1 p.2)/\ps.map (·.1)=l
 |[],vs,v=>by cases v;exact⟨[],rfl,rfl⟩
 |n::l,vs,v=>by
  cases v with
  |cons a b=>
   obtain⟨t,rfl⟩:=a
   obtain⟨ps,rfl,e⟩:=ints_of l _ b
   exact⟨(n,t)::ps,rfl,by rw[Y3,e]⟩
def rMaxL (K:W.Frag):List V->Hp->VK->Prop:=fun xs H Q=>∃(p:Addr) (ns:List Int),xs=[.ref p]/\Zp K H p (ns.map V.int)/\ns≠[]/\∀m,m∈ns->(∀x∈ns,x<=m)->Q (.int m) H
theorem call_maxL (hc:X.calm=true):XC X (.builtin "max") (rMaxL X.K):=by
 intro pins s σ H xs us Q I r h
 obtain⟨p,ns,rfl,hq,ne,q⟩:=h
 obtain⟨u,rfl,rx⟩:=Wr r
 cases(show u=Value.ref p from rx)
 obtain⟨its,r',pl,hz⟩:=I.list hq
 obtain⟨ps,e1,e2⟩:=ints_of ns its r'
 have ln:ps.length=ns.length:=by rw[<-e2,Z2]
 have n0:0<ns.length:=Y9.mpr ne
 have hl:s.heap.IsList p (intItems ps.toArray):=by
  have z:=pl.isList
  rw[e1]at z
  have e3:(ps.map fun p=>Value.int p.1 p.2).toArray=intItems ps.toArray:=by unfold intItems;simp
  rw[e3]at z
  exact z
 have na:∀i,i<ns.length->numAt ps.toArray i=ns.getD i 0/\ns.getD i 0∈ns:=fun i hi=>by
  have hi':i<ps.length:=by omega
  have e4:ns[i]?=some ps[i].1:=by rw[<-e2,ZQ,Z1 hi'];rfl
  unfold numAt
  rw[Z4,e4]
  refine⟨?_,Zh e4⟩
  have:ps.toArray[i]?=some ps[i]:=by simp[hi']
  rw[this]
  rfl
 obtain⟨b1,b2⟩:=argBest_gt (numAt ps.toArray) (ps.toArray.size - 1)
 refine max_intList (I.ok.hd hc) hl (by simp;omega) fun v h' tk hv hk=>?_
 obtain⟨t,rfl⟩:=intItems_at hv
 have bl:argBest (fun i j=>decide (numAt ps.toArray i>numAt ps.toArray j)) (ps.toArray.size - 1)<ns.length:=by
  have:ps.toArray.size=ns.length:=by simp[ln]
  omega
 obtain⟨c1,c2⟩:=na _ bl
 refine⟨.int (numAt ps.toArray (argBest (fun i j=>decide (numAt ps.toArray i>numAt ps.toArray j)) (ps.toArray.size - 1))),H,I.kept hk,⟨_,rfl⟩,q _ (by rw[c1];exact c2) fun x hx=>?_⟩
 obtain⟨j,hj,rfl⟩:=List.mem_iff_getElem.mp hx
 have:=b2 j (by have:ps.toArray.size=ns.length:=by simp[ln]
                omega)
 rw[(na j hj).1,Z4,Z1 hj]at this
 exact this
end
section
variable {prog:Program}{w:World}{A:Around}{E:Value->Shared->Prop}{s:Shared}{I S:Addr}{d:Value}{c:Nat}{Q:PySem.Fin->Shared->Prop}{PN:Value->Sem (Option Value)}
end
section
variable {prog:Program}{w:World}{A:Around}{E:Value->Shared->Prop}{s:Shared}
end
section
variable {X:Cx}{e:Expr}{t:TA}
def tRevL (K:W.Frag)(te:TE):TE:=fun σ H Q=>te σ H fun x H1=>∃a xs,x=.ref a/\Zp K H1 a xs/\∀p,H1 p=none->Q (.ref p) (upd H1 p (.lst xs.reverse))
theorem pe_revL {te:TE}{k:Nat}{p1 p2 p3 pos:Pos}(he:PE X e te):PE X (.Subscript e (.Slice none none (some (.UnaryOp .USub (.Constant (.int 1) k p1) p2)) p3) pos) (tRevL X.K te):=by
 intro pins s σ H Q I h
 refine Subscript_ (thn (he pins s σ H _ I h) fun v s1 ⟨x,H1,I1,r1,q1⟩=>?_)
 obtain⟨a,xs,rfl,hx,q⟩:=q1
 cases(show v=Value.ref a from r1)
 refine wpAny_Slice ?_
 rw[evalPart_none]
 refine wpAny_pure (wpAny_pure ?_)
 rw[evalPart_some]
 refine thn (XG Yn ZZ pins s1 σ H1 (fun w H2=>H2=H1/\w=.int (-1)) I1 ⟨1,rfl,rfl,rfl⟩) fun u s2 ⟨y,H2,I2,r2,e2,e3⟩=>?_
 subst e2 e3
 obtain⟨tk,rfl⟩:=(show ∃t,u=Value.int (-1) t from r2)
 have I3:Zq X pins σ H2 {s2 with heap:=s2.heap.push {cls:=.type "slice",data:=.fields #[.none,.none,.int (-1) tk]}}:=I2.kept (t':=s2.toks) fun b ob q=>Z8 _ q
 obtain⟨its,r,ht,hz⟩:=I3.list hx
 have hlen:=r.length
 refine tail_any (ops:=[.ref a,.ref s2.heap.objs.size]) ht.isList.typeIs slot_list_getitem.lookup (wpAny_getItem_list_slice ht.isList (Heap.IsSliceOf.new ..) .none .none (.int _ _) (by simp) ?_ (by rw[ZF];omega)) (by with_unfolding_all rfl)
 rw[PySem.W.krv_pick]
 refine⟨.ref _,_,I3.laid (t':=s2.toks) (o:=.lst xs.reverse) (fun b ob q=>Z8 _ q) (Nat.le_refl _) ?_,rfl,q _ (I3.hok.fresh (Nat.le_refl _))⟩
 exact⟨by rw[WZ];exact hz,_,0,r.reverse,Zv _ rfl⟩
end
section
variable {X:Cx}
def rMinL (K:W.Frag):List V->Hp->VK->Prop:=fun xs H Q=>∃(p:Addr) (ns:List Int),xs=[.ref p]/\Zp K H p (ns.map V.int)/\ns≠[]/\∀m,m∈ns->(∀x∈ns,m<=x)->Q (.int m) H
theorem call_minL (hc:X.calm=true):XC X (.builtin "min") (rMinL X.K):=by
 intro pins s σ H xs us Q I r h
 obtain⟨p,ns,rfl,hq,ne,q⟩:=h
 obtain⟨u,rfl,rx⟩:=Wr r
 cases(show u=Value.ref p from rx)
 obtain⟨its,r',pl,hz⟩:=I.list hq
 obtain⟨ps,e1,e2⟩:=ints_of ns its r'
 have ln:ps.length=ns.length:=by rw[<-e2,Z2]
 have n0:0<ns.length:=Y9.mpr ne
 have hl:s.heap.IsList p (intItems ps.toArray):=by
  have z:=pl.isList
  rw[e1]at z
  have e3:(ps.map fun p=>Value.int p.1 p.2).toArray=intItems ps.toArray:=by unfold intItems;simp
  rw[e3]at z
  exact z
 have na:∀i,i<ns.length->numAt ps.toArray i=ns.getD i 0/\ns.getD i 0∈ns:=fun i hi=>by
  have hi':i<ps.length:=by omega
  have e4:ns[i]?=some ps[i].1:=by rw[<-e2,ZQ,Z1 hi'];rfl
  unfold numAt
  rw[Z4,e4]
  refine⟨?_,Zh e4⟩
  have:ps.toArray[i]?=some ps[i]:=by simp[hi']
  rw[this]
  rfl
 obtain⟨b1,b2⟩:=argBest_lt (numAt ps.toArray) (ps.toArray.size - 1)
 refine min_intList (I.ok.hd hc) hl (by simp;omega) fun v h' tk hv hk=>?_
 obtain⟨t,rfl⟩:=intItems_at hv
 have bl:argBest (fun i j=>decide (numAt ps.toArray i<numAt ps.toArray j)) (ps.toArray.size - 1)<ns.length:=by
  have:ps.toArray.size=ns.length:=by simp[ln]
  omega
 obtain⟨c1,c2⟩:=na _ bl
 refine⟨.int (numAt ps.toArray (argBest (fun i j=>decide (numAt ps.toArray i<numAt ps.toArray j)) (ps.toArray.size - 1))),H,I.kept hk,⟨_,rfl⟩,q _ (by rw[c1];exact c2) fun x hx=>?_⟩
 obtain⟨j,hj,rfl⟩:=List.mem_iff_getElem.mp hx
 have:=b2 j (by have:ps.toArray.size=ns.length:=by simp[ln]
                omega)
 rw[(na j hj).1,Z4,Z1 hj]at this
 exact this
end
def tMid (t:TS):TS:=fun D σ H=>∃mid:St->Hp->Prop,t {D with nx:=mid} σ H/\∀σ' H',mid σ' H'->D.nx σ' H'
theorem ps_mid {X:Cx}{st:Stmt}{t:TS}(h:PS X st t):PS X st (tMid t):=fun pins s σ H D I ⟨mid,h1,h2⟩=>
 wpAny_mono (h pins s σ H _ I h1) (fun f s' q=>by
  cases f with
  |next=>obtain⟨σ',H',I',q⟩:=q;exact⟨σ',H',I',h2 _ _ q⟩
  |brk=>exact q
  |cont=>exact q
  |ret v=>exact q) fun _ _ z=>z
def Ite (K:W.Frag)(l:Addr):It where
 go:=fun i H=>∃xs x,Zp K H l xs/\xs[i]?=some x
 yld:=fun i H v H'=>∃p x,v=.ref p/\H p=none/\H'=upd H p (.tup [.int i,x])/\∀xs,Zp K H l xs->xs[i]?=some x
 stop:=fun i H=>∃xs,Zp K H l xs/\xs[i]?=none
theorem turn_enum {P:Program}{w:World}{K:W.Frag}{es:List Expr}{k0:Nat}{pos:Pos}{e i l:Addr}(a1:e≠i)(c1:l∉[e,i]) :
 Turn P w K (.Tuple es k0 pos) (Ite K l) [e,i] e (fun k h=>(∃old,IsEnum h e i (k:Int) old)/\h.IsListIter i l k) where
 mem:=by simp
 obj:=fun k h ⟨⟨old,he⟩,⟨o,e1,_,d1⟩⟩ c hc=>by
  simp only[ZV,ZC,or_false]at hc
  rcases hc with rfl | rfl
  ·exact⟨_,he,fun v q=>by cases q⟩
  ·exact⟨_,e1,fun v q=>by rw[d1]at q;cases q⟩
 keep:=fun k h h' ⟨⟨old,he⟩,h3⟩ kp=>⟨⟨old,kp e (by simp) _ he⟩,h3.at fun o z=>kp i (by simp) o z⟩
 item:=by
  intro X hP hw hK hc k pins s σ H E I hf st hg
  subst hP hw hK
  obtain⟨xs,x,hl,hx⟩:=hg
  obtain⟨⟨old,he⟩,hi⟩:=st
  simp only[ZV,ZC,or_false,not_or]at c1
  obtain⟨its,r1,pl,_⟩:=I.list hl
  obtain⟨u,hu,ru⟩:=r1.get hx
  refine wpAny_pyNext_enum_item he hi pl.isList (x:=u) (by simpa using hu) a1 fun h' z1 z2 z3 z4 kp=>?_
  refine⟨_,rfl,wpAny_letOwnedTupleGo_enum z1 fun h'' y1 sb=>?_⟩
  have fz:H s.heap.objs.size=none:=I.hok.fresh (Nat.le_refl _)
  have mine:∀c∈[e,i],c≠s.heap.objs.size:=fun c hc'=>by
   obtain⟨o1,e1,_⟩:=id hi
   simp only[ZV,ZC,or_false]at hc'
   rcases hc' with rfl | rfl
   ·exact Zs (ZA he)
   ·exact Zs (ZA e1)
  have kp2:∀c o,c∉[e,i]->s.heap.get? c=some o->h''.get? c=some o:=fun c o hc' z=>by
   simp only[ZV,ZC,or_false,not_or]at hc'
   exact sb.extBut _ _ hc'.1 (kp c o hc'.1 hc'.2 z)
  have tp:h''.get? s.heap.objs.size=some {cls:=.type "tuple",data:=.seq #[.int k s.toks,u]}:=sb.extBut _ _ (mine e (by simp)).symm z3
  have notH:∀c∈[e,i],H c=none:=fun c hc'=>(hf c hc').1
  have I1:Zq X pins σ (upd H s.heap.objs.size (.tup [.int k,x])) {s with heap:=h'',toks:=s.toks+1}:=by
   have un:Un X.fs [e,i] H (upd H s.heap.objs.size (.tup [.int k,x])) s.heap h'':=
    ⟨fun c o z n nf hx=>kp2 c o hx z,fun c o z n nf hx=>⟨o.slots,kp2 c o hx z⟩,fun c o z n hx=>by rw[ZS (Zs (ZA z))];exact n,
     fun c o z hx=>⟨o,kp2 c o hx z⟩,fun c xs z=>by rw[ZS (ZP z fz)];exact z,fun c o xs z=>by rw[ZS (ZP z fz)];exact z,fun c ps z=>⟨#[],by rw[ZS (ZP z fz),z];simp⟩⟩
   have hok:VC X.prog X.w (upd H s.heap.objs.size (.tup [.int k,x])) h'':=fun c o z=>by
    by_cases hcs:c=s.heap.objs.size
    ·subst hcs
     rw[Z5]at z
     cases z
     exact⟨by show 2<=sizeLine;decide,[.int k s.toks,u],.cons ⟨_,rfl⟩ (.cons ru .nil),⟨_,tp,rfl,_,rfl⟩⟩
    ·rw[ZS hcs]at z
     refine(I.hok c o z).stay (fun d w' hd q=>kp2 d w' (fun zz=>?_) q) (fun d q=>?_) fun d w' q=>?_
     ·have hn:=notH d zz
      rcases hd with rfl | hd
      ·rw[hn]at z;cases z
      ·rw[hn]at hd;cases hd
     ·rw[ZS (ZP q fz)];exact q
     ·rw[ZS (ZP q fz)];exact q
   have hch:∀b∈[e,i],(b∈X.ex\/X.s₀.heap.objs.size<=b)/\b≠X.env.locals/\(∀x c,X.env.cells.lookup x=some c->c≠b)/\∀p∈X.pn++pins,p.1≠b:=fun b hb=>⟨(hf b hb).2.2.2.1,(hf b hb).2.1,(hf b hb).2.2.2.2.1,(hf b hb).2.2.2.2.2⟩
   refine I.step (g':=s.gens) (d':=s.drawn) (t':=s.toks+1) (ch:=[e,i]) hch (fun c o _ _ hc' z _=>kp2 c o hc' z) (fun c o _ _ hc' z _=>⟨o.slots,kp2 c o hc' z⟩) (fun c o hc' z n=>un.free c o z n hc') (fun c o hc' z=>un.there c o z hc') un.tups un.frzs un.tbls (fun m' hm'=>?_) hok I.bare
   obtain⟨o,es',ep,ho,r⟩:=hm'
   exact⟨o,es',ep,kp2 _ o (fun zz=>(hf _ zz).2.1 rfl) ho,r⟩
  refine⟨.ref s.heap.objs.size,_,I1,rfl,⟨s.heap.objs.size,x,rfl,fz,rfl,fun xs' q=>by rw[I.list_inj q hl];exact hx⟩,?_,fun c hc'=>?_⟩
  ·refine⟨⟨u,?_⟩,z2.at fun o z=>sb.extBut _ _ (Ne.symm a1) z⟩
   rw[show((k+1:Nat):Int)=(k:Int)+1 by omega]
   exact y1
  ·rw[ZS (mine c hc')]
   exact notH c hc'
 done:=by
   intro X hP hw hK hc k pins s σ H E I hf st hg
   subst hP hw hK
   obtain⟨xs,hl,hx⟩:=hg
   obtain⟨⟨old,he⟩,hi⟩:=st
   obtain⟨its,r1,pl,_⟩:=I.list hl
   refine wpAny_pyNext_enum_end (I.ok.hd hc) he hi pl.isList (by simpa using r1.none_of hx) fun h' kp=>⟨rfl,?_⟩
   have kp2:∀c o,c∉[e,i]->s.heap.get? c=some o->h'.get? c=some o:=fun c o hc' z=>by
    simp only[ZV,ZC,or_false,not_or]at hc'
    exact kp c o hc'.2 z
   have hch:∀b∈[e,i],(b∈X.ex\/X.s₀.heap.objs.size<=b)/\b≠X.env.locals/\(∀x c,X.env.cells.lookup x=some c->c≠b)/\∀p∈X.pn++pins,p.1≠b:=fun b hb=>⟨(hf b hb).2.2.2.1,(hf b hb).2.1,(hf b hb).2.2.2.2.1,(hf b hb).2.2.2.2.2⟩
   refine I.step (g':=s.gens) (d':=s.drawn) (t':=s.toks) (ch:=[e,i]) hch (fun c o _ _ hc' z _=>kp2 c o hc' z) (fun c o _ _ hc' z _=>⟨o.slots,kp2 c o hc' z⟩) (fun _ _ _ _ n=>n) (fun c o hc' z=>⟨o,kp2 c o hc' z⟩) (fun _ _ z=>z) (fun _ _ _ z=>z) (fun b ps z=>⟨#[],by rw[z];simp⟩) (fun m' hm'=>?_) (fun c o z=>?_) I.bare
   ·obtain⟨o,es',ep,ho,r⟩:=hm'
    exact⟨o,es',ep,kp2 _ o (fun zz=>(hf _ zz).2.1 rfl) ho,r⟩
   ·refine(I.hok c o z).stay (fun d w' hd q=>kp2 d w' (fun zz=>?_) q) (fun _ q=>q) fun _ _ q=>q
    have hn:=(hf d zz).1
    rcases hd with rfl | hd
    ·rw[hn]at z;cases z
    ·rw[hn]at hd;cases hd
 self:=fun A k s Q E st h=>by
  obtain⟨⟨old,he⟩,_⟩:=st
  exact wpAny_pyIter_enum he h
theorem not_fresh2 {n c:Nat}(h:c<n)(z:c=n+1\/c=n):False:=by omega
theorem fresh2 {n c:Nat}(z:c=n+1\/c=n):n<=c:=by omega
section
variable {X:Cx}
def iEnum (K:W.Frag)(ta:TA):TI:=fun σ H R=>ta σ H fun vs H1=>∃l xs,vs=[.ref l]/\Zp K H1 l xs/\R (Ite K l) H1
theorem pi_enum {es:List Expr}{k0:Nat}{tp:Pos}{a:Expr}{ta:TA}{p pos:Pos}(hg:Gl X "enumerate")(hm:X.mg "enumerate" = none)(ha:PA X [a] ta)(hs:starEach [a] X.env=[(false,eval a X.env)]:=by rfl) :
 PI X (.Tuple es k0 tp) (.Call (.Name "enumerate" p) [a] [] pos) (iEnum X.K ta):=by
 intro pins s σ H R I h
 refine Call_ (Wm I hg hm boot_enumerate (callWith_type1 (thn (ha pos pins s σ H _ I h) fun us s1 ⟨vs,H1,I1,r1,q1⟩=>?_) (by rw[hs];rfl) (by rfl)))
 obtain⟨l,xs,e,hl,q⟩:=q1
 subst e
 obtain⟨u,rfl,ru⟩:=Wr r1
 cases(show u=Value.ref l from ru)
 obtain⟨its,_,pl,_⟩:=I1.list hl
 obtain⟨ol,eol,_⟩:=id pl.isList
 have ll:l<s1.heap.objs.size:=ZA eol
 refine call_enumerate_list pl.isList fun h' z1 z2 z3 kp=>?_
 have I2:Zq X pins σ H1 {s1 with heap:=h'}:=I1.kept (t':=s1.toks) kp
 refine wpAny_pyIter_enum z1 ⟨s1.heap.objs.size+1,[s1.heap.objs.size+1,s1.heap.objs.size],_,_,H1,rfl,I2,turn_enum (l:=l) (Nat.succ_ne_self _) (fun z=>?_),⟨⟨_,z1⟩,z2⟩,fun c hc=>?_,q⟩
 ·simp only[ZV,ZC,or_false]at z;exact not_fresh2 ll z
 ·have hcs:s1.heap.objs.size<=c:=by simp only[ZV,ZC,or_false]at hc;exact fresh2 hc
  exact I1.fpOk hcs (I1.hok.fresh hcs)
end
theorem items_enum {K:W.Frag}{a:Addr}{xs:List V}{H1:Hp}(h:H1 a=some (.lst xs))(i:Nat)(H:Hp)(s:ZR H1 H) :
 (i<xs.length->(Ite K a).go i H/\∀v H2,(Ite K a).yld i H v H2->ZR H H2/\∃p x,v=.ref p/\H2 p=some (.tup [.int i,x])/\xs[i]?=some x)/\(xs.length<=i->(Ite K a).stop i H):=by
 have q:Zp K H a xs:=Zp.of (s _ _ h)
 refine⟨fun hi=>⟨⟨xs,xs[i]'hi,q,Z1 hi⟩,fun v H2 ⟨p,x,e1,e2,e3,e4⟩=>?_⟩,fun hi=>⟨xs,q,Zd hi⟩⟩
 subst e3
 exact⟨Z9 e2 _,p,x,e1,Z5,e4 xs q⟩
def Rws (H:Hp)(xs:List V)(rs:List (List Int)):Prop:=xs.length=rs.length/\∀(j:Nat) (r:List Int),rs[j]?=some r->∃p,xs[j]?=some (.ref p)/\H p=some (.tup (r.map V.int))
theorem Rws.keep {H H':Hp}{ys:List V}{rs:List (List Int)}(t:Rws H ys rs)(s:∀p xs,H p=some (.tup xs)->H' p=some (.tup xs)):Rws H' ys rs:=⟨t.1,fun j b e=>let⟨p,a,c⟩:=t.2 j b e;⟨p,a,s _ _ c⟩⟩
theorem Rws.same {H H':Hp}{ys:List V}{rs:List (List Int)}(t:Rws H ys rs)(s:ZR H H'):Rws H' ys rs:=t.keep fun p xs e=>s _ _ e
theorem rws_nil (H:Hp):Rws H [] []:=⟨rfl,fun j r e=>by cases e⟩
theorem rws_cons {H:Hp}{p:Addr}{ys:List V}{r:List Int}{rs:List (List Int)}(h:H p=some (.tup (r.map V.int)))(t:Rws H ys rs):Rws H (.ref p::ys) (r::rs):=by
 refine⟨by rw[ZM,ZM,t.1],fun j b e=>?_⟩
 cases j with
 |zero=>cases e;exact⟨p,rfl,h⟩
 |succ j=>exact t.2 j b e
theorem rws_inv {H:Hp}{ys:List V}{r:List Int}{rs:List (List Int)}(t:Rws H ys (r::rs)):∃p zs,ys=.ref p::zs/\H p=some (.tup (r.map V.int))/\Rws H zs rs:=by
 obtain⟨hl,h⟩:=t
 obtain⟨p,e,hp⟩:=h 0 r rfl
 cases ys with
 |nil=>cases e
 |cons y zs=>
  have:y=.ref p:=by simpa using e
  subst this
  exact⟨p,zs,rfl,hp,by simpa using hl,fun j b e=>h (j+1) b e⟩
section
variable {X:Cx}
theorem call_tupK (K:W.Frag)(h:X.K=K):XC X (.type "tuple") (fun xs H Q=>∃p ys,xs=[.ref p]/\((Zp K H p ys/\∀l,H l=none->Q (.ref l) (upd H l (.tup ys)))\/(Y0 K H p ys/\Q (.ref p) H))):=by subst h;exact Zz
end
section
variable {X:Cx}
end
theorem comp_inv {J:It}{g:TG}{te:TE}{Q:VK}{D:Addr}{H1:Hp}{σ0:St}(n:Nat)(hn:n<=sizeLine)(Pv:Nat->St->Hp->List V->Prop)(itm:Nat->V->Prop)(h0:Pv 0 σ0 (upd H1 D (.lst [])) [])(hD:∀i σ H ys,Pv i σ H ys->H D=some (.lst ys)/\ys.length=i)(items:∀i σ H ys,Pv i σ H ys->(i<n->J.go i H/\∀x H2,J.yld i H x H2->H2=H/\itm i x)/\(n<=i->J.stop i H))(step:∀i x σ H ys,i<n->Pv i σ H ys->itm i x->∀R:St->V->Hp->Prop,(∀σ3 y H5,H5 D=some (.lst ys)->Pv (i+1) σ3 (upd H5 D (.lst (ys++[y]))) (ys++[y])->R σ3 y H5)->g x σ H fun σ3 H3=>te σ3 H3 (R σ3))(fin:∀σ H ys,Pv n σ H ys->Q (.ref D) H):cmpW J g tYes te Q D σ0 H1:=by
 refine⟨fun i m σ H=>m=n - i/\i<=n/\∃ys,Pv i σ H ys,⟨n,by omega,Yp _,[],h0⟩,?_⟩
 rintro i m σ H ⟨rfl,hi,ys,pv⟩
 by_cases hlt:i<n
 ·obtain⟨go,yl⟩:=(items i σ H ys pv).1 hlt
  refine .inr ⟨go,fun x H2 y=>?_⟩
  obtain⟨rfl,im⟩:=yl x H2 y
  have key:=step i x σ H2 ys hlt pv im (fun σ3 y H5=>∃ys,H5 D=some (.lst ys)/\ys.length<sizeLine/\∃m',m'<n - i/\(m'=n - (i+1)/\i+1<=n/\∃zs,Pv (i+1) σ3 (upd H5 D (.lst (ys++[y]))) zs)) fun σ3 y H5 e p=>by
   have:=(hD _ _ _ _ pv).2
   exact⟨ys,e,by omega,n - (i+1),by omega,rfl,by omega,_,p⟩
  have e:(fun(σ3:St) (H3:Hp)=>te σ3 H3 fun y H5=>∃ys,H5 D=some (.lst ys)/\ys.length<sizeLine/\∃m',m'<n - i/\(m'=n - (i+1)/\i+1<=n/\∃zs,Pv (i+1) σ3 (upd H5 D (.lst (ys++[y]))) zs)) =
   fun(σ3:St) (H3:Hp)=>tYes σ3 H3 fun ok H4=>if ok=true then te σ3 H4 fun y H5=>∃ys,H5 D=some (.lst ys)/\ys.length<sizeLine/\∃m',m'<n - i/\(m'=n - (i+1)/\i+1<=n/\∃zs,Pv (i+1) σ3 (upd H5 D (.lst (ys++[y]))) zs)
    else ∃m',m'<n - i/\(m'=n - (i+1)/\i+1<=n/\∃zs,Pv (i+1) σ3 H4 zs):=by
   funext σ3 H3
   unfold tYes
   dsimp only
   rw[if_pos rfl]
  rw[<-e]
  exact key
 ·have e:i=n:=by omega
  subst e
  exact .inl ⟨(items i σ H ys pv).2 (Nat.le_refl _),fin σ H ys pv⟩
theorem Tc {P:Program}{w:World}{K:W.Frag}{mg:Str->Option Value}{base:Heap}{k:Nat}{f:Addr}{H:Hp}{Q Q':VK}{E:XK}(r:Runs P w K mg base k f H Q E)(hq:∀v H1,Q v H1->Q' v H1):Runs P w K mg base k f H Q' E:=
 fun A outer s hr e0=>codeAny_mono (r A outer s hr e0) fun rs s' h=>by
  cases rs with
  |error e=>exact h
  |ok fl=>
   cases fl with
   |ret u=>obtain⟨v,H1,a,b,c,d,e,q⟩:=h;exact⟨v,H1,a,b,c,d,e,hq _ _ q⟩
   |next=>exact h
   |brk=>exact h
   |cont=>exact h
abbrev EN:XK:=fun _ _ _=>False
def tCallV (X:Cx)(k i:Nat):TE:=fun σ H Q=>∃f o fd,σ[i]?=some (some (.ref f))/\H f=some (Fz f o)/\o.data=.func fd/\Runs X.prog X.w X.K X.mg X.base k f H Q EN
theorem pe_callV {X:Cx}{k i:Nat}{x:Str}{p cpos:Pos}(hr:Xv k X.A)(hN:X.N[i]?=some x)(hv:X.env.scope.names.lookup x=some .local)(hd:(x==("__debug__" : Str))=false:=by decide) :
 PE X (.Call (.Name x p) [] [] cpos) (tCallV X k i):=by
 intro pins s σ H Q I h
 obtain⟨f,o,fd,e1,e2,e3,run⟩:=h
 obtain⟨m,hn,hl⟩:=id I.loc
 obtain⟨u,r,l⟩:=hl i x _ hN e1 (.inl hv)
 obtain rfl:u=.ref f:=r
 have hm:m x=some (.ref f):=by
  rcases l with⟨_,z⟩ | ⟨z,_⟩
  ·exact z
  ·have z:X.env.scope.names.lookup x=some .cell\/X.env.scope.names.lookup x=some .free:=z
   rw[hv]at z
   rcases z with z | z<;>cases z
 refine wpAny_Call_Name_kw (wpAny_Name (wpAny_loadName_local I.ok.kind hv hn hm ?_) hd)
 refine callWith_of (P:=fun h=>h.get? f=some o) rfl (keeps_F e3) (evalArgs_nil3 ⟨fz_get I.hok e2,?_⟩)
 refine wpAny_call (codeAny_mono (run X.A X.stack s hr I.env0) fun rs s' hq=>?_)
 cases rs with
 |error e=>
  obtain⟨_,_,_,_,_,q⟩:=hq
  exact q.elim
 |ok fl=>
  cases fl with
  |ret u=>exact I.after hq
  |next=>exact False.elim hq
  |brk=>exact False.elim hq
  |cont=>exact False.elim hq
section
variable {X:Cx}{T c:Addr}{params:Arguments}{body:Expr}{scope sc:Scope}{x:Str}{p lpos pos:Pos}{k kr k':Nat}{px:Str}{Ec:VK->XK}{te:XK->TE}{N N0:List Str}{js:List Nat}
end
def Twice (S:Hp->V->Prop)(H0:Hp)(Q:VK)(again:Hp->VK->Prop):VK:=fun v H1=>∃(r:Addr) (ys:List V),v=.ref r/\ZR H0 H1/\H0 r=none/\H1 r=some (.lst ys)/\ys.length<=10000/\S H1 v/\
 ∀(H2:Hp) (e:Addr),ZR H1 H2->H2 e=some (.tup [])->again (upd H2 r (.lst (ys++[.ref e]))) fun v2 H3=>S H3 v2/\∀H4,ZR H3 H4->Q (.bl true) H4
def spAgain (S:Hp->V->V->Prop)(P:Program)(w:World)(K:W.Frag)(mg:Str->Option Value)(base:Heap)(k:Nat):Sp:=fun vs H Q _=>
 ∃f o fd d,vs=[.ref f,d]/\H f=some (Fz f o)/\o.data=.func fd/\Runs P w K mg base k f H (Twice (fun H1 v=>S H1 v d) H Q fun H2 Q2=>H2 f=some (Fz f o)/\Runs P w K mg base k f H2 Q2 EN) EN
def HasA (S:Hp->V->V->Prop)(P:Program)(w:World)(K:W.Frag)(mg:Str->Option Value)(kr k:Nat)(x px py:Str):Prop:=
 ∃(f:Addr) (fd:FuncData),(∀base,Y6 P w K mg base XB kr f fd [px,py] (spAgain S P w K mg base k))/\mg x=some (.ref f)/\Um K (.ref f)=true/\UF K fd [px,py] []
def tAgain (S:Hp->V->V->Prop)(X:Cx)(T:Addr)(params:Arguments)(body:Expr)(scope:Scope)(js:List Nat)(te:XK->TE)(t2:TE):TE:=fun σ H Q=>Wv (lamQ X) H T/\∀f H',LamAt X T params body scope H f H'->
 t2 σ H' fun d H2=>∃f0 H1 d0,[V.ref f,d]=[.ref f0,d0]/\LamAt X T params body scope H f0 H1/\ZR H1 H2/\te EN (inner 0 js σ) H2 (Twice (fun H1 v=>S H1 v d0) H2 Q fun H3 Q2=>te EN (inner 0 js σ) H3 Q2)
theorem twice_keep {S:Hp->V->Prop}{H0:Hp}{Q:VK}{ag ag':Hp->VK->Prop}{v:V}{H1:Hp}(h:Twice S H0 Q ag v H1)(hq:∀H3 Q2,ZR H0 H3->ag H3 Q2->ag' H3 Q2):Twice S H0 Q ag' v H1:=by
 obtain⟨r,ys,e,s1,n,l,b,sv,a⟩:=h
 exact⟨r,ys,e,s1,n,l,b,sv,fun H2 e s2 he=>hq _ _ (fun c o hc=>by rw[ZS (ZP hc n)];exact s2 _ _ (s1 _ _ hc)) (a H2 e s2 he)⟩
section
variable {S:Hp->V->V->Prop}{X:Cx}{T c:Addr}{params:Arguments}{body e2:Expr}{scope sc:Scope}{x:Str}{p lpos pos:Pos}{k kr k':Nat}{px py:Str}{te:XK->TE}{t2:TE}{N N0:List Str}{js:List Nat}
theorem Ux (h:HasA S X.prog X.w X.K X.mg kr (k+1) x px py)(hr:Xv k' X.A)(hcode:X.env.code=.ref c)(C:CodeHd X.base c T)(Bl:VO X.mg X.base)(hsc:X.env.scope=sc)(hN:X.N=N0)(Sc:LamS scope)(B:Blk sc N0 N 0 js scope)(hbody:∀(base:Heap) (E:XK) (cl:List (Str×Addr)) (f:Addr) (cd:Value) (A:Around) (outer:List Env) (s:Shared) (H:Hp),Xv k (A.deeper (PySem.W.envX (lamQ X) scope s.heap.objs.size f cd cl))->
  PE (Su X.prog X.w X.K X.mg base N (lamQ X) scope cl f cd A outer s H E) body (te E))(h2:PE X e2 t2)(hs2:starEach [e2] X.env=[(false,eval e2 X.env)]:=by rfl)(hfn:∀x,X.fn x=true:=by intro _;rfl)(hk:kr<=k':=by decide)(hg:Gl X x:=by rfl)(hbind:∀cl pm cd ctv,bindArgs (kla_fn "<lambda>" (lamQ X) params body scope cl pm cd ctv) ⟨[],[]⟩=pure []:=by intros;rfl)(hdef:defaultsOf params X.env=([],[]):=by rfl)(hdb:(x==("__debug__" : Str))=false:=by decide)(hpl:(backTo pos (starEach [e2] X.env)).any (·.1)=false:=by rfl):PE X (.Call (.Name x p) [.Lambda params body scope lpos,e2] [] pos) (tAgain S X T params body scope js te t2):=by
 subst hsc hN
 obtain⟨r0,fd,F,hm,kp,hb⟩:=h
 intro pins s σ H Q I h
 refine wpAny_Call_Name_kw (UU I hg hm ?_ hdb)
 have ha:PA X [.Lambda params body scope lpos,e2] (tCons (tLam X T params body scope) (tCons t2 tNil)):=Z0 (pe_lam hcode C Bl B.cap hdef) (Z0 h2 Z3 hs2) rfl
 refine callWith_K (h₀:=X.base) I.ok.mod.kin kp (thn (ha pos pins s σ H (fun vs H2=>∃f H1 d,vs=[.ref f,d]/\LamAt X T params body scope H f H1/\ZR H1 H2/\te EN (inner 0 js σ) H2 (Twice (fun H1 v=>S H1 v d) H2 Q fun H3 Q2=>te EN (inner 0 js σ) H3 Q2)) I ⟨h.1,fun f H1 L=>?_⟩) fun us s1 ⟨vs,H2,I1,r,f,H1,d,ev,L,sm,q⟩=>⟨I1.kIn,?_⟩) rfl hpl
 ·exact h.2 f H1 L
 subst ev
 obtain⟨cl,pm,c',ctv,oc,vs,t,a1,a2,a3,a4,c1,c2⟩:=L.ob
 have a1:=sm _ _ a1
 have a2:=sm _ _ a2
 have cap:=I1.cap B c1 c2
 have run:=Tc (runs_lam (k:=k) a1 a2 a3 a4 Sc cap (hbind _ _ _ _) (fun A outer s hr=>hbody _ _ _ _ _ _ _ _ _ hr) q) (Q':=Twice (fun H1 v=>S H1 v d) H2 Q fun H3 Q2=>H3 f=some (Fz f (kla_obj "<lambda>" (lamQ X) params body scope cl pm c' ctv))/\Runs X.prog X.w X.K X.mg (WF X.base cl s1.heap) (k+1) f H3 Q2 EN)
  fun v H3 tw=>twice_keep tw fun H3 Q2 sm q2=>⟨sm _ _ a1,runs_lam (k:=k) (sm _ _ a1) (sm _ _ a2) a3 a4 Sc cap (hbind _ _ _ _) (fun A outer s hr=>hbody _ _ _ _ _ _ _ _ _ hr) q2⟩
 have hl:us.length=[px,py].length:=r.length.symm
 refine wpAny_call (codeAny_mono ((F (WF X.base cl s1.heap)).run X.A X.stack s1 H2 ⟨us,[]⟩ us [.ref f,d] Q E0 (hr.mono hk) (I1.env1 hfn c1) (by simpa using hb s1 us I1.kIn (by simpa using hl)) r ⟨f,_,_,d,rfl,a1,rfl,run⟩) fun rs s' hq=>?_)
 cases rs with
 |error e=>exact False.elim hq
 |ok fl=>
  cases fl with
  |ret u=>exact I1.after hq
  |next=>exact False.elim hq
  |brk=>exact False.elim hq
  |cont=>exact False.elim hq
end
def tMk (C:Addr)(ta:TA):TE:=fun σ H Q=>ta σ H fun vs H1=>vs.length<=sizeLine/\∀e,H1 e=none->Q (.ref e) (upd H1 e (Xe e C))
section
variable {X:Cx}
theorem Zq.exc {pins:List (Addr×Obj)}{σ:St}{H:Hp}{s:Shared}{h':Heap}{e C:Addr}{args:List Value}{t':Nat}(I:Zq X pins σ H s)(M:Heap.MadeExcOf s.heap h' e (.ref C) args):Zq X pins σ (upd H e (Xe e C)) {s with heap:=h',toks:=t'}:=by
 have hn:H e=none:=I.hok.gone M.new
 have live:∀b o,s.heap.get? b=some o->b≠e:=fun b o z q=>by rw[q,M.new]at z;cases z
 obtain⟨t,he,_,_⟩:=M.there
 refine I.un ⟨fun b o q _ _ _=>M.keeps b o q,fun b o q _ _ _=>⟨o.slots,M.keeps b o q⟩,fun b o q n _=>by rw[ZS (live b o q)];exact n,fun b o q _=>⟨o,M.keeps b o q⟩,fun b xs q=>by rw[ZS (ZP q hn)];exact q,fun b u xs q=>by rw[ZS (ZP q hn)];exact q,fun b ps q=>⟨#[],by rw[ZS (ZP q hn),q];simp⟩⟩ fun b u z=>?_
 by_cases q:b=e
 ·subst q
  rw[Z5]at z
  cases z
  exact excO_ok ⟨_,_,_,he⟩
 ·rw[ZS q]at z
  refine(I.hok b u z).stay (fun c v _ z=>M.keeps c v z) (fun c z=>?_) fun c xs z=>?_
  ·rw[ZS (ZP z hn)];exact z
  ·rw[ZS (ZP z hn)];exact z
theorem pe_exc {C:Addr}{bm:List Value}{x:Str}{np cpos:Pos}{a:Expr}{es:List Expr}{ta:TA}(hg:Gl X x)(hm:X.mg x=some (.ref C))(ex:Exc X.K C bm)(ha:PA X (a::es) ta)(he:starEach (a::es) X.env=(false,eval a X.env)::starEach es X.env:=by rfl)(hpl:(backTo cpos (starEach (a::es) X.env)).any (·.1)=false:=by rfl)(hd:(x==("__debug__" : Str))=false:=by decide) :
 PE X (.Call (.Name x np) (a::es) [] cpos) (tMk C ta):=by
 intro pins s σ H Q I h
 obtain⟨⟨nm,q,N,bs,hdct,sn,sub,ab,col,dd,k0,k1,k2,k3,k5,lk,nok,nin⟩,tl,bb,vb⟩:=ex
 have KB:=I.ok.mod.kin
 have ns:X.base.Ns N (X.base.nsMap N):=.of_isNs (isNs_of_in KB nok)
 refine wpAny_Call_Name_kw (UU I hg hm ?_ hd)
 unfold callWith
 have go:=ha cpos pins s σ H _ I h
 rw[he]at go hpl ⊢
 refine wpAny_bind (wpAny_holding (Uk (thn go fun us s1 ⟨vs,H1,I1,r,hz,q1⟩=>wpAny_bind (wpAny_standAt ?_))))
 obtain⟨hp,g,d,tk,os⟩:=s1
 simp only[hpl]
 refine wpAny_bind (wpAny_keeperOf_exc (I1.kIn _ _ lk) ?_)
 refine wpAny_bind (wpAny_call_exc_subT (hrest:=by rw[XT,<-r.length];exact hz) F.excBase_ValueError (tail_of_in I1.kIn tl) (I1.kIn _ _ lk) (ns.keeps I1.bk) (PySem.W.nsMap_none_of_in KB nok nin) fun h' e hm=>wpAny_bind (wpAny_holding (wpAny_point (wpAny_pure ?_))))
 exact⟨.ref e,_,I1.exc hm,rfl,q1 e (I1.hok.gone hm.new)⟩
end
end L2
namespace BB
def bare (row:List Int):List Int:=row.filter fun p=>decide (p+1∉row)
def Tu (row out:List Int):List Int:=(row.filter fun p=>decide (p∉out)).map fun p=>p - ((out.filter fun g=>decide (g<p)).length:Int)
def peel (row:List Int):List Int:=Tu row (bare row++(bare row).map (· + 1))
theorem top_mem:∀{l:List Int},l≠[]->∃m,m∈l/\∀x∈l,x<=m
 |[],h=>absurd rfl h
 |[a],_=>⟨a,ZD.mpr rfl,fun x hx=>by rw[ZD.mp hx];exact Int.le_refl _⟩
 |a::b::r,_=>by
  obtain⟨m,hm,hx⟩:=top_mem (l:=b::r) (by simp)
  by_cases h:a<=m
  ·refine⟨m,ZT _ hm,fun x hx'=>?_⟩
   rcases ZV.mp hx' with e | e
   ·rw[e];exact h
   ·exact hx x e
  ·refine⟨a,ZW,fun x hx'=>?_⟩
   rcases ZV.mp hx' with e | e
   ·rw[e];exact Int.le_refl _
   ·exact Int.le_trans (hx x e) (by omega)
theorem UY {row:List Int}(h:row≠[]):(peel row).length<row.length:=by
 obtain⟨m,hm,hx⟩:=top_mem h
 have hb:m∈bare row:=Yt.mpr ⟨hm,decide_eq_true fun z=>by have:=hx _ z;omega⟩
 unfold peel Tu
 rw[Z2]
 have le:=Yh (fun p=>decide (p∉bare row++(bare row).map (· + 1))) row
 refine Nat.lt_of_le_of_ne le fun e=>?_
 have all:=(List.length_filter_eq_length_iff.mp e) m hm
 exact of_decide_eq_true all (Y1 _ hb)
theorem bare_le (row:List Int):(bare row).length<=row.length:=Yh _ _
theorem XZ {α β:Type}(d:α)(l:List α)(q:α->Bool)(f:α->β):((List.range l.length).filter fun i=>q (l.getD i d)).map (fun i=>f (l.getD i d))=(l.filter q).map f:=by
 induction l with
 |nil=>rfl
 |cons a r ih=>
  rw[ZM,Yu,Yq,List.filter_map,Yq]
  have e1:(a::r).getD 0 d=a:=rfl
  have e2:((fun i=>q ((a::r).getD i d))∘Nat.succ)=fun i=>q (r.getD i d):=rfl
  rw[e1,e2]
  cases hq:q a with
  |true=>
   simp only[if_true,Y3,Y5]
   rw[show(List.map ((fun i=>f ((a::r).getD i d))∘Nat.succ) ((List.range r.length).filter fun i=>q (r.getD i d)))=((List.range r.length).filter fun i=>q (r.getD i d)).map fun i=>f (r.getD i d) from rfl,ih]
   rfl
  |false=>
   simp only[Yd,if_false,Y5]
   rw[show(List.map ((fun i=>f ((a::r).getD i d))∘Nat.succ) ((List.range r.length).filter fun i=>q (r.getD i d)))=((List.range r.length).filter fun i=>q (r.getD i d)).map fun i=>f (r.getD i d) from rfl,ih]
theorem VP {α β:Type}(d:α)(l:List α)(f:α->β):(List.range l.length).map (fun i=>f (l.getD i d))=l.map f:=by
 have h:=XZ d l (fun _=>true) f
 rw[List.filter_eq_self.mpr fun _ _=>rfl,List.filter_eq_self.mpr fun _ _=>rfl]at h
 exact h
def blk:List Int->List (Int×Int)
 |[]=>[]
 |p::r=>match blk r with
  |[]=>[(p,1)]
  |(q,n)::t=>if q=p+1 then(p,n+1)::t else(p,1)::(q,n)::t
theorem blk_nil {r:List Int}(h:blk r=[]):r=[]:=by
 cases r with
 |nil=>rfl
 |cons p r=>
  unfold blk at h
  split at h
  ·cases h
  ·split at h<;>cases h
theorem blk_head {p:Int}{r:List Int}:∃n t,blk (p::r)=(p,n)::t:=by
 unfold blk
 split
 ·exact⟨1,[],rfl⟩
 ·split
  ·exact⟨_,_,rfl⟩
  ·exact⟨_,_,rfl⟩
theorem blk_firsts:∀{r:List Int},r.Pairwise (· < ·)->∀(b:Int),(∀x∈r,b<x)->((b::r).filter fun p=>decide (p - 1∉b::r))=(blk (b::r)).map (·.1)
 |[],_,b,_=>by
  simp[blk]
  omega
 |p::r,up,b,hb=>by
  have up':=Zt.mp up
  have ih:=blk_firsts up'.2 p up'.1
  obtain⟨n,t,e⟩:=blk_head (p:=p) (r:=r)
  have bp:=hb p ZW
  have e2:blk (b::p::r)=if p=b+1 then(b,n+1)::t else(b,1)::(p,n)::t:=by
   conv=>lhs;unfold blk
   rw[e]
  have b1:b - 1∉b::p::r:=fun z=>by
   rcases ZV.mp z with z | z
   ·omega
   ·have:=hb _ z;omega
  have same:((p::r).filter fun x=>decide (x - 1∉b::p::r))=if p=b+1 then r.filter (fun x=>decide (x - 1∉p::r)) else(p::r).filter fun x=>decide (x - 1∉p::r):=by
   have out:∀x∈r,(x - 1∉b::p::r↔x - 1∉p::r):=fun x hx=>by
    have:=up'.1 x hx
    simp only[ZV,not_or]
    constructor
    ·intro z;exact z.2
    ·intro z
     refine⟨by omega,z⟩
   have rest:(r.filter fun x=>decide (x - 1∉b::p::r))=r.filter fun x=>decide (x - 1∉p::r):=Xh fun x hx=>by rw[decide_eq_decide];exact out x hx
   split
   ·rename_i c
    rw[Xi (by subst c;simp),rest]
   ·rename_i c
    have p1:p - 1∉b::p::r:=fun z=>by
     rcases ZV.mp z with z | z
     ·omega
     ·rcases ZV.mp z with z | z
      ·omega
      ·have:=up'.1 _ z;omega
    have p2:p - 1∉p::r:=fun z=>p1 (ZT _ z)
    rw[YM (by simpa using p1),YM (by simpa using p2),rest]
  rw[YM (by simpa using b1),same,e2]
  rw[e,Y3]at ih
  have p2:p - 1∉p::r:=fun z=>by
   rcases ZV.mp z with z | z
   ·omega
   ·have:=up'.1 _ z;omega
  rw[YM (by simpa using p2)]at ih
  injection ih with _ ih
  split
  ·rw[Y3,ih]
  ·rw[YM (by simpa using p2),ih]
   rfl
theorem blk_lasts:∀{r:List Int},r.Pairwise (· < ·)->∀(b:Int),(∀x∈r,b<x)->((b::r).filter fun p=>decide (p+1∉b::r))=(blk (b::r)).map fun q=>q.1+q.2 - 1
 |[],_,b,_=>by
  simp[blk]
  omega
 |p::r,up,b,hb=>by
  have up':=Zt.mp up
  have ih:=blk_lasts up'.2 p up'.1
  obtain⟨n,t,e⟩:=blk_head (p:=p) (r:=r)
  have bp:=hb p ZW
  have e2:blk (b::p::r)=if p=b+1 then(b,n+1)::t else(b,1)::(p,n)::t:=by
   conv=>lhs;unfold blk
   rw[e]
  have rest:((p::r).filter fun x=>decide (x+1∉b::p::r))=(p::r).filter fun x=>decide (x+1∉p::r):=Xh fun x hx=>by
   have:=hb x hx
   rw[decide_eq_decide]
   constructor
   ·intro z y;exact z (ZT _ y)
   ·intro z y
    rcases ZV.mp y with y | y
    ·omega
    ·exact z y
  rw[e2]
  rw[e,Y3]at ih
  split
  ·rename_i c
   rw[Xi (by subst c;simp),rest,ih,Y3]
   congr 1
   show p+n - 1=b+(n+1) - 1
   omega
  ·rename_i c
   have b1:b+1∉b::p::r:=fun z=>by
    rcases ZV.mp z with z | z
    ·omega
    ·rcases ZV.mp z with z | z
     ·omega
     ·have:=up'.1 _ z;omega
   rw[YM (by simpa using b1),rest,ih]
   show b::_=(b+1 - 1)::_
   rw[show b+1 - 1=b by omega]
   rfl
theorem blk_snoc (x:Int):∀(l:List Int) (pre:List (Int×Int)) (a n:Int),blk l=pre++[(a,n)]->blk (l++[x])=pre++if a+n=x then [(a,n+1)] else [(a,n),(x,1)]
 |[],pre,a,n,h=>by
  have:=congrArg List.length h
  simp[blk]at this
 |[p],pre,a,n,h=>by
  have h:[(p,(1:Int))]=pre++[(a,n)]:=h
  cases pre with
  |nil=>
   have:=List.cons.inj h
   obtain⟨rfl,rfl⟩:=Prod.mk.inj this.1
   show(if x=p+1 then [(p,1+1)] else [(p,1),(x,1)])=_
   by_cases c:x=p+1
   ·rw[if_pos c,if_pos c.symm]
    rfl
   ·rw[if_neg c,if_neg (fun z=>c z.symm)]
    rfl
  |cons u pre=>cases pre<;>simp at h
 |p::q::s,pre,a,n,h=>by
  have hne:blk (q::s)≠[]:=fun z=>by cases blk_nil z
  obtain⟨pre',⟨a',n'⟩,e⟩:∃pre' u,blk (q::s)=pre'++[u]:=⟨_,_,(List.dropLast_concat_getLast hne).symm⟩
  have ih:=blk_snoc x (q::s) pre' a' n' e
  have e1:blk (p::q::s)=match pre'++[(a',n')] with
   |[]=>[(p,1)]
   |(q,n)::t=>if q=p+1 then(p,n+1)::t else(p,1)::(q,n)::t:=by rw[<-e];rfl
  have e2:blk (p::q::s++[x])=match pre'++if a'+n'=x then [(a',n'+1)] else [(a',n'),(x,1)] with
   |[]=>[(p,1)]
   |(q,n)::t=>if q=p+1 then(p,n+1)::t else(p,1)::(q,n)::t:=by rw[<-ih];rfl
  rw[e1]at h
  rw[e2]
  cases pre' with
  |nil=>
   simp only[XT]at h ⊢
   by_cases c:a'=p+1
   ·rw[if_pos c]at h
    cases pre with
    |nil=>
     obtain⟨rfl,rfl⟩:=Prod.mk.inj (List.cons.inj h).1
     by_cases d:a'+n'=x
     ·rw[if_pos d,if_pos (by omega)]
      simp[c]
     ·rw[if_neg d,if_neg (by omega)]
      simp[c]
    |cons u pre=>cases pre<;>simp at h
   ·rw[if_neg c]at h
    cases pre with
    |nil=>simp at h
    |cons u pre=>
     cases pre with
     |nil=>
      simp only[List.cons_append,XT,List.cons.injEq,and_true,Prod.mk.injEq]at h
      obtain⟨rfl,rfl,rfl⟩:=h
      by_cases d:a'+n'=x
      ·rw[if_pos d];simp[c]
      ·rw[if_neg d];simp[c]
     |cons v pre=>cases pre<;>simp at h
  |cons u t=>
   obtain⟨u1,u2⟩:=u
   simp only[List.cons_append]at h ⊢
   by_cases c:u1=p+1
   ·rw[if_pos c]at h ⊢
    have k:((p,u2+1)::t)++[(a',n')]=pre++[(a,n)]:=h
    obtain⟨k1,k2⟩:=List.append_inj' k rfl
    obtain⟨rfl,rfl⟩:=Prod.mk.inj (List.cons.inj k2).1
    rw[<-k1];rfl
   ·rw[if_neg c]at h ⊢
    have k:((p,1)::(u1,u2)::t)++[(a',n')]=pre++[(a,n)]:=h
    obtain⟨k1,k2⟩:=List.append_inj' k rfl
    obtain⟨rfl,rfl⟩:=Prod.mk.inj (List.cons.inj k2).1
    rw[<-k1];rfl
theorem Tr:∀row:List Int,(∀b∈blk row,b.1∈row/\1<=b.2/\b.2<=row.length)/\((blk row).map fun b=>b.2.toNat).sum=row.length
 |[]=>⟨fun _ h=>absurd h ZC,rfl⟩
 |p::r=>by
  obtain⟨h1,h2⟩:=Tr r
  unfold blk
  split
  ·rename_i e
   have:=blk_nil e
   subst this
   refine⟨fun b hb=>?_,rfl⟩
   rw[ZD]at hb
   subst hb
   exact⟨ZW,Int.le_refl 1,by simp⟩
  ·rename_i q n t e
   rw[e]at h1 h2
   have hq:=h1 (q,n) ZW
   simp only[Y3,sum_cons]at h2
   split
   ·refine⟨fun b hb=>?_,?_⟩
    ·rcases ZV.mp hb with rfl | z
     ·refine⟨ZW,?_,?_⟩
      ·show 1<=n+1
       have:=hq.2.1
       simp only at this
       omega
      ·have:=hq.2.2
       simp only[ZM]at this ⊢
       omega
     ·have y:=h1 b (ZT _ z)
      refine⟨ZT _ y.1,y.2.1,?_⟩
      have:=y.2.2
      simp only[ZM]
      omega
    ·simp only[Y3,sum_cons,ZM]
     have:=hq.2.1
     simp only at this
     omega
   ·refine⟨fun b hb=>?_,?_⟩
    ·rcases ZV.mp hb with rfl | z
     ·exact⟨ZW,Int.le_refl 1,by simp only[ZM];omega⟩
     ·have y:=h1 b z
      refine⟨ZT _ y.1,y.2.1,?_⟩
      have:=y.2.2
      simp only[ZM]
      omega
    ·simp only[Y3,sum_cons,ZM]
     omega
def far1 (s:Int)(b:Int×Int):List Int:=(List.range b.2.toNat).map fun(j:Nat)=>b.1+(j:Int)+b.2*s
def flw (bl:List (Int×Int))(s:Int):List Int:=bl.flatMap (far1 s)
theorem Vb (s:Int)(b:Int×Int):(far1 s b).length=b.2.toNat:=by unfold far1;rw[Z2,YY]
theorem flw_len (row:List Int)(s:Int):(flw (blk row) s).length=row.length:=by
 unfold flw
 rw[List.length_flatMap,<-(Tr row).2]
 congr 1
 exact Y4 fun b _=>Vb s b
theorem range_flat {α β:Type}(d:α)(h:α->List β):∀l:List α,(List.range l.length).flatMap (fun i=>h (l.getD i d))=l.flatMap h
 |[]=>rfl
 |x::l=>by
  rw[ZM,Yu,Xj,Xj,flatMap_map]
  congr 1
  exact range_flat d h l
theorem flat_le {β:Type}(f:Nat->List β)(c:Nat):∀n,(∀i,i<n->(f i).length<=c)->((List.range n).flatMap f).length<=n*c
 |0,_=>by simp
 |n+1,h=>by
  rw[XU,XS,Z6,V8,Nat.succ_mul]
  have a:=flat_le f c n fun i hi=>h i (by omega)
  have b:=h n (by omega)
  omega
def pos:Int->List Nat->List Int
 |_,[]=>[]
 |x,g::r=>x::pos (x+1+(g:Int)) r
def pT:List Nat->Nat×List Nat
 |[]=>(0,[])
 |0::r=>(0,(pT r).1::(pT r).2)
 |(g+1)::r=>(g+(pT r).1,(pT r).2)
theorem pos_ge:∀(gs:List Nat) (x y:Int),y∈pos x gs->x<=y
 |[],_,_,h=>absurd h ZC
 |g::r,x,y,h=>by
  rcases ZV.mp h with z | z
  ·omega
  ·have:=pos_ge r _ _ z;omega
theorem pos_up:∀(gs:List Nat) (x:Int),(pos x gs).Pairwise (· < ·)
 |[],_=>.nil
 |g::r,x=>Zt.mpr ⟨fun y hy=>by have:=pos_ge r _ _ hy;omega,pos_up r _⟩
theorem pos_shift:∀(gs:List Nat) (x d:Int),(pos x gs).map (· - d)=pos (x - d) gs
 |[],_,_=>rfl
 |g::r,x,d=>by
  show(x - d)::(pos (x+1+(g:Int)) r).map (· - d)=(x - d)::_
  rw[pos_shift r]
  congr 2
  omega
theorem TV:∀(gs:List Nat) (x:Int),(pos x gs).length=gs.length
 |[],_=>rfl
 |g::r,x=>by show(pos _ r).length+1=_;rw[TV r];rfl
theorem bare_in {p:Int}{r:List Int}(up:∀y∈r,p<y)(h:p+1∈r):bare (p::r)=bare r:=by
 unfold bare
 rw[Yq,if_neg (by simp[h])]
 exact Xh fun y hy=>by
  have:=up y hy
  rw[decide_eq_decide]
  constructor
  ·exact fun z w=>z (ZT _ w)
  ·exact fun z w=>(ZV.mp w).elim (fun e=>by omega) z
theorem bare_out {p:Int}{r:List Int}(up:∀y∈r,p<y)(h:p+1∉r):bare (p::r)=p::bare r:=by
 unfold bare
 rw[Yq,if_pos (by simp[h];omega)]
 congr 1
 exact Xh fun y hy=>by
  have:=up y hy
  rw[decide_eq_decide]
  constructor
  ·exact fun z w=>z (ZT _ w)
  ·exact fun z w=>(ZV.mp w).elim (fun e=>by omega) z
theorem left_is (row:List Int){y:Int}(hy:y∈row):y∉bare row++(bare row).map (· + 1)↔y+1∈row:=by
 constructor
 ·intro h
  by_cases c:y+1∈row
  ·exact c
  ·exact absurd (Y1 _ (Yt.mpr ⟨hy,decide_eq_true c⟩)) h
 ·intro h z
  rcases Zi.mp z with w | w
  ·exact of_decide_eq_true (Yt.mp w).2 h
  ·obtain⟨b,hb,e⟩:=YC.mp w
   exact of_decide_eq_true (Yt.mp hb).2 (by rw[e];exact hy)
theorem UX (row:List Int):peel row=(row.filter fun y=>decide (y+1∈row)).map fun y=>y - (((bare row++(bare row).map (· + 1)).filter fun g=>decide (g<y)).length:Int):=by
 unfold peel Tu
 congr 1
 exact Xh fun y hy=>by rw[decide_eq_decide];exact left_is row hy
theorem peel_in {p:Int}{r:List Int}(up:(p::r).Pairwise (· < ·))(h:p+1∈r):peel (p::r)=p::peel r:=by
 have u:=(Zt.mp up).1
 rw[UX,UX,bare_in u h,Yq,if_pos (by simp[h]),Y3]
 have z:((bare r++(bare r).map (· + 1)).filter fun g=>decide (g<p))=[]:=List.filter_eq_nil_iff.mpr fun g hg=>by
  rcases Zi.mp hg with w | w
  ·have:=u g (Yt.mp w).1;simp;omega
  ·obtain⟨b,hb,e⟩:=YC.mp w
   have:=u b (Yt.mp hb).1
   simp;omega
 rw[z]
 congr 1
 ·simp
 ·congr 1
  exact Xh fun y hy=>by
   have:=u y hy
   rw[decide_eq_decide]
   constructor
   ·exact fun w=>(ZV.mp w).elim (fun e=>by omega) id
   ·exact fun w=>ZT _ w
theorem peel_out {p:Int}{r:List Int}(up:(p::r).Pairwise (· < ·))(h:p+1∉r):peel (p::r)=(peel r).map (· - 2):=by
 have u:=(Zt.mp up).1
 rw[UX,UX,bare_out u h,Yq,if_neg (by simp[h];omega),Y5]
 have e:(r.filter fun y=>decide (y+1∈p::r))=r.filter fun y=>decide (y+1∈r):=Xh fun y hy=>by
  have:=u y hy
  rw[decide_eq_decide]
  constructor
  ·exact fun w=>(ZV.mp w).elim (fun e=>by omega) id
  ·exact fun w=>ZT _ w
 rw[e]
 refine Y4 fun y hy=>?_
 have hy':=(Yt.mp hy).1
 have a:=u y hy'
 have ne:y≠p+1:=fun z=>h (z▸hy')
 show y - _=y - _ - 2
 have c:((p::bare r++(p::bare r).map (· + 1)).filter fun g=>decide (g<y)).length=((bare r++(bare r).map (· + 1)).filter fun g=>decide (g<y)).length+2:=by
  rw[Y3,Xz,Xz,Z6,Z6,Yq,if_pos (by simpa using a),Yq,if_pos (by simp;omega)]
  simp only[ZM]
  omega
 rw[c]
 omega
def Lst (n:Nat):List Nat->Prop
 |[]=>True
 |[g]=>n<=g
 |_::b::r=>Lst n (b::r)
theorem TR:∀(gs:List Nat) (x:Int),Lst 1 gs->peel (pos x gs)=pos (x+((pT gs).1:Int)) (pT gs).2
 |[],x,_=>rfl
 |0::[],x,h=>absurd h (by show ¬(1<=0);omega)
 |0::b::r,x,h=>by
  have up:=pos_up (0::b::r) x
  have e:pos x (0::b::r)=x::pos (x+1+((0:Nat):Int)) (b::r):=rfl
  have hin:x+1∈pos (x+1+((0:Nat):Int)) (b::r):=by
   show x+1∈(x+1+((0:Nat):Int))::_
   rw[Int.natCast_zero,Int.add_zero]
   exact ZW
  rw[e]at up ⊢
  rw[peel_in up hin,TR (b::r) _ h]
  show x::_=pos (x+((0:Nat):Int)) ((pT (b::r)).1::(pT (b::r)).2)
  show x::_=(x+((0:Nat):Int))::pos (x+((0:Nat):Int)+1+((pT (b::r)).1:Int)) (pT (b::r)).2
  rw[Int.natCast_zero,Int.add_zero,Int.add_zero]
 |(g+1)::r,x,h=>by
  have up:=pos_up ((g+1)::r) x
  have e:pos x ((g+1)::r)=x::pos (x+1+((g+1:Nat):Int)) r:=rfl
  have hout:x+1∉pos (x+1+((g+1:Nat):Int)) r:=fun z=>by
   have:=pos_ge r _ _ z
   omega
  have h':Lst 1 r:=by cases r with | nil=>trivial | cons b r=>exact h
  rw[e]at up ⊢
  rw[peel_out up hout,TR r _ h',pos_shift]
  show pos _ _=pos (x+((g+(pT r).1:Nat):Int)) (pT r).2
  congr 1
  omega
def itp:Nat->List Nat->List Nat
 |0,g=>g
 |d+1,g=>itp d (pT g).2
def ipl:Nat->List Int->List Int
 |0,r=>r
 |d+1,r=>ipl d (peel r)
theorem lst_peel (n:Nat):∀gs:List Nat,Lst (n+1) gs->Lst n (pT gs).2/\((pT gs).2=[]->gs≠[]->n<=(pT gs).1)
 |[],_=>⟨trivial,fun _ h=>absurd rfl h⟩
 |0::[],h=>absurd h (by show ¬(n+1<=0);omega)
 |(g+1)::[],h=>⟨trivial,fun _ _=>by show n<=g+0;have:n+1<=g+1:=h;omega⟩
 |0::b::r,h=>by
  obtain⟨i1,i2⟩:=lst_peel n (b::r) h
  refine⟨?_,fun z=>by cases z⟩
  show Lst n ((pT (b::r)).1::(pT (b::r)).2)
  generalize(pT (b::r)).2=t at i1 i2
  cases t with
  |nil=>exact i2 rfl (by simp)
  |cons c t=>exact i1
 |(g+1)::b::r,h=>by
  obtain⟨i1,i2⟩:=lst_peel n (b::r) h
  refine⟨i1,fun z _=>?_⟩
  have:=i2 z (by simp)
  show n<=g+(pT (b::r)).1
  omega
theorem lst_one {n:Nat}(h:1<=n):∀{gs:List Nat},Lst n gs->Lst 1 gs
 |[],_=>trivial
 |[g],z=>Nat.le_trans h z
 |_::b::r,z=>lst_one (gs:=b::r) h z
theorem pT_lt {gs:List Nat}(h:Lst 1 gs)(ne:gs≠[]):(pT gs).2.length<gs.length:=by
 have e:=TR gs 0 h
 have l:=UY (row:=pos 0 gs) fun z=>ne (by have:=TV gs 0;rw[z]at this;exact Zc.mp this.symm)
 rw[e,TV,TV]at l
 exact l
theorem Tz:∀(d n:Nat) (gs:List Nat) (x:Int),gs.length<=n->Lst n gs->(ipl d (pos x gs)).length=(itp d gs).length
 |0,n,gs,x,_,_=>TV gs x
 |d+1,n,gs,x,hl,hn=>by
  cases n with
  |zero=>
   have:gs=[]:=Zc.mp (by omega)
   subst this
   exact Tz d 0 [] x (Nat.le_refl _) trivial
  |succ n=>
   have h1:Lst 1 gs:=lst_one (by omega) hn
   show(ipl d (peel (pos x gs))).length=(itp d (pT gs).2).length
   rw[TR gs x h1]
   refine Tz d n _ _ ?_ (lst_peel n gs hn).1
   by_cases e:gs=[]
   ·subst e;exact Yp _
   ·have:=pT_lt h1 e;omega
def tk:List Int->List Nat
 |[]=>[]
 |[_]=>[]
 |p::q::r=>(q - p - 1).toNat::tk (q::r)
theorem tk_pos (T:Int):∀row:List Int,(row++[T]).Pairwise (· < ·)->row=pos (row.headD 0) (tk (row++[T]))
 |[],_=>rfl
 |[p],up=>rfl
 |p::q::r,up=>by
  have u:=Zt.mp up
  have ih:=tk_pos T (q::r) u.2
  have pq:=u.1 q (by simp)
  show p::q::r=p::pos (p+1+((q - p - 1).toNat:Int)) (tk (q::(r++[T])))
  rw[show p+1+((q - p - 1).toNat:Int)=q by omega]
  congr 1
theorem tk_len (T:Int):∀row:List Int,(tk (row++[T])).length=row.length
 |[]=>rfl
 |[p]=>rfl
 |p::q::r=>by
  have ih:=tk_len T (q::r)
  show(tk (q::(r++[T]))).length+1=_
  rw[show q::(r++[T])=(q::r)++[T] from rfl,ih]
  rfl
theorem tk_lst (T:Int)(n:Nat):∀row:List Int,(∀p∈row,(n:Int)<=T - p - 1)->Lst n (tk (row++[T]))
 |[],_=>trivial
 |[p],h=>by
  have:=h p ZW
  show n<=(T - p - 1).toNat
  omega
 |p::q::r,h=>by
  have ih:=tk_lst T n (q::r) fun x hx=>h x (ZT _ hx)
  show Lst n ((q - p - 1).toNat::tk ((q::r)++[T]))
  have l:=tk_len T (q::r)
  generalize tk ((q::r)++[T])=t at ih l
  cases t with
  |nil=>simp at l
  |cons c t=>exact ih
def low (r:List Int)(x:Int):Nat:=(r.filter fun y=>decide (y<=x)).length
def put:List (List Int)->Int->List (List Int)
 |[],x=>[[x]]
 |r::rs,x=>if low r x=r.length then(r++[x])::rs else(r.take (low r x)++[x]++r.drop (low r x+1))::put rs (r.getD (low r x) 0)
def Up (r:List Int):Prop:=r.Pairwise (·<=·)
theorem low_le (r:List Int)(x:Int):low r x<=r.length:=Yh _ _
theorem low_cons (y:Int)(r:List Int)(x:Int):low (y::r) x=if y<=x then low r x+1 else low r x:=by
 unfold low
 rw[Yq]
 by_cases c:y<=x
 ·rw[if_pos (decide_eq_true c),if_pos c];rfl
 ·rw[if_neg (by rw[decide_eq_false c];decide),if_neg c]
theorem low_all (x:Int):∀r:List Int,(∀y∈r,x<y)->low r x=0
 |[],_=>rfl
 |y::r,h=>by
  rw[low_cons,if_neg (by have:=h y ZW;omega)]
  exact low_all x r fun z hz=>h z (ZT _ hz)
theorem SU (x:Int):∀(r:List Int),Up r->∀i,i<r.length->(x<r.getD i 0↔low r x<=i)
 |[],_,i,h=>by cases h
 |y::r,u,i,h=>by
  obtain⟨h1,h2⟩:=Zt.mp u
  rw[low_cons]
  by_cases c:y<=x
  ·rw[if_pos c]
   cases i with
   |zero=>
    show x<y↔_
    omega
   |succ i=>
    show x<r.getD i 0↔_
    rw[SU x r h2 i (by simpa using h)]
    omega
  ·rw[if_neg c]
   have a:∀z∈y::r,x<z:=fun z hz=>by
    rcases ZV.mp hz with rfl | hz
    ·omega
    ·have:=h1 z hz;omega
   rw[low_all x r fun z hz=>a z (ZT _ hz)]
   have:x<(y::r).getD i 0:=by
    rw[Z4,Z1 h]
    exact a _ (XI h)
   exact⟨fun _=>Yp _,fun _=>this⟩
def hits (r:List Int)(x:Int):List Nat:=(List.range r.length).filter fun i=>decide (x<r.getD i 0)
theorem hits_low {r:List Int}{x:Int}(u:Up r):(hits r x=[]/\low r x=r.length)\/(∃t,hits r x=low r x::t/\low r x<r.length):=by
 have hm:∀i,i∈hits r x↔i<r.length/\low r x<=i:=fun i=>by
  unfold hits
  rw[Yt,Ys]
  constructor
  ·rintro⟨a,b⟩
   exact⟨a,(SU x r u i a).mp (of_decide_eq_true b)⟩
  ·rintro⟨a,b⟩
   exact⟨a,decide_eq_true ((SU x r u i a).mpr b)⟩
 have hp:(hits r x).Pairwise (· < ·):=List.Pairwise.filter _ V5
 have ll:=low_le r x
 cases e:hits r x with
 |nil=>
  refine .inl ⟨rfl,?_⟩
  by_cases c:low r x=r.length
  ·exact c
  ·have:=(hm (low r x)).mpr ⟨by omega,Nat.le_refl _⟩
   rw[e]at this
   cases this
 |cons i t=>
  have hi:=(hm i).mp (by rw[e];exact ZW)
  have hl:=(hm (low r x)).mpr ⟨by omega,Nat.le_refl _⟩
  rw[e]at hl hp
  refine .inr ⟨t,?_,by omega⟩
  rcases ZV.mp hl with z | z
  ·rw[z]
  ·have:=(Zt.mp hp).1 _ z
   omega
theorem up_end {r:List Int}{x:Int}(u:Up r)(h:low r x=r.length):Up (r++[x]):=by
 refine YD.mpr ⟨u,YO _ _,fun y hy z hz=>?_⟩
 rw[ZD.mp hz]
 obtain⟨i,hi,rfl⟩:=X0 hy
 have:=SU x r u i hi
 rw[Z4,Z1 hi]at this
 have t:¬x<r[i]:=fun z=>by have:=this.mp z;omega
 omega
theorem up_in {r:List Int}{x:Int}(u:Up r):Up (r.take (low r x)++[x]++r.drop (low r x+1)):=by
 have ta:∀y∈r.take (low r x),y<=x:=fun y hy=>by
  obtain⟨i,hi,rfl⟩:=X0 hy
  rw[Za]at hi
  rw[List.getElem_take]
  have:=SU x r u i (by omega)
  rw[Z4,Z1 (by omega)]at this
  have t:¬x<r[i]:=fun z=>by have:=this.mp z;omega
  omega
 have td:∀y∈r.drop (low r x+1),x<y:=fun y hy=>by
  obtain⟨i,hi,rfl⟩:=X0 hy
  rw[Yz]at hi
  rw[List.getElem_drop]
  have:=SU x r u (low r x+1+i) (by omega)
  rw[Z4,Z1 (by omega)]at this
  exact this.mpr (by omega)
 refine YD.mpr ⟨YD.mpr ⟨List.Pairwise.sublist (List.take_sublist _ _) u,YO _ _,fun y hy z hz=>?_⟩,List.Pairwise.sublist (List.drop_sublist _ _) u,fun y hy z hz=>?_⟩
 ·rw[ZD.mp hz];exact ta y hy
 ·have:=td z hz
  rcases Zi.mp hy with h | h
  ·have:=ta y h;omega
  ·rw[ZD.mp h];omega
structure Wv (m:Nat)(rs:List (List Int)):Prop where
 few:rs.length<=m
 up:∀r∈rs,Up r
 len:∀r∈rs,r.length<=m
theorem Wv.nil:Wv 0 []:=⟨Nat.le_refl _,(fun r h=>absurd h ZC),(fun r h=>absurd h ZC)⟩
theorem Wv.mono {m n:Nat}{rs:List (List Int)}(h:Wv m rs)(l:m<=n):Wv n rs:=⟨Nat.le_trans h.few l,h.up,fun r hr=>Nat.le_trans (h.len r hr) l⟩
theorem put_len:∀(rs:List (List Int)) (x:Int),(put rs x).length<=rs.length+1
 |[],x=>Nat.le_refl _
 |r::rs,x=>by
  show(if low r x=r.length then(r++[x])::rs else(r.take (low r x)++[x]++r.drop (low r x+1))::put rs (r.getD (low r x) 0)).length<=_
  split
  ·simp
  ·have:=put_len rs (r.getD (low r x) 0)
   simp only[ZM];omega
theorem put_mem (m:Nat):∀(rs:List (List Int)) (x:Int),(∀r∈rs,Up r/\r.length<=m)->∀r∈put rs x,Up r/\r.length<=m+1
 |[],x,_,r,hr=>by
  have:r=[x]:=by simpa[put]using hr
  rw[this]
  exact⟨YO _ _,by simp⟩
 |r0::rs,x,h,r,hr=>by
  have h0:=h r0 ZW
  have hr':r∈(if low r0 x=r0.length then(r0++[x])::rs else(r0.take (low r0 x)++[x]++r0.drop (low r0 x+1))::put rs (r0.getD (low r0 x) 0)):=hr
  split at hr'
  ·rcases ZV.mp hr' with rfl | z
   ·exact⟨up_end h0.1 ‹_›,by rw[Z6,ZN];omega⟩
   ·have:=h r (ZT _ z)
    exact⟨this.1,by omega⟩
  ·rcases ZV.mp hr' with rfl | z
   ·have:=low_le r0 x
    exact⟨up_in h0.1,by rw[Z6,Z6,Za,Yz,ZN];omega⟩
   ·exact put_mem m rs _ (fun r hr=>h r (ZT _ hr)) r z
theorem Wv.put {m:Nat}{rs:List (List Int)}(h:Wv m rs)(x:Int):Wv (m+1) (put rs x):=
 ⟨Nat.le_trans (put_len rs x) (Nat.succ_le_succ h.few),fun r hr=>(put_mem m rs x (fun r hr=>⟨h.up r hr,h.len r hr⟩) r hr).1,fun r hr=>(put_mem m rs x (fun r hr=>⟨h.up r hr,h.len r hr⟩) r hr).2⟩
def puts (ks:List Int):List (List Int):=ks.foldl put []
theorem Tb (ks:List Int)(x:Int):puts (ks++[x])=put (puts ks) x:=by
 unfold puts
 rw[foldl_append];rfl
theorem VS:∀(n:Nat) (ks:List Int),Wv (ks.take n).length (puts (ks.take n))
 |0,ks=>Wv.nil
 |n+1,ks=>by
  rw[take_succ]
  cases e:ks[n]? with
  |none=>simpa using VS n ks
  |some x=>
   show Wv ((ks.take n)++[x]).length (puts (ks.take n++[x]))
   rw[Tb,Z6,ZN]
   exact(VS n ks).put x
theorem set_low {r:List Int}{n:Nat}{x:Int}(h:n<r.length):r.set n x=r.take n++[x]++r.drop (n+1):=by
 rw[List.set_eq_take_append_cons_drop,if_pos h,List.append_assoc];rfl
def tg (s:Nat):Nat->List Nat->Nat
 |_,[]=>0
 |L,g::r=>if L<s then 1+tg s (L+1 - g) r else tg s (L - g) r
def rn:List Nat->Nat
 |[]=>0
 |0::r=>rn r
 |(_+1)::r=>1+rn r
theorem rn_len:∀gs:List Nat,rn gs+(pT gs).2.length=gs.length
 |[]=>rfl
 |0::r=>by
  have:=rn_len r
  show rn r+((pT r).1::(pT r).2).length=r.length+1
  rw[ZM]
  omega
 |(g+1)::r=>by
  have:=rn_len r
  show 1+rn r+(pT r).2.length=r.length+1
  omega
theorem rn_fall:∀gs:List Nat,rn (pT gs).2+(if 0<(pT gs).1 then 1 else 0)<=rn gs
 |[]=>Nat.le_refl _
 |0::r=>by
  have:=rn_fall r
  rw[if_neg (show ¬0<(pT (0::r)).1 from Xr 0)]
  show rn ((pT r).1::(pT r).2)+0<=rn r
  cases e:(pT r).1 with
  |zero=>
   show rn (pT r).2+0<=_
   omega
  |succ n=>
   rw[e,if_pos (succ_pos n)]at this
   show 1+rn (pT r).2+0<=_
   omega
 |(g+1)::r=>by
  have:=rn_fall r
  show rn (pT r).2+(if 0<g+(pT r).1 then 1 else 0)<=1+rn r
  split<;>omega
theorem far_T:∀(row:List Int) (n:Int),∃T,∀p∈row,n<=T - p - 1/\p<T
 |[],n=>⟨0,fun p h=>by cases h⟩
 |q::r,n=>by
  obtain⟨T,h⟩:=far_T r n
  refine⟨max T (q+n.toNat+1),fun p hp=>?_⟩
  rcases ZV.mp hp with e | e
  ·subst e;omega
  ·have:=h p e;omega
theorem gaps_of {row:List Int}(up:row.Pairwise (· < ·)):∃(x:Int) (gs:List Nat),row=pos x gs/\gs.length=row.length/\Lst row.length gs:=by
 obtain⟨T,hT⟩:=far_T row row.length
 refine⟨row.headD 0,tk (row++[T]),tk_pos T row ?_,tk_len T row,tk_lst T row.length row fun p hp=>(hT p hp).1⟩
 refine YD.mpr ⟨up,YO _ _,fun a ha b hb=>?_⟩
 rw[ZD]at hb
 subst hb
 exact(hT a ha).2
theorem itp_succ:∀(d:Nat) (gs:List Nat),itp (d+1) gs=(pT (itp d gs)).2
 |0,_=>rfl
 |d+1,gs=>itp_succ d (pT gs).2
theorem ipl_fall {row:List Int}(up:row.Pairwise (· < ·))(d:Nat):(ipl (d+1) row).length+(ipl (d+1) row).length<=(ipl d row).length+(ipl (d+2) row).length:=by
 obtain⟨x,gs,e,l,h⟩:=gaps_of up
 have a:=Tz d row.length gs x (by omega) h
 have b:=Tz (d+1) row.length gs x (by omega) h
 have c:=Tz (d+2) row.length gs x (by omega) h
 rw[e,a,b,c]
 have r1:=rn_len (itp d gs)
 have r2:=rn_len (itp (d+1) gs)
 have r3:=rn_fall (itp d gs)
 rw[<-itp_succ]at r1 r2 r3
 rw[show d+1+1=d+2 from rfl]at r2
 split at r3<;>omega
def outs:Nat->List Int->List Int
 |0,_=>[]
 |n+1,row=>if row=[] then [] else((row.length:Int) - ((peel row).length:Int))::outs n (peel row)
def lens (cs:List Int):List Int:=(List.range (cs.headD 0).toNat).map fun(j:Nat)=>((cs.filter fun c=>decide ((j:Int)<c)).length:Int)
theorem S9:∀(n:Nat) (r:List Int),(∀d,(ipl (d+1) r).length+(ipl (d+1) r).length<=(ipl d r).length+(ipl (d+2) r).length)->
 (outs n r).Pairwise (·>=·)/\∀c∈outs n r,0<=c/\c<=(r.length:Int) - ((peel r).length:Int)
 |0,_,_=>⟨.nil,fun c h=>by cases h⟩
 |n+1,r,h=>by
  obtain⟨i1,i2⟩:=S9 n (peel r) fun d=>h (d+1)
  unfold outs
  by_cases e:r=[]
  ·rw[if_pos e]
   exact⟨.nil,fun c h=>by cases h⟩
  ·rw[if_neg e]
   have lt:=UY e
   have h0:(peel r).length+(peel r).length<=r.length+(peel (peel r)).length:=h 0
   refine⟨Zt.mpr ⟨fun c hc=>?_,i1⟩,fun c hc=>?_⟩
   ·have:=i2 c hc
    show c<=_
    omega
   ·rcases ZV.mp hc with z | z
    ·omega
    ·have:=i2 c z
     omega
def par:Bool->Nat->Bool
 |b,0=>b
 |b,n+1=>par (!b) n
theorem Ve:∀(b:Bool) (n:Nat),par b (n+1)=!(par b n)
 |_,0=>rfl
 |b,n+1=>Ve (!b) n
theorem TN:∀(n:Nat) (b:Bool),par b n=if n % 2=0 then b else !b
 |0,b=>rfl
 |n+1,b=>by
  rw[Ve,TN n b]
  by_cases c:n % 2=0
  ·rw[if_pos c,if_neg (by omega)]
  ·rw[if_neg c,if_pos (by omega),not_not]
def fs:List (List Int)->Nat
 |s::g::r=>if s.length<=g.length then 0 else 1+fs (g::r)
 |_=>0
def wv (R:List (List Int))(a:Nat):List Int×List Int:=
 if a % 2=0 then(R.getD a [],(R.getD (a+1) []).take (R.getD a []).length) else((R.getD (a+1) []).take (R.getD a []).length,R.getD a [])
def wo (R:List (List Int))(a:Nat):List (List Int):=
 if a=0 then R.drop 2 else R.take (a - 1)++[R.getD (a - 1) []++(R.getD (a+1) []).drop (R.getD a []).length]++R.drop (a+2)
def wvs:Nat->List (List Int)->List (List Int×List Int)
 |0,_=>[]
 |n+1,R=>if R=[] then [] else wv R (fs R)::wvs n (wo R (fs R))
theorem Xn {α:Type}(d:α)(pre:List α)(x:α)(r:List α):(pre++x::r).getD pre.length d=x:=by
 rw[Z4,ZU (Nat.le_refl _),Nat.sub_self]
 rfl
theorem Xx {α:Type}(d:α)(pre:List α)(x y:α)(r:List α):(pre++x::y::r).getD (pre.length+1) d=y:=by
 rw[Z4,ZU (by omega),Nat.add_sub_cancel_left]
 rfl
theorem To (p:List (List Int))(h s g:List Int)(post:List (List Int)):wo ((p++[h])++s::g::post) (p++[h]).length=p++[h++g.drop s.length]++post:=by
 have l:(p++[h]).length=p.length+1:=by rw[Z6];rfl
 unfold wo
 rw[if_neg (by omega),Xn,Xx,l,Nat.add_sub_cancel]
 have e:(p++[h])++s::g::post=p++h::s::g::post:=by rw[List.append_assoc];rfl
 rw[e,Xn,List.take_left' rfl]
 congr 1
 rw[show p.length+1+2=p.length+3 by omega,<-List.drop_drop,List.drop_left' rfl]
 rfl
theorem fs_ok:∀R:List (List Int),2<=R.length->(R.getD (R.length - 2) []).length<=(R.getD (R.length - 1) []).length->∃pre s g post,R=pre++s::g::post/\fs R=pre.length/\s.length<=g.length
 |s::g::r,_,h=>by
  unfold fs
  by_cases c:s.length<=g.length
  ·exact⟨[],s,g,r,rfl,by rw[if_pos c];rfl,c⟩
  ·rw[if_neg c]
   cases r with
   |nil=>exact absurd h c
   |cons x r=>
    obtain⟨pre,s',g',post,e1,e2,e3⟩:=fs_ok (g::x::r) (by simp) h
    exact⟨s::pre,s',g',post,by rw[e1];rfl,by rw[e2,ZM];omega,e3⟩
theorem fs_lt:∀(R:List (List Int)) (j:Nat),j<fs R->(R.getD (j+1) []).length<(R.getD j []).length
 |[],j,h=>absurd h (Nat.not_lt_zero _)
 |[s],j,h=>absurd h (Nat.not_lt_zero _)
 |s::g::r,j,h=>by
  unfold fs at h
  by_cases c:s.length<=g.length
  ·rw[if_pos c]at h;omega
  ·rw[if_neg c]at h
   cases j with
   |zero=>exact Nat.lt_of_not_le c
   |succ j=>exact fs_lt (g::r) j (by omega)
def bls:Bool->List (List Int)->Nat
 |_,[]=>0
 |b,x::R=>(if b=true then x.length else 0)+bls (!b) R
theorem bls_app:∀(A B:List (List Int)) (b:Bool),bls b (A++B)=bls b A+bls (par b A.length) B
 |[],B,b=>by show bls b B=0+bls b B;omega
 |x::A,B,b=>by
  show _+bls (!b) (A++B)=_+bls (!b) A+bls (par (!b) A.length) B
  rw[bls_app A B (!b)]
  omega
theorem bls_ge:∀(R:List (List Int)) (b:Bool) (j:Nat),par b j=true->(R.getD j []).length<=bls b R
 |[],b,j,_=>Yp _
 |x::R,b,0,h=>by
  have h':b=true:=h
  show x.length<=(if b=true then x.length else 0)+_
  rw[if_pos h']
  omega
 |x::R,b,j+1,h=>by
  have:=bls_ge R (!b) j h
  show(R.getD j []).length<=_+bls (!b) R
  omega
structure Gd (N:Nat)(R:List (List Int)):Prop where
 ne:∀r∈R,r≠[]
 ev:R.length % 2=0
 nb:bls true R<=N
 en:R≠[]->N+1<=(R.getD (R.length - 1) []).length
theorem Gd.at {N:Nat}{R:List (List Int)}(d:Gd N R)(h:R≠[]):∃pre s g post,R=pre++s::g::post/\fs R=pre.length/\s.length<=g.length:=by
 have l0:0<R.length:=Y9.mpr h
 have ev:=d.ev
 have b:=bls_ge R true (R.length - 2) (by rw[TN,if_pos (by omega)])
 have:=d.en h
 have:=d.nb
 exact fs_ok R (by omega) (by omega)
theorem WO {α:Type}(d:α)(A:List α){B:List α}(h:B≠[]):(A++B).getD ((A++B).length - 1) d=B.getD (B.length - 1) d:=by
 have:0<B.length:=Y9.mpr h
 rw[Z4,Z4,Z6,ZU (by omega)]
 congr 2
 omega
theorem Gd.size {N:Nat}{pre post:List (List Int)}{s g:List Int}(d:Gd N (pre++s::g::post))(l:s.length<=g.length):s.length<=N/\(par true pre.length=false->g.length<=N):=by
 have nb:=d.nb
 rw[bls_app]at nb
 have e:bls (par true pre.length) (s::g::post)=(if par true pre.length=true then s.length else 0)+((if(!par true pre.length)=true then g.length else 0)+bls (!!par true pre.length) post):=rfl
 rw[e]at nb
 cases c:par true pre.length with
 |true=>
  rw[c,if_pos rfl]at nb
  exact⟨by omega,fun z=>by cases z⟩
 |false=>
  rw[c,if_neg Bool.false_ne_true,if_pos (by rfl)]at nb
  exact⟨by omega,fun _=>by omega⟩
theorem Gd.wo {N:Nat}{pre post:List (List Int)}{s g:List Int}(d:Gd N (pre++s::g::post))(l:s.length<=g.length):Gd (N - s.length) (BB.wo (pre++s::g::post) pre.length):=by
 obtain⟨sz,_⟩:=d.size l
 have nb:=d.nb
 have ev:=d.ev
 have s1:1<=s.length:=Y9.mpr (d.ne s (by simp))
 have dl:(g.drop s.length).length=g.length - s.length:=Yz ..
 rcases Yg pre with e | ⟨p,h,e⟩
 ·subst e
  show Gd _ post
  refine⟨fun r hr=>d.ne r (by simp[hr]),?_,?_,fun h=>?_⟩
  ·simp only[XT,ZM]at ev
   omega
  ·have:bls true (s::g::post)=s.length+(0+bls true post):=rfl
   rw[XT,this]at nb
   omega
  ·have:=d.en (by simp)
   rw[XT,show s::g::post=[s,g]++post from rfl,WO [] [s,g] h]at this
   omega
 ·rw[Yf]at e
  subst e
  rw[To]
  have hh:h≠[]:=d.ne h (by simp)
  have h1:1<=h.length:=Y9.mpr hh
  refine⟨fun r hr=>?_,?_,?_,fun _=>?_⟩
  ·rw[List.append_assoc,Zi,Zi,ZD]at hr
   rcases hr with z | z | z
   ·exact d.ne r (by simp[z])
   ·subst z
    intro w
    exact hh (List.append_eq_nil_iff.mp w).1
   ·exact d.ne r (by simp[z])
  ·simp only[Z6,ZM,Wk]at ev ⊢
   omega
  ·rw[List.append_assoc,bls_app]at nb
   rw[List.append_assoc,bls_app]
   generalize par true p.length=b at nb ⊢
   have e1:bls b ([h]++s::g::post)=(if b=true then h.length else 0)+((if(!b)=true then s.length else 0)+((if(!!b)=true then g.length else 0)+bls (!!!b) post)):=rfl
   have e2:bls b ([h++g.drop s.length]++post)=(if b=true then(h++g.drop s.length).length else 0)+bls (!b) post:=rfl
   rw[e1]at nb
   rw[e2,Z6,dl]
   cases b with
   |true=>simp only[Bool.not_true,Bool.not_false,if_true,Yd,if_false]at nb ⊢;omega
   |false=>simp only[Bool.not_true,Bool.not_false,if_true,Yd,if_false]at nb ⊢;omega
  ·have en:=d.en (by simp)
   by_cases c:post=[]
   ·subst c
    rw[YV,WO [] p (by simp)]
    rw[WO [] (p++[h]) (by simp)]at en
    show _<=(h++g.drop s.length).length
    have en':N+1<=g.length:=en
    rw[Z6,dl]
    omega
   ·rw[WO [] _ c]
    rw[show(p++[h])++s::g::post=((p++[h])++[s,g])++post by simp,WO [] _ c]at en
    omega
def Ag1 (m:Nat)(b:Bool)(x y:List Int):Prop:=if b=true then x=y else x.take m=y.take m
def Ag (m:Nat):Bool->List (List Int)->List (List Int)->Prop
 |_,[],[]=>True
 |b,x::R,y::R'=>Ag1 m b x y/\Ag m (!b) R R'
 |_,_,_=>False
theorem V2 {m:Nat}{x y:List Int}:Ag1 m true x y↔x=y:=by unfold Ag1;rw[if_pos rfl]
theorem Vy {m:Nat}{x y:List Int}:Ag1 m false x y↔x.take m=y.take m:=by unfold Ag1;rw[if_neg Bool.false_ne_true]
theorem U2 {m k:Nat}{x y:List Int}(h:x.take m=y.take m)(l:k<=m):x.take k=y.take k:=by
 have:=congrArg (List.take k) h
 rw[List.take_take,List.take_take,W9 l]at this
 exact this
theorem Ug {m:Nat}{x y:List Int}(h:x.take m=y.take m):min m x.length=min m y.length:=by
 have:=congrArg List.length h
 rw[Za,Za]at this
 exact this
theorem take_all {m:Nat}{x y:List Int}(h:x.take m=y.take m)(l:x.length<m):x=y:=by
 have:=Ug h
 rw[X5 (by omega),X5 (by omega)]at h
 exact h
theorem take_app {m:Nat}{x y x' y':List Int}(h:x.take m=x'.take m)(k:y.take m=y'.take m):(x++y).take m=(x'++y').take m:=by
 by_cases l:x.length<m
 ·have:=take_all h l
  subst this
  rw[take_append,take_append,U2 k (by omega)]
 ·have:=Ug h
  rw[take_append,take_append,h,show m - x.length=0 by omega,show m - x'.length=0 by omega,take_zero,take_zero]
theorem take_drop' {m k:Nat}{x y:List Int}(h:x.take m=y.take m):(x.drop k).take (m - k)=(y.drop k).take (m - k):=by
 have:=congrArg (List.drop k) h
 rw[List.drop_take,List.drop_take]at this
 exact this
theorem ag_mono {m m':Nat}(l:m'<=m):∀(R R':List (List Int)) (b:Bool),Ag m b R R'->Ag m' b R R'
 |[],[],_,_=>trivial
 |x::R,y::R',b,h=>⟨by
  cases b with
  |true=>exact V2.mpr (V2.mp h.1)
  |false=>exact Vy.mpr (U2 (Vy.mp h.1) l),ag_mono l R R' (!b) h.2⟩
 |[],_::_,_,h=>h.elim
 |_::_,[],_,h=>h.elim
theorem ag_app {m:Nat}:∀(A:List (List Int)) {X Y:List (List Int)} {b:Bool},Ag m b (A++X) Y->∃A' X',Y=A'++X'/\A'.length=A.length/\Ag m b A A'/\Ag m (par b A.length) X X'
 |[],X,Y,b,h=>⟨[],Y,rfl,rfl,trivial,h⟩
 |x::A,X,[],b,h=>h.elim
 |x::A,X,y::Y,b,h=>by
  obtain⟨A',X',e,l,h1,h2⟩:=ag_app A h.2
  exact⟨y::A',X',by rw[e];rfl,by rw[ZM,ZM,l],⟨h.1,h1⟩,h2⟩
theorem ag_join {m:Nat}:∀(A A':List (List Int)) {X X':List (List Int)} {b:Bool},Ag m b A A'->Ag m (par b A.length) X X'->Ag m b (A++X) (A'++X')
 |[],[],X,X',b,_,h=>h
 |x::A,y::A',X,X',b,h,k=>⟨h.1,ag_join A A' h.2 k⟩
 |[],_::_,_,_,_,h,_=>h.elim
 |_::_,[],_,_,_,h,_=>h.elim
theorem ag_fs {m:Nat}:∀(R R':List (List Int)) (b:Bool),Ag m b R R'->bls b R<m->fs R=fs R'
 |[],[],_,_,_=>rfl
 |[x],[y],_,_,_=>rfl
 |s::g::R,s'::g'::R',b,h,l=>by
  have l1:bls (!b) (g::R)<m:=by
   have:bls b (s::g::R)=_+bls (!b) (g::R):=rfl
   omega
  have ih:=ag_fs (g::R) (g'::R') (!b) h.2 l1
  have c:s.length<=g.length↔s'.length<=g'.length:=by
   cases b with
   |true=>
    have e1:=V2.mp h.1
    have e2:=Ug (Vy.mp h.2.1)
    subst e1
    have:bls true (s::g::R)=s.length+bls false (g::R):=rfl
    omega
   |false=>
    have e1:=Ug (Vy.mp h.1)
    have e2:=V2.mp h.2.1
    subst e2
    have:bls false (s::g::R)=0+(g.length+bls false R):=rfl
    omega
  unfold fs
  by_cases z:s.length<=g.length
  ·rw[if_pos z,if_pos (c.mp z)]
  ·rw[if_neg z,if_neg (fun w=>z (c.mpr w)),ih]
 |[],_::_,_,h,_=>h.elim
 |_::_,[],_,h,_=>h.elim
 |[x],_::_::_,_,h,_=>h.2.elim
 |_::_::_,[x],_,h,_=>h.2.elim
theorem wvs_ag:∀(n N:Nat) (R R':List (List Int)),Gd N R->Gd N R'->Ag (N+1) true R R'->wvs n R=wvs n R'
 |0,_,_,_,_,_,_=>rfl
 |n+1,N,R,R',d,d',h=>by
  unfold wvs
  by_cases e:R=[]
  ·subst e
   cases R' with
   |nil=>rfl
   |cons _ _=>exact h.elim
  have e':R'≠[]:=fun z=>by
   subst z
   cases R with
   |nil=>exact e rfl
   |cons _ _=>exact h
  rw[if_neg e,if_neg e']
  have ef:fs R=fs R':=ag_fs R R' true h (Nat.lt_succ_of_le d.nb)
  obtain⟨pre,s,g,post,rfl,e2,l⟩:=d.at e
  obtain⟨pre',s',g',post',rfl,e2',l'⟩:=d'.at e'
  have lp:pre.length=pre'.length:=by omega
  obtain⟨A',X',x1,x2,x3,x4⟩:=ag_app pre h
  have x5:∃X2,X'=s'::g'::X2/\A'=pre'/\X2=post':=by
   obtain⟨h1,h2⟩:=List.append_inj x1 (by omega)
   exact⟨post',h2.symm,h1.symm,rfl⟩
  obtain⟨X2,rfl,rfl,rfl⟩:=x5
  obtain⟨a1,a2,a3⟩:=x4
  obtain⟨sz,gz⟩:=d.size l
  obtain⟨sz',gz'⟩:=d'.size l'
  -- the two runs
  have ss:s=s'/\g.take s.length=g'.take s.length/\Ag1 (N+1 - s.length) (!par true pre.length) (g.drop s.length) (g'.drop s.length):=by
   cases c:par true pre.length with
   |true=>
    rw[c]at a1 a2
    have a2':=Vy.mp a2
    exact⟨V2.mp a1,U2 a2' (by omega),Vy.mpr (take_drop' a2')⟩
   |false=>
    rw[c]at a1 a2
    have a2':=V2.mp a2
    subst a2'
    exact⟨take_all (Vy.mp a1) (by omega),rfl,V2.mpr rfl⟩
  obtain⟨rfl,tk,dr⟩:=ss
  have ew:wv (pre++s::g::post) (fs (pre++s::g::post))=wv (A'++s::g'::X2) (fs (A'++s::g'::X2)):=by
   rw[e2,e2',<-x2]
   unfold wv
   rw[Xn,Xx,x2,Xn,Xx,tk]
  rw[ew]
  congr 1
  have w1:=d.wo l
  have w2:=d'.wo l'
  rw[e2,e2']
  refine wvs_ag n (N - s.length) _ _ w1 w2 ?_
  have le:N - s.length+1<=N+1:=by omega
  have me:N - s.length+1=N+1 - s.length:=by omega
  rcases Yg pre with z | ⟨p,hh,z⟩
  ·subst z
   have z':A'=[]:=Zc.mp x2
   subst z'
   exact ag_mono le _ _ _ a3
  ·rw[Yf]at z
   subst z
   obtain⟨B',Y',y1,y2,y3,y4⟩:=ag_app p x3
   cases Y' with
   |nil=>exact y4.elim
   |cons k Y'=>
    cases Y' with
    |cons _ _=>exact y4.2.elim
    |nil=>
     subst y1
     rw[To,To,List.append_assoc,List.append_assoc]
     refine ag_join p B' (ag_mono le _ _ _ y3) ⟨?_,?_⟩
     ·have pp:par true (p++[hh]).length=!par true p.length:=by rw[Z6];exact Ve true p.length
      rw[pp,not_not]at dr
      have y5:=y4.1
      cases c:par true p.length with
      |true=>
       rw[c]at dr y5
       rw[V2.mp y5,V2.mp dr]
       exact V2.mpr rfl
      |false=>
       rw[c]at dr y5
       refine Vy.mpr (take_app (U2 (Vy.mp y5) le) ?_)
       rw[me]
       exact Vy.mp dr
     ·have pp:par true (p++[hh]).length=!par true p.length:=by rw[Z6];exact Ve true p.length
      rw[pp,not_not]at a3
      exact ag_mono le _ _ _ a3
def fl:Bool->List (List Int)->List (Int×Bool)
 |_,[]=>[]
 |b,r::R=>(r.map fun p=>(p,b))++fl (!b) R
def bx (E:List Int)(R:List (List Int)):List (Int×Bool):=(E.map fun p=>(p,false))++fl true R
theorem fl_app:∀(A B:List (List Int)) (b:Bool),fl b (A++B)=fl b A++fl (par b A.length) B
 |[],B,b=>rfl
 |x::A,B,b=>by
  show _++fl (!b) (A++B)=(_++fl (!b) A)++fl (par (!b) A.length) B
  rw[fl_app A B (!b),List.append_assoc]
theorem SM:∀(R:List (List Int)) (b:Bool),(fl b R).map (·.1)=R.flatten
 |[],_=>rfl
 |r::R,b=>by
  show((r.map fun p=>(p,b))++fl (!b) R).map (·.1)=r++R.flatten
  rw[ZB,SM R (!b),Y5]
  congr 1
  exact(Y4 fun _ _=>rfl).trans (List.map_id r)
theorem filt_all {l:List (Int×Bool)}{G:List Int}(h:∀z∈l,z.1∉G):l.filter (fun z=>decide (z.1∉G))=l:=List.filter_eq_self.mpr fun z hz=>decide_eq_true (h z hz)
theorem filt_none {l:List (Int×Bool)}{G:List Int}(h:∀z∈l,z.1∈G):l.filter (fun z=>decide (z.1∉G))=[]:=List.filter_eq_nil_iff.mpr fun z hz w=>of_decide_eq_true w (h z hz)
theorem bx_out {E:List Int}{pre post:List (List Int)}{s g:List Int}(nd:((bx E (pre++s::g::post)).map (·.1)).Nodup)(l:s.length<=g.length) :
 (bx E (pre++s::g::post)).filter (fun z=>decide (z.1∉s++g.take s.length))=bx (if pre=[] then E++g.drop s.length else E) (wo (pre++s::g::post) pre.length):=by
 unfold bx at nd ⊢
 rw[ZB,SM,Y5,List.flatten_append,Xk,Xk]at nd
 have eE:E.map ((·.1)∘fun p=>(p,false))=E:=(Y4 fun _ _=>rfl).trans (List.map_id E)
 rw[eE]at nd
 have gs:g=g.take s.length++g.drop s.length:=(List.take_append_drop ..).symm
 generalize hb:par true pre.length=b
 have ef:fl true (pre++s::g::post)=fl true pre++((s.map fun p=>(p,b))++(((g.take s.length).map fun p=>(p,!b))++(((g.drop s.length).map fun p=>(p,!b))++fl b post))):=by
  rw[fl_app,hb]
  show _++((s.map fun p=>(p,b))++((g.map fun p=>(p,!b))++fl (!!b) post))=_
  rw[not_not]
  conv=>lhs;rw[gs]
  rw[ZB,List.append_assoc]
 have nd2:(E++(pre.flatten++(s++((g.take s.length++g.drop s.length)++post.flatten)))).Nodup:=by rw[<-gs];exact nd
 have D:∀x,x∈s++g.take s.length->x∉E/\x∉pre.flatten/\x∉g.drop s.length/\x∉post.flatten:=by
  intro x hx
  rw[WJ]at nd2
  obtain⟨_,n2,n3⟩:=nd2
  rw[WJ]at n2
  obtain⟨_,n4,n5⟩:=n2
  rw[WJ]at n4
  obtain⟨_,n6,n7⟩:=n4
  rw[WJ]at n6
  obtain⟨n8,_,n9⟩:=n6
  rw[WJ]at n8
  obtain⟨_,_,n10⟩:=n8
  rcases Zi.mp hx with z | z
  ·have z1:x∈s++((g.take s.length++g.drop s.length)++post.flatten):=Y1 _ z
   exact⟨fun w=>n3 x w x (ZO _ z1) rfl,fun w=>n5 x w x z1 rfl,fun w=>n7 x z x (Y1 _ (ZO _ w)) rfl,fun w=>n7 x z x (ZO _ w) rfl⟩
  ·have z1:x∈s++((g.take s.length++g.drop s.length)++post.flatten):=ZO _ (Y1 _ (Y1 _ z))
   exact⟨fun w=>n3 x w x (ZO _ z1) rfl,fun w=>n5 x w x z1 rfl,fun w=>n10 x z x w rfl,fun w=>n9 x (Y1 _ z) x w rfl⟩
 have F:∀{l:List (Int×Bool)} {L:List Int},l.map (·.1)=L->(∀x,x∈s++g.take s.length->x∉L)->l.filter (fun z=>decide (z.1∉s++g.take s.length))=l:=fun{l L} e h=>filt_all fun z hz w=>h z.1 w (by rw[<-e];exact List.mem_map_of_mem (f:=(·.1)) hz)
 have mm:∀(L:List Int) (c:Bool),(L.map fun p=>(p,c)).map (·.1)=L:=fun L c=>by rw[Y5];exact(Y4 fun _ _=>rfl).trans (List.map_id L)
 rw[ef,Xz,Xz,Xz,Xz,Xz,F (mm E false) fun x h=>(D x h).1,F (SM pre true) fun x h=>(D x h).2.1,F (mm _ (!b)) fun x h=>(D x h).2.2.1,F (SM post b) fun x h=>(D x h).2.2.2,
  filt_none (l:=s.map fun p=>(p,b)) fun z hz=>by obtain⟨y,hy,rfl⟩:=YC.mp hz;exact Y1 _ hy,filt_none (l:=(g.take s.length).map fun p=>(p,!b)) fun z hz=>by obtain⟨y,hy,rfl⟩:=YC.mp hz;exact ZO _ hy,XT,XT]
 rcases Yg pre with z | ⟨p,hh,z⟩
 ·subst z
  have hb':b=true:=hb.symm
  subst hb'
  show _=((E++g.drop s.length).map fun p=>(p,false))++fl true post
  rw[ZB,List.append_assoc]
  rfl
 ·rw[Yf]at z
  subst z
  have pp:par true (p++[hh]).length=!par true p.length:=by rw[Z6];exact Ve true p.length
  have hb':par true p.length=!b:=by rw[<-hb,pp,not_not]
  have eL:fl true (p++[hh])=fl true p++fl (!b) [hh]:=by rw[fl_app,hb']
  have eR:fl true (p++[hh++g.drop s.length]++post)=fl true p++fl (!b) ([hh++g.drop s.length]++post):=by rw[List.append_assoc,fl_app,hb']
  rw[if_neg (by simp),To,eL,eR]
  show _++((_++((hh.map fun p=>(p,!b))++[]))++_)=_++(_++(((hh++g.drop s.length).map fun p=>(p,!b))++fl (!!b) post))
  rw[not_not,ZB,YV]
  simp only[List.append_assoc]
def gin (acc:List (Bool×List Int))(z:Int×Bool):List (Bool×List Int):=match acc.getLast? with
 |some (b,r)=>if b=z.2 then acc.dropLast++[(b,r++[z.1])] else acc++[(z.2,[z.1])]
 |none=>[(z.2,[z.1])]
def grp (l:List (Int×Bool)):List (Bool×List Int):=l.foldl gin []
def alt:Bool->List (List Int)->List (Bool×List Int)
 |_,[]=>[]
 |b,r::R=>(b,r)::alt (!b) R
theorem gin_more (b:Bool):∀(r q:List Int) (acc:List (Bool×List Int)),(r.map fun p=>(p,b)).foldl gin (acc++[(b,q)])=acc++[(b,q++r)]
 |[],q,acc=>by rw[YV];rfl
 |p::r,q,acc=>by
  show(r.map fun p=>(p,b)).foldl gin (gin (acc++[(b,q)]) (p,b))=_
  have e:gin (acc++[(b,q)]) (p,b)=acc++[(b,q++[p])]:=by
   unfold gin
   rw[Wt]
   show(if b=b then _ else _)=_
   rw[if_pos rfl,List.dropLast_concat]
  rw[e,gin_more b r (q++[p]) acc,List.append_assoc]
  rfl
theorem gin_run {b:Bool}{acc:List (Bool×List Int)}(h:∀x,acc.getLast?=some x->x.1≠b):∀{r:List Int},r≠[]->(r.map fun p=>(p,b)).foldl gin acc=acc++[(b,r)]
 |[],z=>absurd rfl z
 |p::r,_=>by
  show(r.map fun p=>(p,b)).foldl gin (gin acc (p,b))=_
  have e:gin acc (p,b)=acc++[(b,[p])]:=by
   unfold gin
   cases c:acc.getLast? with
   |none=>rw[List.getLast?_eq_none_iff.mp c];rfl
   |some x=>exact if_neg (h x c)
  rw[e,gin_more b r [p] acc]
  rfl
theorem grp_fl:∀(R:List (List Int)) (b:Bool) (acc:List (Bool×List Int)),(∀r∈R,r≠[])->(∀x,acc.getLast?=some x->x.1≠b)->(fl b R).foldl gin acc=acc++alt b R
 |[],b,acc,_,_=>by rw[show alt b []=[] from rfl,YV];rfl
 |r::R,b,acc,h,k=>by
  show((r.map fun p=>(p,b))++fl (!b) R).foldl gin acc=_
  rw[foldl_append,gin_run k (h r ZW),grp_fl R (!b) _ (fun x hx=>h x (ZT _ hx)) fun x hx=>?_,List.append_assoc]
  ·rfl
  ·rw[Wt]at hx
   cases hx
   cases b<;>simp
theorem grp_bx {E:List Int}{R:List (List Int)}(h:∀r∈R,r≠[]):grp (bx E R)=(if E=[] then [] else [(false,E)])++alt true R:=by
 unfold grp bx
 rw[foldl_append]
 by_cases e:E=[]
 ·subst e
  rw[if_pos rfl]
  exact grp_fl R true [] h fun x hx=>by cases hx
 ·rw[if_neg e,gin_run (fun x hx=>by cases hx) e,XT]
  exact grp_fl R true [(false,E)] h fun x hx=>by cases hx;simp
def rg (a:Int)(n:Nat):List Int:=(List.range n).map fun(i:Nat)=>a+(i:Int)
theorem Vi (a:Int)(n:Nat):(rg a n).length=n:=by unfold rg;rw[Z2,YY]
theorem rg_succ (a:Int)(n:Nat):rg a (n+1)=a::rg (a+1) n:=by
 unfold rg
 rw[Yu,Y3,Y5]
 congr 1
 ·omega
 ·exact Y4 fun i _=>by show a+((i+1:Nat):Int)=a+1+(i:Int);omega
theorem rg_take (a:Int)(n m:Nat):(rg a n).take m=rg a (min m n):=by
 unfold rg
 rw[<-map_take,List.take_range]
theorem rg_mem {a x:Int}{n:Nat}(h:x∈rg a n):a<=x/\x<a+(n:Int):=by
 obtain⟨i,hi,rfl⟩:=YC.mp h
 have:=Ys.mp hi
 omega
def lr (c:Nat):List Int->List (List Int)
 |[]=>[]
 |[p]=>[[p],rg (p+1) c]
 |p::q::r=>if q=p+1 then(match lr c (q::r) with
  |s::R=>(p::s)::R
  |[]=>[]) else [p]::rg (p+1) (min c (q - p - 1).toNat)::lr c (q::r)
def pr (c:Nat):List (Int×Int)->List (List Int)
 |[]=>[]
 |[(f,m)]=>[rg f m.toNat,rg (f+m) c]
 |(f,m)::(f',m')::r=>rg f m.toNat::rg (f+m) (min c (f' - f - m).toNat)::pr c ((f',m')::r)
theorem pr_head (c:Nat)(f m:Int)(r:List (Int×Int)):∃R,pr c ((f,m)::r)=rg f m.toNat::R/\∀f0 m0:Int,f=f0+1->m0=m+1->0<=m->pr c ((f0,m0)::r)=(f0::rg f m.toNat)::R:=by
 cases r with
 |nil=>
  refine⟨_,rfl,fun f0 m0 e1 e2 h=>?_⟩
  show [rg f0 m0.toNat,rg (f0+m0) c]=_
  subst e1 e2
  rw[show(m+1).toNat=m.toNat+1 by omega,rg_succ,show f0+(m+1)=f0+1+m by omega]
 |cons b r=>
  obtain⟨f',m'⟩:=b
  refine⟨_,rfl,fun f0 m0 e1 e2 h=>?_⟩
  show rg f0 m0.toNat::rg (f0+m0) (min c (f' - f0 - m0).toNat)::_=_
  subst e1 e2
  rw[show(m+1).toNat=m.toNat+1 by omega,rg_succ,show f0+(m+1)=f0+1+m by omega,show f' - f0 - (m+1)=f' - (f0+1) - m by omega]
theorem pr_blk (c:Nat):∀row:List Int,pr c (blk row)=lr c row
 |[]=>rfl
 |[p]=>by
  show [rg p (1:Int).toNat,rg (p+1) c]=[[p],rg (p+1) c]
  rw[show(1:Int).toNat=0+1 from rfl,rg_succ]
  rfl
 |p::q::r=>by
  have ih:=pr_blk c (q::r)
  obtain⟨n,t,e⟩:=blk_head (p:=q) (r:=r)
  have n1:1<=n:=((Tr (q::r)).1 (q,n) (by rw[e];exact ZW)).2.1
  rw[e]at ih
  have eb:blk (p::q::r)=if q=p+1 then(p,n+1)::t else(p,1)::(q,n)::t:=by
   conv=>lhs;unfold blk
   rw[e]
  obtain⟨R,h1,h2⟩:=pr_head c q n t
  rw[eb]
  unfold lr
  by_cases z:q=p+1
  ·rw[if_pos z,if_pos z,h2 p (n+1) z rfl (by omega),<-ih,h1]
  ·rw[if_neg z,if_neg z,<-ih]
   show rg p (1:Int).toNat::rg (p+1) (min c (q - p - 1).toNat)::_=_
   rw[show(1:Int).toNat=0+1 from rfl,rg_succ]
   rfl
theorem lr_head (c:Nat)(p:Int)(r:List Int):∃s g R,lr c (p::r)=s::g::R/\s≠[]:=by
 induction r generalizing p with
 |nil=>exact⟨_,_,_,rfl,by simp⟩
 |cons q r ih=>
  obtain⟨s,g,R,e,_⟩:=ih q
  unfold lr
  by_cases z:q=p+1
  ·rw[if_pos z,e]
   exact⟨_,_,_,rfl,by simp⟩
  ·rw[if_neg z]
   exact⟨_,_,_,rfl,by simp⟩
theorem lr_in {c:Nat}{p q:Int}{r:List Int}(z:q=p+1):∃s g R,lr c (q::r)=s::g::R/\lr c (p::q::r)=(p::s)::g::R:=by
 obtain⟨s,g,R,e,_⟩:=lr_head c q r
 refine⟨s,g,R,e,?_⟩
 conv=>lhs;unfold lr
 rw[if_pos z,e]
theorem lr_out {c:Nat}{p q:Int}{r:List Int}(z:q≠p+1):lr c (p::q::r)=[p]::rg (p+1) (min c (q - p - 1).toNat)::lr c (q::r):=by
 conv=>lhs;unfold lr
 rw[if_neg z]
theorem lr_gd {c N:Nat}(hc:N+1<=c):∀{row:List Int},row.Pairwise (· < ·)->row.length<=N->(∀r∈lr c row,r≠[])/\(lr c row).length % 2=0/\bls true (lr c row)=row.length/\(row≠[]->N+1<=((lr c row).getD ((lr c row).length - 1) []).length)
 |[],_,_=>⟨(fun r h=>by cases h),rfl,rfl,fun h=>absurd rfl h⟩
 |[p],_,_=>by
  refine⟨fun r h=>?_,by simp[lr],by simp[lr,bls],fun _=>?_⟩
  ·rcases ZV.mp h with z | z
   ·rw[z];simp
   ·rw[ZD.mp z]
    exact fun w=>by have:=congrArg List.length w;rw[Vi]at this;simp at this;omega
  ·show N+1<=(rg (p+1) c).length
   rw[Vi]
   exact hc
 |p::q::r,up,l=>by
  obtain⟨u1,u2⟩:=Zt.mp up
  have pq:=u1 q ZW
  obtain⟨i1,i2,i3,i4⟩:=lr_gd hc u2 (by simp only[ZM]at l ⊢;omega)
  by_cases z:q=p+1
  ·obtain⟨s,g,R,e1,e2⟩:=lr_in (c:=c) (r:=r) z
   rw[e1]at i1 i2 i3 i4
   rw[e2]
   refine⟨fun x hx=>?_,i2,?_,fun _=>?_⟩
   ·rcases ZV.mp hx with w | w
    ·rw[w];simp
    ·exact i1 x (ZT _ w)
   ·have a:bls true (s::g::R)=s.length+bls false (g::R):=rfl
    have b:bls true ((p::s)::g::R)=(s.length+1)+bls false (g::R):=rfl
    rw[b]
    rw[a]at i3
    simp only[ZM]at i3 ⊢
    omega
   ·have:=i4 (by simp)
    rw[show s::g::R=[s]++g::R from rfl,WO [] [s] (by simp)]at this
    rw[show(p::s)::g::R=[p::s]++g::R from rfl,WO [] [p::s] (by simp)]
    exact this
  ·rw[lr_out z]
   have ne:lr c (q::r)≠[]:=by obtain⟨s,g,R,e,_⟩:=lr_head c q r;rw[e];simp
   refine⟨fun x hx=>?_,?_,?_,fun _=>?_⟩
   ·rcases ZV.mp hx with w | w
    ·rw[w];simp
    ·rcases ZV.mp w with v | v
     ·rw[v]
      exact fun w=>by have:=congrArg List.length w;rw[Vi]at this;simp only[Wk]at this;omega
     ·exact i1 x v
   ·simp only[ZM];omega
   ·show 1+(0+bls true (lr c (q::r)))=_
    rw[i3]
    simp only[ZM]
    omega
   ·rw[show [p]::rg (p+1) (min c (q - p - 1).toNat)::lr c (q::r)=[[p],rg (p+1) (min c (q - p - 1).toNat)]++lr c (q::r) from rfl,WO [] _ ne]
    exact i4 (by simp)
theorem TC {c:Nat}{row:List Int}(hc:row.length+1<=c)(up:row.Pairwise (· < ·)):Gd row.length (lr c row):=by
 obtain⟨h1,h2,h3,h4⟩:=lr_gd hc up (Nat.le_refl _)
 refine⟨h1,h2,by omega,fun h=>h4 fun z=>h ?_⟩
 rw[z]
 rfl
theorem lr_ag {c d m:Nat}(hc:m<=c)(hd:m<=d):∀row:List Int,Ag m true (lr c row) (lr d row)
 |[]=>trivial
 |[p]=>⟨V2.mpr rfl,Vy.mpr (by rw[rg_take,rg_take,W9 hc,W9 hd]),trivial⟩
 |p::q::r=>by
  have ih:=lr_ag hc hd (q::r)
  by_cases z:q=p+1
  ·obtain⟨s,g,R,e1,e2⟩:=lr_in (c:=c) (r:=r) z
   obtain⟨s',g',R',e1',e2'⟩:=lr_in (c:=d) (r:=r) z
   rw[e1,e1']at ih
   rw[e2,e2']
   exact⟨V2.mpr (by rw[V2.mp ih.1]),ih.2⟩
  ·rw[lr_out z,lr_out z]
   exact⟨V2.mpr rfl,Vy.mpr (by rw[rg_take,rg_take];congr 1;omega),ih⟩
def lbx:List Int->List (Int×Bool)
 |[]=>[]
 |[p]=>(p,true)::(rg (p+1) 25).map fun x=>(x,false)
 |p::q::r=>(p,true)::((rg (p+1) (min 25 (q - p - 1).toNat)).map fun x=>(x,false))++lbx (q::r)
theorem lbx_is:∀row:List Int,lbx row=fl true (lr 25 row)
 |[]=>rfl
 |[p]=>by show _=(p,true)::(((rg (p+1) 25).map fun x=>(x,false))++[]);rw[YV];rfl
 |p::q::r=>by
  have ih:=lbx_is (q::r)
  by_cases z:q=p+1
  ·obtain⟨s,g,R,e1,e2⟩:=lr_in (c:=25) (r:=r) z
   rw[e1]at ih
   rw[e2]
   show(p,true)::((rg (p+1) (min 25 (q - p - 1).toNat)).map fun x=>(x,false))++lbx (q::r)=(p,true)::(s.map fun x=>(x,true))++fl false (g::R)
   rw[ih,show(q - p - 1).toNat=0 by omega,show min 25 0=0 from rfl]
   rfl
  ·rw[lr_out z]
   show(p,true)::((rg (p+1) (min 25 (q - p - 1).toNat)).map fun x=>(x,false))++lbx (q::r)=(p,true)::(((rg (p+1) (min 25 (q - p - 1).toNat)).map fun x=>(x,false))++fl true (lr 25 (q::r)))
   rw[ih]
   simp
theorem lbx_up:∀{row:List Int},row.Pairwise (· < ·)->((lbx row).map (·.1)).Pairwise (· < ·)/\∀p r,row=p::r->∀x∈(lbx row).map (·.1),p<=x
 |[],_=>⟨.nil,fun p r h=>by cases h⟩
 |[p],_=>by
  have e:(lbx [p]).map (·.1)=p::rg (p+1) 25:=by
   show p::((rg (p+1) 25).map fun x=>(x,false)).map (·.1)=_
   rw[Y5]
   exact congrArg (p::·) ((Y4 fun _ _=>rfl).trans (List.map_id _))
  rw[e]
  refine⟨Zt.mpr ⟨fun x hx=>by have:=rg_mem hx;omega,?_⟩,fun p' r h x hx=>?_⟩
  ·unfold rg
   exact WK.mpr (V5.imp fun h=>by omega)
  ·cases h
   rcases ZV.mp hx with z | z
   ·omega
   ·have:=rg_mem z;omega
 |p::q::r,up=>by
  obtain⟨u1,u2⟩:=Zt.mp up
  have pq:=u1 q ZW
  obtain⟨i1,i2⟩:=lbx_up u2
  have i2:=i2 q r rfl
  have e:(lbx (p::q::r)).map (·.1)=p::(rg (p+1) (min 25 (q - p - 1).toNat)++(lbx (q::r)).map (·.1)):=by
   show((p,true)::((rg (p+1) (min 25 (q - p - 1).toNat)).map fun x=>(x,false))++lbx (q::r)).map (·.1)=_
   rw[ZB,Y3,Y5]
   have mm:(rg (p+1) (min 25 (q - p - 1).toNat)).map ((fun x=>x.fst)∘fun x=>(x,false))=rg (p+1) (min 25 (q - p - 1).toNat):=(Y4 fun _ _=>rfl).trans (List.map_id _)
   rw[mm]
   rfl
  rw[e]
  have g1:∀x∈rg (p+1) (min 25 (q - p - 1).toNat),p<x/\x<q:=fun x hx=>by have:=rg_mem hx;omega
  refine⟨Zt.mpr ⟨fun x hx=>?_,YD.mpr ⟨?_,i1,fun x hx y hy=>?_⟩⟩,fun p' r' h x hx=>?_⟩
  ·rcases Zi.mp hx with z | z
   ·exact(g1 x z).1
   ·have:=i2 x z;omega
  ·unfold rg
   exact WK.mpr (V5.imp fun h=>by omega)
  ·have:=g1 x hx
   have:=i2 y hy
   omega
  ·cases h
   rcases ZV.mp hx with z | z
   ·omega
   ·rcases Zi.mp z with w | w
    ·have:=g1 x w;omega
    ·have:=i2 x w;omega
theorem waves_due {row:List Int}(up:row.Pairwise (· < ·))(l:row.length<=12)(n:Nat):wvs n (pr (row.length+1) (blk row))=wvs n (lr 25 row):=by
 rw[pr_blk]
 exact wvs_ag n row.length _ _ (TC (Nat.le_refl _) up) (TC (by omega) up) (lr_ag (Nat.le_refl _) (by omega) row)
theorem wo_len {pre post:List (List Int)}{s g:List Int}:(wo (pre++s::g::post) pre.length).length+2=(pre++s::g::post).length/\(wo (pre++s::g::post) pre.length).flatten.length<=(pre++s::g::post).flatten.length:=by
 rcases Yg pre with e | ⟨p,h,e⟩
 ·subst e
  show post.length+2=(s::g::post).length/\post.flatten.length<=(s::g::post).flatten.length
  rw[Xk,Xk,Z6,Z6]
  exact⟨rfl,by omega⟩
 ·rw[Yf]at e
  subst e
  rw[To]
  constructor
  ·simp only[Z6,ZM,Wk]
   omega
  ·have:(g.drop s.length).length<=g.length:=by rw[Yz];omega
   simp only[List.flatten_append,Xk,List.flatten_nil,Z6,Wk]
   omega
theorem wvs_nil:∀n,wvs n []=[]
 |0=>rfl
 |n+1=>rfl
theorem mem_flat {R:List (List Int)}{n:Nat}(h:R.flatten.length<=n):∀r∈R,r.length<=n:=fun r hr=>by
 obtain⟨A,B,rfl⟩:=List.append_of_mem hr
 rw[List.flatten_append,Xk,Z6,Z6]at h
 omega
theorem lr_flat {c:Nat}:∀row:List Int,(lr c row).flatten.length<=row.length*(c+1)/\(lr c row).length<=2*row.length
 |[]=>⟨Yp _,Yp _⟩
 |[p]=>by
  show(([p]:List Int)++(rg (p+1) c++[])).length<=1*(c+1)/\2<=2
  rw[YV,Z6,Vi]
  simp
  omega
 |p::q::r=>by
  obtain⟨i1,i2⟩:=lr_flat (c:=c) (q::r)
  have em:(p::q::r).length*(c+1)=(q::r).length*(c+1)+(c+1):=by rw[ZM,Nat.succ_mul]
  by_cases z:q=p+1
  ·obtain⟨s,g,R,e1,e2⟩:=lr_in (c:=c) (r:=r) z
   rw[e1]at i1 i2
   rw[e2,em]
   simp only[Xk,Z6,ZM]at i1 i2 ⊢
   omega
  ·rw[lr_out z,em]
   simp only[Xk,Z6,ZM,Vi,Wk]at i1 i2 ⊢
   omega
end BB
namespace K97
open L2
def top (i:Nat):Stmt:=PySem.Challenge.pw_boxballs_k97_whole_many_blocks_and_far_r.main.body.getD i (.Pass ⟨0,0,0,0⟩)
abbrev Vl:Stmt:=top 8
theorem Ud:Zw ["thing","least","greatest"] ["thing","least","greatest"] (ZY Vl):=⟨rfl,rfl,rfl,by decide +kernel,rfl,by decide +kernel,by decide +kernel⟩
abbrev V3:Stmt:=top 9
theorem Vq:Zw ["thing","least","greatest"] ["thing","least","greatest"] (ZY V3):=⟨rfl,rfl,rfl,by decide +kernel,rfl,by decide +kernel,by decide +kernel⟩
abbrev Wh:Stmt:=top 10
theorem Ue:Zw ["numbers"] ["numbers"] (ZY Wh):=⟨rfl,rfl,rfl,by decide +kernel,rfl,by decide +kernel,by decide +kernel⟩
abbrev s_carry:Stmt:=top 11
theorem sc_carry:Zw ["row","size","behind","load","taken","box","place","laid"] ["row","size"] (ZY s_carry):=⟨rfl,rfl,rfl,by decide +kernel,rfl,by decide +kernel,by decide +kernel⟩
abbrev VN:Stmt:=top 12
theorem Sz:Zw ["row"] ["row"] (ZY VN):=⟨rfl,rfl,rfl,by decide +kernel,rfl,by decide +kernel,by decide +kernel⟩
abbrev VM:Stmt:=top 13
theorem UL:Zw ["row","size","ahead","taken"] ["row","size"] (ZY VM):=⟨rfl,rfl,rfl,by decide +kernel,rfl,by decide +kernel,by decide +kernel⟩
abbrev Xg:Stmt:=top 14
theorem Ua:Zw ["row","firsts","lasts"] ["row"] (ZY Xg):=⟨rfl,rfl,rfl,by decide +kernel,rfl,by decide +kernel,by decide +kernel⟩
abbrev WS:Stmt:=top 15
theorem Ub:Zw ["places","out","left"] ["places","out"] (ZY WS):=⟨rfl,rfl,rfl,by decide +kernel,rfl,by decide +kernel,by decide +kernel⟩
abbrev Xb:Stmt:=top 16
theorem VA:Zw ["counts","first"] ["counts"] (ZY Xb):=⟨rfl,rfl,rfl,by decide +kernel,rfl,by decide +kernel,by decide +kernel⟩
abbrev T7:Stmt:=top 20
theorem sc_is_row:Zw ["thing"] ["thing"] (ZY T7):=⟨rfl,rfl,rfl,by decide +kernel,rfl,by decide +kernel,by decide +kernel⟩
abbrev Th:Stmt:=top 21
theorem sc_carried:Zw ["row","behind","taken"] ["row"] (ZY Th):=⟨rfl,rfl,rfl,by decide +kernel,rfl,by decide +kernel,by decide +kernel⟩
abbrev s_undone:Stmt:=top 22
theorem sc_undone:Zw ["row"] ["row"] (ZY s_undone):=⟨rfl,rfl,rfl,by decide +kernel,rfl,by decide +kernel,by decide +kernel⟩
abbrev s_loads:Stmt:=top 23
theorem sc_loads:Zw ["row","told","load","box"] ["row"] (ZY s_loads):=⟨rfl,rfl,rfl,by decide +kernel,rfl,by decide +kernel,by decide +kernel⟩
abbrev Tj:Stmt:=top 27
theorem sc_is_free:Zw ["row","found","first","many","start","following"] ["row"] (ZY Tj):=⟨rfl,rfl,rfl,by decide +kernel,rfl,by decide +kernel,by decide +kernel⟩
abbrev T8:Stmt:=top 28
theorem U5:Zw ["row"] ["row"] (ZY T8):=⟨rfl,rfl,rfl,by decide +kernel,rfl,by decide +kernel,by decide +kernel⟩
abbrev Xa:Stmt:=top 29
theorem WW:Zw ["row","steps","found"] ["row","steps"] (ZY Xa):=⟨rfl,rfl,rfl,by decide +kernel,rfl,by decide +kernel,by decide +kernel⟩
abbrev WE:Stmt:=top 30
theorem WX:Zw ["row","there","steps"] ["row"] (ZY WE):=⟨rfl,rfl,rfl,by decide +kernel,rfl,by decide +kernel,by decide +kernel⟩
abbrev Xl:Stmt:=top 31
theorem Xy:Zw ["row","steps","there"] ["row"] (ZY Xl):=⟨rfl,rfl,rfl,by decide +kernel,rfl,by decide +kernel,by decide +kernel⟩
abbrev Ti:Stmt:=top 34
theorem sc_is_ball:Zw ["thing"] ["thing"] (ZY Ti):=⟨rfl,rfl,rfl,by decide +kernel,rfl,by decide +kernel,by decide +kernel⟩
abbrev WT:Stmt:=top 35
theorem Uc:Zw ["thing"] ["thing"] (ZY WT):=⟨rfl,rfl,rfl,by decide +kernel,rfl,by decide +kernel,by decide +kernel⟩
abbrev T6:Stmt:=top 36
theorem sc_put_in:Zw ["lists","kind","number","numbers","greater","put_out"] ["lists","kind"] (ZY T6):=⟨rfl,rfl,rfl,by decide +kernel,rfl,by decide +kernel,by decide +kernel⟩
abbrev U6:Stmt:=top 37
theorem sc_staying:Zw ["motley","lists","place","kind"] ["motley"] (ZY U6):=⟨rfl,rfl,rfl,by decide +kernel,rfl,by decide +kernel,by decide +kernel⟩
abbrev Vm:Stmt:=top 39
theorem sc_peeled:Zw ["row","balls"] ["row"] (ZY Vm):=⟨rfl,rfl,rfl,by decide +kernel,rfl,by decide +kernel,by decide +kernel⟩
abbrev Tk:Stmt:=top 41
theorem sc_lengths:Zw ["row","counts","left","rest"] ["row"] (ZY Tk):=⟨rfl,rfl,rfl,by decide +kernel,rfl,by decide +kernel,by decide +kernel⟩
abbrev U7:Stmt:=top 42
theorem sc_runs_in:Zw ["row","found","starts","runs","at","first","many","behind","end"] ["row"] (ZY U7):=⟨rfl,rfl,rfl,by decide +kernel,rfl,by decide +kernel,by decide +kernel⟩
abbrev V4:Stmt:=top 43
theorem Vp:Zw ["runs","at"] ["runs"] (ZY V4):=⟨rfl,rfl,rfl,by decide +kernel,rfl,by decide +kernel,by decide +kernel⟩
abbrev Wp:Stmt:=top 44
theorem VB:Zw ["runs","at","rest"] ["runs","at"] (ZY Wp):=⟨rfl,rfl,rfl,by decide +kernel,rfl,by decide +kernel,by decide +kernel⟩
abbrev s_waves:Stmt:=top 45
theorem sc_waves:Zw ["row","told","runs","at","short","behind"] ["row"] (ZY s_waves):=⟨rfl,rfl,rfl,by decide +kernel,rfl,by decide +kernel,by decide +kernel⟩
abbrev Vj:Stmt:=top 47
theorem T4:Zw ["_law_script","_law_k"] ["_law_script","_law_k"] (ZY Vj):=⟨rfl,rfl,rfl,by decide +kernel,rfl,by decide +kernel,by decide +kernel⟩
abbrev Tf:Stmt:=top 48
theorem sc_L_state:Zw ["_law_script","_law_k","_law_cell"] ["_law_script","_law_k"] (ZY Tf):=⟨rfl,rfl,rfl,by decide +kernel,rfl,by decide +kernel,by decide +kernel⟩
abbrev s_L_take:Stmt:=top 49
theorem sc_L_take:Zw ["_law_state_here","_law_many","_law_found","_law_mixed"] ["_law_state_here","_law_many"] (ZY s_L_take):=⟨rfl,rfl,rfl,by decide +kernel,rfl,by decide +kernel,by decide +kernel⟩
abbrev Wg:Stmt:=top 50
theorem T1:Zw ["_law_call","_law_error","e","_law_sorts"] ["_law_call"] (ZY Wg):=⟨rfl,rfl,rfl,by decide +kernel,rfl,by decide +kernel,by decide +kernel⟩
abbrev Wf:Stmt:=top 51
theorem T5:Zw ["_law_row","_law_there","_law_place","_law_here"] ["_law_row"] (ZY Wf):=⟨rfl,rfl,rfl,by decide +kernel,rfl,by decide +kernel,by decide +kernel⟩
abbrev VL:Stmt:=top 52
theorem Sx:Zw ["_law_row"] ["_law_row"] (ZY VL):=⟨rfl,rfl,rfl,by decide +kernel,rfl,by decide +kernel,by decide +kernel⟩
abbrev UC:Stmt:=top 53
theorem Sy:Zw ["_law_row"] ["_law_row"] (ZY UC):=⟨rfl,rfl,rfl,by decide +kernel,rfl,by decide +kernel,by decide +kernel⟩
abbrev UB:Stmt:=top 54
theorem Sw:Zw ["_law_row","_law_found","_law_place"] ["_law_row"] (ZY UB):=⟨rfl,rfl,rfl,by decide +kernel,rfl,by decide +kernel,by decide +kernel⟩
abbrev Vk:Stmt:=top 55
theorem T3:Zw ["_law_row","_law_some","_law_k"] ["_law_row"] (ZY Vk):=⟨rfl,rfl,rfl,by decide +kernel,rfl,by decide +kernel,by decide +kernel⟩
abbrev U8:Stmt:=top 56
theorem sc_L_boxes:Zw ["_law_row","_law_found","_law_k","_law_gap"] ["_law_row"] (ZY U8):=⟨rfl,rfl,rfl,by decide +kernel,rfl,by decide +kernel,by decide +kernel⟩
abbrev s_L_runs:Stmt:=top 57
theorem sc_L_runs:Zw ["_law_boxes_here","_law_found","_law_place","_law_ball"] ["_law_boxes_here"] (ZY s_L_runs):=⟨rfl,rfl,rfl,by decide +kernel,rfl,by decide +kernel,by decide +kernel⟩
abbrev TZ:Stmt:=top 58
theorem sc_L_due:Zw ["_law_row","_law_boxes_here","_law_found","_law_runs_here","_law_at","_law_many","_law_wave","_law_gone"] ["_law_row"] (ZY TZ):=⟨rfl,rfl,rfl,by decide +kernel,rfl,by decide +kernel,by decide +kernel⟩
abbrev T9:Stmt:=top 59
theorem sc_L_same:Zw ["_law_found","_law_due_here"] ["_law_found","_law_due_here"] (ZY T9):=⟨rfl,rfl,rfl,by decide +kernel,rfl,by decide +kernel,by decide +kernel⟩
abbrev Te:Stmt:=top 60
theorem sc_L_loads:Zw ["_law_row","_law_found","_law_here","_law_load"] ["_law_row"] (ZY Te):=⟨rfl,rfl,rfl,by decide +kernel,rfl,by decide +kernel,by decide +kernel⟩
abbrev WG:Stmt:=top 61
theorem VU:Zw ["_law_state_here","_law_found","_law_place","_law_size","_law_turn"] ["_law_state_here"] (ZY WG):=⟨rfl,rfl,rfl,by decide +kernel,rfl,by decide +kernel,by decide +kernel⟩
abbrev s_L_put:Stmt:=top 62
theorem sc_L_put:Zw ["_law_lists","_law_number","_law_first","_law_at"] ["_law_lists","_law_number"] (ZY s_L_put):=⟨rfl,rfl,rfl,by decide +kernel,rfl,by decide +kernel,by decide +kernel⟩
abbrev s_L_near:Stmt:=top 63
theorem sc_L_near:Zw ["_law_state_here","_law_found","_law_turn"] ["_law_state_here"] (ZY s_L_near):=⟨rfl,rfl,rfl,by decide +kernel,rfl,by decide +kernel,by decide +kernel⟩
abbrev XX:Stmt:=top 64
theorem T2:Zw ["_law_row","_law_counts","_law_gone","_law_out","_law_left"] ["_law_row"] (ZY XX):=⟨rfl,rfl,rfl,by decide +kernel,rfl,by decide +kernel,by decide +kernel⟩
abbrev Td:Stmt:=top 65
theorem sc_L_again:Zw ["_law_call","_law_due_here","_law_first"] ["_law_call","_law_due_here"] (ZY Td):=⟨rfl,rfl,rfl,by decide +kernel,rfl,by decide +kernel,by decide +kernel⟩
abbrev Tg:Stmt:=top 66
theorem sc_L_steps:Zw ["_law_row","_law_steps_here"] ["_law_row"] (ZY Tg):=⟨rfl,rfl,rfl,by decide +kernel,rfl,by decide +kernel,by decide +kernel⟩
abbrev Xp:Stmt:=top 67
theorem Vo:Zw ["_law_row","_law_due_here"] ["_law_row"] (ZY Xp):=⟨rfl,rfl,rfl,by decide +kernel,rfl,by decide +kernel,by decide +kernel⟩
abbrev XR:Stmt:=top 68
theorem Vn:Zw ["_law_state_here","_law_row","_law_far","_law_steps_here","_law_due_here","_law_first","_law_size"] ["_law_state_here"] (ZY XR):=⟨rfl,rfl,rfl,by decide +kernel,rfl,by decide +kernel,by decide +kernel⟩
abbrev YF:Stmt:=top 69
theorem VV:Zw ["_law_state_here","_law_row","_law_many","_law_long","_law_motley","_law_due_here","_law_place","_law_kind","_law_wide","_law_refusals"] ["_law_state_here","_law_row"] (ZY YF):=⟨rfl,rfl,rfl,by decide +kernel,rfl,by decide +kernel,by decide +kernel⟩
abbrev s_law:Stmt:=top 70
theorem sc_law:Zw ["_law_script","_law_k","_law_state_here","_law_row"] ["_law_script"] (ZY s_law):=⟨rfl,rfl,rfl,by decide +kernel,rfl,by decide +kernel,by decide +kernel⟩
def Dok (x:Int)(b:Bool):Prop:=0<=x/\(b=false->x<2147483647)
def Wl (H:Hp)(a:Addr)(x:Int)(b:Bool):Prop:=H a=some (.lst [.int x,.bl b])/\Dok x b
def WB (a:Addr)(H H':Hp):Prop:=∀c o,c≠a->H c=some o->H' c=some o
theorem at_ints {ns:List Int}{k:Int}(h0:0<=k)(h1:k<(ns.length:Int)):∃v:Int,atI (ns.map V.int) k=some (.int v)/\ns[k.toNat]?=some v:=by
 have hk:k.toNat<ns.length:=by omega
 have ek:((k.toNat:Nat):Int)=k:=by omega
 refine⟨ns[k.toNat],?_,Z1 hk⟩
 have q:atI (ns.map V.int) ((k.toNat:Nat):Int)=some (.int ns[k.toNat]):=Zj (by rw[ZQ,Z1 hk]<;>rfl)
 rw[ek]at q
 exact q
def spCell (K:W.Frag):Sp:=fun vs H Q _=>∃(a:Addr) (ns:List Int) (k:Int),vs=[.ref a,.int k]/\Zp K H a (ns.map V.int)/\0<=k/\∀c:Int,Q (.int c) H
def spState (K:W.Frag):Sp:=fun vs H Q _=>∃(a:Addr) (ns:List Int) (k:Int),vs=[.ref a,.int k]/\Zp K H a (ns.map V.int)/\0<=k/\
 ∀(r:Addr) (x:Int) (b:Bool),H r=none->Dok x b->Q (.ref r) (upd H r (.lst [.int x,.bl b]))
def Tl (K:W.Frag):Sp:=fun vs H Q _=>∃(a:Addr) (x:Int) (b:Bool) (m:Int),vs=[.ref a,.int m]/\Wl H a x b/\0<m/\m<1073741824/\
 ∀(v x':Int),0<=v->v<m->Dok x' b->Q (.int v) (upd H a (.lst [.int x',.bl b]))
section
variable {P:Program}{w:World}{K:W.Frag}{mg:Str->Option Value}{base:Heap}
theorem ok_L_cell_at {f:Addr}{fd:FuncData}(F:XH K "_law_cell_at" "_law_cell_at" Vj f fd)(nb:Nb mg)   :
 Y6 P w K mg base XB 1 f fd ["_law_script","_law_k"] (spCell K):=by
 have nd:=T4.nd
 refine F.ok (k:=0) T4 (fun vs H Q E h=>?_) (fun cdv A outer s H vs Q E hr h=>?_)
 ·obtain⟨a,ns,k,rfl,_⟩:=h
  rfl
 obtain⟨a,ns,k,rfl,hS,h0,q⟩:=h
 refine⟨_,(Z7 (YX (Zr Vz (pv 1) (ZJ Zx rfl nb.len PySem.boot_len (Z0 (pv 0) Z3)) (Zf _))
  (ZX (ZE (Zm Zk (pv 0) (pv 1) (fun _ _=>rfl))))
  Zg)
 (ZX (ZE ZZ))),?_⟩
 refine⟨_,rfl,_,rfl,a,_,rfl,.inl hS,_,_,rfl,rfl,_,rfl,?_⟩
 refine ite2 (fun c=>?_) (fun c=>?_)
 ·have c':k<(((ns.map V.int).length:Nat):Int):=of_decide_eq_true c
  rw[Z2]at c'
  obtain⟨v,q1,_⟩:=at_ints h0 c'
  exact⟨_,rfl,_,rfl,a,_,_,_,rfl,rfl,hS,q1,q _⟩
 ·exact q 0
theorem ok_L_state {f:Addr}{fd:FuncData}(F:XH K "_law_state" "_law_state" Tf f fd)(nb:Nb mg)(h_L_cell_at:YR P w K mg base 1 "_law_cell_at" ["_law_script","_law_k"] (spCell K))  :
 Y6 P w K mg base XB 2 f fd ["_law_script","_law_k"] (spState K):=by
 have nd:=sc_L_state.nd
 refine F.ok (k:=1) sc_L_state (fun vs H Q E h=>?_) (fun cdv A outer s H vs Q E hr h=>?_)
 ·obtain⟨a,ns,k,rfl,_⟩:=h
  rfl
 obtain⟨a,ns,k,rfl,hS,h0,q⟩:=h
 refine⟨_,(Z7 (ZH (i:=2) nd rfl (Or.inl rfl) (ZI h_L_cell_at hr (Z0 (pv 0) (Z0 (pv 1) Z3))))
 (Z7 (YX (Zr op_ge (pv 2) (ZG SZ ZZ ZZ) (Zf _))
  (ZX (ZE (Y2 (Z0 (ZG Yb (pv 2) (ZG SZ ZZ ZZ)) (Z0 Yk Z3)))))
  Zg)
 (ZX (ZE (Y2 (Z0 (ZG Uv (pv 2) ZZ) (Z0 Yk Z3))))))),?_⟩
 refine⟨_,rfl,_,rfl,a,ns,k,rfl,hS,h0,fun c=>?_⟩
 refine⟨_,rfl,_,_,rfl,rfl,⟨by decide,by decide,by decide⟩,_,_,rfl,rfl,_,rfl,?_⟩
 refine ite2 (fun z=>?_) (fun z=>?_)
 ·have z':(10:Int)^18<=c:=of_decide_eq_true z
  refine⟨_,rfl,_,_,rfl,rfl,⟨by decide,by decide,by decide⟩,_,_,rfl,rfl,(by show 2<=sizeLine;decide),fun r hr'=>q r _ true hr' ⟨?_,fun e=>by cases e⟩⟩
  show(0:Int)<=c - 10^18
  omega
 ·refine⟨_,rfl,_,_,rfl,rfl,(by show(0:Int)<2147483647;decide),(by show 2<=sizeLine;decide),fun r hr'=>q r _ false hr' ⟨?_,fun _=>?_⟩⟩
  ·exact Tp _ (by decide)
  ·exact V9 _ (by decide)
theorem ok_L_take {f:Addr}{fd:FuncData}(F:XH K "_law_take" "_law_take" s_L_take f fd)(nb:Nb mg)   :
 Y6 P w K mg base XB 1 f fd ["_law_state_here","_law_many"] (Tl K):=by
 have nd:=sc_L_take.nd
 refine F.ok (k:=0) sc_L_take (fun vs H Q E h=>?_) (fun cdv A outer s H vs Q E hr h=>?_)
 ·obtain⟨a,x,b,m,rfl,_⟩:=h
  rfl
 obtain⟨a,x,b,m,rfl,⟨hS,d0,d1⟩,m0,m1,q⟩:=h
 refine⟨_,(Z7 (YX (Zo (Zm Zk (pv 0) ZZ (fun _ _=>rfl)) (fun _=>rfl))
  (Z7 (ZH (i:=2) nd rfl (Or.inl rfl) (ZG Uv (Zm Zk (pv 0) ZZ (fun _ _=>rfl)) (pv 1)))
 (Z7 (Vg (ZG op_fdiv (Zm Zk (pv 0) ZZ (fun _ _=>rfl)) (pv 1)) (pg_sub (pv 0) ZZ Uf))
 (ZX (ZE (pv 2)))))
  Zg)
 (Z7 (Vg (ZG Uv (ZG Zn (ZG Uw (Zm Zk (pv 0) ZZ (fun _ _=>rfl)) ZZ) ZZ) ZZ) (pg_sub (pv 0) ZZ Uf))
 (Z7 (ZH (i:=3) nd rfl (Or.inl rfl) (ZG Uv (ZG Zn (ZG Zn (ZG Uw (Zm Zk (pv 0) ZZ (fun _ _=>rfl)) (Zm Zk (pv 0) ZZ (fun _ _=>rfl))) (ZG Uw ZZ (Zm Zk (pv 0) ZZ (fun _ _=>rfl)))) ZZ) ZZ))
 (Z7 (ZH (i:=3) nd rfl (Or.inl rfl) (ZG Uv (ZG Zn (ZG Uw (pv 3) (pv 3)) (ZG Uw ZZ (pv 3))) ZZ))
 (ZX (ZE (ZG Uv (ZG op_fdiv (pv 3) ZZ) (pv 1)))))))),?_⟩
 refine⟨_,rfl,a,_,_,_,rfl,rfl,Zp.of hS,rfl,b,rfl,?_⟩
 cases b with
 |true=>
  refine iteT ?_
  refine⟨_,rfl,a,_,_,_,rfl,rfl,Zp.of hS,rfl,_,rfl,_,_,rfl,rfl,m0,?_⟩
  refine⟨_,rfl,a,_,_,_,rfl,rfl,Zp.of hS,rfl,_,rfl,_,_,rfl,rfl,⟨m0,m1⟩,?_⟩
  refine⟨_,rfl,a,_,_,0,rfl,rfl,hS,rfl,?_⟩
  refine⟨_,rfl,?_⟩
  exact q _ _ (Tp _ (by omega)) (V9 _ m0) ⟨Int.ediv_nonneg d0 (by omega),fun e=>by cases e⟩
 |false=>
  refine iteF ?_
  have d2:=d1 rfl
  refine⟨_,rfl,a,_,_,_,rfl,rfl,Zp.of hS,rfl,_,_,rfl,rfl,.inl ⟨by omega,by omega⟩,_,_,rfl,rfl,_,_,rfl,rfl,(by show(0:Int)<2147483647;decide),?_⟩
  refine⟨_,rfl,a,_,_,0,rfl,rfl,hS,rfl,?_⟩
  have e0:(0:Int)<=(x*48271+29) % 2147483647:=Tp _ (by decide)
  have e1:(x*48271+29) % 2147483647<2147483647:=V9 _ (by decide)
  refine⟨_,rfl,a,_,_,_,rfl,rfl,Zp.of Z5,rfl,_,rfl,a,_,_,_,rfl,rfl,Zp.of Z5,rfl,_,_,rfl,rfl,.inl ⟨by omega,by omega⟩,_,rfl,a,_,_,_,rfl,rfl,Zp.of Z5,rfl,_,_,rfl,rfl,.inl ⟨by decide,by decide⟩,_,_,rfl,rfl,_,_,rfl,rfl,_,_,rfl,rfl,(by show(0:Int)<2147483629;decide),?_⟩
  refine⟨_,rfl,_,rfl,_,_,rfl,rfl,.inl ⟨?_,?_⟩,_,rfl,_,_,rfl,rfl,.inl ⟨by decide,by decide⟩,_,_,rfl,rfl,_,_,rfl,rfl,(by show(0:Int)<2147483587;decide),?_⟩
  ·exact Int.lt_of_lt_of_le (by decide) (Tp _ (by decide))
  ·exact Int.lt_trans (V9 _ (by decide)) (by decide)
  refine⟨_,rfl,_,_,rfl,rfl,⟨by decide,by decide⟩,_,rfl,_,_,rfl,rfl,m0,?_⟩
  exact q _ _ (Tp _ (by omega)) (V9 _ m0) ⟨e0,fun _=>e1⟩
end
end K97
namespace K97
open L2
def numB (lo hi:Int):V->Bool
 | .int i=>decide (lo<=i)&&decide (i<=hi)
 |_=>false
theorem kn_cases {H:Hp}{v:V}{T:String}(h:Kn H v T):(T="bool"/\∃b,v=.bl b)\/(T="int"/\∃i,v=.int i)\/(subT T "bool" = false/\subT T "int" = false/\∀lo hi,numB lo hi v=false):=by
 cases h with
 |bl b=>exact .inl ⟨rfl,b,rfl⟩
 |int i=>exact .inr (.inl ⟨rfl,i,rfl⟩)
 |_=>exact .inr (.inr ⟨by decide,by decide,fun _ _=>rfl⟩)
def spNum:Sp:=fun vs H Q _=>∃(v:V) (T:String) (lo hi:Int),vs=[v,.int lo,.int hi]/\Kn H v T/\Q (.bl (numB lo hi v)) H
def lts (ns:List Int):Nat->V:=fun i=>.bl (decide (ns.getD i 0<ns.getD (i+1) 0))
def UJ (ns:List Int):Bool:=(List.range (ns.length - 1)).all fun i=>decide (ns.getD i 0<ns.getD (i+1) 0)
def spRise:Sp:=fun vs H Q _=>∃(a:Addr) (ns:List Int),vs=[.ref a]/\H a=some (.tup (ns.map V.int))/\ns.length<=1000/\∀H',ZR H H'->Q (.bl (UJ ns)) H'
theorem WN (xs:List V)(k:Nat):cutV xs (some (k:Int)) none=xs.drop k:=by
 unfold cutV
 rw[HT.sIx_nat,HT.sIx_none]
 by_cases h:k<=xs.length
 ·rw[W9 h,X5 (by rw[Yz];exact Nat.le_refl _)]
 ·rw[min_eq_right (by omega),VZ (Nat.le_refl _),VZ (by omega),take_nil]
theorem cut_to (xs:List V)(k:Nat):cutV xs none (some (k:Int))=xs.take k:=by
 unfold cutV
 rw[HT.sIx_nat,HT.sIx_none,drop_zero,Nat.sub_zero]
 by_cases h:k<=xs.length
 ·rw[W9 h]
 ·rw[min_eq_right (by omega),W7,X5 (by omega)]
theorem rise_list (ns:List Int):(List.range (ns.length - 1)).map (lts ns)=((List.range (ns.length - 1)).map fun i=>decide (ns.getD i 0<ns.getD (i+1) 0)).map V.bl:=by
 rw[Y5]
 rfl
theorem rise_all (ns:List Int):((List.range (ns.length - 1)).map fun i=>decide (ns.getD i 0<ns.getD (i+1) 0)).all id=UJ ns:=by
 unfold UJ
 rw[all_map]
 rfl
theorem getD_of {ns:List Int}{i:Nat}{v:Int}(h:(ns.map V.int)[i]?=some (.int v)):ns.getD i 0=v:=by
 rw[ZQ]at h
 cases e:ns[i]? with
 |none=>rw[e]at h;cases h
 |some z=>
  rw[e]at h
  have:z=v:=by simpa using h
  rw[Z4,e,this]
  rfl
theorem VE {ns:List Int}{i:Nat}{x:V}(h:(ns.map V.int)[i]?=some x):∃v,x=.int v/\ns.getD i 0=v:=by
 have h':=h
 rw[ZQ]at h
 cases e:ns[i]? with
 |none=>rw[e]at h;cases h
 |some z=>
  rw[e]at h
  have:x=.int z:=by simpa using h.symm
  subst this
  exact⟨z,rfl,getD_of h'⟩
section
variable {P:Program}{w:World}{K:W.Frag}{mg:Str->Option Value}{base:Heap}
theorem ok_is_number {f:Addr}{fd:FuncData}(F:XH K "is_number" "is_number" Vl f fd)(nb:Nb mg)   :
 Y6 P w K mg base XB 1 f fd ["thing","least","greatest"] spNum:=by
 have nd:=Ud.nd
 refine F.ok (k:=0) Ud (fun vs H Q E h=>?_) (fun cdv A outer s H vs Q E hr h=>?_)
 ·obtain⟨v,T,lo,hi,rfl,_⟩:=h
  rfl
 obtain⟨v,T,lo,hi,rfl,hk,q⟩:=h
 refine⟨_,(Z7 (YX (PW.pt (WR (Zo (ZJ XD rfl nb.isi boot_isinstance (Z0 (pv 0) (Z0 (Wd nb.bool boot_bool) Z3))) (fun _=>rfl)) (Xu (Yx (Zo (ZJ XD rfl nb.isi boot_isinstance (Z0 (pv 0) (Z0 (Wd nb.int boot_int) Z3))) (fun _=>rfl))))))
  (ZX (ZE Yk))
  Zg)
 (ZX (ZE (pe_chain op_le op_le (pv 1) (pv 0) (pv 2))))),?_⟩
 refine⟨_,rfl,_,_,_,rfl,hk,.inr (.inl rfl),_,rfl,?_⟩
 rcases kn_cases hk with⟨rfl,b,rfl⟩ | ⟨rfl,i,rfl⟩ | ⟨e1,e2,e3⟩
 ·exact iteT (iteT q)
 ·refine iteF ⟨_,rfl,_,_,_,rfl,hk,.inl rfl,_,rfl,iteF ?_⟩
  refine⟨_,rfl,_,rfl,_,_,rfl,rfl,_,rfl,?_⟩
  by_cases c:lo<=i
  ·rw[if_pos (decide_eq_true c)]
   refine⟨_,rfl,_,_,rfl,rfl,?_⟩
   have e:numB lo hi (.int i)=decide (i<=hi):=by show(decide (lo<=i)&&decide (i<=hi))=_;rw[decide_eq_true c,Bool.true_and]
   rw[e]at q
   exact q
  ·rw[if_neg (by rw[decide_eq_false c];decide)]
   have e:numB lo hi (.int i)=false:=by show(decide (lo<=i)&&decide (i<=hi))=_;rw[decide_eq_false c,Bool.false_and]
   rw[e]at q
   exact q
 ·rw[e1]
  refine iteF ⟨_,rfl,_,_,_,rfl,hk,.inl rfl,_,rfl,?_⟩
  rw[e2]
  rw[e3]at q
  exact iteT q
theorem ok_is_rising {f:Addr}{fd:FuncData}(F:XH K "is_rising" "is_rising" Wh f fd)(nb:Nb mg)   :
 Y6 P w K mg base XB 1 f fd ["numbers"] spRise:=by
 have nd:=Ue.nd
 refine F.ok (k:=0) Ue (fun vs H Q E h=>?_) (fun cdv A outer s H vs Q E hr h=>?_)
 ·obtain⟨a,ns,rfl,_⟩:=h
  rfl
 obtain⟨a,ns,rfl,ha,hz,q⟩:=h
 refine⟨_,(ZX (ZE (ZJ (UP rfl) rfl nb.all boot_all (Z0 (Vf (sc:=ZY Wh) (N0:=["numbers"]) (N:=[]) (js:=[]) rfl rfl rfl (by constructor<;>first|decide +kernel|rfl) rfl rfl
  (pi_zip true rfl nb.zip (Z0 (pv 0) (Z0 (Ym sl_tupA (pv 0) (X8 ZZ) XO) Z3)))
  (fun _ _ _ _ _=>by exact YI)
  (fun _ _ _ _ _=>by exact(WD Vz (pv 0) (pv 1) (Zf _)))) Z3)))),?_⟩
 refine⟨_,rfl,_,rfl,_,rfl,a,_,rfl,ha,fun p H1 s1 hp=>?_⟩
 have hp':H1 p=some (.tup ((ns.drop 1).map V.int)):=by rw[hp,show((1:Int))=((1:Nat):Int) from rfl,WN,map_drop]
 have ha':=s1 _ _ ha
 refine⟨a,p,_,_,rfl,Y0.of ha',Y0.of hp',fun D hD=>?_⟩
 have hl:min (ns.map V.int).length ((ns.drop 1).map V.int).length=ns.length - 1:=by rw[Z2,Z2,Yz];omega
 have im:=items_zip (K:=K) ha' hp'
 rw[hl]at im
 refine X4 (ns.length - 1) (by rw[sizeLine_eq];omega) (lts ns) (fun σ=>∃o1 o2,σ=[o1,o2]) _ hD ⟨_,_,rfl⟩ im (fun i x σ' H2 hi s2 im' hσ R hR=>?_) (fun H' s' hD'=>?_)
 ·obtain⟨o1,o2,rfl⟩:=hσ
  obtain⟨r,y,z,rfl,hr',hy,hz'⟩:=im'
  obtain⟨v,rfl,ev⟩:=VE hy
  rw[ZQ,XA,<-ZQ,Nat.add_comm]at hz'
  obtain⟨u,rfl,eu⟩:=VE hz'
  refine⟨r,_,rfl,Y0.of hr',rfl,_,_,rfl,_,_,rfl,rfl,?_⟩
  refine⟨_,rfl,_,rfl,_,_,rfl,rfl,hR _ _ _ ⟨_,_,rfl⟩ (ZR.refl _) ?_⟩
  show V.bl (decide (v<u))=lts ns i
  unfold lts
  rw[ev,eu]
 ·rw[rise_list]at hD'
  refine⟨D,_,rfl,Zp.of hD',?_⟩
  rw[rise_all]
  exact q H' (s1.trans s')
end
end K97
namespace K97
open L2
def toI:V->Int
 | .int i=>i
 |_=>0
def rowB (xs:List V):Bool:=decide (xs.length<=12)&&(xs.all (numB (-1000000000) 1000000000)&&UJ (xs.map toI))
def rowO:Option HO->Bool
 |some (.tup xs)=>rowB xs
 |_=>false
def rowV (H:Hp):V->Bool
 | .ref a=>rowO (H a)
 |_=>false
theorem VT {H:Hp}{a:Addr}{xs:List V}(h:H a=some (.tup xs)):rowV H (.ref a)=rowB xs:=by
 show rowO (H a)=_
 rw[h]
 rfl
def due:Int->List V->Bool
 |_,[]=>true
 |l,x::r=>numB (-1000000000) 1000000000 x&&(decide (l<toI x)&&due (toI x) r)
theorem rise_one (a:Int):UJ [a]=true:=rfl
theorem rise_two (a b:Int)(r:List Int):UJ (a::b::r)=(decide (a<b)&&UJ (b::r)):=by
 unfold UJ
 have e:(a::b::r).length - 1=(b::r).length - 1+1:=by simp
 rw[e,Yu,all_cons,all_map]
 rfl
theorem num_int {lo hi:Int}{x:V}(h:numB lo hi x=true):x=.int (toI x)/\lo<=toI x/\toI x<=hi:=by
 cases x with
 |int i=>
  have h':(decide (lo<=i)&&decide (i<=hi))=true:=h
  rw[Vu,decide_eq_true_eq,decide_eq_true_eq]at h'
  exact⟨rfl,h'⟩
 |_=>cases h
structure Thing (H:Hp)(v:V):Prop where
 kn:∃T,Kn H v T
 it:∀a xs,v=.ref a->H a=some (.tup xs)->xs.length<=1000/\∀x∈xs,∃T,Kn H x T
theorem kn_same {H H':Hp}{v:V}{T:String}(s:ZR H H')(h:Kn H v T):Kn H' v T:=by
 cases h with
 |non=>exact .non
 |bl b=>exact .bl b
 |int i=>exact .int i
 |str x=>exact .str x
 |lst e=>exact .lst (s _ _ e)
 |tup e=>exact .tup (s _ _ e)
 |dK e=>exact .dK (s _ _ e)
theorem kn_tuple {H:Hp}{v:V}{T:String}(h:Kn H v T):(T="tuple"/\∃a xs,v=.ref a/\H a=some (.tup xs))\/(subT T "tuple" = false/\rowV H v=false):=by
 cases h with
 |tup e=>exact .inl ⟨rfl,_,_,rfl,e⟩
 |lst e=>exact .inr ⟨by decide,by show rowO (H _)=false;rw[e];rfl⟩
 |dK e=>exact .inr ⟨by decide,by show rowO (H _)=false;rw[e];rfl⟩
 |_=>exact .inr ⟨by decide,rfl⟩
def U4:Sp:=fun vs H Q _=>∃v:V,vs=[v]/\Thing H v/\∀H',ZR H H'->Q (.bl (rowV H v)) H'
theorem map_getD (xs:List V)(f:V->V):(List.range xs.length).map (fun i=>f (xs.getD i .non))=xs.map f:=by
 apply ext_getElem?
 intro i
 rw[ZQ,ZQ]
 by_cases h:i<xs.length
 ·rw[Xq h,Z1 h]
  show some (f (xs.getD i .non))=some (f xs[i])
  rw[Z4,Z1 h]
  rfl
 ·rw[Zd (by simpa using h),Zd (by omega)]
  rfl
theorem SO {xs:List V}{i:Nat}{x:V}(h:xs[i]?=some x):xs.getD i .non=x:=by
 rw[Z4,h]
 rfl
section
variable {P:Program}{w:World}{K:W.Frag}{mg:Str->Option Value}{base:Heap}
theorem ok_is_row {f:Addr}{fd:FuncData}(F:XH K "is_row" "is_row" T7 f fd)(nb:Nb mg)(h_is_number:YR P w K mg base 1 "is_number" ["thing","least","greatest"] spNum)(h_is_rising:YR P w K mg base 1 "is_rising" ["numbers"] spRise)(c_MOST_BALLS:∃u,mg "MOST_BALLS" = some u/\Zb (.int 12) u)(c_FARTHEST:∃u,mg "FARTHEST" = some u/\Zb (.int 1000000000) u) :
 Y6 P w K mg base XB 2 f fd ["thing"] U4:=by
 have nd:=sc_is_row.nd
 refine F.ok (k:=1) sc_is_row (fun vs H Q E h=>?_) (fun cdv A outer s H vs Q E hr h=>?_)
 ·obtain⟨v,rfl,_⟩:=h
  rfl
 obtain⟨v,rfl,⟨⟨T,hk⟩,hit⟩,q⟩:=h
 refine⟨_,(Z7 (YX (PW.pt (WR (Yx (Zo (ZJ XD rfl nb.isi boot_isinstance (Z0 (pv 0) (Z0 (Wd nb.tuple boot_tuple) Z3))) (fun _=>rfl))) (Xu (Zr op_gt (ZJ Zx rfl nb.len PySem.boot_len (Z0 (pv 0) Z3)) (Yl c_MOST_BALLS) (Zf _)))))
  (ZX (ZE Yk))
  Zg)
 (Z7 (YX (Yx (Zo (ZJ (UP rfl) rfl nb.all boot_all (Z0 (YU (sc:=ZY T7) (N0:=["thing"]) (N:=[]) (js:=[]) rfl rfl rfl (by constructor<;>first|decide +kernel|rfl) rfl
  (X6 (pv 0))
  (fun _ _ _ _ _=>by exact YI)
  (fun _ _ _ _ _=>by exact(ZI h_is_number hr (Z0 (pv 0) (Z0 (XG Yn (Yl c_FARTHEST)) (Z0 (Yl c_FARTHEST) Z3)))))) Z3)) (fun _=>rfl)))
  (ZX (ZE Yk))
  Zg)
 (ZX (ZE (ZI h_is_rising hr (Z0 (pv 0) Z3)))))),?_⟩
 refine⟨_,rfl,_,_,_,rfl,hk,.inr (.inr (.inl rfl)),_,rfl,?_⟩
 rcases kn_tuple hk with⟨rfl,a,xs,rfl,ha⟩ | ⟨e1,e2⟩
 ·obtain⟨hz,hx⟩:=hit a xs rfl ha
  have er:=VT ha
  rw[er]at q
  refine iteF ⟨_,rfl,a,xs,rfl,.inr (Y0.of ha),_,_,rfl,rfl,_,rfl,?_⟩
  refine ite2 (fun c=>?_) (fun c=>?_)
  ·have c':(12:Int)<((xs.length:Nat):Int):=of_decide_eq_true c
   have e:rowB xs=false:=by unfold rowB;rw[decide_eq_false (by omega),Bool.false_and]
   rw[e]at q
   exact q H (ZR.refl H)
  ·have c':¬(12:Int)<((xs.length:Nat):Int):=of_decide_eq_false (YJ.mpr c)
   refine⟨_,rfl,a,rfl,⟨_,Y0.of ha⟩,fun D hD=>?_⟩
   refine X4 xs.length (by rw[sizeLine_eq];omega) (fun i=>.bl (numB (-1000000000) 1000000000 (xs.getD i .non))) (fun σ=>∃o1,σ=[o1]) _ hD (by exact⟨_,rfl⟩) (YB ha) (fun i x σ' H2 hi s2 im hσ R hR=>?_) (fun H' s' hD'=>?_)
   ·obtain⟨o1,rfl⟩:=hσ
    obtain⟨T',kx⟩:=hx x (Zh im)
    refine⟨_,rfl,_,rfl,x,T',-1000000000,1000000000,rfl,kn_same s2 kx,hR _ _ _ ⟨_,rfl⟩ (ZR.refl _) ?_⟩
    rw[SO im]
   ·rw[map_getD xs (fun x=>V.bl (numB (-1000000000) 1000000000 x)),show xs.map (fun x=>V.bl (numB (-1000000000) 1000000000 x))=(xs.map (numB (-1000000000) 1000000000)).map V.bl by rw[Y5];rfl]at hD'
    refine⟨D,_,rfl,Zp.of hD',_,rfl,?_⟩
    have ea:(xs.map (numB (-1000000000) 1000000000)).all id=xs.all (numB (-1000000000) 1000000000):=by rw[all_map];rfl
    rw[ea]
    by_cases d:xs.all (numB (-1000000000) 1000000000)=true
    ·rw[d]
     have ex:xs=(xs.map toI).map V.int:=by
      rw[Y5]
      refine(List.map_id xs).symm.trans (Y4 fun x hx'=>?_)
      exact(num_int (X1.mp d x hx')).1
     have e:rowB xs=UJ (xs.map toI):=by unfold rowB;rw[decide_eq_true (by omega),d];rfl
     rw[e]at q
     refine iteF ⟨_,rfl,a,xs.map toI,rfl,by rw[<-ex];exact s' _ _ ha,by rw[Z2];exact hz,fun H3 s3=>q H3 (s'.trans s3)⟩
    ·have d':=YJ.mpr d
     rw[d']
     have e:rowB xs=false:=by unfold rowB;rw[d'];cases decide (xs.length<=12)<;>rfl
     rw[e]at q
     exact iteT (q H' s')
 ·rw[e1]
  rw[e2]at q
  exact iteT (iteT (q H (ZR.refl H)))
end
end K97
namespace K97
open L2
theorem SG {xs:List V}{k:Int}(h0:0<=k)(h1:k<(xs.length:Int)):∃u,atI xs k=some u/\u∈xs/\xs[k.toNat]?=some u:=by
 have hk:k.toNat<xs.length:=by omega
 have ek:((k.toNat:Nat):Int)=k:=by omega
 have q:atI xs ((k.toNat:Nat):Int)=some xs[k.toNat]:=Zj (Z1 hk)
 rw[ek]at q
 exact⟨xs[k.toNat],q,XI hk,Z1 hk⟩
theorem WB.refl (a:Addr)(H:Hp):WB a H H:=fun _ _ _ h=>h
theorem WB.trans {a:Addr}{H H1 H2:Hp}(k:WB a H H1)(k':WB a H1 H2):WB a H H2:=fun c o n h=>k' c o n (k c o n h)
theorem WB.same {a:Addr}{H H1 H2:Hp}(k:WB a H H1)(s:ZR H1 H2):WB a H H2:=fun c o n h=>s c o (k c o n h)
theorem YE (a:Addr)(H:Hp)(o:HO):WB a H (upd H a o):=fun c u n h=>by rw[ZS n];exact h
theorem Wl.same {H H':Hp}{a:Addr}{x:Int}{b:Bool}(h:Wl H a x b)(s:ZR H H'):Wl H' a x b:=⟨s _ _ h.1,h.2⟩
theorem Wl.upd {H:Hp}{a:Addr}{x':Int}{b:Bool}(d:Dok x' b):Wl (L2.upd H a (.lst [.int x',.bl b])) a x' b:=⟨Z5,d⟩
structure RowOk (row:List Int):Prop where
 len:row.length<=12
 up:row.Pairwise (· < ·)
 bd:∀p∈row,-20<=p/\p<=200
end K97
namespace K97
open L2
structure Far (row:List Int):Prop where
 len:row.length<=12
 up:row.Pairwise (· < ·)
 bd:∀p∈row,-1000000000<=p/\p<=1000000000
theorem RowOk.far {row:List Int}(h:RowOk row):Far row:=⟨h.len,h.up,fun p hp=>by have:=h.bd p hp;omega⟩
theorem map_ints (ns:List Int)(h:Int->Int):(List.range ns.length).map (fun i=>V.int (h (ns.getD i 0)))=(ns.map h).map V.int:=by
 apply ext_getElem?
 intro i
 rw[ZQ,ZQ,ZQ]
 by_cases c:i<ns.length
 ·rw[Xq c,Z1 c]
  show some (V.int (h (ns.getD i 0)))=some (V.int (h ns[i]))
  rw[Z4,Z1 c]
  rfl
 ·rw[Zd (by simpa using c),Zd (by omega)]
  rfl
end K97
namespace K97
open L2
def spNeed:Sp:=fun vs H Q _=>∃v lo hi:Int,vs=[.int v,.int lo,.int hi]/\lo<=v/\v<=hi/\Q .non H
def spMir:Sp:=fun vs H Q _=>∃(a:Addr) (ns:List Int),vs=[.ref a]/\H a=some (.tup (ns.map V.int))/\ns.length<=1000/\∀(r:Addr) (H':Hp),ZR H H'->H' r=some (.tup ((BB.mir ns).map V.int))->Q (.ref r) H'
abbrev Ok (ns:List Int)(k:Nat):Prop:=BB.Rw ns k (-4000000000) 4000000000/\k<=12
def spCarry:Sp:=fun vs H Q _=>∃(a:Addr) (ns:List Int) (k z:Nat),vs=[.ref a,.int (z:Int)]/\H a=some (.tup (ns.map V.int))/\Ok ns k/\
 ∀(r p:Addr) (t:Int) (H':Hp),ZR H H'->H' r=some (.tup ((BB.step z ns).map V.int))->H' p=some (.tup [.ref r,.int t])->Q (.ref p) H'
def spBack:Sp:=fun vs H Q _=>∃(a:Addr) (ns:List Int) (k z:Nat),vs=[.ref a,.int (z:Int)]/\H a=some (.tup (ns.map V.int))/\Ok ns k/\
 ∀(r:Addr) (H':Hp),ZR H H'->H' r=some (.tup ((BB.unstep z ns).map V.int))->Q (.ref r) H'
def UM:Sp:=fun vs H Q _=>∃(a:Addr) (ns:List Int) (k:Nat),vs=[.ref a]/\H a=some (.tup (ns.map V.int))/\Ok ns k/\
 ∀(r:Addr) (H':Hp),ZR H H'->H' r=some (.tup ((BB.step k ns).map V.int))->Q (.ref r) H'
def spUnd:Sp:=fun vs H Q _=>∃(a:Addr) (ns:List Int) (k:Nat),vs=[.ref a]/\H a=some (.tup (ns.map V.int))/\Ok ns k/\
 ∀(r:Addr) (H':Hp),ZR H H'->H' r=some (.tup ((BB.unstep k ns).map V.int))->Q (.ref r) H'
theorem num_true {lo hi v:Int}(h1:lo<=v)(h2:v<=hi):numB lo hi (.int v)=true:=by
 show(decide (lo<=v)&&decide (v<=hi))=true
 rw[decide_eq_true h1,decide_eq_true h2]
 rfl
theorem head_rd {K:W.Frag}{a:Addr}{ns:List Int}{H:Hp}{σ:L2.St}{Q:VK}(h0:σ[0]?=some (some (.ref a)))(ha:H a=some (.tup (ns.map V.int)))(q:Q (.int (ns.headD 0)) H) :
 tIf (fun σ H Q=>tVar 0 σ H fun x H'=>∃k,TruV K x H' k/\Q k H') (tOp (rIxT K) (tVar 0) (tC (.int 0))) (tC (.int 0)) σ H Q:=by
 refine⟨_,h0,!(ns.map V.int).isEmpty,.inr (.inl ⟨_,Y0.of ha,rfl⟩),?_⟩
 cases ns with
 |nil=>exact iteF q
 |cons p r=>exact iteT ⟨_,h0,a,_,_,_,rfl,rfl,Y0.of ha,(show atI ((p::r).map V.int) ((0:Nat):Int)=some (.int p) from Zj rfl),q⟩
section
variable {P:Program}{w:World}{K:W.Frag}{mg:Str->Option Value}{base:Heap}
theorem ok_mirrored {f:Addr}{fd:FuncData}(F:XH K "mirrored" "mirrored" VN f fd)(nb:Nb2 mg)   :
 Y6 P w K mg base XB 1 f fd ["row"] spMir:=by
 have nd:=Sz.nd
 refine F.ok (k:=0) Sz (fun vs H Q E h=>?_) (fun cdv A outer s H vs Q E hr h=>?_)
 ·obtain⟨a,ns,rfl,_⟩:=h
  rfl
 obtain⟨a,ns,rfl,ha,hl,q⟩:=h
 refine⟨_,(ZX (ZE (Zy Zz rfl nb.tuple boot_tuple (Z0 (YU (sc:=ZY VN) (N0:=["row"]) (N:=[]) (js:=[]) rfl rfl rfl (by constructor<;>first|decide +kernel|rfl) rfl
(pi_rev rfl nb.rev (Z0 (pv 0) Z3))
(fun _ _ _ _ _=>by exact YI)
(fun _ _ _ _ _=>by exact(XG Yn (pv 0)))) Z3)))),?_⟩
 refine⟨_,rfl,a,_,rfl,Y0.of ha,fun D hD=>?_⟩
 refine X4 (ns.map V.int).length (by rw[Z2,sizeLine_eq];omega) (fun i=>.int (-(ns.reverse.getD i 0))) (fun σ=>∃o1,σ=[o1]) _ hD (by exact⟨_,rfl⟩) (items_rev ha) (fun i x σ' H2 hi s2 im hσ R hR=>?_) (fun H' s' hD'=>?_)
 ·obtain⟨o1,rfl⟩:=hσ
  rw[<-List.map_reverse]at im
  obtain⟨v,rfl,ev⟩:=VE im
  exact⟨_,rfl,_,rfl,hR _ _ _ ⟨_,rfl⟩ (ZR.refl _) (by rw[ev])⟩
 ·rw[Z2,<-WZ,map_ints ns.reverse (fun z=>-z)]at hD'
  exact⟨D,_,rfl,.inl ⟨Zp.of hD',fun l hl=>q l _ (s'.trans (Z9 hl _)) Z5⟩⟩
theorem ok_carry {f:Addr}{fd:FuncData}(F:XH K "carry" "carry" s_carry f fd)(nb:Nb2 mg)   :
 Y6 P w K mg base XB 1 f fd ["row","size"] spCarry:=by
 have nd:=sc_carry.nd
 refine F.ok (k:=0) sc_carry (fun vs H Q E h=>?_) (fun cdv A outer s H vs Q E hr h=>?_)
 ·obtain⟨a,ns,k,z,rfl,_⟩:=h
  rfl
 obtain⟨a,ns,k,z,rfl,ha,ok,q⟩:=h
 refine⟨_,(Z7 (ZH (i:=2) nd rfl (Or.inl rfl) (Y2 Z3))
(Z7 (ZH (i:=3) nd rfl (Or.inl rfl) ZZ)
(Z7 (ZH (i:=4) nd rfl (Or.inl rfl) ZZ)
(Z7 (ZH (i:=5) nd rfl (Or.inl rfl) (TQ (Zo (pv 0) (fun _=>rfl)) (Zm YT (pv 0) ZZ (fun _ _=>rfl)) ZZ))
(Z7 (XV PassesOwn.never rfl (X6 (pv 0)) (Zl (i:=6) nd rfl (Or.inl rfl))
(Z7 (ZH (i:=7) nd rfl (Or.inl rfl) (ZJ (SI rfl) rfl nb.min boot_min (Z0 (pv 3) (Z0 (ZG Yb (pv 6) (pv 5)) Z3))))
(Z7 (YQ (XF Zu WL WM VQ (pv 2) (Z0 (Zy (Xm rfl) rfl nb.list boot_list (Z0 (Zy Ww rfl nb.range boot_range (Z0 (pv 5) (Z0 (ZG Zn (pv 5) (pv 7)) Z3))) Z3)) Z3)))
(Z7 (Ta (i:=3) nd rfl (Or.inl rfl) (pv 7) ip_sub)
(Z7 (YX (Zr Vz (pv 3) (pv 1) (Zf _))
(Z7 (Ta (i:=3) nd rfl (Or.inl rfl) ZZ ip_add)
(ZX (Ta (i:=4) nd rfl (Or.inl rfl) ZZ ip_add)))
(ZX (YQ (XF Zu PySem.F.slot_list_append PySem.F.type_list_append Y8 (pv 2) (Z0 (pv 6) Z3)))))
(ZX (ZH (i:=5) nd rfl (Or.inl rfl) (ZG Zn (pv 6) ZZ))))))))
(Z7 (YQ (XF Zu WL WM VQ (pv 2) (Z0 (Zy (Xm rfl) rfl nb.list boot_list (Z0 (Zy Ww rfl nb.range boot_range (Z0 (pv 5) (Z0 (ZG Zn (pv 5) (pv 3)) Z3))) Z3)) Z3)))
(ZX (ZE (Yc (Z0 (Zy Zz rfl nb.tuple boot_tuple (Z0 (pv 2) Z3)) (Z0 (pv 4) Z3))))))))))),?_⟩
 obtain⟨rw_,k12⟩:=ok
 refine⟨(by show 0<=sizeLine;decide),fun f hf=>?_⟩
 have s1:=Z9 hf (.lst [])
 refine head_rd (K:=K) rfl (s1 _ _ ha) ?_
 have hb0:-4000000000<=ns.headD 0/\ns.headD 0<=4000000000/\∀p∈ns,ns.headD 0<=p:=by
  cases ns with
  |nil=>exact⟨by decide,by decide,fun p hp=>by cases hp⟩
  |cons p r=>
   have:=rw_.bd p (ZW ..)
   refine⟨this.1,this.2,fun x hx=>?_⟩
   rcases ZV.mp hx with rfl | hx
   ·exact Int.le_refl _
   ·exact Int.le_of_lt ((Zt.mp rw_.up).1 x hx)
 refine⟨_,rfl,a,rfl,⟨_,Y0.of (s1 _ _ ha)⟩,?_⟩
 refine Tx (xs:=ns.map V.int) (fun i σ H'=>∃(bh:List Int) (L:Nat) (l t box:Int) (o6 o7:Option V),σ=[some (.ref a),some (.int (z:Int)),some (.ref f),some (.int l),some (.int t),some (.int box),o6,o7]/\l=(L:Int)/\ZR H H'/\H' f=some (.lst (bh.map V.int))/\
  bh++BB.sp z L box (ns.drop i)=BB.step z ns/\bh.length+L=i/\(∀p∈ns.drop i,box<=p)/\-4000000000<=box/\box<=4000000001) ?_ (fun i σ H' _ hp=>?_) (fun i x σ H' hxi hp=>?_) (fun σ H' hp=>?_)
 ·exact⟨[],0,_,_,_,_,_,rfl,rfl,s1,Z5,rfl,rfl,hb0.2.2,hb0.1,by omega⟩
 ·obtain⟨bh,L,l,t,box,o6,o7,rfl,el,sm,hfh,_⟩:=hp
  exact Y0.of (sm _ _ ha)
 ·obtain⟨bh,L,l,t,box,o6,o7,rfl,el,sm,hfh,eq,cnt,ge,b1,b2⟩:=hp
  have hil:i<ns.length:=by
   have:=(List.getElem?_eq_some_iff.mp hxi).1
   simpa using this
  have k1:=rw_.len
  obtain⟨p,rfl,ep⟩:=VE hxi
  have edr:ns.drop i=p::ns.drop (i+1):=by
   rw[List.drop_eq_getElem_cons hil]
   have:ns[i]=p:=by rw[<-ep,Z4,Z1 hil];rfl
   rw[this]
  have hbp:box<=p:=ge p (by rw[edr];exact ZW ..)
  have pb:=rw_.bd p (List.mem_of_mem_drop (by rw[edr];exact ZW .. : p∈ns.drop i))
  rw[edr]at eq
  unfold BB.sp at eq
  have em:(if p - box<l then p - box else l)=((min L (p - box).toNat:Nat):Int):=by
   rw[el]
   split<;>omega
  generalize hm:min L (p - box).toNat=m at eq em
  refine⟨_,rfl,_,rfl,_,rfl,_,_,rfl,rfl,_,_,rfl,?_⟩
  refine⟨_,rfl,.inl ⟨rfl,_,Zp.of hfh⟩,_,rfl,_,rfl,_,rfl,_,_,rfl,rfl,_,_,rfl,fun p1 hp1=>?_⟩
  refine⟨p1,_,_,rfl,Z5,⟨by omega,by omega,by omega,by omega⟩,by rw[sizeLine_eq];omega,fun l1 hl1=>?_⟩
  rw[em]at hl1 ⊢
  have en:(box+(m:Int) - box).toNat=m:=by omega
  rw[en]
  have s3:=(Z9 hp1 (.rng box (box+(m:Int)))).trans (Z9 hl1 (.lst ((ups box m).map V.int)))
  have hl1':(upd (upd H' p1 (.rng box (box+(m:Int)))) l1 (.lst ((ups box m).map V.int))) l1=some (.lst ((ups box m).map V.int)):=Z5
  have hf1:=s3 _ _ hfh
  have sm3:=sm.trans s3
  generalize upd (upd H' p1 (.rng box (box+(m:Int)))) l1 (.lst ((ups box m).map V.int))=H3 at s3 hl1' hf1 sm3 ⊢
  have lup:(ups box m).length=m:=Yo ..
  have mle:m<=L:=by omega
  refine⟨f,l1,_,_,rfl,rfl,hf1,hl1',by rw[Z2,Z2,lup,sizeLine_eq];omega,?_⟩
  have hf4:(upd H3 f (.lst (bh.map V.int++(ups box m).map V.int))) f=some (.lst ((bh++ups box m).map V.int)):=by rw[Z5,ZB]
  have sm4:ZR H (upd H3 f (.lst (bh.map V.int++(ups box m).map V.int))):=fun b o hb=>by rw[ZS (ZP hb hf)];exact sm3 b o hb
  generalize upd H3 f (.lst (bh.map V.int++(ups box m).map V.int))=H4 at hf4 sm4 ⊢
  refine⟨_,rfl,_,rfl,_,_,rfl,rfl,?_⟩
  have ll:l - (m:Int)=((L - m:Nat):Int):=by omega
  refine⟨_,rfl,_,rfl,_,_,rfl,rfl,_,rfl,?_⟩
  have nge:∀x∈ns.drop (i+1),p+1<=x:=fun x hx=>by
   have up2:(p::ns.drop (i+1)).Pairwise (· < ·):=by rw[<-edr];exact rw_.up.sublist (List.drop_sublist ..)
   have:=(Zt.mp up2).1 x hx
   omega
  refine ite2 (fun c=>?_) (fun c=>?_)
  ·have c':l - (m:Int)<(z:Int):=of_decide_eq_true c
   rw[if_pos (by omega),<-List.append_assoc]at eq
   refine⟨_,rfl,_,_,rfl,rfl,_,rfl,_,_,rfl,rfl,_,rfl,_,_,rfl,rfl,?_⟩
   exact⟨bh++ups box m,L - m+1,_,_,_,_,_,rfl,(by show l - (m:Int)+1=_;omega),sm4,hf4,eq,by rw[Z6,lup];omega,nge,(by show _<=p+1;omega),(by show p+1<=_;omega)⟩
  ·have c':¬l - (m:Int)<(z:Int):=of_decide_eq_false (YJ.mpr c)
   rw[if_neg (by omega),<-List.append_assoc]at eq
   refine⟨_,rfl,.inl ⟨rfl,_,Zp.of hf4⟩,_,rfl,f,_,_,rfl,rfl,hf4,by rw[Z2,Z6,lup,sizeLine_eq];omega,?_⟩
   have hf5:(upd H4 f (.lst ((bh++ups box m).map V.int++[.int p]))) f=some (.lst ((bh++ups box m++[p]).map V.int)):=by rw[Z5,ZB (l₂:=[p])];rfl
   have sm5:ZR H (upd H4 f (.lst ((bh++ups box m).map V.int++[.int p]))):=fun b o hb=>by rw[ZS (ZP hb hf)];exact sm4 b o hb
   refine⟨_,rfl,_,_,rfl,rfl,?_⟩
   exact⟨bh++ups box m++[p],L - m,_,_,_,_,_,rfl,ll,sm5,hf5,by rw[List.append_assoc];exact eq,by rw[Z6,Z6,lup,ZN];omega,nge,(by show _<=p+1;omega),(by show p+1<=_;omega)⟩
 ·obtain⟨bh,L,l,t,box,o6,o7,rfl,el,sm,hfh,eq,cnt,ge,b1,b2⟩:=hp
  rw[Z2]at cnt eq
  rw[drop_length]at eq
  have k1:=rw_.len
  have eq':bh++ups box L=BB.step z ns:=eq
  refine⟨_,rfl,.inl ⟨rfl,_,Zp.of hfh⟩,_,rfl,_,rfl,_,rfl,_,_,rfl,rfl,_,_,rfl,fun p1 hp1=>?_⟩
  refine⟨p1,_,_,rfl,Z5,⟨by omega,by omega,by omega,by omega⟩,by rw[sizeLine_eq];omega,fun l1 hl1=>?_⟩
  have en:(box+l - box).toNat=L:=by omega
  rw[en]
  have s3:=(Z9 hp1 (.rng box (box+l))).trans (Z9 hl1 (.lst ((ups box L).map V.int)))
  have hl1':(upd (upd H' p1 (.rng box (box+l))) l1 (.lst ((ups box L).map V.int))) l1=some (.lst ((ups box L).map V.int)):=Z5
  have hf1:=s3 _ _ hfh
  have sm3:=sm.trans s3
  generalize upd (upd H' p1 (.rng box (box+l))) l1 (.lst ((ups box L).map V.int))=H3 at s3 hl1' hf1 sm3 ⊢
  have lup:(ups box L).length=L:=Yo ..
  refine⟨f,l1,_,_,rfl,rfl,hf1,hl1',by rw[Z2,Z2,lup,sizeLine_eq];omega,?_⟩
  have hf4:(upd H3 f (.lst (bh.map V.int++(ups box L).map V.int))) f=some (.lst ((BB.step z ns).map V.int)):=by rw[Z5,<-eq',ZB]
  have sm4:ZR H (upd H3 f (.lst (bh.map V.int++(ups box L).map V.int))):=fun b o hb=>by rw[ZS (ZP hb hf)];exact sm3 b o hb
  generalize upd H3 f (.lst (bh.map V.int++(ups box L).map V.int))=H4 at hf4 sm4 ⊢
  refine⟨_,rfl,f,_,rfl,.inl ⟨Zp.of hf4,fun l2 hl2=>?_⟩⟩
  refine⟨_,rfl,(by show 2<=sizeLine;decide),fun p2 hp2=>?_⟩
  have s5:=Z9 hl2 (.tup ((BB.step z ns).map V.int))
  have s6:=Z9 hp2 (.tup [.ref l2,.int t])
  exact q l2 p2 t _ (sm4.trans (s5.trans s6)) (s6 _ _ Z5) Z5
end
end K97
namespace K97
open L2
def cel (lo:Int)(n:Nat)(ns:List Int):List Bool:=(List.range n).map fun(i:Nat)=>decide (lo+(i:Int)∈ns)
theorem Va (lo:Int)(n:Nat)(ns:List Int):cel lo (n+1) ns=cel lo n ns++[decide (lo+(n:Int)∈ns)]:=by
 unfold cel
 rw[XU,ZB]
 rfl
def full (p q:Int)(ns:List Int):List Bool:=cel p (q+1 - p).toNat ns++Yi (BB.lst 0 (cel p (q+1 - p).toNat ns)) false
theorem ok_bound {ns:List Int}{k:Nat}{A B:Int}(h:BB.Rw ns k A B)(k12:k<=12)(n:Nat)(hn:n<=60)(hA:-2000000000<=A)(hB:B<=2000000000)(z:Nat):Ok (BB.it (BB.step z) n ns) k/\Ok (BB.it (BB.unstep z) n ns) k:=by
 have hm:(n:Int)*(k:Int)<=60*12:=by
  have:=mul_le_mul hn k12
  have e:((n*k:Nat):Int)=(n:Int)*(k:Int):=Int.natCast_mul n k
  omega
 have h0:0<=(n:Int)*(k:Int):=Int.mul_nonneg (by omega) (by omega)
 exact⟨⟨(h.its n).mono (by omega) (by omega),k12⟩,⟨(h.itu n).mono (by omega) (by omega),k12⟩⟩
theorem VI:∀(L:Nat) (x y:List Bool),BB.lst L (x++y)=BB.lst (BB.lst L x) y
 |_,[],_=>rfl
 |L,b::r,y=>VI _ r y
theorem in_ints (b:Int)(ns:List Int):inV (.int b) (ns.map V.int)=decide (b∈ns):=by
 unfold inV
 rw[any_map,Bool.eq_iff_iff,Vv,decide_eq_true_eq]
 constructor
 ·rintro⟨x,hx,e⟩
  have e':(x==b)=true:=e
  rw[beq_iff_eq]at e'
  rw[<-e'];exact hx
 ·intro h
  exact⟨b,h,by show(b==b)=true;rw[beq_iff_eq]⟩
theorem at_last {ns:List Int}{q:Int}(h:ns.getLast?=some q):atI (ns.map V.int) (-1)=some (.int q):=by
 have ne:ns≠[]:=fun z=>by rw[z]at h;cases h
 have l0:0<ns.length:=Y9.mpr ne
 have e:ixN (ns.map V.int).length (-1)=some (ns.length - 1):=by
  unfold ixN
  rw[Z2,if_neg (by decide),if_pos (by omega)]
  congr 1
  omega
 unfold atI
 rw[e]
 show(ns.map V.int)[ns.length - 1]?=_
 rw[ZQ]
 rw[List.getLast?_eq_getElem?]at h
 rw[h]
 rfl
theorem SN (ns:List Int):(ns.map V.int).all UG=true:=by
 rw[all_map,X1]
 exact fun _ _=>rfl
section
variable {P:Program}{w:World}{K:W.Frag}{mg:Str->Option Value}{base:Heap}
theorem ok_carry_back {f:Addr}{fd:FuncData}(F:XH K "carry_back" "carry_back" VM f fd)(nb:Nb2 mg)(h_carry:YR P w K mg base 1 "carry" ["row","size"] spCarry)(h_mirrored:YR P w K mg base 1 "mirrored" ["row"] spMir)  :
 Y6 P w K mg base XB 2 f fd ["row","size"] spBack:=by
 have nd:=UL.nd
 refine F.ok (k:=1) UL (fun vs H Q E h=>?_) (fun cdv A outer s H vs Q E hr h=>?_)
 ·obtain⟨a,ns,k,z,rfl,_⟩:=h
  rfl
 obtain⟨a,ns,k,z,rfl,ha,ok,q⟩:=h
 refine⟨_,(Z7 (Vg (ZI h_carry hr (Z0 (ZI h_mirrored hr (Z0 (pv 0) Z3)) (Z0 (pv 1) Z3))) (Xt rfl (Ze (Zl (i:=2) nd rfl (Or.inl rfl)) (Ze (Zl (i:=3) nd rfl (Or.inl rfl)) X9))))
(ZX (ZE (ZI h_mirrored hr (Z0 (pv 2) Z3))))),?_⟩
 obtain⟨rw_,k12⟩:=ok
 have hl:=rw_.len
 refine⟨_,rfl,a,ns,rfl,ha,by omega,fun r1 H1 s1 h1=>?_⟩
 have rm:BB.Rw (BB.mir ns) k (-4000000000) 4000000000:=by have:=rw_.mir;rw[neg_neg]at this;exact this
 refine⟨_,rfl,r1,BB.mir ns,k,z,rfl,h1,⟨rm,k12⟩,fun r2 p2 t H2 s2 h2 h2'=>?_⟩
 refine⟨p2,_,rfl,Y0.of h2',rfl,_,_,rfl,_,_,rfl,rfl,?_⟩
 have hl2:=(rm.step z).len
 refine⟨_,rfl,r2,_,rfl,h2,by omega,fun r3 H3 s3 h3=>?_⟩
 exact q r3 H3 (s1.trans (s2.trans s3)) h3
theorem ok_carried {f:Addr}{fd:FuncData}(F:XH K "carried" "carried" Th f fd)(nb:Nb2 mg)(h_carry:YR P w K mg base 1 "carry" ["row","size"] spCarry)  :
 Y6 P w K mg base XB 2 f fd ["row"] UM:=by
 have nd:=sc_carried.nd
 refine F.ok (k:=1) sc_carried (fun vs H Q E h=>?_) (fun cdv A outer s H vs Q E hr h=>?_)
 ·obtain⟨a,ns,k,rfl,_⟩:=h
  rfl
 obtain⟨a,ns,k,rfl,ha,ok,q⟩:=h
 refine⟨_,(Z7 (Vg (ZI h_carry hr (Z0 (pv 0) (Z0 (ZJ Zx rfl nb.len PySem.boot_len (Z0 (pv 0) Z3)) Z3))) (Xt rfl (Ze (Zl (i:=1) nd rfl (Or.inl rfl)) (Ze (Zl (i:=2) nd rfl (Or.inl rfl)) X9))))
(ZX (ZE (pv 1)))),?_⟩
 have hl:(ns.map V.int).length=k:=by rw[Z2];exact ok.1.len
 refine⟨_,rfl,_,rfl,a,_,rfl,.inr (Y0.of ha),a,ns,k,k,?_,ha,ok,fun r2 p2 t H2 s2 h2 h2'=>?_⟩
 ·rw[hl];rfl
 refine⟨p2,_,rfl,Y0.of h2',rfl,_,_,rfl,_,_,rfl,rfl,?_⟩
 exact⟨_,rfl,q r2 H2 s2 h2⟩
theorem ok_undone {f:Addr}{fd:FuncData}(F:XH K "undone" "undone" s_undone f fd)(nb:Nb2 mg)(h_carry_back:YR P w K mg base 2 "carry_back" ["row","size"] spBack)  :
 Y6 P w K mg base XB 3 f fd ["row"] spUnd:=by
 have nd:=sc_undone.nd
 refine F.ok (k:=2) sc_undone (fun vs H Q E h=>?_) (fun cdv A outer s H vs Q E hr h=>?_)
 ·obtain⟨a,ns,k,rfl,_⟩:=h
  rfl
 obtain⟨a,ns,k,rfl,ha,ok,q⟩:=h
 refine⟨_,(ZX (ZE (ZI h_carry_back hr (Z0 (pv 0) (Z0 (ZJ Zx rfl nb.len PySem.boot_len (Z0 (pv 0) Z3)) Z3))))),?_⟩
 have hl:(ns.map V.int).length=k:=by rw[Z2];exact ok.1.len
 refine⟨_,rfl,_,rfl,a,_,rfl,.inr (Y0.of ha),a,ns,k,k,?_,ha,ok,fun r2 H2 s2 h2=>?_⟩
 ·rw[hl];rfl
 exact q r2 H2 s2 h2
end
end K97
namespace K97
open L2
def UD:Nat->Sp
 |0=>fun _ _ _ _=>False
 |n+1=>fun vs H Q _=>∃x y:V,vs=[x,y]/\Sm H n x y/\∀H',ZR H H'->Q (.bl true) H'
theorem same_flat {H:Hp}{x y:V}(h:x=y/\((∃i,x=.int i)\/(∃b,x=.bl b)\/(∃z,x=.str z)\/x=.non)):∃T,Kn H x T/\Kn H y T/\seqT T=false/\scal x y=true/\x=y:=by
 obtain⟨rfl,h⟩:=h
 rcases h with⟨i,rfl⟩ | ⟨b,rfl⟩ | ⟨z,rfl⟩ | rfl
 ·exact⟨_,.int i,.int i,rfl,rfl,rfl⟩
 ·exact⟨_,.bl b,.bl b,rfl,rfl,rfl⟩
 ·exact⟨_,.str z,.str z,rfl,rfl,rfl⟩
 ·exact⟨_,.non,.non,rfl,rfl,rfl⟩
theorem Sm.cases {H:Hp}{n:Nat}{x y:V}(h:Sm H n x y):(∃T,Kn H x T/\Kn H y T/\seqT T=false/\scal x y=true/\x=y)\/
 ∃(m:Nat) (a b:Addr) (xs ys:List V),n=m+1/\x=.ref a/\y=.ref b/\((H a=some (.tup xs)/\H b=some (.tup ys))\/(H a=some (.lst xs)/\H b=some (.lst ys)))/\xs.length=ys.length/\xs.length<=1000/\
  ∀(i:Nat) (u v:V),xs[i]?=some u->ys[i]?=some v->Sm H m u v:=by
 cases n with
 |zero=>exact .inl (same_flat h)
 |succ n=>
  rcases h with h | ⟨a,b,xs,ys,h⟩
  ·exact .inl (same_flat h)
  ·exact .inr ⟨n,a,b,xs,ys,rfl,h⟩
theorem is_same {α:Type}[DecidableEq α]{x y:α}(e:x=y):V.bl (decide (x=y))=.bl true:=by rw[decide_eq_true e]
theorem no_diff {α:Type}[DecidableEq α]{x y:α}(e:x=y):V.bl (!decide (x=y))=.bl false:=by rw[decide_eq_true e];rfl
theorem none_left {P:Program}{w:World}{K:W.Frag}{mg:Str->Option Value}{base:Heap}{f:Addr}{fd:FuncData}:Y6 P w K mg base XB 0 f fd ["_law_found","_law_due_here"] (UD 0):=
 ⟨fun vs H Q E h=>h.elim,fun A outer s H args us vs Q E _ _ _ _ h=>h.elim⟩
section
variable {P:Program}{w:World}{K:W.Frag}{mg:Str->Option Value}{base:Heap}
theorem ok_L_same {f:Addr}{fd:FuncData}(F:XH K "_law_same" "_law_same" T9 f fd){n:Nat}(nb:Nb2 mg)(h_L_same:YR P w K mg base n "_law_same" ["_law_found","_law_due_here"] (UD n))  :
 Y6 P w K mg base XB (n+1) f fd ["_law_found","_law_due_here"] (UD (n+1)):=by
 have nd:=sc_L_same.nd
 refine F.ok (k:=n) sc_L_same (fun vs H Q E h=>?_) (fun cdv A outer s H vs Q E hr h=>?_)
 ·obtain⟨x,y,rfl,_⟩:=h
  rfl
 obtain⟨x,y,rfl,sm,q⟩:=h
 refine⟨_,(Z7 (YX (Zo (ZJ call_isiT rfl nb.isi boot_isinstance (Z0 (pv 1) (Z0 (Yc (Z0 (Wd nb.list boot_list) (Z0 (Wd nb.tuple boot_tuple) Z3))) Z3))) (fun _=>rfl))
(Z7 (YX (PW.pt (WR (Zr op_ne (ZJ XD rfl nb.isi boot_isinstance (Z0 (pv 0) (Z0 (Wd nb.list boot_list) Z3))) (ZJ XD rfl nb.isi boot_isinstance (Z0 (pv 1) (Z0 (Wd nb.list boot_list) Z3))) (Zf _)) (Xu (Zr op_ne (ZJ XD rfl nb.isi boot_isinstance (Z0 (pv 0) (Z0 (Wd nb.tuple boot_tuple) Z3))) (ZJ XD rfl nb.isi boot_isinstance (Z0 (pv 1) (Z0 (Wd nb.tuple boot_tuple) Z3))) (Zf _)))))
(ZX (ZE Yk))
Zg)
(ZX (ZE (pe_and (WD Vd (ZJ Zx rfl nb.len PySem.boot_len (Z0 (pv 0) Z3)) (ZJ Zx rfl nb.len PySem.boot_len (Z0 (pv 1) Z3)) (Zf _)) (pe_one (ZJ (UP rfl) rfl nb.all boot_all (Z0 (Vf (sc:=ZY T9) (N0:=["_law_found","_law_due_here"]) (N:=[]) (js:=[]) rfl rfl rfl (by constructor<;>first|decide +kernel|rfl) rfl rfl
(pi_zipE rfl nb.zip (Z0 (pv 0) (Z0 (pv 1) Z3)))
(fun _ _ _ _ _=>by exact YI)
(fun _ _ _ _ _=>by exact(ZI (hk:=Nat.le_refl _) h_L_same hr (Z0 (pv 0) (Z0 (pv 1) Z3))))) Z3)))))))
Zg)
(ZX (ZE (pe_and (WD Vd (ZJ XD rfl nb.isi boot_isinstance (Z0 (pv 0) (Z0 (Wd nb.bool boot_bool) Z3))) (ZJ XD rfl nb.isi boot_isinstance (Z0 (pv 1) (Z0 (Wd nb.bool boot_bool) Z3))) (Zf _)) (pe_one (WD Vd (pv 0) (pv 1) (Zf _))))))),?_⟩
 refine⟨_,rfl,(by show 2<=sizeLine;decide),fun p hp=>?_⟩
 have s1:=Z9 hp (.tup [.ty "list",.ty "tuple"])
 have sm1:=sm.same s1
 rcases Sm.cases sm1 with⟨T,kx,ky,sq,sc,exy⟩ | ⟨m,a,b,xs,ys,rfl,rfl,rfl,ab,hl,hz,hs⟩
 ·refine⟨_,_,_,rfl,ky,.inl Z5,_,rfl,?_⟩
  rw[sq]
  refine iteF ?_
  refine⟨_,rfl,_,_,_,rfl,kx,.inr (.inl rfl),_,rfl,_,_,_,rfl,ky,.inr (.inl rfl),rfl,true,is_same rfl,iteT ?_⟩
  refine⟨_,rfl,_,rfl,sc,?_⟩
  have e:V.bl (decide (x=y))=.bl true:=is_same exy
  rw[e]
  exact q _ s1
 ·have hp1:(upd H p (.tup [.ty "list",.ty "tuple"])) p=some (.tup [.ty "list",.ty "tuple"]):=Z5
  generalize upd H p (.tup [.ty "list",.ty "tuple"])=H1 at s1 sm1 ab hs hp1 ⊢
  have hh:∃T,Kn H1 (.ref a) T/\Kn H1 (.ref b) T/\seqT T=true/\(Zp K H1 a xs\/Y0 K H1 a xs)/\(Zp K H1 b ys\/Y0 K H1 b ys)/\∃t,SqK t K H1 a xs/\SqK t K H1 b ys/\
   ∀i H2,ZR H1 H2->(i<min xs.length ys.length->(Itz t K a b).go i H2/\∀v H3,(Itz t K a b).yld i H2 v H3->ZR H2 H3/\∃p x y,v=.ref p/\H3 p=some (.tup [x,y])/\xs[i]?=some x/\ys[i]?=some y)/\(min xs.length ys.length<=i->(Itz t K a b).stop i H2):=by
   rcases ab with⟨h1,h2⟩ | ⟨h1,h2⟩
   ·exact⟨_,.tup h1,.tup h2,rfl,.inr (Y0.of h1),.inr (Y0.of h2),true,Y0.of h1,Y0.of h2,items_zip h1 h2⟩
   ·exact⟨_,.lst h1,.lst h2,rfl,.inl (Zp.of h1),.inl (Zp.of h2),false,Zp.of h1,Zp.of h2,Us h1 h2⟩
  obtain⟨T,kx,ky,sq,sx,sy,t,q1,q2,its⟩:=hh
  refine⟨_,_,_,rfl,ky,.inl hp1,_,rfl,?_⟩
  rw[sq]
  refine iteT ?_
  refine⟨_,rfl,_,_,_,rfl,kx,.inr (.inr (.inr rfl)),_,rfl,_,_,_,rfl,ky,.inr (.inr (.inr rfl)),rfl,false,no_diff rfl,iteF ?_⟩
  refine⟨_,rfl,_,_,_,rfl,kx,.inr (.inr (.inl rfl)),_,rfl,_,_,_,rfl,ky,.inr (.inr (.inl rfl)),rfl,false,no_diff rfl,iteF ?_⟩
  refine⟨_,rfl,a,xs,rfl,sx,_,rfl,b,ys,rfl,sy,rfl,true,is_same (by rw[hl]),iteT ?_⟩
  refine⟨_,rfl,_,rfl,t,a,b,xs,ys,rfl,q1,q2,fun D hD=>?_⟩
  refine X4 (min xs.length ys.length) (by rw[sizeLine_eq];omega) (fun _=>.bl true) (fun σ=>∃o1 o2,σ=[o1,o2]) _ hD ⟨_,_,rfl⟩ its (fun i z σ' H2 hi s2 im' hσ R hR=>?_) (fun H' s' hD'=>?_)
  ·obtain⟨o1,o2,rfl⟩:=hσ
   obtain⟨r,u,v,rfl,hr',hu,hv⟩:=im'
   refine⟨r,_,rfl,Y0.of hr',rfl,_,_,rfl,_,_,rfl,rfl,?_⟩
   exact⟨_,rfl,_,rfl,u,v,rfl,(hs i u v hu hv).same s2,fun H3 s3=>hR _ _ _ ⟨_,_,rfl⟩ s3 rfl⟩
  ·have e:(List.range (min xs.length ys.length)).map (fun _=>V.bl true)=(Yi (min xs.length ys.length) true).map V.bl:=by
    rw[List.map_const',YY,List.map_replicate]
   rw[e]at hD'
   refine⟨D,_,rfl,Zp.of hD',?_⟩
   have e2:(Yi (min xs.length ys.length) true).all id=true:=by rw[X1];intro x hx;rw[List.eq_of_mem_replicate hx];rfl
   rw[e2]
   exact q _ (s1.trans s')
end
end K97
namespace K97
open L2
def xo (σ:L2.St):Int:=match σ[3]? with
 |some (some (V.int x))=>x
 |_=>0
section
variable {P:Program}{w:World}{K:W.Frag}{mg:Str->Option Value}{base:Heap}
theorem ok_L_carried {f:Addr}{fd:FuncData}(F:XH K "_law_carried" "_law_carried" Wf f fd)(nb:Nb3 mg)   :
 Y6 P w K mg base XB 1 f fd ["_law_row"] UM:=by
 have nd:=T5.nd
 refine F.ok (k:=0) T5 (fun vs H Q E h=>?_) (fun cdv A outer s H vs Q E hr h=>?_)
 ·obtain⟨a,ns,k,rfl,_⟩:=h
  rfl
 obtain⟨a,ns,k,rfl,ha,ok,q⟩:=h
 refine⟨_,(Z7 (ZH (i:=1) nd rfl (Or.inl rfl) (Zy (call_dictP rfl) rfl nb.dict boot_dict (Z0 (YU (sc:=ZY Wf) (N0:=["_law_row","_law_there","_law_place","_law_here"]) (N:=[]) (js:=[]) rfl rfl rfl (by constructor<;>first|decide +kernel|rfl) rfl
(X6 (pv 0))
(fun _ _ _ _ _=>by exact YI)
(fun _ _ _ _ _=>by exact(Yc (Z0 (pv 0) (Z0 Yk Z3))))) Z3)))
(Z7 (XV PassesOwn.never rfl (X6 (pv 0)) (Zl (i:=2) nd rfl (Or.inl rfl))
(Z7 (ZH (i:=3) nd rfl (Or.inl rfl) (ZG Zn (pv 2) ZZ))
(Z7 (WQ PassesOwn.never (pt_cmp (pc_din (hu1 hr) (pv 3) (pv 1)))
(ZX (ZH (i:=3) nd rfl (Or.inl rfl) (ZG Zn (pv 3) ZZ))))
(Z7 (YQ (pe_dpop1 (pv 1) (pv 2) ⟨rfl,rfl,rfl,rfl⟩))
(ZX (ps_dput (hu1 hr) (pv 1) (pv 3) Yk rfl))))))
(ZX (ZE (Zy Zz rfl nb.tuple boot_tuple (Z0 (ZJ (call_sortD rfl) rfl nb.sorted boot_sorted (Z0 (pv 1) Z3)) Z3)))))),?_⟩
 obtain⟨rw_,k12⟩:=ok
 have hl:=rw_.len
 refine⟨_,rfl,a,rfl,⟨_,Y0.of ha⟩,fun D hD=>?_⟩
 refine Wx ns.length (by rw[sizeLine_eq];omega) (fun i=>[.int (ns.getD i 0),.bl true]) (fun σ=>∃o1,σ=[o1]) _ hD (by exact⟨_,rfl⟩) (by have:=YB (K:=K) ha;rw[Z2]at this;exact this) (fun i z σ' H2 hi s3 im hσ R hR=>?_) (fun H1 ys s1 hD1 hl1 hys=>?_)
 ·obtain⟨o1,rfl⟩:=hσ
  obtain⟨v,rfl,ev⟩:=VE im
  exact⟨_,rfl,(by show 2<=sizeLine;decide),fun p hp=>hR _ _ _ ⟨_,rfl⟩ (Z9 hp _) (by rw[Z5,ev])⟩
 have nd0:ns.Nodup:=rw_.up.imp fun{a b} z=>by omega
 refine⟨D,ys,ns.map fun x=>(x,.bl true),rfl,hD1,by rw[Z2];exact hl1,by rw[Y5];rw[show ns.map ((fun x=>x.1)∘fun(x:Int)=>(x,V.bl true))=ns from(Y4 fun _ _=>rfl).trans (List.map_id ns)];exact nd0,fun j v hj=>?_,fun d hd=>?_⟩
 ·obtain⟨p,e1,e2⟩:=hys j v hj
  have hj':j<ns.length:=by have:=(List.getElem?_eq_some_iff.mp hj).1;omega
  refine⟨p,ns.getD j 0,.bl true,e1,e2,?_⟩
  rw[ZQ,Z4,Z1 hj']
  rfl
 have hHd:H d=none:=s1.free hd
 have s2:=s1.trans (Z9 hd (.dK ((ns.map fun x=>(x,V.bl true)).map fun kv=>(Sum.inl kv.1,kv.2))))
 have ki0:KI ((ns.map fun x=>(x,V.bl true)).map fun kv=>((Sum.inl kv.1:XL),kv.2)) ns:=by
  unfold KI
  rw[Y5,Y5]
  rfl
 refine⟨_,rfl,a,rfl,⟨_,Y0.of (s2 _ _ ha)⟩,?_⟩
 refine Tx (xs:=ns.map V.int) (fun i σ H'=>∃(kvs:List (XL×V)) (ks bh:List Int) (L:Nat) (box:Int) (o2 o3:Option V),σ=[some (.ref a),some (.ref d),o2,o3]/\ZR H H'/\H' d=some (.dK kvs)/\KI kvs ks/\ks.Nodup/\ks.length<=12/\BB.At k ns (ns.drop i) bh ks L box) ?_ (fun i σ H' _ hp=>?_) (fun i x σ H' hxi hp=>?_) (fun σ H' hp=>?_)
 ·exact⟨_,ns,[],0,_,_,_,rfl,s2,Z5,ki0,nd0,by omega,by have:=BB.At.start (ks:=ns) rw_.up (fun x=>Iff.rfl);rw[hl]at this;exact this⟩
 ·obtain⟨kvs,ks,bh,L,box,o2,o3,rfl,sm,_⟩:=hp
  exact Y0.of (sm _ _ ha)
 ·obtain⟨kvs,ks,bh,L,box,o2,o3,rfl,sm,hdd,ki,ndk,lk,at_⟩:=hp
  have hil:i<ns.length:=by
   have:=(List.getElem?_eq_some_iff.mp hxi).1
   simpa using this
  obtain⟨p,rfl,ep⟩:=VE hxi
  have edr:ns.drop i=p::ns.drop (i+1):=by
   rw[List.drop_eq_getElem_cons hil]
   have:ns[i]=p:=by rw[<-ep,Z4,Z1 hil];rfl
   rw[this]
  rw[edr]at at_
  generalize hy:BB.gy (L - min L (p - box).toNat) (p+1) (ns.drop (i+1))=y
  have yge:p+1<=y:=by rw[<-hy];exact BB.gy_ge _ _ _
  have hin:∀x,p+1<=x->x<=y->(x∈ks↔x<y):=fun x h1 h2=>by rw[<-hy]at h2 ⊢;exact at_.here x h1 h2
  refine⟨_,rfl,_,_,rfl,rfl,?_⟩
  refine WU (fun σ H''=>H''=H'/\∃x:Int,σ=[some (.ref a),some (.ref d),some (.int p),some (.int x)]/\p+1<=x/\x<=y) (fun σ _=>(y - xo σ).toNat) ⟨rfl,p+1,rfl,Int.le_refl _,yge⟩ (fun σ H'' hp=>?_) (fun σ H Q Q' hq h=>?_)
  ·obtain⟨rfl,x,rfl,x1,x2⟩:=hp
   refine⟨_,rfl,_,rfl,d,_,rfl,DGet.k (k:=Sum.inl x) hdd,_,rfl,?_⟩
   rw[ki_mem ki x]
   by_cases c:x<y
   ·rw[decide_eq_true ((hin x x1 x2).mpr c)]
    refine iteT ⟨_,rfl,_,_,rfl,rfl,⟨rfl,x+1,rfl,by omega,by omega⟩,?_⟩
    show(y - (x+1)).toNat<(y - x).toNat
    omega
   ·have exy:x=y:=by omega
    subst exy
    have nin:x∉ks:=fun z=>by have:=(hin x x1 (Int.le_refl _)).mp z;omega
    rw[decide_eq_false nin]
    refine iteF ?_
    have pk:p∈ks:=(at_.mem p).mpr (.inr (.inr (ZW ..)))
    obtain⟨v,ev⟩:∃v,valV kvs (Sum.inl p)=some v:=by
     have:=ki_mem ki p
     rw[decide_eq_true pk]at this
     exact Option.isSome_iff_exists.mp this
    refine⟨_,rfl,d,rfl,.inl ⟨_,.inl hdd⟩,_,rfl,kvs,Sum.inl p,v,hdd,rfl,ev,?_⟩
    have lkv:kvs.length=ks.length:=by have:=congrArg List.length ki;rw[Z2,Z2]at this;exact this
    refine⟨_,rfl,_,rfl,d,_,rfl,DPut.k (k:=Sum.inl x) Z5 (by have:=dropK_le kvs (Sum.inl p);rw[sizeLine_eq];omega),?_⟩
    have kd:=ki_drop ki p
    have nin2:x∉ks.filter fun z=>decide (z≠p):=fun z=>nin (Yt.mp z).1
    have kp:=ki_put (v:=.bl true) kd nin2
    have nds:(ks.filter fun z=>decide (z≠p)).Nodup:=ndk.sublist (List.filter_sublist ..)
    have ndn:((ks.filter fun z=>decide (z≠p))++[x]).Nodup:=nd_snoc nds nin2
    obtain⟨bh',L',at'⟩:=at_.go (ks':=(ks.filter fun z=>decide (z≠p))++[x]) (fun z=>by
     rw[hy,Zi,Yt,ZD,decide_eq_true_eq])
    refine⟨_,_,bh',L',p+1,_,_,rfl,fun c o hc=>?_,Z5,kp,ndn,?_,at'⟩
    ·have nc:=ZP hc hHd
     rw[ZS nc,ZS nc]
     exact sm c o hc
    ·have l1:=dropK_len (κ:=XL) (kvs:=kvs) (k:=Sum.inl p) (by rw[ki];exact WK.mpr (ndk.imp fun{a b} z w=>z (Sum.inl.inj w))) (valV_in ev)
     have l2:=congrArg List.length kd
     rw[Z2,Z2]at l2
     rw[Z6,ZN]
     omega
  ·obtain⟨v,e,v2,e2,a',o,e3,g3,k',e4,q'⟩:=h
   exact⟨v,e,v2,e2,a',o,e3,g3,k',e4,hq _ _ q'⟩
 ·obtain⟨kvs,ks,bh,L,box,o2,o3,rfl,sm,hdd,ki,ndk,lk,at_⟩:=hp
  rw[Z2,drop_length]at at_
  refine⟨_,rfl,d,ks,kvs,rfl,hdd,ki,by omega,fun ns' l1 pm pw hl1=>?_⟩
  have e:ns'=BB.step k ns:=by
   refine BB.rise_ext ?_ (rw_.step k).up fun x=>?_
   ·have nd':ns'.Nodup:=pm.nodup_iff.mpr ndk
    exact List.Pairwise.imp₂ (fun a b h1 h2=>by have:a≠b:=h2;omega) pw nd'
   ·rw[pm.mem_iff]
    exact at_.done x
  subst e
  refine⟨l1,_,rfl,.inl ⟨Zp.of Z5,fun l2 hl2=>?_⟩⟩
  exact q l2 _ (sm.trans ((Z9 hl1 _).trans (Z9 hl2 _))) Z5
end
end K97
namespace K97
open L2
def ldl (ns:List Int):List Int:=match ns.head?,ns.getLast? with
 |some p,some q=>(BB.lds 0 (full p q ns)).map fun(x:Nat)=>(x:Int)
 |_,_=>[]
structure Near (ns:List Int):Prop where
 len:ns.length<=12
 up:ns.Pairwise (· < ·)
 bd:∀p∈ns,-20<=p/\p<=220
def spLd:Sp:=fun vs H Q _=>∃(a:Addr) (ns:List Int),vs=[.ref a]/\H a=some (.tup (ns.map V.int))/\Near ns/\
 ∀(r:Addr) (H':Hp),ZR H H'->H r=none->H' r=some (.lst ((ldl ns).map V.int))->Q (.ref r) H'
section
variable {P:Program}{w:World}{K:W.Frag}{mg:Str->Option Value}{base:Heap}
theorem ok_L_turned {f:Addr}{fd:FuncData}(F:XH K "_law_turned" "_law_turned" VL f fd)(nb:Nb3 mg)   :
 Y6 P w K mg base XB 1 f fd ["_law_row"] spMir:=by
 have nd:=Sx.nd
 refine F.ok (k:=0) Sx (fun vs H Q E h=>?_) (fun cdv A outer s H vs Q E hr h=>?_)
 ·obtain⟨a,ns,rfl,_⟩:=h
  rfl
 obtain⟨a,ns,rfl,ha,hl,q⟩:=h
 refine⟨_,(ZX (ZE (Zy Zz rfl nb.tuple boot_tuple (Z0 (YU (sc:=ZY VL) (N0:=["_law_row"]) (N:=[]) (js:=[]) rfl rfl rfl (by constructor<;>first|decide +kernel|rfl) rfl
(X6 (pe_rev (pv 0)))
(fun _ _ _ _ _=>by exact YI)
(fun _ _ _ _ _=>by exact(XG Yn (pv 0)))) Z3)))),?_⟩
 refine⟨_,rfl,a,_,rfl,ha,fun p hp=>?_⟩
 have s1:=Z9 hp (.tup (ns.map V.int).reverse)
 have hp1:(upd H p (.tup (ns.map V.int).reverse)) p=some (.tup (ns.reverse.map V.int)):=by rw[Z5,List.map_reverse]
 refine⟨p,rfl,⟨_,Y0.of hp1⟩,fun D hD=>?_⟩
 refine X4 ns.reverse.length (by rw[WZ,sizeLine_eq];omega) (fun i=>.int (-(ns.reverse.getD i 0))) (fun σ=>∃o1,σ=[o1]) _ hD (by exact⟨_,rfl⟩) (by have:=YB (K:=K) hp1;rw[Z2]at this;exact this) (fun i x σ' H2 hi s2 im hσ R hR=>?_) (fun H' s' hD'=>?_)
 ·obtain⟨o1,rfl⟩:=hσ
  obtain⟨v,rfl,ev⟩:=VE im
  exact⟨_,rfl,_,rfl,hR _ _ _ ⟨_,rfl⟩ (ZR.refl _) (by rw[ev])⟩
 ·rw[map_ints ns.reverse (fun z=>-z)]at hD'
  exact⟨D,_,rfl,.inl ⟨Zp.of hD',fun l hl=>q l _ (s1.trans (s'.trans (Z9 hl _))) Z5⟩⟩
theorem ok_L_undone {f:Addr}{fd:FuncData}(F:XH K "_law_undone" "_law_undone" UC f fd)(nb:Nb3 mg)(h_L_turned:YR P w K mg base 1 "_law_turned" ["_law_row"] spMir)(h_L_carried:YR P w K mg base 1 "_law_carried" ["_law_row"] UM)  :
 Y6 P w K mg base XB 2 f fd ["_law_row"] spUnd:=by
 have nd:=Sy.nd
 refine F.ok (k:=1) Sy (fun vs H Q E h=>?_) (fun cdv A outer s H vs Q E hr h=>?_)
 ·obtain⟨a,ns,k,rfl,_⟩:=h
  rfl
 obtain⟨a,ns,k,rfl,ha,ok,q⟩:=h
 refine⟨_,(ZX (ZE (ZI h_L_turned hr (Z0 (ZI h_L_carried hr (Z0 (ZI h_L_turned hr (Z0 (pv 0) Z3)) Z3)) Z3)))),?_⟩
 obtain⟨rw_,k12⟩:=ok
 have hl:=rw_.len
 refine⟨_,rfl,a,ns,rfl,ha,by omega,fun r1 H1 s1 h1=>?_⟩
 have rm:BB.Rw (BB.mir ns) k (-4000000000) 4000000000:=by have:=rw_.mir;rw[neg_neg]at this;exact this
 refine⟨r1,BB.mir ns,k,rfl,h1,⟨rm,k12⟩,fun r2 H2 s2 h2=>?_⟩
 have hl2:=(rm.step k).len
 refine⟨r2,_,rfl,h2,by omega,fun r3 H3 s3 h3=>?_⟩
 exact q r3 H3 (s1.trans (s2.trans s3)) h3
theorem ok_loads2 {f:Addr}{fd:FuncData}(F:XH K "loads" "loads" s_loads f fd)(nb:Nb3 mg)   :
 Y6 P w K mg base XB 1 f fd ["row"] spLd:=by
 have nd:=sc_loads.nd
 refine F.ok (k:=0) sc_loads (fun vs H Q E h=>?_) (fun cdv A outer s H vs Q E hr h=>?_)
 ·obtain⟨a,ns,rfl,_⟩:=h
  rfl
 obtain⟨a,ns,rfl,ha,nr,qq⟩:=h
 refine⟨_,(Z7 (ZH (i:=1) nd rfl (Or.inl rfl) (Y2 Z3))
(Z7 (YX (Yx (Zo (pv 0) (fun _=>rfl)))
(ZX (ZE (pv 1)))
Zg)
(Z7 (ZH (i:=2) nd rfl (Or.inl rfl) ZZ)
(Z7 (XV PassesOwn.never rfl (UZ rfl nb.range (Z0 (Zm YT (pv 0) ZZ (fun _ _=>rfl)) (Z0 (ZG Zn (Zm YT (pv 0) (XG Yn ZZ) (fun _ _=>rfl)) ZZ) Z3))) (Zl (i:=3) nd rfl (Or.inl rfl))
(Z7 (YX (Zr op_in_seq (pv 3) (pv 0) rfl)
(ZX (Ta (i:=2) nd rfl (Or.inl rfl) ZZ ip_add))
(ZX (YX (Zr op_gt (pv 2) ZZ (Zf _))
(ZX (Ta (i:=2) nd rfl (Or.inl rfl) ZZ ip_sub))
Zg)))
(ZX (YQ (XF Zu PySem.F.slot_list_append PySem.F.type_list_append Y8 (pv 1) (Z0 (pv 2) Z3))))))
(ZX (ZE (ZG Wo (pv 1) (pe_down rfl nb.list rfl nb.range rfl (Z0 (ZG Yb (pv 2) ZZ) (Z0 (XG Yn ZZ) (Z0 (XG Yn ZZ) Z3))))))))))),?_⟩
 cases ns with
 |nil=>
  refine⟨(by show 0<=sizeLine;decide),fun f hf=>?_⟩
  have s1:=Z9 hf (.lst [])
  refine⟨_,rfl,_,.inr (.inl ⟨_,Y0.of (s1 _ _ ha),rfl⟩),iteT ?_⟩
  exact⟨_,rfl,qq f _ s1 hf Z5⟩
 |cons p r=>
 obtain⟨q,hq⟩:∃q,(p::r).getLast?=some q:=by
  cases e:(p::r).getLast? with
  |none=>exact absurd (List.getLast?_eq_none_iff.mp e) (by simp)
  |some q=>exact⟨q,rfl⟩
 have qm:q∈p::r:=List.mem_of_getLast? hq
 have bp:=nr.bd p (ZW ..)
 have bq:=nr.bd q qm
 have pq:p<=q:=by
  rcases ZV.mp qm with z | z
  ·omega
  ·have:=(Zt.mp nr.up).1 q z;omega
 have q9:q<=p+900:=by omega
 have n12:=nr.len
 refine⟨(by show 0<=sizeLine;decide),fun f hf=>?_⟩
 have s1:=Z9 hf (.lst [])
 refine⟨_,rfl,_,.inr (.inl ⟨_,Y0.of (s1 _ _ ha),rfl⟩),iteF ?_⟩
 refine⟨_,rfl,a,_,_,_,rfl,rfl,Y0.of (s1 _ _ ha),(show atI ((p::r).map V.int) ((0:Nat):Int)=some (.int p) from Zj rfl),?_⟩
 refine⟨_,rfl,_,rfl,a,_,_,_,rfl,rfl,Y0.of (s1 _ _ ha),at_last hq,_,_,rfl,rfl,_,_,rfl,⟨by omega,by omega,by omega,by omega⟩,?_⟩
 refine Xw (fun i σ H'=>ZR H H'/\∃(l:Int) (L:Nat) (o3:Option V),σ=[some (.ref a),some (.ref f),some (.int l),o3]/\l=(L:Int)/\L=BB.lst 0 (cel p i (p::r))/\L<=i/\H' f=some (.lst (((BB.lds 0 (cel p i (p::r))).map fun(x:Nat)=>(x:Int)).map V.int))) ⟨s1,_,0,_,rfl,rfl,rfl,Nat.le_refl 0,Z5⟩ (fun i σ H' hi hpv=>?_) (fun σ H' hpv=>?_)
 ·obtain⟨sm,l,L,o3,rfl,el,eL,Li,hfh⟩:=hpv
  have ll:(((BB.lds 0 (cel p i (p::r))).map fun(x:Nat)=>(x:Int)).map V.int).length=i:=by
   rw[Z2,Z2,BB.Wn]
   unfold cel
   rw[Z2,YY]
  have nx:∀(l':Int) (b:Bool) (H2:Hp),decide (p+(i:Int)∈p::r)=b->l'=((BB.ld L b:Nat):Int)->H2=upd H' f (.lst (((BB.lds 0 (cel p i (p::r))).map fun(x:Nat)=>(x:Int)).map V.int++[.int l']))->
   ZR H H2/\∃(l:Int) (L:Nat) (o3:Option V),[some (V.ref a),some (.ref f),some (.int l'),some (.int (p+(i:Int)))]=[some (V.ref a),some (.ref f),some (.int l),o3]/\l=(L:Int)/\L=BB.lst 0 (cel p (i+1) (p::r))/\L<=i+1/\H2 f=some (.lst (((BB.lds 0 (cel p (i+1) (p::r))).map fun(x:Nat)=>(x:Int)).map V.int)):=by
   intro l' b H2 eb e1 e2
   subst e2
   refine⟨fun c o hc=>by rw[ZS (ZP hc hf)];exact sm c o hc,l',BB.ld L b,_,rfl,e1,?_,?_,?_⟩
   ·rw[Va,eb,VI,<-eL]
    rfl
   ·unfold BB.ld
    cases b
    ·show L - 1<=_;omega
    ·show L+1<=_;omega
   ·rw[Z5,Va,eb,BB.VF,<-eL,ZB,ZB,e1]
    rfl
  refine⟨_,rfl,_,rfl,a,_,rfl,.inr (Y0.of (sm _ _ ha)),rfl,SN _,_,rfl,?_⟩
  rw[in_ints]
  refine ite2 (fun c=>?_) (fun c=>?_)
  ·refine⟨_,rfl,_,_,rfl,rfl,?_⟩
   refine⟨_,rfl,.inl ⟨rfl,_,Zp.of hfh⟩,_,rfl,f,_,_,rfl,rfl,hfh,by rw[ll,sizeLine_eq];omega,?_⟩
   exact nx (l+1) true _ c (by show l+1=((L+1:Nat):Int);omega) rfl
  ·have c':=YJ.mpr c
   refine⟨_,rfl,_,_,rfl,rfl,_,rfl,?_⟩
   refine ite2 (fun d=>?_) (fun d=>?_)
   ·have d':0<l:=of_decide_eq_true d
    refine⟨_,rfl,_,_,rfl,rfl,?_⟩
    refine⟨_,rfl,.inl ⟨rfl,_,Zp.of hfh⟩,_,rfl,f,_,_,rfl,rfl,hfh,by rw[ll,sizeLine_eq];omega,?_⟩
    exact nx (l - 1) false _ c' (by show l - 1=((L - 1:Nat):Int);omega) rfl
   ·have d':¬0<l:=of_decide_eq_false (YJ.mpr d)
    refine⟨_,rfl,.inl ⟨rfl,_,Zp.of hfh⟩,_,rfl,f,_,_,rfl,rfl,hfh,by rw[ll,sizeLine_eq];omega,?_⟩
    exact nx l false _ c' (by show l=((L - 1:Nat):Int);omega) rfl
 ·obtain⟨sm,l,L,o3,rfl,el,eL,Li,hfh⟩:=hpv
  have ll:(((BB.lds 0 (cel p (q+1 - p).toNat (p::r))).map fun(x:Nat)=>(x:Int)).map V.int).length=(q+1 - p).toNat:=by
   rw[Z2,Z2,BB.Wn]
   unfold cel
   rw[Z2,YY]
  refine⟨_,rfl,_,rfl,_,_,rfl,rfl,_,rfl,_,rfl,L,by rw[el],by omega,fun l1 hl1=>?_⟩
  have s2:=Z9 hl1 (.lst ((Tw L).map V.int))
  have ld:(Tw L).length=L:=by unfold Tw;rw[Z2,YY]
  refine⟨f,l1,_,_,rfl,rfl,s2 _ _ hfh,Z5,by rw[ll,Z2,ld,sizeLine_eq];omega,fun p2 hp2=>?_⟩
  refine qq p2 _ (sm.trans (s2.trans (Z9 hp2 _))) (sm.free (s2.free hp2)) ?_
  rw[show ldl (p::r)=(BB.lds 0 (full p q (p::r))).map fun(x:Nat)=>(x:Int) by unfold ldl;rw[hq];rfl]
  rw[Z5,<-ZB]
  congr 3
  unfold full
  rw[BB.VF,<-eL,BB.lds_falses,ZB,Y5]
  congr 1
  unfold Tw
  refine Y4 fun i hi=>?_
  have:=Ys.mp hi
  show(L:Int) - 1 - (i:Int)=((L - 1 - i:Nat):Int)
  omega
end
end K97
namespace K97
open L2
def xo2 (σ:L2.St):Int:=match σ[2]? with
 |some (some (V.int x))=>x
 |_=>0
theorem VD (lo:Int)(n:Nat)(ns:List Int):(cel lo n ns).length=n:=by unfold cel;rw[Z2,YY]
theorem cel_more {p q:Int}{ns:List Int}(hi:∀x∈ns,x<=q)(hp:p<=q):∀j:Nat,cel p ((q+1 - p).toNat+j) ns=cel p (q+1 - p).toNat ns++Yi j false
 |0=>by rw[Nat.add_zero];simp
 |j+1=>by
  rw[<-Nat.add_assoc,Va,cel_more hi hp j,List.append_assoc,List.replicate_succ']
  congr 2
  rw[decide_eq_false fun z=>by have:=hi _ z;omega]
theorem lst_falses:∀(k L:Nat),BB.lst L (Yi k false)=L - k
 |0,L=>rfl
 |k+1,L=>by
  show BB.lst (BB.ld L false) (Yi k false)=_
  rw[lst_falses k]
  show L - 1 - k=L - (k+1)
  omega
theorem ld_max (L:Nat)(b:Bool)(l:Int)(h:l=(L:Int)):(if l+(if b=true then 1 else -1)>0 then l+(if b=true then 1 else -1) else 0)=((BB.ld L b:Nat):Int):=by
 unfold BB.ld
 cases b
 ·simp only[Yd,if_false]
  split<;>omega
 ·simp only[if_true]
  split<;>omega
section
variable {P:Program}{w:World}{K:W.Frag}{mg:Str->Option Value}{base:Heap}
theorem ok_L_loads {f:Addr}{fd:FuncData}(F:XH K "_law_loads" "_law_loads" Te f fd)(nb:Nb3 mg)   :
 Y6 P w K mg base XB 1 f fd ["_law_row"] spLd:=by
 have nd:=sc_L_loads.nd
 refine F.ok (k:=0) sc_L_loads (fun vs H Q E h=>?_) (fun cdv A outer s H vs Q E hr h=>?_)
 ·obtain⟨a,ns,rfl,_⟩:=h
  rfl
 obtain⟨a,ns,rfl,ha,nr,qq⟩:=h
 refine⟨_,(Z7 (ZH (i:=1) nd rfl (Or.inl rfl) (Y2 Z3))
(Z7 (YX (Zr (op_eqT hr.units0) (pv 0) (Yc Z3) (Zf _))
(ZX (ZE (pv 1)))
Zg)
(Z7 (ps_par (i:=2) (j:=3) rfl nd rfl rfl (by decide) rfl rfl (Z0 (Zm YT (pv 0) ZZ (fun _ _=>rfl)) (Z0 ZZ Z3)) rfl)
(Z7 (WQ PassesOwn.never (PW.pt (WR (Zr op_gt (pv 3) ZZ (Zf _)) (Xu (Zr op_le (pv 2) (Zm YT (pv 0) (XG Yn ZZ) (fun _ _=>rfl)) (Zf _)))))
(Z7 (ZH (i:=3) nd rfl (Or.inl rfl) (ZJ (UR rfl) rfl nb.max boot_max (Z0 ZZ (Z0 (ZG Zn (pv 3) (Zm Zk (Y2 (Z0 (XG Yn ZZ) (Z0 ZZ Z3))) (Zy call_int1 rfl nb.int boot_int (Z0 (WD op_in_seq (pv 2) (pv 0) rfl) Z3)) (fun _ _=>rfl))) Z3))))
(Z7 (YQ (XF Zu PySem.F.slot_list_append PySem.F.type_list_append Y8 (pv 1) (Z0 (pv 3) Z3)))
(ZX (ZH (i:=2) nd rfl (Or.inl rfl) (ZG Zn (pv 2) ZZ))))))
(ZX (ZE (pv 1))))))),?_⟩
 refine⟨(by show 0<=sizeLine;decide),fun f hf=>?_⟩
 have s1:=Z9 hf (.lst [])
 refine⟨_,rfl,(by show 0<=sizeLine;decide),fun e0 he0=>?_⟩
 have s2:=Z9 he0 (.tup [])
 refine⟨a,e0,ns,[],rfl,rfl,Y0.of (s2 _ _ (s1 _ _ ha)),Y0.of Z5,_,rfl,?_⟩
 cases ns with
 |nil=>
  refine iteT ⟨_,rfl,qq f _ (s1.trans s2) hf (s2 _ _ Z5)⟩
 |cons p r=>
 rw[decide_eq_false (by simp)]
 refine iteF ?_
 obtain⟨q,hq⟩:∃q,(p::r).getLast?=some q:=by
  cases e:(p::r).getLast? with
  |none=>exact absurd (List.getLast?_eq_none_iff.mp e) (by simp)
  |some q=>exact⟨q,rfl⟩
 have qm:q∈p::r:=List.mem_of_getLast? hq
 have bp:=nr.bd p (ZW ..)
 have bq:=nr.bd q qm
 have hi:∀x∈p::r,x<=q:=by
  have up:=nr.up
  obtain⟨ys,e⟩:=List.getLast?_eq_some_iff.mp hq
  intro x hx
  rw[e]at up hx
  rcases Zi.mp hx with z | z
  ·exact Int.le_of_lt ((YD.mp up).2.2 x z q (by simp))
  ·have:x=q:=by simpa using z
   omega
 have pq:p<=q:=hi p (ZW ..)
 have n12:=nr.len
 have hHf:H f=none:=hf
 have s12:=s1.trans s2
 have hf2:(upd (upd H f (.lst [])) e0 (.tup [])) f=some (.lst []):=s2 _ _ Z5
 generalize upd (upd H f (.lst [])) e0 (.tup [])=H2 at s12 hf2 ⊢
 generalize hn:(q+1 - p).toNat=n
 generalize hLn:BB.lst 0 (cel p n (p::r))=Ln
 have more:∀j,cel p (n+j) (p::r)=cel p n (p::r)++Yi j false:=fun j=>by rw[<-hn];exact cel_more hi pq j
 have lat':∀j,BB.lst 0 (cel p (n+j) (p::r))=Ln - j:=fun j=>by rw[more,VI,lst_falses,hLn]
 have Lnn:Ln<=n:=by
  have key:∀(bs:List Bool) (L:Nat),BB.lst L bs<=L+bs.length:=fun bs=>by
   induction bs with
   |nil=>intro L;exact Nat.le_refl _
   |cons b r ih=>
    intro L
    have:=ih (BB.ld L b)
    show BB.lst (BB.ld L b) r<=_
    rw[ZM]
    unfold BB.ld at this ⊢
    cases b
    ·simp only[Yd,if_false]at this ⊢
     omega
    ·simp only[if_true]at this ⊢
     omega
  have:=key (cel p n (p::r)) 0
  rw[VD,hLn]at this
  omega
 refine⟨_,rfl,a,_,_,_,rfl,rfl,Y0.of (s12 _ _ ha),(show atI ((p::r).map V.int) ((0:Nat):Int)=some (.int p) from Zj rfl),_,_,rfl,?_⟩
 refine WU (fun σ H''=>ZR H H''/\∃(i L:Nat) (x l:Int),σ=[some (.ref a),some (.ref f),some (.int x),some (.int l)]/\x=p+(i:Int)/\l=(L:Int)/\L=BB.lst 0 (cel p i (p::r))/\i<=n+Ln/\H'' f=some (.lst (((BB.lds 0 (cel p i (p::r))).map fun(x:Nat)=>(x:Int)).map V.int))) (fun σ _=>(p+(n:Int)+(Ln:Int) - xo2 σ).toNat)
  ⟨s12,0,0,_,_,rfl,by omega,rfl,rfl,Yp _,hf2⟩ (fun σ H'' hp=>?_) (fun σ H Q Q' hq' h=>?_)
 ·obtain⟨sm,i,L,x,l,rfl,ex,el,eL,hiN,hfh⟩:=hp
  have ll:(((BB.lds 0 (cel p i (p::r))).map fun(x:Nat)=>(x:Int)).map V.int).length=i:=by rw[Z2,Z2,BB.Wn,VD]
  have goOn:(l>0\/x<=q)->i+1<=n+Ln:=fun h=>by
   rcases h with h | h
   ·by_cases c:i<n
    ·omega
    ·have:=lat' (i - n)
     rw[show n+(i - n)=i by omega,<-eL]at this
     omega
   ·omega
  have nx:∀(l':Int) (b:Bool) (H2 H3:Hp),ZR H'' H3->decide (x∈p::r)=b->l'=((BB.ld L b:Nat):Int)->i+1<=n+Ln->H2=upd H3 f (.lst (((BB.lds 0 (cel p i (p::r))).map fun(x:Nat)=>(x:Int)).map V.int++[.int l']))->
   (ZR H H2/\∃(i L:Nat) (x' l:Int),[some (V.ref a),some (.ref f),some (.int (x+1)),some (.int l')]=[some (V.ref a),some (.ref f),some (.int x'),some (.int l)]/\x'=p+(i:Int)/\l=(L:Int)/\L=BB.lst 0 (cel p i (p::r))/\i<=n+Ln/\H2 f=some (.lst (((BB.lds 0 (cel p i (p::r))).map fun(x:Nat)=>(x:Int)).map V.int)))/\(p+(n:Int)+(Ln:Int) - (x+1)).toNat<(p+(n:Int)+(Ln:Int) - x).toNat:=by
   intro l' b H2 H3 s3 eb e1 e0 e2
   subst e2
   rw[ex]at eb
   refine⟨⟨fun c o hc=>by rw[ZS (ZP hc hHf)];exact s3 c o (sm c o hc),i+1,BB.ld L b,_,_,rfl,by omega,e1,?_,e0,?_⟩,by omega⟩
   ·rw[Va,eb,VI,<-eL]
    rfl
   ·rw[Z5,Va,eb,BB.VF,<-eL,ZB,ZB,e1]
    rfl
  refine⟨_,rfl,_,_,rfl,rfl,_,rfl,?_⟩
  by_cases c1:0<l
  ·rw[decide_eq_true c1]
   refine iteT (iteT ?_)
   refine⟨_,rfl,_,rfl,(by show 2<=sizeLine;decide),fun pl hpl=>?_⟩
   have s3:=Z9 hpl (.lst [.int (-1),.int 1])
   refine⟨_,rfl,_,rfl,a,_,rfl,.inr (Y0.of (s3 _ _ (sm _ _ ha))),rfl,SN _,.inr ⟨_,rfl,?_⟩⟩
   have eb:=in_ints x (p::r)
   generalize inV (.int x) ((p::r).map V.int)=b at eb ⊢
   refine⟨pl,[.int (-1),.int 1],_,.int (if b=true then 1 else -1),rfl,rfl,Zp.of Z5,(by cases b<;>rfl),_,_,rfl,rfl,_,_,rfl,?_⟩
   refine⟨_,rfl,.inl ⟨rfl,_,Zp.of (s3 _ _ hfh)⟩,_,rfl,f,_,_,rfl,rfl,s3 _ _ hfh,by rw[ll,sizeLine_eq];omega,?_⟩
   refine⟨_,rfl,_,_,rfl,rfl,?_⟩
   exact nx _ b _ _ s3 eb.symm (ld_max L b l el) (goOn (.inl c1)) rfl
  ·rw[decide_eq_false c1]
   refine iteF ⟨_,rfl,_,rfl,_,rfl,a,_,_,_,rfl,rfl,Y0.of (sm _ _ ha),at_last hq,_,_,rfl,rfl,_,rfl,?_⟩
   by_cases c2:x<=q
   ·rw[decide_eq_true c2]
    refine iteT ?_
    refine⟨_,rfl,_,rfl,(by show 2<=sizeLine;decide),fun pl hpl=>?_⟩
    have s3:=Z9 hpl (.lst [.int (-1),.int 1])
    refine⟨_,rfl,_,rfl,a,_,rfl,.inr (Y0.of (s3 _ _ (sm _ _ ha))),rfl,SN _,.inr ⟨_,rfl,?_⟩⟩
    have eb:=in_ints x (p::r)
    generalize inV (.int x) ((p::r).map V.int)=b at eb ⊢
    refine⟨pl,[.int (-1),.int 1],_,.int (if b=true then 1 else -1),rfl,rfl,Zp.of Z5,(by cases b<;>rfl),_,_,rfl,rfl,_,_,rfl,?_⟩
    refine⟨_,rfl,.inl ⟨rfl,_,Zp.of (s3 _ _ hfh)⟩,_,rfl,f,_,_,rfl,rfl,s3 _ _ hfh,by rw[ll,sizeLine_eq];omega,?_⟩
    refine⟨_,rfl,_,_,rfl,rfl,?_⟩
    exact nx _ b _ _ s3 eb.symm (ld_max L b l el) (goOn (.inr c2)) rfl
   ·rw[decide_eq_false c2]
    refine iteF ⟨_,rfl,qq f _ sm hHf ?_⟩
    have ei:i=n+Ln:=by
     have:=lat' (i - n)
     rw[show n+(i - n)=i by omega,<-eL]at this
     omega
    have ef:full p q (p::r)=cel p i (p::r):=by
     unfold full
     rw[hn,hLn,ei,more]
    have ed:ldl (p::r)=(BB.lds 0 (full p q (p::r))).map fun(x:Nat)=>(x:Int):=by unfold ldl;rw[hq];rfl
    rw[hfh,ed,ef]
 ·obtain⟨v,e,i,j,e1,e2,k,e3,q1⟩:=h
  refine⟨v,e,i,j,e1,e2,k,e3,?_⟩
  cases k with
  |true=>exact iteT (hq' _ _ (by rw[if_pos rfl]at q1;exact q1))
  |false=>
   rw[if_neg Bool.false_ne_true]at q1
   obtain⟨v2,f2,v3,f3,i2,f4,a2,xs2,i3,v4,f5,f6,f7,f8,i4,i5,f9,f10,k2,f11,q2⟩:=q1
   exact iteF ⟨v2,f2,v3,f3,i2,f4,a2,xs2,i3,v4,f5,f6,f7,f8,i4,i5,f9,f10,k2,f11,hq' _ _ q2⟩
end
end K97
namespace K97
open L2
abbrev scIn:Scope:={kind:=.function,names:=[(oS ".0",.local),(oS "place",.cell),(oS "len",.globalImplicit),(oS "out",.cell)],isGenerator:=false,isCoroutine:=false,more:=[]}
theorem Wb (b:Int)(ns:List Int):inV (.int b) (ns.map V.int)=decide (b∈ns):=by
 unfold inV
 rw[any_map,Bool.eq_iff_iff,Vv,decide_eq_true_iff]
 constructor
 ·rintro⟨x,hx,e⟩
  have e':x=b:=of_decide_eq_true e
  exact e'▸hx
 ·intro h
  exact⟨b,h,decide_eq_true (rfl:b=b)⟩
theorem Xf (ns:List Int):(ns.map V.int).all UG=true:=by
 rw[all_map,X1]
 intro x _
 rfl
theorem Xs {ns:List Int}{i:Nat}{x:V}(h:(ns.map V.int)[i]?=some x):x=.int (ns.getD i 0):=by
 rw[ZQ]at h
 cases e:ns[i]? with
 |none=>rw[e]at h;cases h
 |some n=>
  rw[e]at h
  cases h
  rw[Z4,e]
  rfl
def spClosed:Sp:=fun vs H Q _=>∃(a b:Addr) (row out:List Int),vs=[.ref a,.ref b]/\H a=some (.tup (row.map V.int))/\H b=some (.lst (out.map V.int))/\row.length<=12/\out.length<=24/\
 ∀(r:Addr) (H':Hp),ZR H H'->H' r=some (.tup ((BB.Tu row out).map V.int))->Q (.ref r) H'
def spPeel:Sp:=fun vs H Q _=>∃(a:Addr) (row:List Int),vs=[.ref a]/\H a=some (.tup (row.map V.int))/\row.length<=12/\
 ∀(r:Addr) (H':Hp),ZR H H'->H' r=some (.tup ((BB.peel row).map V.int))->Q (.ref r) H'
section
variable {P:Program}{w:World}{K:W.Frag}{mg:Str->Option Value}{base:Heap}
theorem ok_closed_up {f:Addr}{fd:FuncData}(F:XH K "closed_up" "closed_up" WS f fd)(nb:Nb mg)   :
 Y6 P w K mg base XB 1 f fd ["places","out"] spClosed:=by
 have nd:=Ub.nd
 refine F.ok (k:=0) Ub (fun vs H Q E h=>?_) (fun cdv A outer s H vs Q E hr h=>?_)
 ·obtain⟨a,b,row,out,rfl,_⟩:=h
  rfl
 obtain⟨a,b,row,out,rfl,ha,hb,r12,o24,q⟩:=h
 refine⟨_,(Z7 (VR (ii:=2) nd rfl (Or.inl rfl) (sc:=ZY WS) (N0:=["places","out","left"]) (N:=["out"]) (js:=[1]) rfl rfl rfl (by constructor<;>first|decide +kernel|rfl) rfl
(X6 (pv 0))
(fun _ _ _ _ _=>by exact(XW (Zr (W5 K rfl) (pv 0) (pv 1) rfl)))
(fun _ _ _ _ _=>by exact(pv 0)))
(ZX (ZE (Zy Zz rfl nb.tuple boot_tuple (Z0 (UW (sc:=ZY WS) (N0:=["places","out","left"]) (N:=["out"]) (js:=[1]) rfl rfl rfl (by exact⟨rfl,by decide +kernel,fun _ _=>rfl,fun _=>rfl,by decide +kernel,by decide +kernel,by decide +kernel,rfl,rfl,by decide,by decide +kernel,by decide +kernel⟩) rfl
(XN (pv 2))
(fun _ _ _ _ _=>by exact YI)
(fun _ _ _ _ _=>by exact(ZG Yb (pv 0) (ZJ (UQ K rfl) rfl nb.len PySem.boot_len (Z0
(YU (sc:=scIn) (N0:=["place","out"]) (N:=["place"]) (js:=[0]) rfl rfl rfl (by constructor<;>first|decide +kernel|rfl) rfl
(TU K rfl (pv 1))
(fun _ _ _ _ _=>by exact(XW (Zr Vz (pv 0) (pv 1) (Zf _))))
(fun _ _ _ _ _=>by exact(pv 0))) Z3))))) Z3))))),?_⟩
 refine⟨_,rfl,a,rfl,⟨_,Y0.of ha⟩,fun D hD=>?_⟩
 refine Yr (row.map V.int).length (by rw[Z2,sizeLine_eq];omega) (fun i=>decide (row.getD i 0∉out)) (fun i=>.int (row.getD i 0)) (fun σ=>∃o1,σ=[o1,some (.ref b)]) _ hD (by exact⟨_,rfl⟩) (YB ha) (fun i x σ' H2 hi s2 im hσ R S hR hS=>?_) (fun H1 s1 hD1=>?_)
 ·obtain⟨o1,rfl⟩:=hσ
  obtain rfl:=Xs im
  refine⟨_,rfl,_,rfl,b,_,rfl,.inl (Zp.of (s2 _ _ hb)),rfl,Xf out,_,rfl,?_⟩
  rw[Wb,if_pos rfl]
  by_cases m:row.getD i 0∈out
  ·rw[decide_eq_true m]
   exact iteF (hS (decide_eq_false fun z=>z m) _ _ ⟨_,rfl⟩ (ZR.refl _))
  ·rw[decide_eq_false m]
   exact iteT ⟨_,rfl,hR (decide_eq_true m) _ _ _ ⟨_,rfl⟩ (ZR.refl _) rfl⟩
 rw[Z2,BB.XZ 0 row (fun p=>decide (p∉out)) V.int]at hD1
 have hb1:=s1 _ _ hb
 have ll:(row.filter fun p=>decide (p∉out)).length<=12:=Nat.le_trans (Yh _ _) r12
 have qq:∀(r:Addr) (H':Hp),ZR H1 H'->H' r=some (.tup (((row.filter fun p=>decide (p∉out)).map fun p=>p - ((out.filter fun g=>decide (g<p)).length:Int)).map V.int))->Q (.ref r) H':=fun r H' s h=>q r H' (s1.trans s) h
 generalize(row.filter fun p=>decide (p∉out))=left at hD1 ll qq
 refine⟨_,rfl,D,rfl,⟨_,Zp.of hD1⟩,fun D2 hD2=>?_⟩
 refine X4 (left.map V.int).length (by rw[Z2,sizeLine_eq];omega) (fun i=>.int (left.getD i 0 - ((out.filter fun g=>decide (g<left.getD i 0)).length:Int))) (fun σ=>∃o1,σ=[o1,some (.ref b)]) _ hD2 (by exact⟨_,rfl⟩) (YA hD1) (fun i x σ' H2 hi s2 im hσ R hR=>?_) (fun H3 s3 hD3=>?_)
 ·obtain⟨o1,rfl⟩:=hσ
  obtain rfl:=Xs im
  have hb2:=s2 _ _ hb1
  refine⟨_,rfl,_,rfl,b,rfl,⟨_,Zp.of hb2⟩,fun D3 hD3=>?_⟩
  refine Yr (out.map V.int).length (by rw[Z2,sizeLine_eq];omega) (fun j=>decide (out.getD j 0<left.getD i 0)) (fun j=>.int (out.getD j 0)) (fun σ=>∃o2,σ=[o2,some (.int (left.getD i 0))]) _ hD3 (by exact⟨_,rfl⟩) (YA hb2) (fun j y σ2 H4 hj s4 im4 hσ4 R4 S4 hR4 hS4=>?_) (fun H5 s5 hD5=>?_)
  ·obtain⟨o2,rfl⟩:=hσ4
   obtain rfl:=Xs im4
   refine⟨_,rfl,_,rfl,_,_,rfl,rfl,_,rfl,?_⟩
   by_cases c:out.getD j 0<left.getD i 0
   ·rw[decide_eq_true c]
    exact iteT ⟨_,rfl,hR4 (decide_eq_true c) _ _ _ ⟨_,rfl⟩ (ZR.refl _) rfl⟩
   ·rw[decide_eq_false c]
    exact iteF (hS4 (decide_eq_false c) _ _ ⟨_,rfl⟩ (ZR.refl _))
  ·rw[Z2,BB.XZ 0 out (fun g=>decide (g<left.getD i 0)) V.int]at hD5
   refine⟨D3,_,rfl,.inl (Zp.of hD5),_,_,rfl,rfl,hR _ _ _ ⟨_,rfl⟩ s5 ?_⟩
   rw[Z2]
 ·rw[Z2,BB.VP 0 left (fun p=>V.int (p - ((out.filter fun g=>decide (g<p)).length:Int)))]at hD3
  refine⟨D2,_,rfl,.inl ⟨Zp.of hD3,fun l hl=>?_⟩⟩
  refine qq l _ (s3.trans (Z9 hl _)) ?_
  rw[Z5,Y5]
  rfl
theorem ok_peeled {f:Addr}{fd:FuncData}(F:XH K "peeled" "peeled" Vm f fd)(nb:Nb mg)(h_closed_up:YR P w K mg base 1 "closed_up" ["places","out"] spClosed)  :
 Y6 P w K mg base XB 2 f fd ["row"] spPeel:=by
 have nd:=sc_peeled.nd
 refine F.ok (k:=1) sc_peeled (fun vs H Q E h=>?_) (fun cdv A outer s H vs Q E hr h=>?_)
 ·obtain⟨a,row,rfl,_⟩:=h
  rfl
 obtain⟨a,row,rfl,ha,r12,q⟩:=h
 refine⟨_,(Z7 (VR (ii:=1) nd rfl (Or.inl rfl) (sc:=ZY Vm) (N0:=["row","balls"]) (N:=["row"]) (js:=[0]) rfl rfl rfl (by constructor<;>first|decide +kernel|rfl) rfl
(X6 (pv 0))
(fun _ _ _ _ _=>by exact(XW (Zr (W5 K rfl) (ZG Zn (pv 0) ZZ) (pv 1) rfl)))
(fun _ _ _ _ _=>by exact(pv 0)))
(ZX (ZE (ZI h_closed_up hr (Z0 (pv 0) (Z0 (ZG Wo (pv 1) (YU (sc:=ZY Vm) (N0:=["row","balls"]) (N:=[]) (js:=[]) rfl rfl rfl (by constructor<;>first|decide +kernel|rfl) rfl
(XN (pv 1))
(fun _ _ _ _ _=>by exact YI)
(fun _ _ _ _ _=>by exact(ZG Zn (pv 0) ZZ)))) Z3)))))),?_⟩
 refine⟨_,rfl,a,rfl,⟨_,Y0.of ha⟩,fun D hD=>?_⟩
 refine Yr (row.map V.int).length (by rw[Z2,sizeLine_eq];omega) (fun i=>decide (row.getD i 0+1∉row)) (fun i=>.int (row.getD i 0)) (fun σ=>∃o1,σ=[o1,some (.ref a)]) _ hD (by exact⟨_,rfl⟩) (YB ha) (fun i x σ' H2 hi s2 im hσ R S hR hS=>?_) (fun H1 s1 hD1=>?_)
 ·obtain⟨o1,rfl⟩:=hσ
  obtain rfl:=Xs im
  refine⟨_,rfl,_,_,rfl,rfl,_,rfl,a,_,rfl,.inr (Y0.of (s2 _ _ ha)),rfl,Xf row,_,rfl,?_⟩
  rw[Wb,if_pos rfl]
  by_cases m:row.getD i 0+1∈row
  ·rw[decide_eq_true m]
   exact iteF (hS (decide_eq_false fun z=>z m) _ _ ⟨_,rfl⟩ (ZR.refl _))
  ·rw[decide_eq_false m]
   exact iteT ⟨_,rfl,hR (decide_eq_true m) _ _ _ ⟨_,rfl⟩ (ZR.refl _) rfl⟩
 rw[Z2,BB.XZ 0 row (fun p=>decide (p+1∉row)) V.int]at hD1
 have hb:H1 D=some (.lst ((BB.bare row).map V.int)):=hD1
 have bl:=BB.bare_le row
 refine⟨_,rfl,_,rfl,_,rfl,D,rfl,⟨_,Zp.of hb⟩,fun D2 hD2=>?_⟩
 refine X4 ((BB.bare row).map V.int).length (by rw[Z2,sizeLine_eq];omega) (fun i=>.int ((BB.bare row).getD i 0+1)) (fun σ=>∃o1,σ=[o1]) _ hD2 (by exact⟨_,rfl⟩) (YA hb) (fun i x σ' H2 hi s2 im hσ R hR=>?_) (fun H3 s3 hD3=>?_)
 ·obtain⟨o1,rfl⟩:=hσ
  obtain rfl:=Xs im
  exact⟨_,rfl,_,_,rfl,rfl,hR _ _ _ ⟨_,rfl⟩ (ZR.refl _) rfl⟩
 ·rw[Z2,BB.VP 0 (BB.bare row) (fun p=>V.int (p+1))]at hD3
  refine⟨D,D2,_,_,rfl,rfl,s3 _ _ hb,hD3,by rw[Z2,Z2,sizeLine_eq];omega,fun p hp=>?_⟩
  have s4:=s3.trans (Z9 hp (.lst ((BB.bare row).map V.int++(BB.bare row).map fun p=>V.int (p+1))))
  refine⟨a,p,row,BB.bare row++(BB.bare row).map (· + 1),rfl,s4 _ _ (s1 _ _ ha),?_,r12,by rw[Z6,Z2];omega,fun r H' s h=>q r H' ((s1.trans s4).trans s) h⟩
  rw[Z5,ZB,Y5]
  rfl
end
end K97
namespace K97
open L2
abbrev scLf:Scope:={kind:=.function,names:=[(oS ".0",.local),(oS "ball",.cell),(oS "len",.globalImplicit),(oS "counts",.cell)],isGenerator:=false,isCoroutine:=false,more:=[]}
open BB (lens outs)
def spLf:Sp:=fun vs H Q _=>∃(a:Addr) (cs:List Int),vs=[.ref a]/\H a=some (.lst (cs.map V.int))/\cs.length<=12/\(∀c∈cs,0<=c/\c<=12)/\∀(r:Addr) (H':Hp),ZR H H'->H' r=some (.tup ((lens cs).map V.int))->Q (.ref r) H'
theorem head_rdL {K:W.Frag}{a:Addr}{ns:List Int}{H:Hp}{σ:L2.St}{Q:VK}(h0:σ[0]?=some (some (.ref a)))(ha:H a=some (.lst (ns.map V.int)))(q:Q (.int (ns.headD 0)) H) :
 tIf (fun σ H Q=>tVar 0 σ H fun x H'=>∃k,TruV K x H' k/\Q k H') (tOp (rIxL K) (tVar 0) (tC (.int 0))) (tC (.int 0)) σ H Q:=by
 refine⟨_,h0,!(ns.map V.int).isEmpty,.inl ⟨_,Zp.of ha,rfl⟩,?_⟩
 cases ns with
 |nil=>exact iteF q
 |cons p r=>exact iteT ⟨_,h0,a,_,_,_,rfl,rfl,Zp.of ha,(show atI ((p::r).map V.int) ((0:Nat):Int)=some (.int p) from Zj rfl),q⟩
def spLen:Sp:=fun vs H Q _=>∃(a:Addr) (row:List Int),vs=[.ref a]/\H a=some (.tup (row.map V.int))/\row.length<=12/\∀(r:Addr) (H':Hp),ZR H H'->H' r=some (.tup ((lens (outs row.length row)).map V.int))->Q (.ref r) H'
theorem S8:∀(n m:Nat) (row:List Int),row.length<=n->row.length<=m->outs n row=outs m row
 |0,0,_,_,_=>rfl
 |0,m+1,row,h,_=>by
  have e:row=[]:=Zc.mp (by omega)
  subst e
  unfold outs
  rw[if_pos rfl]
 |n+1,0,row,_,h=>by
  have e:row=[]:=Zc.mp (by omega)
  subst e
  unfold outs
  rw[if_pos rfl]
 |n+1,m+1,row,h1,h2=>by
  unfold outs
  by_cases e:row=[]
  ·rw[if_pos e,if_pos e]
  ·rw[if_neg e,if_neg e]
   have:=BB.UY e
   rw[S8 n m _ (by omega) (by omega)]
theorem outs_step {ms:List Int}(h:ms≠[]):outs ms.length ms=((ms.length:Int) - ((BB.peel ms).length:Int))::outs (BB.peel ms).length (BB.peel ms):=by
 have lt:=BB.UY h
 obtain⟨k,e⟩:∃k,ms.length=k+1:=⟨ms.length - 1,by omega⟩
 rw[S8 ms.length (k+1) ms (Nat.le_refl _) (by omega)]
 show(if ms=[] then _ else _)=_
 rw[if_neg h,S8 k (BB.peel ms).length _ (by omega) (Nat.le_refl _)]
theorem VW {c:TT}{tb u:TS}{D:Ends}{σ:L2.St}{H:Hp}(h:tWhile c tb {D with nx:=u D} σ H):tSeq (tWhile c tb) u D σ H:=h
def many (σ:L2.St)(H:Hp):Nat:=match σ with
 |[_,_,some (V.ref p),_]=>(match H p with | some (.tup xs)=>xs.length | _=>0)
 |_=>0
theorem many_at {H:Hp}{o1 o2 o3:Option V}{p:Addr}{ms:List Int}(h:H p=some (.tup (ms.map V.int))):many [o1,o2,some (.ref p),o3] H=ms.length:=by
 show(match H p with | some (.tup xs)=>xs.length | _=>0)=_
 rw[h]
 exact Z2 ..
section
variable {P:Program}{w:World}{K:W.Frag}{mg:Str->Option Value}{base:Heap}
theorem Sr {f:Addr}{fd:FuncData}(F:XH K "lengths_from" "lengths_from" Xb f fd)(nb:Nb2 mg)   :
 Y6 P w K mg base XB 1 f fd ["counts"] spLf:=by
 have nd:=VA.nd
 refine F.ok (k:=0) VA (fun vs H Q E h=>?_) (fun cdv A outer s H vs Q E hr h=>?_)
 ·obtain⟨a,cs,rfl,_⟩:=h
  rfl
 obtain⟨a,cs,rfl,ha,c12,cb,q⟩:=h
 refine⟨_,(Z7 (ZH (i:=1) nd rfl (Or.inl rfl) (TQ (Zo (pv 0) (fun _=>rfl)) (Zm Zk (pv 0) ZZ (fun _ _=>rfl)) ZZ))
(ZX (ZE (Zy Zz rfl nb.tuple boot_tuple (Z0 (UW (sc:=ZY Xb) (N0:=["counts","first"]) (N:=["counts"]) (js:=[0]) rfl rfl rfl (by exact⟨rfl,by decide +kernel,fun _ _=>rfl,fun _=>rfl,by decide +kernel,by decide +kernel,by decide +kernel,rfl,rfl,by decide,by decide +kernel,by decide +kernel⟩) rfl
(UZ rfl nb.range (Z0 ZZ (Z0 (ZG Zn (pv 1) ZZ) Z3)))
(fun _ _ _ _ _=>by exact YI)
(fun _ _ _ _ _=>by exact(ZJ (UQ K rfl) rfl nb.len PySem.boot_len (Z0
(YU (sc:=scLf) (N0:=["ball","counts"]) (N:=["ball"]) (js:=[0]) rfl rfl rfl (by constructor<;>first|decide +kernel|rfl) rfl
(TU K rfl (pv 1))
(fun _ _ _ _ _=>by exact(XW (Zr op_ge (pv 0) (pv 1) (Zf _))))
(fun _ _ _ _ _=>by exact(pv 0))) Z3)))) Z3))))),?_⟩
 refine head_rdL (K:=K) rfl ha ?_
 have hb:0<=cs.headD 0/\cs.headD 0<=12:=by
  cases cs with
  |nil=>exact⟨by decide,by decide⟩
  |cons c r=>exact cb c ZW
 refine⟨_,rfl,_,_,rfl,rfl,1,cs.headD 0+1,rfl,⟨by decide,by decide,by omega,by omega⟩,fun D hD=>?_⟩
 rw[show(cs.headD 0+1 - 1).toNat=(cs.headD 0).toNat by congr 1;omega]
 refine X4 (cs.headD 0).toNat (by rw[sizeLine_eq];omega) (fun j=>.int ((cs.filter fun c=>decide ((j:Int)<c)).length:Int)) (fun σ=>∃o1,σ=[o1,some (.ref a)]) (fun j H' x=>x=.int (1+(j:Int))) hD (by exact⟨_,rfl⟩) (fun j H2 _=>Wy 1 _ j H2 (ZR.refl _)) (fun j x σ' H2 hj s2 im hσ R hR=>?_) (fun H3 s3 hD3=>?_)
 ·obtain⟨o1,rfl⟩:=hσ
  subst im
  have ha2:=s2 _ _ ha
  refine⟨_,rfl,a,rfl,⟨_,Zp.of ha2⟩,fun D3 hD3=>?_⟩
  refine Yr (cs.map V.int).length (by rw[Z2,sizeLine_eq];omega) (fun k=>decide ((j:Int)<cs.getD k 0)) (fun k=>.int (cs.getD k 0)) (fun σ=>∃o2,σ=[o2,some (.int (1+(j:Int)))]) _ hD3 (by exact⟨_,rfl⟩) (YA ha2) (fun k y σ2 H4 hk s4 im4 hσ4 R4 S4 hR4 hS4=>?_) (fun H5 s5 hD5=>?_)
  ·obtain⟨o2,rfl⟩:=hσ4
   obtain rfl:=Xs im4
   refine⟨_,rfl,_,rfl,_,_,rfl,rfl,_,rfl,?_⟩
   by_cases c:(j:Int)<cs.getD k 0
   ·rw[decide_eq_true (by omega)]
    exact iteT ⟨_,rfl,hR4 (decide_eq_true c) _ _ _ ⟨_,rfl⟩ (ZR.refl _) rfl⟩
   ·rw[decide_eq_false (by omega)]
    exact iteF (hS4 (decide_eq_false c) _ _ ⟨_,rfl⟩ (ZR.refl _))
  ·rw[Z2,BB.XZ 0 cs (fun c=>decide ((j:Int)<c)) V.int]at hD5
   refine⟨D3,_,rfl,.inl (Zp.of hD5),hR _ _ _ ⟨_,rfl⟩ s5 ?_⟩
   rw[Z2]
 ·refine⟨D,_,rfl,.inl ⟨Zp.of hD3,fun l hl=>?_⟩⟩
  refine q l _ (s3.trans (Z9 hl _)) ?_
  rw[Z5]
  unfold lens
  rw[Y5]
  rfl
theorem ok_lengths {f:Addr}{fd:FuncData}(F:XH K "lengths" "lengths" Tk f fd)(nb:Nb2 mg)(h_peeled:YR P w K mg base 2 "peeled" ["row"] spPeel)(h_lengths_from:YR P w K mg base 1 "lengths_from" ["counts"] spLf)  :
 Y6 P w K mg base XB 3 f fd ["row"] spLen:=by
 have nd:=sc_lengths.nd
 refine F.ok (k:=2) sc_lengths (fun vs H Q E h=>?_) (fun cdv A outer s H vs Q E hr h=>?_)
 ·obtain⟨a,row,rfl,_⟩:=h
  rfl
 obtain⟨a,row,rfl,ha,r12,q⟩:=h
 refine⟨_,(Z7 (ZH (i:=1) nd rfl (Or.inl rfl) (Y2 Z3))
(Z7 (ZH (i:=2) nd rfl (Or.inl rfl) (pv 0))
(Z7 (WQ PassesOwn.never (Zo (pv 2) (fun _=>rfl))
(Z7 (ZH (i:=3) nd rfl (Or.inl rfl) (ZI h_peeled hr (Z0 (pv 2) Z3)))
(Z7 (YQ (XF Zu PySem.F.slot_list_append PySem.F.type_list_append Y8 (pv 1) (Z0 (ZG Yb (ZJ Zx rfl nb.len PySem.boot_len (Z0 (pv 2) Z3)) (ZJ Zx rfl nb.len PySem.boot_len (Z0 (pv 3) Z3))) Z3)))
(ZX (ZH (i:=2) nd rfl (Or.inl rfl) (pv 3))))))
(ZX (ZE (ZI h_lengths_from hr (Z0 (pv 1) Z3))))))),?_⟩
 refine⟨(by show 0<=sizeLine;decide),fun c hc=>?_⟩
 have s1:=Z9 hc (.lst [])
 refine⟨_,rfl,?_⟩
 unfold Wa
 dsimp only
 refine VW ?_
 refine WU (fun σ H'=>ZR H H'/\∃(p:Addr) (ms done:List Int) (o3:Option V),σ=[some (.ref a),some (.ref c),some (.ref p),o3]/\H' p=some (.tup (ms.map V.int))/\H' c=some (.lst (done.map V.int))/\done++outs ms.length ms=outs row.length row/\done.length+ms.length<=row.length/\∀z∈done,0<=z/\z<=12) many
  ⟨s1,a,row,[],_,rfl,s1 _ _ ha,Z5,rfl,by simp,fun z hz=>absurd hz ZC⟩ (fun σ H' hp=>?_) (fun σ H Q Q' hq h=>?_)
 ·obtain⟨sm,p,ms,done,o3,rfl,hms,hcd,eo,ln,bd⟩:=hp
  have mm:=many_at (o1:=some (V.ref a)) (o2:=some (V.ref c)) (o3:=o3) hms
  by_cases em:ms=[]
  ·subst em
   refine⟨_,rfl,false,.inr (.inl ⟨_,Y0.of hms,rfl⟩),iteF ?_⟩
   have ed:done=outs row.length row:=by rw[<-eo];simp[outs]
   refine⟨_,rfl,c,done,rfl,hcd,by omega,bd,fun r H2 s2 h2=>?_⟩
   rw[ed]at h2
   exact q r H2 (sm.trans s2) h2
  ·have lt:=BB.UY em
   refine⟨_,rfl,true,.inr (.inl ⟨_,Y0.of hms,by simp[em]⟩),iteT ?_⟩
   refine⟨_,rfl,p,ms,rfl,hms,by omega,fun r2 H2 s2 h2=>?_⟩
   refine⟨_,rfl,.inl ⟨rfl,_,Zp.of (s2 _ _ hcd)⟩,_,rfl,p,_,rfl,.inr (Y0.of (s2 _ _ hms)),_,rfl,r2,_,rfl,.inr (Y0.of h2),_,_,rfl,rfl,?_⟩
   refine⟨c,_,_,rfl,rfl,s2 _ _ hcd,by rw[Z2,sizeLine_eq];omega,?_⟩
   have r2c:r2≠c:=fun z=>by rw[z,s2 _ _ hcd]at h2;cases h2
   rw[Z2,Z2]
   have h3:(upd H2 c (.lst (done.map V.int++[.int ((ms.length:Int) - ((BB.peel ms).length:Int))]))) r2=some (.tup ((BB.peel ms).map V.int)):=by rw[ZS r2c];exact h2
   refine⟨_,rfl,⟨fun b o hb=>by rw[ZS (ZP hb hc)];exact s2 _ _ (sm _ _ hb),r2,BB.peel ms,done++[(ms.length:Int) - ((BB.peel ms).length:Int)],_,rfl,h3,by rw[Z5,ZB];rfl,?_,?_,fun z hz=>?_⟩,?_⟩
   ·rw[<-eo,outs_step em,List.append_assoc]
    rfl
   ·rw[Z6,ZN]
    omega
   ·rcases Zi.mp hz with w | w
    ·exact bd z w
    ·rw[ZD]at w
     omega
   ·show many [_,_,some (V.ref r2),_] _<_
    rw[many_at h3,mm]
    exact lt
 ·obtain⟨v,e,k,tv,q1⟩:=h
  exact⟨v,e,k,tv,hq _ _ q1⟩
end
end K97
namespace K97
open L2
theorem firsts_of {row:List Int}(up:row.Pairwise (· < ·)):(row.filter fun p=>decide (p - 1∉row))=(BB.blk row).map (·.1):=by
 cases row with
 |nil=>rfl
 |cons b r=>
  have u:=Zt.mp up
  exact BB.blk_firsts u.2 b u.1
theorem lasts_of {row:List Int}(up:row.Pairwise (· < ·)):(row.filter fun p=>decide (p+1∉row))=(BB.blk row).map fun q=>q.1+q.2 - 1:=by
 cases row with
 |nil=>rfl
 |cons b r=>
  have u:=Zt.mp up
  exact BB.blk_lasts u.2 b u.1
theorem WC:∀row:List Int,(BB.blk row).length<=row.length
 |[]=>Nat.le_refl _
 |p::r=>by
  have ih:=WC r
  unfold BB.blk
  split
  ·simp
  ·rename_i e
   rw[e]at ih
   split<;>simp only[ZM]at ih ⊢<;>omega
def So (H:Hp)(ys:List V)(bl:List (Int×Int)):Prop:=ys.length=bl.length/\∀(j:Nat) (b:Int×Int),bl[j]?=some b->∃p,ys[j]?=some (.ref p)/\H p=some (.tup [.int b.1,.int b.2])
theorem So.same {H H':Hp}{ys:List V}{bl:List (Int×Int)}(t:So H ys bl)(s:ZR H H'):So H' ys bl:=⟨t.1,fun j b e=>let⟨p,a,c⟩:=t.2 j b e;⟨p,a,s _ _ c⟩⟩
def Vr:Sp:=fun vs H Q _=>∃(a:Addr) (row:List Int),vs=[.ref a]/\H a=some (.tup (row.map V.int))/\row.Pairwise (· < ·)/\row.length<=12/\
 ∀(r:Addr) (ys:List V) (H':Hp),ZR H H'->H' r=some (.lst ys)->So H' ys (BB.blk row)->Q (.ref r) H'
section
variable {P:Program}{w:World}{K:W.Frag}{mg:Str->Option Value}{base:Heap}
theorem ok_blocks_in {f:Addr}{fd:FuncData}(F:XH K "blocks_in" "blocks_in" Xg f fd)(nb:Nb2 mg)   :
 Y6 P w K mg base XB 1 f fd ["row"] Vr:=by
 have nd:=Ua.nd
 refine F.ok (k:=0) Ua (fun vs H Q E h=>?_) (fun cdv A outer s H vs Q E hr h=>?_)
 ·obtain⟨a,row,rfl,_⟩:=h
  rfl
 obtain⟨a,row,rfl,ha,up,r12,q⟩:=h
 refine⟨_,(Z7 (VR (ii:=1) nd rfl (Or.inl rfl) (sc:=ZY Xg) (N0:=["row","firsts","lasts"]) (N:=["row"]) (js:=[0]) rfl rfl rfl (by constructor<;>first|decide +kernel|rfl) rfl
(X6 (pv 0))
(fun _ _ _ _ _=>by exact(XW (Zr (W5 K rfl) (ZG Yb (pv 0) ZZ) (pv 1) rfl)))
(fun _ _ _ _ _=>by exact(pv 0)))
(Z7 (VR (ii:=2) nd rfl (Or.inl rfl) (sc:=ZY Xg) (N0:=["row","firsts","lasts"]) (N:=["row"]) (js:=[0]) rfl rfl rfl (by constructor<;>first|decide +kernel|rfl) rfl
(X6 (pv 0))
(fun _ _ _ _ _=>by exact(XW (Zr (W5 K rfl) (ZG Zn (pv 0) ZZ) (pv 1) rfl)))
(fun _ _ _ _ _=>by exact(pv 0)))
(ZX (ZE (Vf (sc:=ZY Xg) (N0:=["row","firsts","lasts"]) (N:=[]) (js:=[]) rfl rfl rfl (by constructor<;>first|decide +kernel|rfl) rfl rfl
(pi_zip false rfl nb.zip (Z0 (pv 1) (Z0 (pv 2) Z3)))
(fun _ _ _ _ _=>by exact YI)
(fun _ _ _ _ _=>by exact(Yc (Z0 (pv 0) (Z0 (ZG Zn (ZG Yb (pv 1) (pv 0)) ZZ) Z3))))))))),?_⟩
 refine⟨_,rfl,a,rfl,⟨_,Y0.of (ha)⟩,fun D1 hD1=>?_⟩
 refine Yr (row.map V.int).length (by rw[Z2,sizeLine_eq];omega) (fun i=>decide (row.getD i 0 - 1∉row)) (fun i=>.int (row.getD i 0)) (fun σ=>∃o1,σ=[o1,some (.ref a)]) _ hD1 (by exact⟨_,rfl⟩) (YB (ha)) (fun i x σ' H2 hi s2 im hσ R S hR hS=>?_) (fun H1 s1 hD1=>?_)
 ·obtain⟨o1,rfl⟩:=hσ
  obtain rfl:=Xs im
  refine⟨_,rfl,_,_,rfl,rfl,_,rfl,a,_,rfl,.inr (Y0.of (s2 _ _ (ha))),rfl,Xf row,_,rfl,?_⟩
  rw[Wb,if_pos rfl]
  by_cases m:row.getD i 0 - 1∈row
  ·rw[decide_eq_true m]
   exact iteF (hS (decide_eq_false fun z=>z m) _ _ ⟨_,rfl⟩ (ZR.refl _))
  ·rw[decide_eq_false m]
   exact iteT ⟨_,rfl,hR (decide_eq_true m) _ _ _ ⟨_,rfl⟩ (ZR.refl _) rfl⟩
 rw[Z2,BB.XZ 0 row (fun p=>decide (p - 1∉row)) V.int]at hD1
 have hF:H1 D1=some (.lst (((BB.blk row).map (·.1)).map V.int)):=by rw[<-firsts_of up];exact hD1
 refine⟨_,rfl,a,rfl,⟨_,Y0.of (s1 _ _ ha)⟩,fun D2 hD2=>?_⟩
 refine Yr (row.map V.int).length (by rw[Z2,sizeLine_eq];omega) (fun i=>decide (row.getD i 0+1∉row)) (fun i=>.int (row.getD i 0)) (fun σ=>∃o1,σ=[o1,some (.ref a)]) _ hD2 (by exact⟨_,rfl⟩) (YB (s1 _ _ ha)) (fun i x σ' H2 hi s2 im hσ R S hR hS=>?_) (fun H3 s3 hD3=>?_)
 ·obtain⟨o1,rfl⟩:=hσ
  obtain rfl:=Xs im
  refine⟨_,rfl,_,_,rfl,rfl,_,rfl,a,_,rfl,.inr (Y0.of (s2 _ _ (s1 _ _ ha))),rfl,Xf row,_,rfl,?_⟩
  rw[Wb,if_pos rfl]
  by_cases m:row.getD i 0+1∈row
  ·rw[decide_eq_true m]
   exact iteF (hS (decide_eq_false fun z=>z m) _ _ ⟨_,rfl⟩ (ZR.refl _))
  ·rw[decide_eq_false m]
   exact iteT ⟨_,rfl,hR (decide_eq_true m) _ _ _ ⟨_,rfl⟩ (ZR.refl _) rfl⟩
 rw[Z2,BB.XZ 0 row (fun p=>decide (p+1∉row)) V.int]at hD3
 have hL:H3 D2=some (.lst (((BB.blk row).map fun q=>q.1+q.2 - 1).map V.int)):=by rw[<-lasts_of up];exact hD3
 have hF3:=s3 _ _ hF
 have bl:=WC row
 refine⟨_,rfl,_,rfl,D1,D2,_,_,rfl,Zp.of hF3,Zp.of hL,fun D hD=>?_⟩
 have im:=Us (K:=K) hF3 hL
 have hn:min (((BB.blk row).map (·.1)).map V.int).length (((BB.blk row).map fun q=>q.1+q.2 - 1).map V.int).length=(BB.blk row).length:=by simp
 rw[hn]at im
 refine Wx (BB.blk row).length (by rw[sizeLine_eq];omega) (fun i=>[.int ((BB.blk row).getD i (0,0)).1,.int ((BB.blk row).getD i (0,0)).2]) (fun σ=>∃o1 o2,σ=[o1,o2]) _ hD ⟨_,_,rfl⟩ im (fun i x σ' H4 hi s4 im' hσ R hR=>?_) (fun H' ys s' hD' ly hy=>?_)
 ·obtain⟨o1,o2,rfl⟩:=hσ
  obtain⟨r,y,z,rfl,hr',hy,hz'⟩:=im'
  rw[ZQ,ZQ,Z1 hi]at hy hz'
  obtain rfl:V.int (BB.blk row)[i].1=y:=Option.some.inj hy
  obtain rfl:V.int ((BB.blk row)[i].1+(BB.blk row)[i].2 - 1)=z:=Option.some.inj hz'
  refine⟨r,_,rfl,Y0.of hr',rfl,_,_,rfl,_,_,rfl,rfl,?_⟩
  refine⟨_,rfl,_,rfl,_,rfl,_,_,rfl,rfl,_,_,rfl,rfl,(by show 2<=sizeLine;decide),fun p hp=>?_⟩
  refine hR _ p _ ⟨_,_,rfl⟩ (Z9 hp _) ?_
  rw[Z5,Z4,Z1 hi]
  show some (HO.tup [V.int (BB.blk row)[i].1,V.int ((BB.blk row)[i].1+(BB.blk row)[i].2 - 1 - (BB.blk row)[i].1+1)])=some (HO.tup [V.int (BB.blk row)[i].1,V.int (BB.blk row)[i].2])
  rw[show(BB.blk row)[i].1+(BB.blk row)[i].2 - 1 - (BB.blk row)[i].1+1=(BB.blk row)[i].2 by omega]
 ·refine q D ys H' (s1.trans (s3.trans s')) hD' ⟨ly,fun j b e=>?_⟩
  have jl:j<ys.length:=by rw[ly];exact(List.getElem?_eq_some_iff.mp e).1
  obtain⟨p,e1,e2⟩:=hy j _ (Z1 jl)
  refine⟨p,by rw[Z1 jl,e1],?_⟩
  rw[Z4,e]at e2
  exact e2
end
end K97
namespace K97
open L2
def Ls (H:Hp)(xs:List V)(R:List (List Int)):Prop:=xs.length=R.length/\∀(j:Nat) (r:List Int),R[j]?=some r->∃p,xs[j]?=some (.ref p)/\H p=some (.lst (r.map V.int))
theorem Ls.keep {H H':Hp}{xs:List V}{R:List (List Int)}(t:Ls H xs R)(k:∀(j:Nat) p zs,xs[j]?=some (.ref p)->H p=some (.lst zs)->H' p=some (.lst zs)):Ls H' xs R:=⟨t.1,fun j r e=>let⟨p,a,c⟩:=t.2 j r e;⟨p,a,k j p _ a c⟩⟩
theorem Ls.same {H H':Hp}{xs:List V}{R:List (List Int)}(t:Ls H xs R)(s:ZR H H'):Ls H' xs R:=t.keep fun _ _ _ _ c=>s _ _ c
theorem Ls.snoc {H:Hp}{xs:List V}{R:List (List Int)}{p:Addr}{r:List Int}(t:Ls H xs R)(h:H p=some (.lst (r.map V.int))):Ls H (xs++[.ref p]) (R++[r]):=by
 refine⟨by rw[Z6,Z6,t.1];rfl,fun j c e=>?_⟩
 by_cases z:j<R.length
 ·rw[ZL z]at e
  obtain⟨q,e1,e2⟩:=t.2 j c e
  exact⟨q,by rw[ZL (by rw[t.1];exact z)];exact e1,e2⟩
 ·have jl:j<(R++[r]).length:=(List.getElem?_eq_some_iff.mp e).1
  have jj:j=R.length:=by rw[Z6,ZN]at jl;omega
  subst jj
  rw[ZU (Nat.le_refl _),Nat.sub_self]at e
  cases e
  exact⟨p,by rw[<-t.1,ZU (Nat.le_refl _),Nat.sub_self];rfl,h⟩
theorem Ls.get {H:Hp}{xs:List V}{R:List (List Int)}(t:Ls H xs R){j:Nat}(h:j<R.length):∃p,xs[j]?=some (.ref p)/\H p=some (.lst ((R.getD j []).map V.int)):=by
 obtain⟨p,e1,e2⟩:=t.2 j _ (Z1 h)
 exact⟨p,e1,by rw[Z4,Z1 h];exact e2⟩
def gapN (c:Nat)(bl:List (Int×Int))(j:Nat):Nat:=match bl[j+1]? with
 |some q=>min c (q.1 - (bl.getD j (0,0)).1 - (bl.getD j (0,0)).2).toNat
 |none=>c
def two (c:Nat)(bl:List (Int×Int))(j:Nat):List (List Int):=[BB.rg (bl.getD j (0,0)).1 (bl.getD j (0,0)).2.toNat,BB.rg ((bl.getD j (0,0)).1+(bl.getD j (0,0)).2) (gapN c bl j)]
def prI (c:Nat)(bl:List (Int×Int))(i:Nat):List (List Int):=(List.range i).flatMap (two c bl)
theorem prI_succ (c:Nat)(bl:List (Int×Int))(i:Nat):prI c bl (i+1)=prI c bl i++two c bl i:=by
 unfold prI
 rw[XU,XS]
 simp
theorem prI_len (c:Nat)(bl:List (Int×Int)):∀i,(prI c bl i).length=2*i
 |0=>rfl
 |i+1=>by rw[prI_succ,Z6,prI_len c bl i];show 2*i+2=_;omega
theorem prI_all (c:Nat):∀bl:List (Int×Int),prI c bl bl.length=BB.pr c bl
 |[]=>rfl
 |[(f,m)]=>by
  show(List.range 1).flatMap _=_
  rw[show List.range 1=[0] from rfl]
  rfl
 |(f,m)::(f',m')::r=>by
  have ih:=prI_all c ((f',m')::r)
  unfold prI at ih ⊢
  rw[show((f,m)::(f',m')::r).length=((f',m')::r).length+1 from rfl,Yu,Xj,flatMap_map]
  show two c ((f,m)::(f',m')::r) 0++(List.range ((f',m')::r).length).flatMap (two c ((f',m')::r))=_
  rw[ih]
  rfl
theorem cut_one (xs:List V)(k:Nat):cutV xs (some (k:Int)) (some ((k+1:Nat):Int))=(xs.drop k).take 1:=by
 unfold cutV
 rw[HT.sIx_nat,HT.sIx_nat]
 by_cases h:k<xs.length
 ·rw[W9 (by omega),W9 (by omega),Nat.add_sub_cancel_left]
 ·rw[min_eq_right (by omega),min_eq_right (by omega),Nat.sub_self,take_zero,VZ (by omega),take_nil]
theorem end_is {bl:List (Int×Int)}{i N:Nat}{m:Int}(hm:m∈((bl.getD i (0,0)).1+(bl.getD i (0,0)).2+(N:Int)+1)::((bl.map (·.1)).drop (i+1)).take 1)(hle:∀x∈((bl.getD i (0,0)).1+(bl.getD i (0,0)).2+(N:Int)+1)::((bl.map (·.1)).drop (i+1)).take 1,m<=x) :
 (m - ((bl.getD i (0,0)).1+(bl.getD i (0,0)).2)).toNat=gapN (N+1) bl i:=by
 unfold gapN
 cases e:bl[i+1]? with
 |none=>
  have z:((bl.map (·.1)).drop (i+1)).take 1=[]:=by
   rw[VZ (by rw[Z2];exact List.getElem?_eq_none_iff.mp e),take_nil]
  rw[z,ZD]at hm
  show _=N+1
  omega
 |some q=>
  have il:=(List.getElem?_eq_some_iff.mp e).1
  have z:((bl.map (·.1)).drop (i+1)).take 1=[q.1]:=by
   rw[List.drop_eq_getElem_cons (by rw[Z2];exact il)]
   have:(bl.map (·.1))[i+1]'(by rw[Z2];exact il)=q.1:=by
    rw[getElem_map]
    rw[Z1 il]at e
    rw[Option.some.inj e]
   rw[this]
   rfl
  rw[z]at hm hle
  have h1:=hle _ ZW
  have h2:=hle q.1 (by simp)
  show _=min (N+1) (q.1 - (bl.getD i (0,0)).1 - (bl.getD i (0,0)).2).toNat
  rcases ZV.mp hm with w | w
  ·omega
  ·have:=ZD.mp w
   omega
def spRuns:Sp:=fun vs H Q _=>∃(a:Addr) (row:List Int),vs=[.ref a]/\H a=some (.tup (row.map V.int))/\row.Pairwise (· < ·)/\row.length<=12/\(∀p∈row,-4000000000<=p/\p<=4000000000)/\
 ∀(r:Addr) (xs:List V) (H':Hp),ZR H H'->H' r=some (.lst xs)->Ls H' xs (BB.pr (row.length+1) (BB.blk row))->Q (.ref r) H'
def spFs:Sp:=fun vs H Q _=>∃(a:Addr) (xs:List V) (R:List (List Int)),vs=[.ref a]/\H a=some (.lst xs)/\Ls H xs R/\BB.fs R+1<R.length/\(R.getD (BB.fs R) []).length<=(R.getD (BB.fs R+1) []).length/\
 ∀H',ZR H H'->Q (.int (BB.fs R:Int)) H'
theorem tps_get {H:Hp}{xs:List V}{bl:List (Int×Int)}(t:So H xs bl){i:Nat}{x:V}(h:xs[i]?=some x):∃(p:Addr) (b:Int×Int),x=.ref p/\bl[i]?=some b/\H p=some (.tup [.int b.1,.int b.2]):=by
 have il:i<bl.length:=by rw[<-t.1];exact(List.getElem?_eq_some_iff.mp h).1
 obtain⟨p,e1,e2⟩:=t.2 i _ (Z1 il)
 rw[h]at e1
 exact⟨p,_,Option.some.inj e1,Z1 il,e2⟩
theorem getD_at {l:List (Int×Int)}{k:Nat}{b:Int×Int}(h:l[k]?=some b):l.getD k (0,0)=b:=by rw[Z4,h];rfl
theorem snoc2 {α:Type}(l:List α)(x y:α):l++[x,y]=(l++[x])++[y]:=by simp
theorem app_run {H2 H:Hp}{U p l:Addr}{zs:List V}{R:List (List Int)}{r:List Int}{o:HO}(sm:ZR H2 H)(u2:H2 U=none)(hz:H U=some (.lst zs))(ls:Ls H zs R)(hp:H p=none)(hl:(upd H p o) l=none) :
 (upd (upd H p o) l (.lst (r.map V.int))) U=some (.lst zs)/\ZR H2 (upd (upd (upd H p o) l (.lst (r.map V.int))) U (.lst (zs++[.ref l])))/\(upd (upd (upd H p o) l (.lst (r.map V.int))) U (.lst (zs++[.ref l]))) U=some (.lst (zs++[.ref l]))/\
 Ls (upd (upd (upd H p o) l (.lst (r.map V.int))) U (.lst (zs++[.ref l]))) (zs++[.ref l]) (R++[r]):=by
 have k:ZR H (upd (upd H p o) l (.lst (r.map V.int))):=(Z9 hp o).trans (Z9 hl _)
 have lU:l≠U:=fun z=>by
  rw[z,Z9 hp o _ _ hz]at hl
  cases hl
 refine⟨k _ _ hz,fun c o' e=>?_,Z5,?_⟩
 ·rw[ZS (ZP e u2)]
  exact k _ _ (sm _ _ e)
 ·refine Ls.snoc (⟨ls.1,fun j r' e=>?_⟩:Ls _ zs R) (by rw[ZS lU,Z5])
  obtain⟨q,e1,e2⟩:=ls.2 j r' e
  refine⟨q,e1,?_⟩
  rw[ZS (fun z=>?_)]
  ·exact k _ _ e2
  ·rw[z,hz]at e2
   have e3:zs=r'.map V.int:=HO.lst.inj (Option.some.inj e2)
   rw[e3,ZQ]at e1
   cases e4:r'[j]? with
   |none=>rw[e4]at e1;cases e1
   |some x=>rw[e4]at e1;cases e1
structure NbE (mg:Str->Option Value):Prop extends Nb3 mg where
 enum:mg "enumerate" = none
section
variable {P:Program}{w:World}{K:W.Frag}{mg:Str->Option Value}{base:Heap}
theorem ok_runs_in {f:Addr}{fd:FuncData}(F:XH K "runs_in" "runs_in" U7 f fd)(nb:NbE mg)(h_blocks_in:YR P w K mg base 1 "blocks_in" ["row"] Vr)  :
 Y6 P w K mg base XB 2 f fd ["row"] spRuns:=by
 have nd:=sc_runs_in.nd
 refine F.ok (k:=1) sc_runs_in (fun vs H Q E h=>?_) (fun cdv A outer s H vs Q E hr h=>?_)
 ·obtain⟨a,row,rfl,_⟩:=h
  rfl
 obtain⟨a,row,rfl,ha,up,r12,bd,q⟩:=h
 refine⟨_,(Z7 (ZH (i:=1) nd rfl (Or.inl rfl) (ZI h_blocks_in hr (Z0 (pv 0) Z3)))
(Z7 (ps_comp2 (ii:=2) nd rfl (Or.inl rfl) (sc:=ZY U7) (N0:=["row","found","starts","runs","at","first","many","behind","end"]) (N:=[]) (js:=[]) rfl rfl rfl (by constructor<;>first|decide +kernel|rfl) rfl rfl
(XN (pv 1))
(fun _ _ _ _ _=>by exact YI)
(fun _ _ _ _ _=>by exact(pv 0)))
(Z7 (ZH (i:=3) nd rfl (Or.inl rfl) (Y2 Z3))
(Z7 (XV PassesOwn.never rfl (pi_enum rfl nb.enum (Z0 (pv 1) Z3)) (Xt rfl (Ze (Zl (i:=4) nd rfl (Or.inl rfl)) (Ze (Xt rfl (Ze (Zl (i:=5) nd rfl (Or.inl rfl)) (Ze (Zl (i:=6) nd rfl (Or.inl rfl)) X9))) X9)))
(Z7 (ZH (i:=7) nd rfl (Or.inl rfl) (ZG Zn (pv 5) (pv 6)))
(Z7 (ZH (i:=8) nd rfl (Or.inl rfl) (ZJ (call_minL rfl) rfl nb.min boot_min (Z0 (ZG Wo (Y2 (Z0 (ZG Zn (ZG Zn (pv 7) (ZJ Zx rfl nb.len PySem.boot_len (Z0 (pv 0) Z3))) ZZ) Z3)) (Ym Xc (pv 2) (X8 (ZG Zn (pv 4) ZZ)) (X8 (ZG Zn (pv 4) ZZ)))) Z3)))
(Z7 (YQ (XF Zu PySem.F.slot_list_append PySem.F.type_list_append Y8 (pv 3) (Z0 (Zy (Xm rfl) rfl nb.list boot_list (Z0 (Zy Ww rfl nb.range boot_range (Z0 (pv 5) (Z0 (pv 7) Z3))) Z3)) Z3)))
(ZX (YQ (XF Zu PySem.F.slot_list_append PySem.F.type_list_append Y8 (pv 3) (Z0 (Zy (Xm rfl) rfl nb.list boot_list (Z0 (Zy Ww rfl nb.range boot_range (Z0 (pv 7) (Z0 (pv 8) Z3))) Z3)) Z3))))))))
(ZX (ZE (pv 3))))))),?_⟩
 refine⟨_,rfl,a,row,rfl,ha,up,r12,fun rf ys H1 s1 h1 tp=>?_⟩
 have bal:=BB.Tr row
 have bln:=WC row
 have ly:=tp.1
 generalize hbl:BB.blk row=bl at tp bal bln ly q
 -- where they start
 refine⟨_,rfl,rf,rfl,⟨_,Zp.of h1⟩,fun D hD=>?_⟩
 refine X4 ys.length (by rw[sizeLine_eq];omega) (fun i=>.int (bl.getD i (0,0)).1) (fun σ=>∃o1 o2,σ=[o1,o2]) _ hD (by exact⟨_,_,rfl⟩) (YA h1) (fun i z σ' H2 hi s2 im hσ R hR=>?_) (fun H2 s2 hD2=>?_)
 ·obtain⟨o1,o2,rfl⟩:=hσ
  obtain⟨p,b,rfl,eb,hp⟩:=tps_get tp im
  exact⟨p,_,rfl,Y0.of (s2 _ _ hp),rfl,_,_,rfl,_,_,rfl,rfl,_,rfl,hR _ _ _ ⟨_,_,rfl⟩ (ZR.refl _) (by rw[getD_at eb])⟩
 have eD:H2 D=some (.lst ((bl.map (·.1)).map V.int)):=by
  rw[hD2,ly,BB.VP (0,0) bl (fun q=>V.int q.1),Y5]
  rfl
 have S2:=s1.trans s2
 have h12:=s2 _ _ h1
 have tp2:=tp.same s2
 refine⟨(by show 0<=sizeLine;decide),fun U hU=>?_⟩
 have sU:=Z9 hU (.lst [])
 refine⟨_,rfl,rf,_,rfl,Zp.of (sU _ _ h12),?_⟩
 refine for_items ys.length (fun i H3 v=>∃p x,v=.ref p/\H3 p=some (.tup [.int i,x])/\ys[i]?=some x) (fun i σ H'=>∃o4 o5 o6 o7 o8 zs,σ=[some (.ref a),some (.ref rf),some (.ref D),some (.ref U),o4,o5,o6,o7,o8]/\ZR H2 H'/\H' U=some (.lst zs)/\Ls H' zs (prI (row.length+1) bl i)) ⟨_,_,_,_,_,[],rfl,sU,Z5,rfl,fun j r e=>by cases e⟩ (fun i σ H' hi hp=>?_) (fun i x σ H' H4 hi hp s4 im=>?_) (fun σ H' hp=>?_)
 ·obtain⟨o4,o5,o6,o7,o8,zs,rfl,sm,_⟩:=hp
  exact items_enum (sm _ _ h12) i H' (ZR.refl _)
 ·obtain⟨o4,o5,o6,o7,o8,zs,rfl,sm,hz,ls⟩:=hp
  obtain⟨p,v,rfl,hp,hv⟩:=im
  obtain⟨pb,b,rfl,eb,hpb⟩:=tps_get tp2 hv
  have S4:=sm.trans s4
  have bm:b∈bl:=Zh eb
  obtain⟨b1,b2,b3⟩:=bal.1 b bm
  have bb:=bd _ b1
  have gb:=getD_at eb
  refine⟨p,_,rfl,Y0.of hp,rfl,_,_,rfl,_,_,rfl,pb,_,rfl,Y0.of (S4 _ _ hpb),rfl,_,_,rfl,_,_,rfl,rfl,rfl,?_⟩
  -- behind,and the end
  refine⟨_,rfl,_,rfl,_,_,rfl,rfl,?_⟩
  refine⟨_,rfl,_,rfl,a,_,rfl,.inr (Y0.of (S4 _ _ (S2 _ _ ha))),_,_,rfl,rfl,_,_,rfl,rfl,(by show 1<=sizeLine;decide),fun l1 hl1=>?_⟩
  have ml:(row.map V.int).length=row.length:=Z2 ..
  have k1:=Z9 hl1 (.lst [.int (b.1+b.2+((row.map V.int).length:Int)+1)])
  refine⟨_,rfl,_,rfl,_,_,rfl,rfl,_,rfl,_,rfl,_,_,rfl,rfl,_,rfl,D,_,rfl,Zp.of (k1 _ _ (S4 _ _ eD)),fun l2 hl2=>?_⟩
  have ec:cutV ((bl.map (·.1)).map V.int) (some ((i:Int)+1)) (some ((i:Int)+2))=(((bl.map (·.1)).drop (i+1)).take 1).map V.int:=by
   rw[show((i:Int)+1)=((i+1:Nat):Int) by omega,show((i:Int)+2)=((i+1+1:Nat):Int) by omega,cut_one,map_take,map_drop]
  rw[ec]
  have k2:=Z9 hl2 (.lst ((((bl.map (·.1)).drop (i+1)).take 1).map V.int))
  have f1:=k2 _ _ (show(upd H4 l1 (.lst [.int (b.1+b.2+((row.map V.int).length:Int)+1)])) l1=some (.lst [.int (b.1+b.2+((row.map V.int).length:Int)+1)]) from Z5)
  refine⟨l1,l2,_,_,rfl,rfl,f1,Z5,by rw[sizeLine_eq,Z2 (f:=V.int) (as:=((bl.map (·.1)).drop (i+1)).take 1),Za];show 1+_<=_;omega,fun L hL=>?_⟩
  have k3:=Z9 hL (.lst ([.int (b.1+b.2+((row.map V.int).length:Int)+1)]++(((bl.map (·.1)).drop (i+1)).take 1).map V.int))
  refine⟨L,(b.1+b.2+((row.map V.int).length:Int)+1)::((bl.map (·.1)).drop (i+1)).take 1,rfl,Zp.of Z5,by simp,fun m hm hle=>?_⟩
  have k5:=k1.trans (k2.trans k3)
  have S5:=S4.trans k5
  have hz5:=k5 _ _ (s4 _ _ hz)
  have ls5:=(ls.same s4).same k5
  generalize upd (upd (upd H4 l1 (.lst [.int (b.1+b.2+((row.map V.int).length:Int)+1)])) l2 (.lst ((((bl.map (·.1)).drop (i+1)).take 1).map V.int))) L (.lst ([.int (b.1+b.2+((row.map V.int).length:Int)+1)]++(((bl.map (·.1)).drop (i+1)).take 1).map V.int))=H5 at S5 hz5 ls5 ⊢
  rw[ml]at hm hle
  have eN:=end_is (bl:=bl) (i:=i) (N:=row.length) (m:=m) (by rw[gb];exact hm) (by rw[gb];exact hle)
  rw[gb]at eN
  have m1:=hle _ ZW
  have m0:-4000000000<=m:=by
   rcases ZV.mp hm with w | w
   ·omega
   ·have w2:=List.mem_of_mem_drop (List.mem_of_mem_take w)
    obtain⟨b',hb',rfl⟩:=YC.mp w2
    exact(bd _ (bal.1 b' hb').1).1
  have g13:gapN (row.length+1) bl i<=13:=by omega
  have lp:=prI_len (row.length+1) bl i
  have lzs:zs.length=2*i:=by rw[ls.1,lp]
  -- the run of U0
  refine⟨_,rfl,.inl ⟨rfl,_,Zp.of hz5⟩,_,rfl,_,rfl,_,_,rfl,fun p1 hp1=>?_⟩
  refine⟨p1,_,_,rfl,Z5,⟨by omega,by omega,by omega,by omega⟩,by rw[sizeLine_eq];omega,fun l3 hl3=>?_⟩
  rw[show(b.1+b.2 - b.1).toNat=b.2.toNat by congr 1;omega]
  obtain⟨a1,a2,a3,a4⟩:=app_run (r:=BB.rg b.1 b.2.toNat) S5 hU hz5 ls5 hp1 hl3
  refine⟨U,_,_,rfl,rfl,a1,by rw[sizeLine_eq];omega,?_⟩
  -- the run of empty boxes
  refine⟨_,rfl,.inl ⟨rfl,_,Zp.of a3⟩,_,rfl,_,rfl,_,_,rfl,fun p2 hp2=>?_⟩
  refine⟨p2,_,_,rfl,Z5,⟨by omega,by omega,by omega,by omega⟩,by rw[sizeLine_eq];omega,fun l4 hl4=>?_⟩
  rw[eN]
  obtain⟨c1,c2,c3,c4⟩:=app_run (r:=BB.rg (b.1+b.2) (gapN (row.length+1) bl i)) a2 hU a3 a4 hp2 hl4
  refine⟨U,_,_,rfl,rfl,c1,by rw[Z6,sizeLine_eq];show _+1+1<=_;omega,?_⟩
  refine⟨_,_,_,_,_,_,rfl,c2,c3,?_⟩
  rw[prI_succ]
  unfold two
  rw[gb,snoc2]
  exact c4
 ·obtain⟨o4,o5,o6,o7,o8,zs,rfl,sm,hz,ls⟩:=hp
  rw[ly,prI_all]at ls
  exact⟨_,rfl,q U zs H' (S2.trans sm) hz ls⟩
end
end K97
namespace K97
open L2
theorem Ls.drop {H:Hp}{xs:List V}{R:List (List Int)}(t:Ls H xs R)(k:Nat):Ls H (xs.drop k) (R.drop k):=by
 refine⟨by rw[Yz,Yz,t.1],fun j r e=>?_⟩
 rw[XA]at e
 obtain⟨p,e1,e2⟩:=t.2 _ r e
 exact⟨p,by rw[XA];exact e1,e2⟩
theorem Ls.take {H:Hp}{xs:List V}{R:List (List Int)}(t:Ls H xs R)(k:Nat):Ls H (xs.take k) (R.take k):=by
 refine⟨by rw[Za,Za,t.1],fun j r e=>?_⟩
 by_cases c:j<k
 ·rw[List.getElem?_take_of_lt c]at e
  obtain⟨p,e1,e2⟩:=t.2 _ r e
  exact⟨p,by rw[List.getElem?_take_of_lt c];exact e1,e2⟩
 ·rw[Zd (by rw[Za];omega)]at e
  cases e
theorem Ls.app {H:Hp}{xs ys:List V}{R S:List (List Int)}(t:Ls H xs R)(u:Ls H ys S):Ls H (xs++ys) (R++S):=by
 refine⟨by rw[Z6,Z6,t.1,u.1],fun j r e=>?_⟩
 by_cases z:j<R.length
 ·rw[ZL z]at e
  obtain⟨p,e1,e2⟩:=t.2 j r e
  exact⟨p,by rw[ZL (by rw[t.1];exact z)];exact e1,e2⟩
 ·rw[ZU (by omega)]at e
  obtain⟨p,e1,e2⟩:=u.2 _ r e
  exact⟨p,by rw[ZU (by rw[t.1];omega),t.1];exact e1,e2⟩
theorem Ls.one {H:Hp}{p:Addr}{r:List Int}(h:H p=some (.lst (r.map V.int))):Ls H [.ref p] [r]:=Ls.snoc (xs:=[]) (R:=[]) ⟨rfl,fun j r e=>by cases e⟩ h
def stj (σ:L2.St):Int:=match σ[1]? with
 |some (some (V.int x))=>x
 |_=>0
def spWo:Sp:=fun vs H Q _=>∃(a:Addr) (xs:List V) (pre post:List (List Int)) (s g:List Int),vs=[.ref a,.int (pre.length:Int)]/\H a=some (.lst xs)/\Ls H xs (pre++s::g::post)/\(pre++s::g::post).length<=1000/\(∀r∈pre++s::g::post,r.length<=1000)/\
 ∀(r:Addr) (ys:List V) (H':Hp),ZR H H'->H' r=some (.lst ys)->Ls H' ys (BB.wo (pre++s::g::post) pre.length)->Q (.ref r) H'
section
variable {P:Program}{w:World}{K:W.Frag}{mg:Str->Option Value}{base:Heap}
theorem ok_first_short {f:Addr}{fd:FuncData}(F:XH K "first_short" "first_short" V4 f fd)(nb:NbE mg)   :
 Y6 P w K mg base XB 1 f fd ["runs"] spFs:=by
 have nd:=Vp.nd
 refine F.ok (k:=0) Vp (fun vs H Q E h=>?_) (fun cdv A outer s H vs Q E hr h=>?_)
 ·obtain⟨a,xs,R,rfl,_⟩:=h
  rfl
 obtain⟨a,xs,R,rfl,ha,ls,l1,l2,q⟩:=h
 refine⟨_,(Z7 (ZH (i:=1) nd rfl (Or.inl rfl) ZZ)
(Z7 (WQ PassesOwn.never (Zr op_gt (ZJ Zx rfl nb.len PySem.boot_len (Z0 (Zm Zk (pv 0) (pv 1) (fun _ _=>rfl)) Z3)) (ZJ Zx rfl nb.len PySem.boot_len (Z0 (Zm Zk (pv 0) (ZG Zn (pv 1) ZZ) (fun _ _=>rfl)) Z3)) (Zf _))
(ZX (Ta (i:=1) nd rfl (Or.inl rfl) ZZ ip_add)))
(ZX (ZE (pv 1))))),?_⟩
 refine WU (fun σ H'=>ZR H H'/\∃j:Nat,σ=[some (.ref a),some (.int (j:Int))]/\j<=BB.fs R) (fun σ _=>((BB.fs R:Int) - stj σ).toNat) ⟨ZR.refl H,0,rfl,Yp _⟩ (fun σ H1 hp=>?_) (fun σ H Q Q' hq h=>?_)
 ·obtain⟨sm,j,rfl,hj⟩:=hp
  obtain⟨p1,e1,f1⟩:=ls.get (j:=j) (by omega)
  obtain⟨p2,e2,f2⟩:=ls.get (j:=j+1) (by omega)
  refine⟨_,rfl,_,rfl,a,_,_,_,rfl,rfl,Zp.of (sm _ _ ha),Zj e1,p1,_,rfl,.inl (Zp.of (sm _ _ f1)),?_⟩
  refine⟨_,rfl,_,rfl,_,_,rfl,rfl,a,_,_,_,rfl,rfl,Zp.of (sm _ _ ha),(show atI xs ((j:Int)+1)=some (.ref p2) by rw[show((j:Int)+1)=((j+1:Nat):Int) by omega];exact Zj e2),p2,_,rfl,.inl (Zp.of (sm _ _ f2)),_,_,rfl,rfl,_,rfl,?_⟩
  rw[Z2,Z2]
  by_cases c:j<BB.fs R
  ·have:=BB.fs_lt R j c
   rw[decide_eq_true (by omega)]
   refine iteT ?_
   refine⟨_,rfl,_,_,rfl,rfl,⟨sm,j+1,by rw[show((j+1:Nat):Int)=(j:Int)+1 by omega];rfl,c⟩,?_⟩
   show((BB.fs R:Int) - ((j:Int)+1)).toNat<((BB.fs R:Int) - (j:Int)).toNat
   omega
  ·have ej:j=BB.fs R:=by omega
   subst ej
   rw[decide_eq_false (by omega)]
   exact iteF ⟨_,rfl,q H1 sm⟩
 ·obtain⟨v1,x1,v2,x2,a1,b1,c1,d1,x3,x4,x5,x6,p1,y1,x7,x8,h⟩:=h
  obtain⟨v3,x9,v4,xa,i1,i2,xb,xc,a2,b2,c2,d2,xd,xe,xf,xg,p2,y2,xh,xi,j1,j2,xj,xk,k,xl,h⟩:=h
  exact⟨v1,x1,v2,x2,a1,b1,c1,d1,x3,x4,x5,x6,p1,y1,x7,x8,v3,x9,v4,xa,i1,i2,xb,xc,a2,b2,c2,d2,xd,xe,xf,xg,p2,y2,xh,xi,j1,j2,xj,xk,k,xl,hq _ _ h⟩
theorem Ss {f:Addr}{fd:FuncData}(F:XH K "without_wave" "without_wave" Wp f fd)(nb:NbE mg)   :
 Y6 P w K mg base XB 1 f fd ["runs","at"] spWo:=by
 have nd:=VB.nd
 refine F.ok (k:=0) VB (fun vs H Q E h=>?_) (fun cdv A outer s H vs Q E hr h=>?_)
 ·obtain⟨a,xs,pre,post,s,g,rfl,_⟩:=h
  rfl
 obtain⟨a,xs,pre,post,s,g,rfl,ha,ls,rl,big,q⟩:=h
 refine⟨_,(Z7 (YX (Zr Vd (pv 1) ZZ (Zf _))
(ZX (ZE (Ym Xc (pv 0) (X8 ZZ) XO)))
Zg)
(Z7 (ZH (i:=2) nd rfl (Or.inl rfl) (Ym Xc (Zm Zk (pv 0) (ZG Zn (pv 1) ZZ) (fun _ _=>rfl)) (X8 (ZJ Zx rfl nb.len PySem.boot_len (Z0 (Zm Zk (pv 0) (pv 1) (fun _ _=>rfl)) Z3))) XO))
(ZX (ZE (ZG Wo (ZG Wo (Ym Xc (pv 0) XO (X8 (ZG Yb (pv 1) ZZ))) (Y2 (Z0 (ZG Wo (Zm Zk (pv 0) (ZG Yb (pv 1) ZZ) (fun _ _=>rfl)) (pv 2)) Z3))) (Ym Xc (pv 0) (X8 (ZG Zn (pv 1) ZZ)) XO)))))),?_⟩
 refine⟨_,rfl,rfl,_,rfl,?_⟩
 rcases Yg pre with e | ⟨p,h,e⟩
 ·subst e
  rw[decide_eq_true (show V.int ((([]:List (List Int)).length:Nat):Int)=V.int 0 from rfl)]
  refine iteT ?_
  refine⟨_,rfl,_,rfl,a,_,rfl,Zp.of ha,fun t ht=>?_⟩
  rw[show(2:Int)=((2:Nat):Int) from rfl,WN]
  exact q t _ _ (Z9 ht _) Z5 ((ls.drop 2).same (Z9 ht _))
 rw[Yf]at e
 subst e
 have ln:(p++[h]).length=p.length+1:=by rw[Z6];rfl
 rw[decide_eq_false (show ¬V.int (((p++[h]).length:Nat):Int)=V.int 0 from fun z=>by have:=V.int.inj z;omega)]
 refine iteF ?_
 have hpos:∀(A:List (List Int)) (x:List Int) (B:List (List Int)),A++x::B=(p++[h])++s::g::post->∃px,xs[A.length]?=some (.ref px)/\H px=some (.lst (x.map V.int))/\x.length<=1000:=fun A x B e=>by
  rw[<-e]at ls big
  obtain⟨px,e1,e2⟩:=ls.2 A.length x (by rw[ZU (Nat.le_refl _),Nat.sub_self];rfl)
  exact⟨px,e1,e2,big x (by simp)⟩
 obtain⟨ph,eh,fh,bh⟩:=hpos p h (s::g::post) (by simp)
 obtain⟨ps,es,fs_,bs⟩:=hpos (p++[h]) s (g::post) rfl
 obtain⟨pg,eg,fg,bg⟩:=hpos ((p++[h])++[s]) g post (by simp)
 rw[Z6,ln]at eg
 rw[ln]at es ⊢
 have ps0:∀{z:Int} {k:Nat} {x:V},z=(k:Int)->xs[k]?=some x->atI xs z=some x:=fun{z k x} e hx=>by rw[e];exact Zj hx
 -- the rest
 refine⟨_,rfl,_,rfl,_,_,rfl,rfl,a,_,_,_,rfl,rfl,Zp.of ha,ps0 (k:=p.length+1+1) (by omega) eg,?_⟩
 refine⟨_,rfl,_,rfl,a,_,_,_,rfl,rfl,Zp.of ha,ps0 rfl es,ps,_,rfl,.inl (Zp.of fs_),_,rfl,pg,_,rfl,Zp.of fg,fun t1 ht1=>?_⟩
 rw[WN,Z2,<-map_drop]
 have k1:=Z9 ht1 (.lst ((g.drop s.length).map V.int))
 have f1:(upd H t1 (.lst ((g.drop s.length).map V.int))) t1=some (.lst ((g.drop s.length).map V.int)):=Z5
 generalize upd H t1 (.lst ((g.drop s.length).map V.int))=H1 at k1 f1 ⊢
 -- those ahead
 refine⟨_,rfl,_,rfl,_,_,rfl,rfl,_,rfl,a,_,rfl,Zp.of (k1 _ _ ha),fun t2 ht2=>?_⟩
 rw[show((p.length+1:Nat):Int) - 1=((p.length:Nat):Int) by omega,cut_to]
 have k2:=Z9 ht2 (.lst (xs.take p.length))
 have f2:(upd H1 t2 (.lst (xs.take p.length))) t2=some (.lst (xs.take p.length)):=Z5
 generalize upd H1 t2 (.lst (xs.take p.length))=H2 at k2 f2 ⊢
 have K2:=k1.trans k2
 -- the two that are put together
 refine⟨_,rfl,_,rfl,_,_,rfl,rfl,a,_,_,_,rfl,rfl,Zp.of (K2 _ _ ha),ps0 (k:=p.length) (by omega) eh,?_⟩
 refine⟨_,rfl,ph,t1,_,_,rfl,rfl,K2 _ _ fh,k2 _ _ f1,by rw[Z2,Z2,Yz,sizeLine_eq];omega,fun t3 ht3=>?_⟩
 rw[<-ZB]
 have k3:=Z9 ht3 (.lst ((h++g.drop s.length).map V.int))
 have f3:(upd H2 t3 (.lst ((h++g.drop s.length).map V.int))) t3=some (.lst ((h++g.drop s.length).map V.int)):=Z5
 generalize upd H2 t3 (.lst ((h++g.drop s.length).map V.int))=H3 at k3 f3 ⊢
 refine⟨(by show 1<=sizeLine;decide),fun t4 ht4=>?_⟩
 have k4:=Z9 ht4 (.lst [.ref t3])
 have f4:(upd H3 t4 (.lst [.ref t3])) t4=some (.lst [.ref t3]):=Z5
 generalize upd H3 t4 (.lst [.ref t3])=H4 at k4 f4 ⊢
 have lx:=ls.1
 refine⟨t2,t4,_,_,rfl,rfl,k4 _ _ (k3 _ _ f2),f4,by rw[Za,sizeLine_eq];show _+1<=_;omega,fun t5 ht5=>?_⟩
 have k5:=Z9 ht5 (.lst (xs.take p.length++[.ref t3]))
 have f5:(upd H4 t5 (.lst (xs.take p.length++[.ref t3]))) t5=some (.lst (xs.take p.length++[.ref t3])):=Z5
 generalize upd H4 t5 (.lst (xs.take p.length++[.ref t3]))=H5 at k5 f5 ⊢
 have K5:=K2.trans (k3.trans (k4.trans k5))
 -- those behind
 refine⟨_,rfl,_,rfl,_,_,rfl,rfl,_,rfl,a,_,rfl,Zp.of (K5 _ _ ha),fun t6 ht6=>?_⟩
 rw[show((p.length+1:Nat):Int)+2=((p.length+3:Nat):Int) by omega,WN]
 have k6:=Z9 ht6 (.lst (xs.drop (p.length+3)))
 have f6:(upd H5 t6 (.lst (xs.drop (p.length+3)))) t6=some (.lst (xs.drop (p.length+3))):=Z5
 generalize upd H5 t6 (.lst (xs.drop (p.length+3)))=H6 at k6 f6 ⊢
 refine⟨t5,t6,_,_,rfl,rfl,k6 _ _ f5,f6,by rw[Z6,Za,Yz,sizeLine_eq];show _+1+_<=_;omega,fun t7 ht7=>?_⟩
 have k7:=Z9 ht7 (.lst ((xs.take p.length++[.ref t3])++xs.drop (p.length+3)))
 have K7:=K5.trans (k6.trans k7)
 refine q t7 _ _ K7 Z5 ?_
 rw[BB.To]
 have T:(p++[h]++s::g::post).take p.length=p:=by rw[List.append_assoc,List.take_left' rfl]
 have Dd:(p++[h]++s::g::post).drop (p.length+3)=post:=by
  rw[show p++[h]++s::g::post=(p++[h,s,g])++post by simp]
  exact List.drop_left' (by simp)
 have l1:=ls.take p.length
 have l2:=ls.drop (p.length+3)
 rw[T]at l1
 rw[Dd]at l2
 exact((l1.same K7).app (Ls.one (k7 _ _ (k6 _ _ (k5 _ _ (k4 _ _ f3)))))).app (l2.same K7)
end
end K97
namespace K97
open L2
def Ws (H:Hp)(ys:List V)(W:List (List Int×List Int)):Prop:=ys.length=W.length/\∀(j:Nat) (z:List Int×List Int),W[j]?=some z->∃p pa pb,ys[j]?=some (.ref p)/\H p=some (.tup [.ref pa,.ref pb])/\H pa=some (.tup (z.1.map V.int))/\H pb=some (.tup (z.2.map V.int))
theorem Ws.keep {H H':Hp}{ys:List V}{W:List (List Int×List Int)}(t:Ws H ys W)(k:∀p xs,H p=some (.tup xs)->H' p=some (.tup xs)):Ws H' ys W:=⟨t.1,fun j z e=>let⟨p,pa,pb,a,b,c,d⟩:=t.2 j z e;⟨p,pa,pb,a,k _ _ b,k _ _ c,k _ _ d⟩⟩
theorem Ws.same {H H':Hp}{ys:List V}{W:List (List Int×List Int)}(t:Ws H ys W)(s:ZR H H'):Ws H' ys W:=t.keep fun _ _ e=>s _ _ e
theorem Ws.snoc {H:Hp}{ys:List V}{W:List (List Int×List Int)}{p pa pb:Addr}{z:List Int×List Int}(t:Ws H ys W)(h:H p=some (.tup [.ref pa,.ref pb]))(h1:H pa=some (.tup (z.1.map V.int)))(h2:H pb=some (.tup (z.2.map V.int))):Ws H (ys++[.ref p]) (W++[z]):=by
 refine⟨by rw[Z6,Z6,t.1];rfl,fun j c e=>?_⟩
 by_cases x:j<W.length
 ·rw[ZL x]at e
  obtain⟨q,qa,qb,e1,e2⟩:=t.2 j c e
  exact⟨q,qa,qb,by rw[ZL (by rw[t.1];exact x)];exact e1,e2⟩
 ·have jl:j<(W++[z]).length:=(List.getElem?_eq_some_iff.mp e).1
  have jj:j=W.length:=by rw[Z6,ZN]at jl;omega
  subst jj
  rw[ZU (Nat.le_refl _),Nat.sub_self]at e
  cases e
  exact⟨p,pa,pb,by rw[<-t.1,ZU (Nat.le_refl _),Nat.sub_self];rfl,h,h1,h2⟩
theorem Ls.told {H:Hp}{t:Addr}{ys xs:List V}{R:List (List Int)}{W:List (List Int×List Int)}{o:HO}(ls:Ls H xs R)(ne:∀r∈R,r≠[])(ht:H t=some (.lst ys))(ws:Ws H ys W):Ls (upd H t o) xs R:=by
 refine⟨ls.1,fun j r e=>?_⟩
 obtain⟨p,e1,e2⟩:=ls.2 j r e
 refine⟨p,e1,?_⟩
 rw[ZS (fun z=>?_)]
 ·exact e2
 ·rw[z,ht]at e2
  have e3:ys=r.map V.int:=HO.lst.inj (Option.some.inj e2)
  have r0:0<r.length:=Y9.mpr (ne r (Zh e))
  have w0:0<W.length:=by rw[<-ws.1,e3,Z2];exact r0
  obtain⟨q,qa,qb,f1,_⟩:=ws.2 0 _ (Z1 w0)
  rw[e3,ZQ,Z1 r0]at f1
  cases f1
theorem rr_ne {H:Hp}{t rr:Addr}{ys xs:List V}{R:List (List Int)}{W:List (List Int×List Int)}(hr:H rr=some (.lst xs))(ls:Ls H xs R)(h0:R≠[])(ht:H t=some (.lst ys))(ws:Ws H ys W):rr≠t:=fun z=>by
 rw[z,ht]at hr
 have e:ys=xs:=HO.lst.inj (Option.some.inj hr)
 have r0:0<R.length:=Y9.mpr h0
 obtain⟨p,e1,e2⟩:=ls.2 0 _ (Z1 r0)
 have w0:0<W.length:=by rw[<-ws.1,e,ls.1];exact r0
 obtain⟨q,qa,qb,f1,f2,_⟩:=ws.2 0 _ (Z1 w0)
 rw[e,e1]at f1
 cases f1
 rw[e2]at f2
 cases f2
def lenR (σ:L2.St)(H:Hp):Nat:=match σ with
 |[_,_,some (V.ref p),_,_,_]=>(match H p with | some (.lst xs)=>xs.length | _=>0)
 |_=>0
theorem lenR_at {H:Hp}{o1 o2 o3 o4 o5:Option V}{p:Addr}{zs:List V}(h:H p=some (.lst zs)):lenR [o1,o2,some (.ref p),o3,o4,o5] H=zs.length:=by
 show(match H p with | some (.lst xs)=>xs.length | _=>0)=_
 rw[h]
def spWaves:Sp:=fun vs H Q _=>∃(a:Addr) (row:List Int),vs=[.ref a]/\H a=some (.tup (row.map V.int))/\row.Pairwise (· < ·)/\row.length<=12/\(∀p∈row,-4000000000<=p/\p<=4000000000)/\
 ∀(r:Addr) (ys:List V) (H':Hp),ZR H H'->H r=none->H' r=some (.lst ys)->Ws H' ys (BB.wvs 12 (BB.pr (row.length+1) (BB.blk row)))->Q (.ref r) H'
structure Wi (H0 H:Hp)(t rr:Addr)(W0:List (List Int×List Int))(R:List (List Int))(N n:Nat)(W:List (List Int×List Int)):Prop where
 sm:ZR H0 H
 t0:H0 t=none
 ty:∃ys,H t=some (.lst ys)/\Ws H ys W
 ry:∃xs,H rr=some (.lst xs)/\Ls H xs R
 gd:BB.Gd N R
 nn:N<=n
 wl:W.length+n<=12
 ww:W++BB.wvs n R=W0
 rl:R.length<=24
 fl:R.flatten.length<=1000
section
variable {P:Program}{w:World}{K:W.Frag}{mg:Str->Option Value}{base:Heap}
theorem ok_waves {f:Addr}{fd:FuncData}(F:XH K "waves" "waves" s_waves f fd)(nb:NbE mg)(h_runs_in:YR P w K mg base 2 "runs_in" ["row"] spRuns)(h_first_short:YR P w K mg base 1 "first_short" ["runs"] spFs)(h_without_wave:YR P w K mg base 1 "without_wave" ["runs","at"] spWo)  :
 Y6 P w K mg base XB 3 f fd ["row"] spWaves:=by
 have nd:=sc_waves.nd
 refine F.ok (k:=2) sc_waves (fun vs H Q E h=>?_) (fun cdv A outer s H vs Q E hr h=>?_)
 ·obtain⟨a,row,rfl,_⟩:=h
  rfl
 obtain⟨a,row,rfl,ha,up,r12,bd,q⟩:=h
 refine⟨_,(Z7 (ZH (i:=1) nd rfl (Or.inl rfl) (Y2 Z3))
(Z7 (ZH (i:=2) nd rfl (Or.inl rfl) (ZI h_runs_in hr (Z0 (pv 0) Z3)))
(Z7 (WQ PassesOwn.never (Zo (pv 2) (fun _=>rfl))
(Z7 (ZH (i:=3) nd rfl (Or.inl rfl) (ZI h_first_short hr (Z0 (pv 2) Z3)))
(Z7 (ZH (i:=4) nd rfl (Or.inl rfl) (Zy Zz rfl nb.tuple boot_tuple (Z0 (Zm Zk (pv 2) (pv 3) (fun _ _=>rfl)) Z3)))
(Z7 (ZH (i:=5) nd rfl (Or.inl rfl) (Zy Zz rfl nb.tuple boot_tuple (Z0 (Ym Xc (Zm Zk (pv 2) (ZG Zn (pv 3) ZZ) (fun _ _=>rfl)) XO (X8 (ZJ Zx rfl nb.len PySem.boot_len (Z0 (pv 4) Z3)))) Z3)))
(Z7 (YQ (XF Zu PySem.F.slot_list_append PySem.F.type_list_append Y8 (pv 1) (Z0 (TQ (Zr Vd (ZG Uv (pv 3) ZZ) ZZ (Zf _)) (Yc (Z0 (pv 4) (Z0 (pv 5) Z3))) (Yc (Z0 (pv 5) (Z0 (pv 4) Z3)))) Z3)))
(ZX (ZH (i:=2) nd rfl (Or.inl rfl) (ZI h_without_wave hr (Z0 (pv 2) (Z0 (pv 3) Z3))))))))))
(ZX (ZE (pv 1)))))),?_⟩
 refine⟨(by show 0<=sizeLine;decide),fun t ht=>?_⟩
 have s1:=Z9 ht (.lst [])
 have ht1:(upd H t (.lst [])) t=some (.lst []):=Z5
 generalize upd H t (.lst [])=H1 at s1 ht1 ⊢
 refine⟨_,rfl,a,row,rfl,s1 _ _ ha,up,r12,bd,fun rr xs H2 s2 hr ls=>?_⟩
 have flt:=BB.lr_flat (c:=row.length+1) row
 have gd:=BB.TC (c:=row.length+1) (Nat.le_refl _) up
 rw[<-BB.pr_blk]at flt gd
 have big:row.length*(row.length+1+1)<=12*14:=mul_le_mul r12 (by omega)
 have wi0:Wi H H2 t rr (BB.wvs 12 (BB.pr (row.length+1) (BB.blk row))) (BB.pr (row.length+1) (BB.blk row)) row.length 12 []:=⟨s1.trans s2,ht,⟨[],s2 _ _ ht1,rfl,fun j z e=>by cases e⟩,⟨xs,hr,ls⟩,gd,r12,Nat.le_refl _,rfl,by omega,by omega⟩
 dsimp only
 refine VW ?_
 refine WU (fun σ H'=>∃rr R N n W o3 o4 o5,σ=[some (.ref a),some (.ref t),some (.ref rr),o3,o4,o5]/\Wi H H' t rr (BB.wvs 12 (BB.pr (row.length+1) (BB.blk row))) R N n W) lenR ⟨rr,_,_,_,_,_,_,_,rfl,wi0⟩ (fun σ H' hp=>?_) (fun σ H Q Q' hq h=>?_)
 ·obtain⟨rr,R,N,n,W,o3,o4,o5,rfl,wi⟩:=hp
  obtain⟨xs,hr,ls⟩:=wi.ry
  obtain⟨ys,hty,ws⟩:=wi.ty
  have lm:=lenR_at (o1:=some (V.ref a)) (o2:=some (V.ref t)) (o3:=o3) (o4:=o4) (o5:=o5) hr
  by_cases e0:R=[]
  ·subst e0
   have ex:xs=[]:=Zc.mp ls.1
   subst ex
   refine⟨_,rfl,false,.inl ⟨_,Zp.of hr,rfl⟩,iteF ?_⟩
   have ww:=wi.ww
   rw[BB.wvs_nil,YV]at ww
   rw[ww]at ws
   exact⟨_,rfl,q t ys H' wi.sm wi.t0 hty ws⟩
  have xn:xs≠[]:=fun z=>e0 (Zc.mp (by rw[<-ls.1,z];rfl))
  refine⟨_,rfl,true,.inl ⟨_,Zp.of hr,by cases xs with | nil=>exact absurd rfl xn | cons _ _=>rfl⟩,iteT ?_⟩
  obtain⟨pre,s,g,post,eR,ef,lsg⟩:=wi.gd.at e0
  subst eR
  have gd:=wi.gd
  obtain⟨sz,_⟩:=gd.size lsg
  have sp:1<=s.length:=Y9.mpr (gd.ne s (by simp))
  have nn:=wi.nn
  have wl:=wi.wl
  have rl:=wi.rl
  have big:=BB.mem_flat wi.fl
  have bs:=big s (by simp)
  have bg:=big g (by simp)
  have lR:(pre++s::g::post).length=pre.length+2+post.length:=by simp only[Z6,ZM];omega
  -- where
  refine⟨_,rfl,rr,xs,_,rfl,hr,ls,by rw[ef];omega,by rw[ef,BB.Xn,BB.Xx];exact lsg,fun H2 s2=>?_⟩
  rw[ef]
  obtain⟨ps,es,fs_⟩:=ls.get (j:=pre.length) (by omega)
  obtain⟨pg,eg,fg⟩:=ls.get (j:=pre.length+1) (by omega)
  rw[BB.Xn]at fs_
  rw[BB.Xx]at fg
  -- the short one
  refine⟨_,rfl,_,rfl,rr,_,_,_,rfl,rfl,Zp.of (s2 _ _ hr),Zj es,ps,_,rfl,.inl ⟨Zp.of (s2 _ _ fs_),fun t1 ht1'=>?_⟩⟩
  have k1:=s2.trans (Z9 ht1' (.tup (s.map V.int)))
  have f1:(upd H2 t1 (.tup (s.map V.int))) t1=some (.tup (s.map V.int)):=Z5
  generalize upd H2 t1 (.tup (s.map V.int))=H3 at k1 f1 ⊢
  -- as many behind it
  refine⟨_,rfl,_,rfl,_,_,rfl,rfl,rr,_,_,_,rfl,rfl,Zp.of (k1 _ _ hr),(show atI xs ((pre.length:Int)+1)=some (.ref pg) by rw[show((pre.length:Int)+1)=((pre.length+1:Nat):Int) by omega];exact Zj eg),?_⟩
  refine⟨_,rfl,t1,_,rfl,.inr (Y0.of f1),_,rfl,pg,_,rfl,Zp.of (k1 _ _ fg),fun t2 ht2=>?_⟩
  rw[cut_to,Z2,<-map_take]
  refine⟨t2,_,rfl,.inl ⟨Zp.of Z5,fun t3 ht3=>?_⟩⟩
  have k3:=(Z9 ht2 (.lst ((g.take s.length).map V.int))).trans (Z9 ht3 (.tup ((g.take s.length).map V.int)))
  have f3:(upd (upd H3 t2 (.lst ((g.take s.length).map V.int))) t3 (.tup ((g.take s.length).map V.int))) t3=some (.tup ((g.take s.length).map V.int)):=Z5
  generalize upd (upd H3 t2 (.lst ((g.take s.length).map V.int))) t3 (.tup ((g.take s.length).map V.int))=H4 at k3 f3 ⊢
  have K4:=k1.trans k3
  have f14:=k3 _ _ f1
  have ht4:=K4 _ _ hty
  have ws4:=ws.same K4
  have ls4:=ls.same K4
  have rne:=rr_ne (K4 _ _ hr) ls4 e0 ht4 ws4
  obtain⟨n',en⟩:∃n',n=n'+1:=⟨n - 1,by omega⟩
  subst en
  -- what comes behind
  have fin:∀(pa pb p:Addr),H4 p=none->H4 pa=some (.tup ((BB.wv (pre++s::g::post) pre.length).1.map V.int))->H4 pb=some (.tup ((BB.wv (pre++s::g::post) pre.length).2.map V.int))->
   (upd H4 p (.tup [.ref pa,.ref pb])) t=some (.lst ys)/\(upd (upd H4 p (.tup [.ref pa,.ref pb])) t (.lst (ys++[.ref p]))) rr=some (.lst xs)/\Ls (upd (upd H4 p (.tup [.ref pa,.ref pb])) t (.lst (ys++[.ref p]))) xs (pre++s::g::post)/\
   (∀r2 ys2 H5,ZR (upd (upd H4 p (.tup [.ref pa,.ref pb])) t (.lst (ys++[.ref p]))) H5->H5 r2=some (.lst ys2)->Ls H5 ys2 (BB.wo (pre++s::g::post) pre.length)->Wi H H5 t r2 (BB.wvs 12 (BB.pr (row.length+1) (BB.blk row))) (BB.wo (pre++s::g::post) pre.length) (N - s.length) n' (W++[BB.wv (pre++s::g::post) pre.length])):=by
   intro pa pb p hp hpa hpb
   have kp:=Z9 hp (.tup [.ref pa,.ref pb])
   have fp:(upd H4 p (.tup [.ref pa,.ref pb])) p=some (.tup [.ref pa,.ref pb]):=Z5
   have hpa':=kp _ _ hpa
   have hpb':=kp _ _ hpb
   have hr':=kp _ _ (K4 _ _ hr)
   have ht':=kp _ _ ht4
   have ws':=ws4.same kp
   have ls':=ls4.same kp
   have KP:ZR H (upd H4 p (.tup [.ref pa,.ref pb])):=wi.sm.trans (K4.trans kp)
   generalize upd H4 p (.tup [.ref pa,.ref pb])=G at kp fp hpa' hpb' hr' ht' ws' ls' KP ⊢
   have tupk:∀q zs,G q=some (.tup zs)->(upd G t (.lst (ys++[.ref p]))) q=some (.tup zs):=fun q zs e=>by
    rw[ZS (fun z=>by rw[z,ht']at e;cases e)]
    exact e
   refine⟨ht',by rw[ZS rne];exact hr',ls'.told gd.ne ht' ws',fun r2 ys2 H5 s5 h5 l5=>?_⟩
   have wn:Ws (upd G t (.lst (ys++[.ref p]))) (ys++[.ref p]) (W++[BB.wv (pre++s::g::post) pre.length]):=Ws.snoc (ws'.keep tupk) (tupk _ _ fp) (tupk _ _ hpa') (tupk _ _ hpb')
   obtain⟨w1,w2⟩:=BB.wo_len (pre:=pre) (post:=post) (s:=s) (g:=g)
   refine⟨fun c o e=>s5 _ _ (by rw[ZS (ZP e wi.t0)];exact KP _ _ e),wi.t0,⟨_,s5 _ _ Z5,wn.same s5⟩,⟨ys2,h5,l5⟩,gd.wo lsg,by omega,by rw[Z6,ZN];omega,?_,by omega,by have:=wi.fl;omega⟩
   have ww:=wi.ww
   have e1:BB.wvs (n'+1) (pre++s::g::post)=BB.wv (pre++s::g::post) pre.length::BB.wvs n' (BB.wo (pre++s::g::post) pre.length):=by
    show(if pre++s::g::post=[] then _ else _)=_
    rw[if_neg e0,ef]
   rw[e1]at ww
   rw[List.append_assoc]
   exact ww
  have yl:ys.length<=12:=by rw[ws.1];omega
  refine⟨_,rfl,.inl ⟨rfl,_,Zp.of ht4⟩,_,rfl,_,_,rfl,rfl,(show(0:Int)<2 by decide),rfl,_,rfl,?_⟩
  by_cases c:pre.length % 2=0
  ·rw[decide_eq_true (show V.int ((pre.length:Int) % 2)=V.int 0 by congr 1;omega)]
   refine iteT ?_
   have e1:BB.wv (pre++s::g::post) pre.length=(s,g.take s.length):=by unfold BB.wv;rw[if_pos c,BB.Xn,BB.Xx]
   refine⟨_,rfl,_,rfl,(by show 2<=sizeLine;decide),fun p hp=>?_⟩
   obtain⟨q1,q2,q3,q4⟩:=fin t1 t3 p hp (by rw[e1];exact f14) (by rw[e1];exact f3)
   refine⟨t,_,_,rfl,rfl,q1,by rw[sizeLine_eq];omega,?_⟩
   refine⟨_,rfl,_,rfl,rr,xs,pre,post,s,g,rfl,q2,q3,by omega,big,fun r2 ys2 H5 s5 h5 l5=>?_⟩
   refine⟨⟨r2,_,_,_,_,_,_,_,rfl,q4 r2 ys2 H5 s5 h5 l5⟩,?_⟩
   show lenR [_,_,some (V.ref r2),_,_,_] _<_
   rw[lenR_at h5,lm,l5.1,ls.1]
   have:=(BB.wo_len (pre:=pre) (post:=post) (s:=s) (g:=g)).1
   omega
  ·rw[decide_eq_false (show ¬V.int ((pre.length:Int) % 2)=V.int 0 from fun z=>by have:=V.int.inj z;omega)]
   refine iteF ?_
   have e1:BB.wv (pre++s::g::post) pre.length=(g.take s.length,s):=by unfold BB.wv;rw[if_neg c,BB.Xn,BB.Xx]
   refine⟨_,rfl,_,rfl,(by show 2<=sizeLine;decide),fun p hp=>?_⟩
   obtain⟨q1,q2,q3,q4⟩:=fin t3 t1 p hp (by rw[e1];exact f3) (by rw[e1];exact f14)
   refine⟨t,_,_,rfl,rfl,q1,by rw[sizeLine_eq];omega,?_⟩
   refine⟨_,rfl,_,rfl,rr,xs,pre,post,s,g,rfl,q2,q3,by omega,big,fun r2 ys2 H5 s5 h5 l5=>?_⟩
   refine⟨⟨r2,_,_,_,_,_,_,_,rfl,q4 r2 ys2 H5 s5 h5 l5⟩,?_⟩
   show lenR [_,_,some (V.ref r2),_,_,_] _<_
   rw[lenR_at h5,lm,l5.1,ls.1]
   have:=(BB.wo_len (pre:=pre) (post:=post) (s:=s) (g:=g)).1
   omega
 ·obtain⟨v,e,k,tv,q1⟩:=h
  exact⟨v,e,k,tv,hq _ _ q1⟩
end
end K97
namespace K97
open L2
def Bs (H:Hp)(ys:List V)(B:List (Int×Bool)):Prop:=ys.length=B.length/\∀(j:Nat) (z:Int×Bool),B[j]?=some z->∃p,ys[j]?=some (.ref p)/\H p=some (.tup [.int z.1,.bl z.2])
theorem Bs.keep {H H':Hp}{ys:List V}{B:List (Int×Bool)}(t:Bs H ys B)(k:∀p xs,H p=some (.tup xs)->H' p=some (.tup xs)):Bs H' ys B:=⟨t.1,fun j z e=>let⟨p,a,b⟩:=t.2 j z e;⟨p,a,k _ _ b⟩⟩
theorem Bs.app {H:Hp}{xs ys:List V}{B C:List (Int×Bool)}(t:Bs H xs B)(u:Bs H ys C):Bs H (xs++ys) (B++C):=by
 refine⟨by rw[Z6,Z6,t.1,u.1],fun j r e=>?_⟩
 by_cases z:j<B.length
 ·rw[ZL z]at e
  obtain⟨p,e1,e2⟩:=t.2 j r e
  exact⟨p,by rw[ZL (by rw[t.1];exact z)];exact e1,e2⟩
 ·rw[ZU (by omega)]at e
  obtain⟨p,e1,e2⟩:=u.2 _ r e
  exact⟨p,by rw[ZU (by rw[t.1];omega),t.1];exact e1,e2⟩
theorem Bs.one {H:Hp}{p:Addr}{z:Int×Bool}(h:H p=some (.tup [.int z.1,.bl z.2])):Bs H [.ref p] [z]:=⟨rfl,fun j c e=>by
 match j with
 |0=>cases e;exact⟨p,rfl,h⟩
 |j+1=>cases e⟩
theorem bs_get {H:Hp}{xs:List V}{B:List (Int×Bool)}(t:Bs H xs B){i:Nat}{x:V}(h:xs[i]?=some x):∃(p:Addr) (z:Int×Bool),x=.ref p/\B[i]?=some z/\H p=some (.tup [.int z.1,.bl z.2]):=by
 have il:i<B.length:=by rw[<-t.1];exact(List.getElem?_eq_some_iff.mp h).1
 obtain⟨p,e1,e2⟩:=t.2 i _ (Z1 il)
 rw[h]at e1
 exact⟨p,_,Option.some.inj e1,Z1 il,e2⟩
def gapL (row:List Int)(j:Nat):Nat:=match row[j+1]? with
 |some q=>min 25 (q - row.getD j 0 - 1).toNat
 |none=>25
def boxI (row:List Int)(j:Nat):List (Int×Bool):=(row.getD j 0,true)::(BB.rg (row.getD j 0+1) (gapL row j)).map fun x=>(x,false)
theorem box_all:∀row:List Int,(List.range row.length).flatMap (boxI row)=BB.lbx row
 |[]=>rfl
 |[p]=>by
  rw[show List.range [p].length=[0] from rfl,Xj,flatMap_nil,YV]
  rfl
 |p::q::r=>by
  have ih:=box_all (q::r)
  rw[show(p::q::r).length=(q::r).length+1 from rfl,Yu,Xj,flatMap_map]
  show boxI (p::q::r) 0++(List.range (q::r).length).flatMap (boxI (q::r))=_
  rw[ih]
  rfl
theorem box_len (row:List Int)(j:Nat):(boxI row j).length<=26:=by
 unfold boxI gapL
 rw[ZM,Z2,BB.Vi]
 split<;>omega
theorem box_lens (row:List Int):∀i,((List.range i).flatMap (boxI row)).length<=26*i
 |0=>Nat.le_refl _
 |i+1=>by
  have:=box_lens row i
  have:=box_len row i
  rw[XU,XS,Z6,Xj,flatMap_nil,YV]
  omega
def spBoxes:Sp:=fun vs H Q _=>∃(a:Addr) (row:List Int),vs=[.ref a]/\H a=some (.tup (row.map V.int))/\row.Pairwise (· < ·)/\row.length<=12/\
 ∀(r:Addr) (ys:List V) (H':Hp),ZR H H'->H' r=some (.lst ys)->Bs H' ys (BB.lbx row)->Q (.ref r) H'
section
variable {P:Program}{w:World}{K:W.Frag}{mg:Str->Option Value}{base:Heap}
theorem ok_L_boxes {f:Addr}{fd:FuncData}(F:XH K "_law_boxes" "_law_boxes" U8 f fd)(nb:NbE mg)   :
 Y6 P w K mg base XB 1 f fd ["_law_row"] spBoxes:=by
 have nd:=sc_L_boxes.nd
 refine F.ok (k:=0) sc_L_boxes (fun vs H Q E h=>?_) (fun cdv A outer s H vs Q E hr h=>?_)
 ·obtain⟨a,row,rfl,_⟩:=h
  rfl
 obtain⟨a,row,rfl,ha,up,r12,q⟩:=h
 refine⟨_,(Z7 (ZH (i:=1) nd rfl (Or.inl rfl) (Y2 Z3))
(Z7 (XV PassesOwn.never rfl (XQ rfl nb.range (Z0 (ZJ Zx rfl nb.len PySem.boot_len (Z0 (pv 0) Z3)) Z3)) (Zl (i:=2) nd rfl (Or.inr rfl))
(Z7 (YQ (XF Zu PySem.F.slot_list_append PySem.F.type_list_append Y8 (pv 1) (Z0 (Yc (Z0 (Zm YT (pv 0) (pv 2) (fun _ _=>rfl)) (Z0 Yk Z3))) Z3)))
(Z7 (ZH (i:=3) nd rfl (Or.inl rfl) ZZ)
(Z7 (YX (Zr Vz (ZG Zn (pv 2) ZZ) (ZJ Zx rfl nb.len PySem.boot_len (Z0 (pv 0) Z3)) (Zf _))
(ZX (ZH (i:=3) nd rfl (Or.inl rfl) (ZJ (SI rfl) rfl nb.min boot_min (Z0 ZZ (Z0 (ZG Yb (ZG Yb (Zm YT (pv 0) (ZG Zn (pv 2) ZZ) (fun _ _=>rfl)) (Zm YT (pv 0) (pv 2) (fun _ _=>rfl))) ZZ) Z3)))))
Zg)
(ZX (YQ (XF Zu WL WM VQ (pv 1) (Z0 (YU (sc:=ZY U8) (N0:=["_law_row","_law_found","_law_k","_law_gap"]) (N:=["_law_row","_law_k"]) (js:=[0,2]) rfl rfl rfl (by constructor<;>first|decide +kernel|rfl) rfl
(XQ rfl nb.range (Z0 (pv 3) Z3))
(fun _ _ _ _ _=>by exact YI)
(fun _ _ _ _ _=>by exact(Yc (Z0 (ZG Zn (ZG Zn (Zm (show IxR _ (rIxT K) from YT) (pv 1) (pv 2) (fun _ _=>rfl)) ZZ) (pv 0)) (Z0 Yk Z3))))) Z3))))))))
(ZX (ZE (pv 1))))),?_⟩
 refine⟨(by show 0<=sizeLine;decide),fun f hf=>?_⟩
 have s1:=Z9 hf (.lst [])
 have ml:(row.map V.int).length=row.length:=Z2 ..
 refine⟨_,rfl,a,_,rfl,.inr (Y0.of (s1 _ _ ha)),_,rfl,by omega,by omega,?_⟩
 rw[show(((row.map V.int).length:Int)).toNat=row.length by rw[ml];omega]
 refine Xw (fun i σ H'=>∃o2 o3 ys,σ=[some (.ref a),some (.ref f),o2,o3]/\ZR H H'/\H' f=some (.lst ys)/\Bs H' ys ((List.range i).flatMap (boxI row))) ⟨_,_,[],rfl,s1,Z5,rfl,fun j z e=>by cases e⟩ (fun i σ H' hi hp=>?_) (fun σ H' hp=>?_)
 ·obtain⟨o2,o3,ys,rfl,sm,hy,bs⟩:=hp
  have bl:=box_lens row i
  rw[<-bs.1]at bl
  have i12:i<12:=by omega
  have ia:(row.map V.int)[i]?=some (.int (row.getD i 0)):=by rw[ZQ,Z1 hi,Z4,Z1 hi];rfl
  have a0:atI (row.map V.int) (0+(i:Int))=some (.int (row.getD i 0)):=by rw[zero_add];exact Zj ia
  have tk:∀{G:Hp} {zs:List V} {o:HO} {q:Addr} {cs:List V},G f=some (.lst zs)->G q=some (.tup cs)->(upd G f o) q=some (.tup cs):=fun{G zs o q cs} e h=>by
   rw[ZS (fun z=>by rw[z,e]at h;cases h)]
   exact h
  -- the ball
  refine⟨_,rfl,.inl ⟨rfl,_,Zp.of hy⟩,_,rfl,_,rfl,a,_,_,_,rfl,rfl,Y0.of (sm _ _ ha),a0,(by show 2<=sizeLine;decide),fun p hp=>?_⟩
  have k1:=Z9 hp (.tup [.int (row.getD i 0),.bl true])
  refine⟨f,_,_,rfl,rfl,k1 _ _ hy,by rw[sizeLine_eq];omega,?_⟩
  have f1:(upd H' p (.tup [.int (row.getD i 0),.bl true])) p=some (.tup [.int (row.getD i 0),.bl true]):=Z5
  have b1:Bs (upd (upd H' p (.tup [.int (row.getD i 0),.bl true])) f (.lst (ys++[.ref p]))) (ys++[.ref p]) ((List.range i).flatMap (boxI row)++[(row.getD i 0,true)]):=(bs.keep fun q cs h=>tk (k1 _ _ hy) (k1 _ _ h)).app (Bs.one (tk (k1 _ _ hy) f1))
  have sm1:ZR H (upd (upd H' p (.tup [.int (row.getD i 0),.bl true])) f (.lst (ys++[.ref p]))):=fun c o e=>by
   rw[ZS (ZP e hf)]
   exact k1 _ _ (sm _ _ e)
  have hy1:(upd (upd H' p (.tup [.int (row.getD i 0),.bl true])) f (.lst (ys++[.ref p]))) f=some (.lst (ys++[.ref p])):=Z5
  generalize upd (upd H' p (.tup [.int (row.getD i 0),.bl true])) f (.lst (ys++[.ref p]))=H1 at b1 sm1 hy1 ⊢
  -- the gap
  have go:∀G:Int,G=(gapL row i:Int)->G<=25/\0<=G:=fun G e=>by
   rw[e]
   unfold gapL
   split<;>omega
  refine⟨_,rfl,_,_,rfl,rfl,_,rfl,a,_,rfl,.inr (Y0.of (sm1 _ _ ha)),_,_,rfl,rfl,_,rfl,?_⟩
  by_cases c:i+1<row.length
  ·rw[decide_eq_true (show 0+(i:Int)+1<((row.map V.int).length:Int) by rw[ml];omega)]
   refine iteT ?_
   have ib:(row.map V.int)[i+1]?=some (.int (row.getD (i+1) 0)):=by rw[ZQ,Z1 c,Z4,Z1 c];rfl
   have a1:atI (row.map V.int) (0+(i:Int)+1)=some (.int (row.getD (i+1) 0)):=by rw[show 0+(i:Int)+1=((i+1:Nat):Int) by omega];exact Zj ib
   refine⟨_,rfl,_,rfl,_,_,rfl,rfl,a,_,_,_,rfl,rfl,Y0.of (sm1 _ _ ha),a1,_,rfl,_,rfl,a,_,_,_,rfl,rfl,Y0.of (sm1 _ _ ha),a0,_,_,rfl,rfl,_,_,rfl,rfl,_,_,rfl,?_⟩
   have lt:row.getD i 0<row.getD (i+1) 0:=by
    rw[Z4,Z4,Z1 hi,Z1 c]
    exact List.pairwise_iff_getElem.mp up i (i+1) hi c (by omega)
   have eG:(if row.getD (i+1) 0 - row.getD i 0 - 1<25 then row.getD (i+1) 0 - row.getD i 0 - 1 else 25)=(gapL row i:Int):=by
    unfold gapL
    rw[Z1 c]
    show _=((min 25 (row[i+1] - row.getD i 0 - 1).toNat:Nat):Int)
    rw[show row[i+1]=row.getD (i+1) 0 by rw[Z4,Z1 c];rfl]
    split<;>omega
   have gG:=go _ eG
   refine⟨_,rfl,.inl ⟨rfl,_,Zp.of hy1⟩,_,rfl,_,rfl,by omega,by omega,fun D hD=>?_⟩
   rw[eG,show((gapL row i:Nat):Int).toNat=gapL row i from WA _]
   refine Wx (gapL row i) (by rw[sizeLine_eq];omega) (fun j=>[.int (row.getD i 0+1+(0+(j:Int))),.bl false]) (fun σ=>∃o1,σ=[o1,some (.ref a),some (.int (0+(i:Int)))]) (fun j H' x=>x=.int (0+(j:Int))) hD (by exact⟨_,rfl⟩) (fun j H2 _=>Wy 0 _ j H2 (ZR.refl _)) (fun j x σ' H2 hj s2 im hσ R hR=>?_) (fun H3 zs s3 hD3 lz hz=>?_)
   ·obtain⟨o1,rfl⟩:=hσ
    subst im
    exact⟨_,rfl,_,rfl,a,_,_,_,rfl,rfl,Y0.of (s2 _ _ (sm1 _ _ ha)),a0,_,_,rfl,rfl,_,rfl,_,_,rfl,rfl,(by show 2<=sizeLine;decide),fun p hp=>hR _ p _ ⟨_,rfl⟩ (Z9 hp _) Z5⟩
   have hy3:=s3 _ _ hy1
   refine⟨f,D,_,_,rfl,rfl,hy3,hD3,by rw[Z6,lz,sizeLine_eq];show _+1+_<=_;omega,?_⟩
   refine⟨_,_,_,rfl,fun c o e=>?_,Z5,?_⟩
   ·rw[ZS (ZP e hf)]
    exact s3 _ _ (sm1 _ _ e)
   ·rw[XU,XS,Xj,flatMap_nil,YV,show boxI row i=[(row.getD i 0,true)]++(BB.rg (row.getD i 0+1) (gapL row i)).map fun x=>(x,false) from rfl,<-List.append_assoc]
    refine(b1.keep fun q cs h=>tk hy3 (s3 _ _ h)).app ⟨by rw[lz,Z2,BB.Vi],fun j z e=>?_⟩
    unfold BB.rg at e
    rw[Y5,ZQ]at e
    obtain⟨j',ej,e⟩:=Xd.mp e
    have jl:j<gapL row i:=by have:=(List.getElem?_eq_some_iff.mp ej).1;rw[YY]at this;exact this
    rw[Xq jl]at ej
    cases ej
    have jz:=Z1 (show j<zs.length by omega)
    obtain⟨p',e1,e2⟩:=hz j _ jz
    refine⟨p',by rw[jz,e1],?_⟩
    have e3:=tk (o:=.lst (ys++[.ref p]++zs)) hy3 e2
    rw[zero_add]at e3
    rw[<-e]
    exact e3
  ·rw[decide_eq_false (show ¬0+(i:Int)+1<((row.map V.int).length:Int) by rw[ml];omega)]
   refine iteF ?_
   have eG:(25:Int)=(gapL row i:Int):=by
    unfold gapL
    rw[Zd (by omega)]
    rfl
   have gG:=go _ eG
   refine⟨_,rfl,.inl ⟨rfl,_,Zp.of hy1⟩,_,rfl,_,rfl,by omega,by omega,fun D hD=>?_⟩
   rw[eG,show((gapL row i:Nat):Int).toNat=gapL row i from WA _]
   refine Wx (gapL row i) (by rw[sizeLine_eq];omega) (fun j=>[.int (row.getD i 0+1+(0+(j:Int))),.bl false]) (fun σ=>∃o1,σ=[o1,some (.ref a),some (.int (0+(i:Int)))]) (fun j H' x=>x=.int (0+(j:Int))) hD (by exact⟨_,rfl⟩) (fun j H2 _=>Wy 0 _ j H2 (ZR.refl _)) (fun j x σ' H2 hj s2 im hσ R hR=>?_) (fun H3 zs s3 hD3 lz hz=>?_)
   ·obtain⟨o1,rfl⟩:=hσ
    subst im
    exact⟨_,rfl,_,rfl,a,_,_,_,rfl,rfl,Y0.of (s2 _ _ (sm1 _ _ ha)),a0,_,_,rfl,rfl,_,rfl,_,_,rfl,rfl,(by show 2<=sizeLine;decide),fun p hp=>hR _ p _ ⟨_,rfl⟩ (Z9 hp _) Z5⟩
   have hy3:=s3 _ _ hy1
   refine⟨f,D,_,_,rfl,rfl,hy3,hD3,by rw[Z6,lz,sizeLine_eq];show _+1+_<=_;omega,?_⟩
   refine⟨_,_,_,rfl,fun c o e=>?_,Z5,?_⟩
   ·rw[ZS (ZP e hf)]
    exact s3 _ _ (sm1 _ _ e)
   ·rw[XU,XS,Xj,flatMap_nil,YV,show boxI row i=[(row.getD i 0,true)]++(BB.rg (row.getD i 0+1) (gapL row i)).map fun x=>(x,false) from rfl,<-List.append_assoc]
    refine(b1.keep fun q cs h=>tk hy3 (s3 _ _ h)).app ⟨by rw[lz,Z2,BB.Vi],fun j z e=>?_⟩
    unfold BB.rg at e
    rw[Y5,ZQ]at e
    obtain⟨j',ej,e⟩:=Xd.mp e
    have jl:j<gapL row i:=by have:=(List.getElem?_eq_some_iff.mp ej).1;rw[YY]at this;exact this
    rw[Xq jl]at ej
    cases ej
    have jz:=Z1 (show j<zs.length by omega)
    obtain⟨p',e1,e2⟩:=hz j _ jz
    refine⟨p',by rw[jz,e1],?_⟩
    have e3:=tk (o:=.lst (ys++[.ref p]++zs)) hy3 e2
    rw[zero_add]at e3
    rw[<-e]
    exact e3
 ·obtain⟨o2,o3,ys,rfl,sm,hy,bs⟩:=hp
  rw[box_all]at bs
  exact⟨_,rfl,q f ys H' sm hy bs⟩
end
end K97
namespace K97
open L2
structure Rs (H0 H:Hp)(f:Addr)(G:List (Bool×List Int))(ys:List V)(ls:List Addr):Prop where
 sm:ZR H0 H
 f0:H0 f=none
 hf:H f=some (.lst ys)
 ly:ys.length=G.length
 ll:ls.length=G.length
 nd:ls.Nodup
 nf:f∉ls
 l0:∀l∈ls,H0 l=none
 at_:∀(j:Nat) (z:Bool×List Int) (l:Addr),G[j]?=some z->ls[j]?=some l->∃p,ys[j]?=some (.ref p)/\H p=some (.tup [.bl z.1,.ref l])/\H l=some (.lst (z.2.map V.int))
theorem Rs.put {H0 H:Hp}{f:Addr}{acc:List (Bool×List Int)}{b:Bool}{r:List Int}{ys:List V}{ls:List Addr}(t:Rs H0 H f (acc++[(b,r)]) ys ls):∃pl l,atI ys (-1)=some (.ref pl)/\H pl=some (.tup [.bl b,.ref l])/\H l=some (.lst (r.map V.int))/\∀x:Int,Rs H0 (upd H l (.lst (r.map V.int++[.int x]))) f (acc++[(b,r++[x])]) ys ls:=by
 have ly:=t.ly
 have ll:=t.ll
 rw[Z6,ZN]at ly ll
 have jl:acc.length<ls.length:=by omega
 have ez:(acc++[(b,r)])[acc.length]?=some (b,r):=by rw[ZU (Nat.le_refl _),Nat.sub_self];rfl
 have el:=Z1 jl
 obtain⟨pl,e1,e2,e3⟩:=t.at_ acc.length _ _ ez el
 have yl:∃ys',ys=ys'++[.ref pl]:=by
  rcases Yg ys with z | ⟨ys',v,z⟩
  ·rw[z]at ly;simp at ly
  ·rw[Yf]at z
   refine⟨ys',?_⟩
   rw[z]
   rw[z,Z6,ZN]at ly
   rw[z,ZU (by omega),show acc.length - ys'.length=0 by omega]at e1
   rw[show v=V.ref pl from Option.some.inj e1]
 obtain⟨ys',ey⟩:=yl
 have lm:ls[acc.length]∈ls:=XI jl
 refine⟨pl,ls[acc.length],by rw[ey];exact atI_last _ _,e2,e3,fun x=>⟨fun c o e=>?_,t.f0,?_,by rw[t.ly,Z6,Z6];rfl,by rw[t.ll,Z6,Z6];rfl,t.nd,t.nf,t.l0,fun j z l ej elj=>?_⟩⟩
 ·rw[ZS (ZP e (t.l0 _ lm))]
  exact t.sm _ _ e
 ·rw[ZS (fun w=>t.nf (by rw[w];exact lm))]
  exact t.hf
 ·by_cases c:j<acc.length
  ·rw[ZL c]at ej
   obtain⟨p,g1,g2,g3⟩:=t.at_ j z l (by rw[ZL c];exact ej) elj
   refine⟨p,g1,?_,?_⟩
   ·rw[ZS (fun w=>by rw[w,e3]at g2;cases g2)]
    exact g2
   ·rw[ZS (fun w=>?_)]
    ·exact g3
    ·have jl2:=(List.getElem?_eq_some_iff.mp elj).1
     rw[Z1 jl2]at elj
     have e4:ls[j]=ls[acc.length]:=(Option.some.inj elj).trans w
     have:=(getElem_inj t.nd).mp e4
     omega
  ·have jj:j=acc.length:=by
    have:=(List.getElem?_eq_some_iff.mp ej).1
    rw[Z6,ZN]at this
    omega
   subst jj
   rw[ZU (Nat.le_refl _),Nat.sub_self]at ej
   cases ej
   rw[el]at elj
   cases elj
   refine⟨pl,e1,?_,by rw[Z5,ZB];rfl⟩
   rw[ZS (fun w=>by rw[w,e3]at e2;cases e2)]
   exact e2
theorem Rs.new {H0 H:Hp}{f l p:Addr}{G:List (Bool×List Int)}{ys:List V}{ls:List Addr}(b:Bool)(t:Rs H0 H f G ys ls)(hl:H l=none)(hp:(upd H l (.lst [])) p=none) :
 (upd (upd H l (.lst [])) p (.tup [.bl b,.ref l])) f=some (.lst ys)/\Rs H0 (upd (upd (upd H l (.lst [])) p (.tup [.bl b,.ref l])) f (.lst (ys++[.ref p]))) f (G++[(b,[])]) (ys++[.ref p]) (ls++[l]):=by
 have k:=(Z9 hl (.lst [])).trans (Z9 hp (.tup [.bl b,.ref l]))
 have lf:l≠f:=(ZP t.hf hl).symm
 have pf:p≠f:=fun w=>by rw[w,Z9 hl _ _ _ t.hf]at hp;cases hp
 have pl:p≠l:=fun w=>by rw[w,Z5]at hp;cases hp
 have nl:l∉ls:=fun w=>by
  obtain⟨j,hj,e⟩:=X0 w
  have hj2:j<G.length:=by rw[<-t.ll];exact hj
  obtain⟨_,_,_,g3⟩:=t.at_ j _ _ (Z1 hj2) (Z1 hj)
  rw[e,hl]at g3
  cases g3
 have fz:∀(j:Nat) (z:Bool×List Int) (l':Addr),G[j]?=some z->ls[j]?=some l'->l'≠f:=fun j z l' _ e w=>t.nf (by rw[<-w];exact Zh e)
 refine⟨k _ _ t.hf,fun c o e=>?_,t.f0,Z5,by rw[Z6,Z6,t.ly];rfl,by rw[Z6,Z6,t.ll];rfl,?_,?_,?_,fun j z l' ej el=>?_⟩
 ·rw[ZS (ZP e t.f0)]
  exact k _ _ (t.sm _ _ e)
 ·refine WJ.mpr ⟨t.nd,YO _ _,fun x hx y hy e=>?_⟩
  rw[ZD]at hy
  subst hy
  exact nl (e▸hx)
 ·intro w
  rcases Zi.mp w with z | z
  ·exact t.nf z
  ·exact lf (ZD.mp z).symm
 ·intro x hx
  rcases Zi.mp hx with z | z
  ·exact t.l0 x z
  ·rw[ZD.mp z]
   cases e9:H0 l with
   |none=>rfl
   |some o=>rw[t.sm _ _ e9]at hl;cases hl
 ·by_cases c:j<G.length
  ·rw[ZL c]at ej
   rw[ZL (by rw[t.ll];exact c)]at el
   obtain⟨q,g1,g2,g3⟩:=t.at_ j z l' ej el
   refine⟨q,by rw[ZL (by rw[t.ly];exact c)];exact g1,?_,?_⟩
   ·rw[ZS (fun w=>by rw[w,t.hf]at g2;cases g2)]
    exact k _ _ g2
   ·rw[ZS (fz j z l' ej el)]
    exact k _ _ g3
  ·have jj:j=G.length:=by
    have:=(List.getElem?_eq_some_iff.mp ej).1
    rw[Z6,ZN]at this
    omega
   subst jj
   rw[ZU (Nat.le_refl _),Nat.sub_self]at ej
   cases ej
   rw[<-t.ll,ZU (Nat.le_refl _),Nat.sub_self]at el
   cases el
   refine⟨p,by rw[<-t.ly,ZU (Nat.le_refl _),Nat.sub_self];rfl,by rw[ZS pf,Z5],by rw[ZS lf,ZS pl.symm,Z5];rfl⟩
theorem Rs.same {H0 H H':Hp}{f:Addr}{G:List (Bool×List Int)}{ys:List V}{ls:List Addr}(t:Rs H0 H f G ys ls)(s:ZR H H'):Rs H0 H' f G ys ls:=
 ⟨t.sm.trans s,t.f0,s _ _ t.hf,t.ly,t.ll,t.nd,t.nf,t.l0,fun j z l a b=>let⟨p,c,d,e⟩:=t.at_ j z l a b;⟨p,c,s _ _ d,s _ _ e⟩⟩
def spRn:Sp:=fun vs H Q _=>∃(a:Addr) (xs:List V) (B:List (Int×Bool)),vs=[.ref a]/\H a=some (.lst xs)/\Bs H xs B/\B.length<=1000/\
 ∀(f:Addr) (ys:List V) (ls:List Addr) (H':Hp),Rs H H' f (BB.grp B) ys ls->Q (.ref f) H'
theorem gin_len (G:List (Bool×List Int))(z:Int×Bool):(BB.gin G z).length<=G.length+1:=by
 unfold BB.gin
 split
 ·rename_i e
  have n0:G≠[]:=fun w=>by rw[w]at e;cases e
  have:=Y9.mpr n0
  split
  ·rw[Z6,List.length_dropLast,ZN];omega
  ·rw[Z6];exact Nat.le_refl _
 ·simp
theorem gin_same (acc:List (Bool×List Int))(b:Bool)(r:List Int)(x:Int):BB.gin (acc++[(b,r)]) (x,b)=acc++[(b,r++[x])]:=by
 unfold BB.gin
 rw[Wt]
 show(if b=b then _ else _)=_
 rw[if_pos rfl,List.dropLast_concat]
theorem gin_same' {acc:List (Bool×List Int)}{b:Bool}{r:List Int}{z:Int×Bool}(c:b=z.2):BB.gin (acc++[(b,r)]) z=acc++[(b,r++[z.1])]:=by
 obtain⟨x,b'⟩:=z
 cases(show b=b' from c)
 exact gin_same acc b r x
theorem Ty {G:List (Bool×List Int)}{z:Int×Bool}(h:∀x,G.getLast?=some x->x.1≠z.2):BB.gin G z=G++[(z.2,[]++[z.1])]:=by
 unfold BB.gin
 cases c:G.getLast? with
 |none=>rw[List.getLast?_eq_none_iff.mp c];rfl
 |some x=>exact if_neg (h x c)
theorem gin_lens {G:List (Bool×List Int)}{i:Nat}(z:Int×Bool)(h:∀x∈G,x.2.length<=i):∀x∈BB.gin G z,x.2.length<=i+1:=by
 rcases Yg G with e | ⟨acc,u,e⟩
 ·subst e
  intro x hx
  rw[Ty (fun x hx=>by cases hx)]at hx
  rw[ZD.mp hx]
  show 1<=i+1
  omega
 ·rw[Yf]at e
  obtain⟨b,r⟩:=u
  subst e
  by_cases c:b=z.2
  ·obtain⟨x,b'⟩:=z
   cases(show b=b' from c)
   rw[gin_same]
   intro y hy
   rcases Zi.mp hy with w | w
   ·have:=h y (Y1 _ w);omega
   ·rw[ZD.mp w]
    have:=h (b,r) (by simp)
    show(r++[x]).length<=_
    rw[Z6,ZN]
    have:r.length<=i:=this
    omega
  ·rw[Ty (fun x hx=>by rw[Wt]at hx;cases hx;exact c)]
   intro y hy
   rcases Zi.mp hy with w | w
   ·have:=h y w;omega
   ·rw[ZD.mp w]
    show 1<=i+1
    omega
section
variable {P:Program}{w:World}{K:W.Frag}{mg:Str->Option Value}{base:Heap}
theorem ok_L_runs {f:Addr}{fd:FuncData}(F:XH K "_law_runs" "_law_runs" s_L_runs f fd)(nb:NbE mg)   :
 Y6 P w K mg base XB 1 f fd ["_law_boxes_here"] spRn:=by
 have nd:=sc_L_runs.nd
 refine F.ok (k:=0) sc_L_runs (fun vs H Q E h=>?_) (fun cdv A outer s H vs Q E hr h=>?_)
 ·obtain⟨a,xs,B,rfl,_⟩:=h
  rfl
 obtain⟨a,xs,B,rfl,ha,bs,bl,q⟩:=h
 refine⟨_,(Z7 (ZH (i:=1) nd rfl (Or.inl rfl) (Y2 Z3))
(Z7 (XV PassesOwn.never rfl (XN (pv 0)) (Xt rfl (Ze (Zl (i:=2) nd rfl (Or.inl rfl)) (Ze (Zl (i:=3) nd rfl (Or.inl rfl)) X9)))
(Z7 (YX (PW.pt (WR (Zr (op_eqNil hr.units0) (pv 1) (Y2 Z3) (Zf _)) (Xu (Zr op_ne (Zm YT (Zm Zk (pv 1) (XG Yn ZZ) (fun _ _=>rfl)) ZZ (fun _ _=>rfl)) (pv 3) (Zf _)))))
(ZX (YQ (XF Zu PySem.F.slot_list_append PySem.F.type_list_append Y8 (pv 1) (Z0 (Yc (Z0 (pv 3) (Z0 (Y2 Z3) Z3))) Z3))))
Zg)
(ZX (YQ (XF Zu PySem.F.slot_list_append PySem.F.type_list_append Y8 (Zm YT (Zm Zk (pv 1) (XG Yn ZZ) (fun _ _=>rfl)) ZZ (fun _ _=>rfl)) (Z0 (pv 2) Z3))))))
(ZX (ZE (pv 1))))),?_⟩
 refine⟨(by show 0<=sizeLine;decide),fun f hf=>?_⟩
 have s1:=Z9 hf (.lst [])
 have t0:Rs H (upd H f (.lst [])) f [] [] []:=⟨s1,hf,Z5,rfl,rfl,.nil,ZC,(fun l h=>by cases h),fun j z l h=>by cases h⟩
 generalize upd H f (.lst [])=H1 at s1 t0 ⊢
 refine⟨_,rfl,a,rfl,⟨_,Zp.of (s1 _ _ ha)⟩,?_⟩
 refine for_list (xs:=xs) (fun i σ H'=>∃o2 o3 ys ls,σ=[some (.ref a),some (.ref f),o2,o3]/\Rs H H' f (BB.grp (B.take i)) ys ls/\(BB.grp (B.take i)).length<=i/\∀z∈BB.grp (B.take i),z.2.length<=i) ⟨_,_,[],[],rfl,t0,Nat.le_refl _,fun z h=>by cases h⟩ (fun i σ H' _ hp=>?_) (fun i x σ H' hx hp=>?_) (fun σ H' hp=>?_)
 ·obtain⟨o2,o3,ys,ls,rfl,t,_⟩:=hp
  exact Zp.of (t.sm _ _ ha)
 ·obtain⟨o2,o3,ys,ls,rfl,t,tl,tz⟩:=hp
  obtain⟨p,z,rfl,ez,hz⟩:=bs_get bs hx
  have il:i<B.length:=(List.getElem?_eq_some_iff.mp ez).1
  have eg:BB.grp (B.take (i+1))=BB.gin (BB.grp (B.take i)) z:=by
   rw[take_succ,ez]
   show(B.take i++[z]).foldl BB.gin []=_
   rw[foldl_append]
   rfl
  rw[eg]
  have gl:=gin_len (BB.grp (B.take i)) z
  generalize hG:BB.grp (B.take i)=G at t tl tz eg gl ⊢
  refine⟨p,_,rfl,Y0.of (t.sm _ _ hz),rfl,_,_,rfl,_,_,rfl,rfl,?_⟩
  refine⟨_,rfl,(by show 0<=sizeLine;decide),fun e he=>?_⟩
  have t2:=t.same (Z9 he (.lst []))
  have he2:(upd H' e (.lst [])) e=some (.lst []):=Z5
  generalize upd H' e (.lst [])=H2 at t2 he2 ⊢
  refine⟨f,e,ys,rfl,rfl,Zp.of t2.hf,Zp.of he2,_,rfl,?_⟩
  rcases Yg G with e0 | ⟨acc,u,e0⟩
  ·subst e0
   have ey:ys=[]:=Zc.mp t.ly
   subst ey
   refine iteT (iteT ?_)
   refine⟨_,rfl,.inl ⟨rfl,_,Zp.of t2.hf⟩,_,rfl,(by show 0<=sizeLine;decide),fun l3 hl3=>⟨(by show 2<=sizeLine;decide),fun p3 hp3=>?_⟩⟩
   obtain⟨n1,tn⟩:=t2.new z.2 hl3 hp3
   refine⟨f,_,_,rfl,rfl,n1,by rw[t2.ly,sizeLine_eq];omega,?_⟩
   obtain⟨pl9,l9,g19,g29,g39,g49⟩:=tn.put
   refine⟨_,rfl,1,rfl,f,_,_,_,rfl,rfl,Zp.of tn.hf,g19,pl9,_,_,_,rfl,rfl,Y0.of g29,(show atI [V.bl _,V.ref l9] ((1:Nat):Int)=some (.ref l9) from Zj rfl),.inl ⟨rfl,_,Zp.of g39⟩,_,rfl,l9,_,_,rfl,rfl,g39,by rw[Z2,sizeLine_eq];show 0+1<=_;omega,?_⟩
   have gz:=gin_lens z tz
   rw[Ty (fun x hx=>by cases hx)]at gl gz ⊢
   exact⟨_,_,_,_,rfl,g49 z.1,by omega,gz⟩
  ·rw[Yf]at e0
   obtain⟨b,r⟩:=u
   subst e0
   obtain⟨pl,l,g1,g2,g3,g4⟩:=t2.put
   have yn:ys.isEmpty=false:=by cases ys with | nil=>cases g1 | cons _ _=>rfl
   rw[yn]
   refine iteF ?_
   refine⟨_,rfl,1,rfl,f,_,_,_,rfl,rfl,Zp.of t2.hf,g1,pl,_,_,_,rfl,rfl,Y0.of g2,(show atI [V.bl b,V.ref l] ((0:Nat):Int)=some (.bl b) from Zj rfl),_,rfl,rfl,_,rfl,?_⟩
   have rb:r.length<=i:=tz (b,r) (by simp)
   by_cases c:b=z.2
   ·rw[decide_eq_true (congrArg V.bl c)]
    refine iteF ?_
    obtain⟨pl9,l9,g19,g29,g39,g49⟩:=t2.put
    refine⟨_,rfl,1,rfl,f,_,_,_,rfl,rfl,Zp.of t2.hf,g19,pl9,_,_,_,rfl,rfl,Y0.of g29,(show atI [V.bl _,V.ref l9] ((1:Nat):Int)=some (.ref l9) from Zj rfl),.inl ⟨rfl,_,Zp.of g39⟩,_,rfl,l9,_,_,rfl,rfl,g39,by rw[Z2,sizeLine_eq];omega,?_⟩
    have gz:=gin_lens z tz
    rw[gin_same' c]at gl gz ⊢
    exact⟨_,_,_,_,rfl,g49 z.1,by omega,gz⟩
   ·rw[decide_eq_false (fun w=>c (V.bl.inj w))]
    refine iteT ?_
    refine⟨_,rfl,.inl ⟨rfl,_,Zp.of t2.hf⟩,_,rfl,(by show 0<=sizeLine;decide),fun l3 hl3=>⟨(by show 2<=sizeLine;decide),fun p3 hp3=>?_⟩⟩
    obtain⟨n1,tn⟩:=t2.new z.2 hl3 hp3
    refine⟨f,_,_,rfl,rfl,n1,by rw[t2.ly,sizeLine_eq];omega,?_⟩
    obtain⟨pl9,l9,g19,g29,g39,g49⟩:=tn.put
    refine⟨_,rfl,1,rfl,f,_,_,_,rfl,rfl,Zp.of tn.hf,g19,pl9,_,_,_,rfl,rfl,Y0.of g29,(show atI [V.bl _,V.ref l9] ((1:Nat):Int)=some (.ref l9) from Zj rfl),.inl ⟨rfl,_,Zp.of g39⟩,_,rfl,l9,_,_,rfl,rfl,g39,by rw[Z2,sizeLine_eq];show 0+1<=_;omega,?_⟩
    have gz:=gin_lens z tz
    rw[Ty (fun x hx=>by rw[Wt]at hx;cases hx;exact c)]at gl gz ⊢
    exact⟨_,_,_,_,rfl,g49 z.1,by omega,gz⟩
 ·obtain⟨o2,o3,ys,ls,rfl,t,_⟩:=hp
  rw[show B.take xs.length=B by rw[bs.1,W7]]at t
  exact⟨_,rfl,q f ys ls H' t⟩
end
end K97
namespace K97
open L2
theorem pt_truthK {X:Cx}{a:Expr}{ta:TE}(K:W.Frag)(hK:X.K=K)(ha:PE X a ta)(he:∀whole,isTrue a X.env whole=(do let v <-whole;standAt a.pos;holding [v] (truthy v))):PT X a (fun σ H Q=>ta σ H fun x H'=>∃k,TruV K x H' k/\Q k H'):=by
 subst hK
 exact Zo ha he
theorem cmpW_mono {J:It}{g:TG}{tt:TT}{te:TE}{Q Q':VK}{D:Addr}{σ0:L2.St}{H1:Hp}(h:∀x H,Q x H->Q' x H)(c:cmpW J g tt te Q D σ0 H1):cmpW J g tt te Q' D σ0 H1:=by
 obtain⟨W,w0,ws⟩:=c
 refine⟨W,w0,fun i m σ' H' w=>?_⟩
 rcases ws i m σ' H' w with⟨a,b⟩ | b
 ·exact .inl ⟨a,h _ _ b⟩
 ·exact .inr b
theorem alt_get:∀(R:List (List Int)) (b:Bool) (j:Nat),(BB.alt b R)[j]?=(R[j]?).map fun r=>(BB.par b j,r)
 |[],_,_=>rfl
 |r::R,b,0=>rfl
 |r::R,b,j+1=>alt_get R (!b) j
theorem alt_len:∀(R:List (List Int)) (b:Bool),(BB.alt b R).length=R.length
 |[],_=>rfl
 |r::R,b=>congrArg (· + 1) (alt_len R (!b))
def Al (H:Hp)(zs:List V)(R:List (List Int)):Prop:=zs.length=R.length/\∀(j:Nat) (r:List Int),R[j]?=some r->∃p l,zs[j]?=some (.ref p)/\H p=some (.tup [.bl (BB.par true j),.ref l])/\H l=some (.lst (r.map V.int))
theorem Al.same {H H':Hp}{zs:List V}{R:List (List Int)}(t:Al H zs R)(s:ZR H H'):Al H' zs R:=⟨t.1,fun j r e=>let⟨p,l,a,b,c⟩:=t.2 j r e;⟨p,l,a,s _ _ b,s _ _ c⟩⟩
theorem Rs.al {H0 H:Hp}{f:Addr}{pre:List (Bool×List Int)}{R:List (List Int)}{ys:List V}{ls:List Addr}(t:Rs H0 H f (pre++BB.alt true R) ys ls):Al H (ys.drop pre.length) R:=by
 refine⟨by rw[Yz,t.ly,Z6,alt_len,Nat.add_sub_cancel_left],fun j r e=>?_⟩
 have jl:j<R.length:=(List.getElem?_eq_some_iff.mp e).1
 have e1:(pre++BB.alt true R)[pre.length+j]?=some (BB.par true j,r):=by
  rw[ZU (by omega),Nat.add_sub_cancel_left,alt_get,e]
  rfl
 have ll:=t.ll
 rw[Z6,alt_len]at ll
 obtain⟨p,a,b,c⟩:=t.at_ _ _ _ e1 (Z1 (show pre.length+j<ls.length by omega))
 exact⟨p,_,by rw[XA];exact a,b,c⟩
theorem Al.getD {H:Hp}{zs:List V}{R:List (List Int)}(t:Al H zs R){j:Nat}(h:j<R.length):∃p l,zs[j]?=some (.ref p)/\H p=some (.tup [.bl (BB.par true j),.ref l])/\H l=some (.lst ((R.getD j []).map V.int)):=by
 obtain⟨p,l,a,b,c⟩:=t.2 j _ (Z1 h)
 exact⟨p,l,a,b,by rw[Z4,Z1 h];exact c⟩
def spDue:Sp:=fun vs H Q _=>∃(a:Addr) (row:List Int),vs=[.ref a]/\H a=some (.tup (row.map V.int))/\row.Pairwise (· < ·)/\row.length<=12/\
 ∀(r:Addr) (ys:List V) (H':Hp),ZR H H'->H' r=some (.lst ys)->Ws H' ys (BB.wvs 12 (BB.lr 25 row))->Q (.ref r) H'
structure Du (H0 H:Hp)(t bx:Addr)(W0:List (List Int×List Int))(E:List Int)(R:List (List Int))(N n:Nat)(W:List (List Int×List Int)):Prop where
 sm:ZR H0 H
 t0:H0 t=none
 ty:∃ys,H t=some (.lst ys)/\Ws H ys W
 by_:∃xs,H bx=some (.lst xs)/\Bs H xs (BB.bx E R)
 nd:((BB.bx E R).map (·.1)).Nodup
 gd:BB.Gd N R
 nn:N<=n
 wl:W.length+n<=12
 ww:W++BB.wvs n R=W0
 bl:(BB.bx E R).length<=400
theorem Bs.same {H H':Hp}{ys:List V}{B:List (Int×Bool)}(t:Bs H ys B)(s:ZR H H'):Bs H' ys B:=t.keep fun _ _ e=>s _ _ e
def U0 (B:List (Int×Bool)):List Int:=(B.filter fun z=>z.2).map (·.1)
theorem balls_nil (E:List Int):U0 (BB.bx E [])=[]:=by
 unfold U0 BB.bx
 rw[show BB.fl true []=[] from rfl,YV,List.filter_eq_nil_iff.mpr,map_nil]
 intro z hz
 obtain⟨p,_,rfl⟩:=YC.mp hz
 exact Bool.false_ne_true
theorem balls_some {E:List Int}{r:List Int}{R:List (List Int)}(h:r≠[]):U0 (BB.bx E (r::R))≠[]:=by
 cases r with
 |nil=>exact absurd rfl h
 |cons p r=>
  have:p∈U0 (BB.bx E ((p::r)::R)):=YC.mpr ⟨(p,true),Yt.mpr ⟨ZO _ (Y1 _ ZW),rfl⟩,rfl⟩
  intro z
  rw[z]at this
  cases this
def lenB (σ:L2.St)(H:Hp):Nat:=match σ with
 |[_,some (V.ref p),_,_,_,_,_,_]=>(match H p with | some (.lst xs)=>xs.length | _=>0)
 |_=>0
theorem lenB_at {H:Hp}{o1 o2 o3 o4 o5 o6 o7:Option V}{p:Addr}{zs:List V}(h:H p=some (.lst zs)):lenB [o1,some (.ref p),o2,o3,o4,o5,o6,o7] H=zs.length:=by
 show(match H p with | some (.lst xs)=>xs.length | _=>0)=_
 rw[h]
theorem US {l:List (Int×Bool)}{k:Nat}{b:Int×Bool}(h:l[k]?=some b):l.getD k (0,false)=b:=by rw[Z4,h];rfl
theorem Bs.pick {H:Hp}{xs:List V}{B:List (Int×Bool)}(t:Bs H xs B)(q:Int×Bool->Bool):Bs H (((List.range xs.length).filter fun j=>q (B.getD j (0,false))).map fun j=>xs.getD j V.non) (B.filter q):=by
 have e0:=BB.XZ (0,false) B q id
 rw[List.map_id]at e0
 rw[<-e0,t.1]
 refine⟨by rw[Z2,Z2],fun j b e=>?_⟩
 rw[ZQ]at e
 obtain⟨i,ei,eb⟩:=Xd.mp e
 have il:i<B.length:=Ys.mp (Yt.mp (Zh ei)).1
 have gi:=Z1 il
 have ebb:B[i]?=some b:=by rw[gi,<-eb];show some _=some (id _);rw[US gi];rfl
 obtain⟨p,e1,e2⟩:=t.2 i b ebb
 refine⟨p,?_,e2⟩
 rw[ZQ,ei]
 show some (xs.getD i V.non)=_
 rw[Z4,e1]
 rfl
theorem bx_ne {H:Hp}{t bx:Addr}{ys xs:List V}{B:List (Int×Bool)}{W:List (List Int×List Int)}(hb:H bx=some (.lst xs))(bs:Bs H xs B)(h0:B≠[])(ht:H t=some (.lst ys))(ws:Ws H ys W):bx≠t:=fun z=>by
 rw[z,ht]at hb
 have e:ys=xs:=HO.lst.inj (Option.some.inj hb)
 have r0:0<B.length:=Y9.mpr h0
 obtain⟨p,e1,e2⟩:=bs.2 0 _ (Z1 r0)
 have w0:0<W.length:=by rw[<-ws.1,e,bs.1];exact r0
 obtain⟨q,qa,qb,f1,f2,_⟩:=ws.2 0 _ (Z1 w0)
 rw[e,e1]at f1
 cases f1
 rw[e2]at f2
 cases f2
def stA (σ:L2.St):Int:=match σ[4]? with
 |some (some (V.int x))=>x
 |_=>0
section
variable {P:Program}{w:World}{K:W.Frag}{mg:Str->Option Value}{base:Heap}
theorem ok_L_due {f:Addr}{fd:FuncData}(F:XH K "_law_due" "_law_due" TZ f fd)(nb:NbE mg)(h_L_boxes:YR P w K mg base 1 "_law_boxes" ["_law_row"] spBoxes)(h_L_runs:YR P w K mg base 1 "_law_runs" ["_law_boxes_here"] spRn)  :
 Y6 P w K mg base XB 2 f fd ["_law_row"] spDue:=by
 have nd:=sc_L_due.nd
 refine F.ok (k:=1) sc_L_due (fun vs H Q E h=>?_) (fun cdv A outer s H vs Q E hr h=>?_)
 ·obtain⟨a,row,rfl,_⟩:=h
  rfl
 obtain⟨a,row,rfl,ha,up,r12,q⟩:=h
 refine⟨_,(Z7 (ZH (i:=1) nd rfl (Or.inl rfl) (ZI h_L_boxes hr (Z0 (pv 0) Z3)))
(Z7 (ZH (i:=2) nd rfl (Or.inl rfl) (Y2 Z3))
(Z7 (WQ PassesOwn.never (Zr (op_neNil hr.units0) (Vf (sc:=ZY TZ) (N0:=["_law_row","_law_boxes_here","_law_found","_law_runs_here","_law_at","_law_many","_law_wave","_law_gone"]) (N:=[]) (js:=[]) rfl rfl rfl (by constructor<;>first|decide +kernel|rfl) rfl rfl
(XN (pv 1))
(fun _ _ _ _ _=>by exact(XW (pt_truthK K rfl (pv 1) (fun _=>rfl))))
(fun _ _ _ _ _=>by exact(pv 0))) (Y2 Z3) (Zf _))
(Z7 (ZH (i:=3) nd rfl (Or.inl rfl) (ZI h_L_runs hr (Z0 (pv 1) Z3)))
(Z7 (ps_mid (YX (Yx (Zo (Zm YT (Zm Zk (pv 3) ZZ (fun _ _=>rfl)) ZZ (fun _ _=>rfl)) (fun _=>rfl)))
(ZX (ZH (i:=3) nd rfl (Or.inl rfl) (Ym Xc (pv 3) (X8 ZZ) XO)))
Zg))
(Z7 (ZH (i:=4) nd rfl (Or.inl rfl) ZZ)
(Z7 (WQ PassesOwn.never (Zr op_gt (ZJ Zx rfl nb.len PySem.boot_len (Z0 (Zm YT (Zm Zk (pv 3) (pv 4) (fun _ _=>rfl)) ZZ (fun _ _=>rfl)) Z3)) (ZJ Zx rfl nb.len PySem.boot_len (Z0 (Zm YT (Zm Zk (pv 3) (ZG Zn (pv 4) ZZ) (fun _ _=>rfl)) ZZ (fun _ _=>rfl)) Z3)) (Zf _))
(ZX (ZH (i:=4) nd rfl (Or.inl rfl) (ZG Zn (pv 4) ZZ))))
(Z7 (ZH (i:=5) nd rfl (Or.inl rfl) (ZJ Zx rfl nb.len PySem.boot_len (Z0 (Zm YT (Zm Zk (pv 3) (pv 4) (fun _ _=>rfl)) ZZ (fun _ _=>rfl)) Z3)))
(Z7 (ZH (i:=6) nd rfl (Or.inl rfl) (Y2 (Z0 (Zy Zz rfl nb.tuple boot_tuple (Z0 (Zm YT (Zm Zk (pv 3) (pv 4) (fun _ _=>rfl)) ZZ (fun _ _=>rfl)) Z3)) (Z0 (Zy Zz rfl nb.tuple boot_tuple (Z0 (Ym Xc (Zm YT (Zm Zk (pv 3) (ZG Zn (pv 4) ZZ) (fun _ _=>rfl)) ZZ (fun _ _=>rfl)) XO (X8 (pv 5))) Z3)) Z3))))
(Z7 (ZH (i:=7) nd rfl (Or.inr rfl) (ZG TK (Zm Zk (pv 6) ZZ (fun _ _=>rfl)) (Zm Zk (pv 6) ZZ (fun _ _=>rfl))))
(Z7 (YQ (XF Zu PySem.F.slot_list_append PySem.F.type_list_append Y8 (pv 2) (Z0 (TQ (Zo (Zm YT (Zm Zk (pv 3) (pv 4) (fun _ _=>rfl)) ZZ (fun _ _=>rfl)) (fun _=>rfl)) (Zy Zz rfl nb.tuple boot_tuple (Z0 (pv 6) Z3)) (Zy Zz rfl nb.tuple boot_tuple (Z0 (pe_revL (pv 6)) Z3))) Z3)))
(ZX (VR (ii:=1) nd rfl (Or.inl rfl) (sc:=ZY TZ) (N0:=["_law_row","_law_boxes_here","_law_found","_law_runs_here","_law_at","_law_many","_law_wave","_law_gone"]) (N:=["_law_gone"]) (js:=[7]) rfl rfl rfl (by constructor<;>first|decide +kernel|rfl) rfl
(XN (pv 1))
(fun _ _ _ _ _=>by exact(XW (Zr (W5 K rfl) (Zm (show IxR _ (rIxT K) from YT) (pv 0) ZZ (fun _ _=>rfl)) (pv 1) rfl)))
(fun _ _ _ _ _=>by exact(pv 0)))))))))))))
(ZX (ZE (pv 2)))))),?_⟩
 refine⟨_,rfl,a,row,rfl,ha,up,r12,fun b0 xs0 H1 s1 h1 bs1=>?_⟩
 refine⟨(by show 0<=sizeLine;decide),fun t ht=>?_⟩
 have s2:=Z9 ht (.lst [])
 have t00:H t=none:=by
  cases e9:H t with
  |none=>rfl
  |some o=>rw[s1 _ _ e9]at ht;cases ht
 have gd:=BB.TC (c:=25) (row:=row) (by omega) up
 have eb:BB.lbx row=BB.bx [] (BB.lr 25 row):=BB.lbx_is row
 have nd0:((BB.bx [] (BB.lr 25 row)).map (·.1)).Nodup:=by rw[<-eb];exact(BB.lbx_up up).1.imp fun h=>by omega
 have bl0:(BB.bx [] (BB.lr 25 row)).length<=400:=by
  rw[<-eb,<-box_all]
  have:=box_lens row row.length
  omega
 have du0:Du H (upd H1 t (.lst [])) t b0 (BB.wvs 12 (BB.lr 25 row)) [] (BB.lr 25 row) row.length 12 []:=⟨s1.trans s2,t00,⟨[],Z5,rfl,fun j z e=>by cases e⟩,⟨xs0,s2 _ _ h1,by rw[<-eb];exact bs1.same s2⟩,nd0,gd,r12,Nat.le_refl _,rfl,bl0⟩
 generalize upd H1 t (.lst [])=H2 at du0 ⊢
 dsimp only
 refine VW ?_
 refine WU (fun σ H'=>∃bx E R N n W o3 o4 o5 o6 o7,σ=[some (.ref a),some (.ref bx),some (.ref t),o3,o4,o5,o6,o7]/\Du H H' t bx (BB.wvs 12 (BB.lr 25 row)) E R N n W) lenB ⟨b0,_,_,_,_,_,_,_,_,_,_,rfl,du0⟩ (fun σ H' hp=>?_) (fun σ H Q Q' hq h=>?_)
 ·obtain⟨bx,E,R,N,n,W,o3,o4,o5,o6,o7,rfl,du⟩:=hp
  obtain⟨xs,hb,bs⟩:=du.by_
  obtain⟨ys,hty,ws⟩:=du.ty
  have lm:=lenB_at (o1:=some (V.ref a)) (o2:=some (V.ref t)) (o3:=o3) (o4:=o4) (o5:=o5) (o6:=o6) (o7:=o7) hb
  have bl:=du.bl
  have lx:=bs.1
  -- are there U0
  refine⟨_,rfl,bx,rfl,⟨_,Zp.of hb⟩,fun D hD=>?_⟩
  refine Yr xs.length (by rw[sizeLine_eq];omega) (fun j=>((BB.bx E R).getD j (0,false)).2) (fun j=>.int ((BB.bx E R).getD j (0,false)).1) (fun σ=>∃o1 o2,σ=[o1,o2]) _ hD (by exact⟨_,_,rfl⟩) (YA hb) (fun j x σ' H3 hj s3 im hσ Rr S hR hS=>?_) (fun H3 s3 hD3=>?_)
  ·obtain⟨o1,o2,rfl⟩:=hσ
   obtain⟨p,z,rfl,ez,hz⟩:=bs_get bs im
   rw[US ez]at hR hS
   refine⟨p,_,rfl,Y0.of (s3 _ _ hz),rfl,_,_,rfl,_,_,rfl,rfl,?_⟩
   refine⟨_,rfl,z.2,rfl,?_⟩
   cases c:z.2 with
   |true=>exact iteT ⟨_,rfl,hR c _ _ _ ⟨_,_,rfl⟩ (ZR.refl _) rfl⟩
   |false=>exact iteF (hS c _ _ ⟨_,_,rfl⟩ (ZR.refl _))
  rw[lx,BB.XZ (0,false) (BB.bx E R) (fun z=>z.2) (fun z=>V.int z.1)]at hD3
  have hD4:H3 D=some (.lst ((U0 (BB.bx E R)).map V.int)):=by rw[hD3];unfold U0;rw[Y5];rfl
  refine⟨(by show 0<=sizeLine;decide),fun e he=>?_⟩
  have s4:=Z9 he (.lst [])
  refine⟨D,e,_,rfl,rfl,Zp.of (s4 _ _ hD4),Zp.of Z5,_,rfl,?_⟩
  have S4:=s3.trans s4
  generalize upd H3 e (.lst [])=H4 at S4 ⊢
  by_cases e0:R=[]
  ·subst e0
   rw[balls_nil]
   refine iteF ?_
   have ww:=du.ww
   rw[BB.wvs_nil,YV]at ww
   rw[ww]at ws
   exact⟨_,rfl,q t ys H4 (du.sm.trans S4) (S4 _ _ hty) (ws.same S4)⟩
  have bn:U0 (BB.bx E R)≠[]:=by
   cases R with
   |nil=>exact absurd rfl e0
   |cons r R=>exact balls_some (du.gd.ne r ZW)
  have be:((U0 (BB.bx E R)).map V.int).isEmpty=false:=by cases h9:U0 (BB.bx E R) with | nil=>exact absurd h9 bn | cons _ _=>rfl
  rw[be]
  refine iteT ?_
  have bs4:=bs.same S4
  refine⟨_,rfl,bx,xs,_,rfl,S4 _ _ hb,bs4,by omega,fun f ys2 ls H5 rs=>?_⟩
  rw[BB.grp_bx du.gd.ne]at rs
  have S5:=S4.trans rs.sm
  have R0:∃r R',R=r::R':=by cases R with | nil=>exact absurd rfl e0 | cons r R'=>exact⟨r,R',rfl⟩
  refine⟨fun σ' H'=>∃rl zs o4 o5 o6 o7,σ'=[some (.ref a),some (.ref bx),some (.ref t),some (.ref rl),o4,o5,o6,o7]/\ZR H5 H'/\H' rl=some (.lst zs)/\Al H' zs R,?_,fun σ' H' hm=>?_⟩
  ·by_cases eE:E=[]
   ·rw[if_pos eE]at rs
    have al:=rs.al
    rw[Wk,drop_zero]at al
    obtain⟨p,l,g1,g2,g3⟩:=al.getD (j:=0) (Y9.mpr e0)
    refine⟨_,rfl,f,_,_,_,rfl,rfl,Zp.of rs.hf,(show atI ys2 ((0:Nat):Int)=_ from Zj g1),p,_,_,_,rfl,rfl,Y0.of g2,(show atI [V.bl true,V.ref l] ((0:Nat):Int)=some (.bl true) from Zj rfl),true,rfl,iteF ?_⟩
    exact⟨f,ys2,_,_,_,_,rfl,ZR.refl _,rs.hf,al⟩
   ·rw[if_neg eE]at rs
    have al:=rs.al
    have g0:∃p l,ys2[0]?=some (.ref p)/\H5 p=some (.tup [.bl false,.ref l]):=by
     have l0:0<ls.length:=by rw[rs.ll,Z6,ZN];omega
     obtain⟨p,a1,a2,_⟩:=rs.at_ 0 (false,E) _ rfl (Z1 l0)
     exact⟨p,_,a1,a2⟩
    obtain⟨p,l,g1,g2⟩:=g0
    refine⟨_,rfl,f,_,_,_,rfl,rfl,Zp.of rs.hf,(show atI ys2 ((0:Nat):Int)=_ from Zj g1),p,_,_,_,rfl,rfl,Y0.of g2,(show atI [V.bl false,V.ref l] ((0:Nat):Int)=some (.bl false) from Zj rfl),false,rfl,iteT ?_⟩
    refine⟨_,rfl,_,rfl,f,_,rfl,Zp.of rs.hf,fun rl hrl=>?_⟩
    rw[show(1:Int)=((1:Nat):Int) from rfl,WN]
    have k:=Z9 hrl (.lst (ys2.drop 1))
    exact⟨rl,_,_,_,_,_,rfl,k,Z5,al.same k⟩
  obtain⟨rl,zs,o4,o5,o6,o7,rfl,s6,hrl,al⟩:=hm
  have S6:=S5.trans s6
  obtain⟨pre,s,g,post,eR,ef,lsg⟩:=du.gd.at e0
  -- where
  show tSeq (tWhile _ _) _ _ _ _
  refine VW ?_
  refine WU (fun σ H7=>ZR H' H7/\∃j:Nat,σ=[some (.ref a),some (.ref bx),some (.ref t),some (.ref rl),some (.int (j:Int)),o5,o6,o7]/\j<=BB.fs R) (fun σ _=>((BB.fs R:Int) - stA σ).toNat) ⟨ZR.refl _,0,rfl,Yp _⟩ (fun σ H7 hp=>?_) (fun σ H Q Q' hq h=>?_)
  ·obtain⟨sm7,j,rfl,hj⟩:=hp
   have flt:BB.fs R+1<R.length:=by rw[ef,eR];simp only[Z6,ZM];omega
   obtain⟨p1,l1,g1,g2,g3⟩:=al.getD (j:=j) (by omega)
   obtain⟨p2,l2,h1,h2,h3⟩:=al.getD (j:=j+1) (by omega)
   have ib:∀{b:Bool} {l:Addr},atI [V.bl b,V.ref l] ((1:Nat):Int)=some (.ref l):=Zj rfl
   have ia:∀{b:Bool} {l:Addr},atI [V.bl b,V.ref l] ((0:Nat):Int)=some (.bl b):=Zj rfl
   have at2:atI zs ((j:Int)+1)=some (.ref p2):=by rw[show((j:Int)+1)=((j+1:Nat):Int) by omega];exact Zj h1
   refine⟨_,rfl,_,rfl,rl,_,_,_,rfl,rfl,Zp.of (sm7 _ _ hrl),Zj g1,p1,_,_,_,rfl,rfl,Y0.of (sm7 _ _ g2),ib,l1,_,rfl,.inl (Zp.of (sm7 _ _ g3)),?_⟩
   refine⟨_,rfl,_,rfl,_,_,rfl,rfl,rl,_,_,_,rfl,rfl,Zp.of (sm7 _ _ hrl),at2,p2,_,_,_,rfl,rfl,Y0.of (sm7 _ _ h2),ib,l2,_,rfl,.inl (Zp.of (sm7 _ _ h3)),_,_,rfl,rfl,_,rfl,?_⟩
   rw[Z2,Z2]
   by_cases c:j<BB.fs R
   ·have:=BB.fs_lt R j c
    rw[decide_eq_true (by omega)]
    refine iteT ?_
    refine⟨_,rfl,_,_,rfl,rfl,⟨sm7,j+1,by rw[show((j+1:Nat):Int)=(j:Int)+1 by omega];rfl,c⟩,?_⟩
    show((BB.fs R:Int) - ((j:Int)+1)).toNat<((BB.fs R:Int) - (j:Int)).toNat
    omega
   have ej:j=pre.length:=by omega
   subst ej
   have es:R.getD pre.length []=s:=by rw[eR];exact BB.Xn _ _ _ _
   have eg:R.getD (pre.length+1) []=g:=by rw[eR];exact BB.Xx _ _ _ _ _
   rw[es,eg,decide_eq_false (by omega)]
   rw[es]at g3
   rw[eg]at h3
   refine iteF ?_
   have G1:=sm7 _ _ hrl
   have G2:=sm7 _ _ g2
   have G3:=sm7 _ _ g3
   have F2:=sm7 _ _ h2
   have F3:=sm7 _ _ h3
   -- the wave
   refine⟨_,rfl,_,rfl,rl,_,_,_,rfl,rfl,Zp.of G1,Zj g1,p1,_,_,_,rfl,rfl,Y0.of G2,ib,l1,_,rfl,.inl (Zp.of G3),?_⟩
   refine⟨_,rfl,_,rfl,rl,_,_,_,rfl,rfl,Zp.of G1,Zj g1,p1,_,_,_,rfl,rfl,Y0.of G2,ib,l1,_,rfl,.inl ⟨Zp.of G3,fun t1 ht1=>?_⟩⟩
   have k1:=Z9 ht1 (.tup (s.map V.int))
   have f1:(upd H7 t1 (.tup (s.map V.int))) t1=some (.tup (s.map V.int)):=Z5
   generalize upd H7 t1 (.tup (s.map V.int))=H8 at k1 f1 ⊢
   refine⟨_,rfl,_,rfl,_,_,rfl,rfl,rl,_,_,_,rfl,rfl,Zp.of (k1 _ _ G1),at2,p2,_,_,_,rfl,rfl,Y0.of (k1 _ _ F2),ib,_,rfl,_,rfl,l2,_,rfl,Zp.of (k1 _ _ F3),fun t2 ht2=>?_⟩
   rw[Z2,cut_to,<-map_take]
   refine⟨t2,_,rfl,.inl ⟨Zp.of Z5,fun t3 ht3=>?_⟩⟩
   have k3:=(Z9 ht2 (.lst ((g.take s.length).map V.int))).trans (Z9 ht3 (.tup ((g.take s.length).map V.int)))
   have f3:(upd (upd H8 t2 (.lst ((g.take s.length).map V.int))) t3 (.tup ((g.take s.length).map V.int))) t3=some (.tup ((g.take s.length).map V.int)):=Z5
   generalize upd (upd H8 t2 (.lst ((g.take s.length).map V.int))) t3 (.tup ((g.take s.length).map V.int))=H9 at k3 f3 ⊢
   refine⟨(by show 2<=sizeLine;decide),fun wa hwa=>?_⟩
   have k4:=Z9 hwa (.lst [.ref t1,.ref t3])
   have f4:(upd H9 wa (.lst [.ref t1,.ref t3])) wa=some (.lst [.ref t1,.ref t3]):=Z5
   generalize upd H9 wa (.lst [.ref t1,.ref t3])=HA at k4 f4 ⊢
   have K4:=k1.trans (k3.trans k4)
   have f14:=k4 _ _ (k3 _ _ f1)
   have f34:=k4 _ _ f3
   have w0:atI [V.ref t1,V.ref t3] ((0:Nat):Int)=some (.ref t1):=Zj rfl
   have w1:atI [V.ref t1,V.ref t3] ((1:Nat):Int)=some (.ref t3):=Zj rfl
   have nl:s.length<=400/\g.length<=400:=by
    have e9:(BB.bx E R).length=E.length+R.flatten.length:=by
     unfold BB.bx
     rw[Z6,Z2,<-BB.SM R true,Z2]
    have:=BB.mem_flat (R:=R) (n:=400) (by omega)
    exact⟨this s (by rw[eR];simp),this g (by rw[eR];simp)⟩
   refine⟨_,rfl,wa,_,_,_,rfl,rfl,Zp.of f4,w0,_,rfl,wa,_,_,_,rfl,rfl,Zp.of f4,w1,t1,t3,_,_,rfl,rfl,f14,f34,by rw[Z2,Z2,Za,sizeLine_eq];omega,fun ga HB sB hB=>?_⟩
   have hgo:HB ga=some (.tup ((s++g.take s.length).map V.int)):=by rw[hB,ZB]
   have K5:=K4.trans sB
   have SS:=S6.trans (sm7.trans K5)
   have htB:=SS _ _ hty
   have wsB:=ws.same SS
   have hbB:=SS _ _ hb
   have bsB:=bs.same SS
   have bne:BB.bx E R≠[]:=fun z=>bn (by rw[z];rfl)
   have rne:=bx_ne hbB bsB bne htB wsB
   have gd:=du.gd
   rw[eR]at gd
   have sz:=(gd.size lsg).1
   have s1':1<=s.length:=Y9.mpr (gd.ne s (by simp))
   have nn:=du.nn
   have wl:=du.wl
   obtain⟨n',en⟩:∃n',n=n'+1:=⟨n - 1,by omega⟩
   subst en
   have yl:ys.length<=12:=by rw[ws.1];omega
   have fin:∀(HX:Hp) (pa pb p:Addr),ZR HB HX->HX p=none->HX pa=some (.tup ((BB.wv R pre.length).1.map V.int))->HX pb=some (.tup ((BB.wv R pre.length).2.map V.int))->
    (upd HX p (.tup [.ref pa,.ref pb])) t=some (.lst ys)/\(upd (upd HX p (.tup [.ref pa,.ref pb])) t (.lst (ys++[.ref p]))) bx=some (.lst xs)/\Bs (upd (upd HX p (.tup [.ref pa,.ref pb])) t (.lst (ys++[.ref p]))) xs (BB.bx E R)/\
    (upd (upd HX p (.tup [.ref pa,.ref pb])) t (.lst (ys++[.ref p]))) ga=some (.tup ((s++g.take s.length).map V.int))/\ZR H (upd (upd HX p (.tup [.ref pa,.ref pb])) t (.lst (ys++[.ref p])))/\
    (upd (upd HX p (.tup [.ref pa,.ref pb])) t (.lst (ys++[.ref p]))) t=some (.lst (ys++[.ref p]))/\Ws (upd (upd HX p (.tup [.ref pa,.ref pb])) t (.lst (ys++[.ref p]))) (ys++[.ref p]) (W++[BB.wv R pre.length]):=by
    intro HX pa pb p sX hp hpa hpb
    have kp:=Z9 hp (.tup [.ref pa,.ref pb])
    have fp:(upd HX p (.tup [.ref pa,.ref pb])) p=some (.tup [.ref pa,.ref pb]):=Z5
    have kX:=sX.trans kp
    have hpa':=kp _ _ hpa
    have hpb':=kp _ _ hpb
    generalize upd HX p (.tup [.ref pa,.ref pb])=G at kp fp kX hpa' hpb' ⊢
    have ht':=kX _ _ htB
    have tupk:∀q zs,G q=some (.tup zs)->(upd G t (.lst (ys++[.ref p]))) q=some (.tup zs):=fun q zs e=>by
     rw[ZS (fun z=>by rw[z,ht']at e;cases e)]
     exact e
    refine⟨ht',by rw[ZS rne];exact kX _ _ hbB,(bsB.same kX).keep tupk,tupk _ _ (kX _ _ hgo),fun c o e=>?_,Z5,Ws.snoc ((wsB.same kX).keep tupk) (tupk _ _ fp) (tupk _ _ hpa') (tupk _ _ hpb')⟩
    rw[ZS (ZP e du.t0)]
    exact kX _ _ (SS _ _ (du.sm _ _ e))
   have clo:∀(HY HC:Hp) (D p:Addr) (vs:List V),ZR H HY->HY t=some (.lst (ys++[.ref p]))->Ws HY (ys++[.ref p]) (W++[BB.wv R pre.length])->ZR HY HC->HC D=some (.lst vs)->Bs HY vs ((BB.bx E R).filter fun z=>decide (z.1∉s++g.take s.length))->
    Du H HC t D (BB.wvs 12 (BB.lr 25 row)) (if pre=[] then E++g.drop s.length else E) (BB.wo R pre.length) (N - s.length) n' (W++[BB.wv R pre.length])/\vs.length<xs.length:=by
    intro HY HC D p vs a1 a2 a3 a4 a5 a6
    have nd:=du.nd
    have ww:=du.ww
    have e1:BB.wvs (n'+1) R=BB.wv R pre.length::BB.wvs n' (BB.wo R pre.length):=by
     show(if R=[] then _ else _)=_
     rw[if_neg e0,ef]
    rw[e1]at ww
    have lt:((BB.bx E R).filter fun z=>decide (z.1∉s++g.take s.length)).length<(BB.bx E R).length:=by
     obtain⟨x,hx⟩:=List.exists_mem_of_length_pos s1'
     have xm:x∈(BB.bx E R).map (·.1):=by
      unfold BB.bx
      rw[ZB,BB.SM,eR]
      refine ZO _ (List.mem_flatten.mpr ⟨s,by simp,hx⟩)
     obtain⟨z,hz,rfl⟩:=YC.mp xm
     refine Nat.lt_of_le_of_ne (Yh _ _) fun w=>?_
     have:=List.length_filter_eq_length_iff.mp w z hz
     exact of_decide_eq_true this (Y1 _ hx)
    have ndf:(((BB.bx E R).filter fun z=>decide (z.1∉s++g.take s.length)).map (·.1)).Nodup:=nd.sublist (List.filter_sublist.map _)
    have lv:=a6.1
    rw[eR]at nd
    have bo:=BB.bx_out nd lsg
    rw[<-eR]at bo
    rw[bo]at ndf lt lv
    have gw:=gd.wo lsg
    rw[<-eR]at gw
    refine⟨⟨a1.trans a4,du.t0,⟨_,a4 _ _ a2,a3.same a4⟩,⟨vs,a5,?_⟩,ndf,gw,by omega,by rw[Z6,ZN];omega,by rw[List.append_assoc];exact ww,by omega⟩,by omega⟩
    rw[<-bo]
    exact a6.same a4
   refine⟨_,rfl,.inl ⟨rfl,_,Zp.of htB⟩,_,rfl,_,rfl,rl,_,_,_,rfl,rfl,Zp.of (K5 _ _ G1),Zj g1,p1,_,_,_,rfl,rfl,Y0.of (K5 _ _ G2),ia,BB.par true pre.length,rfl,?_⟩
   have f45:=sB _ _ f4
   by_cases c:pre.length % 2=0
   ·rw[show BB.par true pre.length=true by rw[BB.TN,if_pos c]]
    refine iteT ?_
    have e1:BB.wv R pre.length=(s,g.take s.length):=by unfold BB.wv;rw[if_pos c,es,eg]
    refine⟨_,rfl,wa,_,rfl,.inl ⟨Zp.of f45,fun p hp=>?_⟩⟩
    obtain⟨q1,q2,q3,q4,q5,q6,q7⟩:=fin HB t1 t3 p (ZR.refl _) hp (by rw[e1];exact sB _ _ f14) (by rw[e1];exact sB _ _ f34)
    refine⟨t,_,_,rfl,rfl,q1,by rw[sizeLine_eq];omega,?_⟩
    refine⟨_,rfl,bx,rfl,⟨_,Zp.of q2⟩,fun D hD=>?_⟩
    refine Yr xs.length (by rw[sizeLine_eq];omega) (fun j=>decide (((BB.bx E R).getD j (0,false)).1∉s++g.take s.length)) (fun j=>xs.getD j .non) (fun σ=>∃o1,σ=[o1,some (.ref ga)]) _ hD (by exact⟨_,rfl⟩) (YA q2) (fun j x σ' HC hj sC im hσ Rr S hR hS=>?_) (fun HC sC hDC=>?_)
    ·obtain⟨o1,rfl⟩:=hσ
     have gj:xs.getD j .non=x:=by rw[Z4,im];rfl
     obtain⟨px,z,rfl,ez,hz⟩:=bs_get q3 im
     rw[US ez,gj]at hR
     rw[US ez]at hS
     refine⟨_,rfl,px,_,_,_,rfl,rfl,Y0.of (sC _ _ hz),(show atI [V.int z.1,V.bl z.2] ((0:Nat):Int)=some (.int z.1) from Zj rfl),_,rfl,ga,_,rfl,.inr (Y0.of (sC _ _ q4)),rfl,Xf _,_,rfl,?_⟩
     rw[Wb,if_pos rfl]
     by_cases m:z.1∈s++g.take s.length
     ·rw[decide_eq_true m]
      exact iteF (hS (decide_eq_false fun w=>w m) _ _ ⟨_,rfl⟩ (ZR.refl _))
     ·rw[decide_eq_false m]
      exact iteT ⟨_,rfl,hR (decide_eq_true m) _ _ _ ⟨_,rfl⟩ (ZR.refl _) rfl⟩
    obtain⟨c1,c2⟩:=clo _ HC D p _ q5 q6 q7 sC hDC (q3.pick (fun z=>decide (z.1∉s++g.take s.length)))
    refine⟨⟨D,_,_,_,_,_,_,_,_,_,_,rfl,c1⟩,?_⟩
    show lenB [_,some (V.ref D),_,_,_,_,_,_] _<_
    rw[lenB_at hDC,lm]
    exact c2
   ·rw[show BB.par true pre.length=false by rw[BB.TN,if_neg c];rfl]
    refine iteF ?_
    have e1:BB.wv R pre.length=(g.take s.length,s):=by unfold BB.wv;rw[if_neg c,es,eg]
    refine⟨_,rfl,wa,_,rfl,Zp.of f45,fun rv hrv=>?_⟩
    have kr:=Z9 hrv (.lst [V.ref t1,V.ref t3].reverse)
    refine⟨rv,_,rfl,.inl ⟨Zp.of Z5,fun p hp=>?_⟩⟩
    obtain⟨q1,q2,q3,q4,q5,q6,q7⟩:=fin _ t3 t1 p kr hp (by rw[e1];exact kr _ _ (sB _ _ f34)) (by rw[e1];exact kr _ _ (sB _ _ f14))
    refine⟨t,_,_,rfl,rfl,q1,by rw[sizeLine_eq];omega,?_⟩
    refine⟨_,rfl,bx,rfl,⟨_,Zp.of q2⟩,fun D hD=>?_⟩
    refine Yr xs.length (by rw[sizeLine_eq];omega) (fun j=>decide (((BB.bx E R).getD j (0,false)).1∉s++g.take s.length)) (fun j=>xs.getD j .non) (fun σ=>∃o1,σ=[o1,some (.ref ga)]) _ hD (by exact⟨_,rfl⟩) (YA q2) (fun j x σ' HC hj sC im hσ Rr S hR hS=>?_) (fun HC sC hDC=>?_)
    ·obtain⟨o1,rfl⟩:=hσ
     have gj:xs.getD j .non=x:=by rw[Z4,im];rfl
     obtain⟨px,z,rfl,ez,hz⟩:=bs_get q3 im
     rw[US ez,gj]at hR
     rw[US ez]at hS
     refine⟨_,rfl,px,_,_,_,rfl,rfl,Y0.of (sC _ _ hz),(show atI [V.int z.1,V.bl z.2] ((0:Nat):Int)=some (.int z.1) from Zj rfl),_,rfl,ga,_,rfl,.inr (Y0.of (sC _ _ q4)),rfl,Xf _,_,rfl,?_⟩
     rw[Wb,if_pos rfl]
     by_cases m:z.1∈s++g.take s.length
     ·rw[decide_eq_true m]
      exact iteF (hS (decide_eq_false fun w=>w m) _ _ ⟨_,rfl⟩ (ZR.refl _))
     ·rw[decide_eq_false m]
      exact iteT ⟨_,rfl,hR (decide_eq_true m) _ _ _ ⟨_,rfl⟩ (ZR.refl _) rfl⟩
    obtain⟨c1,c2⟩:=clo _ HC D p _ q5 q6 q7 sC hDC (q3.pick (fun z=>decide (z.1∉s++g.take s.length)))
    refine⟨⟨D,_,_,_,_,_,_,_,_,_,_,rfl,c1⟩,?_⟩
    show lenB [_,some (V.ref D),_,_,_,_,_,_] _<_
    rw[lenB_at hDC,lm]
    exact c2
  ·obtain⟨v1,x1,v2,x2,a1,b1,c1,d1,x3,x4,x5,x6,a2,b2,c2,d2,y3,y4,y5,y6,p1,ys1,z1,z2,h⟩:=h
   obtain⟨v3,x9,v4,xa,i1,i2,xb,xc,a3,b3,c3,d3,xd,xe,xf,xg,a4,b4,c4,d4,ya,yb,yc,yd,p2,ys2,xh,xi,j1,j2,xj,xk,k,xl,h⟩:=h
   exact⟨v1,x1,v2,x2,a1,b1,c1,d1,x3,x4,x5,x6,a2,b2,c2,d2,y3,y4,y5,y6,p1,ys1,z1,z2,v3,x9,v4,xa,i1,i2,xb,xc,a3,b3,c3,d3,xd,xe,xf,xg,a4,b4,c4,d4,ya,yb,yc,yd,p2,ys2,xh,xi,j1,j2,xj,xk,k,xl,hq _ _ h⟩
 ·obtain⟨v,e,a1,e1,sq,h⟩:=h
  refine⟨v,e,a1,e1,sq,fun D hD=>cmpW_mono (fun x H1 hx=>?_) (h D hD)⟩
  obtain⟨h1,h2⟩:=hx
  refine⟨h1,fun p hp=>?_⟩
  obtain⟨a,b,xs,e1,e2,s1,s2,k,e3,q1⟩:=h2 p hp
  exact⟨a,b,xs,e1,e2,s1,s2,k,e3,hq _ _ q1⟩
end
end K97
namespace K97
open L2
structure Nb4 (mg:Str->Option Value):Prop extends Nb3 mg where
 sum:mg "sum" = none
 verr:mg "ValueError" = none
theorem boot_VErr:bootBuiltins "ValueError" = some (.type "ValueError"):=by decide +kernel
structure Errs (K:W.Frag)(mg:Str->Option Value)(b c0 c1 c2 c3 c4:Addr):Prop where
 mb:mg "BallError" = some (.ref b)
 m0:mg "NoNumber" = some (.ref c0)
 m1:mg "NotFree" = some (.ref c1)
 m2:mg "TooLong" = some (.ref c2)
 m3:mg "NoRow" = some (.ref c3)
 m4:mg "BadNote" = some (.ref c4)
 eb:∃bm,Exc K b bm
structure Kind5 (K:W.Frag)(c0 c1 c2 c3 c4 C:Addr)(i:Nat):Prop where
 k0:YK K (.ref C) (.ref c0)=some (decide (0=i))
 k1:YK K (.ref C) (.ref c1)=some (decide (1=i))
 k2:YK K (.ref C) (.ref c2)=some (decide (2=i))
 k3:YK K (.ref C) (.ref c3)=some (decide (3=i))
 k4:YK K (.ref C) (.ref c4)=some (decide (4=i))
 kv:YK K (.ref C) (.type "ValueError")=some true
 lt:i<5
abbrev Rn:VK->VK:=fun Q _ H1=>Q .non H1
def Ec (K:W.Frag)(b c0 c1 c2 c3 c4:Addr):VK->XK:=fun Q c ea H1=>∃C bm e i,c=.ref C/\ea=some e/\H1 e=none/\Vx K C bm/\(Value.ref C::bm).contains (.ref b)=true/\Kind5 K c0 c1 c2 c3 c4 C i/\
 ∀H2,ZR (upd H1 e (Xe e C)) H2->Q (.int (i:Nat)) H2
theorem runs_imp {P:Program}{w:World}{K:W.Frag}{mg:Str->Option Value}{base:Heap}{k:Nat}{f:Addr}{H:Hp}{Q Q':VK}{E E':XK}(r:Runs P w K mg base k f H Q E)(hq:∀v H1,Q v H1->Q' v H1)(he:∀c a H1,E c a H1->E' c a H1) :
 Runs P w K mg base k f H Q' E':=fun A outer s hr e0=>codeAny_mono (r A outer s hr e0) fun rs s' h=>by
 cases rs with
 |error e=>obtain⟨a,c,H1,e1,F,q⟩:=h;exact⟨a,c,H1,e1,F,he _ _ _ q⟩
 |ok fl=>
  cases fl with
  |ret u=>obtain⟨v,H1,a,b,c,d,e,q⟩:=h;exact⟨v,H1,a,b,c,d,e,hq _ _ q⟩
  |next=>exact h
  |brk=>exact h
  |cont=>exact h
section
variable {P:Program}{w:World}{K:W.Frag}{mg:Str->Option Value}{base:Heap}{b c0 c1 c2 c3 c4:Addr}
theorem ok_L_refused {f:Addr}{fd:FuncData}(F:XH K "_law_refused" "_law_refused" Wg f fd)(nb:Nb4 mg)(er:Errs K mg b c0 c1 c2 c3 c4) :
 Y6 P w K mg base XB 6 f fd ["_law_call"] (spRef P w K mg base 5 Rn (Ec K b c0 c1 c2 c3 c4)):=by
 have nd:=T1.nd
 refine F.ok (k:=5) T1 (fun vs H Q E h=>?_) (fun cdv A outer s H vs Q E hr h=>?_)
 ·obtain⟨f,o,fd,rfl,_⟩:=h
  rfl
 obtain⟨f0,o,fd0,rfl,hf,hd,run⟩:=h
 obtain⟨bm,eb⟩:=er.eb
 have c_NoNumber:∃u,mg "NoNumber" = some u/\Zb (.ref c0) u:=⟨_,er.m0,rfl⟩
 have c_NotFree:∃u,mg "NotFree" = some u/\Zb (.ref c1) u:=⟨_,er.m1,rfl⟩
 have c_TooLong:∃u,mg "TooLong" = some u/\Zb (.ref c2) u:=⟨_,er.m2,rfl⟩
 have c_NoRow:∃u,mg "NoRow" = some u/\Zb (.ref c3) u:=⟨_,er.m3,rfl⟩
 have c_BadNote:∃u,mg "BadNote" = some u/\Zb (.ref c4) u:=⟨_,er.m4,rfl⟩
 refine⟨_,(Z7 (ZH (i:=1) nd rfl (Or.inl rfl) pe_non)
(Z7 (ps_try (k:=2) ⟨rfl,rfl,rfl⟩ nd rfl rfl rfl er.mb eb (pb_call (i:=0) hr rfl rfl) (fun A E=>by exact(ZX (ZH (i:=1) nd rfl (Or.inl rfl) (pv 2)))))
(Z7 (YX (Zr op_isN (pv 1) pe_non (Zf _))
(ZX (ZE pe_non))
Zg)
(Z7 (ZH (i:=3) nd rfl (Or.inl rfl) (Y2 (Z0 (ZJ W6 rfl nb.isi boot_isinstance (Z0 (pv 1) (Z0 (Yl c_NoNumber) Z3))) (Z0 (ZJ W6 rfl nb.isi boot_isinstance (Z0 (pv 1) (Z0 (Yl c_NotFree) Z3))) (Z0 (ZJ W6 rfl nb.isi boot_isinstance (Z0 (pv 1) (Z0 (Yl c_TooLong) Z3))) Z3)))))
(Z7 (ZH (i:=3) nd rfl (Or.inl rfl) (ZG Wo (pv 3) (Y2 (Z0 (ZJ W6 rfl nb.isi boot_isinstance (Z0 (pv 1) (Z0 (Yl c_NoRow) Z3))) (Z0 (ZJ W6 rfl nb.isi boot_isinstance (Z0 (pv 1) (Z0 (Yl c_BadNote) Z3))) Z3)))))
(Z7 (YX (PW.pt (WR (Yx (Zo (ZJ W6 rfl nb.isi boot_isinstance (Z0 (pv 1) (Z0 (Wd nb.verr boot_VErr) Z3))) (fun _=>rfl))) (Xu (Zr op_ne (ZJ (call_sumI rfl) rfl nb.sum boot_sum (Z0 (YU (sc:=ZY Wg) (N0:=["_law_call","_law_error","e","_law_sorts"]) (N:=[]) (js:=[]) rfl rfl rfl (by constructor<;>first|decide +kernel|rfl) rfl
(XN (pv 3))
(fun _ _ _ _ _=>by exact YI)
(fun _ _ _ _ _=>by exact(Zy call_int1 rfl nb.int boot_int (Z0 (pv 0) Z3)))) Z3)) ZZ (Zf _)))))
(ZX (ZE (XG Yn ZZ)))
Zg)
(ZX (ZE (XF Zu PySem.F.slot_list_index PySem.F.type_list_index mt_indexT (pv 3) (Z0 Yk Z3)))))))))),?_⟩
 refine⟨f0,o,fd0,rfl,hf,hd,runs_imp run (fun v H1 q=>?_) (fun c ea H1 q=>?_)⟩
 ·exact⟨_,rfl,rfl,_,rfl,iteT q⟩
 obtain⟨C,bm2,e,i,rfl,rfl,he,ex,hin,kd,q⟩:=q
 refine⟨C,bm2,e,rfl,rfl,ex,hin,_,rfl,?_⟩
 have hE:(upd H1 e (Xe e C)) e=some (Xe e C):=Z5
 generalize upd H1 e (Xe e C)=G at hE q ⊢
 refine⟨_,rfl,rfl,_,rfl,iteF ?_⟩
 refine⟨_,rfl,e,C,bm2,_,_,rfl,hE,ex,.inl ⟨c0,rfl,kd.k0⟩,_,rfl,e,C,bm2,_,_,rfl,hE,ex,.inl ⟨c1,rfl,kd.k1⟩,_,rfl,e,C,bm2,_,_,rfl,hE,ex,.inl ⟨c2,rfl,kd.k2⟩,(by show 3<=sizeLine;decide),fun p1 hp1=>?_⟩
 have s1:=Z9 hp1 (.lst [.bl (decide (0=i)),.bl (decide (1=i)),.bl (decide (2=i))])
 refine⟨_,rfl,_,rfl,e,C,bm2,_,_,rfl,(s1 _ _ hE),ex,.inl ⟨c3,rfl,kd.k3⟩,_,rfl,e,C,bm2,_,_,rfl,(s1 _ _ hE),ex,.inl ⟨c4,rfl,kd.k4⟩,(by show 2<=sizeLine;decide),fun p2 hp2=>?_⟩
 have s2:=Z9 hp2 (.lst [.bl (decide (3=i)),.bl (decide (4=i))])
 refine⟨p1,p2,_,_,rfl,rfl,s2 _ _ Z5,Z5,(by show 5<=sizeLine;decide),fun p3 hp3=>?_⟩
 have s3:=Z9 hp3 (.lst ([.bl (decide (0=i)),.bl (decide (1=i)),.bl (decide (2=i))]++[.bl (decide (3=i)),.bl (decide (4=i))]))
 have h3:(upd (upd (upd G p1 (.lst [.bl (decide (0=i)),.bl (decide (1=i)),.bl (decide (2=i))])) p2 (.lst [.bl (decide (3=i)),.bl (decide (4=i))])) p3 (.lst ([.bl (decide (0=i)),.bl (decide (1=i)),.bl (decide (2=i))]++[.bl (decide (3=i)),.bl (decide (4=i))]))) p3=some (.lst ([decide (0=i),decide (1=i),decide (2=i),decide (3=i),decide (4=i)].map V.bl)):=Z5
 have s123:=s1.trans (s2.trans s3)
 generalize(upd (upd (upd G p1 (.lst [.bl (decide (0=i)),.bl (decide (1=i)),.bl (decide (2=i))])) p2 (.lst [.bl (decide (3=i)),.bl (decide (4=i))])) p3 (.lst ([.bl (decide (0=i)),.bl (decide (1=i)),.bl (decide (2=i))]++[.bl (decide (3=i)),.bl (decide (4=i))])))=G3 at h3 s123 ⊢
 have hE3:=s123 _ _ hE
 refine⟨_,rfl,e,C,bm2,_,_,rfl,hE3,ex,.inr ⟨"ValueError",rfl,kd.kv⟩,_,rfl,iteF ?_⟩
 generalize hbs:[decide (0=i),decide (1=i),decide (2=i),decide (3=i),decide (4=i)]=bs at h3
 have l5:bs.length=5:=by rw[<-hbs];rfl
 refine⟨_,rfl,p3,rfl,⟨_,Zp.of h3⟩,fun D hD=>?_⟩
 refine X4 5 (by decide) (fun j=>.int (if bs.getD j false then 1 else 0)) (fun σ=>∃o1,σ=[o1]) _ hD (by exact⟨_,rfl⟩) (by have:=YA (K:=K) h3;rw[Z2,l5]at this;exact this) (fun j x σ' H2 hi s4 im hσ R hR=>?_) (fun H' s' hD'=>?_)
 ·obtain⟨o1,rfl⟩:=hσ
  rw[ZQ,Z1 (show j<bs.length by omega)]at im
  have ev:x=.bl (bs.getD j false):=by
   have z:=Option.some.inj im
   rw[<-z]
   simp[Z4,Z1 (show j<bs.length by omega)]
  subst ev
  exact⟨_,rfl,.inr ⟨_,rfl,hR _ _ _ ⟨_,rfl⟩ (ZR.refl _) rfl⟩⟩
 ·have h3':=s' _ _ h3
  have sm:=s123.trans s'
  have e1:((List.range 5).map fun j=>V.int (if bs.getD j false then 1 else 0))=((List.range 5).map fun j=>if bs.getD j false then(1:Int) else 0).map V.int:=by rw[Y5];rfl
  have i5:i=0\/i=1\/i=2\/i=3\/i=4:=by have:=kd.lt;omega
  have e2:((List.range 5).map fun j=>if bs.getD j false then(1:Int) else 0).sum=1:=by
   rw[<-hbs]
   rcases i5 with rfl | rfl | rfl | rfl | rfl<;>decide
  have e3:bs[i]?=some true/\∀j,j<i->bs[j]?=some false:=by
   rw[<-hbs]
   rcases i5 with rfl | rfl | rfl | rfl | rfl<;>decide
  refine⟨D,_,rfl,Zp.of (hD'.trans (by rw[e1])),?_⟩
  refine⟨rfl,_,rfl,iteNS (congrArg V.int e2) ?_⟩
  exact⟨_,rfl,.inl ⟨rfl,_,Zp.of h3'⟩,p3,bs,i,rfl,rfl,h3',e3.1,e3.2,q _ sm⟩
end
end K97
namespace K97
open L2
def okP (b c:Int×Int):Bool:=!(decide (c.2<b.2)||decide (c.1 - b.1 - b.2<b.2))
def frB (bl:List (Int×Int)):Bool:=(List.range (bl.length - 1)).all fun i=>okP (bl.getD i (0,0)) (bl.getD (i+1) (0,0))
theorem frB_no {bl:List (Int×Int)}{i:Nat}(hi:i<bl.length - 1)(h:okP (bl.getD i (0,0)) (bl.getD (i+1) (0,0))=false):frB bl=false:=by
 unfold frB
 rw[YJ]
 intro z
 rw[X1]at z
 rw[z i (Ys.mpr hi)]at h
 cases h
theorem frB_yes {bl:List (Int×Int)}(h:∀i,i<bl.length - 1->okP (bl.getD i (0,0)) (bl.getD (i+1) (0,0))=true):frB bl=true:=by
 unfold frB
 rw[X1]
 exact fun i hi=>h i (Ys.mp hi)
def WH:Sp:=fun vs H Q _=>∃(a:Addr) (row:List Int),vs=[.ref a]/\H a=some (.tup (row.map V.int))/\row.Pairwise (· < ·)/\row.length<=12/\∀H',ZR H H'->Q (.bl (frB (BB.blk row))) H'
section
variable {P:Program}{w:World}{K:W.Frag}{mg:Str->Option Value}{base:Heap}
theorem ok_is_free {f:Addr}{fd:FuncData}(F:XH K "is_free" "is_free" Tj f fd)(nb:Nb2 mg)(h_blocks_in:YR P w K mg base 1 "blocks_in" ["row"] Vr)  :
 Y6 P w K mg base XB 2 f fd ["row"] WH:=by
 have nd:=sc_is_free.nd
 refine F.ok (k:=1) sc_is_free (fun vs H Q E h=>?_) (fun cdv A outer s H vs Q E hr h=>?_)
 ·obtain⟨a,row,rfl,_⟩:=h
  rfl
 obtain⟨a,row,rfl,ha,up,r12,q⟩:=h
 refine⟨_,(Z7 (ZH (i:=1) nd rfl (Or.inl rfl) (ZI h_blocks_in hr (Z0 (pv 0) Z3)))
(Z7 (XV PassesOwn.never rfl (pi_zip false rfl nb.zip (Z0 (pv 1) (Z0 (Ym Xc (pv 1) (X8 ZZ) XO) Z3))) (Xt rfl (Ze (Xt rfl (Ze (Zl (i:=2) nd rfl (Or.inl rfl)) (Ze (Zl (i:=3) nd rfl (Or.inl rfl)) X9))) (Ze (Xt rfl (Ze (Zl (i:=4) nd rfl (Or.inl rfl)) (Ze (Zl (i:=5) nd rfl (Or.inl rfl)) X9))) X9)))
(ZX (YX (PW.pt (WR (Zr Vz (pv 5) (pv 3) (Zf _)) (Xu (Zr Vz (ZG Yb (ZG Yb (pv 4) (pv 2)) (pv 3)) (pv 3) (Zf _)))))
(ZX (ZE Yk))
Zg)))
(ZX (ZE Yk)))),?_⟩
 refine⟨_,rfl,a,row,rfl,ha,up,r12,fun r ys H1 s1 hr1 tp=>?_⟩
 have bl:=WC row
 refine⟨_,rfl,_,rfl,_,rfl,r,ys,rfl,Zp.of hr1,fun p hp=>?_⟩
 have s2:=Z9 hp (.lst (cutV ys (some 1) none))
 have hp2:(upd H1 p (.lst (cutV ys (some 1) none))) p=some (.lst (ys.drop 1)):=by rw[Z5,show((1:Int))=((1:Nat):Int) from rfl,WN]
 have hr2:=s2 _ _ hr1
 have tp2:=tp.same s2
 have S2:=s1.trans s2
 refine⟨r,p,_,_,rfl,Zp.of hr2,Zp.of hp2,?_⟩
 generalize upd H1 p (.lst (cutV ys (some 1) none))=H2 at hp2 hr2 tp2 S2 ⊢
 have hn:min ys.length (ys.drop 1).length=(BB.blk row).length - 1:=by rw[Yz,tp.1];omega
 refine for_items ((BB.blk row).length - 1) (fun i H' x=>∃p x' y',x=.ref p/\H' p=some (.tup [x',y'])/\ys[i]?=some x'/\(ys.drop 1)[i]?=some y')
  (fun i σ H'=>ZR H2 H'/\(∀j,j<i->okP ((BB.blk row).getD j (0,0)) ((BB.blk row).getD (j+1) (0,0))=true)/\∃o2 o3 o4 o5,σ=[some (.ref a),some (.ref r),o2,o3,o4,o5])
  ⟨ZR.refl _,fun j hj=>by omega,_,_,_,_,rfl⟩ (fun i σ H' hi hp=>?_) (fun i x σ H' H3 hi hp s3 im=>?_) (fun σ H' hp=>?_)
 ·have z:=Us (K:=K) (hp.1 _ _ hr2) (hp.1 _ _ hp2) i H' (ZR.refl _)
  rw[hn]at z
  exact z
 ·obtain⟨sm,al,o2,o3,o4,o5,rfl⟩:=hp
  obtain⟨q0,x',y',rfl,hq,hx,hy⟩:=im
  have sm3:=sm.trans s3
  have gb:=Z1 (show i<(BB.blk row).length by omega)
  have gc:=Z1 (show i+1<(BB.blk row).length by omega)
  obtain⟨p1,e1,h1⟩:=tp2.2 i _ gb
  obtain⟨p2,e2,h2⟩:=tp2.2 (i+1) _ gc
  rw[e1]at hx
  cases hx
  rw[XA,Nat.add_comm,e2]at hy
  cases hy
  have db:(BB.blk row).getD i (0,0)=(BB.blk row)[i]'(by omega):=by rw[Z4,gb];rfl
  have dc:(BB.blk row).getD (i+1) (0,0)=(BB.blk row)[i+1]'(by omega):=by rw[Z4,gc];rfl
  generalize(BB.blk row)[i]'(by omega)=b at h1 db
  generalize(BB.blk row)[i+1]'(by omega)=c at h2 dc
  have bad:okP b c=false->Q (.bl false) H3:=fun z=>by
   have y:=q H3 (S2.trans sm3)
   rw[frB_no (i:=i) hi (by rw[db,dc];exact z)]at y
   exact y
  refine⟨q0,_,rfl,Y0.of hq,rfl,_,_,rfl,p1,_,rfl,Y0.of (sm3 _ _ h1),rfl,_,_,rfl,_,_,rfl,rfl,_,_,rfl,p2,_,rfl,Y0.of (sm3 _ _ h2),rfl,_,_,rfl,_,_,rfl,rfl,rfl,?_⟩
  refine⟨_,rfl,_,rfl,_,_,rfl,rfl,_,rfl,?_⟩
  refine ite2 (fun d1=>?_) (fun d1=>?_)
  ·exact iteT (bad (by unfold okP;rw[d1];rfl))
  ·refine⟨_,rfl,_,rfl,_,_,rfl,rfl,_,rfl,_,_,rfl,rfl,_,rfl,_,_,rfl,rfl,_,rfl,?_⟩
   refine ite2 (fun d2=>?_) (fun d2=>?_)
   ·exact bad (by unfold okP;rw[d2,Bool.or_true];rfl)
   ·refine⟨sm3,fun j hj=>?_,_,_,_,_,rfl⟩
    by_cases z:j=i
    ·subst z
     rw[db,dc]
     unfold okP
     rw[YJ.mpr d1,YJ.mpr d2]
     rfl
    ·exact al j (by omega)
 ·obtain⟨sm,al,o2,o3,o4,o5,rfl⟩:=hp
  have y:=q H' (S2.trans sm)
  rw[frB_yes al]at y
  exact y
end
end K97
namespace K97
open L2
theorem rise_up:∀{ns:List Int},ns.Pairwise (· < ·)->UJ ns=true
 |[],_=>rfl
 |[a],_=>rise_one a
 |a::b::r,h=>by
  obtain⟨h1,h2⟩:=Zt.mp h
  rw[rise_two,rise_up h2,Bool.and_true]
  exact decide_eq_true (h1 b (ZW ..))
theorem far_rowB {row:List Int}(h:Far row):rowB (row.map V.int)=true:=by
 unfold rowB
 have e:(row.map V.int).map toI=row:=by rw[Y5];exact(Y4 fun _ _=>rfl).trans (List.map_id row)
 rw[e,rise_up h.up,Bool.and_true,decide_eq_true (by rw[Z2];exact h.len),Bool.true_and]
 refine X1.mpr fun x hx=>?_
 obtain⟨y,hy,rfl⟩:=YC.mp hx
 have b:=h.bd y hy
 have:-1000000000<=y/\y<=1000000000:=by omega
 show(decide (-1000000000<=y)&&decide (y<=1000000000))=true
 rw[decide_eq_true this.1,decide_eq_true this.2]
 rfl
theorem row_thing {H:Hp}{a:Addr}{row:List Int}(h:H a=some (.tup (row.map V.int)))(l:row.length<=12):Thing H (.ref a):=by
 refine⟨⟨_,.tup h⟩,fun b xs e hx=>?_⟩
 cases e
 rw[h]at hx
 cases hx
 refine⟨by rw[Z2];omega,fun x hx=>?_⟩
 obtain⟨n,_,rfl⟩:=YC.mp hx
 exact⟨_,.int n⟩
def spBl:Sp:=fun vs H Q _=>∃(a:Addr) (row:List Int),vs=[.ref a]/\H a=some (.tup (row.map V.int))/\Far row/\frB (BB.blk row)=true/\
 ∀(r:Addr) (ys:List V) (H':Hp),ZR H H'->H' r=some (.tup ys)->So H' ys (BB.blk row)->Q (.ref r) H'
def spBlE (c1:Addr):Sp:=fun vs H Q E=>∃(a:Addr) (row:List Int),vs=[.ref a]/\H a=some (.tup (row.map V.int))/\Far row/\frB (BB.blk row)=false/\∀e H',ZR H H'->H' e=none->E (.ref c1) (some e) H'
section
variable {P:Program}{w:World}{K:W.Frag}{mg:Str->Option Value}{base:Heap}{c1:Addr}{bm1:List Value}
theorem ok_blocks {f:Addr}{fd:FuncData}(F:XH K "blocks" "blocks" T8 f fd)(nb:Nb2 mg)(h_is_row:YR P w K mg base 2 "is_row" ["thing"] U4)(h_is_free:YR P w K mg base 2 "is_free" ["row"] WH)(h_blocks_in:YR P w K mg base 1 "blocks_in" ["row"] Vr)  :
 Y6 P w K mg base XB 3 f fd ["row"] spBl:=by
 have nd:=U5.nd
 refine F.ok (k:=2) U5 (fun vs H Q E h=>?_) (fun cdv A outer s H vs Q E hr h=>?_)
 ·obtain⟨a,row,rfl,_⟩:=h
  rfl
 obtain⟨a,row,rfl,ha,fa,ft,q⟩:=h
 refine⟨_,(Z7 (YX (PW.pt (WR (Yx (Zo (ZI h_is_row hr (Z0 (pv 0) Z3)) (fun _=>rfl))) (Xu (Yx (Zo (ZI h_is_free hr (Z0 (pv 0) Z3)) (fun _=>rfl))))))
(ZX ps_never)
Zg)
(ZX (ZE (Zy Zz rfl nb.tuple boot_tuple (Z0 (ZI h_blocks_in hr (Z0 (pv 0) Z3)) Z3))))),?_⟩
 refine⟨_,rfl,_,rfl,row_thing ha fa.len,fun H1 s1=>?_⟩
 rw[VT ha,far_rowB fa]
 refine⟨_,rfl,iteF ?_⟩
 refine⟨_,rfl,a,row,rfl,s1 _ _ ha,fa.up,fa.len,fun H2 s2=>?_⟩
 rw[ft]
 refine⟨_,rfl,iteF ?_⟩
 refine⟨_,rfl,a,row,rfl,s2 _ _ (s1 _ _ ha),fa.up,fa.len,fun r ys H3 s3 h3 t3=>?_⟩
 refine⟨r,_,rfl,.inl ⟨Zp.of h3,fun p hp=>?_⟩⟩
 have s4:=Z9 hp (.tup ys)
 exact q p ys _ (s1.trans (s2.trans (s3.trans s4))) Z5 (t3.same s4)
theorem ok_blocksE {f:Addr}{fd:FuncData}(F:XH K "blocks" "blocks" T8 f fd)(nb:Nb2 mg)(h_is_row:YR P w K mg base 2 "is_row" ["thing"] U4)(h_is_free:YR P w K mg base 2 "is_free" ["row"] WH)(h_blocks_in:YR P w K mg base 1 "blocks_in" ["row"] Vr)(hm:mg "NotFree" = some (.ref c1))(ex:Exc K c1 bm1) :
 Y6 P w K mg base (CXF P w) 3 f fd ["row"] (spBlE c1):=by
 have nd:=U5.nd
 refine F.okE (k:=2) U5 (fun vs H Q E h=>?_) (fun cdv A outer s H vs Q E hr h=>?_)
 ·obtain⟨a,row,rfl,_⟩:=h
  rfl
 obtain⟨a,row,rfl,ha,fa,ft,q⟩:=h
 refine⟨_,(Z7 (YX (PW.pt (WR (Yx (Zo (ZI h_is_row hr (Z0 (pv 0) Z3)) (fun _=>rfl))) (Xu (Yx (Zo (ZI h_is_free hr (Z0 (pv 0) Z3)) (fun _=>rfl))))))
(ZX (ps_raise lvs_cx rfl rfl hm ex (Z0 S0 Z3)))
Zg)
(ZX (ZE (Zy Zz rfl nb.tuple boot_tuple (Z0 (ZI h_blocks_in hr (Z0 (pv 0) Z3)) Z3))))),?_⟩
 refine⟨_,rfl,_,rfl,row_thing ha fa.len,fun H1 s1=>?_⟩
 rw[VT ha,far_rowB fa]
 refine⟨_,rfl,iteF ?_⟩
 refine⟨_,rfl,a,row,rfl,s1 _ _ ha,fa.up,fa.len,fun H2 s2=>?_⟩
 rw[ft]
 refine⟨_,rfl,iteT ?_⟩
 exact⟨by decide,fun e he=>q e H2 (s1.trans s2) he⟩
end
end K97
namespace K97
open L2
theorem ix_end (n:Nat):ixN (n+1) (-1)=some n:=by
 unfold ixN
 rw[if_neg (by decide),if_pos (by omega)]
 congr 1
 omega
theorem at_end (zs:List V)(v:V):atI (zs++[v]) (-1)=some v:=by
 unfold atI
 rw[Z6,ZN,ix_end]
 show(zs++[v])[zs.length]?=some v
 simp
theorem So.upd {H:Hp}{f:Addr}{l ys:List V}{o:HO}{bl:List (Int×Int)}(t:So H ys bl)(hf:H f=some (.lst l)):So (L2.upd H f o) ys bl:=⟨t.1,fun j b e=>by
 obtain⟨p,e1,e2⟩:=t.2 j b e
 exact⟨p,e1,by rw[ZS (Wc e2 hf (by intro z;cases z))];exact e2⟩⟩
theorem So.snoc {H:Hp}{ys:List V}{bl:List (Int×Int)}{p:Addr}{b:Int×Int}(t:So H ys bl)(h:H p=some (.tup [.int b.1,.int b.2])):So H (ys++[.ref p]) (bl++[b]):=by
 refine⟨by simp[t.1],fun j c e=>?_⟩
 by_cases z:j<bl.length
 ·rw[ZL z]at e
  obtain⟨q,e1,e2⟩:=t.2 j c e
  exact⟨q,by rw[ZL (by rw[t.1];exact z)];exact e1,e2⟩
 ·have jl:j<(bl++[b]).length:=(List.getElem?_eq_some_iff.mp e).1
  have jj:j=bl.length:=by rw[Z6,ZN]at jl;omega
  subst jj
  rw[ZU (Nat.le_refl _),Nat.sub_self]at e
  cases e
  exact⟨p,by rw[<-t.1,ZU (Nat.le_refl _),Nat.sub_self];rfl,h⟩
theorem So.last {H:Hp}{ys:List V}{pre:List (Int×Int)}{b:Int×Int}(t:So H ys (pre++[b])):∃zs p,ys=zs++[.ref p]/\H p=some (.tup [.int b.1,.int b.2])/\So H zs pre:=by
 obtain⟨p,e1,e2⟩:=t.2 pre.length b (by simp)
 have l:=t.1
 rw[Z6,ZN]at l
 have ne:ys≠[]:=fun z=>by rw[z]at l;simp at l
 have sp:=(List.dropLast_concat_getLast ne).symm
 have ll:ys.dropLast.length=pre.length:=by rw[List.length_dropLast];omega
 have ey:ys=ys.dropLast++[.ref p]:=by
  rw[sp,ZU (by omega),ll,Nat.sub_self]at e1
  have e1:=Option.some.inj e1
  rw[<-e1]
  exact sp
 refine⟨ys.dropLast,p,ey,e2,ll,fun j c e=>?_⟩
 have jl:j<pre.length:=(List.getElem?_eq_some_iff.mp e).1
 obtain⟨q,f1,f2⟩:=t.2 j c (by rw[ZL jl];exact e)
 refine⟨q,?_,f2⟩
 rw[ey,ZL (by omega)]at f1
 exact f1
theorem take_next {row:List Int}{i:Nat}{p:Int}(hi:i<row.length)(ep:row.getD i 0=p):row.take (i+1)=row.take i++[p]:=by
 rw[take_succ,Z1 hi]
 rw[Z4,Z1 hi]at ep
 show _++[row[i]]=_
 rw[show row[i]=p from ep]
section
variable {P:Program}{w:World}{K:W.Frag}{mg:Str->Option Value}{base:Heap}
theorem ok_L_blocks {f:Addr}{fd:FuncData}(F:XH K "_law_blocks" "_law_blocks" UB f fd)(nb:Nb4 mg)   :
 Y6 P w K mg base XB 1 f fd ["_law_row"] Vr:=by
 have nd:=Sw.nd
 refine F.ok (k:=0) Sw (fun vs H Q E h=>?_) (fun cdv A outer s H vs Q E hr h=>?_)
 ·obtain⟨a,row,rfl,_⟩:=h
  rfl
 obtain⟨a,row,rfl,ha,up,r12,q⟩:=h
 refine⟨_,(Z7 (ZH (i:=1) nd rfl (Or.inl rfl) (Y2 Z3))
(Z7 (XV PassesOwn.never rfl (X6 (pv 0)) (Zl (i:=2) nd rfl (Or.inl rfl))
(ZX (YX (PW.pt (pw_and (Zr (op_neNil hr.units0) (pv 1) (Y2 Z3) (Zf _)) (pw_and1 (Zr Vd (ZJ (call_sumT rfl) rfl nb.sum boot_sum (Z0 (Zm Zk (pv 1) (XG Yn ZZ) (fun _ _=>rfl)) Z3)) (pv 2) (Zf _)))))
(ZX (Vg (Yc (Z0 (Zm YT (Zm Zk (pv 1) (XG Yn ZZ) (fun _ _=>rfl)) ZZ (fun _ _=>rfl)) (Z0 (ZG Zn (Zm YT (Zm Zk (pv 1) (XG Yn ZZ) (fun _ _=>rfl)) ZZ (fun _ _=>rfl)) ZZ) Z3))) (pg_sub (pv 1) (XG Yn ZZ) Uf)))
(ZX (YQ (XF Zu PySem.F.slot_list_append PySem.F.type_list_append Y8 (pv 1) (Z0 (Yc (Z0 (pv 2) (Z0 ZZ Z3))) Z3)))))))
(ZX (ZE (pv 1))))),?_⟩
 refine⟨(by show 0<=sizeLine;decide),fun f hf=>?_⟩
 have s1:=Z9 hf (.lst [])
 refine⟨_,rfl,a,rfl,⟨_,Y0.of (s1 _ _ ha)⟩,?_⟩
 refine Tx (xs:=row.map V.int) (fun i σ H'=>ZR H H'/\∃o2 ys,σ=[some (.ref a),some (.ref f),o2]/\H' f=some (.lst ys)/\So H' ys (BB.blk (row.take i))) ⟨s1,_,[],rfl,Z5,rfl,fun j b e=>by cases e⟩ (fun i σ H' _ hp=>Y0.of (hp.1 _ _ ha)) (fun i x σ H' hx hp=>?_) (fun σ H' hp=>?_)
 ·obtain⟨sm,o2,ys,rfl,hy,tp⟩:=hp
  have hi:i<row.length:=by
   have:=(List.getElem?_eq_some_iff.mp hx).1
   simpa using this
  obtain⟨p,rfl,ep⟩:=VE hx
  have et:=take_next hi ep
  have yl:ys.length<=12:=by
   have:=WC (row.take i)
   rw[Za]at this
   rw[tp.1]
   omega
  refine⟨_,rfl,(by show 0<=sizeLine;decide),fun pe hpe=>?_⟩
  have s4:=Z9 hpe (.lst [])
  have hy4:=s4 _ _ hy
  have tp4:=tp.same s4
  have sm4:=sm.trans s4
  refine⟨f,pe,ys,rfl,rfl,Zp.of hy4,Zp.of Z5,_,rfl,?_⟩
  generalize upd H' pe (.lst [])=H4 at hy4 tp4 sm4 ⊢
  cases hb:BB.blk (row.take i) with
  |nil=>
   have y0:ys=[]:=by
    have:=tp.1
    rw[hb]at this
    exact Zc.mp this
   subst y0
   have nb1:BB.blk (row.take i++[p])=BB.blk (row.take i)++[(p,1)]:=by rw[BB.blk_nil hb];rfl
   refine iteF ?_
   refine⟨_,rfl,.inl ⟨rfl,_,Zp.of hy4⟩,_,rfl,(by show 2<=sizeLine;decide),fun pt hpt=>?_⟩
   have s5:=Z9 hpt (.tup [.int p,.int 1])
   refine⟨f,_,_,rfl,rfl,s5 _ _ hy4,by rw[sizeLine_eq];omega,?_⟩
   refine⟨fun c o hc=>by rw[ZS (ZP hc hf)];exact s5 _ _ (sm4 c o hc),_,_,rfl,Z5,?_⟩
   rw[et,nb1]
   exact So.upd (So.snoc (b:=(p,1)) (tp4.same s5) Z5) (s5 _ _ hy4)
  |cons b0 br=>
   obtain⟨pre,⟨ba,bn⟩,e⟩:∃pre u,BB.blk (row.take i)=pre++[u]:=⟨_,_,(List.dropLast_concat_getLast (by rw[hb];simp)).symm⟩
   have sn:=BB.blk_snoc p (row.take i) pre ba bn e
   have tp5:=tp4
   rw[e]at tp5
   obtain⟨zs,pl,rfl,hl,tz⟩:=tp5.last
   rw[show(!(zs++[V.ref pl]).isEmpty)=true by simp]
   refine iteT ?_
   refine⟨_,rfl,_,rfl,f,_,_,_,rfl,rfl,Zp.of hy4,at_end zs (.ref pl),pl,[ba,bn],rfl,Y0.of hl,_,rfl,rfl,_,rfl,?_⟩
   refine ite2 (fun d=>?_) (fun d=>?_)
   ·have d':ba+bn=p:=by
     have z:=V.int.inj (of_decide_eq_true d)
     simp only[sum_cons,sum_nil]at z
     omega
    rw[if_pos d']at sn
    refine⟨_,rfl,_,rfl,f,_,_,_,rfl,rfl,Zp.of hy4,at_end zs (.ref pl),pl,_,_,_,rfl,rfl,Y0.of hl,(show atI [V.int ba,V.int bn] ((0:Nat):Int)=some (.int ba) from Zj rfl),?_⟩
    refine⟨_,rfl,_,rfl,f,_,_,_,rfl,rfl,Zp.of hy4,at_end zs (.ref pl),pl,_,_,_,rfl,rfl,Y0.of hl,(show atI [V.int ba,V.int bn] ((1:Nat):Int)=some (.int bn) from Zj rfl),_,_,rfl,rfl,(by show 2<=sizeLine;decide),fun pn hpn=>?_⟩
    have s5:=Z9 hpn (.tup [.int ba,.int (bn+1)])
    refine⟨_,rfl,_,rfl,f,_,_,zs.length,rfl,rfl,s5 _ _ hy4,by rw[Z6,ZN];exact ix_end _,?_⟩
    refine⟨fun c o hc=>by rw[ZS (ZP hc hf)];exact s5 _ _ (sm4 c o hc),_,_,rfl,Z5,?_⟩
    rw[et,sn]
    rw[show(zs++[V.ref pl]).set zs.length (.ref pn)=zs++[.ref pn] by simp]
    exact So.upd (So.snoc (b:=(ba,bn+1)) (tz.same s5) Z5) (s5 _ _ hy4)
   ·have d':¬ba+bn=p:=fun z=>d (decide_eq_true (by
     show V.int ([ba,bn].sum)=V.int p
     rw[<-z]
     simp only[sum_cons,sum_nil]
     congr 1
     omega))
    rw[if_neg d']at sn
    have nb1:BB.blk (row.take i++[p])=BB.blk (row.take i)++[(p,1)]:=by rw[sn,e,List.append_assoc];rfl
    refine⟨_,rfl,.inl ⟨rfl,_,Zp.of hy4⟩,_,rfl,(by show 2<=sizeLine;decide),fun pt hpt=>?_⟩
    have s5:=Z9 hpt (.tup [.int p,.int 1])
    refine⟨f,_,_,rfl,rfl,s5 _ _ hy4,by rw[sizeLine_eq];omega,?_⟩
    refine⟨fun c o hc=>by rw[ZS (ZP hc hf)];exact s5 _ _ (sm4 c o hc),_,_,rfl,Z5,?_⟩
    rw[et,nb1]
    exact So.upd (So.snoc (b:=(p,1)) (tp4.same s5) Z5) (s5 _ _ hy4)
 ·obtain⟨sm,o2,ys,rfl,hy,tp⟩:=hp
  rw[Z2,W7]at tp
  exact⟨_,rfl,q f ys H' sm hy tp⟩
end
end K97
namespace K97
open L2
section
variable {P:Program}{w:World}{K:W.Frag}{mg:Str->Option Value}{base:Heap}
theorem ok_L_is_free {f:Addr}{fd:FuncData}(F:XH K "_law_is_free" "_law_is_free" Vk f fd)(nb:Nb4 mg)(h_L_blocks:YR P w K mg base 1 "_law_blocks" ["_law_row"] Vr)  :
 Y6 P w K mg base XB 2 f fd ["_law_row"] WH:=by
 have nd:=T3.nd
 refine F.ok (k:=1) T3 (fun vs H Q E h=>?_) (fun cdv A outer s H vs Q E hr h=>?_)
 ·obtain⟨a,row,rfl,_⟩:=h
  rfl
 obtain⟨a,row,rfl,ha,up,r12,q⟩:=h
 refine⟨_,(Z7 (ZH (i:=1) nd rfl (Or.inl rfl) (ZI h_L_blocks hr (Z0 (pv 0) Z3)))
(Z7 (XV PassesOwn.never rfl (XQ rfl nb.range (Z0 (ZG Yb (ZJ Zx rfl nb.len PySem.boot_len (Z0 (pv 1) Z3)) ZZ) Z3)) (Zl (i:=2) nd rfl (Or.inl rfl))
(ZX (YX (PW.pt (WR (Zr op_gt (Zm YT (Zm Zk (pv 1) (pv 2) (fun _ _=>rfl)) ZZ (fun _ _=>rfl)) (Zm YT (Zm Zk (pv 1) (ZG Zn (pv 2) ZZ) (fun _ _=>rfl)) ZZ (fun _ _=>rfl)) (Zf _)) (Xu (Zr Vz (ZG Yb (Zm YT (Zm Zk (pv 1) (ZG Zn (pv 2) ZZ) (fun _ _=>rfl)) ZZ (fun _ _=>rfl)) (ZJ (call_sumT rfl) rfl nb.sum boot_sum (Z0 (Zm Zk (pv 1) (pv 2) (fun _ _=>rfl)) Z3))) (Zm YT (Zm Zk (pv 1) (pv 2) (fun _ _=>rfl)) ZZ (fun _ _=>rfl)) (Zf _)))))
(ZX (ZE Yk))
Zg)))
(ZX (ZE Yk)))),?_⟩
 refine⟨_,rfl,a,row,rfl,ha,up,r12,fun r ys H1 s1 hr1 tp=>?_⟩
 have bl:=WC row
 have ly:=tp.1
 refine⟨_,rfl,r,_,rfl,.inl (Zp.of hr1),_,_,rfl,rfl,_,rfl,?_,?_,?_⟩
 ·omega
 ·omega
 have hn:((ys.length:Int) - 1).toNat=(BB.blk row).length - 1:=by omega
 refine Xw (fun i σ H'=>ZR H1 H'/\(∀j,j<i->okP ((BB.blk row).getD j (0,0)) ((BB.blk row).getD (j+1) (0,0))=true)/\∃o2,σ=[some (.ref a),some (.ref r),o2]) ⟨ZR.refl _,fun j hj=>by omega,_,rfl⟩ (fun i σ H' hi hp=>?_) (fun σ H' hp=>?_)
 ·obtain⟨sm,al,o2,rfl⟩:=hp
  have hi':i<(BB.blk row).length - 1:=by rw[<-hn];exact hi
  have gb:=Z1 (show i<(BB.blk row).length by omega)
  have gc:=Z1 (show i+1<(BB.blk row).length by omega)
  obtain⟨p1,e1,h1⟩:=tp.2 i _ gb
  obtain⟨p2,e2,h2⟩:=tp.2 (i+1) _ gc
  have db:(BB.blk row).getD i (0,0)=(BB.blk row)[i]'(by omega):=by rw[Z4,gb];rfl
  have dc:(BB.blk row).getD (i+1) (0,0)=(BB.blk row)[i+1]'(by omega):=by rw[Z4,gc];rfl
  generalize(BB.blk row)[i]'(by omega)=b at h1 db
  generalize(BB.blk row)[i+1]'(by omega)=c at h2 dc
  have at1:atI ys (0+(i:Int))=some (.ref p1):=by rw[zero_add];exact Zj e1
  have at2:atI ys (0+(i:Int)+1)=some (.ref p2):=by rw[show(0+(i:Int)+1)=((i+1:Nat):Int) by omega];exact Zj e2
  have bad:okP b c=false->Q (.bl false) H':=fun z=>by
   have y:=q H' (s1.trans sm)
   rw[frB_no (i:=i) hi' (by rw[db,dc];exact z)]at y
   exact y
  have su:[b.1,b.2].sum=b.1+b.2:=by simp only[sum_cons,sum_nil];omega
  refine⟨_,rfl,_,rfl,r,_,_,_,rfl,rfl,Zp.of (sm _ _ hr1),at1,p1,_,_,_,rfl,rfl,Y0.of (sm _ _ h1),(show atI [V.int b.1,V.int b.2] ((1:Nat):Int)=some (.int b.2) from Zj rfl),_,rfl,_,rfl,_,_,rfl,rfl,r,_,_,_,rfl,rfl,Zp.of (sm _ _ hr1),at2,p2,_,_,_,rfl,rfl,Y0.of (sm _ _ h2),(show atI [V.int c.1,V.int c.2] ((1:Nat):Int)=some (.int c.2) from Zj rfl),_,_,rfl,rfl,_,rfl,?_⟩
  refine ite2 (fun d1=>?_) (fun d1=>?_)
  ·exact iteT (bad (by unfold okP;rw[show decide (c.2<b.2)=true from d1];rfl))
  ·refine⟨_,rfl,_,rfl,_,_,rfl,rfl,r,_,_,_,rfl,rfl,Zp.of (sm _ _ hr1),at2,p2,_,_,_,rfl,rfl,Y0.of (sm _ _ h2),(show atI [V.int c.1,V.int c.2] ((0:Nat):Int)=some (.int c.1) from Zj rfl),_,rfl,_,rfl,r,_,_,_,rfl,rfl,Zp.of (sm _ _ hr1),at1,p1,[b.1,b.2],rfl,Y0.of (sm _ _ h1),_,_,rfl,rfl,_,rfl,_,rfl,r,_,_,_,rfl,rfl,Zp.of (sm _ _ hr1),at1,p1,_,_,_,rfl,rfl,Y0.of (sm _ _ h1),(show atI [V.int b.1,V.int b.2] ((1:Nat):Int)=some (.int b.2) from Zj rfl),_,_,rfl,rfl,_,rfl,?_⟩
   rw[su]
   have ar:c.1 - (b.1+b.2)=c.1 - b.1 - b.2:=by omega
   rw[ar]
   refine ite2 (fun d2=>?_) (fun d2=>?_)
   ·exact bad (by unfold okP;rw[d2,Bool.or_true];rfl)
   ·refine⟨sm,fun j hj=>?_,_,rfl⟩
    by_cases z:j=i
    ·subst z
     rw[db,dc]
     unfold okP
     rw[show decide (c.2<b.2)=false from YJ.mpr d1,YJ.mpr d2]
     rfl
    ·exact al j (by omega)
 ·obtain⟨sm,al,o2,rfl⟩:=hp
  rw[hn]at al
  have y:=q H' (s1.trans sm)
  rw[frB_yes al]at y
  exact y
end
end K97
namespace K97
open L2
def spNear:Sp:=fun vs H Q _=>∃(a:Addr) (x:Int) (b:Bool),vs=[.ref a]/\Wl H a x b/\
 ∀(r:Addr) (row:List Int) (H':Hp) (x':Int),WB a H H'->Wl H' a x' b->H' r=some (.tup (row.map V.int))->RowOk row->Q (.ref r) H'
structure Nr (H:Hp)(a f:Addr)(b:Bool)(H':Hp)(place:Int):Prop where
 st:∃x,Wl H' a x b
 kp:WB a H H'
 fo:∃fo:List Int,H' f=some (.lst (fo.map V.int))/\fo.length<=12/\fo.Pairwise (· < ·)/\∀p∈fo,-10<=p/\p<place
section
variable {H H':Hp}{a f:Addr}{b:Bool}{place:Int}
theorem Nr.take (n:Nr H a f b H' place)(fa:f≠a){x:Int}(d:Dok x b):Nr H a f b (upd H' a (.lst [.int x,.bl b])) place:=
 ⟨⟨x,Wl.upd d⟩,n.kp.trans (YE a H' _),let⟨fo,e,r⟩:=n.fo;⟨fo,YE a H' _ _ _ fa e,r⟩⟩
theorem Nr.same (n:Nr H a f b H' place){H2:Hp}(s:ZR H' H2):Nr H a f b H2 place:=
 ⟨let⟨x,e⟩:=n.st;⟨x,e.same s⟩,n.kp.same s,let⟨fo,e,r⟩:=n.fo;⟨fo,s _ _ e,r⟩⟩
theorem Nr.far (n:Nr H a f b H' place){q:Int}(h:place<=q):Nr H a f b H' q:=
 ⟨n.st,n.kp,let⟨fo,e,l,u,bd⟩:=n.fo;⟨fo,e,l,u,fun p hp=>⟨(bd p hp).1,by have:=(bd p hp).2;omega⟩⟩⟩
end
theorem ups_mem {lo p:Int}:∀{m:Nat},p∈ups lo m->lo<=p/\p<lo+m:=fun{m} h=>by
 unfold ups at h
 obtain⟨i,hi,rfl⟩:=YC.mp h
 have:=Ys.mp hi
 omega
theorem ups_up (lo:Int)(m:Nat):(ups lo m).Pairwise (· < ·):=by
 unfold ups
 rw[WK]
 exact V5.imp fun h=>by omega
section
variable {P:Program}{w:World}{K:W.Frag}{mg:Str->Option Value}{base:Heap}
theorem SW {f:Addr}{fd:FuncData}(F:XH K "_law_nearly_free" "_law_nearly_free" WG f fd)(nb:Nb2 mg)(h_L_take:YR P w K mg base 1 "_law_take" ["_law_state_here","_law_many"] (Tl K))  :
 Y6 P w K mg base XB 2 f fd ["_law_state_here"] spNear:=by
 have nd:=VU.nd
 refine F.ok (k:=1) VU (fun vs H Q E h=>?_) (fun cdv A outer s H vs Q E hr h=>?_)
 ·obtain⟨a,x,b,rfl,_⟩:=h
  rfl
 obtain⟨a,x,b,rfl,hS,q⟩:=h
 refine⟨_,(@Z7 _ _ _ _ _ (ZH (i:=1) nd rfl (Or.inl rfl) (Y2 Z3)) (@Z7 _ _ _ _ _ (ZH (i:=2) nd rfl (Or.inl rfl) (ZG Yb (ZI h_L_take hr (Z0 (pv 0) (Z0 ZZ Z3))) ZZ)) (@Z7 _ _ _ _ _ (ZH (i:=3) nd rfl (Or.inl rfl) ZZ) (@Z7 _ _ _ _ _ (@XV _ _ _ _ _ _ _ _ PassesOwn.never rfl (XQ rfl nb.range (Z0 (ZG Zn ZZ (ZI h_L_take hr (Z0 (pv 0) (Z0 ZZ Z3)))) Z3)) (Zl (i:=4) nd rfl (Or.inl rfl)) (@Z7 _ _ _ _ _ (@ZH _ _ (3) _ _ _ _ nd rfl (Or.inl rfl) (ZJ (UR rfl) rfl nb.max boot_max (@Z0 _ _ _ _ _ ZZ (@Z0 _ _ _ _ _ (@ZG _ _ _ _ _ _ _ _ Zn (pv 3) (@Zm _ _ _ _ _ _ _ Zk (@Y2 _ _ _ _ (@Z0 _ _ _ _ _ ZZ (Z0 ZZ (Z0 ZZ (Z0 ZZ (Z0 ZZ (Z0 (XG Yn ZZ) Z3))))) rfl)) (ZI h_L_take hr (Z0 (pv 0) (Z0 ZZ Z3))) (fun _ _=>rfl))) Z3 rfl) rfl)) rfl (by first | exact .inl rfl | exact .inr rfl)) (@Z7 _ _ _ _ _ (YX (Zr Vz (ZG Zn (ZJ Zx rfl nb.len PySem.boot_len (Z0 (pv 1) Z3)) (pv 3)) ZZ (Zf _))
(ZX (YQ (XF Zu WL WM VQ (pv 1) (Z0 (Zy (Xm rfl) rfl nb.list boot_list (Z0 (Zy Ww rfl nb.range boot_range (Z0 (pv 2) (Z0 (ZG Zn (pv 2) (pv 3)) Z3))) Z3)) Z3))))
Zg) (@ZX _ _ _ (@ZH _ _ (2) _ _ _ _ nd rfl (Or.inl rfl) (@ZG _ _ _ _ _ _ _ _ Zn (ZG Zn (pv 2) (pv 3)) (ZJ (UR rfl) rfl nb.max boot_max (@Z0 _ _ _ _ _ ZZ (@Z0 _ _ _ _ _ (@ZG _ _ _ _ _ _ _ _ Zn (pv 3) (@Zm _ _ _ _ _ _ _ Zk (@Y2 _ _ _ _ (@Z0 _ _ _ _ _ ZZ (Z0 ZZ (Z0 ZZ (Z0 (XG Yn ZZ) (Z0 ZZ (Z0 ZZ Z3))))) rfl)) (ZI h_L_take hr (Z0 (pv 0) (Z0 ZZ Z3))) (fun _ _=>rfl))) Z3 rfl) rfl))) rfl (by first | exact .inl rfl | exact .inr rfl))))) (by intro _;rfl)) (ZX (ZE (Zy Zz rfl nb.tuple boot_tuple (Z0 (pv 1) Z3)))))))),?_⟩
 refine⟨(by show 0<=sizeLine;decide),fun f hf=>?_⟩
 have fa:f≠a:=(ZP hS.1 hf).symm
 have n0:Nr H a f b (upd H f (.lst [])) (-10):=⟨⟨x,hS.same (Z9 hf _)⟩,(WB.refl a H).same (Z9 hf _),[],Z5,by simp,.nil,fun p hp=>by cases hp⟩
 obtain⟨x0,st0⟩:=n0.st
 generalize upd H f (.lst [])=H0 at n0 st0 ⊢
 refine⟨_,rfl,a,x0,b,21,rfl,st0,by decide,by decide,fun v1 x1 v10 v11 d1=>?_⟩
 have n1:=n0.take fa d1
 obtain⟨x1',st1⟩:=n1.st
 generalize upd H0 a (.lst [.int x1,.bl b])=H1 at n1 st1 ⊢
 refine⟨_,_,rfl,rfl,?_⟩
 refine⟨_,rfl,a,x1',b,4,rfl,st1,by decide,by decide,fun v2 x2 v20 v21 d2=>?_⟩
 have n2:=n1.take fa d2
 generalize upd H1 a (.lst [.int x2,.bl b])=H2 at n2 ⊢
 refine⟨_,_,rfl,rfl,_,rfl,?_,?_,?_⟩
 ·omega
 ·omega
 have n4':(1+v2).toNat<=4:=by omega
 refine Xw (fun i σ H'=>∃(pl sz:Int) (o4:Option V),σ=[some (.ref a),some (.ref f),some (.int pl),some (.int sz),o4]/\Nr H a f b H' pl/\-10<=pl/\pl<=10+40*(i:Int)/\1<=sz/\sz<=1+2*(i:Int)) ⟨_,_,_,rfl,n2.far (by omega),by omega,by omega,by omega,by omega⟩ (fun i σ H' hi hp=>?_) (fun σ H' hp=>?_)
 ·obtain⟨pl,sz,o4,rfl,nr,pl0,pl1,sz0,sz1⟩:=hp
  have i4:i<4:=Nat.lt_of_lt_of_le hi n4'
  obtain⟨x3,st3⟩:=nr.st
  refine⟨_,rfl,_,rfl,(by show 6<=sizeLine;decide),fun p1 hp1=>?_⟩
  have s3:=Z9 hp1 (.lst [.int 0,.int 0,.int 1,.int 1,.int 2,.int (-1)])
  have hp3:(upd H' p1 (.lst [.int 0,.int 0,.int 1,.int 1,.int 2,.int (-1)])) p1=some (.lst [.int 0,.int 0,.int 1,.int 1,.int 2,.int (-1)]):=Z5
  have p1a:p1≠a:=(ZP st3.1 hp1).symm
  have n3:=nr.same s3
  have st3':=st3.same s3
  generalize upd H' p1 (.lst [.int 0,.int 0,.int 1,.int 1,.int 2,.int (-1)])=H3 at hp3 n3 st3' ⊢
  refine⟨_,rfl,a,x3,b,6,rfl,st3',by decide,by decide,fun v5 x5 v50 v51 d5=>?_⟩
  have n4:=n3.take fa d5
  have hp4:=YE a H3 (.lst [.int x5,.bl b]) _ _ p1a hp3
  generalize upd H3 a (.lst [.int x5,.bl b])=H4 at n4 hp4 ⊢
  obtain⟨u,hu,um,_⟩:=SG (xs:=[.int 0,.int 0,.int 1,.int 1,.int 2,.int (-1)]) v50 (by simpa using v51)
  obtain⟨e1,rfl,e10,e11⟩:∃e1:Int,u=.int e1/\-1<=e1/\e1<=2:=by
   simp only[ZV,ZC,or_false]at um
   rcases um with rfl | rfl | rfl | rfl | rfl | rfl<;>exact⟨_,rfl,by omega,by omega⟩
  refine⟨p1,_,_,_,rfl,rfl,Zp.of hp4,hu,_,_,rfl,rfl,_,_,rfl,?_⟩
  have szb:1<=(if sz+e1>1 then sz+e1 else 1)/\(if sz+e1>1 then sz+e1 else 1)<=3+2*(i:Int):=by
   constructor<;>split<;>omega
  generalize(if sz+e1>1 then sz+e1 else 1)=s9 at szb ⊢
  obtain⟨fo,hfo,fl,fu,fb⟩:=n4.fo
  refine⟨_,rfl,f,_,rfl,.inl (Zp.of hfo),_,rfl,_,_,rfl,rfl,_,_,rfl,rfl,_,rfl,?_⟩
  refine ite2 (fun c=>?_) (fun c=>?_)
  ·have c':((fo.map V.int).length:Int)+s9<13:=of_decide_eq_true c
   rw[Z2]at c'
   refine⟨_,rfl,.inl ⟨rfl,_,Zp.of hfo⟩,_,rfl,_,rfl,_,rfl,_,_,rfl,rfl,_,_,rfl,fun p7 hp7=>?_⟩
   refine⟨p7,_,_,rfl,Z5,⟨by omega,by omega,by omega,by omega⟩,by rw[sizeLine_eq];omega,fun l1 hl1=>?_⟩
   have en:(pl+s9 - pl).toNat=s9.toNat:=by omega
   rw[en]
   have s7:=(Z9 hp7 (.rng pl (pl+s9))).trans (Z9 hl1 (.lst ((ups pl s9.toNat).map V.int)))
   have hl7:(upd (upd H4 p7 (.rng pl (pl+s9))) l1 (.lst ((ups pl s9.toNat).map V.int))) l1=some (.lst ((ups pl s9.toNat).map V.int)):=Z5
   have n7:=n4.same s7
   have hf7:=s7 _ _ hfo
   generalize upd (upd H4 p7 (.rng pl (pl+s9))) l1 (.lst ((ups pl s9.toNat).map V.int))=H7 at hl7 n7 hf7 ⊢
   have lup:(ups pl s9.toNat).length=s9.toNat:=Yo ..
   refine⟨f,l1,_,_,rfl,rfl,hf7,hl7,by rw[Z2,Z2,lup,sizeLine_eq];omega,?_⟩
   have n4:Nr H a f b (upd H7 f (.lst (fo.map V.int++(ups pl s9.toNat).map V.int))) (pl+s9):=by
    obtain⟨x8,st8⟩:=n7.st
    refine⟨⟨x8,by rw[ZS fa.symm];exact st8.1,st8.2⟩,fun c o hc hco=>?_,fo++ups pl s9.toNat,by rw[Z5,ZB],by rw[Z6,lup];omega,?_,fun p hp=>?_⟩
    ·rw[ZS (ZP hco hf)]
     exact n7.kp c o hc hco
    ·rw[YD]
     exact⟨fu,ups_up _ _,fun y hy z hz=>by have:=(fb y hy).2;have:=(ups_mem hz).1;omega⟩
    ·rcases Zi.mp hp with hp | hp
     ·have:=fb p hp;omega
     ·have:=ups_mem hp;omega
   generalize upd H7 f (.lst (fo.map V.int++(ups pl s9.toNat).map V.int))=H4 at n4 ⊢
   obtain⟨x4,st4⟩:=n4.st
   refine⟨_,rfl,_,rfl,_,_,rfl,rfl,_,rfl,_,rfl,(by show 6<=sizeLine;decide),fun p2 hp2=>?_⟩
   have s5:=Z9 hp2 (.lst [.int 0,.int 0,.int 0,.int (-1),.int 1,.int 7])
   have hp5:(upd H4 p2 (.lst [.int 0,.int 0,.int 0,.int (-1),.int 1,.int 7])) p2=some (.lst [.int 0,.int 0,.int 0,.int (-1),.int 1,.int 7]):=Z5
   have p2a:p2≠a:=(ZP st4.1 hp2).symm
   have n5:=n4.same s5
   have st5:=st4.same s5
   generalize upd H4 p2 (.lst [.int 0,.int 0,.int 0,.int (-1),.int 1,.int 7])=H5 at hp5 n5 st5 ⊢
   refine⟨_,rfl,a,x4,b,6,rfl,st5,by decide,by decide,fun v6 x6 v60 v61 d6=>?_⟩
   have n6:=n5.take fa d6
   have hp6:=YE a H5 (.lst [.int x6,.bl b]) _ _ p2a hp5
   generalize upd H5 a (.lst [.int x6,.bl b])=H6 at n6 hp6 ⊢
   obtain⟨u2,hu2,um2,_⟩:=SG (xs:=[.int 0,.int 0,.int 0,.int (-1),.int 1,.int 7]) v60 (by simpa using v61)
   obtain⟨e2,rfl,e20,e21⟩:∃e2:Int,u2=.int e2/\-1<=e2/\e2<=7:=by
    simp only[ZV,ZC,or_false]at um2
    rcases um2 with rfl | rfl | rfl | rfl | rfl | rfl<;>exact⟨_,rfl,by omega,by omega⟩
   refine⟨p2,_,_,_,rfl,rfl,Zp.of hp6,hu2,_,_,rfl,rfl,_,_,rfl,_,_,rfl,rfl,?_⟩
   refine⟨_,_,_,rfl,n6.far ?_,?_,?_,szb.1,by omega⟩
   ·split<;>omega
   ·split<;>omega
   ·split<;>omega
  ·have n4:=n4.far (show pl<=pl+s9 by omega)
   obtain⟨x4,st4⟩:=n4.st
   refine⟨_,rfl,_,rfl,_,_,rfl,rfl,_,rfl,_,rfl,(by show 6<=sizeLine;decide),fun p2 hp2=>?_⟩
   have s5:=Z9 hp2 (.lst [.int 0,.int 0,.int 0,.int (-1),.int 1,.int 7])
   have hp5:(upd H4 p2 (.lst [.int 0,.int 0,.int 0,.int (-1),.int 1,.int 7])) p2=some (.lst [.int 0,.int 0,.int 0,.int (-1),.int 1,.int 7]):=Z5
   have p2a:p2≠a:=(ZP st4.1 hp2).symm
   have n5:=n4.same s5
   have st5:=st4.same s5
   generalize upd H4 p2 (.lst [.int 0,.int 0,.int 0,.int (-1),.int 1,.int 7])=H5 at hp5 n5 st5 ⊢
   refine⟨_,rfl,a,x4,b,6,rfl,st5,by decide,by decide,fun v6 x6 v60 v61 d6=>?_⟩
   have n6:=n5.take fa d6
   have hp6:=YE a H5 (.lst [.int x6,.bl b]) _ _ p2a hp5
   generalize upd H5 a (.lst [.int x6,.bl b])=H6 at n6 hp6 ⊢
   obtain⟨u2,hu2,um2,_⟩:=SG (xs:=[.int 0,.int 0,.int 0,.int (-1),.int 1,.int 7]) v60 (by simpa using v61)
   obtain⟨e2,rfl,e20,e21⟩:∃e2:Int,u2=.int e2/\-1<=e2/\e2<=7:=by
    simp only[ZV,ZC,or_false]at um2
    rcases um2 with rfl | rfl | rfl | rfl | rfl | rfl<;>exact⟨_,rfl,by omega,by omega⟩
   refine⟨p2,_,_,_,rfl,rfl,Zp.of hp6,hu2,_,_,rfl,rfl,_,_,rfl,_,_,rfl,rfl,?_⟩
   refine⟨_,_,_,rfl,n6.far ?_,?_,?_,szb.1,by omega⟩
   ·split<;>omega
   ·split<;>omega
   ·split<;>omega
 ·obtain⟨pl,sz,o4,rfl,nr,pl0,pl1,sz0,sz1⟩:=hp
  obtain⟨fo,hfo,fl,fu,fb⟩:=nr.fo
  obtain⟨x9,st9⟩:=nr.st
  refine⟨_,rfl,f,_,rfl,.inl ⟨Zp.of hfo,fun p hp=>?_⟩⟩
  have s9:=Z9 hp (.tup (fo.map V.int))
  exact q p fo _ x9 (nr.kp.same s9) (st9.same s9) Z5 ⟨fl,fu,fun y hy=>by have:=fb y hy;omega⟩
end
end K97
namespace K97
open L2
def spFl:Sp:=fun vs H Q _=>∃(a:Addr) (row:List Int) (s:Int),vs=[.ref a,.int s]/\H a=some (.tup (row.map V.int))/\Far row/\frB (BB.blk row)=true/\0<=s/\s<=1000000/\
 ∀(r:Addr) (H':Hp),ZR H H'->H' r=some (.tup ((BB.flw (BB.blk row) s).map V.int))->Q (.ref r) H'
def spFlE1 (c1:Addr):Sp:=fun vs H Q E=>∃(a:Addr) (row:List Int) (v:V),vs=[.ref a,v]/\H a=some (.tup (row.map V.int))/\Far row/\frB (BB.blk row)=false/\∀e H',ZR H H'->H' e=none->E (.ref c1) (some e) H'
theorem blk_bd {row:List Int}(f:Far row){b:Int×Int}(h:b∈BB.blk row):-1000000000<=b.1/\b.1<=1000000000/\1<=b.2/\b.2<=12:=by
 obtain⟨h1,h2,h3⟩:=(BB.Tr row).1 b h
 have:=f.bd _ h1
 have:=f.len
 omega
theorem TM {H:Hp}{ys:List V}{bl:List (Int×Int)}(t:So H ys bl){i:Nat}(hi:i<bl.length):∃p,ys[i]?=some (.ref p)/\H p=some (.tup [.int (bl.getD i (0,0)).1,.int (bl.getD i (0,0)).2])/\bl.getD i (0,0)∈bl:=by
 have e:=Z1 hi
 have d:bl.getD i (0,0)=bl[i]:=by rw[Z4,e];rfl
 rw[d]
 obtain⟨p,a,b⟩:=t.2 i _ e
 exact⟨p,a,b,XI hi⟩
theorem flw_V (bl:List (Int×Int))(s:Int):(List.range bl.length).flatMap (fun i=>(BB.far1 s (bl.getD i (0,0))).map V.int)=(BB.flw bl s).map V.int:=by
 rw[BB.range_flat (0,0) (fun b=>(BB.far1 s b).map V.int)]
 unfold BB.flw
 rw[List.map_flatMap]
section
variable {P:Program}{w:World}{K:W.Frag}{mg:Str->Option Value}{base:Heap}{c0 c1:Addr}{bm0 bm1:List Value}
theorem ok_need_number {f:Addr}{fd:FuncData}(F:XH K "need_number" "need_number" V3 f fd)(nb:Nb2 mg)(h_is_number:YR P w K mg base 1 "is_number" ["thing","least","greatest"] spNum)  :
 Y6 P w K mg base XB 2 f fd ["thing","least","greatest"] spNeed:=by
 have nd:=Vq.nd
 refine F.ok (k:=1) Vq (fun vs H Q E h=>?_) (fun cdv A outer s H vs Q E hr h=>?_)
 ·obtain⟨v,lo,hi,rfl,_⟩:=h
  rfl
 obtain⟨v,lo,hi,rfl,h1,h2,q⟩:=h
 refine⟨_,(ZX (YX (Yx (Zo (ZI h_is_number hr (Z0 (pv 0) (Z0 (pv 1) (Z0 (pv 2) Z3)))) (fun _=>rfl)))
(ZX ps_never)
Zg)),?_⟩
 refine⟨_,rfl,_,rfl,_,rfl,.int v,"int",lo,hi,rfl,.int v,_,rfl,?_⟩
 rw[num_true h1 h2]
 exact iteF q
theorem ok_free_later {f:Addr}{fd:FuncData}(F:XH K "free_later" "free_later" Xa f fd)(nb:Nb2 mg)(h_blocks:YR P w K mg base 3 "blocks" ["row"] spBl)(h_need_number:YR P w K mg base 2 "need_number" ["thing","least","greatest"] spNeed)(c_MOST_STEPS:∃u,mg "MOST_STEPS" = some u/\Zb (.int 1000000) u) :
 Y6 P w K mg base XB 4 f fd ["row","steps"] spFl:=by
 have nd:=WW.nd
 refine F.ok (k:=3) WW (fun vs H Q E h=>?_) (fun cdv A outer s H vs Q E hr h=>?_)
 ·obtain⟨a,row,s,rfl,_⟩:=h
  rfl
 obtain⟨a,row,s,rfl,ha,fa,ft,l1,l2,q⟩:=h
 refine⟨_,(Z7 (ZH (i:=2) nd rfl (Or.inl rfl) (ZI h_blocks hr (Z0 (pv 0) Z3)))
(Z7 (YQ (ZI h_need_number hr (Z0 (pv 1) (Z0 ZZ (Z0 (Yl c_MOST_STEPS) Z3)))))
(ZX (ZE (Zy Zz rfl nb.tuple boot_tuple (Z0 (pe_compO2 (sc:=ZY Xa) (N0:=["row","steps","found"]) (N:=["steps"]) (js:=[1]) rfl rfl rfl (by constructor<;>first|decide +kernel|rfl) rfl rfl rfl
(X6 (pv 2))
(fun _ _ _ _ _=>by exact(UZ rfl nb.range (Z0 (pv 0) (Z0 (ZG Zn (pv 0) (pv 1)) Z3))))
(fun _ _ _ _ _=>by exact(ZG Zn (pv 2) (ZG Uw (pv 1) (pv 3))))) Z3)))))),?_⟩
 refine⟨_,rfl,a,row,rfl,ha,fa,ft,fun r ys H1 s1 h1 t1=>?_⟩
 refine⟨_,rfl,s,0,1000000,rfl,l1,l2,?_⟩
 have bl12:=WC row
 have r12:=fa.len
 refine⟨_,rfl,r,rfl,⟨ys,Y0.of h1⟩,fun D hD=>?_⟩
 refine out_go ys.length (fun i=>(BB.far1 s ((BB.blk row).getD i (0,0))).map V.int) (fun σ=>∃o0 o1 o2,σ=[o0,o1,o2,some (.int s)]) (fun i H' x=>ys[i]?=some x) (fun i hi=>?_) hD ⟨_,_,_,rfl⟩ (YB h1) (fun i x σ' H' pre hi sm im hσ hd hl N hN=>?_) (fun H' sm hD'=>?_)
 ·refine Nat.le_trans (BB.flat_le _ 12 i fun j hj=>?_) ?_
  ·rw[Z2,BB.Vb]
   obtain⟨p,_,_,hm⟩:=TM t1 (show j<(BB.blk row).length by rw[<-t1.1];omega)
   have:=blk_bd fa hm
   omega
  ·rw[sizeLine_eq]
   have:=t1.1
   omega
 ·obtain⟨o0,o1,o2,rfl⟩:=hσ
  obtain⟨p,e,hp,hm⟩:=TM (t1.same sm) (show i<(BB.blk row).length by rw[<-t1.1];exact hi)
  rw[e]at im
  cases im
  have bd:=blk_bd fa hm
  generalize(BB.blk row).getD i (0,0)=b at hp bd hl hN
  rw[Z2,BB.Vb]at hl
  refine⟨p,_,rfl,Y0.of hp,rfl,_,_,rfl,_,_,rfl,rfl,?_⟩
  refine⟨_,rfl,_,rfl,_,rfl,_,_,rfl,rfl,b.1,b.1+b.2,rfl,⟨by omega,by omega,by omega,by omega⟩,?_⟩
  rw[show(b.1+b.2 - b.1).toNat=b.2.toNat by congr 1;omega]
  refine deep_go b.2.toNat (fun j=>.int (b.1+(j:Int)+b.2*s)) pre (fun σ=>∃o2,σ=[some (.int b.1),some (.int b.2),o2,some (.int s)]) (fun j H' x=>x=.int (b.1+(j:Int))) hd hl ⟨_,rfl⟩ (fun j H2 _=>Wy b.1 b.2.toNat j H2 (ZR.refl _)) (fun j x σ2 H2 hj b2 im hσ R hR=>?_) (fun σ2 H2 hσ b2 h2=>?_)
  ·obtain⟨o2,rfl⟩:=hσ
   subst im
   exact⟨_,rfl,_,rfl,_,rfl,b.2,s,rfl,rfl,.inl ⟨by omega,by omega⟩,_,_,rfl,rfl,hR _ _ _ ⟨_,rfl⟩ (ZR.refl _) rfl⟩
  ·obtain⟨o2,rfl⟩:=hσ
   refine hN _ _ ⟨_,_,_,rfl⟩ b2 ?_
   rw[h2]
   unfold BB.far1
   rw[Y5]
   rfl
 ·rw[t1.1,flw_V]at hD'
  refine⟨D,_,rfl,.inl ⟨Zp.of hD',fun p hp=>?_⟩⟩
  have s4:=Z9 hp (.tup ((BB.flw (BB.blk row) s).map V.int))
  exact q p _ (s1.trans (sm.trans s4)) Z5
theorem Sq {f:Addr}{fd:FuncData}(F:XH K "free_later" "free_later" Xa f fd)(hE_blocks:HasE P w K mg base 3 "blocks" ["row"] (spBlE c1)) :
 Y6 P w K mg base (CXF P w) 4 f fd ["row","steps"] (spFlE1 c1):=by
 have nd:=WW.nd
 refine F.okE (k:=3) WW (fun vs H Q E h=>?_) (fun cdv A outer s H vs Q E hr h=>?_)
 ·obtain⟨a,row,v,rfl,_⟩:=h
  rfl
 obtain⟨a,row,v,rfl,ha,fa,ft,q⟩:=h
 refine⟨_,(Z7 (ZH (i:=2) nd rfl (Or.inl rfl) (pe_defE hE_blocks lvs_cx hr (Z0 (pv 0) Z3))) pss_never),?_⟩
 exact⟨_,rfl,a,row,rfl,ha,fa,ft,q⟩
end
end K97
namespace K97
open L2
def frAt (row:List Int)(j:Nat):Bool:=frB (BB.blk (BB.it (BB.step row.length) j row))
def ftF (row:List Int):Option Nat:=(List.range 61).find? (frAt row)
theorem ft_none {row:List Int}(h:∀j,j<61->frAt row j=false):ftF row=none:=by
 unfold ftF
 rw[List.find?_eq_none]
 intro j hj
 rw[h j (Ys.mp hj)]
 exact Bool.false_ne_true
theorem ft_some {row:List Int}{i:Nat}(hi:i<61)(h:∀j,j<i->frAt row j=false)(e:frAt row i=true):ftF row=some i:=by
 unfold ftF
 rw[List.find?_range_eq_some]
 refine⟨e,Ys.mpr hi,fun j hj=>?_⟩
 rw[h j hj]
 rfl
theorem ft_out {row:List Int}(h:ftF row=none){j:Nat}(hj:j<61):frAt row j=false:=by
 unfold ftF at h
 rw[List.find?_eq_none]at h
 exact YJ.mpr (h j (Ys.mpr hj))
theorem Far.rw2 {row:List Int}(h:Far row):BB.Rw row row.length (-2000000000) 2000000000:=⟨h.up,rfl,fun p hp=>by have:=h.bd p hp;omega⟩
theorem far_ok {row:List Int}(h:Far row){i:Nat}(hi:i<61):Ok (BB.it (BB.step row.length) i row) row.length:=(ok_bound h.rw2 h.len i (by omega) (by omega) (by omega) row.length).1
def spUntil:Sp:=fun vs H Q _=>∃(a:Addr) (row:List Int) (m:Nat),vs=[.ref a]/\H a=some (.tup (row.map V.int))/\Far row/\ftF row=some m/\
 ∀(r p:Addr) (H':Hp),ZR H H'->H' r=some (.tup ((BB.it (BB.step row.length) m row).map V.int))->H' p=some (.tup [.int (m:Int),.ref r])->Q (.ref p) H'
def VX (c2:Addr):Sp:=fun vs H Q E=>∃(a:Addr) (row:List Int),vs=[.ref a]/\H a=some (.tup (row.map V.int))/\Far row/\ftF row=none/\∀e H',ZR H H'->H' e=none->E (.ref c2) (some e) H'
def spSteps:Sp:=fun vs H Q _=>∃(a:Addr) (row:List Int) (m:Nat),vs=[.ref a]/\H a=some (.tup (row.map V.int))/\Far row/\ftF row=some m/\∀H',ZR H H'->Q (.int (m:Int)) H'
def ansV:Option Nat->V
 |none=>.non
 |some m=>.int (m:Int)
def spStp:Sp:=fun vs H Q _=>∃(a:Addr) (row:List Int),vs=[.ref a]/\H a=some (.tup (row.map V.int))/\Far row/\∀H',ZR H H'->Q (ansV (ftF row)) H'
section
variable {P:Program}{w:World}{K:W.Frag}{mg:Str->Option Value}{base:Heap}{c2:Addr}{bm2:List Value}
theorem ok_until_free {f:Addr}{fd:FuncData}(F:XH K "until_free" "until_free" WE f fd)(nb:Nb2 mg)(h_is_free:YR P w K mg base 2 "is_free" ["row"] WH)(h_carried:YR P w K mg base 2 "carried" ["row"] UM)(c_MOST_TO_FREE:∃u,mg "MOST_TO_FREE" = some u/\Zb (.int 60) u) :
 Y6 P w K mg base XB 3 f fd ["row"] spUntil:=by
 have nd:=WX.nd
 refine F.ok (k:=2) WX (fun vs H Q E h=>?_) (fun cdv A outer s H vs Q E hr h=>?_)
 ·obtain⟨a,row,m,rfl,_⟩:=h
  rfl
 obtain⟨a,row,m,rfl,ha,fa,ft,q⟩:=h
 refine⟨_,(Z7 (ZH (i:=1) nd rfl (Or.inl rfl) (pv 0))
(Z7 (XV PassesOwn.never rfl (XQ rfl nb.range (Z0 (ZG Zn (Yl c_MOST_TO_FREE) ZZ) Z3)) (Zl (i:=2) nd rfl (Or.inl rfl))
(Z7 (YX (Zo (ZI h_is_free hr (Z0 (pv 1) Z3)) (fun _=>rfl))
(ZX (ZE (Yc (Z0 (pv 2) (Z0 (pv 1) Z3)))))
Zg)
(ZX (ZH (i:=1) nd rfl (Or.inl rfl) (ZI h_carried hr (Z0 (pv 1) Z3))))))
(ZX ps_never))),?_⟩
 refine⟨_,rfl,?_⟩
 refine⟨_,_,rfl,rfl,_,rfl,by decide,by decide,?_⟩
 refine Xw (fun i σ H'=>ZR H H'/\(∀j,j<i->frAt row j=false)/\∃r o2,σ=[some (.ref a),some (.ref r),o2]/\H' r=some (.tup ((BB.it (BB.step row.length) i row).map V.int))) ⟨ZR.refl H,fun j hj=>by omega,a,_,rfl,ha⟩ (fun i σ H' hi hp=>?_) (fun σ H' hp=>?_)
 ·obtain⟨sm,al,r,o2,rfl,hr1⟩:=hp
  have i61:i<61:=hi
  have ok:=far_ok fa i61
  refine⟨_,rfl,r,_,rfl,hr1,ok.1.up,by have:=ok.1.len;have:=fa.len;omega,fun H1 s1=>?_⟩
  generalize hf:frB (BB.blk (BB.it (BB.step row.length) i row))=fb
  have hf':frAt row i=fb:=hf
  cases fb with
  |true=>
   refine⟨_,rfl,iteT ?_⟩
   have em:m=i:=by
    have:=ft_some i61 al hf'
    rw[ft]at this
    exact Option.some.inj this
   subst em
   refine⟨_,rfl,_,rfl,(by show 2<=sizeLine;decide),fun p hp=>?_⟩
   have s2:=Z9 hp (.tup [.int (0+(m:Int)),.ref r])
   exact q r p _ (sm.trans (s1.trans s2)) (s2 _ _ (s1 _ _ hr1)) (by rw[Z5,zero_add])
  |false=>
   refine⟨_,rfl,iteF ?_⟩
   refine⟨_,rfl,r,_,row.length,rfl,s1 _ _ hr1,ok,fun r2 H2 s2 h2=>?_⟩
   refine⟨sm.trans (s1.trans s2),fun j hj=>?_,r2,_,rfl,h2⟩
   by_cases z:j=i
   ·rw[z];exact hf'
   ·exact al j (by omega)
 ·obtain⟨sm,al,r,o2,rfl,hr1⟩:=hp
  have z:=ft_none (row:=row) fun j hj=>al j hj
  rw[ft]at z
  cases z
theorem ok_until_freeE {f:Addr}{fd:FuncData}(F:XH K "until_free" "until_free" WE f fd)(nb:Nb2 mg)(h_is_free:YR P w K mg base 2 "is_free" ["row"] WH)(h_carried:YR P w K mg base 2 "carried" ["row"] UM)(c_MOST_TO_FREE:∃u,mg "MOST_TO_FREE" = some u/\Zb (.int 60) u)(hm:mg "TooLong" = some (.ref c2))(ex:Exc K c2 bm2) :
 Y6 P w K mg base (CXF P w) 3 f fd ["row"] (VX c2):=by
 have nd:=WX.nd
 refine F.okE (k:=2) WX (fun vs H Q E h=>?_) (fun cdv A outer s H vs Q E hr h=>?_)
 ·obtain⟨a,row,rfl,_⟩:=h
  rfl
 obtain⟨a,row,rfl,ha,fa,ft,q⟩:=h
 refine⟨_,(Z7 (ZH (i:=1) nd rfl (Or.inl rfl) (pv 0))
(Z7 (ps_calm (XV PassesOwn.never rfl (XQ rfl nb.range (Z0 (ZG Zn (Yl c_MOST_TO_FREE) ZZ) Z3)) (Zl (i:=2) nd rfl (Or.inl rfl))
(Z7 (YX (Zo (ZI h_is_free hr (Z0 (pv 1) Z3)) (fun _=>rfl))
(ZX (ZE (Yc (Z0 (pv 2) (Z0 (pv 1) Z3)))))
Zg)
(ZX (ZH (i:=1) nd rfl (Or.inl rfl) (ZI h_carried hr (Z0 (pv 1) Z3)))))))
(ZX (ps_raise lvs_cx rfl rfl hm ex (Z0 (pe_fstr (pj_str (pj_int (Yl c_MOST_TO_FREE) (pj_str pj_nil)))) Z3))))),?_⟩
 refine⟨_,rfl,?_⟩
 refine⟨_,_,rfl,rfl,_,rfl,by decide,by decide,?_⟩
 refine Xw (fun i σ H'=>ZR H H'/\(∀j,j<i->frAt row j=false)/\∃r o2,σ=[some (.ref a),some (.ref r),o2]/\H' r=some (.tup ((BB.it (BB.step row.length) i row).map V.int))) ⟨ZR.refl H,fun j hj=>by omega,a,_,rfl,ha⟩ (fun i σ H' hi hp=>?_) (fun σ H' hp=>?_)
 ·obtain⟨sm,al,r,o2,rfl,hr1⟩:=hp
  have i61:i<61:=hi
  have ok:=far_ok fa i61
  refine⟨_,rfl,r,_,rfl,hr1,ok.1.up,by have:=ok.1.len;have:=fa.len;omega,fun H1 s1=>?_⟩
  generalize hf:frB (BB.blk (BB.it (BB.step row.length) i row))=fb
  have hf':frAt row i=fb:=hf
  cases fb with
  |true=>
   rw[ft_out ft i61]at hf'
   cases hf'
  |false=>
   refine⟨_,rfl,iteF ?_⟩
   refine⟨_,rfl,r,_,row.length,rfl,s1 _ _ hr1,ok,fun r2 H2 s2 h2=>?_⟩
   refine⟨sm.trans (s1.trans s2),fun j hj=>?_,r2,_,rfl,h2⟩
   by_cases z:j=i
   ·rw[z];exact hf'
   ·exact al j (by omega)
 ·obtain⟨sm,al,r,o2,rfl,hr1⟩:=hp
  refine⟨by decide +kernel,60,rfl,by decide +kernel,by decide +kernel,by decide +kernel,by decide +kernel,by decide +kernel,?_⟩
  exact fun e he=>q e H' sm he
theorem SY {f:Addr}{fd:FuncData}(F:XH K "steps_to_free" "steps_to_free" Xl f fd)(nb:Nb2 mg)(h_until_free:YR P w K mg base 3 "until_free" ["row"] spUntil)  :
 Y6 P w K mg base XB 4 f fd ["row"] spSteps:=by
 have nd:=Xy.nd
 refine F.ok (k:=3) Xy (fun vs H Q E h=>?_) (fun cdv A outer s H vs Q E hr h=>?_)
 ·obtain⟨a,row,m,rfl,_⟩:=h
  rfl
 obtain⟨a,row,m,rfl,ha,fa,ft,q⟩:=h
 refine⟨_,(Z7 (Vg (ZI h_until_free hr (Z0 (pv 0) Z3)) (Xt rfl (Ze (Zl (i:=1) nd rfl (Or.inl rfl)) (Ze (Zl (i:=2) nd rfl (Or.inl rfl)) X9))))
(ZX (ZE (pv 1)))),?_⟩
 refine⟨_,rfl,a,row,m,rfl,ha,fa,ft,fun r p H1 s1 h1 h2=>?_⟩
 refine⟨p,_,rfl,Y0.of h2,rfl,_,_,rfl,_,_,rfl,rfl,?_⟩
 exact⟨_,rfl,q H1 s1⟩
theorem TH {f:Addr}{fd:FuncData}(F:XH K "steps_to_free" "steps_to_free" Xl f fd)(hE_until:HasE P w K mg base 3 "until_free" ["row"] (VX c2)) :
 Y6 P w K mg base (CXF P w) 4 f fd ["row"] (VX c2):=by
 have nd:=Xy.nd
 refine F.okE (k:=3) Xy (fun vs H Q E h=>?_) (fun cdv A outer s H vs Q E hr h=>?_)
 ·obtain⟨a,row,rfl,_⟩:=h
  rfl
 obtain⟨a,row,rfl,ha,fa,ft,q⟩:=h
 refine⟨_,(Z7 (Vg (pe_defE hE_until lvs_cx hr (Z0 (pv 0) Z3)) (Xt rfl (Ze (Zl (i:=1) nd rfl (Or.inl rfl)) (Ze (Zl (i:=2) nd rfl (Or.inl rfl)) X9)))) pss_never),?_⟩
 exact⟨_,rfl,a,row,rfl,ha,fa,ft,q⟩
theorem ok_L_steps {f:Addr}{fd:FuncData}(F:XH K "_law_steps" "_law_steps" Tg f fd)(nb:Nb2 mg)(h_L_is_free:YR P w K mg base 2 "_law_is_free" ["_law_row"] WH)(h_L_carried:YR P w K mg base 1 "_law_carried" ["_law_row"] UM)  :
 Y6 P w K mg base XB 3 f fd ["_law_row"] spStp:=by
 have nd:=sc_L_steps.nd
 refine F.ok (k:=2) sc_L_steps (fun vs H Q E h=>?_) (fun cdv A outer s H vs Q E hr h=>?_)
 ·obtain⟨a,row,rfl,_⟩:=h
  rfl
 obtain⟨a,row,rfl,ha,fa,q⟩:=h
 refine⟨_,(Z7 (XV PassesOwn.never rfl (XQ rfl nb.range (Z0 ZZ Z3)) (Zl (i:=1) nd rfl (Or.inl rfl))
(Z7 (YX (Zo (ZI h_L_is_free hr (Z0 (pv 0) Z3)) (fun _=>rfl))
(ZX (ZE (pv 1)))
Zg)
(ZX (ZH (i:=0) nd rfl (Or.inl rfl) (ZI h_L_carried hr (Z0 (pv 0) Z3))))))
(ZX (ZE pe_non))),?_⟩
 refine⟨_,rfl,by decide,by decide,?_⟩
 refine Xw (fun i σ H'=>ZR H H'/\(∀j,j<i->frAt row j=false)/\∃r o1,σ=[some (.ref r),o1]/\H' r=some (.tup ((BB.it (BB.step row.length) i row).map V.int))) ⟨ZR.refl H,fun j hj=>by omega,a,_,rfl,ha⟩ (fun i σ H' hi hp=>?_) (fun σ H' hp=>?_)
 ·obtain⟨sm,al,r,o1,rfl,hr1⟩:=hp
  have i61:i<61:=hi
  have ok:=far_ok fa i61
  refine⟨_,rfl,r,_,rfl,hr1,ok.1.up,by have:=ok.1.len;have:=fa.len;omega,fun H1 s1=>?_⟩
  generalize hf:frB (BB.blk (BB.it (BB.step row.length) i row))=fb
  have hf':frAt row i=fb:=hf
  cases fb with
  |true=>
   refine⟨_,rfl,iteT ⟨_,rfl,?_⟩⟩
   have z:=q H1 (sm.trans s1)
   rw[ft_some i61 al hf']at z
   rw[zero_add]
   exact z
  |false=>
   refine⟨_,rfl,iteF ?_⟩
   refine⟨_,rfl,r,_,row.length,rfl,s1 _ _ hr1,ok,fun r2 H2 s2 h2=>?_⟩
   refine⟨sm.trans (s1.trans s2),fun j hj=>?_,r2,_,rfl,h2⟩
   by_cases z:j=i
   ·rw[z];exact hf'
   ·exact al j (by omega)
 ·obtain⟨sm,al,r,o1,rfl,hr1⟩:=hp
  have z:=q H' sm
  rw[ft_none (row:=row) fun j hj=>al j hj]at z
  exact z
end
end K97
namespace K97
open L2
theorem Xo {H H':Hp}{ys:List V}{bl:List (Int×Int)}(t:Prs H ys bl)(s:∀p xs,H p=some (.tup xs)->H' p=some (.tup xs)):Prs H' ys bl:=⟨t.1,fun j b e=>let⟨p,a,c⟩:=t.2 j b e;⟨p,a,s _ _ c⟩⟩
theorem prs_snoc {H:Hp}{ys:List V}{bl:List (Int×Int)}{p:Addr}{b:Int×Int}(t:Prs H ys bl)(h:H p=some (.tup [.int b.1,.int b.2])):Prs H (ys++[.ref p]) (bl++[b]):=by
 refine⟨by simp[t.1],fun j c e=>?_⟩
 by_cases z:j<bl.length
 ·rw[ZL z]at e
  obtain⟨q,e1,e2⟩:=t.2 j c e
  exact⟨q,by rw[ZL (by rw[t.1];exact z)];exact e1,e2⟩
 ·have jl:j<(bl++[b]).length:=(List.getElem?_eq_some_iff.mp e).1
  have jj:j=bl.length:=by rw[Z6,ZN]at jl;omega
  subst jj
  rw[ZU (Nat.le_refl _),Nat.sub_self]at e
  cases e
  exact⟨p,by rw[<-t.1,ZU (Nat.le_refl _),Nat.sub_self];rfl,h⟩
def Kinds (ml:List (Int×Int)):Prop:=∀q∈ml,1<=q.2/\q.2<=3
theorem prs_at {H:Hp}{ys:List V}{bl:List (Int×Int)}(t:Prs H ys bl){i:Nat}(hi:i<bl.length):∃p,ys[i]?=some (.ref p)/\H p=some (.tup [.int (bl.getD i (0,0)).1,.int (bl.getD i (0,0)).2])/\bl.getD i (0,0)∈bl:=by
 have e:=Z1 hi
 have d:bl.getD i (0,0)=bl[i]:=by rw[Z4,e];rfl
 rw[d]
 obtain⟨p,a,b⟩:=t.2 i _ e
 exact⟨p,a,b,XI hi⟩
theorem at_int {row:List Int}{i:Nat}(hi:i<row.length):atI (row.map V.int) ((i:Nat):Int)=some (.int (row.getD i 0)):=Zj (by
 rw[ZQ,Z1 hi,Z4,Z1 hi]
 rfl)
end K97
namespace K97
open L2
def twoO:Option HO->Option (V×V)
 |some (.tup [u,k])=>some (u,k)
 |_=>none
def twoV (H:Hp):V->Option (V×V)
 | .ref a=>twoO (H a)
 |_=>none
def kidB:Option (V×V)->Bool
 |some (_,k)=>numB 1 3 k
 |none=>false
def plO:Option (V×V)->V
 |some (u,_)=>u
 |none=>.non
def W4 (H:Hp)(x:V):Bool:=kidB (twoV H x)
def plV (H:Hp)(x:V):V:=plO (twoV H x)
def motB (H:Hp)(xs:List V):Bool:=xs.all (W4 H)&&rowB (xs.map (plV H))
def motO (H:Hp):Option HO->Bool
 |some (.tup xs)=>motB H xs
 |_=>false
def motV (H:Hp):V->Bool
 | .ref a=>motO H (H a)
 |_=>false
theorem motV_tup {H:Hp}{a:Addr}{xs:List V}(h:H a=some (.tup xs)):motV H (.ref a)=motB H xs:=by
 show motO H (H a)=_
 rw[h]
 rfl
theorem Uh {H:Hp}{a:Addr}{xs:List V}(h:H a=some (.tup xs)):twoV H (.ref a)=twoO (some (.tup xs)):=by
 show twoO (H a)=_
 rw[h]
theorem twoO_ne {xs:List V}(h:xs.length≠2):twoO (some (.tup xs))=none:=by
 match xs with
 |[]=>rfl
 |[_]=>rfl
 |[_,_]=>exact absurd rfl h
 |_::_::_::_=>rfl
theorem kn_two {H:Hp}{v:V}{T:String}(h:Kn H v T):(T="tuple"/\∃a xs,v=.ref a/\H a=some (.tup xs))\/(subT T "tuple" = false/\twoV H v=none/\motV H v=false):=by
 cases h with
 |tup e=>exact .inl ⟨rfl,_,_,rfl,e⟩
 |lst e=>exact .inr ⟨by decide,by show twoO (H _)=none;rw[e];rfl,by show motO H (H _)=false;rw[e];rfl⟩
 |dK e=>exact .inr ⟨by decide,by show twoO (H _)=none;rw[e];rfl,by show motO H (H _)=false;rw[e];rfl⟩
 |_=>exact .inr ⟨by decide,rfl,rfl⟩
theorem two_same {H H':Hp}{v:V}(s:ZR H H')(h:∃T,Kn H v T):twoV H' v=twoV H v:=by
 obtain⟨T,h⟩:=h
 cases h with
 |tup e=>show twoO (H' _)=twoO (H _);rw[s _ _ e,e]
 |lst e=>show twoO (H' _)=twoO (H _);rw[s _ _ e,e]
 |dK e=>show twoO (H' _)=twoO (H _);rw[s _ _ e,e]
 |_=>rfl
structure Thing2 (H:Hp)(v:V):Prop where
 kn:∃T,Kn H v T
 it:∀a xs,v=.ref a->H a=some (.tup xs)->xs.length<=1000/\∀x∈xs,Thing H x
theorem thing_same {H H':Hp}{v:V}(s:ZR H H')(h:Thing H v):Thing H' v:=by
 obtain⟨⟨T,kn⟩,it⟩:=h
 refine⟨⟨T,kn_same s kn⟩,fun a xs e hx=>?_⟩
 subst e
 cases kn with
 |tup e=>
  rw[s _ _ e]at hx
  cases hx
  obtain⟨l,z⟩:=it _ _ rfl e
  exact⟨l,fun x hx=>let⟨T,k⟩:=z x hx;⟨T,kn_same s k⟩⟩
 |lst e=>rw[s _ _ e]at hx;cases hx
 |dK e=>rw[s _ _ e]at hx;cases hx
def spBall:Sp:=fun vs H Q _=>∃v:V,vs=[v]/\Thing H v/\Q (.bl (W4 H v)) H
def spMt:Sp:=fun vs H Q _=>∃v:V,vs=[v]/\Thing2 H v/\∀H',ZR H H'->Q (.bl (motV H v)) H'
theorem ball_some {H:Hp}{x:V}(h:W4 H x=true):(twoV H x).isSome=true:=by
 unfold W4 at h
 cases e:twoV H x with
 |none=>rw[e]at h;cases h
 |some _=>rfl
section
variable {P:Program}{w:World}{K:W.Frag}{mg:Str->Option Value}{base:Heap}{kk:Addr}
theorem ok_is_ball {f:Addr}{fd:FuncData}(F:XH K "is_ball" "is_ball" Ti f fd)(nb:Nb mg)(h_is_number:YR P w K mg base 1 "is_number" ["thing","least","greatest"] spNum)(c_KINDS:∃u,mg "KINDS" = some u/\Zb (.ref kk) u)(hK:∀H:Hp,Y0 K H kk [.int 1,.int 2,.int 3]) :
 Y6 P w K mg base XB 2 f fd ["thing"] spBall:=by
 have nd:=sc_is_ball.nd
 refine F.ok (k:=1) sc_is_ball (fun vs H Q E h=>?_) (fun cdv A outer s H vs Q E hr h=>?_)
 ·obtain⟨v,rfl,_⟩:=h
  rfl
 obtain⟨v,rfl,⟨⟨T,hk⟩,hit⟩,q⟩:=h
 refine⟨_,(ZX (ZE (pe_and (ZJ XD rfl nb.isi boot_isinstance (Z0 (pv 0) (Z0 (Wd nb.tuple boot_tuple) Z3))) (pe_and (WD Vd (ZJ Zx rfl nb.len PySem.boot_len (Z0 (pv 0) Z3)) ZZ (Zf _)) (pe_one (ZI h_is_number hr (Z0 (Zm YT (pv 0) ZZ (fun _ _=>rfl)) (Z0 (Zm YT (Yl c_KINDS) ZZ (fun _ _=>rfl)) (Z0 (Zm YT (Yl c_KINDS) (XG Yn ZZ) (fun _ _=>rfl)) Z3))))))))),?_⟩
 refine⟨_,rfl,_,_,_,rfl,hk,.inr (.inr (.inl rfl)),_,rfl,?_⟩
 rcases kn_two hk with⟨rfl,a,xs,rfl,ha⟩ | ⟨e1,e2,e3⟩
 ·refine iteT ?_
  refine⟨_,rfl,a,xs,rfl,.inr (Y0.of ha),rfl,_,rfl,?_⟩
  have et:=Uh ha
  by_cases c:xs.length=2
  ·match xs,c with
   |[u,k],_=>
    refine iteT ?_
    obtain⟨_,hx⟩:=hit a _ rfl ha
    obtain⟨T',kx⟩:=hx k (by simp)
    have eb:W4 H (.ref a)=numB 1 3 k:=by unfold W4;rw[et];rfl
    rw[eb]at q
    refine⟨_,rfl,a,_,_,_,rfl,rfl,Y0.of ha,(show atI [u,k] ((1:Nat):Int)=some k from Zj rfl),?_⟩
    refine⟨kk,_,_,_,rfl,rfl,hK H,(show atI [V.int 1,V.int 2,V.int 3] ((0:Nat):Int)=some (.int 1) from Zj rfl),?_⟩
    refine⟨_,rfl,kk,_,_,_,rfl,rfl,hK H,(show atI [V.int 1,V.int 2,V.int 3] (-1)=some (.int 3) from rfl),k,T',1,3,rfl,kx,q⟩
  ·rw[decide_eq_false (fun z=>c (by have:=V.int.inj z;omega))]
   have eb:W4 H (.ref a)=false:=by unfold W4;rw[et,twoO_ne c];rfl
   rw[eb]at q
   exact iteF q
 ·rw[e1]
  have eb:W4 H v=false:=by unfold W4;rw[e2];rfl
  rw[eb]at q
  exact iteF q
theorem ok_is_motley {f:Addr}{fd:FuncData}(F:XH K "is_motley" "is_motley" WT f fd)(nb:Nb mg)(h_is_ball:YR P w K mg base 2 "is_ball" ["thing"] spBall)(h_is_row:YR P w K mg base 2 "is_row" ["thing"] U4)  :
 Y6 P w K mg base XB 3 f fd ["thing"] spMt:=by
 have nd:=Uc.nd
 refine F.ok (k:=2) Uc (fun vs H Q E h=>?_) (fun cdv A outer s H vs Q E hr h=>?_)
 ·obtain⟨v,rfl,_⟩:=h
  rfl
 obtain⟨v,rfl,⟨⟨T,hk⟩,hit⟩,q⟩:=h
 refine⟨_,(Z7 (YX (PW.pt (WR (Yx (Zo (ZJ XD rfl nb.isi boot_isinstance (Z0 (pv 0) (Z0 (Wd nb.tuple boot_tuple) Z3))) (fun _=>rfl))) (Xu (Yx (Zo (ZJ (UP rfl) rfl nb.all boot_all (Z0 (YU (sc:=ZY WT) (N0:=["thing"]) (N:=[]) (js:=[]) rfl rfl rfl (by constructor<;>first|decide +kernel|rfl) rfl
(X6 (pv 0))
(fun _ _ _ _ _=>by exact YI)
(fun _ _ _ _ _=>by exact(ZI h_is_ball hr (Z0 (pv 0) Z3)))) Z3)) (fun _=>rfl))))))
(ZX (ZE Yk))
Zg)
(ZX (ZE (ZI h_is_row hr (Z0 (Zy Zz rfl nb.tuple boot_tuple (Z0 (Vf (sc:=ZY WT) (N0:=["thing"]) (N:=[]) (js:=[]) rfl rfl rfl (by constructor<;>first|decide +kernel|rfl) rfl rfl
(X6 (pv 0))
(fun _ _ _ _ _=>by exact YI)
(fun _ _ _ _ _=>by exact(pv 0))) Z3)) Z3))))),?_⟩
 refine⟨_,rfl,_,_,_,rfl,hk,.inr (.inr (.inl rfl)),_,rfl,?_⟩
 rcases kn_two hk with⟨rfl,a,xs,rfl,ha⟩ | ⟨e1,e2,e3⟩
 ·obtain⟨hz,hx⟩:=hit a xs rfl ha
  rw[motV_tup ha]at q
  refine iteF ⟨_,rfl,a,rfl,⟨_,Y0.of ha⟩,fun D hD=>?_⟩
  refine X4 xs.length (by rw[sizeLine_eq];omega) (fun i=>.bl (W4 H (xs.getD i .non))) (fun σ=>∃o1,σ=[o1]) _ hD (by exact⟨_,rfl⟩) (YB ha) (fun i x σ' H2 hi s2 im hσ R hR=>?_) (fun H' s' hD'=>?_)
  ·obtain⟨o1,rfl⟩:=hσ
   have tx:=hx x (Zh im)
   refine⟨_,rfl,x,rfl,thing_same s2 tx,hR _ _ _ ⟨_,rfl⟩ (ZR.refl _) ?_⟩
   unfold W4
   rw[two_same s2 tx.kn,SO im]
  rw[map_getD xs (fun x=>V.bl (W4 H x)),show xs.map (fun x=>V.bl (W4 H x))=(xs.map (W4 H)).map V.bl by rw[Y5];rfl]at hD'
  refine⟨D,_,rfl,Zp.of hD',_,rfl,?_⟩
  rw[show(xs.map (W4 H)).all id=xs.all (W4 H) by rw[all_map];rfl]
  by_cases d:xs.all (W4 H)=true
  ·rw[d]
   refine iteF ?_
   have em:motB H xs=rowB (xs.map (plV H)):=by unfold motB;rw[d,Bool.true_and]
   rw[em]at q
   have two:∀x∈xs,∃b u k,x=.ref b/\H b=some (.tup [u,k])/\plV H x=u/\∃T,Kn H u T:=fun x hx'=>by
    have tx:=hx x hx'
    obtain⟨⟨T,kn⟩,itx⟩:=tx
    have b1:=ball_some (X1.mp d x hx')
    rcases kn_two kn with⟨rfl,b,ys,rfl,hb⟩ | ⟨_,e2,_⟩
    ·have et:=Uh hb
     by_cases c:ys.length=2
     ·match ys,c with
      |[u,k],_=>exact⟨b,u,k,rfl,hb,by unfold plV;rw[et];rfl,(itx b _ rfl hb).2 u (by simp)⟩
     ·rw[et,twoO_ne c]at b1;cases b1
    ·rw[e2]at b1;cases b1
   have ha':=s' _ _ ha
   refine⟨_,rfl,a,rfl,⟨_,Y0.of ha'⟩,fun D2 hD2=>?_⟩
   refine X4 xs.length (by rw[sizeLine_eq];omega) (fun i=>plV H (xs.getD i .non)) (fun σ=>∃o0 o1,σ=[o0,o1]) _ hD2 (by exact⟨_,_,rfl⟩) (YB ha') (fun i x σ' H2 hi s2 im hσ R hR=>?_) (fun H3 s3 hD3=>?_)
   ·obtain⟨o0,o1,rfl⟩:=hσ
    obtain⟨b,u,k,rfl,hb,ep,_⟩:=two x (Zh im)
    refine⟨b,_,rfl,Y0.of (s2 _ _ (s' _ _ hb)),rfl,_,_,rfl,_,_,rfl,rfl,_,rfl,hR _ _ _ ⟨_,_,rfl⟩ (ZR.refl _) ?_⟩
    rw[SO im,ep]
   rw[map_getD xs (plV H)]at hD3
   refine⟨D2,_,rfl,.inl ⟨Zp.of hD3,fun l hl=>?_⟩⟩
   have s5:=s'.trans (s3.trans (Z9 hl (.tup (xs.map (plV H)))))
   have hl5:(upd H3 l (.tup (xs.map (plV H)))) l=some (.tup (xs.map (plV H))):=Z5
   refine⟨.ref l,rfl,⟨⟨_,.tup hl5⟩,fun b ys e hb=>?_⟩,fun H6 s6=>?_⟩
   ·cases e
    rw[hl5]at hb
    cases hb
    refine⟨by rw[Z2];exact hz,fun y hy=>?_⟩
    obtain⟨x,hx',rfl⟩:=YC.mp hy
    obtain⟨b,u,k,rfl,hb,ep,T,ku⟩:=two x hx'
    rw[ep]
    exact⟨T,kn_same s5 ku⟩
   ·rw[VT hl5]
    exact q _ (s5.trans s6)
  ·rw[YJ.mpr d]
   have em:motB H xs=false:=by unfold motB;rw[YJ.mpr d,Bool.false_and]
   rw[em]at q
   exact iteT (q _ s')
 ·rw[e1]
  rw[e3]at q
  exact iteT (q H (ZR.refl H))
end
end K97
namespace K97
open L2
structure LoL (H:Hp)(L:Addr)(ps:List Addr)(rs:List (List Int)):Prop where
 l:H L=some (.lst (ps.map V.ref))
 out:L∉ps
 nd:ps.Nodup
 len:ps.length=rs.length
 at_:∀(j:Nat) (r:List Int) (p:Addr),rs[j]?=some r->ps[j]?=some p->H p=some (.lst (r.map V.int))
theorem LoL.same {H H':Hp}{L:Addr}{ps:List Addr}{rs:List (List Int)}(t:LoL H L ps rs)(s:ZR H H'):LoL H' L ps rs:=⟨s _ _ t.l,t.out,t.nd,t.len,fun j r p e1 e2=>s _ _ (t.at_ j r p e1 e2)⟩
theorem LoL.set {H:Hp}{L:Addr}{ps:List Addr}{pre:List (List Int)}{r r':List Int}{rs:List (List Int)}{p:Addr}(t:LoL H L ps (pre++r::rs))(e:ps[pre.length]?=some p):LoL (upd H p (.lst (r'.map V.int))) L ps (pre++r'::rs):=by
 have mp:p∈ps:=Zh e
 refine⟨?_,t.out,t.nd,by rw[t.len];simp,fun j r2 p2 e1 e2=>?_⟩
 ·rw[ZS (fun z=>t.out (by rw[z];exact mp))];exact t.l
 ·by_cases c:j=pre.length
  ·subst c
   rw[e]at e2
   cases e2
   rw[ZU (Nat.le_refl _),Nat.sub_self]at e1
   cases e1
   exact Z5
  ·have np:p2≠p:=fun z=>by
    subst z
    obtain⟨h1,k1⟩:=List.getElem?_eq_some_iff.mp e
    obtain⟨h2,k2⟩:=List.getElem?_eq_some_iff.mp e2
    exact c ((getElem_inj t.nd).mp (k2.trans k1.symm))
   rw[ZS np]
   refine t.at_ j r2 p2 ?_ e2
   by_cases d:j<pre.length
   ·rw[ZL d]at e1 ⊢;exact e1
   ·rw[ZU (by omega)]at e1 ⊢
    obtain⟨k,hk⟩:∃k,j - pre.length=k+1:=⟨j - pre.length - 1,by omega⟩
    rw[hk]at e1 ⊢
    exact e1
theorem LoL.more {H:Hp}{L q:Addr}{ps:List Addr}{rs:List (List Int)}{r:List Int}(t:LoL H L ps rs)(hq:H q=some (.lst (r.map V.int)))(n1:q≠L)(n2:q∉ps):LoL (upd H L (.lst (ps.map V.ref++[.ref q]))) L (ps++[q]) (rs++[r]):=by
 refine⟨by rw[Z5,ZB];rfl,fun z=>?_,?_,by rw[Z6,Z6,t.len];rfl,fun j r2 p2 e1 e2=>?_⟩
 ·rcases Zi.mp z with z | z
  ·exact t.out z
  ·exact n1 (ZD.mp z).symm
 ·refine WJ.mpr ⟨t.nd,YO _ _,fun a ha b hb=>?_⟩
  rw[ZD.mp hb]
  exact fun z=>n2 (by rw[<-z];exact ha)
 ·by_cases c:j<rs.length
  ·rw[ZL c]at e1
   rw[ZL (by rw[t.len];exact c)]at e2
   rw[ZS (fun z=>t.out (by rw[<-z];exact Zh e2))]
   exact t.at_ j r2 p2 e1 e2
  ·rw[ZU (by omega)]at e1
   rw[ZU (by rw[t.len];omega),t.len]at e2
   obtain⟨h1,k1⟩:=List.getElem?_eq_some_iff.mp e1
   obtain⟨h2,k2⟩:=List.getElem?_eq_some_iff.mp e2
   simp only[ZN]at h1 h2
   have j0:j - rs.length=0:=by omega
   simp only[j0,List.getElem_cons_zero]at k1 k2
   rw[<-k1,<-k2,ZS n1]
   exact hq
theorem ixN_nat {n j:Nat}(h:j<n):ixN n (j:Int)=some j:=by
 unfold ixN
 rw[if_pos (by omega),if_pos (by omega),WA]
def spPutIn:Sp:=fun vs H Q _=>∃(L:Addr) (x:Int) (ps:List Addr) (rs:List (List Int)),vs=[.ref L,.int x]/\LoL H L ps rs/\BB.Wv 100 rs/\
 ∀(H':Hp) (ps':List Addr),LoL H' L ps' (BB.put rs x)->(∀p∈ps',p∈ps\/H p=none)->(∀c o,c≠L->c∉ps->H c=some o->H' c=some o)->Q .non H'
section
variable {P:Program}{w:World}{K:W.Frag}{mg:Str->Option Value}{base:Heap}
theorem ok_put_in {f:Addr}{fd:FuncData}(F:XH K "put_in" "put_in" T6 f fd)(nb:NbE mg)   :
 Y6 P w K mg base XB 1 f fd ["lists","kind"] spPutIn:=by
 have nd:=sc_put_in.nd
 refine F.ok (k:=0) sc_put_in (fun vs H Q E h=>?_) (fun cdv A outer s H vs Q E hr h=>?_)
 ·obtain⟨L,x,ps,rs,rfl,_⟩:=h
  rfl
 obtain⟨L,x,ps,rs,rfl,t,tb,q⟩:=h
 refine⟨_,(Z7 (ZH (i:=2) nd rfl (Or.inr rfl) (pv 1))
(Z7 (XV PassesOwn.never rfl (XN (pv 0)) (Zl (i:=3) nd rfl (Or.inl rfl))
(Z7 (ps_comp2 (ii:=4) nd rfl (Or.inl rfl) (sc:=ZY T6) (N0:=["lists","kind","number","numbers","greater","put_out"]) (N:=["number"]) (js:=[2]) rfl rfl rfl (by constructor<;>first|decide +kernel|rfl) rfl rfl
(pi_enum rfl nb.enum (Z0 (pv 3) Z3))
(fun _ _ _ _ _=>by exact(XW (Zr op_gt (pv 1) (pv 2) (Zf _))))
(fun _ _ _ _ _=>by exact(pv 0)))
(Z7 (YX (Yx (Zo (pv 4) (fun _=>rfl)))
(Z7 (YQ (XF Zu PySem.F.slot_list_append PySem.F.type_list_append Y8 (pv 3) (Z0 (pv 2) Z3)))
(ZX ps_retN))
Zg)
(Z7 (ZH (i:=5) nd rfl (Or.inl rfl) (Zm Zk (pv 3) (Zm Zk (pv 4) ZZ (fun _ _=>rfl)) (fun _ _=>rfl)))
(Z7 (Vg (pv 2) (pg_sub (pv 3) (Zm Zk (pv 4) ZZ (fun _ _=>rfl)) Uf))
(ZX (ZH (i:=2) nd rfl (Or.inr rfl) (pv 5))))))))
(ZX (YQ (XF Zu PySem.F.slot_list_append PySem.F.type_list_append Y8 (pv 0) (Z0 (Y2 (Z0 (pv 2) Z3)) Z3)))))),?_⟩
 refine⟨_,rfl,?_⟩
 refine⟨_,rfl,L,rfl,⟨_,Zp.of t.l⟩,?_⟩
 have inv0:BB.put rs x=[]++BB.put (rs.drop 0) x:=rfl
 refine for_list (xs:=ps.map V.ref) (fun i σ H'=>∃(pre:List (List Int)) (y:Int),pre.length=i/\BB.put rs x=pre++BB.put (rs.drop i) y/\LoL H' L ps (pre++rs.drop i)/\(∀c o,c≠L->c∉ps->H c=some o->H' c=some o)/\∃o3 o4 o5,σ=[some (.ref L),some (.int x),some (.int y),o3,o4,o5])
  ⟨[],x,rfl,inv0,t,fun c o _ _ e=>e,_,_,_,rfl⟩ (fun i σ H' _ hp=>Zp.of hp.choose_spec.choose_spec.2.2.1.l) (fun i z σ H1 hz hp=>?_) (fun σ H1 hp=>?_)
 ·obtain⟨pre,y,pl,ep,t1,fr,o3,o4,o5,rfl⟩:=hp
  rw[ZQ]at hz
  obtain⟨p,hpi,ez⟩:=Xd.mp hz
  subst ez
  have il:i<rs.length:=by rw[<-t.len];exact(List.getElem?_eq_some_iff.mp hpi).1
  have ed:rs.drop i=rs[i]::rs.drop (i+1):=List.drop_eq_getElem_cons il
  have mr:rs[i]∈rs:=XI il
  have ur:=tb.up _ mr
  have lr:=tb.len _ mr
  rw[ed]at ep t1
  generalize rs[i]=r at ep t1 ur lr ed
  have e9:ps[pre.length]?=some p:=by rw[pl];exact hpi
  have hp1:H1 p=some (.lst (r.map V.int)):=t1.at_ pre.length r p (by rw[ZU (Nat.le_refl _),Nat.sub_self];rfl) e9
  refine⟨_,rfl,p,_,rfl,Zp.of hp1,fun D hD=>?_⟩
  refine Yr r.length (by rw[sizeLine_eq];omega) (fun j=>decide (y<r.getD j 0)) (fun j=>.int (j:Int)) (fun σ=>∃o0 o1,σ=[o0,o1,some (.int y)]) (fun j H' v=>∃q,v=.ref q/\H' q=some (.tup [.int (j:Int),.int (r.getD j 0)])) hD ⟨_,_,rfl⟩ (fun j H2 s2=>?_) (fun j v σ' H2 hj s2 im hσ R S hR hS=>?_) (fun H2 s2 hD2=>?_)
  ·have:=items_enum (K:=K) hp1 j H2 s2
   rw[Z2]at this
   refine⟨fun hj=>⟨(this.1 hj).1,fun v H3 yl=>?_⟩,this.2⟩
   obtain⟨s3,q,u,e1,e2,e3⟩:=(this.1 hj).2 v H3 yl
   rw[ZQ,Z1 hj]at e3
   have e4:u=.int (r.getD j 0):=by rw[Z4,Z1 hj];exact(Option.some.inj e3).symm
   exact⟨s3,q,e1,by rw[e2,e4]⟩
  ·obtain⟨o0,o1,rfl⟩:=hσ
   obtain⟨qq,rfl,hq⟩:=im
   refine⟨qq,_,rfl,Y0.of hq,rfl,_,_,rfl,_,_,rfl,rfl,_,rfl,_,rfl,_,_,rfl,rfl,_,rfl,?_⟩
   by_cases c:y<r.getD j 0
   ·rw[decide_eq_true c]
    exact iteT ⟨_,rfl,hR (decide_eq_true c) _ _ _ ⟨_,_,rfl⟩ (ZR.refl _) rfl⟩
   ·rw[decide_eq_false c]
    exact iteF (hS (decide_eq_false c) _ _ ⟨_,_,rfl⟩ (ZR.refl _))
  have hD3:H2 D=some (.lst ((BB.hits r y).map fun(j:Nat)=>V.int (j:Int))):=hD2
  have hp2:=s2 _ _ hp1
  have t2:=t1.same s2
  have mp:p∈ps:=Zh hpi
  have npD:D≠p:=fun z=>by rw[z,hp1]at hD;cases hD
  have fr2:∀(o':HO) c o,c≠L->c∉ps->H c=some o->(upd H2 p o') c=some o:=fun o' c o n1 n2 e=>by
   rw[ZS (fun z=>n2 (by rw[z];exact mp))]
   exact s2 _ _ (fr c o n1 n2 e)
  rcases BB.hits_low (x:=y) ur with⟨h1,h2⟩ | ⟨tl,h1,h2⟩
  ·rw[h1]at hD3
   refine⟨_,rfl,false,.inl ⟨_,Zp.of hD3,rfl⟩,iteT ?_⟩
   refine⟨_,rfl,.inl ⟨rfl,_,Zp.of hp2⟩,_,rfl,p,_,_,rfl,rfl,hp2,(by rw[Z2,sizeLine_eq];omega),?_⟩
   have pe:BB.put rs x=pre++(r++[y])::rs.drop (i+1):=by
    rw[ep]
    show pre++(if BB.low r y=r.length then _ else _)=_
    rw[if_pos h2]
   refine q _ ps ?_ (fun c hc=>.inl hc) (fr2 _)
   rw[pe]
   have:=t2.set (r':=r++[y]) e9
   rw[ZB]at this
   exact this
  ·rw[h1]at hD3
   refine⟨_,rfl,true,.inl ⟨_,Zp.of hD3,rfl⟩,iteF ?_⟩
   have a0:∀zs:List V,atI (V.int (BB.low r y:Int)::zs) ((0:Nat):Int)=some (.int (BB.low r y:Int)):=fun zs=>Zj rfl
   refine⟨_,rfl,_,rfl,D,_,_,_,rfl,rfl,Zp.of hD3,a0 _,p,_,_,_,rfl,rfl,Zp.of hp2,at_int h2,?_⟩
   refine⟨_,rfl,_,rfl,_,rfl,D,_,_,_,rfl,rfl,Zp.of hD3,a0 _,p,_,_,BB.low r y,rfl,rfl,hp2,ixN_nat (by rw[Z2];exact h2),?_⟩
   refine⟨_,rfl,?_⟩
   have pe:BB.put rs x=(pre++[r.take (BB.low r y)++[y]++r.drop (BB.low r y+1)])++BB.put (rs.drop (i+1)) (r.getD (BB.low r y) 0):=by
    rw[ep]
    show pre++(if BB.low r y=r.length then _ else _)=_
    rw[if_neg (by omega)]
    exact(List.append_assoc pre [_] _).symm
   refine⟨_,_,by rw[Z6,ZN,pl],pe,?_,fr2 _,_,_,_,rfl⟩
   have:=t2.set (r':=r.take (BB.low r y)++[y]++r.drop (BB.low r y+1)) e9
   rw[<-BB.set_low h2,List.map_set]at this
   rw[<-BB.set_low h2,List.append_assoc]
   exact this
 ·obtain⟨pre,y,pl,ep,t1,fr,o3,o4,o5,rfl⟩:=hp
  rw[Z2,t.len,drop_length]at ep t1
  rw[YV]at t1
  refine⟨_,rfl,.inl ⟨rfl,_,Zp.of t1.l⟩,_,rfl,(by show 1<=sizeLine;decide),fun b hb=>?_⟩
  have s3:=Z9 hb (.lst [.int y])
  have t3:=t1.same s3
  have nL:b≠L:=fun z=>by rw[z,t1.l]at hb;cases hb
  have lp:ps.length<=100:=by rw[t.len];exact tb.few
  refine⟨L,_,_,rfl,rfl,t3.l,(by rw[Z2,sizeLine_eq];omega),?_⟩
  have hb0:∀(h:H b≠none),b∉ps->False:=fun h n=>by
   cases e:H b with
   |none=>exact h e
   |some o=>rw[fr b o nL n e]at hb;cases hb
  have nps:b∉ps:=fun z=>by
   obtain⟨j,hj,e⟩:=X0 z
   have jl:j<pre.length:=by rw[<-t1.len];exact hj
   have:=t1.at_ j _ b (Z1 jl) (by rw[Z1 hj,e])
   rw[this]at hb;cases hb
  refine q _ (ps++[b]) ?_ (fun c hc=>?_) fun c o n1 n2 e=>?_
  ·rw[ep]
   exact t3.more (r:=[y]) Z5 nL nps
  ·rcases Zi.mp hc with h | h
   ·exact .inl h
   ·rw[ZD.mp h]
    refine .inr ?_
    cases e:H b with
    |none=>rfl
    |some o=>exact(hb0 (by rw[e];intro z;cases z) nps).elim
  ·rw[ZS n1]
   exact s3 _ _ (fr c o n1 n2 e)
end
end K97
namespace K97
open L2
def spStay:Sp:=fun vs H Q _=>∃(t:Addr) (zs:List V) (ml:List (Int×Int)),vs=[.ref t]/\H t=some (.tup zs)/\Prs H zs ml/\zs.length<=12/\
 ∀(l:Addr) (ys:List V) (H':Hp),ZR H H'->H l=none->H' l=some (.lst ys)->Rws H' ys (BB.puts (ml.map (·.2)))->Q (.ref l) H'
theorem same_free {H H':Hp}{a:Addr}(s:ZR H H')(h:H' a=none):H a=none:=by
 cases e:H a with
 |none=>rfl
 |some o=>rw[s _ _ e]at h;cases h
theorem range_sel (p:Int->Bool)(r:List Int):((List.range r.length).filter fun i=>p (r.getD i 0)).length=(r.filter p).length:=by
 have e:=BB.VP 0 r (fun z=>z)
 rw[List.map_id']at e
 conv=>rhs;rw[<-e]
 rw[List.filter_map,Z2]
 rfl
def spPut:Nat->Sp
 |0=>fun _ _ _ _=>False
 |n+1=>fun vs H Q _=>∃(l:Addr) (x:Int) (ys:List V) (rs:List (List Int)),vs=[.ref l,.int x]/\H l=some (.lst ys)/\Rws H ys rs/\rs.length<=n/\BB.Wv 100 rs/\
  ∀(l':Addr) (ys':List V) (H':Hp),ZR H H'->H' l'=some (.lst ys')->Rws H' ys' (BB.put rs x)->Q (.ref l') H'
theorem none_put {P:Program}{w:World}{K:W.Frag}{mg:Str->Option Value}{base:Heap}{f:Addr}{fd:FuncData}:Y6 P w K mg base XB 0 f fd ["_law_lists","_law_number"] (spPut 0):=
 ⟨fun vs H Q E h=>h.elim,fun A outer s H args us vs Q E _ _ _ _ h=>h.elim⟩
section
variable {P:Program}{w:World}{K:W.Frag}{mg:Str->Option Value}{base:Heap}
theorem ok_staying {f:Addr}{fd:FuncData}(F:XH K "staying" "staying" U6 f fd)(nb:NbE mg)(h_put_in:YR P w K mg base 1 "put_in" ["lists","kind"] spPutIn)  :
 Y6 P w K mg base XB 2 f fd ["motley"] spStay:=by
 have nd:=sc_staying.nd
 refine F.ok (k:=1) sc_staying (fun vs H Q E h=>?_) (fun cdv A outer s H vs Q E hr h=>?_)
 ·obtain⟨t,zs,ml,rfl,_⟩:=h
  rfl
 obtain⟨t,zs,ml,rfl,ht,pr,zl,q⟩:=h
 refine⟨_,(Z7 (ZH (i:=1) nd rfl (Or.inl rfl) (Y2 Z3))
(Z7 (XV PassesOwn.never rfl (X6 (pv 0)) (Xt rfl (Ze (Zl (i:=2) nd rfl (Or.inl rfl)) (Ze (Zl (i:=3) nd rfl (Or.inl rfl)) X9)))
(ZX (YQ (ZI h_put_in hr (Z0 (pv 1) (Z0 (pv 3) Z3))))))
(ZX (ZE (YU (sc:=ZY U6) (N0:=["motley","lists","place","kind"]) (N:=[]) (js:=[]) rfl rfl rfl (by constructor<;>first|decide +kernel|rfl) rfl
(XN (pv 1))
(fun _ _ _ _ _=>by exact YI)
(fun _ _ _ _ _=>by exact(Zy (call_tupK K rfl) rfl nb.tuple boot_tuple (Z0 (pv 0) Z3)))))))),?_⟩
 refine⟨(by show 0<=sizeLine;decide),fun L hL=>?_⟩
 have s1:=Z9 hL (.lst [])
 have hL1:(upd H L (.lst [])) L=some (.lst []):=Z5
 generalize upd H L (.lst [])=H1 at s1 hL1 ⊢
 have zm:=pr.1
 have km:(ml.map (·.2)).length=ml.length:=Z2 ..
 refine⟨_,rfl,t,rfl,⟨_,Y0.of (s1 _ _ ht)⟩,?_⟩
 refine Tx (xs:=zs) (fun i σ H'=>∃ps,LoL H' L ps (BB.puts ((ml.map (·.2)).take i))/\(∀p∈ps,H p=none)/\ZR H H'/\∃o2 o3,σ=[some (.ref t),some (.ref L),o2,o3])
  ⟨[],⟨hL1,ZC,nodup_nil,rfl,fun j r p e1 e2=>by cases e2⟩,fun p hp=>absurd hp ZC,s1,_,_,rfl⟩ (fun i σ H' _ hp=>Y0.of (hp.choose_spec.2.2.1 _ _ ht)) (fun i z σ H2 hz hp=>?_) (fun σ H2 hp=>?_)
 ·obtain⟨ps,t2,fp,s2,o2,o3,rfl⟩:=hp
  have il:i<ml.length:=by rw[<-zm];exact(List.getElem?_eq_some_iff.mp hz).1
  obtain⟨p,e1,e2,_⟩:=prs_at pr il
  rw[hz]at e1
  cases e1
  have tab:=BB.VS i (ml.map (·.2))
  have tl:((ml.map (·.2)).take i).length<=100:=by rw[Za];omega
  refine⟨p,_,rfl,Y0.of (s2 _ _ e2),rfl,_,_,rfl,_,_,rfl,rfl,?_⟩
  refine⟨_,rfl,_,rfl,L,_,ps,_,rfl,t2,tab.mono tl,fun H3 ps' t3 fp3 fr3=>?_⟩
  have es:BB.puts ((ml.map (·.2)).take (i+1))=BB.put (BB.puts ((ml.map (·.2)).take i)) (ml.getD i (0,0)).2:=by
   rw[List.take_add_one,ZQ,Z1 il]
   show BB.puts (_++[(ml[i]).2])=_
   rw[BB.Tb,Z4,Z1 il];rfl
  refine⟨ps',by rw[es];exact t3,fun q hq=>?_,fun c o e=>?_,_,_,rfl⟩
  ·rcases fp3 q hq with h | h
   ·exact fp q h
   ·exact same_free s2 h
  ·exact fr3 c o (fun z=>by rw[z,hL]at e;cases e) (fun z=>by rw[fp c z]at e;cases e) (s2 _ _ e)
 ·obtain⟨ps,t2,fp,s2,o2,o3,rfl⟩:=hp
  rw[zm,<-km,W7]at t2
  have tab:BB.Wv 100 (BB.puts (ml.map (·.2))):=by
   have:=BB.VS ml.length (ml.map (·.2))
   rw[<-km,W7]at this
   exact this.mono (by omega)
  generalize BB.puts (ml.map (·.2))=rs at t2 tab q
  have few:=tab.few
  have pl:=t2.len
  refine⟨_,rfl,L,rfl,⟨_,Zp.of t2.l⟩,fun D hD=>?_⟩
  refine Wx ps.length (by rw[sizeLine_eq];omega) (fun i=>(rs.getD i []).map V.int) (fun σ=>∃o0,σ=[o0]) (fun i H' x=>∃p,x=.ref p/\ps[i]?=some p) hD ⟨_,rfl⟩ (fun i H3 s3=>?_) (fun i z σ' H3 hi s3 im hσ R hR=>?_) (fun H3 ys s3 hD3 hl3 hys=>?_)
  ·have:=YA (K:=K) t2.l i H3 s3
   rw[Z2]at this
   refine⟨fun hi=>⟨(this.1 hi).1,fun v H4 yl=>?_⟩,this.2⟩
   obtain⟨s4,e⟩:=(this.1 hi).2 v H4 yl
   rw[ZQ]at e
   obtain⟨p,e1,e2⟩:=Xd.mp e
   exact⟨s4,p,e2.symm,e1⟩
  ·obtain⟨o0,rfl⟩:=hσ
   obtain⟨p,rfl,e⟩:=im
   have ir:i<rs.length:=by omega
   have er:rs[i]?=some (rs.getD i []):=by rw[Z4,Z1 ir];rfl
   refine⟨_,rfl,p,_,rfl,.inl ⟨Zp.of (s3 _ _ (t2.at_ i _ p er e)),fun l hl=>hR _ _ _ ⟨_,rfl⟩ (Z9 hl _) Z5⟩⟩
  ·refine q D ys H3 (s2.trans s3) (same_free s2 hD) hD3 ⟨by omega,fun j r e=>?_⟩
   have jl:j<ys.length:=by rw[hl3,pl];exact(List.getElem?_eq_some_iff.mp e).1
   have gy:=Z1 jl
   obtain⟨p,e1,e2⟩:=hys j _ gy
   refine⟨p,by rw[gy,e1],?_⟩
   rw[e2,Z4,e];rfl
theorem ok_L_put {f:Addr}{fd:FuncData}(F:XH K "_law_put" "_law_put" s_L_put f fd){n:Nat}(nb:NbE mg)(h_L_put:YR P w K mg base n "_law_put" ["_law_lists","_law_number"] (spPut n))  :
 Y6 P w K mg base XB (n+1) f fd ["_law_lists","_law_number"] (spPut (n+1)):=by
 have nd:=sc_L_put.nd
 refine F.ok (k:=n) sc_L_put (fun vs H Q E h=>?_) (fun cdv A outer s H vs Q E hr h=>?_)
 ·obtain⟨l,x,ys,rs,rfl,_⟩:=h
  rfl
 obtain⟨l,x,ys,rs,rfl,hl,rw_,few,tb,q⟩:=h
 refine⟨_,(Z7 (YX (Zr (op_eqNil hr.units0) (pv 0) (Y2 Z3) (Zf _))
(ZX (ZE (Y2 (Z0 (Yc (Z0 (pv 1) Z3)) Z3))))
Zg)
(Z7 (ZH (i:=2) nd rfl (Or.inl rfl) (Zm Zk (pv 0) ZZ (fun _ _=>rfl)))
(Z7 (ZH (i:=3) nd rfl (Or.inl rfl) (ZJ Zx rfl nb.len PySem.boot_len (Z0 (YU (sc:=ZY s_L_put) (N0:=["_law_lists","_law_number","_law_first","_law_at"]) (N:=["_law_number"]) (js:=[1]) rfl rfl rfl (by constructor<;>first|decide +kernel|rfl) rfl
(X6 (pv 2))
(fun _ _ _ _ _=>by exact(XW (Zr op_le (pv 0) (pv 1) (Zf _))))
(fun _ _ _ _ _=>by exact(pv 0))) Z3)))
(Z7 (YX (Zr Vd (pv 3) (ZJ Zx rfl nb.len PySem.boot_len (Z0 (pv 2) Z3)) (Zf _))
(ZX (ZE (ZG Wo (Y2 (Z0 (ZG TK (pv 2) (Yc (Z0 (pv 1) Z3))) Z3)) (Ym Xc (pv 0) (X8 ZZ) XO))))
Zg)
(ZX (ZE (ZG Wo (Y2 (Z0 (ZG TK (ZG TK (Ym sl_tupA (pv 2) XO (X8 (pv 3))) (Yc (Z0 (pv 1) Z3))) (Ym sl_tupA (pv 2) (X8 (ZG Zn (pv 3) ZZ)) XO)) Z3)) (ZI (hk:=Nat.le_refl _) h_L_put hr (Z0 (Ym Xc (pv 0) (X8 ZZ) XO) (Z0 (Zm YT (pv 2) (pv 3) (fun _ _=>rfl)) Z3)))))))))),?_⟩
 refine⟨_,rfl,(by show 0<=sizeLine;decide),fun p0 hp0=>?_⟩
 have s0:=Z9 hp0 (.lst [])
 have f0:(upd H p0 (.lst [])) p0=some (.lst []):=Z5
 have hl0:=s0 _ _ hl
 have rw0:=rw_.same s0
 generalize upd H p0 (.lst [])=G0 at s0 f0 hl0 rw0 ⊢
 cases rs with
 |nil=>
  have y0:ys=[]:=Zc.mp rw_.1
  subst y0
  refine⟨l,p0,[],rfl,rfl,Zp.of hl0,Zp.of f0,true,rfl,iteT ?_⟩
  refine⟨_,rfl,(by show 1<=sizeLine;decide),fun p1 hp1=>⟨(by show 1<=sizeLine;decide),fun p2 hp2=>?_⟩⟩
  have s1:=Z9 hp1 (.tup [.int x])
  have s2:=Z9 hp2 (.lst [.ref p1])
  exact q p2 _ _ (s0.trans (s1.trans s2)) Z5 (rws_cons (r:=[x]) (s2 _ _ Z5) (rws_nil _))
 |cons r rs=>
  obtain⟨p,zs,rfl,hp,rz⟩:=rws_inv rw0
  have rl:=tb.len r ZW
  have ur:=tb.up r ZW
  have rf:rs.length<=99:=by have:=tb.few;rw[ZM]at this;omega
  have zl:zs.length=rs.length:=rz.1
  refine⟨l,p0,_,rfl,rfl,Zp.of hl0,Zp.of f0,false,rfl,iteF ?_⟩
  refine⟨_,rfl,l,_,_,_,rfl,rfl,Zp.of hl0,(show atI (V.ref p::zs) ((0:Nat):Int)=some (.ref p) from Zj rfl),?_⟩
  refine⟨_,rfl,p,rfl,⟨_,Y0.of hp⟩,fun D hD=>?_⟩
  refine Yr r.length (by rw[sizeLine_eq];omega) (fun j=>decide (r.getD j 0<=x)) (fun j=>.int (r.getD j 0)) (fun σ=>∃o0,σ=[o0,some (.int x)]) (fun j H' v=>v=.int (r.getD j 0)) hD ⟨_,rfl⟩ (fun j H2 s2=>?_) (fun j v σ' H2 hj s2 im hσ R S hR hS=>?_) (fun H2 s2 hD2=>?_)
  ·have:=YB (K:=K) hp j H2 s2
   rw[Z2]at this
   refine⟨fun hj=>⟨(this.1 hj).1,fun v H3 yl=>?_⟩,this.2⟩
   obtain⟨s3,e⟩:=(this.1 hj).2 v H3 yl
   rw[ZQ,Z1 hj]at e
   exact⟨s3,by rw[Z4,Z1 hj];exact(Option.some.inj e).symm⟩
  ·obtain⟨o0,rfl⟩:=hσ
   subst im
   refine⟨_,rfl,_,rfl,_,_,rfl,rfl,_,rfl,?_⟩
   by_cases c:r.getD j 0<=x
   ·rw[decide_eq_true c]
    exact iteT ⟨_,rfl,hR (decide_eq_true c) _ _ _ ⟨_,rfl⟩ (ZR.refl _) rfl⟩
   ·rw[decide_eq_false c]
    exact iteF (hS (decide_eq_false c) _ _ ⟨_,rfl⟩ (ZR.refl _))
  have ln:(((List.range r.length).filter fun j=>decide (r.getD j 0<=x)).map fun(j:Nat)=>V.int (r.getD j 0)).length=BB.low r x:=by
   rw[Z2]
   exact range_sel (fun z=>decide (z<=x)) r
  refine⟨D,_,rfl,.inl (Zp.of hD2),?_⟩
  rw[ln]
  have hp2:=s2 _ _ hp
  have hl2:=s2 _ _ hl0
  have rz2:=rz.same s2
  have s02:=s0.trans s2
  clear hD2 hD
  refine⟨_,rfl,_,rfl,p,_,rfl,.inr (Y0.of hp2),rfl,?_⟩
  have c1:cutV (V.ref p::zs) (some 1) none=zs:=WN (V.ref p::zs) 1
  have ll:=BB.low_le r x
  by_cases c:BB.low r x=r.length
  ·refine⟨true,by rw[decide_eq_true (by rw[Z2,c])],iteT ?_⟩
   have pe:BB.put (r::rs) x=(r++[x])::rs:=if_pos c
   rw[pe]at q
   refine⟨_,rfl,_,rfl,(by show 1<=sizeLine;decide),fun p1 hp1=>?_⟩
   have s3:=Z9 hp1 (.tup [.int x])
   refine⟨p,p1,_,_,rfl,rfl,s3 _ _ hp2,Z5,(by rw[Z2,ZN,sizeLine_eq];omega),fun p2 H3 s4 e4=>⟨(by show 1<=sizeLine;decide),fun p3 hp3=>?_⟩⟩
   have s5:=Z9 hp3 (.lst [.ref p2])
   have f5:(upd H3 p3 (.lst [.ref p2])) p3=some (.lst [.ref p2]):=Z5
   generalize upd H3 p3 (.lst [.ref p2])=H4 at s5 f5 ⊢
   have s25:=s3.trans (s4.trans s5)
   refine⟨_,rfl,_,rfl,l,_,rfl,Zp.of (s25 _ _ hl2),fun p4 hp4=>?_⟩
   rw[c1]
   have s6:=Z9 hp4 (.lst zs)
   refine⟨p3,p4,_,_,rfl,rfl,s6 _ _ f5,Z5,(by rw[ZN,sizeLine_eq];omega),fun p5 hp5=>?_⟩
   have s7:=Z9 hp5 (.lst ([.ref p2]++zs))
   refine q p5 _ _ (s02.trans (s25.trans (s6.trans s7))) Z5 (rws_cons ?_ (rz2.same (s25.trans (s6.trans s7))))
   rw[ZB]
   exact s7 _ _ (s6 _ _ (s5 _ _ e4))
  ·refine⟨false,by rw[decide_eq_false (fun z=>c (by have:=V.int.inj z;rw[Z2]at this;omega))],iteF ?_⟩
   have pe:BB.put (r::rs) x=(r.take (BB.low r x)++[x]++r.drop (BB.low r x+1))::BB.put rs (r.getD (BB.low r x) 0):=if_neg c
   rw[pe]at q
   have e1:(cutV (r.map V.int) none (some (BB.low r x:Int))++[V.int x])++cutV (r.map V.int) (some ((BB.low r x:Int)+1)) none=(r.take (BB.low r x)++[x]++r.drop (BB.low r x+1)).map V.int:=by
    have:=WN (r.map V.int) (BB.low r x+1)
    rw[show(((BB.low r x+1:Nat)):Int)=(BB.low r x:Int)+1 by omega]at this
    rw[cut_to,this,ZB,ZB,map_take,map_drop];rfl
   have k1:=V1 (r.map V.int) none (some (BB.low r x:Int))
   have k2:=V1 (r.map V.int) (some ((BB.low r x:Int)+1)) none
   rw[Z2]at k1 k2
   refine⟨_,rfl,_,rfl,_,rfl,p,_,rfl,hp2,fun p1 H3 s3 f3=>⟨_,rfl,(by show 1<=sizeLine;decide),fun p2 hp2'=>?_⟩⟩
   have s4:=Z9 hp2' (.tup [.int x])
   refine⟨p1,p2,_,_,rfl,rfl,s4 _ _ f3,Z5,(by rw[sizeLine_eq,ZN];omega),fun p3 H4 s5 f5=>?_⟩
   have s25:ZR H2 H4:=s3.trans (s4.trans s5)
   refine⟨_,rfl,_,rfl,_,_,rfl,rfl,_,rfl,p,_,rfl,s25 _ _ hp2,fun p4 H5 s6 f6=>?_⟩
   refine⟨p3,p4,_,_,rfl,rfl,s6 _ _ f5,f6,(by rw[sizeLine_eq,Z6,ZN];omega),fun p5 H6 s7 f7=>⟨(by show 1<=sizeLine;decide),fun p6 hp6=>?_⟩⟩
   rw[e1]at f7
   have s8:=Z9 hp6 (.lst [.ref p5])
   have f8:(upd H6 p6 (.lst [.ref p5])) p6=some (.lst [.ref p5]):=Z5
   replace f7:=s8 _ _ f7
   generalize upd H6 p6 (.lst [.ref p5])=H7 at s8 f8 f7 ⊢
   have s28:=s25.trans (s6.trans (s7.trans s8))
   refine⟨_,rfl,_,rfl,l,_,rfl,Zp.of (s28 _ _ hl2),fun p7 hp7=>?_⟩
   rw[c1]
   have s9:=Z9 hp7 (.lst zs)
   have f9:(upd H7 p7 (.lst zs)) p7=some (.lst zs):=Z5
   replace f8:=s9 _ _ f8
   replace f7:=s9 _ _ f7
   generalize upd H7 p7 (.lst zs)=H8 at s9 f9 f8 f7 ⊢
   have s29:=s28.trans s9
   refine⟨_,rfl,_,rfl,p,_,_,_,rfl,rfl,Y0.of (s29 _ _ hp2),at_int (by omega),?_⟩
   have n1:n≠0:=fun z=>by rw[z]at few;simp at few
   cases n with
   |zero=>exact absurd rfl n1
   |succ m=>
    refine⟨p7,_,zs,rs,rfl,f9,rz2.same s29,by rw[ZM]at few;omega,⟨by omega,fun y hy=>tb.up y (ZT _ hy),fun y hy=>tb.len y (ZT _ hy)⟩,fun l8 ys8 H9 s10 f10 rw10=>?_⟩
    have lw:=rw10.1
    have pl:=BB.put_len rs (r.getD (BB.low r x) 0)
    refine⟨p6,l8,_,_,rfl,rfl,s10 _ _ f8,f10,(by rw[ZN,sizeLine_eq];omega),fun p9 hp9=>?_⟩
    have s11:=Z9 hp9 (.lst ([.ref p5]++ys8))
    exact q p9 _ _ (s02.trans (s29.trans (s10.trans s11))) Z5 (rws_cons (s11 _ _ (s10 _ _ f7)) (rw10.same s11))
end
end K97
namespace K97
open L2
structure NrOk (row:List Int):Prop where
 ro:RowOk row
 ne:row≠[]
 sp:∀p∈row,p<=row.headD 0+55
 hd:-20<=row.headD 0/\row.headD 0<=20
def spNw:Sp:=fun vs H Q _=>∃(a:Addr) (x:Int) (b:Bool),vs=[.ref a]/\Wl H a x b/\
 ∀(r:Addr) (row:List Int) (H':Hp) (x':Int),WB a H H'->Wl H' a x' b->H' r=some (.tup (row.map V.int))->NrOk row->Q (.ref r) H'
structure Nw (H:Hp)(a f:Addr)(b:Bool)(H':Hp)(h:Int)(i:Nat):Prop where
 st:∃x,Wl H' a x b
 kp:WB a H H'
 fo:∃(ini:List Int) (l:Int),H' f=some (.lst (ini.map V.int++[.int l]))/\ini.length=i/\(ini++[l]).Pairwise (· < ·)/\(ini++[l]).headD 0=h/\(∀p∈ini++[l],h<=p/\p<=l)/\l<=h+5*(i:Int)
theorem Nw.take {H H':Hp}{a f:Addr}{b:Bool}{h x:Int}{i:Nat}(n:Nw H a f b H' h i)(fa:f≠a)(d:Dok x b):Nw H a f b (upd H' a (.lst [.int x,.bl b])) h i:=
 ⟨⟨x,Wl.upd d⟩,n.kp.trans (YE a H' _),let⟨fo,l,e,r⟩:=n.fo;⟨fo,l,YE a H' _ _ _ fa e,r⟩⟩
theorem Nw.same {H H' H2:Hp}{a f:Addr}{b:Bool}{h:Int}{i:Nat}(n:Nw H a f b H' h i)(s:ZR H' H2):Nw H a f b H2 h i:=
 ⟨let⟨x,e⟩:=n.st;⟨x,e.same s⟩,n.kp.same s,let⟨fo,l,e,r⟩:=n.fo;⟨fo,l,s _ _ e,r⟩⟩
section
variable {P:Program}{w:World}{K:W.Frag}{mg:Str->Option Value}{base:Heap}
theorem ok_L_near {f:Addr}{fd:FuncData}(F:XH K "_law_near" "_law_near" s_L_near f fd)(nb:Nb2 mg)(h_L_take:YR P w K mg base 1 "_law_take" ["_law_state_here","_law_many"] (Tl K))  :
 Y6 P w K mg base XB 2 f fd ["_law_state_here"] spNw:=by
 have nd:=sc_L_near.nd
 refine F.ok (k:=1) sc_L_near (fun vs H Q E h=>?_) (fun cdv A outer s H vs Q E hr h=>?_)
 ·obtain⟨a,x,b,rfl,_⟩:=h
  rfl
 obtain⟨a,x,b,rfl,hS,q⟩:=h
 refine⟨_,(@Z7 _ _ _ _ _ (ZH (i:=1) nd rfl (Or.inl rfl) (Y2 (Z0 (ZG Yb (ZI h_L_take hr (Z0 (pv 0) (Z0 ZZ Z3))) ZZ) Z3))) (@Z7 _ _ _ _ _ (@XV _ _ _ _ _ _ _ _ PassesOwn.never rfl (XQ rfl nb.range (Z0 (ZI h_L_take hr (Z0 (pv 0) (Z0 ZZ Z3))) Z3)) (Zl (i:=2) nd rfl (Or.inl rfl)) (@ZX _ _ _ (@YQ _ _ _ _ (XF Zu PySem.F.slot_list_append PySem.F.type_list_append Y8 (pv 1) (@Z0 _ _ _ _ _ (@ZG _ _ _ _ _ _ _ _ Zn (Zm Zk (pv 1) (XG Yn ZZ) (fun _ _=>rfl)) (@Zm _ _ _ _ _ _ _ Zk (@Y2 _ _ _ _ (@Z0 _ _ _ _ _ ZZ (Z0 ZZ (Z0 ZZ (Z0 ZZ (Z0 ZZ (Z0 ZZ Z3))))) rfl)) (ZI h_L_take hr (Z0 (pv 0) (Z0 ZZ Z3))) (fun _ _=>rfl))) Z3 rfl)) rfl)) (by intro _;rfl)) (ZX (ZE (Zy Zz rfl nb.tuple boot_tuple (Z0 (pv 1) Z3)))))),?_⟩
 refine⟨_,rfl,a,x,b,41,rfl,hS,by decide,by decide,fun v1 x1 v10 v11 d1=>?_⟩
 have st1:Wl (upd H a (.lst [.int x1,.bl b])) a x1 b:=Wl.upd d1
 have kp1:=YE a H (.lst [.int x1,.bl b])
 generalize hG:upd H a (.lst [.int x1,.bl b])=H1 at st1 kp1 ⊢
 have n0:∀f,H1 f=none->H f=none:=fun f z=>by
  cases e:H f with
  |none=>rfl
  |some o=>
   by_cases q:f=a
   ·rw[q,st1.1]at z;cases z
   ·rw[kp1 f o q e]at z;cases z
 refine⟨_,_,rfl,rfl,(by show 1<=sizeLine;decide),fun f hf=>?_⟩
 have fa:f≠a:=(ZP st1.1 hf).symm
 have s1:=Z9 hf (.lst [.int (v1 - 20)])
 have n1:Nw H a f b (upd H1 f (.lst [.int (v1 - 20)])) (v1 - 20) 0:=⟨⟨x1,st1.same s1⟩,kp1.same s1,[],v1 - 20,Z5,rfl,YO _ _,rfl,fun p hp=>by rw[ZD.mp hp];omega,by omega⟩
 generalize upd H1 f (.lst [.int (v1 - 20)])=H2 at n1 ⊢
 obtain⟨x2,st2⟩:=n1.st
 refine⟨_,rfl,a,x2,b,12,rfl,st2,by decide,by decide,fun v2 x3 v20 v21 d3=>?_⟩
 have n2:=n1.take fa d3
 generalize upd H2 a (.lst [.int x3,.bl b])=H3 at n2 ⊢
 refine⟨_,rfl,by omega,by omega,?_⟩
 have v2':v2.toNat<=11:=by omega
 refine Xw (fun i σ H'=>∃o2,σ=[some (.ref a),some (.ref f),o2]/\Nw H a f b H' (v1 - 20) i) ⟨_,rfl,n2⟩ (fun i σ H4 hi hp=>?_) (fun σ H4 hp=>?_)
 ·obtain⟨o2,rfl,nw⟩:=hp
  obtain⟨ini,l,hfo,li,up,hd,bd,lb⟩:=nw.fo
  refine⟨_,rfl,.inl ⟨rfl,_,Zp.of hfo⟩,_,rfl,_,rfl,f,_,_,_,rfl,rfl,Zp.of hfo,at_end _ _,(by show 6<=sizeLine;decide),fun p1 hp1=>?_⟩
  obtain⟨x4,st4⟩:=nw.st
  have s5:=Z9 hp1 (.lst [.int 1,.int 2,.int 2,.int 3,.int 4,.int 5])
  have hp5:(upd H4 p1 (.lst [.int 1,.int 2,.int 2,.int 3,.int 4,.int 5])) p1=some (.lst [.int 1,.int 2,.int 2,.int 3,.int 4,.int 5]):=Z5
  have p1a:p1≠a:=(ZP st4.1 hp1).symm
  have n5:=nw.same s5
  have st5:=st4.same s5
  have hfo5:=s5 _ _ hfo
  generalize upd H4 p1 (.lst [.int 1,.int 2,.int 2,.int 3,.int 4,.int 5])=H5 at hp5 n5 st5 hfo5 ⊢
  refine⟨_,rfl,a,x4,b,6,rfl,st5,by decide,by decide,fun v6 x6 v60 v61 d6=>?_⟩
  have n6:=n5.take fa d6
  have hp6:=YE a H5 (.lst [.int x6,.bl b]) _ _ p1a hp5
  have hfo6:=YE a H5 (.lst [.int x6,.bl b]) _ _ fa hfo5
  generalize upd H5 a (.lst [.int x6,.bl b])=H6 at n6 hp6 hfo6 ⊢
  obtain⟨u,hu,um,_⟩:=SG (xs:=[.int 1,.int 2,.int 2,.int 3,.int 4,.int 5]) v60 (by simpa using v61)
  obtain⟨e2,rfl,e20,e21⟩:∃e2:Int,u=.int e2/\1<=e2/\e2<=5:=by
   simp only[ZV,ZC,or_false]at um
   rcases um with rfl | rfl | rfl | rfl | rfl | rfl<;>exact⟨_,rfl,by omega,by omega⟩
  refine⟨p1,_,_,_,rfl,rfl,Zp.of hp6,hu,_,_,rfl,rfl,?_⟩
  refine⟨f,_,_,rfl,rfl,hfo6,by rw[Z6,Z2,sizeLine_eq];show _+1<_;omega,_,rfl,?_⟩
  obtain⟨x7,st7⟩:=n6.st
  refine⟨⟨x7,by rw[ZS fa.symm];exact st7.1,st7.2⟩,fun c o hc hco=>?_,ini++[l],l+e2,by rw[Z5,ZB];rfl,by rw[Z6,li];rfl,?_,?_,fun p hp=>?_,by omega⟩
  ·rw[ZS (ZP hco (n0 f hf))]
   exact n6.kp c o hc hco
  ·rw[YD]
   exact⟨up,YO _ _,fun y hy z hz=>by have:=(bd y hy).2;rw[ZD.mp hz];omega⟩
  ·rw[<-hd]
   cases ini<;>rfl
  ·rcases Zi.mp hp with hp | hp
   ·have:=bd p hp;omega
   ·have:=bd l (ZO _ (ZD.mpr rfl));rw[ZD.mp hp];omega
 ·obtain⟨o2,rfl,nw⟩:=hp
  obtain⟨ini,l,hfo,li,up,hd,bd,lb⟩:=nw.fo
  obtain⟨x9,st9⟩:=nw.st
  have hfo':H4 f=some (.lst ((ini++[l]).map V.int)):=by rw[hfo,ZB];rfl
  refine⟨_,rfl,f,_,rfl,.inl ⟨Zp.of hfo',fun p hp=>?_⟩⟩
  have s9:=Z9 hp (.tup ((ini++[l]).map V.int))
  refine q p (ini++[l]) _ x9 (nw.kp.same s9) (st9.same s9) Z5 ⟨⟨?_,up,fun y hy=>?_⟩,by simp,fun y hy=>?_,?_⟩
  ·rw[Z6,li];show _+1<=12;omega
  ·have:=bd y hy;omega
  ·have:=bd y hy;rw[hd];omega
  ·rw[hd];omega
end
end K97
namespace K97
open L2
open BB (lens outs)
abbrev scLl:Scope:={kind:=.function,names:=[(oS ".0",.local),(oS "_law_number",.cell),(oS "len",.globalImplicit),(oS "_law_counts",.cell)],isGenerator:=false,isCoroutine:=false,more:=[]}
abbrev scLo:Scope:={kind:=.function,names:=[(oS ".0",.local),(oS "_law_place",.cell),(oS "len",.globalImplicit),(oS "_law_out",.cell)],isGenerator:=false,isCoroutine:=false,more:=[]}
def spLl:Sp:=fun vs H Q _=>∃(a:Addr) (row:List Int),vs=[.ref a]/\H a=some (.tup (row.map V.int))/\row.Pairwise (· < ·)/\row.length<=12/\
 ∀(r:Addr) (H':Hp),ZR H H'->H' r=some (.tup ((lens (outs row.length row)).map V.int))->Q (.ref r) H'
theorem outs_len {row:List Int}:(outs row.length row).length<=row.length:=by
 have gen:∀(n:Nat) (r:List Int),(outs n r).length<=n:=fun n=>by
  induction n with
  |zero=>intro r;exact Nat.le_refl _
  |succ n ih=>
   intro r
   unfold BB.outs
   split
   ·exact Yp _
   ·rw[ZM];have:=ih (BB.peel r);omega
 exact gen _ _
theorem outs_bd {row:List Int}(up:row.Pairwise (· < ·)):∀c∈outs row.length row,0<=c/\c<=(row.length:Int):=fun c hc=>by
 have:=(BB.S9 row.length row (BB.ipl_fall up)).2 c hc
 omega
theorem head_bd {row:List Int}(up:row.Pairwise (· < ·)):0<=(outs row.length row).headD 0/\(outs row.length row).headD 0<=(row.length:Int):=by
 have h:=outs_bd up
 generalize outs row.length row=cs at h
 cases cs with
 |nil=>exact⟨Int.le_refl _,by show(0:Int)<=_;omega⟩
 |cons c r=>exact h c ZW
theorem outs_max {row:List Int}(up:row.Pairwise (· < ·)){m:Int}(hm:m∈0::outs row.length row)(hle:∀x∈0::outs row.length row,x<=m):m=(outs row.length row).headD 0:=by
 obtain⟨a,b⟩:=BB.S9 row.length row (BB.ipl_fall up)
 generalize outs row.length row=cs at hm hle a b
 cases cs with
 |nil=>
  rcases ZV.mp hm with w | w
  ·exact w
  ·cases w
 |cons c r=>
  have h1:=hle c (ZT _ ZW)
  have h0:=(b c ZW).1
  show m=c
  rcases ZV.mp hm with w | w
  ·omega
  ·rcases ZV.mp w with y | y
   ·exact y
   ·have:m<=c:=(Zt.mp a).1 m y
    omega
theorem peel_left (row:List Int):BB.peel row=(row.filter fun p=>decide (p∉BB.bare row)).map fun p=>p - (((BB.bare row++(BB.bare row).map (· + 1)).filter fun g=>decide (g<p)).length:Int):=by
 rw[BB.UX]
 congr 1
 refine Xh fun y hy=>?_
 unfold BB.bare
 rw[decide_eq_decide,Yt]
 simp[hy]
theorem bare_many (row:List Int):(BB.bare row).length+(BB.peel row).length=row.length:=by
 rw[BB.UX,Z2]
 unfold BB.bare
 induction row with
 |nil=>rfl
 |cons p r ih=>
  have gen:∀(l s:List Int),(l.filter fun p=>decide (p+1∉s)).length+(l.filter fun p=>decide (p+1∈s)).length=l.length:=fun l s=>by
   induction l with
   |nil=>rfl
   |cons x l ih=>
    by_cases c:x+1∈s
    ·rw[Xi (by simpa using c),YM (by simpa using c),ZM,ZM];omega
    ·rw[YM (by simpa using c),Xi (by simpa using c),ZM,ZM];omega
  exact gen _ _
def many0 (σ:L2.St)(H:Hp):Nat:=match σ with
 |some (V.ref p)::_=>(match H p with | some (.tup xs)=>xs.length | _=>0)
 |_=>0
theorem many0_at {H:Hp}{σ:L2.St}{p:Addr}{ms:List Int}(h:H p=some (.tup (ms.map V.int))):many0 (some (.ref p)::σ) H=ms.length:=by
 show(match H p with | some (.tup xs)=>xs.length | _=>0)=_
 rw[h]
 exact Z2 ..
section
variable {P:Program}{w:World}{K:W.Frag}{mg:Str->Option Value}{base:Heap}
theorem ok_L_lengths {f:Addr}{fd:FuncData}(F:XH K "_law_lengths" "_law_lengths" XX f fd)(nb:Nb3 mg)   :
 Y6 P w K mg base XB 1 f fd ["_law_row"] spLl:=by
 have nd:=T2.nd
 refine F.ok (k:=0) T2 (fun vs H Q E h=>?_) (fun cdv A outer s H vs Q E hr h=>?_)
 ·obtain⟨a,row,rfl,_⟩:=h
  rfl
 obtain⟨a,row,rfl,ha,up,r12,q⟩:=h
 refine⟨_,(Z7 (ZH (i:=1) nd rfl (Or.inr rfl) (Y2 Z3))
(Z7 (WQ PassesOwn.never (Zr (op_neT hr.units0) (pv 0) (Yc Z3) (Zf _))
(Z7 (ZH (i:=2) nd rfl (Or.inr rfl) (YU (sc:=ZY XX) (N0:=["_law_row","_law_counts","_law_gone","_law_out","_law_left"]) (N:=["_law_row"]) (js:=[0]) rfl rfl rfl (by constructor<;>first|decide +kernel|rfl) rfl
(X6 (pv 0))
(fun _ _ _ _ _=>by exact(XW (Zr (W5 K rfl) (ZG Zn (pv 0) ZZ) (pv 1) rfl)))
(fun _ _ _ _ _=>by exact(pv 0))))
(Z7 (ZH (i:=3) nd rfl (Or.inr rfl) (ZG Wo (pv 2) (YU (sc:=ZY XX) (N0:=["_law_row","_law_counts","_law_gone","_law_out","_law_left"]) (N:=[]) (js:=[]) rfl rfl rfl (by constructor<;>first|decide +kernel|rfl) rfl
(XN (pv 2))
(fun _ _ _ _ _=>by exact YI)
(fun _ _ _ _ _=>by exact(ZG Zn (pv 0) ZZ)))))
(Z7 (VR (ii:=4) nd rfl (Or.inl rfl) (sc:=ZY XX) (N0:=["_law_row","_law_counts","_law_gone","_law_out","_law_left"]) (N:=["_law_gone"]) (js:=[2]) rfl rfl rfl (by constructor<;>first|decide +kernel|rfl) rfl
(X6 (pv 0))
(fun _ _ _ _ _=>by exact(XW (Zr (W5 K rfl) (pv 0) (pv 1) rfl)))
(fun _ _ _ _ _=>by exact(pv 0)))
(Z7 (YQ (XF Zu PySem.F.slot_list_append PySem.F.type_list_append Y8 (pv 1) (Z0 (ZJ Zx rfl nb.len PySem.boot_len (Z0 (pv 2) Z3)) Z3)))
(ZX (ZH (i:=0) nd rfl (Or.inr rfl) (Zy Zz rfl nb.tuple boot_tuple (Z0 (UW (sc:=ZY XX) (N0:=["_law_row","_law_counts","_law_gone","_law_out","_law_left"]) (N:=["_law_out"]) (js:=[3]) rfl rfl rfl (by exact⟨rfl,by decide +kernel,fun _ _=>rfl,fun _=>rfl,by decide +kernel,by decide +kernel,by decide +kernel,rfl,rfl,by decide,by decide +kernel,by decide +kernel⟩) rfl
(XN (pv 4))
(fun _ _ _ _ _=>by exact YI)
(fun _ _ _ _ _=>by exact(ZG Yb (pv 0) (ZJ (UQ K rfl) rfl nb.len PySem.boot_len (Z0
(YU (sc:=scLo) (N0:=["_law_place","_law_out"]) (N:=["_law_place"]) (js:=[0]) rfl rfl rfl (by constructor<;>first|decide +kernel|rfl) rfl
(TU K rfl (pv 1))
(fun _ _ _ _ _=>by exact(XW (Zr Vz (pv 0) (pv 1) (Zf _))))
(fun _ _ _ _ _=>by exact(pv 0))) Z3))))) Z3)))))))))
(ZX (ZE (Zy Zz rfl nb.tuple boot_tuple (Z0 (UW (sc:=ZY XX) (N0:=["_law_row","_law_counts","_law_gone","_law_out","_law_left"]) (N:=["_law_counts"]) (js:=[1]) rfl rfl rfl (by exact⟨rfl,by decide +kernel,fun _ _=>rfl,fun _=>rfl,by decide +kernel,by decide +kernel,by decide +kernel,rfl,rfl,by decide,by decide +kernel,by decide +kernel⟩) rfl
(UZ rfl nb.range (Z0 ZZ (Z0 (ZG Zn (ZJ (call_maxL rfl) rfl nb.max boot_max (Z0 (ZG Wo (Y2 (Z0 ZZ Z3)) (pv 1)) Z3)) ZZ) Z3)))
(fun _ _ _ _ _=>by exact YI)
(fun _ _ _ _ _=>by exact(ZJ (UQ K rfl) rfl nb.len PySem.boot_len (Z0
(YU (sc:=scLl) (N0:=["_law_number","_law_counts"]) (N:=["_law_number"]) (js:=[0]) rfl rfl rfl (by constructor<;>first|decide +kernel|rfl) rfl
(TU K rfl (pv 1))
(fun _ _ _ _ _=>by exact(XW (Zr op_ge (pv 0) (pv 1) (Zf _))))
(fun _ _ _ _ _=>by exact(pv 0))) Z3)))) Z3)))))),?_⟩
 refine⟨(by show 0<=sizeLine;decide),fun c hc=>?_⟩
 have s1:=Z9 hc (.lst [])
 unfold Wa
 dsimp only
 refine VW ?_
 refine WU (fun σ H'=>ZR H H'/\∃(p:Addr) (ms done:List Int) (o2 o3 o4:Option V),σ=[some (.ref p),some (.ref c),o2,o3,o4]/\H' p=some (.tup (ms.map V.int))/\H' c=some (.lst (done.map V.int))/\done++outs ms.length ms=outs row.length row/\done.length+ms.length<=row.length) many0
  ⟨s1,a,row,[],_,_,_,rfl,s1 _ _ ha,Z5,rfl,by simp⟩ (fun σ H' hp=>?_) (fun σ H Q Q' hq h=>?_)
 ·obtain⟨sm,p,ms,done,o2,o3,o4,rfl,hms,hcd,eo,ln⟩:=hp
  have mm:=many0_at (σ:=[some (V.ref c),o2,o3,o4]) hms
  refine⟨_,rfl,(by show 0<=sizeLine;decide),fun e0 he0=>?_⟩
  have s2:=Z9 he0 (.tup [])
  have hms2:=s2 _ _ hms
  have hcd2:=s2 _ _ hcd
  have sm2:=sm.trans s2
  refine⟨p,e0,ms,[],rfl,rfl,Y0.of hms2,Y0.of Z5,_,rfl,?_⟩
  have n2:∀b o,H' b=some o->(upd H' e0 (.tup [])) b=some o:=s2
  generalize upd H' e0 (.tup [])=H2 at hms2 hcd2 sm2 ⊢
  by_cases em:ms=[]
  ·subst em
   refine iteF ?_
   have ed:done=outs row.length row:=by rw[<-eo];simp[outs]
   have ol:=outs_len (row:=row)
   have hb:=head_bd up
   have S5:=sm2
   have qq:∀(r:Addr) (H':Hp),ZR H2 H'->H' r=some (.tup ((lens (outs row.length row)).map V.int))->Q (.ref r) H':=fun r H' s h=>q r H' (S5.trans s) h
   have mxx:=fun(m:Int)=>outs_max (m:=m) up
   have hD5:=hcd2
   rw[ed]at hD5
   generalize hcs:outs row.length row=cs at hD5 ol hb qq mxx
   generalize c=D at hD5 ⊢
   generalize H2=H5 at hD5 qq ⊢
   -- the lengths
   refine⟨(by show 1<=sizeLine;decide),fun z hz=>?_⟩
   have s6:=Z9 hz (.lst [.int 0])
   refine⟨_,rfl,z,D,_,_,rfl,rfl,Z5,s6 _ _ hD5,by rw[Z2,sizeLine_eq];show 1+_<=_;omega,fun y hy=>?_⟩
   have s7:=Z9 hy (.lst ([.int 0]++cs.map V.int))
   refine⟨y,0::cs,rfl,Zp.of Z5,List.cons_ne_nil _ _,fun m2 hm2 hle2=>?_⟩
   have em2:=mxx m2 hm2 hle2
   subst em2
   have hD7:=s7 _ _ (s6 _ _ hD5)
   have S7:=s6.trans s7
   generalize upd (upd H5 z (.lst [.int 0])) y (.lst ([.int 0]++cs.map V.int))=H7 at hD7 S7 ⊢
   refine⟨_,_,rfl,rfl,1,cs.headD 0+1,rfl,⟨by decide,by decide,by omega,by omega⟩,fun D2 hD2=>?_⟩
   rw[show(cs.headD 0+1 - 1).toNat=(cs.headD 0).toNat by congr 1;omega]
   refine X4 (cs.headD 0).toNat (by rw[sizeLine_eq];omega) (fun j=>.int ((cs.filter fun c=>decide ((j:Int)<c)).length:Int)) (fun σ=>∃o1,σ=[o1,some (.ref D)]) (fun j H' x=>x=.int (1+(j:Int))) hD2 (by exact⟨_,rfl⟩) (fun j H2 _=>Wy 1 _ j H2 (ZR.refl _)) (fun j x σ' H2 hj s2 im hσ R hR=>?_) (fun H9 s9 hD9=>?_)
   ·obtain⟨o1,rfl⟩:=hσ
    subst im
    have ha2:=s2 _ _ hD7
    refine⟨_,rfl,D,rfl,⟨_,Zp.of ha2⟩,fun D3 hD3=>?_⟩
    refine Yr (cs.map V.int).length (by rw[Z2,sizeLine_eq];omega) (fun k=>decide ((j:Int)<cs.getD k 0)) (fun k=>.int (cs.getD k 0)) (fun σ=>∃o2,σ=[o2,some (.int (1+(j:Int)))]) _ hD3 (by exact⟨_,rfl⟩) (YA ha2) (fun k y σ2 H4 hk s4 im4 hσ4 R4 S4 hR4 hS4=>?_) (fun H5' s5' hD5'=>?_)
    ·obtain⟨o2,rfl⟩:=hσ4
     obtain rfl:=Xs im4
     refine⟨_,rfl,_,rfl,_,_,rfl,rfl,_,rfl,?_⟩
     by_cases c:(j:Int)<cs.getD k 0
     ·rw[decide_eq_true (show cs.getD k 0>=1+(j:Int) by omega)]
      exact iteT ⟨_,rfl,hR4 (decide_eq_true c) _ _ _ ⟨_,rfl⟩ (ZR.refl _) rfl⟩
     ·rw[decide_eq_false (show ¬cs.getD k 0>=1+(j:Int) by omega)]
      exact iteF (hS4 (decide_eq_false c) _ _ ⟨_,rfl⟩ (ZR.refl _))
    ·rw[Z2,BB.XZ 0 cs (fun c=>decide ((j:Int)<c)) V.int]at hD5'
     refine⟨D3,_,rfl,.inl (Zp.of hD5'),hR _ _ _ ⟨_,rfl⟩ s5' ?_⟩
     rw[Z2]
   rw[show(List.range (cs.headD 0).toNat).map (fun(j:Nat)=>V.int ((cs.filter fun c=>decide ((j:Int)<c)).length:Int))=(lens cs).map V.int by unfold BB.lens;rw[Y5];rfl]at hD9
   exact⟨D2,_,rfl,.inl ⟨Zp.of hD9,fun l hl=>qq l _ (S7.trans (s9.trans (Z9 hl _))) Z5⟩⟩
  ·have lt:=BB.UY em
   rw[decide_eq_false em]
   refine iteT ?_
   have m12:ms.length<=12:=by omega
   refine⟨_,rfl,p,rfl,⟨_,Y0.of hms2⟩,fun D hD=>?_⟩
   refine Yr (ms.map V.int).length (by rw[Z2,sizeLine_eq];omega) (fun i=>decide (ms.getD i 0+1∉ms)) (fun i=>.int (ms.getD i 0)) (fun σ=>∃o1,σ=[o1,some (.ref p)]) _ hD (by exact⟨_,rfl⟩) (YB hms2) (fun i x σ' H3 hi s3 im hσ R S hR hS=>?_) (fun H3 s3 hD3=>?_)
   ·obtain⟨o1,rfl⟩:=hσ
    obtain rfl:=Xs im
    refine⟨_,rfl,_,_,rfl,rfl,_,rfl,p,_,rfl,.inr (Y0.of (s3 _ _ hms2)),rfl,Xf ms,_,rfl,?_⟩
    rw[Wb,if_pos rfl]
    by_cases m:ms.getD i 0+1∈ms
    ·rw[decide_eq_true m]
     exact iteF (hS (decide_eq_false fun z=>z m) _ _ ⟨_,rfl⟩ (ZR.refl _))
    ·rw[decide_eq_false m]
     exact iteT ⟨_,rfl,hR (decide_eq_true m) _ _ _ ⟨_,rfl⟩ (ZR.refl _) rfl⟩
   rw[Z2,BB.XZ 0 ms (fun p=>decide (p+1∉ms)) V.int]at hD3
   have hb3:H3 D=some (.lst ((BB.bare ms).map V.int)):=hD3
   have bl:=BB.bare_le ms
   have bm:=bare_many ms
   have pl:=peel_left ms
   generalize BB.bare ms=br at hb3 bl bm pl
   refine⟨_,rfl,_,rfl,D,rfl,⟨_,Zp.of hb3⟩,fun D2 hD2=>?_⟩
   refine X4 (br.map V.int).length (by rw[Z2,sizeLine_eq];omega) (fun i=>.int (br.getD i 0+1)) (fun σ=>∃o1,σ=[o1]) _ hD2 (by exact⟨_,rfl⟩) (YA hb3) (fun i x σ' H4 hi s4 im hσ R hR=>?_) (fun H4 s4 hD4=>?_)
   ·obtain⟨o1,rfl⟩:=hσ
    obtain rfl:=Xs im
    exact⟨_,rfl,_,_,rfl,rfl,hR _ _ _ ⟨_,rfl⟩ (ZR.refl _) rfl⟩
   rw[Z2,BB.VP 0 br (fun p=>V.int (p+1))]at hD4
   refine⟨D,D2,_,_,rfl,rfl,s4 _ _ hb3,hD4,by rw[Z2,Z2,sizeLine_eq];omega,fun ot hot=>?_⟩
   have s5:=Z9 hot (.lst (br.map V.int++br.map fun p=>V.int (p+1)))
   have hot5:(upd H4 ot (.lst (br.map V.int++br.map fun p=>V.int (p+1)))) ot=some (.lst ((br++br.map (· + 1)).map V.int)):=by
    rw[Z5,ZB,Y5];rfl
   have S5:=s3.trans (s4.trans s5)
   have hb5:=s5 _ _ (s4 _ _ hb3)
   generalize upd H4 ot (.lst (br.map V.int++br.map fun p=>V.int (p+1)))=H5 at hot5 S5 hb5 ⊢
   have hms5:=S5 _ _ hms2
   have hcd5:=S5 _ _ hcd2
   have o24:(br++br.map (· + 1)).length<=24:=by rw[Z6,Z2];omega
   generalize br++br.map (· + 1)=out at hot5 o24 pl
   -- what is left
   refine⟨_,rfl,p,rfl,⟨_,Y0.of hms5⟩,fun D3 hD3'=>?_⟩
   refine Yr (ms.map V.int).length (by rw[Z2,sizeLine_eq];omega) (fun i=>decide (ms.getD i 0∉br)) (fun i=>.int (ms.getD i 0)) (fun σ=>∃o1,σ=[o1,some (.ref D)]) _ hD3' (by exact⟨_,rfl⟩) (YB hms5) (fun i x σ' H6 hi s6 im hσ R S hR hS=>?_) (fun H6 s6 hD6=>?_)
   ·obtain⟨o1,rfl⟩:=hσ
    obtain rfl:=Xs im
    refine⟨_,rfl,_,rfl,D,_,rfl,.inl (Zp.of (s6 _ _ hb5)),rfl,Xf br,_,rfl,?_⟩
    rw[Wb,if_pos rfl]
    by_cases m:ms.getD i 0∈br
    ·rw[decide_eq_true m]
     exact iteF (hS (decide_eq_false fun z=>z m) _ _ ⟨_,rfl⟩ (ZR.refl _))
    ·rw[decide_eq_false m]
     exact iteT ⟨_,rfl,hR (decide_eq_true m) _ _ _ ⟨_,rfl⟩ (ZR.refl _) rfl⟩
   rw[Z2,BB.XZ 0 ms (fun p=>decide (p∉br)) V.int]at hD6
   have ll:(ms.filter fun p=>decide (p∉br)).length<=12:=Nat.le_trans (Yh _ _) m12
   generalize(ms.filter fun p=>decide (p∉br))=left at hD6 ll pl
   -- how many are gone
   refine⟨_,rfl,.inl ⟨rfl,_,Zp.of (s6 _ _ hcd5)⟩,_,rfl,D,_,rfl,.inl (Zp.of (s6 _ _ hb5)),?_⟩
   refine⟨c,_,_,rfl,rfl,s6 _ _ hcd5,by rw[Z2,sizeLine_eq];omega,?_⟩
   have cD:D3≠c:=fun z=>by rw[z,hcd5]at hD3';cases hD3'
   have co:ot≠c:=fun z=>by
    have y:=s4 _ _ (s3 _ _ hcd2)
    rw[<-z,hot]at y;cases y
   have h7:(upd H6 c (.lst (done.map V.int++[.int ((br.map V.int).length:Int)]))) c=some (.lst ((done++[((ms.length:Int) - ((BB.peel ms).length:Int))]).map V.int)):=by
    rw[Z5,ZB,Z2,show(ms.length:Int) - ((BB.peel ms).length:Int)=(br.length:Int) by omega];rfl
   have hD7:(upd H6 c (.lst (done.map V.int++[.int ((br.map V.int).length:Int)]))) D3=some (.lst (left.map V.int)):=by rw[ZS cD];exact hD6
   have ho7:(upd H6 c (.lst (done.map V.int++[.int ((br.map V.int).length:Int)]))) ot=some (.lst (out.map V.int)):=by rw[ZS co];exact s6 _ _ hot5
   have S7:ZR H (upd H6 c (.lst (done.map V.int++[.int ((br.map V.int).length:Int)]))):=fun b o hb=>by rw[ZS (ZP hb hc)];exact s6 _ _ (S5 _ _ (sm2 _ _ hb))
   generalize upd H6 c (.lst (done.map V.int++[.int ((br.map V.int).length:Int)]))=H7 at h7 hD7 ho7 S7 ⊢
   -- the row that is left
   refine⟨_,rfl,D3,rfl,⟨_,Zp.of hD7⟩,fun D4 hD4'=>?_⟩
   refine X4 (left.map V.int).length (by rw[Z2,sizeLine_eq];omega) (fun i=>.int (left.getD i 0 - ((out.filter fun g=>decide (g<left.getD i 0)).length:Int))) (fun σ=>∃o1,σ=[o1,some (.ref ot)]) _ hD4' (by exact⟨_,rfl⟩) (YA hD7) (fun i x σ' H8 hi s8 im hσ R hR=>?_) (fun H8 s8 hD8=>?_)
   ·obtain⟨o1,rfl⟩:=hσ
    obtain rfl:=Xs im
    have hb2:=s8 _ _ ho7
    refine⟨_,rfl,_,rfl,ot,rfl,⟨_,Zp.of hb2⟩,fun D3 hD3=>?_⟩
    refine Yr (out.map V.int).length (by rw[Z2,sizeLine_eq];omega) (fun j=>decide (out.getD j 0<left.getD i 0)) (fun j=>.int (out.getD j 0)) (fun σ=>∃o2,σ=[o2,some (.int (left.getD i 0))]) _ hD3 (by exact⟨_,rfl⟩) (YA hb2) (fun j y σ2 H4 hj s4 im4 hσ4 R4 S4 hR4 hS4=>?_) (fun H5 s5 hD5=>?_)
    ·obtain⟨o2,rfl⟩:=hσ4
     obtain rfl:=Xs im4
     refine⟨_,rfl,_,rfl,_,_,rfl,rfl,_,rfl,?_⟩
     by_cases c:out.getD j 0<left.getD i 0
     ·rw[decide_eq_true c]
      exact iteT ⟨_,rfl,hR4 (decide_eq_true c) _ _ _ ⟨_,rfl⟩ (ZR.refl _) rfl⟩
     ·rw[decide_eq_false c]
      exact iteF (hS4 (decide_eq_false c) _ _ ⟨_,rfl⟩ (ZR.refl _))
    ·rw[Z2,BB.XZ 0 out (fun g=>decide (g<left.getD i 0)) V.int]at hD5
     refine⟨D3,_,rfl,.inl (Zp.of hD5),_,_,rfl,rfl,hR _ _ _ ⟨_,rfl⟩ s5 ?_⟩
     rw[Z2]
   rw[Z2,BB.VP 0 left (fun p=>V.int (p - ((out.filter fun g=>decide (g<p)).length:Int))),show left.map (fun p=>V.int (p - ((out.filter fun g=>decide (g<p)).length:Int)))=(BB.peel ms).map V.int by rw[pl,Y5];rfl]at hD8
   refine⟨D4,_,rfl,.inl ⟨Zp.of hD8,fun l hl=>?_⟩⟩
   have s9:=Z9 hl (.tup ((BB.peel ms).map V.int))
   have h9:(upd H8 l (.tup ((BB.peel ms).map V.int))) l=some (.tup ((BB.peel ms).map V.int)):=Z5
   refine⟨⟨S7.trans (s8.trans s9),l,BB.peel ms,_,_,_,_,rfl,h9,s9 _ _ (s8 _ _ h7),?_,?_⟩,?_⟩
   ·rw[<-eo,outs_step em,List.append_assoc]
    rfl
   ·rw[Z6,ZN]
    omega
   ·rw[mm]
    show many0 (some (V.ref l)::_) _<_
    rw[many0_at h9]
    exact lt
 ·obtain⟨v,e,k,tv⟩:=h
  refine⟨v,e,k,fun p hp=>?_⟩
  obtain⟨a',b',ns,ms,e1,e2,s1,s2,kk,ek,q1⟩:=tv p hp
  exact⟨a',b',ns,ms,e1,e2,s1,s2,kk,ek,hq _ _ q1⟩
end
end K97
namespace K97
open L2
theorem Wq {H:Hp}:∀{n:Nat} {x y:V},Sm H n x y->Sm H (n+1) x y
 |0,_,_,h=>.inl h
 |n+1,x,y,h=>by
  rcases h with h | ⟨a,b,xs,ys,e1,e2,e3,e4,e5,e6⟩
  ·exact .inl h
  ·exact .inr ⟨a,b,xs,ys,e1,e2,e3,e4,e5,fun i u v hu hv=>Wq (e6 i u v hu hv)⟩
abbrev S3:Hp->V->V->Prop:=fun H v d=>Sm H 3 v d
section
variable {P:Program}{w:World}{K:W.Frag}{mg:Str->Option Value}{base:Heap}
theorem ok_L_again {f:Addr}{fd:FuncData}(F:XH K "_law_again" "_law_again" Td f fd)(nb:Nb4 mg)(h_L_same:YR P w K mg base 4 "_law_same" ["_law_found","_law_due_here"] (UD 4))  :
 Y6 P w K mg base XB 5 f fd ["_law_call","_law_due_here"] (spAgain S3 P w K mg base 4):=by
 have nd:=sc_L_again.nd
 refine F.ok (k:=4) sc_L_again (fun vs H Q E h=>?_) (fun cdv A outer s H vs Q E hr h=>?_)
 ·obtain⟨f,o,fd,d,rfl,_⟩:=h
  rfl
 obtain⟨f0,o,fd0,d,rfl,hf,hd,run⟩:=h
 refine⟨_,(Z7 (ZH (i:=2) nd rfl (Or.inl rfl) (pe_callV (i:=0) hr rfl rfl))
(Z7 (YX (Yx (Zo (ZI h_L_same hr (Z0 (pv 2) (Z0 (pv 1) Z3))) (fun _=>rfl)))
(ZX (ZE Yk))
Zg)
(Z7 (YQ (XF Zu PySem.F.slot_list_append PySem.F.type_list_append Y8 (pv 2) (Z0 (Yc Z3) Z3)))
(ZX (ZE (ZI h_L_same hr (Z0 (pe_callV (i:=0) hr rfl rfl) (Z0 (pv 1) Z3)))))))),?_⟩
 refine⟨f0,o,fd0,rfl,hf,hd,Tc run fun v H1 q=>?_⟩
 obtain⟨r,ys,rfl,s1,n0,hr1,ly,sm,ag⟩:=q
 refine⟨_,rfl,_,rfl,_,_,rfl,sm,fun H2 s2=>⟨_,rfl,iteF ?_⟩⟩
 have hr2:=s2 _ _ hr1
 refine⟨_,rfl,.inl ⟨rfl,_,Zp.of hr2⟩,(by show 0<=sizeLine;decide),fun t9 ht9=>?_⟩
 have s9:=Z9 ht9 (.tup [])
 refine⟨r,_,_,rfl,rfl,s9 _ _ hr2,by rw[sizeLine_eq];omega,?_⟩
 obtain⟨h3,run2⟩:=ag _ t9 (s2.trans s9) Z5
 refine⟨f0,o,fd0,rfl,h3,hd,Tc run2 fun v2 H4 q2=>?_⟩
 exact⟨_,rfl,_,_,rfl,q2.1,q2.2⟩
end
end K97
namespace K97
open L2
open BB (lens outs)
theorem Wj {H:Hp}{a b:Addr}{ns:List Int}(hl:ns.length<=1000)(h:(H a=some (.tup (ns.map V.int))/\H b=some (.tup (ns.map V.int)))\/(H a=some (.lst (ns.map V.int))/\H b=some (.lst (ns.map V.int)))):Sm H 1 (.ref a) (.ref b):=by
 refine .inr ⟨a,b,_,_,rfl,rfl,h,rfl,by rw[Z2];exact hl,fun i u v hu hv=>?_⟩
 rw[hu]at hv
 have e:u=v:=by injection hv
 rw[ZQ]at hu
 cases q:ns[i]? with
 |none=>rw[q]at hu;cases hu
 |some n=>
  rw[q]at hu
  exact⟨e,.inl ⟨n,by injection hu with z;exact z.symm⟩⟩
theorem Vt {q:Str}{H H':Hp}{T r:Addr}{xs:List V}(t:Wv q H T)(hr:H r=some (.lst xs))(k:WB r H H'):Wv q H' T:=by
 obtain⟨l,e,h⟩:=t
 refine⟨l,k _ _ (fun z=>by rw[z,hr]at e;cases e) e,fun x hx=>?_⟩
 obtain⟨oc,vs,t,a,b⟩:=h x hx
 exact⟨oc,vs,t,k _ _ (fun z=>by rw[z,hr]at a;cases a) a,b⟩
theorem sm_ws {H:Hp}{a b:Addr}{xs ys:List V}{W:List (List Int×List Int)}(l:W.length<=1000)(lw:∀z∈W,z.1.length<=1000/\z.2.length<=1000)(ha:H a=some (.lst xs))(hb:H b=some (.lst ys))(t1:Ws H xs W)(t2:Ws H ys W):Sm H 3 (.ref a) (.ref b):=by
 refine .inr ⟨a,b,_,_,rfl,rfl,.inr ⟨ha,hb⟩,by rw[t1.1,t2.1],by rw[t1.1];exact l,fun i u v hu hv=>?_⟩
 have il:i<W.length:=by rw[<-t1.1];exact(List.getElem?_eq_some_iff.mp hu).1
 have lz:=lw _ (XI il)
 obtain⟨p,pa,pb,e1,h1,h2,h3⟩:=t1.2 i _ (Z1 il)
 obtain⟨q,qa,qb,f1,g1,g2,g3⟩:=t2.2 i _ (Z1 il)
 rw[hu]at e1
 rw[hv]at f1
 cases e1
 cases f1
 refine .inr ⟨p,q,_,_,rfl,rfl,.inl ⟨h1,g1⟩,rfl,by simp,fun j u v hu hv=>?_⟩
 match j with
 |0=>cases hu;cases hv;exact Wj lz.1 (.inl ⟨h2,g2⟩)
 |1=>cases hu;cases hv;exact Wj lz.2 (.inl ⟨h3,g3⟩)
 |j+2=>cases hu
theorem wvs_small:∀(n N:Nat) (R:List (List Int)),BB.Gd N R->R.flatten.length<=1000->(BB.wvs n R).length<=n/\∀z∈BB.wvs n R,z.1.length<=1000/\z.2.length<=1000
 |0,_,_,_,_=>⟨Nat.le_refl _,fun z h=>by cases h⟩
 |n+1,N,R,d,l=>by
  show(if R=[] then [] else BB.wv R (BB.fs R)::BB.wvs n (BB.wo R (BB.fs R))).length<=n+1/\∀z∈(if R=[] then [] else BB.wv R (BB.fs R)::BB.wvs n (BB.wo R (BB.fs R))),_
  by_cases e:R=[]
  ·rw[if_pos e]
   exact⟨Yp _,fun z h=>by cases h⟩
  rw[if_neg e]
  obtain⟨pre,s,g,post,eR,ef,lsg⟩:=d.at e
  subst eR
  rw[ef]
  have fl:=(BB.wo_len (pre:=pre) (post:=post) (s:=s) (g:=g)).2
  obtain⟨i1,i2⟩:=wvs_small n (N - s.length) _ (d.wo lsg) (by omega)
  have big:=BB.mem_flat l
  have bs:=big s (by simp)
  refine⟨by rw[ZM];omega,fun z hz=>?_⟩
  rcases ZV.mp hz with w | w
  ·rw[w]
   unfold BB.wv
   rw[BB.Xn,BB.Xx]
   have:(g.take s.length).length<=s.length:=by rw[Za];omega
   split
   ·exact⟨bs,by show(g.take s.length).length<=_;omega⟩
   ·exact⟨by show(g.take s.length).length<=_;omega,bs⟩
  ·exact i2 z w
theorem sm_pairs {H:Hp}{a b:Addr}{xs ys:List V}{bl:List (Int×Int)}(l:bl.length<=1000)(ha:H a=some (.tup xs))(hb:H b=some (.tup ys))(t1:So H xs bl)(t2:So H ys bl):Sm H 2 (.ref a) (.ref b):=by
 refine .inr ⟨a,b,_,_,rfl,rfl,.inl ⟨ha,hb⟩,by rw[t1.1,t2.1],by rw[t1.1];exact l,fun i u v hu hv=>?_⟩
 have il:i<bl.length:=by rw[<-t1.1];exact(List.getElem?_eq_some_iff.mp hu).1
 obtain⟨p,e1,h1⟩:=t1.2 i _ (Z1 il)
 obtain⟨q,e2,h2⟩:=t2.2 i _ (Z1 il)
 rw[hu]at e1
 rw[hv]at e2
 cases e1
 cases e2
 exact Wj (ns:=[bl[i].1,bl[i].2]) (by simp) (.inl ⟨h1,h2⟩)
abbrev RQ:Str:=(("_law_row_right" : Str)++".<locals>.")++"<lambda>"
theorem Yj {q:Str}{H:Hp}{T:Addr}(tt:Wv q H T){z:Addr}{o:HO}(e:H z=some o)(n:∀ps,o≠.tbl ps):z≠T:=fun y=>by
 obtain⟨l,e2,_⟩:=tt
 rw[y,e2]at e
 exact n _ (Option.some.inj e).symm
structure Rt (q:Str)(T a:Addr)(row:List Int)(H0 H:Hp):Prop where
 kp:WB T H0 H
 tb:Wv q H T
 at_:H a=some (.tup (row.map V.int))
theorem Rt.same {q:Str}{T a:Addr}{row:List Int}{H0 H H':Hp}(r:Rt q T a row H0 H)(s:ZR H H'):Rt q T a row H0 H':=⟨r.kp.same s,r.tb.same s,s _ _ r.at_⟩
theorem Rt.lam {q:Str}{T a:Addr}{row:List Int}{H0 H H':Hp}(r:Rt q T a row H0 H)(k:WB T H H')(t:Wv q H' T):Rt q T a row H0 H':=⟨r.kp.trans k,t,k _ _ (Yj r.tb r.at_ fun _ z=>nomatch z) r.at_⟩
def spRr (T:Addr):Sp:=fun vs H Q _=>∃(a:Addr) (row:List Int),vs=[.ref a]/\H a=some (.tup (row.map V.int))/\NrOk row/\Wv RQ H T/\∀H',WB T H H'->Wv RQ H' T->Q (.bl true) H'
theorem NrOk.ok {row:List Int}(n:NrOk row):Ok row row.length:=⟨⟨n.ro.up,rfl,fun p hp=>by have:=n.ro.bd p hp;omega⟩,n.ro.len⟩
section
variable {P:Program}{w:World}{K:W.Frag}{mg:Str->Option Value}{base:Heap}{b c0 c1 c2 c3 c4 c T:Addr}{bm2:List Value}
theorem ok_L_row_right {f:Addr}{fd:FuncData}(F:XH K "_law_row_right" "_law_row_right" Xp f fd)(nb:Nb4 mg)(h_carried:YR P w K mg base 2 "carried" ["row"] UM)(h_L_carried:YR P w K mg base 1 "_law_carried" ["_law_row"] UM)(h_undone:YR P w K mg base 3 "undone" ["row"] spUnd)(h_L_undone:YR P w K mg base 2 "_law_undone" ["_law_row"] spUnd)(h_lengths:YR P w K mg base 3 "lengths" ["row"] spLen)(h_L_lengths:YR P w K mg base 1 "_law_lengths" ["_law_row"] spLl)(h_L_due:YR P w K mg base 2 "_law_due" ["_law_row"] spDue)(h_is_free:YR P w K mg base 2 "is_free" ["row"] WH)(h_L_is_free:YR P w K mg base 2 "_law_is_free" ["_law_row"] WH)(h_blocks:YR P w K mg base 3 "blocks" ["row"] spBl)(h_L_blocks:YR P w K mg base 1 "_law_blocks" ["_law_row"] Vr)(h_L_steps:YR P w K mg base 3 "_law_steps" ["_law_row"] spStp)(h_L_same:YR P w K mg base 4 "_law_same" ["_law_found","_law_due_here"] (UD 4))(h_steps_to_free:YR P w K mg base 4 "steps_to_free" ["row"] spSteps)(h_ref:HasR P w K mg 6 5 "_law_refused" "_law_call" Rn (Ec K b c0 c1 c2 c3 c4))(h_again:HasA S3 P w K mg 5 4 "_law_again" "_law_call" "_law_due_here")(h_waves:∀base,YR P w K mg base 3 "waves" ["row"] spWaves)(hE_steps_to_free:∀base,HasE P w K mg base 4 "steps_to_free" ["row"] (VX c2))(hcd:fd.code=.ref c)(C:CodeHd base c T)(Bl:VO mg base)(e2:Vx K c2 bm2)(hin:(Value.ref c2::bm2).contains (.ref b)=true)(kd:Kind5 K c0 c1 c2 c3 c4 c2 2) :
 Y6 P w K mg base XB 7 f fd ["_law_row"] (spRr T):=by
 have nd:=Vo.nd
 refine F.okC (k:=6) Vo (fun vs H Q E h=>?_) (fun A outer s H vs Q E hr h=>?_)
 ·obtain⟨a,row,rfl,_⟩:=h
  rfl
 obtain⟨a,row,rfl,ha,nr,tb,q⟩:=h
 refine⟨_,(Z7 (YX (PW.pt (WR (Yx (Zo (ZI h_L_same hr (Z0 (ZI h_carried hr (Z0 (pv 0) Z3)) (Z0 (ZI h_L_carried hr (Z0 (pv 0) Z3)) Z3))) (fun _=>rfl))) (Xu (Yx (Zo (ZI h_L_same hr (Z0 (ZI h_undone hr (Z0 (pv 0) Z3)) (Z0 (ZI h_L_undone hr (Z0 (pv 0) Z3)) Z3))) (fun _=>rfl))))))
(ZX (ZE Yk))
Zg)
(Z7 (YX (PW.pt (WR (Yx (Zo (ZI h_L_same hr (Z0 (ZI h_lengths hr (Z0 (pv 0) Z3)) (Z0 (ZI h_L_lengths hr (Z0 (pv 0) Z3)) Z3))) (fun _=>rfl))) (Xu (Yx (Zo (Ux (sc:=ZY Xp) (N0:=["_law_row","_law_due_here"]) (N:=["_law_row"]) (js:=[0]) h_again hr hcd C Bl rfl rfl (by exact⟨rfl,rfl,rfl,by decide +kernel⟩) (by constructor<;>first|decide +kernel|rfl) (fun base E cl f cd A outer s H hr=>by exact(ZI (h_waves base) hr (Z0 (pv 0) Z3))) (ZI h_L_due hr (Z0 (pv 0) Z3))) (fun _=>rfl))))))
(ZX (ZE Yk))
Zg)
(Z7 (YX (Zr op_ne (ZI h_is_free hr (Z0 (pv 0) Z3)) (ZI h_L_is_free hr (Z0 (pv 0) Z3)) (Zf _))
(ZX (ZE Yk))
Zg)
(Z7 (YX (PW.pt (pw_and (Zo (ZI h_L_is_free hr (Z0 (pv 0) Z3)) (fun _=>rfl)) (pw_and1 (Yx (Zo (ZI h_L_same hr (Z0 (ZI h_blocks hr (Z0 (pv 0) Z3)) (Z0 (Zy Zz rfl nb.tuple boot_tuple (Z0 (ZI h_L_blocks hr (Z0 (pv 0) Z3)) Z3)) Z3))) (fun _=>rfl))))))
(ZX (ZE Yk))
Zg)
(Z7 (ZH (i:=1) nd rfl (Or.inl rfl) (ZI h_L_steps hr (Z0 (pv 0) Z3)))
(Z7 (YX (Zr op_isN (pv 1) pe_non (Zf _))
(ZX (ZE (WD Vd (pe_lambda (sc:=ZY Xp) (N0:=["_law_row","_law_due_here"]) (N:=["_law_row"]) (js:=[0]) h_ref hr hcd C Bl rfl rfl (by exact⟨rfl,rfl,rfl,by decide +kernel⟩) (by constructor<;>first|decide +kernel|rfl) (fun base E cl f cd A outer s H hr=>by exact(pe_defE (hE_steps_to_free base) lvs_lam hr (Z0 (pv 0) Z3)))) ZZ (Zf _))))
Zg)
(ZX (ZE (ZI h_L_same hr (Z0 (ZI h_steps_to_free hr (Z0 (pv 0) Z3)) (Z0 (pv 1) Z3))))))))))),?_⟩
 have ok:=nr.ok
 have up:=nr.ro.up
 have l12:=nr.ro.len
 have bd:∀p∈row,-4000000000<=p/\p<=4000000000:=fun p hp=>by have:=nr.ro.bd p hp;omega
 have sm1:∀{H:Hp} {a b:Addr} {ns:List Int},ns.length<=12->H a=some (.tup (ns.map V.int))->H b=some (.tup (ns.map V.int))->Sm H 3 (.ref a) (.ref b):=fun l ha hb=>Wq (Wq (Wj (by omega) (.inl ⟨ha,hb⟩)))
 have r0:Rt RQ T a row H H:=⟨WB.refl _ _,tb,ha⟩
 refine⟨_,rfl,a,row,_,rfl,ha,ok,fun p1 H1 s1 h1=>⟨_,rfl,a,row,_,rfl,s1 _ _ ha,ok,fun p2 H2 s2 h2=>?_⟩⟩
 refine⟨_,_,rfl,sm1 (by rw[(ok.1.step row.length).len];exact l12) (s2 _ _ h1) h2,fun H3 s3=>⟨_,rfl,iteF ?_⟩⟩
 have r3:=r0.same (s1.trans (s2.trans s3))
 clear s1 s2 s3 h1 h2
 refine⟨_,rfl,a,row,_,rfl,r3.at_,ok,fun p1 H1 s1 h1=>⟨_,rfl,a,row,_,rfl,s1 _ _ r3.at_,ok,fun p2 H2 s2 h2=>?_⟩⟩
 refine⟨_,_,rfl,sm1 (by rw[(ok.1.unstep row.length).len];exact l12) (s2 _ _ h1) h2,fun H4 s4=>⟨_,rfl,iteF ?_⟩⟩
 have r4:=r3.same (s1.trans (s2.trans s4))
 clear s1 s2 s4 h1 h2 r3
 -- lengths
 have ll:(lens (outs row.length row)).length<=12:=by
  have:=head_bd up
  unfold BB.lens
  rw[Z2,YY]
  omega
 refine⟨_,rfl,a,row,rfl,r4.at_,l12,fun p1 H1 s1 h1=>⟨_,rfl,a,row,rfl,s1 _ _ r4.at_,up,l12,fun p2 H2 s2 h2=>?_⟩⟩
 refine⟨_,_,rfl,sm1 ll (s2 _ _ h1) h2,fun H5 s5=>⟨_,rfl,iteF ?_⟩⟩
 have r5:=r4.same (s1.trans (s2.trans s5))
 clear s1 s2 s5 h1 h2 r4
 -- waves,told twice
 have gdp:=BB.TC (c:=row.length+1) (Nat.le_refl _) up
 have flp:=BB.lr_flat (c:=row.length+1) row
 rw[<-BB.pr_blk]at gdp flp
 have big:row.length*(row.length+1+1)<=12*14:=mul_le_mul l12 (by omega)
 obtain⟨w1,w2⟩:=wvs_small 12 _ _ gdp (by omega)
 have due:=BB.waves_due up l12 12
 refine⟨r5.tb,fun f0 H6 L=>?_⟩
 have r6:=r5.lam L.grow L.tab
 refine⟨_,rfl,a,row,rfl,r6.at_,up,l12,fun rd yd H7 s7 h7 wd=>?_⟩
 rw[<-due]at wd
 have r7:=r6.same s7
 refine⟨f0,H6,_,rfl,L,s7,?_⟩
 refine⟨_,rfl,a,row,rfl,r7.at_,up,l12,bd,fun ra yw H8 s8 n8 h8 ww=>?_⟩
 refine⟨ra,yw,rfl,s8,n8,h8,by rw[ww.1];omega,sm_ws (by omega) w2 h8 (s8 _ _ h7) ww (wd.same s8),fun H9 e s9 he=>?_⟩
 have s10:ZR H7 (upd H9 ra (.lst (yw++[.ref e]))):=fun c o hc=>by rw[ZS (ZP hc n8)];exact s9 _ _ (s8 _ _ hc)
 have r10:=r7.same s10
 have h10:=s10 _ _ h7
 have wd10:=wd.same s10
 generalize upd H9 ra (.lst (yw++[.ref e]))=H10 at s10 r10 h10 wd10 ⊢
 refine⟨_,rfl,a,row,rfl,r10.at_,up,l12,bd,fun rw2 yw2 H11 s11 n11 h11 ww2=>⟨sm_ws (by omega) w2 h11 (s11 _ _ h10) ww2 (wd10.same s11),fun H12 s12=>⟨_,rfl,iteF ?_⟩⟩⟩
 have r12:=r10.same (s11.trans s12)
 clear s7 s8 s9 s10 s11 s12 h7 h8 h10 h11 wd ww ww2 wd10 n8 n11 r10 r7 r6 r5 he
 have far:=nr.ro.far
 -- free,blocks
 refine⟨_,rfl,a,row,rfl,r12.at_,up,l12,fun H1 s1=>⟨_,rfl,a,row,rfl,s1 _ _ r12.at_,up,l12,fun H2 s2=>?_⟩⟩
 refine⟨rfl,false,by rw[decide_eq_true rfl];rfl,iteF ?_⟩
 have r2:=r12.same (s1.trans s2)
 clear s1 s2 r12
 refine⟨_,rfl,a,row,rfl,r2.at_,up,l12,fun H3 s3=>⟨_,rfl,?_⟩⟩
 have r3:=r2.same s3
 clear s3 r2
 generalize hf:frB (BB.blk row)=fb
 cases fb
 case' false=>
  refine iteF (iteF ?_)
  have r13:=r3
  clear r3
 case' true=>
  refine iteT ⟨_,rfl,a,row,rfl,r3.at_,far,hf,fun rb yb H4 s4 hb tb4=>?_⟩
  refine⟨_,rfl,a,row,rfl,s4 _ _ r3.at_,up,l12,fun rl yl H5 s5 hl tl=>⟨rl,yl,rfl,.inl ⟨Zp.of hl,fun l6 hl6=>?_⟩⟩⟩
  have s6:=Z9 hl6 (.tup yl)
  have s46:=s5.trans s6
  refine⟨_,_,rfl,Wq (sm_pairs (by have:=WC row;omega) (s46 _ _ hb) Z5 (tb4.same s46) (tl.same s6)),fun H7 s7=>⟨_,rfl,iteF ?_⟩⟩
  have r13:=r3.same (s4.trans (s46.trans s7))
  clear s4 s5 s6 s46 s7 hb hl tb4 tl r3
 all_goals
  refine⟨_,rfl,a,row,rfl,r13.at_,far,fun H8 s8=>?_⟩
  have r14:=r13.same s8
  clear r13 s8
  generalize hft:ftF row=ft
  cases ft with
  |none=>
   refine⟨_,rfl,rfl,true,by rw[show ansV none=V.non from rfl,decide_eq_true rfl],iteT ?_⟩
   refine⟨r14.tb,fun f1 H9 L=>?_⟩
   have r15:=r14.lam L.grow L.tab
   refine⟨_,rfl,a,row,rfl,r15.at_,far,hft,fun e H3 s3 he=>⟨c2,bm2,e,2,rfl,rfl,he,e2,hin,kd,fun H4 s4=>?_⟩⟩
   have r16:=r15.same (s3.trans ((Z9 he (Xe e c2)).trans s4))
   exact⟨rfl,q H4 r16.kp r16.tb⟩
  |some m=>
   refine⟨_,rfl,rfl,false,by rw[decide_eq_false (fun z=>nomatch z)],iteF ?_⟩
   refine⟨_,rfl,a,row,m,rfl,r14.at_,far,hft,fun H2 s2=>?_⟩
   refine⟨_,rfl,_,_,rfl,Wq (Wq (Wq ⟨rfl,.inl ⟨_,rfl⟩⟩)),fun H3 s3=>?_⟩
   have r15:=r14.same (s2.trans s3)
   exact q H3 r15.kp r15.tb
end
end K97
namespace K97
open L2
abbrev FQ:Str:=(("_law_far_right" : Str)++".<locals>.")++"<lambda>"
structure Uj (q:Str)(T a:Addr)(b:Bool)(H0 H:Hp):Prop where
 kp:∀c o,c≠a->c≠T->H0 c=some o->H c=some o
 tb:Wv q H T
 st:∃x,Wl H a x b
section
variable {q:Str}{T a:Addr}{b:Bool}{H0 H H':Hp}
theorem Uj.same (r:Uj q T a b H0 H)(s:ZR H H'):Uj q T a b H0 H':=⟨fun c o n m h=>s _ _ (r.kp c o n m h),r.tb.same s,let⟨x,e⟩:=r.st;⟨x,e.same s⟩⟩
theorem Uj.lam (r:Uj q T a b H0 H)(k:WB T H H')(t:Wv q H' T):Uj q T a b H0 H':=⟨fun c o n m h=>k _ _ m (r.kp c o n m h),t,let⟨x,e⟩:=r.st;⟨x,k _ _ (Yj r.tb e.1 fun _ z=>nomatch z) e.1,e.2⟩⟩
theorem Uj.keep (r:Uj q T a b H0 H)(k:WB a H H'){x:Int}(s:Wl H' a x b):Uj q T a b H0 H':=by
 obtain⟨x0,e⟩:=r.st
 exact⟨fun c o n m h=>k _ _ n (r.kp c o n m h),Vt r.tb e.1 k,x,s⟩
theorem Uj.take (r:Uj q T a b H0 H){x:Int}(d:Dok x b):Uj q T a b H0 (upd H a (.lst [.int x,.bl b])):=r.keep (YE a H _) (Wl.upd d)
theorem Uj.trans (r:Uj q T a b H0 H)(s:Uj q T a b H H'):Uj q T a b H0 H':=⟨fun c o n m h=>s.kp c o n m (r.kp c o n m h),s.tb,s.st⟩
theorem Uj.refl (r:Uj q T a b H0 H):Uj q T a b H H:=⟨fun _ _ _ _ h=>h,r.tb,r.st⟩
theorem Uj.put {D:Addr}{ys:List V}{o:HO}(r:Uj q T a b H0 H)(h0:H0 D=none)(hD:H D=some (.lst ys))(Da:D≠a):Uj q T a b H0 (upd H D o):=by
 obtain⟨x,e⟩:=r.st
 exact⟨fun c u n m h=>by rw[ZS (ZP h h0)];exact r.kp c u n m h,Vt r.tb hD (YE D H o),x,by rw[ZS Da.symm];exact e.1,e.2⟩
end
def spFr (T:Addr):Sp:=fun vs H Q _=>∃(a:Addr) (b:Bool),vs=[.ref a]/\Uj FQ T a b H H/\∀H',Uj FQ T a b H H'->Q (.bl true) H'
theorem far_row {row:List Int}{far:Int}(h:RowOk row)(hf:far=999999700\/far=-999999700\/far=0):Far (row.map fun p=>p+far):=by
 refine⟨by rw[Z2];exact h.len,?_,fun p hp=>?_⟩
 ·rw[WK]
  exact h.up.imp fun{a b} z=>by omega
 ·obtain⟨y,hy,rfl⟩:=YC.mp hp
  have:=h.bd y hy
  omega
section
variable {P:Program}{w:World}{K:W.Frag}{mg:Str->Option Value}{base:Heap}{b c0 c1 c2 c3 c4 c T:Addr}{bm1:List Value}
theorem ok_L_far_right {f:Addr}{fd:FuncData}(F:XH K "_law_far_right" "_law_far_right" XR f fd)(nb:Nb4 mg)(h_L_nearly_free:YR P w K mg base 2 "_law_nearly_free" ["_law_state_here"] spNear)(h_L_take:YR P w K mg base 1 "_law_take" ["_law_state_here","_law_many"] (Tl K))(h_L_is_free:YR P w K mg base 2 "_law_is_free" ["_law_row"] WH)(h_L_blocks:YR P w K mg base 1 "_law_blocks" ["_law_row"] Vr)(h_L_same:YR P w K mg base 4 "_law_same" ["_law_found","_law_due_here"] (UD 4))(h_free_later:YR P w K mg base 4 "free_later" ["row","steps"] spFl)(h_ref:HasR P w K mg 6 5 "_law_refused" "_law_call" Rn (Ec K b c0 c1 c2 c3 c4))(hE_free_later:∀base,HasE P w K mg base 4 "free_later" ["row","steps"] (spFlE1 c1))(hcd:fd.code=.ref c)(C:CodeHd base c T)(Bl:VO mg base)(e1:Vx K c1 bm1)(hin:(Value.ref c1::bm1).contains (.ref b)=true)(kd:Kind5 K c0 c1 c2 c3 c4 c1 1) :
 Y6 P w K mg base XB 7 f fd ["_law_state_here"] (spFr T):=by
 have nd:=Vn.nd
 refine F.okC (k:=6) Vn (fun vs H Q E h=>?_) (fun A outer s H vs Q E hr h=>?_)
 ·obtain⟨a,b,rfl,_⟩:=h
  rfl
 obtain⟨a,bb,rfl,r0,q⟩:=h
 refine⟨_,(@Z7 _ _ _ _ _ (@ZH _ _ (1) _ _ _ _ nd rfl (Or.inr rfl) (ZI h_L_nearly_free hr (@Z0 _ _ _ _ _ (pv 0) Z3 rfl)) rfl (by first | exact .inl rfl | exact .inr rfl)) (@Z7 _ _ _ _ _ (@ZH _ _ (2) _ _ _ _ nd rfl (Or.inr rfl) (@Zm _ _ _ _ _ _ _ Zk (@Y2 _ _ _ _ (@Z0 _ _ _ _ _ (@ZG _ _ _ _ _ _ _ _ Yb (@ZG _ _ _ _ _ _ _ _ SZ ZZ ZZ) ZZ) (@Z0 _ _ _ _ _ (@ZG _ _ _ _ _ _ _ _ Yb ZZ (@ZG _ _ _ _ _ _ _ _ SZ ZZ ZZ)) (@Z0 _ _ _ _ _ ZZ Z3 rfl) rfl) rfl)) (ZI h_L_take hr (@Z0 _ _ _ _ _ (pv 0) (@Z0 _ _ _ _ _ ZZ Z3 rfl) rfl)) (fun _ _=>rfl)) rfl (by first | exact .inl rfl | exact .inr rfl)) (@Z7 _ _ _ _ _ (@ZH _ _ (1) _ _ _ _ nd rfl (Or.inr rfl) (Zy Zz rfl nb.tuple boot_tuple (@Z0 _ _ _ _ _ (YU (sc:=ZY XR) (N0:=["_law_state_here","_law_row","_law_far","_law_steps_here","_law_due_here","_law_first","_law_size"]) (N:=["_law_far"]) (js:=[2]) rfl rfl rfl (by constructor<;>first|decide +kernel|rfl) rfl (X6 (pv 1)) (fun _ _ _ _ _=>by exact YI) (fun _ _ _ _ _=>by exact(@ZG _ _ _ _ _ _ _ _ Zn (pv 0) (pv 1)))) Z3 rfl)) rfl (by first | exact .inl rfl | exact .inr rfl)) (@Z7 _ _ _ _ _ (@ZH _ _ (3) _ _ _ _ nd rfl (Or.inr rfl) (@Zm _ _ _ _ _ _ _ Zk (@Y2 _ _ _ _ (@Z0 _ _ _ _ _ (@ZG _ _ _ _ _ _ _ _ SZ ZZ ZZ) (@Z0 _ _ _ _ _ ZZ (@Z0 _ _ _ _ _ (ZI h_L_take hr (@Z0 _ _ _ _ _ (pv 0) (@Z0 _ _ _ _ _ (@ZG _ _ _ _ _ _ _ _ Zn (@ZG _ _ _ _ _ _ _ _ SZ ZZ ZZ) ZZ) Z3 rfl) rfl)) Z3 rfl) rfl) rfl)) (ZI h_L_take hr (@Z0 _ _ _ _ _ (pv 0) (@Z0 _ _ _ _ _ ZZ Z3 rfl) rfl)) (fun _ _=>rfl)) rfl (by first | exact .inl rfl | exact .inr rfl)) (@Z7 _ _ _ _ _ (@YX _ _ _ _ _ _ _ _ (Yx (Zo (ZI h_L_is_free hr (@Z0 _ _ _ _ _ (pv 1) Z3 rfl)) (fun _=>rfl))) (@ZX _ _ _ (@ZE _ _ _ _ (WD Vd (pe_lambda (sc:=ZY XR) (N0:=["_law_state_here","_law_row","_law_far","_law_steps_here","_law_due_here","_law_first","_law_size"]) (N:=["_law_row","_law_steps_here"]) (js:=[1,3]) h_ref hr hcd C Bl rfl rfl (by exact⟨rfl,rfl,rfl,by decide +kernel⟩) (by constructor<;>first|decide +kernel|rfl) (fun base E cl f cd A outer s H hr=>by exact(pe_defE (hE_free_later base) lvs_lam hr (@Z0 _ _ _ _ _ (pv 0) (@Z0 _ _ _ _ _ (pv 1) Z3 rfl) rfl)))) ZZ (Zf _)))) Zg) (@Z7 _ _ _ _ _ (@ZH _ _ (4) _ _ _ _ nd rfl (Or.inl rfl) (@Y2 _ _ _ _ Z3) rfl (by first | exact .inl rfl | exact .inr rfl)) (@Z7 _ _ _ _ _ (@XV _ _ _ _ _ _ _ _ PassesOwn.never rfl (@XN _ _ _ _ (ZI h_L_blocks hr (@Z0 _ _ _ _ _ (pv 1) Z3 rfl))) (Xt rfl (Ze (Zl (i:=5) nd rfl (Or.inr rfl)) (Ze (Zl (i:=6) nd rfl (Or.inr rfl)) X9))) (@ZX _ _ _ (@YQ _ _ _ _ (XF Zu WL WM VQ (pv 4) (@Z0 _ _ _ _ _ (YU (sc:=ZY XR) (N0:=["_law_state_here","_law_row","_law_far","_law_steps_here","_law_due_here","_law_first","_law_size"]) (N:=["_law_steps_here","_law_first","_law_size"]) (js:=[3,5,6]) rfl rfl rfl (by constructor<;>first|decide +kernel|rfl) rfl (XQ rfl nb.range (@Z0 _ _ _ _ _ (pv 6) Z3 rfl)) (fun _ _ _ _ _=>by exact YI) (fun _ _ _ _ _=>by exact(@ZG _ _ _ _ _ _ _ _ Zn (@ZG _ _ _ _ _ _ _ _ Zn (pv 2) (@ZG _ _ _ _ _ _ _ _ Uw (pv 3) (pv 1))) (pv 0)))) Z3 rfl)) rfl)) (by intro _;rfl)) (@ZX _ _ _ (@ZE _ _ _ _ (ZI h_L_same hr (@Z0 _ _ _ _ _ (ZI h_free_later hr (@Z0 _ _ _ _ _ (pv 1) (@Z0 _ _ _ _ _ (pv 3) Z3 rfl) rfl)) (@Z0 _ _ _ _ _ (Zy Zz rfl nb.tuple boot_tuple (@Z0 _ _ _ _ _ (pv 4) Z3 rfl)) Z3 rfl) rfl))))))))))),?_⟩
 obtain⟨x0,st0⟩:=r0.st
 refine⟨_,rfl,a,x0,bb,rfl,st0,fun p1 row H1 x1 k1 st1 h1 ro=>?_⟩
 have r1:=r0.keep k1 st1
 have pa:p1≠a:=Wc h1 st1.1 (by intro z;cases z)
 refine⟨_,_,rfl,rfl,⟨by decide,by decide,by decide⟩,_,_,rfl,rfl,_,_,rfl,rfl,⟨by decide,by decide,by decide⟩,_,_,rfl,rfl,(by show 3<=sizeLine;decide),fun p2 hp2=>?_⟩
 have s2:ZR H1 (upd H1 p2 (.lst [.int ((10:Int)^(9:Int).toNat - 300),.int (300 - (10:Int)^(9:Int).toNat),.int 0])):=Z9 hp2 _
 have hp:(upd H1 p2 (.lst [.int ((10:Int)^(9:Int).toNat - 300),.int (300 - (10:Int)^(9:Int).toNat),.int 0])) p2=some (.lst [.int 999999700,.int (-999999700),.int 0]):=Z5
 have p2a:p2≠a:=(ZP st1.1 hp2).symm
 generalize upd H1 p2 (.lst [.int ((10:Int)^(9:Int).toNat - 300),.int (300 - (10:Int)^(9:Int).toNat),.int 0])=H2 at s2 hp ⊢
 have r2:=r1.same s2
 have h2:=s2 _ _ h1
 clear r1 s2 h1 st1 k1
 obtain⟨x2,st2⟩:=r2.st
 refine⟨_,rfl,a,x2,bb,3,rfl,st2,by decide,by decide,fun v3 x3 v30 v31 d3=>?_⟩
 have r3:=r2.take d3
 have h3:=YE a H2 (.lst [.int x3,.bl bb]) _ _ pa h2
 have hp3:=YE a H2 (.lst [.int x3,.bl bb]) _ _ p2a hp
 generalize upd H2 a (.lst [.int x3,.bl bb])=H3 at r3 h3 hp3 ⊢
 obtain⟨u,hu,um,_⟩:=SG (xs:=[V.int 999999700,V.int (-999999700),V.int 0]) v30 (by simpa using v31)
 obtain⟨far,rfl,hfar⟩:∃far:Int,u=.int far/\(far=999999700\/far=-999999700\/far=0):=by
  simp only[ZV,ZC,or_false]at um
  rcases um with rfl | rfl | rfl
  ·exact⟨_,rfl,.inl rfl⟩
  ·exact⟨_,rfl,.inr (.inl rfl)⟩
  ·exact⟨_,rfl,.inr (.inr rfl)⟩
 refine⟨p2,_,_,_,rfl,rfl,Zp.of hp3,hu,?_⟩
 have fr:=far_row ro hfar
 have l12:=ro.len
 refine⟨_,rfl,p1,rfl,⟨_,Y0.of h3⟩,fun D hD=>?_⟩
 refine X4 row.length (by rw[sizeLine_eq];omega) (fun i=>.int (row.getD i 0+far)) (fun σ=>∃o1,σ=[o1,some (.int far)]) _ hD (by exact⟨_,rfl⟩) (by have:=YB (K:=K) h3;rw[Z2]at this;exact this) (fun i z σ' H2 hi s3 im hσ R hR=>?_) (fun H4 s4 hD4=>?_)
 ·obtain⟨o1,rfl⟩:=hσ
  obtain⟨v,rfl,ev⟩:=VE im
  exact⟨_,rfl,_,rfl,_,_,rfl,rfl,hR _ _ _ ⟨_,rfl⟩ (ZR.refl _) (by rw[ev])⟩
 rw[map_ints row (fun z=>z+far)]at hD4
 refine⟨D,_,rfl,.inl ⟨Zp.of hD4,fun l5 hl5=>?_⟩⟩
 have s5:=Z9 hl5 (.tup ((row.map fun z=>z+far).map V.int))
 have r5:=r3.same (s4.trans s5)
 have h5:(upd H4 l5 (.tup ((row.map fun z=>z+far).map V.int))) l5=some (.tup ((row.map fun z=>z+far).map V.int)):=Z5
 generalize upd H4 l5 (.tup ((row.map fun z=>z+far).map V.int))=H5 at r5 h5 ⊢
 clear r3 s4 s5 h3 hp3 hD4
 generalize(row.map fun z=>z+far)=ms at fr h5
 obtain⟨x5,st5⟩:=r5.st
 refine⟨_,_,rfl,rfl,⟨by decide,by decide,by decide⟩,_,rfl,_,_,rfl,rfl,⟨by decide,by decide,by decide⟩,_,_,rfl,rfl,a,x5,bb,1000001,rfl,st5,by decide,by decide,fun v6 x6 v60 v61 d6=>?_⟩
 have r6:=r5.take d6
 have la:l5≠a:=Wc h5 st5.1 (by intro z;cases z)
 have h6:=YE a H5 (.lst [.int x6,.bl bb]) _ _ la h5
 generalize upd H5 a (.lst [.int x6,.bl bb])=H6 at r6 h6 ⊢
 refine⟨(by show 3<=sizeLine;decide),fun p7 hp7=>?_⟩
 have s7:ZR H6 (upd H6 p7 (.lst [.int ((10:Int)^(6:Int).toNat),.int 1,.int v6])):=Z9 hp7 _
 have hp:(upd H6 p7 (.lst [.int ((10:Int)^(6:Int).toNat),.int 1,.int v6])) p7=some (.lst [.int 1000000,.int 1,.int v6]):=Z5
 generalize upd H6 p7 (.lst [.int ((10:Int)^(6:Int).toNat),.int 1,.int v6])=H7 at s7 hp ⊢
 have r7:=r6.same s7
 have h7:=s7 _ _ h6
 obtain⟨x7,st7⟩:=r7.st
 have p7a:p7≠a:=Wc hp st7.1 (by intro z;cases z)
 clear r5 r6 h5 h6 s7 st5
 refine⟨_,rfl,a,x7,bb,3,rfl,st7,by decide,by decide,fun v8 x8 v80 v81 d8=>?_⟩
 have r8:=r7.take d8
 have h8:=YE a H7 (.lst [.int x8,.bl bb]) _ _ la h7
 have hp8:=YE a H7 (.lst [.int x8,.bl bb]) _ _ p7a hp
 generalize upd H7 a (.lst [.int x8,.bl bb])=H8 at r8 h8 hp8 ⊢
 obtain⟨u,hu,um,_⟩:=SG (xs:=[V.int 1000000,V.int 1,V.int v6]) v80 (by simpa using v81)
 obtain⟨st,rfl,hs0,hs1⟩:∃st:Int,u=.int st/\0<=st/\st<=1000000:=by
  simp only[ZV,ZC,or_false]at um
  rcases um with rfl | rfl | rfl
  ·exact⟨_,rfl,by decide,by decide⟩
  ·exact⟨_,rfl,by decide,by decide⟩
  ·exact⟨_,rfl,by omega,by omega⟩
 refine⟨p7,_,_,_,rfl,rfl,Zp.of hp8,hu,?_⟩
 refine⟨_,rfl,l5,ms,rfl,h8,fr.up,fr.len,fun H9 s9=>⟨_,rfl,?_⟩⟩
 have r9:=r8.same s9
 have h9:=s9 _ _ h8
 clear r7 r8 h7 h8 hp hp8 s9 st7
 generalize hf:frB (BB.blk ms)=fb
 cases fb
 ·refine iteT ⟨r9.tb,fun f1 G L=>?_⟩
  have r15:=r9.lam L.grow L.tab
  have h15:=L.grow _ _ (Yj r9.tb h9 fun _ z=>nomatch z) h9
  refine⟨_,rfl,_,rfl,l5,ms,_,rfl,h15,fr,hf,fun e H3 s3 he=>⟨c1,bm1,e,1,rfl,rfl,he,e1,hin,kd,fun H4 s4=>?_⟩⟩
  exact⟨rfl,q H4 (r15.same (s3.trans ((Z9 he (Xe e c1)).trans s4)))⟩
 refine iteF ?_
 refine⟨(by show 0<=sizeLine;decide),fun fl hfl=>?_⟩
 have s0:=Z9 hfl (.lst [])
 refine⟨_,rfl,l5,ms,rfl,s0 _ _ h9,fr.up,fr.len,fun r ys H1 s1 h1 t1=>?_⟩
 have hf1:=s1 _ _ (Z5 (H:=H9) (a:=fl) (o:=.lst []))
 have bl12:=WC ms
 have r12:=fr.len
 have S1:=s0.trans s1
 have nf:r=fl->ys=[]:=fun z=>by rw[z,hf1]at h1;cases h1;rfl
 refine⟨r,rfl,⟨_,Zp.of h1⟩,?_⟩
 refine for_list (xs:=ys) (fun i σ H'=>ZR H9 H'/\But fl H1 H'/\H' fl=some (.lst ((List.range i).flatMap fun i=>(BB.far1 st ((BB.blk ms).getD i (0,0))).map V.int))/\∃o5 o6,σ=[some (.ref a),some (.ref l5),some (.int far),some (.int st),some (.ref fl),o5,o6]) ⟨S1,But.refl _ _,hf1,_,_,rfl⟩ (fun i σ H' hi hp=>Zp.of ?_) (fun i x σ H' hx hp=>?_) (fun σ H' hp=>?_)
 ·by_cases rf:r=fl
  ·have e:=nf rf
   rw[rf]
   obtain⟨_,_,hd,_⟩:=hp
   rw[e]at hi ⊢
   have i0:i=0:=Nat.le_zero.mp hi
   rw[i0]at hd
   exact hd
  ·exact hp.2.1 _ _ rf h1
 ·obtain⟨sm,bt,hd,o5,o6,rfl⟩:=hp
  have hi:i<(BB.blk ms).length:=by rw[<-t1.1];exact(List.getElem?_eq_some_iff.mp hx).1
  obtain⟨p,e,hp,hm⟩:=TM t1 hi
  rw[e]at hx
  cases hx
  have bd:=blk_bd fr hm
  have hl:((List.range i).flatMap fun i=>(BB.far1 st ((BB.blk ms).getD i (0,0))).map V.int).length<=i*12:=BB.flat_le _ 12 i fun j hj=>by
   rw[Z2,BB.Vb]
   obtain⟨_,_,_,hm⟩:=TM t1 (show j<(BB.blk ms).length by omega)
   have:=blk_bd fr hm
   omega
  have nx:∀z,z=(List.range i).flatMap (fun i=>(BB.far1 st ((BB.blk ms).getD i (0,0))).map V.int)++(BB.far1 st ((BB.blk ms).getD i (0,0))).map V.int->z=(List.range (i+1)).flatMap (fun i=>(BB.far1 st ((BB.blk ms).getD i (0,0))).map V.int):=fun z e=>by
   rw[e,XU,XS,V8]
  have hp':=bt _ _ (fun z=>by rw[z,hf1]at hp;cases hp) hp
  generalize hb:(BB.blk ms).getD i (0,0)=b at hp' bd nx
  generalize(List.range i).flatMap (fun i=>(BB.far1 st ((BB.blk ms).getD i (0,0))).map V.int)=pre at hd hl nx
  refine⟨p,_,rfl,Y0.of hp',rfl,_,_,rfl,_,_,rfl,rfl,?_⟩
  refine⟨_,rfl,.inl ⟨rfl,_,Zp.of hd⟩,?_⟩
  refine⟨_,rfl,b.2,rfl,by omega,by omega,fun D hD=>?_⟩
  refine X4 b.2.toNat (by rw[sizeLine_eq];omega) (fun j=>.int (b.1+b.2*st+(j:Int))) (fun σ=>∃o0,σ=[o0,some (.int st),some (.int b.1),some (.int b.2)]) (fun j H' x=>x=.int (0+(j:Int))) hD ⟨_,rfl⟩ (fun j H2 _=>Wy 0 b.2.toNat j H2 (ZR.refl _)) (fun j x σ2 H2 hj b2 im hσ R hR=>?_) (fun H2 s2 h2=>?_)
  ·obtain⟨o2,rfl⟩:=hσ
   subst im
   exact⟨_,rfl,_,rfl,_,rfl,b.2,st,rfl,rfl,.inl ⟨by omega,by omega⟩,_,_,rfl,rfl,_,rfl,_,_,rfl,rfl,hR _ _ _ ⟨_,rfl⟩ (ZR.refl _) (by rw[zero_add])⟩
  ·have e2:(List.range b.2.toNat).map (fun(j:Nat)=>V.int (b.1+b.2*st+(j:Int)))=(BB.far1 st b).map V.int:=by
    unfold BB.far1
    rw[Y5]
    exact Y4 fun j _=>congrArg V.int (show b.1+b.2*st+(j:Int)=b.1+(j:Int)+b.2*st by omega)
   rw[e2]at h2
   refine⟨fl,D,_,_,rfl,rfl,s2 _ _ hd,h2,by rw[Z2,BB.Vb,sizeLine_eq];omega,?_⟩
   refine⟨fun c o hc=>?_,fun c o nc hc=>?_,?_,_,_,rfl⟩
   ·rw[ZS (ZP hc hfl)]
    exact s2 _ _ (sm _ _ hc)
   ·rw[ZS nc]
    exact s2 _ _ (bt _ _ nc hc)
   ·rw[Z5]
    exact congrArg (fun z=>some (HO.lst z)) (nx _ rfl)
 ·obtain⟨sm,bt,hd,o5,o6,rfl⟩:=hp
  rw[t1.1,flw_V]at hd
  have rr:=r9.same sm
  refine⟨_,rfl,_,rfl,l5,ms,st,rfl,sm _ _ h9,fr,hf,hs0,hs1,fun pf H2 s2 h2=>?_⟩
  refine⟨_,rfl,fl,_,rfl,.inl ⟨Zp.of (s2 _ _ hd),fun pt hpt=>?_⟩⟩
  have s3:=Z9 hpt (.tup ((BB.flw (BB.blk ms) st).map V.int))
  refine⟨_,_,rfl,Wq (Wq (Wj (by rw[BB.flw_len];omega) (.inl ⟨s3 _ _ h2,Z5⟩))),fun H4 s4=>?_⟩
  exact q H4 (rr.same (s2.trans (s3.trans s4)))
end
end K97
namespace K97
open L2
abbrev SQ:Str:=(("_law_sizes_right" : Str)++".<locals>.")++"<lambda>"
theorem call_isiEK {X:Cx}(K:W.Frag)(h:X.K=K):XC X (.builtin "isinstance") (fun xs H Q=>∃e C bm y b,xs=[.ref e,y]/\H e=some (Xe e C)/\Vx K C bm/\((∃C0,y=.ref C0/\YK K (.ref C) (.ref C0)=some b)\/∃T,y=.ty T/\YK K (.ref C) (.type T)=some b)/\Q (.bl b) H):=by subst h;exact W6
theorem Ur {H:Hp}{a:Addr}{ns:List Int}(h:H a=some (.tup (ns.map V.int)))(l:ns.length<=1000):Thing H (.ref a):=by
 refine⟨⟨_,.tup h⟩,fun b xs e hx=>?_⟩
 cases e
 rw[h]at hx
 cases hx
 refine⟨by rw[Z2];exact l,fun x hx=>?_⟩
 obtain⟨z,_,rfl⟩:=YC.mp hx
 exact⟨_,.int _⟩
theorem long_no {n:Nat}(h:13<=n):rowB ((ups (-3) n).map V.int)=false:=by
 unfold rowB
 rw[Z2,Yo,decide_eq_false (by omega)]
 rfl
theorem ups_take {lo:Int}{n k:Nat}(h:k<=n):(ups lo n).take k=ups lo k:=by
 unfold ups
 rw[<-map_take,List.take_range,W9 h]
theorem prs_all {G:Hp}{ys:List V}{ml:List (Int×Int)}(pr:Prs G ys ml){x:V}(hx:x∈ys):∃p z,x=.ref p/\z∈ml/\G p=some (.tup [.int z.1,.int z.2]):=by
 obtain⟨j,hj,e⟩:=X0 hx
 have jm:j<ml.length:=by rw[<-pr.1];exact hj
 obtain⟨p,e1,e2⟩:=pr.2 j _ (Z1 jm)
 rw[Z1 hj,e]at e1
 exact⟨p,_,Option.some.inj e1,XI jm,e2⟩
theorem prs_thing2 {G:Hp}{l:Addr}{ys:List V}{ml:List (Int×Int)}(h:G l=some (.tup ys))(pr:Prs G ys ml)(len:ys.length<=1000):Thing2 G (.ref l):=by
 refine⟨⟨_,.tup h⟩,fun b xs e hx=>?_⟩
 cases e
 rw[h]at hx
 cases hx
 refine⟨len,fun x hx=>?_⟩
 obtain⟨p,z,rfl,_,hp⟩:=prs_all pr hx
 exact Ur (ns:=[z.1,z.2]) hp (by simp)
theorem prs_pl {G:Hp}{ys:List V}{ml:List (Int×Int)}(pr:Prs G ys ml):ys.map (plV G)=(ml.map (·.1)).map V.int:=by
 apply ext_getElem?
 intro j
 rw[ZQ,ZQ,ZQ]
 by_cases c:j<ml.length
 ·obtain⟨p,e1,e2⟩:=pr.2 j _ (Z1 c)
  rw[e1,Z1 c]
  show some (plO (twoV G (.ref p)))=_
  rw[Uh e2]
  rfl
 ·rw[Zd (by rw[pr.1];omega),Zd (by omega)]
  rfl
theorem mot_yes {G:Hp}{ys:List V}{ml:List (Int×Int)}(pr:Prs G ys ml)(kd:Kinds ml)(fa:Far (ml.map (·.1))):motB G ys=true:=by
 unfold motB
 rw[prs_pl pr,far_rowB fa,Bool.and_true,X1]
 intro x hx
 obtain⟨p,z,rfl,hz,hp⟩:=prs_all pr hx
 show kidB (twoV G (.ref p))=true
 rw[Uh hp]
 have:=kd z hz
 show(decide (1<=z.2)&&decide (z.2<=3))=true
 rw[decide_eq_true this.1,decide_eq_true this.2]
 rfl
theorem sm_rows {H:Hp}{a b:Addr}{xs ys:List V}{rs:List (List Int)}(l:BB.Wv 100 rs)(ha:H a=some (.lst xs))(hb:H b=some (.lst ys))(t1:Rws H xs rs)(t2:Rws H ys rs):Sm H 2 (.ref a) (.ref b):=by
 have few:=l.few
 refine .inr ⟨a,b,_,_,rfl,rfl,.inr ⟨ha,hb⟩,by rw[t1.1,t2.1],by rw[t1.1];omega,fun i u v hu hv=>?_⟩
 have il:i<rs.length:=by rw[<-t1.1];exact(List.getElem?_eq_some_iff.mp hu).1
 obtain⟨p,e1,h1⟩:=t1.2 i _ (Z1 il)
 obtain⟨q,e2,h2⟩:=t2.2 i _ (Z1 il)
 rw[hu]at e1
 rw[hv]at e2
 cases e1
 cases e2
 have:=l.len _ (XI il)
 exact Wj (ns:=rs[i]) (by omega) (.inl ⟨h1,h2⟩)
theorem lst_le:∀(bs:List Bool) (L:Nat),BB.lst L bs<=L+bs.length
 |[],L=>Nat.le_refl _
 |b::r,L=>by
  have:=lst_le r (BB.ld L b)
  show BB.lst (BB.ld L b) r<=_
  rw[ZM]
  unfold BB.ld at this ⊢
  cases b
  ·simp only[Yd,if_false]at this ⊢
   omega
  ·simp only[if_true]at this ⊢
   omega
theorem ldl_len {ns:List Int}(h:Near ns):(ldl ns).length<=900:=by
 unfold ldl
 split
 ·rename_i p q hp hq
  have bp:=h.bd p (List.mem_of_mem_head? hp)
  have bq:=h.bd q (List.mem_of_getLast? hq)
  rw[Z2,BB.Wn]
  unfold full
  rw[Z6,XY,VD]
  have:=lst_le (cel p (q+1 - p).toNat ns) 0
  rw[VD]at this
  omega
 ·exact Yp _
theorem NrOk.wide {row:List Int}(n:NrOk row)(l:row.length<12):Near (row++[row.headD 0+199]):=by
 refine⟨by rw[Z6];show _+1<=12;omega,?_,fun p hp=>?_⟩
 ·rw[YD]
  exact⟨n.ro.up,YO _ _,fun y hy z hz=>by have:=n.sp y hy;rw[ZD.mp hz];omega⟩
 ·have:=n.hd
  rcases Zi.mp hp with w | w
  ·have:=n.ro.bd p w;omega
  ·rw[ZD.mp w];omega
def spSz (T:Addr):Sp:=fun vs H Q _=>∃(a t:Addr) (b:Bool) (row:List Int),vs=[.ref a,.ref t]/\Uj SQ T a b H H/\H t=some (.tup (row.map V.int))/\NrOk row/\∀H',Uj SQ T a b H H'->Q (.bl true) H'
section
variable {P:Program}{w:World}{K:W.Frag}{mg:Str->Option Value}{base:Heap}{b c0 c1 c2 c3 c4 c T:Addr}{bm0 bm1 bm2 bm3 bm4:List Value}
theorem SX {f:Addr}{fd:FuncData}(F:XH K "_law_sizes_right" "_law_sizes_right" YF f fd)(nb:Nb4 mg)(h_L_take:YR P w K mg base 1 "_law_take" ["_law_state_here","_law_many"] (Tl K))(h_is_row:YR P w K mg base 2 "is_row" ["thing"] U4)(h_is_motley:YR P w K mg base 3 "is_motley" ["thing"] spMt)(h_L_put:YR P w K mg base 13 "_law_put" ["_law_lists","_law_number"] (spPut 13))(h_L_loads:YR P w K mg base 1 "_law_loads" ["_law_row"] spLd)(h_again:HasA S3 P w K mg 5 4 "_law_again" "_law_call" "_law_due_here")(h_staying:∀base,YR P w K mg base 2 "staying" ["motley"] spStay)(h_loads:∀base,YR P w K mg base 1 "loads" ["row"] spLd)(hcd:fd.code=.ref c)(C:CodeHd base c T)(Bl:VO mg base)(er:Errs K mg b c0 c1 c2 c3 c4)(e0:Vx K c0 bm0)(e1:Vx K c1 bm1)(e2:Vx K c2 bm2)(e3:Vx K c3 bm3)(e4:Vx K c4 bm4)(ki:∀C∈[c0,c1,c2,c3,c4],YK K (.ref C) (.ref b)=some true) :
 Y6 P w K mg base XB 14 f fd ["_law_state_here","_law_row"] (spSz T):=by
 have nd:=VV.nd
 refine F.okC (k:=13) VV (fun vs H Q E h=>?_) (fun A outer s H vs Q E hr h=>?_)
 ·obtain⟨a,t,b,row,rfl,_⟩:=h
  rfl
 obtain⟨a,t,bb,row,rfl,r0,ht,nr,q⟩:=h
 have c_BallError:∃u,mg "BallError" = some u/\Zb (.ref b) u:=⟨_,er.mb,rfl⟩
 refine⟨_,(@Z7 _ _ _ _ _ (@ZH _ _ (2) _ _ _ _ nd rfl (Or.inl rfl) (@ZG _ _ _ _ _ _ _ _ Zn ZZ (ZI h_L_take hr (@Z0 _ _ _ _ _ (pv 0) (@Z0 _ _ _ _ _ ZZ Z3 rfl) rfl))) rfl (by first | exact .inl rfl | exact .inr rfl)) (@Z7 _ _ _ _ _ (@ZH _ _ (3) _ _ _ _ nd rfl (Or.inl rfl) (Zy (call_tuple_rng rfl) rfl nb.tuple boot_tuple (@Z0 _ _ _ _ _ (Zy Ww rfl nb.range boot_range (@Z0 _ _ _ _ _ (XG Yn ZZ) (@Z0 _ _ _ _ _ (@ZG _ _ _ _ _ _ _ _ Yb (pv 2) ZZ) Z3 rfl) rfl)) Z3 rfl)) rfl (by first | exact .inl rfl | exact .inr rfl)) (@Z7 _ _ _ _ _ (@YX _ _ _ _ _ _ _ _ (PW.pt (WR (Zr TL (ZI h_is_row hr (@Z0 _ _ _ _ _ (pv 3) Z3 rfl)) Yk (Zf _)) (Xu (Zr TL (ZI h_is_row hr (@Z0 _ _ _ _ _ (Ym sl_tupA (pv 3) XO (X8 ZZ)) Z3 rfl)) Yk (Zf _))))) (@ZX _ _ _ (@ZE _ _ _ _ Yk)) Zg) (@Z7 _ _ _ _ _ (@ZH _ _ (4) _ _ _ _ nd rfl (Or.inr rfl) (Zy Zz rfl nb.tuple boot_tuple (@Z0 _ _ _ _ _ (YU (sc:=ZY YF) (N0:=["_law_state_here","_law_row","_law_many","_law_long","_law_motley","_law_due_here","_law_place","_law_kind","_law_wide","_law_refusals"]) (N:=["_law_state_here"]) (js:=[0]) rfl rfl rfl (by constructor<;>first|decide +kernel|rfl) rfl (X6 (pv 1)) (fun _ _ _ _ _=>by exact YI) (fun _ _ _ _ _=>by exact(@Yc _ _ _ _ _ (@Z0 _ _ _ _ _ (pv 0) (@Z0 _ _ _ _ _ (@ZG _ _ _ _ _ _ _ _ Zn ZZ (ZI h_L_take hr (@Z0 _ _ _ _ _ (pv 1) (@Z0 _ _ _ _ _ ZZ Z3 rfl) rfl))) Z3 rfl) rfl)))) Z3 rfl)) rfl (by first | exact .inl rfl | exact .inr rfl)) (@Z7 _ _ _ _ _ (@YX _ _ _ _ _ _ _ _ (PW.pt (WR (Zr TL (ZI h_is_motley hr (@Z0 _ _ _ _ _ (Zy Zz rfl nb.tuple boot_tuple (@Z0 _ _ _ _ _ (YU (sc:=ZY YF) (N0:=["_law_state_here","_law_row","_law_many","_law_long","_law_motley","_law_due_here","_law_place","_law_kind","_law_wide","_law_refusals"]) (N:=[]) (js:=[]) rfl rfl rfl (by constructor<;>first|decide +kernel|rfl) rfl (X6 (pv 3)) (fun _ _ _ _ _=>by exact YI) (fun _ _ _ _ _=>by exact(@Yc _ _ _ _ _ (@Z0 _ _ _ _ _ (pv 0) (@Z0 _ _ _ _ _ ZZ Z3 rfl) rfl)))) Z3 rfl)) Z3 rfl)) Yk (Zf _)) (Xu (Zr TL (ZI h_is_motley hr (@Z0 _ _ _ _ _ (pv 4) Z3 rfl)) Yk (Zf _))))) (@ZX _ _ _ (@ZE _ _ _ _ Yk)) Zg) (@Z7 _ _ _ _ _ (@ZH _ _ (5) _ _ _ _ nd rfl (Or.inl rfl) (@Y2 _ _ _ _ Z3) rfl (by first | exact .inl rfl | exact .inr rfl)) (@Z7 _ _ _ _ _ (@XV _ _ _ _ _ _ _ _ PassesOwn.never rfl (X6 (pv 4)) (Xt rfl (Ze (Zl (i:=6) nd rfl (Or.inl rfl)) (Ze (Zl (i:=7) nd rfl (Or.inl rfl)) X9))) (@ZX _ _ _ (@ZH _ _ (5) _ _ _ _ nd rfl (Or.inl rfl) (ZI h_L_put hr (@Z0 _ _ _ _ _ (pv 5) (@Z0 _ _ _ _ _ (pv 7) Z3 rfl) rfl)) rfl (by first | exact .inl rfl | exact .inr rfl))) (by intro _;rfl)) (@Z7 _ _ _ _ _ (@ZH _ _ (8) _ _ _ _ nd rfl (Or.inr rfl) (pv 1) rfl (by first | exact .inl rfl | exact .inr rfl)) (@Z7 _ _ _ _ _ (@YX _ _ _ _ _ _ _ _ (PW.pt (pw_and (Zr Vz (ZJ Zx rfl nb.len PySem.boot_len (@Z0 _ _ _ _ _ (pv 1) Z3 rfl)) ZZ (Zf _)) (pw_and1 (Zr Vz (@ZG _ _ _ _ _ _ _ _ Yb (@Zm _ _ _ _ _ _ _ YT (pv 1) (XG Yn ZZ) (fun _ _=>rfl)) (@Zm _ _ _ _ _ _ _ YT (pv 1) ZZ (fun _ _=>rfl))) ZZ (Zf _))))) (@ZX _ _ _ (@ZH _ _ (8) _ _ _ _ nd rfl (Or.inr rfl) (@ZG _ _ _ _ _ _ _ _ TK (pv 1) (@Yc _ _ _ _ _ (@Z0 _ _ _ _ _ (@ZG _ _ _ _ _ _ _ _ Zn (@Zm _ _ _ _ _ _ _ YT (pv 1) ZZ (fun _ _=>rfl)) ZZ) Z3 rfl))) rfl (by first | exact .inl rfl | exact .inr rfl))) Zg) (@Z7 _ _ _ _ _ (@YX _ _ _ _ _ _ _ _ (Yx (Zo (Ux (sc:=ZY YF) (N0:=["_law_state_here","_law_row","_law_many","_law_long","_law_motley","_law_due_here","_law_place","_law_kind","_law_wide","_law_refusals"]) (N:=["_law_motley"]) (js:=[4]) h_again hr hcd C Bl rfl rfl (by exact⟨rfl,rfl,rfl,by decide +kernel⟩) (by constructor<;>first|decide +kernel|rfl) (fun base E cl f cd A outer s H hr=>by exact(ZI (h_staying base) hr (@Z0 _ _ _ _ _ (pv 0) Z3 rfl))) (pv 5)) (fun _=>rfl))) (@ZX _ _ _ (@ZE _ _ _ _ Yk)) Zg) (@Z7 _ _ _ _ _ (@YX _ _ _ _ _ _ _ _ (Yx (Zo (Ux (sc:=ZY YF) (N0:=["_law_state_here","_law_row","_law_many","_law_long","_law_motley","_law_due_here","_law_place","_law_kind","_law_wide","_law_refusals"]) (N:=["_law_wide"]) (js:=[8]) h_again hr hcd C Bl rfl rfl (by exact⟨rfl,rfl,rfl,by decide +kernel⟩) (by constructor<;>first|decide +kernel|rfl) (fun base E cl f cd A outer s H hr=>by exact(ZI (h_loads base) hr (@Z0 _ _ _ _ _ (pv 0) Z3 rfl))) (ZI h_L_loads hr (@Z0 _ _ _ _ _ (pv 8) Z3 rfl))) (fun _=>rfl))) (@ZX _ _ _ (@ZE _ _ _ _ Yk)) Zg) (@Z7 _ _ _ _ _ (@ZH _ _ (9) _ _ _ _ nd rfl (Or.inl rfl) (@Y2 _ _ _ _ (@Z0 _ _ _ _ _ (pe_exc rfl er.m0 e0.toExc (@Z0 _ _ _ _ _ S0 Z3 rfl)) (@Z0 _ _ _ _ _ (pe_exc rfl er.m1 e1.toExc (@Z0 _ _ _ _ _ S0 Z3 rfl)) (@Z0 _ _ _ _ _ (pe_exc rfl er.m2 e2.toExc (@Z0 _ _ _ _ _ S0 Z3 rfl)) (@Z0 _ _ _ _ _ (pe_exc rfl er.m3 e3.toExc (@Z0 _ _ _ _ _ S0 Z3 rfl)) (@Z0 _ _ _ _ _ (pe_exc rfl er.m4 e4.toExc (@Z0 _ _ _ _ _ S0 Z3 rfl)) Z3 rfl) rfl) rfl) rfl) rfl)) rfl (by first | exact .inl rfl | exact .inr rfl)) (@ZX _ _ _ (@ZE _ _ _ _ (WD Vd (ZJ Zx rfl nb.len PySem.boot_len (@Z0 _ _ _ _ _ (YU (sc:=ZY YF) (N0:=["_law_state_here","_law_row","_law_many","_law_long","_law_motley","_law_due_here","_law_place","_law_kind","_law_wide","_law_refusals"]) (N:=[]) (js:=[]) rfl rfl rfl (by constructor<;>first|decide +kernel|rfl) rfl (@XN _ _ _ _ (pv 9)) (fun _ _ _ _ _=>by exact(XW (pt_truthK K rfl (ZJ (call_isiEK K rfl) rfl nb.isi boot_isinstance (@Z0 _ _ _ _ _ (pv 0) (@Z0 _ _ _ _ _ (Yl c_BallError) Z3 rfl) rfl)) (fun _=>rfl)))) (fun _ _ _ _ _=>by exact(pv 0))) Z3 rfl)) ZZ (Zf _)))))))))))))))),?_⟩
 have l12:=nr.ro.len
 obtain⟨x0,st0⟩:=r0.st
 have ta:t≠a:=Wc ht st0.1 (by intro z;cases z)
 have tT:t≠T:=Yj r0.tb ht fun _ z=>nomatch z
 have rw_at:∀{H':Hp},Uj SQ T a bb H H'->H' t=some (.tup (row.map V.int)):=fun r=>r.kp _ _ ta tT ht
 refine⟨_,rfl,a,x0,bb,100,rfl,st0,by decide,by decide,fun v1 x1 v10 v11 d1=>?_⟩
 have r1:=r0.take d1
 generalize upd H a (.lst [.int x1,.bl bb])=H1 at r1 ⊢
 refine⟨_,_,rfl,rfl,?_⟩
 refine⟨_,rfl,_,rfl,_,_,rfl,rfl,_,_,rfl,fun p2 hp2=>⟨p2,_,_,rfl,Z5,⟨by decide,by decide,by omega,by omega⟩,by rw[sizeLine_eq];omega,fun l3 hl3=>?_⟩⟩
 obtain⟨n,en,n13,n112⟩:∃n:Nat,(13+v1 - 3 - -3).toNat=n/\13<=n/\n<=112:=⟨_,rfl,by omega,by omega⟩
 rw[en]
 have s3:=(Z9 hp2 (.rng (-3) (13+v1 - 3))).trans (Z9 hl3 (.tup ((ups (-3) n).map V.int)))
 have h3:(upd (upd H1 p2 (.rng (-3) (13+v1 - 3))) l3 (.tup ((ups (-3) n).map V.int))) l3=some (.tup ((ups (-3) n).map V.int)):=Z5
 generalize upd (upd H1 p2 (.rng (-3) (13+v1 - 3))) l3 (.tup ((ups (-3) n).map V.int))=H3 at s3 h3 ⊢
 have r3:=r1.same s3
 clear r1 s3 en
 -- no row,a row
 have th3:=Ur h3 (by rw[Yo];omega)
 refine⟨_,rfl,_,rfl,th3,fun H4 s4=>⟨false,rfl,false,by rw[VT h3,long_no n13,decide_eq_true rfl];rfl,iteF ?_⟩⟩
 have h4:=s4 _ _ h3
 refine⟨_,rfl,_,rfl,l3,_,rfl,h4,fun p5 H5 s5 hp5=>?_⟩
 rw[show(12:Int)=((12:Nat):Int) from rfl,cut_to,<-map_take,ups_take (by omega)]at hp5
 refine⟨_,rfl,Ur hp5 (by decide),fun H6 s6=>⟨true,rfl,false,by rw[VT hp5,show rowB ((ups (-3) 12).map V.int)=true by decide,decide_eq_true rfl];rfl,iteF ?_⟩⟩
 have S6:=s4.trans (s5.trans s6)
 have r6:=r3.same S6
 have h6:=S6 _ _ h3
 clear S6 s4 s5 s6 hp5 h4 th3 h3 r3
 -- a motley row
 have t6:=rw_at r6
 obtain⟨x6,st6⟩:=r6.st
 refine⟨_,rfl,t,rfl,⟨_,Y0.of t6⟩,fun D hD=>?_⟩
 have Da:D≠a:=fun z=>by rw[z,st6.1]at hD;cases hD
 refine comp_inv row.length (by rw[sizeLine_eq];omega) (fun i σ G ys=>∃(o1:Option V) (ml:List (Int×Int)),σ=[o1,some (.ref a)]/\i<=row.length/\Uj SQ T a bb H6 G/\G D=some (.lst ys)/\Prs G ys ml/\ml.map (·.1)=row.take i/\Kinds ml) (fun i x=>(row.map V.int)[i]?=some x) ?_ (fun i σ G ys h=>?_) (fun i σ G ys h=>?_) (fun i x σ G ys hi h im R hR=>?_) (fun σ H7 ys h=>?_)
 ·exact⟨_,[],rfl,Yp _,r6.refl.same (Z9 hD _),Z5,⟨rfl,fun j b e=>by cases e⟩,by simp,fun q hq=>by cases hq⟩
 ·obtain⟨o1,ml,rfl,il,rg,hd,pr,em,kd⟩:=h
  refine⟨hd,?_⟩
  have:=congrArg List.length em
  rw[Z2,Za]at this
  rw[pr.1]
  omega
 ·obtain⟨o1,ml,rfl,il,rg,hd,pr,em,kd⟩:=h
  have q:=Y0.of (K:=K) (rg.kp _ _ ta tT t6)
  exact⟨fun hi=>⟨⟨_,_,q,Z1 (by rw[Z2];exact hi)⟩,fun x H2 ⟨e,y⟩=>⟨e,y _ q⟩⟩,fun hi=>⟨_,q,by rw[Z2];exact hi⟩⟩
 ·obtain⟨o1,ml,rfl,il,rg,hd,pr,em,kd⟩:=h
  have tn:=take_next (p:=row.getD i 0) hi rfl
  obtain rfl:=Xs im
  obtain⟨x7,st7⟩:=rg.st
  refine⟨_,rfl,_,rfl,a,x7,bb,3,rfl,st7,by decide,by decide,fun v y7 v0 v1' d7=>⟨_,_,rfl,rfl,(by show 2<=sizeLine;decide),fun p8 hp8=>?_⟩⟩
  have k7:=YE a G (.lst [.int y7,.bl bb])
  have s8:=Z9 hp8 (.tup [.int (row.getD i 0),.int (1+v)])
  have hd8:=s8 _ _ (k7 _ _ Da hd)
  have r8:=(rg.take d7).same s8
  have pr8:=Xo pr fun p xs e=>s8 _ _ (k7 _ _ (Wc e st7.1 (by intro z;cases z)) e)
  have h8:(upd (upd G a (.lst [.int y7,.bl bb])) p8 (.tup [.int (row.getD i 0),.int (1+v)])) p8=some (.tup [.int (row.getD i 0),.int (1+v)]):=Z5
  generalize upd (upd G a (.lst [.int y7,.bl bb])) p8 (.tup [.int (row.getD i 0),.int (1+v)])=G8 at hd8 r8 pr8 h8 ⊢
  have tk:∀p xs,G8 p=some (.tup xs)->(upd G8 D (.lst (ys++[.ref p8]))) p=some (.tup xs):=fun p xs e=>by rw[ZS (Wc e hd8 (by intro z;cases z))];exact e
  refine hR _ _ _ hd8 ⟨_,ml++[(row.getD i 0,1+v)],rfl,hi,r8.put hD hd8 Da,Z5,Xo (prs_snoc pr8 h8) tk,by rw[ZB,em,tn];rfl,fun z hz=>?_⟩
  rcases Zi.mp hz with w | w
  ·exact kd z w
  ·rw[ZD.mp w]
   exact⟨by show 1<=1+v;omega,by show 1+v<=3;omega⟩
 obtain⟨o1',ml,rfl,_,r67,hd7,pr7,em,kd⟩:=h
 rw[W7]at em
 refine⟨D,_,rfl,.inl ⟨Zp.of hd7,fun l8 hl8=>?_⟩⟩
 have s8:=Z9 hl8 (.tup ys)
 have h8:(upd H7 l8 (.tup ys)) l8=some (.tup ys):=Z5
 have r8:=(r6.trans r67).same s8
 have l3a:l3≠a:=Wc h6 st6.1 (by intro z;cases z)
 have l3T:l3≠T:=Yj r6.tb h6 fun _ z=>nomatch z
 have g8:=s8 _ _ (r67.kp _ _ l3a l3T h6)
 have pr8:=Xo pr7 fun p xs e=>s8 _ _ e
 generalize upd H7 l8 (.tup ys)=H8 at h8 r8 g8 pr8 ⊢
 clear r67 hd7 pr7 s8 hD t6 st6
 have yl:ys.length<=12:=by
  have:=congrArg List.length em
  rw[Z2]at this
  rw[pr8.1]
  omega
 -- no motley row,a motley row
 refine⟨_,rfl,l3,rfl,⟨_,Y0.of g8⟩,fun D2 hD2=>?_⟩
 refine Wx n (by rw[sizeLine_eq];omega) (fun i=>[.int ((ups (-3) n).getD i 0),.int 2]) (fun σ=>∃o1,σ=[o1]) _ hD2 ⟨_,rfl⟩ (by have:=YB (K:=K) g8;rw[Z2,Yo]at this;exact this) (fun i x σ' G hi s im hσ R hR=>?_) (fun H9 ys9 s9 hd9 l9 al9=>?_)
 ·obtain⟨o1,rfl⟩:=hσ
  obtain rfl:=Xs im
  exact⟨_,rfl,(by show 2<=sizeLine;decide),fun p hp=>hR _ _ _ ⟨_,rfl⟩ (Z9 hp _) Z5⟩
 have pr9:Prs H9 ys9 ((ups (-3) n).map fun p=>(p,2)):=by
  refine⟨by rw[l9,Z2,Yo],fun j b e=>?_⟩
  rw[ZQ]at e
  obtain⟨z,ez,rfl⟩:=Xd.mp e
  have jl:j<ys9.length:=by
   have:=(List.getElem?_eq_some_iff.mp ez).1
   rw[Yo]at this
   omega
  obtain⟨p,ep,hp⟩:=al9 j _ (Z1 jl)
  refine⟨p,by rw[Z1 jl,ep],?_⟩
  rw[Z4,ez]at hp
  exact hp
 refine⟨D2,_,rfl,.inl ⟨Zp.of hd9,fun l10 hl10=>?_⟩⟩
 have s10:=Z9 hl10 (.tup ys9)
 have h10:(upd H9 l10 (.tup ys9)) l10=some (.tup ys9):=Z5
 have pr10:=Xo pr9 fun p xs e=>s10 _ _ e
 generalize upd H9 l10 (.tup ys9)=H10 at s10 h10 pr10 ⊢
 refine⟨_,rfl,prs_thing2 h10 pr10 (by omega),fun H11 s11=>⟨false,rfl,false,?_,iteF ?_⟩⟩
 ·rw[motV_tup h10]
  unfold motB rowB
  rw[Z2,l9,decide_eq_false (show ¬n<=12 by omega),Bool.false_and,Bool.and_false,decide_eq_true rfl]
  rfl
 have S11:=s9.trans (s10.trans s11)
 have r11:=r8.same S11
 have h11:=S11 _ _ h8
 have pr11:=Xo pr8 fun p xs e=>S11 _ _ e
 clear S11 s9 s10 s11 h10 pr10 pr9 al9 hd9 r8 h8 pr8 g8 hD2
 have fa:Far (ml.map (·.1)):=by rw[em];exact nr.ro.far
 refine⟨_,rfl,_,rfl,prs_thing2 h11 pr11 (by omega),fun H12 s12=>⟨true,rfl,false,by rw[motV_tup h11,mot_yes pr11 kd fa,decide_eq_true rfl];rfl,iteF ?_⟩⟩
 have r12:=r11.same s12
 have h12:=s12 _ _ h11
 have pr12:=Xo pr11 fun p xs e=>s12 _ _ e
 clear s12 r11 h11 pr11
 -- the lists
 have zm:=pr12.1
 have km:(ml.map (·.2)).length=ml.length:=Z2 ..
 refine⟨(by show 0<=sizeLine;decide),fun d0 hd0=>?_⟩
 have s3:=Z9 hd0 (.lst [])
 have f3:(upd H12 d0 (.lst [])) d0=some (.lst []):=Z5
 generalize upd H12 d0 (.lst [])=H13 at s3 f3 ⊢
 refine⟨_,rfl,l8,rfl,⟨_,Y0.of (s3 _ _ h12)⟩,?_⟩
 refine Tx (xs:=ys) (fun j σ H'=>∃dd ys,ZR H12 H'/\H' dd=some (.lst ys)/\Rws H' ys (BB.puts ((ml.map (·.2)).take j))/\∃o5 o6,σ=[some (.ref a),some (.ref t),some (.int (13+v1)),some (.ref l3),some (.ref l8),some (.ref dd),o5,o6,none,none])
  ⟨d0,[],s3,f3,rws_nil _,_,_,rfl⟩ (fun j σ H' _ hp=>Y0.of (hp.choose_spec.choose_spec.1 _ _ h12)) (fun j z σ H4 hz hp=>?_) (fun σ H4 hp=>?_)
 ·obtain⟨dd,ys,s4,hdd,rw4,o5,o6,rfl⟩:=hp
  have il:j<ml.length:=by rw[<-zm];exact(List.getElem?_eq_some_iff.mp hz).1
  obtain⟨p,e1,e2,_⟩:=prs_at pr12 il
  rw[hz]at e1
  cases e1
  have tab:=BB.VS j (ml.map (·.2))
  have tl:((ml.map (·.2)).take j).length<=12:=by rw[Za];omega
  have few:=tab.few
  refine⟨p,_,rfl,Y0.of (s4 _ _ e2),rfl,_,_,rfl,_,_,rfl,rfl,?_⟩
  refine⟨_,rfl,_,rfl,dd,_,ys,_,rfl,hdd,rw4,Nat.le_trans few tl,tab.mono (by omega),fun l' ys' H5 s5 h5 rw5=>?_⟩
  have es:BB.puts ((ml.map (·.2)).take (j+1))=BB.put (BB.puts ((ml.map (·.2)).take j)) (ml.getD j (0,0)).2:=by
   rw[List.take_add_one,ZQ,Z1 il]
   show BB.puts (_++[(ml[j]).2])=_
   rw[BB.Tb,Z4,Z1 il];rfl
  exact⟨l',ys',s4.trans s5,h5,by rw[es];exact rw5,_,_,rfl⟩
 obtain⟨dd,yd,s4,hdd,rwd,o5,o6,rfl⟩:=hp
 have ek:(ml.map (·.2)).take ys.length=ml.map (·.2):=by rw[zm,<-km,W7]
 rw[ek]at rwd
 have tab:BB.Wv 100 (BB.puts (ml.map (·.2))):=by
  have:=BB.VS ys.length (ml.map (·.2))
  rw[ek]at this
  exact this.mono (by omega)
 have r13:=r12.same s4
 have h13:=s4 _ _ h12
 have pr13:=Xo pr12 fun q xs e=>s4 _ _ e
 clear r12 h12 pr12 s4 s3 f3 ek
 have t13:=rw_at r13
 obtain⟨ini,l,el⟩:∃ini l,row=ini++[l]:=⟨row.dropLast,row.getLast nr.ne,(List.dropLast_concat_getLast nr.ne).symm⟩
 have atl:atI (row.map V.int) (-1)=some (.int l):=by rw[el,ZB];exact at_end _ _
 have at0:atI (row.map V.int) 0=some (.int (row.headD 0)):=by
  have ne:=nr.ne
  cases row with
  |nil=>exact absurd rfl ne
  |cons p r=>exact(show atI ((p::r).map V.int) ((0:Nat):Int)=some (.int p) from Zj rfl)
 have lh:=nr.sp l (by rw[el];simp)
 refine⟨_,rfl,?_⟩
 refine⟨_,rfl,t,_,rfl,.inr (Y0.of t13),_,_,rfl,rfl,_,rfl,?_⟩
 rw[Z2]
 by_cases c12:row.length<12
 case' pos=>
  rw[decide_eq_true (show(row.length:Int)<12 by omega)]
  refine iteT ⟨_,rfl,_,rfl,t,_,_,_,rfl,rfl,Y0.of t13,atl,_,rfl,t,_,_,_,rfl,rfl,Y0.of t13,at0,_,_,rfl,rfl,_,_,rfl,rfl,_,rfl,?_⟩
  rw[decide_eq_true (show l - row.headD 0<199 by omega)]
  refine iteT ⟨_,rfl,_,rfl,t,_,_,_,rfl,rfl,Y0.of t13,at0,_,_,rfl,rfl,(by show 1<=sizeLine;decide),fun p14 hp14=>?_⟩
  have s14:=Z9 hp14 (.tup [.int (row.headD 0+199)])
  refine⟨t,p14,_,_,rfl,rfl,s14 _ _ t13,Z5,by rw[Z2,sizeLine_eq];show _+1<=_;omega,fun p15 H15 s15 h15=>?_⟩
  have hw:H15 p15=some (.tup ((row++[row.headD 0+199]).map V.int)):=by rw[h15,ZB];rfl
  have nw:=nr.wide c12
  obtain⟨wd,ew⟩:∃z,z=row++[row.headD 0+199]:=⟨_,rfl⟩
  rw[<-ew]at hw nw
  have S15:=s14.trans s15
  have r15:=r13.same S15
  have m15:=S15 _ _ h13
  have pr15:=Xo pr13 fun q xs e=>S15 _ _ e
  have hd15:=S15 _ _ hdd
  have rw15:=rwd.same S15
  clear s14 s15 S15 h15
 case' neg=>
  rw[decide_eq_false (show ¬(row.length:Int)<12 by omega)]
  refine iteF (iteF ?_)
  have hw:=t13
  have nw:Near row:=⟨nr.ro.len,nr.ro.up,fun p hp=>by have:=nr.ro.bd p hp;omega⟩
  obtain⟨wd,ew⟩:∃z,z=row:=⟨_,rfl⟩
  rw[<-ew]at hw nw
  have r15:=r13
  have m15:=h13
  have pr15:=pr13
  have hd15:=hdd
  have rw15:=rwd
 all_goals
  clear r13 h13 pr13 hdd rwd
  -- staying,told twice
  refine⟨r15.tb,fun f0 G2 L=>⟨_,rfl,f0,G2,_,rfl,L,ZR.refl _,?_⟩⟩
  have k16:∀{c:Addr} {o:HO},_->(∀ps,o≠.tbl ps)->G2 c=some o:=fun{c o} e n=>L.grow c o (Yj r15.tb e n) e
  have r16:=r15.lam L.grow L.tab
  have m16:=k16 m15 fun _ z=>nomatch z
  have pr16:=Xo pr15 fun p xs e=>k16 e fun _ z=>nomatch z
  have hd16:=k16 hd15 fun _ z=>nomatch z
  have rw16:=rw15.keep fun p xs e=>k16 e fun _ z=>nomatch z
  have hw16:=k16 hw fun _ z=>nomatch z
  clear k16 r15 m15 pr15 hd15 rw15 hw
  have few:=tab.few
  refine⟨_,rfl,l8,ys,ml,rfl,m16,pr16,yl,fun l2 ls H3 s3 n3 h3 rl=>?_⟩
  refine⟨l2,ls,rfl,s3,n3,h3,by rw[rl.1];omega,Wq (sm_rows tab h3 (s3 _ _ hd16) rl (rw16.same s3)),fun H4 e s4 he=>?_⟩
  have s5:ZR G2 (upd H4 l2 (.lst (ls++[.ref e]))):=fun c o hc=>by rw[ZS (ZP hc n3)];exact s4 _ _ (s3 _ _ hc)
  generalize upd H4 l2 (.lst (ls++[.ref e]))=G5 at s5 ⊢
  refine⟨_,rfl,l8,ys,ml,rfl,s5 _ _ m16,Xo pr16 fun p xs e=>s5 _ _ e,yl,fun l4 ls4 H6 s6 n6 h6 rl6=>?_⟩
  have s56:=s5.trans s6
  refine⟨Wq (sm_rows tab h6 (s56 _ _ hd16) rl6 (rw16.same s56)),fun H7 s7=>⟨_,rfl,iteF ?_⟩⟩
  have S7:=s56.trans s7
  have r17:=r16.same S7
  have hw17:=S7 _ _ hw16
  clear r16 m16 pr16 hd16 rw16 hw16 s3 n3 h3 rl s4 he s5 s6 n6 h6 rl6 s56 s7 S7
  -- loads,told twice
  refine⟨r17.tb,fun f1 G8 L2=>?_⟩
  have hw18:=L2.grow _ _ (Yj r17.tb hw17 fun _ z=>nomatch z) hw17
  have r18:=r17.lam L2.grow L2.tab
  have ll:=ldl_len nw
  refine⟨_,rfl,_,_,rfl,hw18,nw,fun rd H9 s9 n9 h9=>⟨f1,G8,_,rfl,L2,s9,?_⟩⟩
  have hw19:=s9 _ _ hw18
  refine⟨_,rfl,_,_,rfl,hw19,nw,fun ra H10 s10 n10 h10=>?_⟩
  refine⟨ra,_,rfl,s10,n10,h10,by rw[Z2];omega,Wq (Wq (Wj (by omega) (.inr ⟨h10,s10 _ _ h9⟩))),fun H11 e s11 he=>?_⟩
  have s12:ZR H9 (upd H11 ra (.lst ((ldl wd).map V.int++[.ref e]))):=fun c o hc=>by rw[ZS (ZP hc n10)];exact s11 _ _ (s10 _ _ hc)
  generalize upd H11 ra (.lst ((ldl wd).map V.int++[.ref e]))=G12 at s12 ⊢
  refine⟨_,rfl,_,_,rfl,s12 _ _ hw19,nw,fun rb H13 s13 n13 h13=>⟨Wq (Wq (Wj (by omega) (.inr ⟨h13,s13 _ _ (s12 _ _ h9)⟩))),fun H14 s14=>⟨_,rfl,iteF ?_⟩⟩⟩
  have r19:=r18.same (s9.trans (s12.trans (s13.trans s14)))
  clear r17 r18 hw17 hw18 hw19 s9 s10 s11 s12 s13 s14 n9 n10 n13 h9 h10 h13 he ll
  -- what is refused
  refine⟨by decide,fun e0' g0=>⟨by decide,fun e1' g1=>⟨by decide,fun e2' g2=>⟨by decide,fun e3' g3=>⟨by decide,fun e4' g4=>⟨(by show 5<=sizeLine;decide),fun pl hpl=>?_⟩⟩⟩⟩⟩⟩
  have q1:=Z9 g1 (Xe e1' c1)
  have q2:=Z9 g2 (Xe e2' c2)
  have q3:=Z9 g3 (Xe e3' c3)
  have q4:=Z9 g4 (Xe e4' c4)
  have al:∀(i:Nat) (x:V),[V.ref e0',V.ref e1',V.ref e2',V.ref e3',V.ref e4'][i]?=some x->∃e C bm,x=.ref e/\(upd (upd (upd (upd (upd H14 e0' (Xe e0' c0)) e1' (Xe e1' c1)) e2' (Xe e2' c2)) e3' (Xe e3' c3)) e4' (Xe e4' c4)) e=some (Xe e C)/\Vx K C bm/\YK K (.ref C) (.ref b)=some true:=fun i x h=>by
   match i with
   |0=>cases h;exact⟨_,_,_,rfl,q4 _ _ (q3 _ _ (q2 _ _ (q1 _ _ Z5))),e0,ki _ (by simp)⟩
   |1=>cases h;exact⟨_,_,_,rfl,q4 _ _ (q3 _ _ (q2 _ _ Z5)),e1,ki _ (by simp)⟩
   |2=>cases h;exact⟨_,_,_,rfl,q4 _ _ (q3 _ _ Z5),e2,ki _ (by simp)⟩
   |3=>cases h;exact⟨_,_,_,rfl,q4 _ _ Z5,e3,ki _ (by simp)⟩
   |4=>cases h;exact⟨_,_,_,rfl,Z5,e4,ki _ (by simp)⟩
   |i+5=>cases h
  have r20:=r19.same ((Z9 g0 (Xe e0' c0)).trans (q1.trans (q2.trans (q3.trans q4))))
  clear q1 q2 q3 q4 g1 g2 g3 g4
  generalize(upd (upd (upd (upd (upd H14 e0' (Xe e0' c0)) e1' (Xe e1' c1)) e2' (Xe e2' c2)) e3' (Xe e3' c3)) e4' (Xe e4' c4))=G4 at al r20 hpl ⊢
  have sA:=Z9 hpl (.lst [V.ref e0',V.ref e1',V.ref e2',V.ref e3',V.ref e4'])
  have hA:(upd G4 pl (.lst [V.ref e0',V.ref e1',V.ref e2',V.ref e3',V.ref e4'])) pl=some (.lst [V.ref e0',V.ref e1',V.ref e2',V.ref e3',V.ref e4']):=Z5
  refine⟨_,rfl,pl,rfl,⟨_,Zp.of Z5⟩,fun D3 hD3=>?_⟩
  refine Yr 5 (by decide) (fun _=>true) (fun i=>[V.ref e0',V.ref e1',V.ref e2',V.ref e3',V.ref e4'].getD i .non) (fun σ=>∃o1,σ=[o1]) _ hD3 (by exact⟨_,rfl⟩) (YA hA) (fun i x σ' G hi s im hσ R S hR hS=>?_) (fun H20 s20 hD20=>?_)
  ·obtain⟨o1,rfl⟩:=hσ
   have im':=im
   obtain⟨e,C',bm,rfl,he,F',kk⟩:=al i x im
   refine⟨_,rfl,e,C',bm,.ref b,true,rfl,s _ _ (sA _ _ he),F',.inl ⟨b,rfl,kk⟩,true,rfl,iteT ⟨_,rfl,hR rfl _ _ _ ⟨_,rfl⟩ (ZR.refl _) ?_⟩⟩
   rw[Z4,im']
   rfl
  ·refine⟨D3,_,rfl,.inl (Zp.of hD20),rfl,?_⟩
   rw[Z2,show(List.filter (fun _:Nat=>true) (List.range 5)).length=5 from rfl,decide_eq_true (show V.int ((5:Nat):Int)=V.int 5 from rfl)]
   exact q H20 (r20.same (sA.trans s20))
end
end K97
namespace L2
def W2 (K:W.Frag)(x:Str)(st:Stmt):Prop:=∃(f:Addr) (fd:FuncData),PySem.W.nsIn K mainGlobals x=some (some (.ref f))/\XH K x x st f fd
theorem din {K:W.Frag}{x:Str}{st:Stmt}{f:Addr}{oc kV doc pm cdv ct:Value}{od an:Option Addr}{osl:Array (Option Value)}(a:PySem.W.nsIn K mainGlobals x=some (some (.ref f)))(l:K.lookup f=some ⟨oc,od,.func (PySem.W.fnOf x x (W1 st) (XM st) (ZY st) .none kV doc pm an cdv ct),osl⟩)(c:codeIn K cdv x=true)(k:Um K (.ref f)=true):W2 K x st:=⟨f,_,a,fun_mk l c k⟩
theorem W2.has {P:Program}{w:World}{K:W.Frag}{mg:Str->Option Value}{base h:Heap}{x:Str}{st:Stmt}{ps:List Str}{sp:Sp}{lv:Nat}(d:W2 K x st)(X:K.In h)(G:h.Ns mainGlobals mg)(ok:∀{f:Addr} {fd:FuncData},XH K x x st f fd->Y6 P w K mg base XB lv f fd ps sp)(hb:∀(kV doc pm:Value) (an:Option Addr) (cdv ct:Value) (us:List Value),us.length=ps.length->bindArgs (PySem.W.fnOf x x (W1 st) (XM st) (ZY st) .none kV doc pm an cdv ct) ⟨us,[]⟩=pure (ps.zip us):=by
  intro _ _ _ _ _ _ us hl
  first
   |exact(match us,hl with | [_],_=>rfl)
   |exact(match us,hl with | [_,_],_=>rfl)
   |exact(match us,hl with | [_,_,_],_=>rfl)
   |exact(match us,hl with | [_,_,_,_],_=>rfl)):YR P w K mg base lv x ps sp:=by
 obtain⟨f,fd,a,F⟩:=d
 exact⟨f,fd,ok F,UO X G a,F.kp,F.binds hb⟩
theorem law_callTs {P:Program}{w:World}{K:W.Frag}{mg mb:Str->Option Value}{k:Nat}{fa a:Addr}{Ts:List Addr}{fd:FuncData}{x:Str}{sp:Sp}{s₁:Shared}{vs:List Value}{ns:List Int}{R:Result->Shared->Prop}(KX:K.In s₁.heap)(hns:s₁.heap.Ns mainGlobals mg)(hb:s₁.heap.Ns builtinsNs mb)(hbb:∀x:Str,x≠"__name__"->mb x=bootBuiltins x)(hlim:s₁.heap.NoLimit)(hg:s₁.gens=#[])(B:VO mg s₁.heap)(hKT:∀T∈Ts,K.lookup T=none)(hT:∀T∈Ts,s₁.heap.get? T=some (tabObj #[]))(C:∀T∈Ts,∃c,codeHdIn K c T=true)(ha:s₁.heap.get? a=some {cls:=.type "list",data:=.seq vs.toArray})(hi:IntsAre vs ns)(hl:ns.length<=sizeLine)(hr:Xv k callerA)(F:∀base:Heap,K.In base->base.Ns mainGlobals mg->VO mg base->Y6 P w K mg base XB k fa fd [x] sp)(hbind:BindsTo s₁ fd ⟨[.ref a],[]⟩ [(x,.ref a)])(hsp:∀H:Hp,(∀T∈Ts,H T=some (.tbl #[]))->Zp K H a (ns.map V.int)->sp [.ref a] H (fun v _=>v=.bl true) E0)(hR:∀s',OldK s₁.heap s'.heap->s'.os=s₁.os->AllBare s'.gens->R (.ok (.ret (.bool true))) s'):codeAny (model P w) callerA (.call (.ref fa) ⟨[.ref a],[]⟩) R s₁:=by
 have aT:a∉Ts:=fun z=>by rw[hT a z]at ha;cases ha
 obtain⟨S,H,hS,tT,sq,hok,only⟩:∃(S:List Addr) (H:Hp),(∀b,H b=none↔b∉S)/\(∀T∈Ts,H T=some (.tbl #[]))/\Zp K H a (ns.map V.int)/\VC P w H s₁.heap/\∀b∈S,K.lookup b=none/\(b∈Ts\/b=a/\∃o u,H a=some (.frz o u)):=by
  have okT:∀T∈Ts,∀H,YG P w H s₁.heap T (.tbl #[]):=fun T h _=>hT T h
  cases hk:K.lookup a with
  |some o=>
   have e:=KX a o hk
   rw[ha]at e
   cases e
   refine⟨Ts,fun b=>if b∈Ts then some (.tbl #[]) else none,fun b=>?_,fun T h=>if_pos h,.inr ⟨_,vs.toArray,_,hk,rfl,rfl,rfl,by rw[ZF,hi.length];exact hl,by simpa using U1 hi⟩,fun b u z=>?_,fun b hb=>⟨hKT b hb,.inl hb⟩⟩
   ·by_cases z:b∈Ts
    ·simp[z]
    ·simp[z]
   ·by_cases q:b∈Ts
    ·have z':(if b∈Ts then some (HO.tbl #[]) else none)=some u:=z
     rw[if_pos q]at z'
     cases z'
     exact okT b q _
    ·have z':(if b∈Ts then some (HO.tbl #[]) else none)=some u:=z
     rw[if_neg q]at z'
     cases z'
  |none=>
   obtain⟨H,hH⟩:∃H:Hp,H=fun b=>if b∈Ts then some (.tbl #[]) else if b=a then some (.frz {cls:=.type "list",data:=.seq vs.toArray} (.lst (ns.map V.int))) else none:=⟨_,rfl⟩
   have hHT:∀T∈Ts,H T=some (.tbl #[]):=fun T h=>by rw[hH];exact if_pos h
   have hHa:H a=some (.frz {cls:=.type "list",data:=.seq vs.toArray} (.lst (ns.map V.int))):=by rw[hH];exact(if_neg aT).trans (if_pos rfl)
   have hHn:∀b,b∉Ts->b≠a->H b=none:=fun b h1 h2=>by rw[hH];exact(if_neg h1).trans (if_neg h2)
   refine⟨a::Ts,H,fun b=>?_,hHT,.inl (.inr ⟨_,hHa⟩),fun b u z=>?_,fun b hb=>?_⟩
   ·by_cases z:b∈Ts
    ·rw[hHT b z];simp[z]
    ·by_cases z2:b=a
     ·subst z2;simp[hHa]
     ·rw[hHn b z z2];simp[z,z2]
   ·by_cases q:b∈Ts
    ·rw[hHT b q]at z;cases z;exact okT b q _
    ·by_cases q2:b=a
     ·subst q2
      rw[hHa]at z
      cases z
      exact⟨ha,by rw[Z2];exact hl,vs,_,U1 hi,ha⟩
     ·rw[hHn b q q2]at z;cases z
   ·rcases ZV.mp hb with rfl | hb
    ·exact⟨hk,.inr ⟨rfl,_,_,hHa⟩⟩
    ·exact⟨hKT b hb,.inl hb⟩
 have inB:∀{b:Addr} {o:Obj},s₁.heap.get? b=some o->(∀ps,o≠tabObj ps)->(∀its n,o.data≠.seq its n)->(Ya S s₁.heap).get? b=some o:=fun{b o} e h1 h2=>by
  rw[XE]
  ·exact e
  ·intro z
   rcases(only b z).2 with q | ⟨q,_⟩
   ·rw[hT b q]at e;exact h1 _ (Option.some.inj e).symm
   ·rw[q,ha]at e;cases e;exact h2 _ _ rfl
 have nsB:∀{b:Addr} {m:Str->Option Value},s₁.heap.Ns b m->(Ya S s₁.heap).Ns b m:=fun{b m} ⟨o,es,ep,e,d,r⟩=>
  ⟨o,es,ep,inB e (fun ps z=>by rw[z]at d;cases d) (fun _ _ z=>by rw[d]at z;cases z),d,r⟩
 have kB:K.In (Ya S s₁.heap):=fun b o e=>by
  rw[XE]
  ·exact KX b o e
  ·intro z
   rw[(only b z).1]at e;cases e
 have bB:VO mg (Ya S s₁.heap):=let⟨bm,o,b1,b2,b3,b4,b5,b6,b7⟩:=B
  ⟨bm,o,b1,b2,b3,inB b4 (fun ps z=>by rw[z]at b7;cases b7) (fun _ _ z=>by rw[b7]at z;cases z),b5,b6,b7⟩
 have e0:Env0 P w K mg (Ya S s₁.heap) callerA [] s₁ H:=
  ⟨rfl,⟨kB,nsB hns,⟨mb,nsB hb,hbb⟩,let⟨mc,h1,h2⟩:=hlim;⟨mc,nsB h1,h2⟩⟩,fun b o e=>⟨(UV e).2,(hS b).mpr (UV e).1⟩,Nat.le_of_eq (ST _ _),trivial,fun b z=>(nomatch z),hok,.of_eq hg⟩
 refine codeAny_mono ((F _ kB (nsB hns) bB).run callerA [] s₁ H ⟨[.ref a],[]⟩ [.ref a] [.ref a] _ _ hr e0 hbind (.cons rfl .nil) (hsp H tT sq)) fun r s' h=>?_
 cases r with
 |error e=>exact False.elim h
 |ok fl=>
  cases fl with
  |next=>exact False.elim h
  |brk=>exact False.elim h
  |cont=>exact False.elim h
  |ret u=>
   obtain⟨v,H',os,bare,un,hok',r',q⟩:=h
   obtain rfl:v=.bl true:=q
   obtain rfl:u=Value.bool true:=r'
   refine hR s' ⟨fun b o e=>?_,fun b o e=>un.there b o e (by simp)⟩ os bare
   by_cases z:b∈S
   ·rcases(only b z).2 with y | ⟨y,o2,u2,y2⟩
    ·rw[hT b y]at e
     cases e
     obtain⟨more,m1⟩:=un.tbls _ _ (tT b y)
     obtain⟨c,hc⟩:=C b y
     exact .inr (.inl ⟨((codeHd_of_K KX hc).tab (hT b y)).isCodeTable,rfl,#[],more,rfl,hok' _ _ m1⟩)
    ·subst y
     have e1:=(hok _ _ y2).1
     rw[e]at e1
     cases e1
     exact .inl (hok' _ _ (un.frzs _ _ _ y2)).1
   ·exact .inl (un.keep b o e ((hS b).mpr z) (fun y=>nomatch y) (by simp))
theorem walk_ofTs {l:PySem.W.OpenLaw}{n k:Nat}{q:Program}{loose:List Str}{XP:(Str->Option Value)->Heap->Prop}{YP:World->Heap->Prop}{d:DefRec}{K:Params->W.Frag}{sp:World->Sp}{x:Str}{Ts:List Addr}(hn:l.most=some n)(hn2:n<=sizeLine)(hdf:d.params.defaults=[])(hr:Xv k callerA)(hY:∀(w:World) (h:Heap),YP w h->(K w.params).In h/\∀T∈Ts,h.get? T=some (tabObj #[]))(F:∀(w:World) (mg:Str->Option Value) (fa:Addr) (h:Heap),(K w.params).In h->h.Ns mainGlobals mg->mg d.name=some (.ref fa)->
  ∃(fd:FuncData),(∀(s:Shared) (u:Value),BindsTo s fd ⟨[u],[]⟩ [(x,u)])/\(∀T∈Ts,(K w.params).lookup T=none)/\(∀T∈Ts,∃c,codeHdIn (K w.params) c T=true)/\
   ∀base:Heap,(K w.params).In base->base.Ns mainGlobals mg->VO mg base->Y6 l.prog w (K w.params) mg base XB k fa fd [x] (sp w))(hsp:∀(w:World) (H:Hp) (a:Addr) (ns:List Int),ns.length<=n->(∀T∈Ts,H T=some (.tbl #[]))->Zp (K w.params) H a (ns.map V.int)->sp w [.ref a] H (fun v _=>v=.bl true) E0) :
 PySem.W.WalkO q loose XP YP l.row.toRowW d [] (fun f vs=>PySem.call f vs):=by
 refine Att.attach_call hn hdf fun w s₀ s₁ mg mb fa o pm cd doc a vs ns G Y ho hd hcd hmg hobj hints hlen hg=>?_
 obtain⟨KX,hT⟩:=hY w _ Y
 obtain⟨fd,hb,k1,k2,hF⟩:=F w mg fa _ KX G.T.g hmg
 obtain⟨bm,ob,b1,b2,b3,b4,b5,b6⟩:=G.T.bmain
 have b7:bm≠mainGlobals:=fun z=>by
  obtain⟨u,es,ep,e,hd,_⟩:=G.T.g
  rw[z,e]at b3
  cases b3
  rw[hd]at b6
  cases b6
 exact law_callTs KX G.T.g G.T.b G.T.builtins G.T.nolimit hg ⟨bm,ob,b1,b2,b7,b3,b4,b5,b6⟩ k1 hT k2 hobj hints (Nat.le_trans hlen hn2) hr hF (hb _ _) (fun H h1 h2=>hsp w H a ns hlen h1 h2) fun s' h1 h2 h3=>⟨rfl,h1,h2,h3⟩
section
variable {P:Program}{w:World}{K:W.Frag}{mg:Str->Option Value}{base h:Heap}{x px:Str}{st:Stmt}{ps:List Str}{sp:Sp}{lv k c:Nat}{R:VK->VK}{Ec:VK->XK}
theorem W2.hasE (d:W2 K x st)(X:K.In h)(G:h.Ns mainGlobals mg)(ok:∀{f:Addr} {fd:FuncData},XH K x x st f fd->Y6 P w K mg base (CXF P w) lv f fd ps sp)(hb:∀(kV doc pm:Value) (an:Option Addr) (cdv ct:Value) (us:List Value),us.length=ps.length->bindArgs (PySem.W.fnOf x x (W1 st) (XM st) (ZY st) .none kV doc pm an cdv ct) ⟨us,[]⟩=pure (ps.zip us):=by
  intro _ _ _ _ _ _ us hl
  first
   |exact(match us,hl with | [_],_=>rfl)
   |exact(match us,hl with | [_,_],_=>rfl)
   |exact(match us,hl with | [_,_,_],_=>rfl)):HasE P w K mg base lv x ps sp:=by
 obtain⟨f,fd,a,F⟩:=d
 exact⟨f,fd,ok F,UO X G a,F.kp,F.binds hb⟩
theorem W2.hasR (d:W2 K x st)(X:K.In h)(G:h.Ns mainGlobals mg)(ok:∀{f:Addr} {fd:FuncData},XH K x x st f fd->∀base,Y6 P w K mg base XB lv f fd [px] (spRef P w K mg base k R Ec))(hb:∀(kV doc pm:Value) (an:Option Addr) (cdv ct:Value) (us:List Value),us.length=[px].length->bindArgs (PySem.W.fnOf x x (W1 st) (XM st) (ZY st) .none kV doc pm an cdv ct) ⟨us,[]⟩=pure ([px].zip us):=by
  intro _ _ _ _ _ _ us hl
  exact(match us,hl with | [_],_=>rfl)):HasR P w K mg lv k x px R Ec:=by
 obtain⟨f,fd,a,F⟩:=d
 exact⟨f,fd,ok F,UO X G a,F.kp,F.binds hb⟩
def DinC (K:W.Frag)(x:Str)(st:Stmt)(c:Addr):Prop:=∃(f:Addr) (fd:FuncData),PySem.W.nsIn K mainGlobals x=some (some (.ref f))/\XH K x x st f fd/\fd.code=.ref c
theorem dinC {c f:Addr}{oc kV doc pm ct:Value}{od an:Option Addr}{osl:Array (Option Value)}(a:PySem.W.nsIn K mainGlobals x=some (some (.ref f)))(l:K.lookup f=some ⟨oc,od,.func (PySem.W.fnOf x x (W1 st) (XM st) (ZY st) .none kV doc pm an (.ref c) ct),osl⟩)(cc:codeIn K (.ref c) x=true)(k:Um K (.ref f)=true):DinC K x st c:=⟨f,_,a,fun_mk l cc k,rfl⟩
theorem DinC.has {c:Addr}(d:DinC K x st c)(X:K.In h)(G:h.Ns mainGlobals mg)(ok:∀{f:Addr} {fd:FuncData},XH K x x st f fd->fd.code=.ref c->Y6 P w K mg base XB lv f fd ps sp)(hb:∀(kV doc pm:Value) (an:Option Addr) (cdv ct:Value) (us:List Value),us.length=ps.length->bindArgs (PySem.W.fnOf x x (W1 st) (XM st) (ZY st) .none kV doc pm an cdv ct) ⟨us,[]⟩=pure (ps.zip us):=by
  intro _ _ _ _ _ _ us hl
  first
   |exact(match us,hl with | [_],_=>rfl)
   |exact(match us,hl with | [_,_],_=>rfl)
   |exact(match us,hl with | [_,_,_],_=>rfl)):YR P w K mg base lv x ps sp:=by
 obtain⟨f,fd,a,F,hc⟩:=d
 exact⟨f,fd,ok F hc,UO X G a,F.kp,F.binds hb⟩
def XIn (K:W.Frag)(x:Str)(k:Addr)(bm:List Value):Prop:=PySem.W.nsIn K mainGlobals x=some (some (.ref k))/\Exc K k bm
theorem xin {k N:Addr}{nm qq:Str}{bs bm sb:List Value}{hd ab:Bool}{sn:List Str}{co:Option Bool}{dd:Option Addr}{w0 w1 w2 w3 w5:Option Value}(a:PySem.W.nsIn K mainGlobals x=some (some (.ref k)))(lk:K.lookup k=some (excClassObj nm qq k N bs bm hd sn sb ab co dd w0 w1 w2 w3 w5 "ValueError.__new__"))(no:nsOkIn K N=true)(ni:PySem.W.nsIn K N "__init__" = some none)(tl:tailIn K mroV bm=true)(cb:bm.contains (.type "BaseException")=true)(cv:bm.contains (.type "ValueError")=true):XIn K x k bm:=
 ⟨a,⟨⟨_,_,_,_,_,_,_,_,_,_,_,_,_,_,_,lk,no,ni⟩,tl,cb,cv⟩⟩
end
theorem W2.hasA {P:Program}{w:World}{K:W.Frag}{mg:Str->Option Value}{h:Heap}{x px py:Str}{st:Stmt}{lv k:Nat}{S:Hp->V->V->Prop}(d:W2 K x st)(X:K.In h)(G:h.Ns mainGlobals mg)(ok:∀{f:Addr} {fd:FuncData},XH K x x st f fd->∀base,Y6 P w K mg base XB lv f fd [px,py] (spAgain S P w K mg base k))(hb:∀(kV doc pm:Value) (an:Option Addr) (cdv ct:Value) (us:List Value),us.length=[px,py].length->bindArgs (PySem.W.fnOf x x (W1 st) (XM st) (ZY st) .none kV doc pm an cdv ct) ⟨us,[]⟩=pure ([px,py].zip us):=by
  intro _ _ _ _ _ _ us hl
  exact(match us,hl with | [_,_],_=>rfl)):HasA S P w K mg lv k x px py:=by
 obtain⟨f,fd,a,F⟩:=d
 exact⟨f,fd,ok F,UO X G a,F.kp,F.binds hb⟩
end L2
namespace K97
open L2
def spLaw (K:W.Frag)(T TF TS:Addr):Sp:=fun vs H Q _=>∃(a:Addr) (ns:List Int),vs=[.ref a]/\Zp K H a (ns.map V.int)/\ns.length<=63/\H T=some (.tbl #[])/\H TF=some (.tbl #[])/\H TS=some (.tbl #[])/\T≠TF/\T≠TS/\TF≠TS/\∀H',Q (.bl true) H'
theorem U3 {q:Str}{H H':Hp}{T:Addr}(t:Wv q H T)(hT:∀o,H T=some o->H' T=some o)(hx:∀x o u,H x=some (.frz o u)->H' x=some (.frz o u)):Wv q H' T:=by
 obtain⟨l,e,h⟩:=t
 refine⟨l,hT _ e,fun x m=>?_⟩
 obtain⟨oc,vs,t,a,b⟩:=h x m
 exact⟨oc,vs,t,hx _ _ _ a,b⟩
structure Al3 (T TF TS:Addr)(H0 H:Hp):Prop where
 kp:∀c o,c≠T->c≠TF->c≠TS->H0 c=some o->H c=some o
 tr:Wv RQ H T
 tf:Wv FQ H TF
 ts:Wv SQ H TS
 n1:T≠TF
 n2:T≠TS
 n3:TF≠TS
section
variable {T TF TS r:Addr}{b:Bool}{H0 H H':Hp}
theorem Al3.same (w:Al3 T TF TS H0 H)(s:ZR H H'):Al3 T TF TS H0 H':=⟨fun c o n1 n2 n3 h=>s _ _ (w.kp c o n1 n2 n3 h),w.tr.same s,w.tf.same s,w.ts.same s,w.n1,w.n2,w.n3⟩
theorem Al3.trans (w:Al3 T TF TS H0 H)(v:Al3 T TF TS H H'):Al3 T TF TS H0 H':=⟨fun c o n1 n2 n3 h=>v.kp c o n1 n2 n3 (w.kp c o n1 n2 n3 h),v.tr,v.tf,v.ts,w.n1,w.n2,w.n3⟩
theorem Al3.seq {K:W.Frag}{a:Addr}{xs:List V}{p1 p2 p3:Array Value}(w:Al3 T TF TS H0 H)(h1:H0 T=some (.tbl p1))(h2:H0 TF=some (.tbl p2))(h3:H0 TS=some (.tbl p3))(sq:Zp K H0 a xs):Zp K H a xs:=by
 have go:∀{o:HO},H0 a=some o->(∀ps,o≠.tbl ps)->H a=some o:=fun{o} h n=>w.kp a o (fun z=>by rw[z,h1]at h;exact n _ (Option.some.inj h).symm) (fun z=>by rw[z,h2]at h;exact n _ (Option.some.inj h).symm) (fun z=>by rw[z,h3]at h;exact n _ (Option.some.inj h).symm) h
 rcases sq with(h | ⟨o,h⟩) | h
 ·exact .inl (.inl (go h fun _ z=>nomatch z))
 ·exact .inl (.inr ⟨o,go h fun _ z=>nomatch z⟩)
 ·exact .inr h
structure Tn (T TF TS r:Addr)(b:Bool)(H0 H:Hp):Prop where
 al:Al3 T TF TS H0 H
 st:∃x,Wl H r x b
 rn:H0 r=none
theorem Tn.near (w:Tn T TF TS r b H0 H)(k:WB r H H'){x:Int}(s:Wl H' r x b):Tn T TF TS r b H0 H':=by
 obtain⟨x0,e⟩:=w.st
 exact⟨⟨fun c o n1 n2 n3 h=>k c o (ZP h w.rn) (w.al.kp c o n1 n2 n3 h),Vt w.al.tr e.1 k,Vt w.al.tf e.1 k,Vt w.al.ts e.1 k,w.al.n1,w.al.n2,w.al.n3⟩,⟨x,s⟩,w.rn⟩
theorem Tn.row (w:Tn T TF TS r b H0 H)(k:WB T H H')(t:Wv RQ H' T):Tn T TF TS r b H0 H':=by
 obtain⟨x0,e⟩:=w.st
 have fz:∀x o u,H x=some (.frz o u)->H' x=some (.frz o u):=fun x o u h=>k _ _ (Yj w.al.tr h fun _ z=>nomatch z) h
 exact⟨⟨fun c o n1 n2 n3 h=>k c o n1 (w.al.kp c o n1 n2 n3 h),t,U3 w.al.tf (fun o h=>k _ _ w.al.n1.symm h) fz,U3 w.al.ts (fun o h=>k _ _ w.al.n2.symm h) fz,w.al.n1,w.al.n2,w.al.n3⟩,⟨x0,k _ _ (Yj w.al.tr e.1 fun _ z=>nomatch z) e.1,e.2⟩,w.rn⟩
theorem Tn.far (w:Tn T TF TS r b H0 H)(f:Uj FQ TF r b H H'):Tn T TF TS r b H0 H':=by
 obtain⟨x0,e⟩:=w.st
 have fz:∀x o u,H x=some (.frz o u)->H' x=some (.frz o u):=fun x o u h=>f.kp _ _ (Wc h e.1 (by intro z;cases z)) (Yj w.al.tf h fun _ z=>nomatch z) h
 have nt:∀{q:Str} {S:Addr},Wv q H S->S≠r:=fun t z=>Yj t e.1 (fun _ z=>nomatch z) z.symm
 exact⟨⟨fun c o n1 n2 n3 h=>f.kp c o (ZP h w.rn) n2 (w.al.kp c o n1 n2 n3 h),U3 w.al.tr (fun o h=>f.kp _ _ (nt w.al.tr) w.al.n1 h) fz,f.tb,U3 w.al.ts (fun o h=>f.kp _ _ (nt w.al.ts) w.al.n3.symm h) fz,w.al.n1,w.al.n2,w.al.n3⟩,f.st,w.rn⟩
theorem Tn.siz (w:Tn T TF TS r b H0 H)(f:Uj SQ TS r b H H'):Tn T TF TS r b H0 H':=by
 obtain⟨x0,e⟩:=w.st
 have fz:∀x o u,H x=some (.frz o u)->H' x=some (.frz o u):=fun x o u h=>f.kp _ _ (Wc h e.1 (by intro z;cases z)) (Yj w.al.ts h fun _ z=>nomatch z) h
 have nt:∀{q:Str} {S:Addr},Wv q H S->S≠r:=fun t z=>Yj t e.1 (fun _ z=>nomatch z) z.symm
 exact⟨⟨fun c o n1 n2 n3 h=>f.kp c o (ZP h w.rn) n3 (w.al.kp c o n1 n2 n3 h),U3 w.al.tr (fun o h=>f.kp _ _ (nt w.al.tr) w.al.n2 h) fz,U3 w.al.tf (fun o h=>f.kp _ _ (nt w.al.tf) w.al.n3 h) fz,f.tb,w.al.n1,w.al.n2,w.al.n3⟩,f.st,w.rn⟩
end
section
variable {P:Program}{w:World}{K:W.Frag}{mg:Str->Option Value}{base:Heap}{T TF TS:Addr}
theorem ok_law {f:Addr}{fd:FuncData}(F:XH K "law" "law" s_law f fd)(nb:Nb4 mg)(h_L_state:YR P w K mg base 2 "_law_state" ["_law_script","_law_k"] (spState K))(h_L_near:YR P w K mg base 2 "_law_near" ["_law_state_here"] spNw)(h_L_row_right:YR P w K mg base 7 "_law_row_right" ["_law_row"] (spRr T))(h_L_far_right:YR P w K mg base 7 "_law_far_right" ["_law_state_here"] (spFr TF))(h_L_sizes_right:YR P w K mg base 14 "_law_sizes_right" ["_law_state_here","_law_row"] (spSz TS))  :
 Y6 P w K mg base XB 15 f fd ["_law_script"] (spLaw K T TF TS):=by
 have nd:=sc_law.nd
 refine F.ok (k:=14) sc_law (fun vs H Q E h=>?_) (fun cdv A outer s H vs Q E hr h=>?_)
 ·obtain⟨a,ns,rfl,_⟩:=h
  rfl
 obtain⟨a,ns,rfl,hS,h63,hT,hF,hZ,n1,n2,n3,q⟩:=h
 refine⟨_,(Z7 (XV PassesOwn.never rfl (XQ rfl nb.range (Z0 (ZJ (UR rfl) rfl nb.max boot_max (Z0 ZZ (Z0 (ZJ (SI rfl) rfl nb.min boot_min (Z0 (ZJ Zx rfl nb.len PySem.boot_len (Z0 (pv 0) Z3)) (Z0 ZZ Z3))) Z3))) Z3)) (Zl (i:=1) nd rfl (Or.inl rfl))
(Z7 (ZH (i:=2) nd rfl (Or.inl rfl) (ZI h_L_state hr (Z0 (pv 0) (Z0 (pv 1) Z3))))
(Z7 (ZH (i:=3) nd rfl (Or.inl rfl) (ZI h_L_near hr (Z0 (pv 2) Z3)))
(ZX (YX (PW.pt (WR (Yx (Zo (ZI h_L_row_right hr (Z0 (pv 3) Z3)) (fun _=>rfl))) (WR (Yx (Zo (ZI h_L_far_right hr (Z0 (pv 2) Z3)) (fun _=>rfl))) (Xu (Yx (Zo (ZI h_L_sizes_right hr (Z0 (pv 2) (Z0 (pv 3) Z3))) (fun _=>rfl)))))))
(ZX (ZE Yk))
Zg)))))
(ZX (ZE Yk))),?_⟩
 refine⟨_,rfl,a,_,rfl,.inl hS,_,_,rfl,_,_,rfl,_,rfl,?_,?_,?_⟩
 ·split<;>split<;>omega
 ·split<;>split<;>omega
 refine Xw (fun i σ H'=>Al3 T TF TS H H'/\∃o1 o2 o3,σ=[some (.ref a),o1,o2,o3]) ⟨⟨fun _ _ _ _ _ h=>h,Wv.empty hT,Wv.empty hF,Wv.empty hZ,n1,n2,n3⟩,_,_,_,rfl⟩ (fun i σ H0 hi hp=>?_) (fun σ H0 hp=>?_)
 ·obtain⟨al,o1,o2,o3,rfl⟩:=hp
  refine⟨_,rfl,_,rfl,a,ns,_,rfl,al.seq hT hF hZ hS,by omega,fun r x b hr0 d=>?_⟩
  have s1:=Z9 hr0 (.lst [.int x,.bl b])
  have st1:Wl (upd H0 r (.lst [.int x,.bl b])) r x b:=Wl.upd d
  have w1:Tn T TF TS r b H0 (upd H0 r (.lst [.int x,.bl b])):=⟨(Al3.same ⟨fun _ _ _ _ _ h=>h,al.tr,al.tf,al.ts,n1,n2,n3⟩ s1),⟨x,st1⟩,hr0⟩
  generalize upd H0 r (.lst [.int x,.bl b])=G at st1 w1 ⊢
  refine⟨_,rfl,r,x,b,rfl,st1,fun rr row H2 x2 k2 st2 hrow nr=>?_⟩
  have w2:=w1.near k2 st2
  have rr1:rr≠r:=Wc hrow st2.1 (by intro z;cases z)
  refine⟨_,rfl,rr,row,rfl,hrow,nr,w2.al.tr,fun H3 k3 t3=>⟨_,rfl,iteF ?_⟩⟩
  have hrow3:=k3 _ _ (Yj w2.al.tr hrow fun _ z=>nomatch z) hrow
  have w3:=w2.row k3 t3
  refine⟨_,rfl,r,b,rfl,⟨fun _ _ _ _ h=>h,w3.al.tf,w3.st⟩,fun H4 f4=>⟨_,rfl,iteF ?_⟩⟩
  have hrow4:=f4.kp _ _ rr1 (Yj w3.al.tf hrow3 fun _ z=>nomatch z) hrow3
  have w4:=w3.far f4
  refine⟨_,rfl,_,rfl,r,rr,b,row,rfl,⟨fun _ _ _ _ h=>h,w4.al.ts,w4.st⟩,hrow4,nr,fun H5 f5=>⟨_,rfl,iteF ?_⟩⟩
  exact⟨al.trans (w4.siz f5).al,_,_,_,rfl⟩
 ·exact q _
end
end K97
namespace K97
open L2
theorem all_mk {l:PySem.W.OpenLaw}{w:World}{K:W.Frag}{h:Heap}{mg:Str->Option Value}{fa qR T qF TF qS TS kk b_ c0_ c1_ c2_ c3_ c4_:Addr}{bmb_ bmc0_ bmc1_ bmc2_ bmc3_ bmc4_:List Value}{u1 u2 u3 u4 u5:Value}{okk:Option Addr}{t1_ t2_ t3_:Tok}{nkk:Nat}{skk:Array (Option Value)}(X:K.In h)(G:h.Ns mainGlobals mg)(hfa:mg "law" = some (.ref fa))(d1:W2 K "is_number" Vl)(d2:W2 K "is_rising" Wh)(d3:W2 K "is_row" T7)(d4:W2 K "need_number" V3)(d5:W2 K "mirrored" VN)(d6:W2 K "carry" s_carry)(d7:W2 K "carry_back" VM)(d8:W2 K "carried" Th)(d9:W2 K "undone" s_undone)(d10:W2 K "loads" s_loads)(d11:W2 K "closed_up" WS)(d12:W2 K "peeled" Vm)(d13:W2 K "lengths_from" Xb)(d14:W2 K "lengths" Tk)(d15:W2 K "blocks_in" Xg)(d16:W2 K "runs_in" U7)(d17:W2 K "first_short" V4)(d18:W2 K "without_wave" Wp)(d19:W2 K "waves" s_waves)(d20:W2 K "is_free" Tj)(d21:W2 K "blocks" T8)(d22:W2 K "free_later" Xa)(d23:W2 K "until_free" WE)(d24:W2 K "steps_to_free" Xl)(d25:W2 K "is_ball" Ti)(d26:W2 K "is_motley" WT)(d27:W2 K "put_in" T6)(d28:W2 K "staying" U6)(d29:W2 K "_law_cell_at" Vj)(d30:W2 K "_law_state" Tf)(d31:W2 K "_law_take" s_L_take)(d32:W2 K "_law_refused" Wg)(d33:W2 K "_law_carried" Wf)(d34:W2 K "_law_turned" VL)(d35:W2 K "_law_undone" UC)(d36:W2 K "_law_blocks" UB)(d37:W2 K "_law_is_free" Vk)(d38:W2 K "_law_boxes" U8)(d39:W2 K "_law_runs" s_L_runs)(d40:W2 K "_law_due" TZ)(d41:W2 K "_law_same" T9)(d42:W2 K "_law_loads" Te)(d43:W2 K "_law_nearly_free" WG)(d44:W2 K "_law_put" s_L_put)(d45:W2 K "_law_near" s_L_near)(d46:W2 K "_law_lengths" XX)(d47:W2 K "_law_again" Td)(d48:W2 K "_law_steps" Tg)(d49:W2 K "law" s_law)(dR:DinC K "_law_row_right" Xp qR)(dF:DinC K "_law_far_right" XR qF)(dS:DinC K "_law_sizes_right" YF qS)(n1:PySem.W.nsIn K mainGlobals "MOST_BALLS" = some (some u1))(e1:Zb (.int 12) u1)(n2:PySem.W.nsIn K mainGlobals "FARTHEST" = some (some u2))(e2:Zb (.int 1000000000) u2)(n3:PySem.W.nsIn K mainGlobals "MOST_STEPS" = some (some u3))(e3:Zb (.int 1000000) u3)(n4:PySem.W.nsIn K mainGlobals "MOST_TO_FREE" = some (some u4))(e4:Zb (.int 60) u4)(n5:PySem.W.nsIn K mainGlobals "KINDS" = some (some u5))(e5:Zb (.ref kk) u5)(lk:K.lookup kk=some ⟨.type "tuple",okk,.seq #[.int 1 t1_,.int 2 t2_,.int 3 t3_] nkk,skk⟩)(xb_:XIn K "BallError" b_ bmb_)(xc0_:XIn K "NoNumber" c0_ bmc0_)(xc1_:XIn K "NotFree" c1_ bmc1_)(xc2_:XIn K "TooLong" c2_ bmc2_)(xc3_:XIn K "NoRow" c3_ bmc3_)(xc4_:XIn K "BadNote" c4_ bmc4_)(g1c0_:X7 K (.ref c0_) "__getattribute__" = some (some (.builtin "BaseException.__getattribute__")))(g2c0_:X7 K (.ref c0_) "__class__" = some (some (.builtin "object.__class__")))(g3c0_:X7 K (.ref c0_) "__getattr__" = some none)(g4c0_:subIn K (.ref c0_) (.type "BaseException")=some true)(g5c0_:subIn K (.ref c0_) (.type "object")=some true)(qbc0_:YK K (.ref c0_) (.ref b_)=some true)(g1c1_:X7 K (.ref c1_) "__getattribute__" = some (some (.builtin "BaseException.__getattribute__")))(g2c1_:X7 K (.ref c1_) "__class__" = some (some (.builtin "object.__class__")))(g3c1_:X7 K (.ref c1_) "__getattr__" = some none)(g4c1_:subIn K (.ref c1_) (.type "BaseException")=some true)(g5c1_:subIn K (.ref c1_) (.type "object")=some true)(qbc1_:YK K (.ref c1_) (.ref b_)=some true)(g1c2_:X7 K (.ref c2_) "__getattribute__" = some (some (.builtin "BaseException.__getattribute__")))(g2c2_:X7 K (.ref c2_) "__class__" = some (some (.builtin "object.__class__")))(g3c2_:X7 K (.ref c2_) "__getattr__" = some none)(g4c2_:subIn K (.ref c2_) (.type "BaseException")=some true)(g5c2_:subIn K (.ref c2_) (.type "object")=some true)(qbc2_:YK K (.ref c2_) (.ref b_)=some true)(g1c3_:X7 K (.ref c3_) "__getattribute__" = some (some (.builtin "BaseException.__getattribute__")))(g2c3_:X7 K (.ref c3_) "__class__" = some (some (.builtin "object.__class__")))(g3c3_:X7 K (.ref c3_) "__getattr__" = some none)(g4c3_:subIn K (.ref c3_) (.type "BaseException")=some true)(g5c3_:subIn K (.ref c3_) (.type "object")=some true)(qbc3_:YK K (.ref c3_) (.ref b_)=some true)(g1c4_:X7 K (.ref c4_) "__getattribute__" = some (some (.builtin "BaseException.__getattribute__")))(g2c4_:X7 K (.ref c4_) "__class__" = some (some (.builtin "object.__class__")))(g3c4_:X7 K (.ref c4_) "__getattr__" = some none)(g4c4_:subIn K (.ref c4_) (.type "BaseException")=some true)(g5c4_:subIn K (.ref c4_) (.type "object")=some true)(qbc4_:YK K (.ref c4_) (.ref b_)=some true)(q0c1_:YK K (.ref c1_) (.ref c0_)=some false)(q1c1_:YK K (.ref c1_) (.ref c1_)=some true)(q2c1_:YK K (.ref c1_) (.ref c2_)=some false)(q3c1_:YK K (.ref c1_) (.ref c3_)=some false)(q4c1_:YK K (.ref c1_) (.ref c4_)=some false)(qvc1_:YK K (.ref c1_) (.type "ValueError")=some true)(hic1_:(Value.ref c1_::bmc1_).contains (.ref b_)=true)(q0c2_:YK K (.ref c2_) (.ref c0_)=some false)(q1c2_:YK K (.ref c2_) (.ref c1_)=some false)(q2c2_:YK K (.ref c2_) (.ref c2_)=some true)(q3c2_:YK K (.ref c2_) (.ref c3_)=some false)(q4c2_:YK K (.ref c2_) (.ref c4_)=some false)(qvc2_:YK K (.ref c2_) (.type "ValueError")=some true)(hic2_:(Value.ref c2_::bmc2_).contains (.ref b_)=true)(chR:codeHdIn K qR T=true)(ktR:K.lookup T=none)(chF:codeHdIn K qF TF=true)(ktF:K.lookup TF=none)(chS:codeHdIn K qS TS=true)(ktS:K.lookup TS=none)(z1:PySem.W.nsIn K mainGlobals "len" = some none)(z2:PySem.W.nsIn K mainGlobals "isinstance" = some none)(z3:PySem.W.nsIn K mainGlobals "bool" = some none)(z4:PySem.W.nsIn K mainGlobals "int" = some none)(z5:PySem.W.nsIn K mainGlobals "tuple" = some none)(z6:PySem.W.nsIn K mainGlobals "list" = some none)(z7:PySem.W.nsIn K mainGlobals "range" = some none)(z8:PySem.W.nsIn K mainGlobals "zip" = some none)(z9:PySem.W.nsIn K mainGlobals "all" = some none)(z10:PySem.W.nsIn K mainGlobals "max" = some none)(z11:PySem.W.nsIn K mainGlobals "min" = some none)(z12:PySem.W.nsIn K mainGlobals "reversed" = some none)(z13:PySem.W.nsIn K mainGlobals "abs" = some none)(z14:PySem.W.nsIn K mainGlobals "dict" = some none)(z15:PySem.W.nsIn K mainGlobals "sorted" = some none)(z16:PySem.W.nsIn K mainGlobals "enumerate" = some none)(z17:PySem.W.nsIn K mainGlobals "sum" = some none)(z18:PySem.W.nsIn K mainGlobals "ValueError" = some none) :
 ∃(fd:FuncData),(∀(s:Shared) (v:Value),BindsTo s fd ⟨[v],[]⟩ [("_law_script",v)])/\(∀T0∈[TS,TF,T],K.lookup T0=none)/\(∀T0∈[TS,TF,T],∃c,codeHdIn K c T0=true)/\∀base:Heap,K.In base->base.Ns mainGlobals mg->VO mg base->Y6 l.prog w K mg base XB 15 fa fd ["_law_script"] (spLaw K T TF TS):=by
 obtain⟨f,fd,a,F⟩:=d49
 cases hfa.symm.trans (UO X G a)
 have nb0:Nb mg:=⟨YN X G z1,YN X G z2,YN X G z3,YN X G z4,YN X G z5,YN X G z6,YN X G z7,YN X G z8,YN X G z9,YN X G z10,YN X G z11⟩
 have nb2:Nb2 mg:=⟨nb0,YN X G z12,YN X G z13⟩
 have nb3:Nb3 mg:=⟨nb2,YN X G z14,YN X G z15⟩
 have nbE:NbE mg:=⟨nb3,YN X G z16⟩
 have nb:Nb4 mg:=⟨nb3,YN X G z17,YN X G z18⟩
 have hK:∀H:Hp,Y0 K H kk [.int 1,.int 2,.int 3]:=fun H=>.inr ⟨_,_,_,lk,rfl,rfl,by show 3<=sizeLine;decide,.cons ⟨_,rfl⟩ (.cons ⟨_,rfl⟩ (.cons ⟨_,rfl⟩ .nil))⟩
 have c_MOST_BALLS:∃u,mg "MOST_BALLS" = some u/\Zb (.int 12) u:=⟨u1,UO X G n1,e1⟩
 have c_FARTHEST:∃u,mg "FARTHEST" = some u/\Zb (.int 1000000000) u:=⟨u2,UO X G n2,e2⟩
 have c_MOST_STEPS:∃u,mg "MOST_STEPS" = some u/\Zb (.int 1000000) u:=⟨u3,UO X G n3,e3⟩
 have c_MOST_TO_FREE:∃u,mg "MOST_TO_FREE" = some u/\Zb (.int 60) u:=⟨u4,UO X G n4,e4⟩
 have c_KINDS:∃u,mg "KINDS" = some u/\Zb (.ref kk) u:=⟨u5,UO X G n5,e5⟩
 obtain⟨ab_,exb_⟩:=xb_
 have mb_:=UO X G ab_
 obtain⟨ac0_,exc0_⟩:=xc0_
 have mc0_:=UO X G ac0_
 obtain⟨ac1_,exc1_⟩:=xc1_
 have mc1_:=UO X G ac1_
 obtain⟨ac2_,exc2_⟩:=xc2_
 have mc2_:=UO X G ac2_
 obtain⟨ac3_,exc3_⟩:=xc3_
 have mc3_:=UO X G ac3_
 obtain⟨ac4_,exc4_⟩:=xc4_
 have mc4_:=UO X G ac4_
 have efc0_:Vx K c0_ bmc0_:=⟨exc0_,g1c0_,g2c0_,g3c0_,g4c0_,g5c0_⟩
 have efc1_:Vx K c1_ bmc1_:=⟨exc1_,g1c1_,g2c1_,g3c1_,g4c1_,g5c1_⟩
 have efc2_:Vx K c2_ bmc2_:=⟨exc2_,g1c2_,g2c2_,g3c2_,g4c2_,g5c2_⟩
 have efc3_:Vx K c3_ bmc3_:=⟨exc3_,g1c3_,g2c3_,g3c3_,g4c3_,g5c3_⟩
 have efc4_:Vx K c4_ bmc4_:=⟨exc4_,g1c4_,g2c4_,g3c4_,g4c4_,g5c4_⟩
 have kdc1_:Kind5 K c0_ c1_ c2_ c3_ c4_ c1_ 1:=⟨q0c1_,q1c1_,q2c1_,q3c1_,q4c1_,qvc1_,by decide⟩
 have kdc2_:Kind5 K c0_ c1_ c2_ c3_ c4_ c2_ 2:=⟨q0c2_,q1c2_,q2c2_,q3c2_,q4c2_,qvc2_,by decide⟩
 have er:Errs K mg b_ c0_ c1_ c2_ c3_ c4_:=⟨mb_,mc0_,mc1_,mc2_,mc3_,mc4_,⟨_,exb_⟩⟩
 have ki:∀C∈[c0_,c1_,c2_,c3_,c4_],YK K (.ref C) (.ref b_)=some true:=YL.mpr ⟨qbc0_,YL.mpr ⟨qbc1_,YL.mpr ⟨qbc2_,YL.mpr ⟨qbc3_,YL.mpr ⟨qbc4_,fun _ h0=>nomatch h0⟩⟩⟩⟩⟩
 have h_is_number:∀base,YR l.prog w K mg base 1 "is_number" ["thing","least","greatest"] spNum:=fun base=>d1.has X G fun F=>ok_is_number F nb0
 have h_is_rising:∀base,YR l.prog w K mg base 1 "is_rising" ["numbers"] spRise:=fun base=>d2.has X G fun F=>ok_is_rising F nb0
 have h_is_row:∀base,YR l.prog w K mg base 2 "is_row" ["thing"] U4:=fun base=>d3.has X G fun F=>ok_is_row F nb0 (h_is_number base) (h_is_rising base) c_MOST_BALLS c_FARTHEST
 have h_need_number:∀base,YR l.prog w K mg base 2 "need_number" ["thing","least","greatest"] spNeed:=fun base=>d4.has X G fun F=>ok_need_number F nb2 (h_is_number base)
 have h_mirrored:∀base,YR l.prog w K mg base 1 "mirrored" ["row"] spMir:=fun base=>d5.has X G fun F=>ok_mirrored F nb2
 have h_carry:∀base,YR l.prog w K mg base 1 "carry" ["row","size"] spCarry:=fun base=>d6.has X G fun F=>ok_carry F nb2
 have h_carry_back:∀base,YR l.prog w K mg base 2 "carry_back" ["row","size"] spBack:=fun base=>d7.has X G fun F=>ok_carry_back F nb2 (h_carry base) (h_mirrored base)
 have h_carried:∀base,YR l.prog w K mg base 2 "carried" ["row"] UM:=fun base=>d8.has X G fun F=>ok_carried F nb2 (h_carry base)
 have h_undone:∀base,YR l.prog w K mg base 3 "undone" ["row"] spUnd:=fun base=>d9.has X G fun F=>ok_undone F nb2 (h_carry_back base)
 have h_loads:∀base,YR l.prog w K mg base 1 "loads" ["row"] spLd:=fun base=>d10.has X G fun F=>ok_loads2 F nb3
 have h_closed_up:∀base,YR l.prog w K mg base 1 "closed_up" ["places","out"] spClosed:=fun base=>d11.has X G fun F=>ok_closed_up F nb0
 have h_peeled:∀base,YR l.prog w K mg base 2 "peeled" ["row"] spPeel:=fun base=>d12.has X G fun F=>ok_peeled F nb0 (h_closed_up base)
 have h_lengths_from:∀base,YR l.prog w K mg base 1 "lengths_from" ["counts"] spLf:=fun base=>d13.has X G fun F=>Sr F nb2
 have h_lengths:∀base,YR l.prog w K mg base 3 "lengths" ["row"] spLen:=fun base=>d14.has X G fun F=>ok_lengths F nb2 (h_peeled base) (h_lengths_from base)
 have h_blocks_in:∀base,YR l.prog w K mg base 1 "blocks_in" ["row"] Vr:=fun base=>d15.has X G fun F=>ok_blocks_in F nb2
 have h_runs_in:∀base,YR l.prog w K mg base 2 "runs_in" ["row"] spRuns:=fun base=>d16.has X G fun F=>ok_runs_in F nbE (h_blocks_in base)
 have h_first_short:∀base,YR l.prog w K mg base 1 "first_short" ["runs"] spFs:=fun base=>d17.has X G fun F=>ok_first_short F nbE
 have h_without_wave:∀base,YR l.prog w K mg base 1 "without_wave" ["runs","at"] spWo:=fun base=>d18.has X G fun F=>Ss F nbE
 have h_waves:∀base,YR l.prog w K mg base 3 "waves" ["row"] spWaves:=fun base=>d19.has X G fun F=>ok_waves F nbE (h_runs_in base) (h_first_short base) (h_without_wave base)
 have h_is_free:∀base,YR l.prog w K mg base 2 "is_free" ["row"] WH:=fun base=>d20.has X G fun F=>ok_is_free F nb2 (h_blocks_in base)
 have h_blocks:∀base,YR l.prog w K mg base 3 "blocks" ["row"] spBl:=fun base=>d21.has X G fun F=>ok_blocks F nb2 (h_is_row base) (h_is_free base) (h_blocks_in base)
 have hE_blocks:∀base,HasE l.prog w K mg base 3 "blocks" ["row"] (spBlE c1_):=fun base=>d21.hasE X G fun F=>ok_blocksE F nb2 (h_is_row base) (h_is_free base) (h_blocks_in base) mc1_ exc1_
 have h_free_later:∀base,YR l.prog w K mg base 4 "free_later" ["row","steps"] spFl:=fun base=>d22.has X G fun F=>ok_free_later F nb2 (h_blocks base) (h_need_number base) c_MOST_STEPS
 have hE_free_later:∀base,HasE l.prog w K mg base 4 "free_later" ["row","steps"] (spFlE1 c1_):=fun base=>d22.hasE X G fun F=>Sq F (hE_blocks base)
 have h_until_free:∀base,YR l.prog w K mg base 3 "until_free" ["row"] spUntil:=fun base=>d23.has X G fun F=>ok_until_free F nb2 (h_is_free base) (h_carried base) c_MOST_TO_FREE
 have hE_until_free:∀base,HasE l.prog w K mg base 3 "until_free" ["row"] (VX c2_):=fun base=>d23.hasE X G fun F=>ok_until_freeE F nb2 (h_is_free base) (h_carried base) c_MOST_TO_FREE mc2_ exc2_
 have h_steps_to_free:∀base,YR l.prog w K mg base 4 "steps_to_free" ["row"] spSteps:=fun base=>d24.has X G fun F=>SY F nb2 (h_until_free base)
 have hE_steps_to_free:∀base,HasE l.prog w K mg base 4 "steps_to_free" ["row"] (VX c2_):=fun base=>d24.hasE X G fun F=>TH F (hE_until_free base)
 have h_is_ball:∀base,YR l.prog w K mg base 2 "is_ball" ["thing"] spBall:=fun base=>d25.has X G fun F=>ok_is_ball F nb0 (h_is_number base) c_KINDS hK
 have h_is_motley:∀base,YR l.prog w K mg base 3 "is_motley" ["thing"] spMt:=fun base=>d26.has X G fun F=>ok_is_motley F nb0 (h_is_ball base) (h_is_row base)
 have h_put_in:∀base,YR l.prog w K mg base 1 "put_in" ["lists","kind"] spPutIn:=fun base=>d27.has X G fun F=>ok_put_in F nbE
 have h_staying:∀base,YR l.prog w K mg base 2 "staying" ["motley"] spStay:=fun base=>d28.has X G fun F=>ok_staying F nbE (h_put_in base)
 have h_L_cell_at:∀base,YR l.prog w K mg base 1 "_law_cell_at" ["_law_script","_law_k"] (spCell K):=fun base=>d29.has X G fun F=>ok_L_cell_at F nb0
 have h_L_state:∀base,YR l.prog w K mg base 2 "_law_state" ["_law_script","_law_k"] (spState K):=fun base=>d30.has X G fun F=>ok_L_state F nb0 (h_L_cell_at base)
 have h_L_take:∀base,YR l.prog w K mg base 1 "_law_take" ["_law_state_here","_law_many"] (Tl K):=fun base=>d31.has X G fun F=>ok_L_take F nb0
 have h_L_carried:∀base,YR l.prog w K mg base 1 "_law_carried" ["_law_row"] UM:=fun base=>d33.has X G fun F=>ok_L_carried F nb3
 have h_L_turned:∀base,YR l.prog w K mg base 1 "_law_turned" ["_law_row"] spMir:=fun base=>d34.has X G fun F=>ok_L_turned F nb3
 have h_L_undone:∀base,YR l.prog w K mg base 2 "_law_undone" ["_law_row"] spUnd:=fun base=>d35.has X G fun F=>ok_L_undone F nb3 (h_L_turned base) (h_L_carried base)
 have h_L_blocks:∀base,YR l.prog w K mg base 1 "_law_blocks" ["_law_row"] Vr:=fun base=>d36.has X G fun F=>ok_L_blocks F nb
 have h_L_is_free:∀base,YR l.prog w K mg base 2 "_law_is_free" ["_law_row"] WH:=fun base=>d37.has X G fun F=>ok_L_is_free F nb (h_L_blocks base)
 have h_L_boxes:∀base,YR l.prog w K mg base 1 "_law_boxes" ["_law_row"] spBoxes:=fun base=>d38.has X G fun F=>ok_L_boxes F nbE
 have h_L_runs:∀base,YR l.prog w K mg base 1 "_law_runs" ["_law_boxes_here"] spRn:=fun base=>d39.has X G fun F=>ok_L_runs F nbE
 have h_L_due:∀base,YR l.prog w K mg base 2 "_law_due" ["_law_row"] spDue:=fun base=>d40.has X G fun F=>ok_L_due F nbE (h_L_boxes base) (h_L_runs base)
 have hn_L_same:∀base n,YR l.prog w K mg base n "_law_same" ["_law_found","_law_due_here"] (UD n):=fun base n=>by
  induction n with
  |zero=>exact d41.has X G fun F=>none_left
  |succ n ih=>exact d41.has X G fun F=>ok_L_same F nb2 ih
 have h_L_same:=fun base=>hn_L_same base 4
 have hn_L_put:∀base n,YR l.prog w K mg base n "_law_put" ["_law_lists","_law_number"] (spPut n):=fun base n=>by
  induction n with
  |zero=>exact d44.has X G fun F=>none_put
  |succ n ih=>exact d44.has X G fun F=>ok_L_put F nbE ih
 have h_L_put:=fun base=>hn_L_put base 13
 have h_L_loads:∀base,YR l.prog w K mg base 1 "_law_loads" ["_law_row"] spLd:=fun base=>d42.has X G fun F=>ok_L_loads F nb3
 have h_L_nearly_free:∀base,YR l.prog w K mg base 2 "_law_nearly_free" ["_law_state_here"] spNear:=fun base=>d43.has X G fun F=>SW F nb2 (h_L_take base)
 have h_L_near:∀base,YR l.prog w K mg base 2 "_law_near" ["_law_state_here"] spNw:=fun base=>d45.has X G fun F=>ok_L_near F nb2 (h_L_take base)
 have h_L_lengths:∀base,YR l.prog w K mg base 1 "_law_lengths" ["_law_row"] spLl:=fun base=>d46.has X G fun F=>ok_L_lengths F nb3
 have h_L_steps:∀base,YR l.prog w K mg base 3 "_law_steps" ["_law_row"] spStp:=fun base=>d48.has X G fun F=>ok_L_steps F nb2 (h_L_is_free base) (h_L_carried base)
 have h_ref:HasR l.prog w K mg 6 5 "_law_refused" "_law_call" Rn (Ec K b_ c0_ c1_ c2_ c3_ c4_):=d32.hasR X G fun F _=>ok_L_refused F nb er
 have h_again:HasA S3 l.prog w K mg 5 4 "_law_again" "_law_call" "_law_due_here":=d47.hasA X G fun F base=>ok_L_again F nb (h_L_same base)
 refine⟨fd,fun s v=>(by obtain⟨_,_,_,_,_,_,_,_,_,rfl,_⟩:=F.ex;exact .of_eq rfl),(YL.mpr ⟨ktS,YL.mpr ⟨ktF,YL.mpr ⟨ktR,fun _ h0=>nomatch h0⟩⟩⟩),(YL.mpr ⟨⟨_,chS⟩,YL.mpr ⟨⟨_,chF⟩,YL.mpr ⟨⟨_,chR⟩,fun _ h0=>nomatch h0⟩⟩⟩),fun base kb _ Bl=>?_⟩
 have h_L_row_right:YR l.prog w K mg base 7 "_law_row_right" ["_law_row"] (spRr T):=dR.has X G fun F hc=>ok_L_row_right F nb (h_carried base) (h_L_carried base) (h_undone base) (h_L_undone base) (h_lengths base) (h_L_lengths base) (h_L_due base) (h_is_free base) (h_L_is_free base) (h_blocks base) (h_L_blocks base) (h_L_steps base) (h_L_same base) (h_steps_to_free base) h_ref h_again h_waves hE_steps_to_free hc (codeHd_of_K kb chR) Bl efc2_ hic2_ kdc2_
 have h_L_far_right:YR l.prog w K mg base 7 "_law_far_right" ["_law_state_here"] (spFr TF):=dF.has X G fun F hc=>ok_L_far_right F nb (h_L_nearly_free base) (h_L_take base) (h_L_is_free base) (h_L_blocks base) (h_L_same base) (h_free_later base) h_ref hE_free_later hc (codeHd_of_K kb chF) Bl efc1_ hic1_ kdc1_
 have h_L_sizes_right:YR l.prog w K mg base 14 "_law_sizes_right" ["_law_state_here","_law_row"] (spSz TS):=dS.has X G fun F hc=>SX F nb (h_L_take base) (h_is_row base) (h_is_motley base) (h_L_put base) (h_L_loads base) h_again h_staying h_loads hc (codeHd_of_K kb chS) Bl er efc0_ efc1_ efc2_ efc3_ efc4_ ki
 exact ok_law F nb (h_L_state base) (h_L_near base) h_L_row_right h_L_far_right h_L_sizes_right
theorem walk {l:PySem.W.OpenLaw}{q:Program}{loose:List Str}{XP:(Str->Option Value)->Heap->Prop}{YP:World->Heap->Prop}{d:DefRec}{K:Params->W.Frag}{T TF TS:Addr}(hn:l.most=some 63)(hdf:d.params.defaults=[])(hY:∀(w:World) (h:Heap),YP w h->(K w.params).In h/\∀T0∈[TS,TF,T],h.get? T0=some (tabObj #[]))(n1:T≠TF)(n2:T≠TS)(n3:TF≠TS)(F:∀(w:World) (mg:Str->Option Value) (fa:Addr) (h:Heap),(K w.params).In h->h.Ns mainGlobals mg->mg d.name=some (.ref fa)->
  ∃(fd:FuncData),(∀(s:Shared) (v:Value),BindsTo s fd ⟨[v],[]⟩ [("_law_script",v)])/\(∀T0∈[TS,TF,T],(K w.params).lookup T0=none)/\(∀T0∈[TS,TF,T],∃c,codeHdIn (K w.params) c T0=true)/\∀base:Heap,(K w.params).In base->base.Ns mainGlobals mg->VO mg base->Y6 l.prog w (K w.params) mg base XB 15 fa fd ["_law_script"] (spLaw (K w.params) T TF TS)) :
 PySem.W.WalkO q loose XP YP l.row.toRowW d [] (fun f vs=>PySem.call f vs):=
 L2.walk_ofTs (n:=63) (k:=15) (x:="_law_script") (sp:=fun w=>spLaw (K w.params) T TF TS) hn (by decide) hdf ⟨rfl,by decide,by decide⟩ hY F (fun _ _ a ns hl hT hS=>⟨a,ns,rfl,hS,hl,hT T (by simp),hT TF (by simp),hT TS (by simp),n1,n2,n3,fun _=>rfl⟩)
end K97
namespace PySem.Challenge.cw_boxballs_k97_whole_many_blocks_and_far_r_holds
def tw12285208729949556485:=()
def tw9996000790162827164:=()
def tw7036582502550967627:=()
def tw5168190347554737076:=()
def tw5476619102167800730:=()
def tw14426931078682738492:=()
def tw8183406106895939508:=()
def tw1333122588757319406:=()
def tw13834723312818166162:=()
def tw9311614092108132353:=()
def tw14811849131147280082:=()
def tw3967909143122131861:=()
def tw2840479964679951250:=()
def tw12491458341499977493:=()
def tw11233140352679358331:=()
def tw13994410701571767740:=()
def tw8030253719403415355:=()
def tw15987834254397483499:=()
def tw10689431015609605525:=()
def tw16896744254339887436:=()
def tw7327104433729985430:=()
def tw1222650465414665222:=()
def tw9428211608656008526:=()
def tw14661738606528812679:=()
def tw2261366883787014576:=()
def tw10197206972823312938:=()
def tw13557800706156888877:=()
def tw531830441556053162:=()
def tw14488770836472612021:=()
def tw2711316911126081939:=()
def tw9927608664713561767:=()
def tw17681290503375527732:=()
def tw15952685251881244229:=()
def tw8001082605696245026:=()
def tw5415160334523026245:=()
def tw636524976731357224:=()
def tw1617307207269051856:=()
def tw14940891951483594046:=()
def tw5374882393295840813:=()
def tw12044829494068566510:=()
def tw18324512835402753867:=()
def tw4248456279587407421:=()
def tw2568358626800314028:=()
def tw395660724152960496:=()
def tw3989701207671473031:=()
def tw2074736185869071300:=()
def tw13786973885831305149:=()
def tw9718283867342122378:=()
def tw5086765883506340218:=()
def tw5167572558546036429:=()
def tw5304355079189181971:=()
def tw5528247718727430939:=()
def tw12040706179228093575:=()
def tw14411340992397222187:=()
def tw12052180676662500055:=()
def tw3744850879461035880:=()
def tw15937335946439619258:=()
def tw11527112278573456713:=()
def tw12343044396678402335:=()
def tw9091689736876134416:=()
def tw5505768942659132726:=()
def tw6749096404816764226:=()
def tw3965701958248870547:=()
def tw3511216670047884867:=()
def tw5151213467953986755:=()
def tw6953674789023255721:=()
def tw13072420512348057764:=()
def tw4132762712286294448:=()
def tw8567169192471644905:=()
def tw868848252136578547:=()
def tw3462239752231080532:=()
def tw2828409068069233386:=()
def tw8460615162850231509:=()
def tw13383037598060880212:=()
def tw5464595214901833049:=()
def tw6340043803822289947:=()
def tw10658537784325933899:=()
def tw12695177143234654101:=()
def tw13585607396723309885:=()
def tw12100432501107464267:=()
def tw5953205859563856534:=()
def tw4988386031050392632:=()
def tw3005537673696144585:=()
def tw13707227461809942285:=()
def tw7568640418812001862:=()
def tw14071578077699468535:=()
def tw17668402982652863941:=()
def tw17290039715915101413:=()
def tw257271145012969301:=()
def tw11154123788000101408:=()
def tw16055045203858485411:=()
def tw8687760404407314106:=()
def tw1590319031572785452:=()
def tw15393080189188203592:=()
def tw6150552176837647179:=()
def tw8300535098207071272:=()
def tw8665136899992187461:=()
def tw4340921127337925737:=()
def tw13229587607437461992:=()
def tw8512070915614559128:=()
def tw16421172645647966706:=()
def tw2631635336523954883:=()
def tw10979653549013980158:=()
def tw11471614737706010258:=()
def tw1133250842165599131:=()
def tw2945563527622296961:=()
def tw14376130637554284863:=()
def tw17996725119201164031:=()
def tw8067408586110703759:=()
def tw7628485118369209778:=()
def tw8476038258669268925:=()
def tw13736999423932305918:=()
def tw5732526284009416350:=()
def tw1441538697730117090:=()
def tw15422510941203123926:=()
def tw10544312620640111100:=()
def tw16117857879843763629:=()
def tw13672765040065342753:=()
def tw2838565960491825204:=()
def tw620225078067891490:=()
def tw2158462466179009613:=()
def tw16735058175058282402:=()
def tw1159906244601838628:=()
def tw3272356690777518139:=()
def tw10998566638206966064:=()
def tw3488189615310695840:=()
def tw2259366410971948435:=()
def tw15070199958299832587:=()
def tw5466727472215208261:=()
def tw10238285599375062496:=()
def tw9424951740301247762:=()
def tw760971964887630925:=()
def tw12219567941817395285:=()
def tw15009629759081772749:=()
def tw6653027985941001959:=()
def tw10877493789422992177:=()
def tw9078990268034579941:=()
def tw7731975281445479411:=()
def tw9698235593915457073:=()
def tw1353008092335027800:=()
def tw8549771668396571974:=()
def tw6880568664448461767:=()
def tw9101943250798461729:=()
def tw11130708593500544106:=()
def tw9751170440436467137:=()
def tw8399342587625385232:=()
def tw13077185922273330094:=()
def tw12072565299655636295:=()
def tw18030539955452939268:=()
def tw13275079708027902102:=()
def tw2822773971807487814:=()
def tw18162882130760409682:=()
def tw14515772655899919018:=()
def tw853496922802214669:=()
def tw3258163174268036442:=()
def tw2717402404927031097:=()
def tw1725848128008861225:=()
def tw13631641527249669927:=()
def tw8777600118260760622:=()
def tw14530333304584033426:=()
def tw3481162883834228355:=()
def tw16302308022260321755:=()
def tw16142966941393314162:=()
def tw5718116988116693307:=()
def tw16219580510344795682:=()
def tw14766491746206944840:=()
def tw5307017861826827538:=()
def tw13174612088963733580:=()
def tw6754006305785878544:=()
def tw139384560516136914:=()
def tw11774241998349914249:=()
def tw4915299895449686625:=()
def tw15113025664980409566:=()
def tw3106078093669436430:=()
def tw5642070116330194178:=()
def tw17745999439152855853:=()
def tw12116655615501683503:=()
def tw3604362487119797472:=()
def tw5514279849430105224:=()
def tw9415406642003004082:=()
def tw15407374891804579179:=()
def tw18274150089564629605:=()
def tw4540844880315508708:=()
def tw15406948324789687853:=()
def tw9653619516995551553:=()
def tw15125160129313913382:=()
def tw7784507450393903536:=()
def tw529508062975306928:=()
def tw17806219486792560486:=()
def tw2446608623955474593:=()
def tw5686494734653900126:=()
def tw10201651016103006018:=()
def tw11175587180884308901:=()
def tw387253356194642726:=()
def tw3187404065832983590:=()
def tw1866837841577121043:=()
def tw1384767566410050544:=()
def tw5858294546063814108:=()
def tw17107633663551260840:=()
def tw15203858143961726405:=()
def tw8113426526531010585:=()
def tw3278038098195061479:=()
def tw10736119345043321954:=()
def tw1836376975725757048:=()
def tw1694673561791208295:=()
def tw4013721536955120225:=()
def tw16723214099304671182:=()
def tw12066531208008799631:=()
def tw10974468956469405987:=()
def tw2917570289534545589:=()
def tw883568117665677381:=()
def tw14976040561438992165:=()
def tw17387413487472038652:=()
def tw13773691361137562351:=()
def tw3562285632833382082:=()
def tw16019386024505337286:=()
def tw1583954927834307660:=()
def tw14531424134938296984:=()
def tw3419045417091596256:=()
def tw5627110930172254281:=()
def tw10570336450021239460:=()
def tw14509164526128744454:=()
def tw14315958735559420206:=()
def tw15900588798268431514:=()
def tw10122604895066901585:=()
def tw758569544157133775:=()
def tw18023324255454238380:=()
def tw17974261445648521256:=()
def tw987403470504421767:=()
def tw15150257951081104525:=()
def tw16611267749675484176:=()
def tw6290147907584320760:=()
def tw9789334831428044014:=()
def tw7340780148941115563:=()
def tw12244724478633132613:=()
def tw15067938540507880648:=()
def tw427029424146906215:=()
def tw13689760505478752595:=()
def tw13054274966157949791:=()
def tw717279236289740278:=()
end PySem.Challenge.cw_boxballs_k97_whole_many_blocks_and_far_r_holds
set_option Elab.async true
open PySem PySem.W PyProof.Rows
set_option maxHeartbeats 0 in
theorem PySem.Challenge.cw_boxballs_k97_whole_many_blocks_and_far_r_holds : PySem.Challenge.rw_boxballs_k97_whole_many_blocks_and_far_r.Holds := by
 w_on;o_law;k_head;(case hw=>w_witness2)
 k_fill
 refine K97.walk (l:=PySem.Challenge.rw_boxballs_k97_whole_many_blocks_and_far_r) rfl rfl (fun w h Y=>⟨PySem.W.km_in_of Y,List.forall_mem_cons.mpr ⟨PySem.W.km_tabs_of Y _ (.head _),List.forall_mem_cons.mpr ⟨PySem.W.km_tabs_of Y _ (.tail _ (.head _)),List.forall_mem_cons.mpr ⟨PySem.W.km_tabs_of Y _ (.tail _ (.tail _ (.head _))),fun _ h0=>nomatch h0⟩⟩⟩⟩) ?n1 ?n2 ?n3 ?F
 case n1=>decide
 case n2=>decide
 case n3=>decide
 case F=>
  intro w mg fa h KX G hmg
  refine' K97.all_mk KX G hmg ?d1 ?d2 ?d3 ?d4 ?d5 ?d6 ?d7 ?d8 ?d9 ?d10 ?d11 ?d12 ?d13 ?d14 ?d15 ?d16 ?d17 ?d18 ?d19 ?d20 ?d21 ?d22 ?d23 ?d24 ?d25 ?d26 ?d27 ?d28 ?d29 ?d30 ?d31 ?d32 ?d33 ?d34 ?d35 ?d36 ?d37 ?d38 ?d39 ?d40 ?d41 ?d42 ?d43 ?d44 ?d45 ?d46 ?d47 ?d48 ?d49 ?dR ?dF ?dS ?n1 ?e1 ?n2 ?e2 ?n3 ?e3 ?n4 ?e4 ?n5 ?e5 ?lk ?xb_ ?xc0_ ?xc1_ ?xc2_ ?xc3_ ?xc4_ ?g1c0_ ?g2c0_ ?g3c0_ ?g4c0_ ?g5c0_ ?qbc0_ ?g1c1_ ?g2c1_ ?g3c1_ ?g4c1_ ?g5c1_ ?qbc1_ ?g1c2_ ?g2c2_ ?g3c2_ ?g4c2_ ?g5c2_ ?qbc2_ ?g1c3_ ?g2c3_ ?g3c3_ ?g4c3_ ?g5c3_ ?qbc3_ ?g1c4_ ?g2c4_ ?g3c4_ ?g4c4_ ?g5c4_ ?qbc4_ ?q0c1_ ?q1c1_ ?q2c1_ ?q3c1_ ?q4c1_ ?qvc1_ ?hic1_ ?q0c2_ ?q1c2_ ?q2c2_ ?q3c2_ ?q4c2_ ?qvc2_ ?hic2_ ?chR ?ktR ?chF ?ktF ?chS ?ktS ?z1 ?z2 ?z3 ?z4 ?z5 ?z6 ?z7 ?z8 ?z9 ?z10 ?z11 ?z12 ?z13 ?z14 ?z15 ?z16 ?z17 ?z18
  (case d1|d2|d3|d4|d5|d6|d7|d8|d9|d10|d11|d12|d13|d14|d15|d16|d17|d18|d19|d20|d21|d22|d23|d24|d25|d26|d27|d28|d29|d30|d31|d32|d33|d34|d35|d36|d37|d38|d39|d40|d41|d42|d43|d44|d45|d46|d47|d48|d49=>(refine' L2.din ?a ?l ?c ?k;(case a|l|c|k=>k_is)))
  (case dR|dF|dS=>(refine' L2.dinC ?a ?l ?c ?k;(case a|l|c|k=>k_is)))
  (case n1|n2|n3|n4|n5=>k_is)
  (case e1|e2|e3|e4=>exact⟨_,rfl⟩)
  (case e5=>exact rfl)
  (case lk=>k_is)
  (case xb_|xc0_|xc1_|xc2_|xc3_|xc4_=>(refine' L2.xin ?a ?lk ?no ?ni ?tl ?cb ?cv;(case a=>k_is);(case lk=>k_is);(case no=>kernel_rfl);(case ni=>k_is);(case tl=>kernel_rfl);(case cb=>first | k_is | decide | rfl);(case cv=>first | k_is | decide | rfl)))
  (case g1c0_|g2c0_|g3c0_|g4c0_|g5c0_=>k_is)
  (case qbc0_=>kernel_rfl)
  (case g1c1_|g2c1_|g3c1_|g4c1_|g5c1_=>k_is)
  (case qbc1_=>kernel_rfl)
  (case g1c2_|g2c2_|g3c2_|g4c2_|g5c2_=>k_is)
  (case qbc2_=>kernel_rfl)
  (case g1c3_|g2c3_|g3c3_|g4c3_|g5c3_=>k_is)
  (case qbc3_=>kernel_rfl)
  (case g1c4_|g2c4_|g3c4_|g4c4_|g5c4_=>k_is)
  (case qbc4_|q0c1_|q1c1_|q2c1_|q3c1_|q4c1_|qvc1_=>kernel_rfl)
  (case hic1_=>first | k_is | decide | rfl)
  (case q0c2_|q1c2_|q2c2_|q3c2_|q4c2_|qvc2_=>kernel_rfl)
  (case hic2_=>first | k_is | decide | rfl)
  (case chR|ktR|chF|ktF|chS|ktS=>kernel_rfl)
  (case z1|z2|z3|z4|z5|z6|z7|z8|z9|z10|z11|z12|z13|z14|z15|z16|z17|z18=>k_is)
